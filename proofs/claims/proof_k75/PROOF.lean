import PyProof.Rows.All
import Wide.All
import OpenK.AllK
import Wide.FinOn
import Lean
import PyProof.EqAt
import PyProof.EqKinds
import PyProof.TupleCall
import PySem.Challenge.RW_onceround_k75_desk_refused
open Array renaming length_toList->bh,getD_eq_getD_getElem?->gm,getElem?_toList->jf,getElem?_eq_getElem->lc,eq_empty_of_size_eq_zero->mw,append_assoc->n6,size_map->ou,getElem?_eq_some_iff->ox,toList_push->pd,toList_extract->si,find?_toList->tj,forIn_toList->ue,replicate->vi,getD->vq,toList->wn
open Bool renaming false_ne_true->ag,eq_iff_iff->cu,and_eq_true->cz,false_eq_true->dm,and_false->ij,or_false->jm,or_eq_true->kf,eq_false_iff->km,not_eq_true'->o9,not_true->pi,or_true->qh,beq_eq_decide_eq->rc,false_and->rj,and_comm->wj
open Classical renaming byContradiction->ba,choose->k8,choose_spec->rb
open Int renaming toNat_natCast->bj,emod_lt_of_pos->c9,emod_nonneg->du,mul_assoc->dv,natAbs_natCast->fm,natCast_mul->fo,mul_comm->g8,mul_zero->g9,zero_add->iz,one_mul->jz,natCast_add->kc,mul_le_mul_of_nonneg_right->mn,mul_one->mz,mul_le_mul_of_nonneg_left->m7,toNat_of_nonneg->nq,zero_sub->nr,sub_zero->nu,fdiv_eq_ediv_of_nonneg->n8,natAbs_mul->oh,sub_mul->o0,dvd_mul_of_dvd_right->pe,dvd_mul_of_dvd_left->pk,zero_mul->qf,mul_add->r6,dvd_neg->r8,natCast_nonneg->uf,natAbs_eq_zero->uh,add_zero->um,dvd_mul_right->uo,natAbs_sub_le->ur,neg_mul->u9,dvd_add->va
open List renaming length_map->aR,getElem?_eq_getElem->aa,getElem?_map->ah,length_append->ai,size_toArray->aj,getD_eq_getElem?_getD->ak,mem_cons_of_mem->al,getElem?_eq_some_iff->ao,map_cons->ap,mem_cons_self->aq,length_cons->ar,mem_cons->au,mem_map->aw,mem_singleton->ax,mem_of_getElem?->ay,map_append->a7,length_eq_zero_iff->a8,mem_append_right->bf,mem_append->br,range->bt,length_drop->bu,map_map->bv,map_congr_left->b8,take_of_length_le->b9,mem_filter->cb,length_take->cj,mem_range->ck,length_singleton->cm,take_add_one->cn,replicate->cp,length_range->cq,take_length->cr,nodup_cons->cx,sum_cons->cy,getElem?_eq_none->c8,append_nil->da,filter_cons_of_neg->db,length_filter_le->df,getElem_mem->dk,filter_cons_of_pos->dq,length_pos_iff->dt,getElem?_append_right->dw,all_eq_true->dz,perm_ext_iff_of_nodup->d7,append_assoc->d8,exists_mem_of_length_pos->eg,getElem?_append_left->eh,replicate_succ->fe,filter_sublist->ff,nodup_append->fg,flatMap_cons->fi,length_pos_of_mem->ft,filter_cons->fu,not_mem_nil->fz,lt_irrefl->gf,dropLast_concat_getLast->gh,filter_filter->gi,mem_append_left->gj,mem_map_of_mem->gt,lookup->gu,pairwise_cons->gz,length_eraseIdx->ig,getElem?_of_mem->ii,drop_append_of_le_length->ik,nodup_nil->il,filter_congr->im,filterMap_cons->ir,filter_eq_nil_iff->iy,length->i6,map_drop->i7,cons_append->i8,take_zero->jc,exists_mem_of_ne_nil->jg,find?_cons->jh,flatten_cons->ji,pairwise_map->jj,perm_cons_erase->jk,getElem?_take_of_lt->jl,filterMap_cons_some->jp,map_take->jq,eraseIdx_eq_take_drop_succ->js,filter_eq_self->jv,lookup_cons->jx,getElem?_set_self->j3,pairwise_lt_range->j7,filter_append->j8,length_set->j9,take_append_drop->ki,idxOf_lt_length_of_mem->kl,getElem?_set_ne->kr,length_dropLast->ku,drop_zero->kz,getElem_toArray->k7,drop_eq_getElem_cons->lb,length_erase_of_mem->lg,filterMap_cons_none->li,range_succ->ll,length_nil->lm,mem_filterMap->ln,getElem?_drop->lq,map_id->lu,take_sublist->ly,map_nil->lz,ext_getElem?->l7,getElem?_eraseIdx->l8,count_append->l9,eraseIdxIfInBounds_toArray->ma,cons_lt_cons_iff->me,perm_append_comm->mf,mem_iff_getElem?->mh,getElem?_toArray->mj,getElem?_zipWith->ml,dropLast_eq_take->mm,flatMap_map->mq,eq_nil_iff_forall_not_mem->mr,any_cons->mx,take_append_of_le_length->m8,mem_of_mem_drop->m9,sum_append->ng,filter_nil->nj,getElem?_tail->ol,perm_append_singleton->oo,length_eraseIdx_of_lt->oq,zip->oy,foldl_append->o8,idxOf_lt_length_iff->pf,mem_flatMap->pw,countP_cons->p0,zipWith->qm,map_id'->qo,of_mem_zip->qr,foldl_cons->qt,nil_append->qy,length_replicate->ra,eraseIdx_sublist->rf,mem_erase_of_ne->sd,flatMap_append->sv,length_zipWith->sw,all_cons->sx,foldl->tm,getElem_idxOf->tz,flatMap_assoc->t7,find?_eq_none->uc,contains_cons->ug,set_cons_succ->ui,reverse_perm->ut,find?_append->uw,drop_sublist->uy,prefix_refl->u6,any_eq_true->u7,not_lt->u8,count_cons->vg,find?_some->vh,lt_trans->wm,all_map->wo
open List.Pairwise renaming imp_of_mem->jo,imp₂->wt,nil->wu
open List.Perm renaming refl->ej,append_left->kh,trans->qw,swap->vp
open List.Sublist renaming refl->ux
open List.cons renaming inj->wl
open Nat renaming le_refl->af,ne_of_lt->az,le_trans->a5,lt_of_lt_of_le->bi,zero_le->cc,mul_comm->c7,pow_le_pow_right->dj,mul_assoc->d9,min_eq_left->er,lt_irrefl->e9,lt_or_ge->fh,lt_succ_of_lt->fj,lt_of_le_of_lt->fk,lt_of_succ_lt->ge,mul_le_mul_right->gk,ne_of_gt->gn,pow_succ->gr,le_succ->gv,lt_succ_self->gx,mod_eq_of_lt->gy,add_mul->ib,mul_le_mul->ic,one_mul->ie,le_of_lt->iw,zero_add->ix,sub_add_cancel->jb,mod_lt->jn,mul_le_mul_left->jt,gcd->ju,le_add_right->jy,pow_add->j2,add_comm->j4,dvd_of_mod_eq_zero->j6,div_add_mod->ke,gcd_dvd_right->kj,pow_mul->kx,mul_mod->ky,add_zero->k9,add_le_add_left->le,pow_pos->lr,succ_mul->l6,pow_lt_pow_right->m6,pos_of_ne_zero->oj,add_assoc->ph,mul_div_cancel_left->pq,div_eq_of_lt->p7,le_of_eq->qc,pow_zero->qg,sub_self->qi,sub_zero->qj,div_le_self->qv,gcd_rec->se,mul_one->sf,div_lt_of_lt_mul->sh,add_sub_cancel->tu,mod_mod_of_dvd->tw,not_lt->ua,add_right_comm->ub,zero_mul->ul,lt_trans->uq,mul_left_comm->uu,succ_pos->uv,min_le_right->u4,pow_mod->vb,mod_mod->vc,mul_add->vd,gcd_le_left->vf,le_of_dvd->wg
open Option renaming map_eq_some_iff->bz,isSome_iff_exists->g7,map_some->iq,isSome_map->pb,map->ud,getD_none->u5
open Option.some renaming inj->av
open PyProof.Rows renaming boot_isinstance->et,boot_sorted->fb,callWith_type1->gl,slot_tuple_getitem->jr,SetOf_congr->lh,setObjOf_fresh->nw,boot_sum->re
open PyProof.Rows.F renaming plain_set_update_loop->dh,entry_set_update_loop->gb
open PySem renaming boot_len->bc,Scope->di,strKind->fq,mem_of_lookup->iu,Within->uj,call->vo,frameOf->wk,Shared->kw,FuncData->wh,Program->xv
open PySem.AutoSeq1 renaming list_insert_list_int_val_1->qz
open PySem.Challenge renaming pw_onceround_k75_desk_refused->pj
open PySem.EqMixed renaming eq_bool_str->vw,eq_str_bool->vx,ne_bool_str->vy,ne_str_bool->vz,eq_int_str->wa,eq_str_int->wb,ne_int_str->wc,ne_str_int->we
open PySem.F renaming plainAttrs_list->de,slot_list_append->h9,type_list_append->ia,excBase_ValueError->k6,slot_list_count->lv,slot_dict_pop->mi,slot_dict_setdefault->nh,args_dict_pop_3->p8,plainAttrs_dict->qa,type_list_count->qb,entry_dict_pop->ql,slot_list_pop->rg,type_list_pop->rh
open PySem.NameKind renaming «local»->am,globalImplicit->a9,free->bn
open PySem.ScopeKind renaming function->a6
open PySem.Str renaming ofString->ae
open PySem.StrLaws renaming seqIndex_nonneg->ve
open PySem.W renaming Frag->ac,nsIn->bo,findIn->bx,mg_of->cg,mg_none_of->dg,keepIn->dl,fnOf->ei,emptyDict->gc,kitOne->gg,hasDictIn->gq,hideAll_get->gs,instObj->ip,callWith_K->i9,codeIn->ja,exmOne->jd,methodCall_KW->je,plainGet->jw,excIn->kg,specialIn->ko,mroIn->lj,isFn->lw,plainOver->lx,hideAll_none->my,makesIn->nc,plainGet_of->nk,of_hideAll->nz,lookIn->n9,isNs_of_in->om,methodObj->oz,cellsFrom_some->qd,funFrames_hide->qk,hideAll->qp,takerIn->qq,OpenLaw->qu,takesIn->q5,InstAt->rl,typeIn->rn,looks_findIn->rq,kitAny->sj,callWith_K0->sr,Looks->sy,clsIn->tf,tail_of_in->t8,set_plain->uk,handedIn->uz,exm_one->vj,readsIn->vk,findCls->vn,nsOkIn->vt,notCls->vv,WalkO->wf
open PySem.W.Looks renaming here->wq,ld->wv
open Std.Trichotomous renaming trichotomous->m4
open Sum renaming inr->cf,inl->sq
open Sum.inr renaming inj->kq
section
open PySem PySem.Spec PyProof.Rows PySem.W
def AA:=@wpAny_bind
def AB:=@wpAny_pure
def AC:=@if_neg
def AD:=@if_pos
def AE:=@decide_eq_true
def AF:=@of_decide_eq_true
def AG:=@sizeLine_eq
def AH:=@decide_eq_false
def AI:=@decide_eq_true_iff
def AJ:=@wpAny_mono
def AK:=@beq_iff_eq
def AL:=@wpAny_setState_of
def AM:=@wpAny_holding
def AN:=@wpAny_newObj_type
def AO:=@codeAny_builtin
def AQ:=@codeAny_mono
def AR:=@codeAny_call_builtin
def AS:=@wpAny_call_entry
def AT:=@Heap.get?_push_of_some
def AU:=@Heap.get?_push_size
def AV:=@Heap.lt_size
def AW:=@Heap.get?_update_self
def AX:=@Heap.get?_update_other
def AY:=@wpAny_of_eq
def AZ:=@wpAny_call
def A0:=@wpAny_execs_nil
def A1:=@wpAny_truthy_bool
end
set_option genSizeOfSpec false
set_option bootstrap.genMatcherCode false
set_option Elab.async false
set_option linter.all false
set_option maxRecDepth 100000
set_option maxHeartbeats 4000000
noncomputable section
namespace L2
open PySem PySem.Spec PyProof.Rows
abbrev Key:=Sum Int Str
def uL:Key->Value->Bool
 | .inl k,v=>Value.isInt k v
 | .inr x,v=>Value.isStrOf x v
def aBI (w:World):Key->Int
 | .inl k=>hashInt k
 | .inr x=>hashStr w x
theorem cT:∀ {k:Key} {v:Value},uL k v=true->(∃ i t,k=sq i∧v=Value.int i t)∨(∃ x t,k=cf x∧v=Value.str x t)
 | .inl i,v,h=>by
  obtain⟨t,e⟩:=Value.isInt_shape (k:=i) (v:=v) h;exact .inl ⟨i,t,rfl,e⟩
 | .inr x,v,h=>by
  obtain⟨t,e⟩:=Value.isStrOf_shape (x:=x) (v:=v) h;exact .inr ⟨x,t,rfl,e⟩
theorem Kj (i:Int)(t:Tok):uL (.inl i) (.int i t)=true:=by simp[uL,Value.isInt]
theorem Mb (x:Str)(t:Tok):uL (.inr x) (.str x t)=true:=by simp[uL,Value.isStrOf]
theorem Xw (a b:Int):decide ((sq a:Key)=sq b)=(a==b):=by
 by_cases e:a=b
 ·subst e;simp
 ·have h:¬ (sq a:Key)=sq b:=λq=>e (Sum.inl.inj q)
  rw[AH h];exact (beq_eq_false_iff_ne.mpr e).symm
theorem Yl (a b:Str):decide ((cf a:Key)=cf b)=decide (a=b):=by
 by_cases e:a=b
 ·subst e;simp
 ·have h:¬ (cf a:Key)=cf b:=λq=>e (kq q)
  rw[AH h,AH e]
theorem Wt (a:Int)(b:Str):decide ((sq a:Key)=cf b)=false:=AH (λq=>nomatch q)
theorem Ys (a:Str)(b:Int):decide ((cf a:Key)=sq b)=false:=AH (λq=>nomatch q)
def bF (prog:xv)(w:World):PySem.KeyKind prog w Key where
 is:=uL
 hash:=aBI w
 inj:=λv a b ha hb=>by
  rcases cT ha with ⟨i,t,rfl,rfl⟩ | ⟨x,t,rfl,rfl⟩
  ·rcases cT hb with ⟨j,u,rfl,e⟩ | ⟨y,u,rfl,e⟩
   ·injection e with Z _;rw[Z]
   ·exact nomatch e
  ·rcases cT hb with ⟨j,u,rfl,e⟩ | ⟨y,u,rfl,e⟩
   ·exact nomatch e
   ·injection e with Z _;rw[Z]
 byValue:=λk v h=>by
  rcases cT h with ⟨i,t,rfl,rfl⟩ | ⟨x,t,rfl,rfl⟩ <;> rfl
 pyHash:=λhv h=>by
  rcases cT hv with ⟨i,t,rfl,rfl⟩ | ⟨x,t,rfl,rfl⟩
  ·exact wpAny_pyHash_int h
  ·exact wpAny_pyHash_str h
 eqBool:=λhu hv h=>by
  rcases cT hu with ⟨i,t,rfl,rfl⟩ | ⟨x,t,rfl,rfl⟩
  ·rcases cT hv with ⟨j,u,rfl,rfl⟩ | ⟨y,u,rfl,rfl⟩
   ·rw[Xw] at h;exact wpAny_eqBool_int h
   ·rw[Wt] at h;exact SeqAt.EqAt.int_str i t y u _ _ _ _ h
  ·rcases cT hv with ⟨j,u,rfl,rfl⟩ | ⟨y,u,rfl,rfl⟩
   ·rw[Ys] at h;exact SeqAt.EqAt.str_int x t j u _ _ _ _ h
   ·rw[Yl] at h;exact wpAny_eqBool_str h
 «strs» := λk x t v h=>by
  rcases cT h with ⟨i,u,rfl,e⟩ | ⟨y,u,rfl,e⟩
  ·exact nomatch e
  ·injection e with Z _
   subst Z;cases v <;> rfl
theorem Dc (prog:xv)(w:World)(i:Int)(t:Tok):(bF prog w).is (.inl i) (.int i t)=true:=Kj i t
theorem Bv (prog:xv)(w:World)(x:Str)(t:Tok):(bF prog w).is (.inr x) (.str x t)=true:=Mb x t
inductive V where
 | non | bl (b:Bool) | int (i:Int) | str (x:Str) | byt (b:Array UInt8) | flt (b:UInt64) | ref (a:Addr) | ty (n:String)
 deriving DecidableEq
def bE:V->Value->Prop
 | .non,u=>u=Value.none
 | .bl b,u=>u=Value.bool b
 | .int i,u=>∃ t,u=Value.int i t
 | .str x,u=>∃ t,u=Value.str x t
 | .byt b,u=>∃ t,u=Value.bytes b t
 | .flt b,u=>∃ t,u=Value.float b t
 | .ref a,u=>u=Value.ref a
 | .ty n,u=>u=Value.type n
abbrev aZ:List V->List Value->Prop:=Paired bE
theorem aZ.length {xs:List V}{us:List Value}(r:aZ xs us):xs.length=us.length:=Paired.length r
theorem aZ.get:∀ {xs:List V} {us:List Value} {i:Nat} {x:V},aZ xs us->xs[i]?=some x->∃ u,us[i]?=some u∧bE x u
 | _,_,_,_,.nil,e=>by simp at e
 | _,_,0,_,.cons r _,e=>by simp at e;subst e;exact⟨_,rfl,r⟩
 | _,_,i+1,x,.cons _ t,e=>by
  obtain⟨u,h1,h2⟩:=aZ.get (i:=i) (x:=x) t (by simpa using e);exact⟨u,by simpa using h1,h2⟩
theorem aZ.set {x:V}{u:Value}(r:bE x u):∀ {xs:List V} {us:List Value} (i:Nat),aZ xs us->aZ (xs.set i x) (us.set i u)
 | _,_,_,.nil=>.nil
 | _,_,0,.cons _ t=>.cons r t
 | _,_,i+1,.cons q t=>.cons q (aZ.set r i t)
theorem aZ.append:∀ {xs ys:List V} {us Z:List Value},aZ xs us->aZ ys Z->aZ (xs++ys) (us++Z)
 | _,_,_,_,.nil,s=>s
 | _,_,_,_,.cons r t,s=>.cons r (aZ.append t s)
theorem aZ.take:∀ {xs:List V} {us:List Value} (n:Nat),aZ xs us->aZ (xs.take n) (us.take n)
 | _,_,0,_=>.nil
 | _,_,_+1,.nil=>.nil
 | _,_,n+1,.cons r t=>.cons r (aZ.take n t)
theorem aZ.drop:∀ {xs:List V} {us:List Value} (n:Nat),aZ xs us->aZ (xs.drop n) (us.drop n)
 | _,_,0,r=>r
 | _,_,_+1,.nil=>.nil
 | _,_,n+1,.cons _ t=>aZ.drop n t
def iE:Option V->Option Value->Prop
 | some v,some u=>bE v u
 | none,none=>True
 | _,_=>False
def KV {κ:Type}:List (κ×V)->List (κ×Value)->Prop:=Paired λ(p:κ×V) (q:κ×Value)=>p.1=q.1∧bE p.2 q.2
def kV:Key->V
 | .inl i=>.int i
 | .inr x=>.str x
inductive HO where
 | lst (xs:List V)
 | tup (xs:List V)
 | dK (kvs:List (Key×V)) | dT (kvs:List (List Key×V))
 | set (S:Int->Bool) (n:Nat)
 | ins (C dx:Addr) (fs:List (Str×V))
 | own (x:Addr)
 | xd (fs:List (Str×V))
 | met (f x:Addr)
 | rng (lo hi:Int)
 | frz (o:Obj) (u:HO)
 | tbl (ps:Array Value)
 | ext (φ:Heap->Prop)
abbrev Hp:=Addr->Option HO
def upd (H:Hp)(a:Addr)(o:HO):Hp:=λb=>if b=a then some o else H b
theorem aC {H:Hp}{a:Addr}{o:HO}:upd H a o a=some o:=by unfold upd;rw[AD rfl]
theorem aG {H:Hp}{a b:Addr}{o:HO}(h:b≠a):upd H a o b=H b:=by unfold upd;rw[AC h]
theorem zH {H:Hp}{a:Addr}{o u:HO}:upd (upd H a o) a u=upd H a u:=by
 funext b;unfold upd;split <;> rfl
theorem Yw {H:Hp}{a b:Addr}{o u:HO}(h:H a=some o)(h':H b=some u)(d:o≠u):a≠b:=by
 intro e;subst e;rw[h] at h';exact d (av h')
theorem aI {H:Hp}{a b:Addr}{o:HO}(h:H a=some o)(h':H b=none):a≠b:=by
 intro e;subst e;rw[h] at h';cases h'
section
variable (P:xv)(w:World)
def cF (H:Hp)(h:Heap)(a:Addr):HO->Prop
 | .lst xs=>xs.length<=sizeLine∧∃ (Z:List Value) (n:Nat),aZ xs Z∧h.get? a=some { cls:=.type "list",data:=.seq Z.toArray n }
 | .tup xs=>xs.length<=sizeLine∧∃ Z:List Value,aZ xs Z∧IsTup h a Z.toArray
 | .dK kvs=>kvs.length<=sizeLine∧(a==sysModules)=false∧∃ vs,KV kvs vs∧h.DictOf (bF P w) a vs
 | .dT kvs=>kvs.length<=sizeLine∧(a==sysModules)=false∧∃ xs:List (List Key×Addr×Value),
  Paired (λ(p:List Key×V) (q:List Key×Addr×Value)=>p.1=q.1∧H q.2.1=some (.tup (p.1.map kV))∧bE p.2 q.2.2) kvs xs ∧
  ∃ o es ep,h.get? a=some o∧o.ExactDict∧o.data = .dict es ep∧es.toList=xs.map (entryOfKey (tupleKind (bF P w)))∧(xs.map (·.1)).Nodup
 | .set S n=>h.SetOf (intKind P w) a S n
 | .ins C dx fs=>H dx=some (.own a)∧fs.length<=1000∧dx≠a∧h.get? a=some (ip C dx) ∧
  ∃ mA,h.Ns1 dx mA∧(∀ f,iE (fs.lookup f) (mA f))∧uj mA (fs.map (·.1))
 | .own _=>∃ o,h.get? a=some o
 | .xd fs=>∃ mA,h.Ns1 a mA∧∀ f,iE (fs.lookup f) (mA f)
 | .rng lo hi=>∃ t u v,h.get? a=some { cls:=.type "range",data:=.fields #[.int lo t,.int hi u,.int 1 v] }
 | .frz o u=>h.get? a=some o∧cF H h a u
 | .tbl ps=>h.get? a=some { cls:=.none,data:=.fields ps }
 | .met f x=>h.get? a=some (oz (.ref f) (.ref x))
 | .ext φ=>φ h∧(∃ o,h.get? a=some o)∧∀ h1 h2:Heap,φ h1->(∀ o,h1.get? a=some o->h2.get? a=some o)->φ h2
def HOk (H:Hp)(h:Heap):Prop:=∀ a o,H a=some o->cF P w H h a o
end
section
variable {P:xv}{w:World}{H H':Hp}{h h':Heap}{a:Addr}{o:HO}
theorem cF.lt (x:cF P w H h a o):a<h.objs.size:=by
 cases o with
 | lst xs=>obtain⟨_,_,_,_,e⟩:=x;exact AV e
 | tup xs=>obtain⟨_,_,_,p⟩:=x;exact p.lt
 | dK kvs=>obtain⟨_,_,_,_,o,_,_,e,_⟩:=x;exact AV e
 | dT kvs=>obtain⟨_,_,_,_,o,_,_,e,_⟩:=x;exact AV e
 | set S n=>obtain⟨o,_,_,_,e,_⟩:=x;exact AV e
 | ins C dx fs=>obtain⟨_,_,_,e,_⟩:=x;exact AV e
 | own y=>obtain⟨_,e⟩:=x;exact AV e
 | xd fs=>obtain⟨_,⟨_,_,_,e,_⟩,_⟩:=x;exact AV e
 | rng lo hi=>obtain⟨_,_,_,e⟩:=x;exact AV e
 | frz ob u=>obtain⟨e,_⟩:=x;exact AV e
 | tbl ps=>exact AV (show h.get? a=some _ from x)
 | met f y=>exact AV (show h.get? a=some _ from x)
 | ext φ=>obtain⟨_,⟨_,e⟩,_⟩:=x;exact AV e
theorem Paired.mapP {α β:Type}{F G:α->β->Prop}:∀ {l₁:List α} {l₂:List β},Paired F l₁ l₂->(∀ a b,F a b->G a b)->Paired G l₁ l₂
 | _,_,.nil,_=>.nil
 | _,_,.cons r t,f=>.cons (f _ _ r) (Paired.mapP t f)
theorem cF.stay (x:cF P w H h a o)(k:∀ b u,(b=a∨H b=some (.own a))->h.get? b=some u->h'.get? b=some u)
  (ho:∀ b,H b=some (.own a)->H' b=some (.own a)) (ht:∀ b xs,H b=some (.tup xs)->H' b=some (.tup xs)):cF P w H' h' a o:=by
 induction o with
 | lst xs=>obtain⟨z,gV,n,r,e⟩:=x;exact⟨z,gV,n,r,k _ _ (.inl rfl) e⟩
 | tup xs=>obtain⟨z,gV,r,Z,e,c⟩:=x;exact⟨z,gV,r,Z,k _ _ (.inl rfl) e,c⟩
 | dK kvs=>obtain⟨z,y,vs,r,Z,es,ep,e,c⟩:=x;exact⟨z,y,vs,r,Z,es,ep,k _ _ (.inl rfl) e,c⟩
 | dT kvs =>
  obtain⟨z,y,xs,r,Z,es,ep,e,c⟩:=x;exact⟨z,y,xs,Paired.mapP r λp q z=>⟨z.1,ht _ _ z.2.1,z.2.2⟩,Z,es,ep,k _ _ (.inl rfl) e,c⟩
 | set S n=>obtain⟨Z,es,ep,t,e,c⟩:=x;exact⟨Z,es,ep,t,k _ _ (.inl rfl) e,c⟩
 | ins C dx fs =>
  obtain⟨d,z,ne,e,mA,⟨od,es,ep,e2,c⟩,r⟩:=x;exact⟨ho _ d,z,ne,k _ _ (.inl rfl) e,mA,⟨od,es,ep,k _ _ (.inr d) e2,c⟩,r⟩
 | own y=>obtain⟨Z,e⟩:=x;exact⟨Z,k _ _ (.inl rfl) e⟩
 | xd fs=>obtain⟨mA,⟨od,es,ep,e,c⟩,r⟩:=x;exact⟨mA,⟨od,es,ep,k _ _ (.inl rfl) e,c⟩,r⟩
 | rng lo hi=>obtain⟨t,u,v,e⟩:=x;exact⟨t,u,v,k _ _ (.inl rfl) e⟩
 | frz Z u ih=>obtain⟨e,q⟩:=x;exact⟨k _ _ (.inl rfl) e,ih q⟩
 | tbl ps =>
  have e:h.get? a=some { cls:=.none,data:=.fields ps }:=x;show h'.get? a=some { cls:=.none,data:=.fields ps };exact k a _ (.inl rfl) e
 | met f y =>
  have e:h.get? a=some (oz (.ref f) (.ref y)):=x;show h'.get? a=some (oz (.ref f) (.ref y));exact k a _ (.inl rfl) e
 | ext φ=>obtain⟨p,⟨o,e⟩,st⟩:=x;exact⟨st _ _ p λo q=>k _ _ (.inl rfl) q,⟨o,k _ _ (.inl rfl) e⟩,st⟩
theorem HOk.lt (x:HOk P w H h)(e:H a=some o):a<h.objs.size:=(x a o e).lt
theorem HOk.fresh (x:HOk P w H h)(e:h.objs.size<=a):H a=none:=by
 cases q:H a with
 | none=>rfl
 | some u=>exact absurd (bi (x.lt q) e) (e9 _)
theorem HOk.kept (x:HOk P w H h)(k:∀ b u,h.get? b=some u->h'.get? b=some u):HOk P w H h':=λa o e =>
 (x a o e).stay (λb u _ q=>k b u q) (λ_ q=>q) λ_ _ q=>q
theorem HOk.laid (x:HOk P w H h)(k:∀ b u,h.get? b=some u->h'.get? b=some u)(hp:h.objs.size<=a)(Z:cF P w (upd H a o) h' a o):HOk P w (upd H a o) h':=λb u e=>by
 have hn:=x.fresh hp;by_cases hb:b=a
 ·subst hb;rw[aC] at e;cases e;exact Z
 ·rw[aG hb] at e
  exact (x b u e).stay (λc v _ q=>k c v q) (λc q=>by rw[aG (aI q hn)];exact q) λc xs q=>by rw[aG (aI q hn)];exact q
end
def Rd (H:Hp)(a:Addr)(u:HO):Prop:=H a=some u∨∃ o,H a=some (.frz o u)
theorem Rd.ok {P:xv}{w:World}{H:Hp}{h:Heap}{a:Addr}{u:HO}(r:Rd H a u)(x:HOk P w H h):cF P w H h a u:=by
 rcases r with r | ⟨o,r⟩
 ·exact x a u r
 ·obtain⟨_,q⟩:=x a _ r
  exact q
def Mut:Option HO->Prop
 | some (.lst _)=>True
 | some (.dK _)=>True
 | some (.dT _)=>True
 | some (.set _ _)=>True
 | some (.ins _ _ _)=>True
 | some (.ext _)=>True
 | _=>False
section
variable {P:xv}{w:World}{H:Hp}{h h':Heap}{x e:Addr}{o':HO}
theorem HOk.write (ok:HOk P w H h)(mu:Mut (H x))(he:e=x∨H e=some (.own x))(k:∀ b u,b≠e->h.get? b=some u->h'.get? b=some u)(mp:∃ u,h'.get? e=some u)
  (or:cF P w (upd H x o') h' x o'):HOk P w (upd H x o') h':=λb u q=>by
 have Z:∀ c y,H c=some (.own y)->c≠x:=λc y r z=>by subst z;rw[r] at mu;exact mu
 have gV:∀ c xs,H c=some (.tup xs)->c≠x:=λc xs r z=>by subst z;rw[r] at mu;exact mu
 by_cases hb:b=x
 ·subst hb;rw[aC] at q;cases q;exact or
 ·rw[aG hb] at q
  by_cases hbe:b=e
  ·have q':H b=some (.own x):=by
    rcases he with z | z
    ·exact absurd (hbe.trans z) hb
    ·rw[hbe];exact z
   rw[q] at q';cases q';obtain⟨v,hv⟩:=mp;exact⟨v,by rw[hbe];exact hv⟩
  ·refine (ok b u q).stay (λc v hc r=>k c v ?_ r) (λc r=>by rw[aG (Z c b r)];exact r) λc xs r=>by rw[aG (gV c xs r)];exact r
   rcases hc with rfl | hc
   ·exact hbe
   ·rintro rfl
    rcases he with z | z
    ·exact Z c b hc z
    ·rw[hc] at z;cases z;exact hb rfl
end
structure Un (fs ex:List Addr)(H H':Hp)(h h':Heap):Prop where
 keep:∀ b o,h.get? b=some o->H b=none->b∉fs->b∉ex->h'.get? b=some o
 slot:∀ b o,h.get? b=some o->H b=none->b∈fs->b∉ex->∃ sl,h'.get? b=some { o with slots:=sl }
 free:∀ b o,h.get? b=some o->H b=none->b∉ex->H' b=none
 there:∀ b o,h.get? b=some o->b∉ex->∃ o',h'.get? b=some o'
 tups:∀ b xs,H b=some (.tup xs)->H' b=some (.tup xs)
 frzs:∀ b o u,H b=some (.frz o u)->H' b=some (.frz o u)
 tbls:∀ b ps,H b=some (.tbl ps)->∃ more,H' b=some (.tbl (ps++more))
section
variable {fs fs' ex ex':List Addr}{H H1 H2:Hp}{h h1 h2 h':Heap}{a x e:Addr}{o:HO}
theorem Un.any (u:Un fs ex H H1 h h1){b:Addr}{Z:Obj}(q:h.get? b=some Z)(n:H b=none)(hx:b∉ex):∃ sl,h1.get? b=some { Z with slots:=sl }:=by
 by_cases hb:b∈fs
 ·exact u.slot b Z q n hb hx
 ·exact⟨Z.slots,u.keep b Z q n hb hx⟩
theorem Un.kept (k:∀ b u,h.get? b=some u->h'.get? b=some u):Un fs ex H H h h' :=
 ⟨λb Z q _ _ _=>k b Z q,λb Z q _ _ _=>⟨Z.slots,k b Z q⟩,λ_ _ _ n _=>n,λb Z q _=>⟨Z,k b Z q⟩,λ_ _ q=>q,λ_ _ _ q=>q,λ_ ps q=>⟨#[],by rw[q];simp⟩⟩
theorem Un.refl:Un fs ex H H h h:=Un.kept λ_ _ q=>q
theorem Un.laid (k:∀ b u,h.get? b=some u->h'.get? b=some u)(Z:h.objs.size<=a)(hn:H a=none):Un fs ex H (upd H a o) h h' where
 keep:=λb u q _ _ _=>k b u q
 slot:=λb u q _ _ _=>⟨u.slots,k b u q⟩
 free:=λb u q n _=>by rw[aG (az (bi (AV q) Z))];exact n
 there:=λb u q _=>⟨u,k b u q⟩
 tups:=λb xs q=>by rw[aG (aI q hn)];exact q
 frzs:=λb u xs q=>by rw[aG (aI q hn)];exact q
 tbls:=λb ps q=>⟨#[],by rw[aG (aI q hn),q];simp⟩
theorem Un.write (Z:Mut (H x))(he:e=x∨H e=some (.own x))(k:∀ b u,b≠e->h.get? b=some u->h'.get? b=some u)(gV:∃ u,h'.get? e=some u):Un fs ex H (upd H x o) h h':=by
 have hx:∀ b,H b=none->b≠x:=λb n z=>by subst z;rw[n] at Z;exact Z
 have hb:∀ b,H b=none->b≠e:=λb n z=>by
  subst z;rcases he with r | r
  ·exact hx b n r
  ·rw[n] at r;cases r
 have hm:∀ b u,H b=some u->¬ Mut (some u)->b≠x:=λb u q nm z=>by subst z;rw[q] at Z;exact nm Z
 refine⟨λb u q n _ _=>k b u (hb b n) q,λb u q n _ _=>⟨u.slots,k b u (hb b n) q⟩,λb u q n _=>by rw[aG (hx b n)];exact n,λb u q _=>?_,
  λb xs q=>by rw[aG (hm b _ q λz=>z)];exact q,λb u xs q=>by rw[aG (hm b _ q λz=>z)];exact q,λb ps q=>⟨#[],by rw[aG (hm b _ q λz=>z),q];simp⟩⟩
 by_cases hbe:b=e
 ·subst hbe;exact gV
 ·exact⟨u,k b u hbe q⟩
end
def trk (h:Heap)(H:Hp):List Addr:=(bt h.objs.size).filter λa=>(H a).isSome
def Bb (h:Heap)(H:Hp):Heap:=qp h (trk h H)
theorem Lk (h:Heap)(H:Hp):(Bb h H).objs.size=h.objs.size:=PySem.W.hideAll_size _ _
theorem Py {h:Heap}{H:Hp}{b:Addr}{o:Obj}(e:h.get? b=some o)(n:H b=none):(Bb h H).get? b=some o :=
 gs _ e λhm=>by
  have q:(H b).isSome=true:=(cb.mp hm).2;rw[n] at q;simp at q
theorem Ur {h:Heap}{H:Hp}{b:Addr}{o:Obj}(e:(Bb h H).get? b=some o):h.get? b=some o∧H b=none:=by
 have Z:h.get? b=some o:=nz (trk h H) e;refine⟨Z,?_⟩
 cases q:H b with
 | none=>rfl
 | some x =>
  have hm:b∈trk h H:=cb.mpr ⟨ck.mpr (AV Z),by simp[q]⟩;have z:(Bb h H).get? b=none:=my (trk h H) hm;rw[z] at e;cases e
def Uz (g h:Heap)(L:Addr):List (Addr×Obj):=(bt h.objs.size).filterMap λa=>if a=L∨(g.get? a).isSome=true then none else (h.get? a).map λo=>(a,o)
def rest (g h:Heap)(L d:Addr):List (Addr×Obj):=(Uz g h L).filter λp=>decide (p.1≠d)
structure Mod (K:ac)(mg:Str->Option Value)(base:Heap):Prop where
 kin:K.In base
 glob:base.Ns mainGlobals mg
 blt:∃ mb,base.Ns builtinsNs mb∧∀ x:Str,x ≠ "__name__" -> mb x=bootBuiltins x
 nolimit:base.NoLimit
structure Cx where
 prog:xv
 w:World
 K:ac
 mg:Str->Option Value
 base:Heap
 A:Around
 N:List Str
 s₀:kw
 H₀:Hp
 env:Env
 outer:List Env
 stack:List Env
 ex:List Addr
 fn:Str->Bool
 calm:Bool
 pn:List (Addr×Obj)
 xe:Value->kw->Prop
def frs (l:List Env):List Addr:=l.filterMap (·.frame)
abbrev Cx.fs (X:Cx):List Addr:=frs X.outer
def Vis (sc:Scope)(x:Str):Prop:=sc.names.lookup x=some .local∨sc.names.lookup x=some .cell∨sc.names.lookup x=some .free
def Loc (sc:Scope)(x:Str):Prop:=sc.names.lookup x=some .local∨sc.names.lookup x=some .cell
def aAn (env:Env)(h:Heap)(m:Str->Option Value)(x:Str)(u:Value):Prop :=
 (env.kindOf x=some .local∧m x=some u)∨((env.kindOf x=some .cell∨env.kindOf x=some .free)∧∃ c,env.cells.lookup x=some c∧h.IsCell c (some u))
structure Cx.Ok (X:Cx):Prop where
 mod:Mod X.K X.mg X.base
 kind:X.env.scope.kind = .function
 glob:X.env.globals=mainGlobals
 blt:X.env.builtins=builtinsNs
 above:X.s₀.heap.objs.size<=X.env.locals
 inj:∀ x y c,X.env.cells.lookup x=some c->X.env.cells.lookup y=some c->x=y
 has:∀ x,(X.env.kindOf x=some .cell∨X.env.kindOf x=some .free)->∃ c,X.env.cells.lookup x=some c
 cab:∀ x c,X.fn x=true->X.env.cells.lookup x=some c->X.s₀.heap.objs.size<=c
 hd:X.calm=true->X.A.handled=none
 frames:X.A.frames=some X.stack
 stk:X.stack=X.outer∨(X.stack=X.env::X.outer∧X.env.frame=some X.env.locals)
 exf:∀ b∈X.ex,b≠X.env.locals∧∀ x c,X.env.cells.lookup x=some c->c≠b
 bs:∀ b o,X.base.get? b=some o->X.s₀.heap.get? b=some o∧X.H₀ b=none
 bsz:X.base.objs.size<=X.s₀.heap.objs.size
 noex:∀ b o,X.base.get? b=some o->b∉X.ex
 exfs:∀ b∈X.ex,b∉X.fs
 funs:X.s₀.heap.FunFrames X.base X.outer
 frf:∀ b∈X.fs,X.H₀ b=none
structure Inv (X:Cx)(pins:List (Addr×Obj))(σ:List (Option V))(H:Hp)(s:kw):Prop where
 ok:X.Ok
 os:s.os=X.s₀.os
 bare:AllBare s.gens
 base:Un X.fs X.ex X.H₀ H X.s₀.heap s.heap
 loc:∃ m,s.heap.Ns X.env.locals m∧∀ (i:Nat) (x:Str) (v:V),X.N[i]?=some x->σ[i]?=some (some v)->Vis X.env.scope x->∃ u,bE v u∧aAn X.env s.heap m x u
 cell:∀ x c,X.env.cells.lookup x=some c->∃ v,s.heap.IsCell c v
 free:H X.env.locals=none
 freeC:∀ x c,X.env.cells.lookup x=some c->H c=none
 pin:∀ p∈X.pn++pins,s.heap.get? p.1=some p.2∧H p.1=none∧p.1≠X.env.locals∧p.1∉X.fs∧∀ v,p.2.data≠.cell v
 hok:HOk X.prog X.w H s.heap
 len:σ.length=X.N.length
section
variable {X:Cx}{pins:List (Addr×Obj)}{σ:List (Option V)}{H H':Hp}{s:kw}{h':Heap}
theorem Cx.Ok.nofr (ok:X.Ok){b:Addr}{o:Obj}(e:X.base.get? b=some o):b∉X.fs:=λhb=>by
 have:=(ok.funs.mem hb).1
 rw[e] at this;cases this
theorem Inv.bs (I:Inv X pins σ H s):∀ b o,X.base.get? b=some o->s.heap.get? b=some o∧H b=none:=λb o e =>
 ⟨I.base.keep b o (I.ok.bs b o e).1 (I.ok.bs b o e).2 (I.ok.nofr e) (I.ok.noex b o e),I.base.free b o (I.ok.bs b o e).1 (I.ok.bs b o e).2 (I.ok.noex b o e)⟩
theorem Inv.bk (I:Inv X pins σ H s):∀ b o,X.base.get? b=some o->s.heap.get? b=some o:=λb o e=>(I.bs b o e).1
theorem Inv.mod (I:Inv X pins σ H s):Mod X.K X.mg X.base:=I.ok.mod
theorem Inv.kIn (I:Inv X pins σ H s):X.K.In s.heap:=I.ok.mod.kin.keeps I.bk
theorem Inv.lt (I:Inv X pins σ H s):X.env.locals<s.heap.objs.size:=let ⟨_,hn,_⟩:=I.loc;hn.lt
theorem Inv.sz (I:Inv X pins σ H s):X.s₀.heap.objs.size<=s.heap.objs.size:=a5 I.ok.above (iw I.lt)
theorem Inv.nofs (I:Inv X pins σ H s){a:Addr}(h:s.heap.objs.size<=a):a∉X.fs:=λhb=>by
 obtain⟨_,o,Z,_⟩:=I.ok.funs.mem hb;exact absurd (bi (AV Z) (a5 I.sz h)) (e9 _)
theorem Inv.cne (I:Inv X pins σ H s):∀ x c,X.env.cells.lookup x=some c->c≠X.env.locals:=λx c e z=>by
 obtain⟨v,o,ho,hd⟩:=I.cell x c e;obtain⟨m,⟨o',es,ep,Z,gV,_⟩,_⟩:=I.loc;rw[z,Z] at ho;cases ho;rw[gV] at hd;cases hd
theorem Inv.funs (I:Inv X pins σ H s):s.heap.FunFrames X.base X.outer:=by
 have all:∀ (l:List Env),(∀ b∈frs l,b∈X.fs)->X.s₀.heap.FunFrames X.base l->s.heap.FunFrames X.base l:=by
  intro l
  induction l with
  | nil=>intro _ _;trivial
  | cons env r ih =>
   intro hs hl;obtain⟨hk,⟨L,o,hf,hn,ho,hd⟩,hr⟩:=hl;have Z:L∈X.fs:=hs L (by unfold frs;rw[ir,hf];exact aq);obtain⟨sl,e⟩:=I.base.slot L o ho (I.ok.frf L Z) Z λz=>I.ok.exfs L z Z
   exact⟨hk,⟨L,_,hf,hn,e,hd⟩,ih (λb hb=>hs b (by unfold frs;rw[ir,hf];exact al _ hb)) hr⟩
 exact all X.outer (λ_ hb=>hb) I.ok.funs
theorem Inv.stack (I:Inv X pins σ H s):s.heap.FunFrames X.base X.stack:=by
 rcases I.ok.stk with e | ⟨e,Z⟩
 ·rw[e];exact I.funs
 ·rw[e]
  obtain⟨m,hn,_⟩:=I.loc;refine .cons (by rw[I.ok.kind];decide) Z hn ?_ I.funs;exact Heap.get?_none_of_le (a5 I.ok.bsz I.ok.above)
theorem Inv.stkSub (I:Inv X pins σ H s):∀ b∈frs X.stack,b∈X.env.locals::X.fs:=λb hb=>by
 rcases I.ok.stk with e | ⟨e,Z⟩
 ·rw[e] at hb;exact al _ hb
 ·rw[e] at hb
  unfold frs at hb;rw[ir,Z] at hb;exact hb
theorem Inv.stkFree (I:Inv X pins σ H s):∀ b∈frs X.stack,H b=none:=λb hb=>by
 rcases au.mp (I.stkSub b hb) with e | hb
 ·rw[e];exact I.free
 ·obtain⟨_,o,Z,_⟩:=I.ok.funs.mem hb
  exact I.base.free b o Z (I.ok.frf b hb) λz=>I.ok.exfs b z hb
theorem Inv.step {g':Array GenState}{t':Nat}{d':Drawn}{ch:List Addr}(I:Inv X pins σ H s)
  (mp:∀ b∈ch,(b∈X.ex∨X.s₀.heap.objs.size<=b)∧b≠X.env.locals∧(∀ x c,X.env.cells.lookup x=some c->c≠b)∧∀ p∈X.pn++pins,p.1≠b)
  (keep:∀ b o,b≠X.env.locals->b∉X.fs->b∉ch->s.heap.get? b=some o->H b=none->h'.get? b=some o)
  (slot:∀ b o,b≠X.env.locals->b∈X.fs->b∉ch->s.heap.get? b=some o->H b=none->∃ sl,h'.get? b=some { o with slots:=sl }) (free:∀ b o,b∉ch->s.heap.get? b=some o->H b=none->H' b=none)
  (there:∀ b o,b∉ch->s.heap.get? b=some o->∃ o',h'.get? b=some o')
  (tups:∀ b xs,H b=some (.tup xs)->H' b=some (.tup xs)) (frzs:∀ b o u,H b=some (.frz o u)->H' b=some (.frz o u)) (tbls:∀ b ps,H b=some (.tbl ps)->∃ more,H' b=some (.tbl (ps++more)))
  (ns:∀ m,s.heap.Ns X.env.locals m->h'.Ns X.env.locals m) (hok:HOk X.prog X.w H' h') (hg:AllBare g') :
  Inv X pins σ H' { s with heap:=h',gens:=g',drawn:=d',toks:=t' }:=by
 have wp:∀ b o,X.s₀.heap.get? b=some o->b≠X.env.locals:=λb o e=>az (bi (AV e) I.ok.above)
 have or:∀ b o,X.s₀.heap.get? b=some o->b∉X.ex->b∉ch:=λb o e Z hb=>by
  rcases (mp b hb).1 with z | z
  ·exact Z z
  ·exact absurd (bi (AV e) z) (e9 _)
 have cellK:∀ x c,X.env.cells.lookup x=some c->∀ v,s.heap.IsCell c v->h'.IsCell c v:=λx c e v ⟨o,ho,hd⟩=>by
  have gV:c∉ch:=λz=>(mp c z).2.2.1 x c e rfl
  by_cases hc:c∈X.fs
  ·obtain⟨sl,q⟩:=slot c o (I.cne x c e) hc gV ho (I.freeC x c e)
   exact⟨_,q,hd⟩
  ·exact⟨o,keep c o (I.cne x c e) hc gV ho (I.freeC x c e),hd⟩
 refine⟨I.ok,I.os,hg,⟨λb o e n hb Z=>?_,λb o e n hb Z=>?_,λb o e n Z=>?_,λb o e Z=>?_,λb xs e=>tups b xs (I.base.tups b xs e),λb o xs e=>frzs b o xs (I.base.frzs b o xs e),λb ps e=>?_⟩,?_,λx c e=>?_,?_,λx c e=>?_,λp hp=>?_,hok,I.len⟩
 ·exact keep b o (wp b o e) hb (or b o e Z) (I.base.keep b o e n hb Z) (I.base.free b o e n Z)
 ·obtain⟨sl,e1⟩:=I.base.slot b o e n hb Z
  obtain⟨ww,e2⟩:=slot b _ (wp b o e) hb (or b o e Z) e1 (I.base.free b o e n Z);exact⟨ww,e2⟩
 ·obtain⟨o',e1⟩:=I.base.there b o e Z
  exact free b o' (or b o e Z) e1 (I.base.free b o e n Z)
 ·obtain⟨o',e1⟩:=I.base.there b o e Z
  exact there b o' (or b o e Z) e1
 ·obtain⟨m1,e1⟩:=I.base.tbls b ps e
  obtain⟨m2,e2⟩:=tbls b _ e1;exact⟨m1++m2,by rw[e2,n6]⟩
 ·obtain⟨m,hn,hl⟩:=I.loc
  refine⟨m,ns m hn,λi x v e1 e2 e3=>?_⟩;obtain⟨u,r,l⟩:=hl i x v e1 e2 e3;refine⟨u,r,?_⟩;rcases l with l | ⟨k,c,e,z⟩
  ·exact .inl l
  ·exact .inr ⟨k,c,e,cellK x c e _ z⟩
 ·obtain⟨v,z⟩:=I.cell x c e
  exact⟨v,cellK x c e v z⟩
 ·obtain⟨m,⟨o,_,_,ho,_⟩,_⟩:=I.loc
  exact free _ o (λz=>(mp _ z).2.1 rfl) ho I.free
 ·obtain⟨v,o,ho,hd⟩:=I.cell x c e
  exact free c o (λz=>(mp c z).2.2.1 x c e rfl) ho (I.freeC x c e)
 ·obtain⟨e,n,ne,nf,d⟩:=I.pin p hp
  have gV:p.1∉ch:=λz=>(mp p.1 z).2.2.2 p hp rfl
  exact⟨keep p.1 p.2 ne nf gV e n,free p.1 p.2 gV e n,ne,nf,d⟩
theorem Inv.un {t':Nat}(I:Inv X pins σ H s)(u:Un X.fs [] H H' s.heap h')(hok:HOk X.prog X.w H' h'):Inv X pins σ H' { s with heap:=h',toks:=t' }:=by
 obtain⟨m,⟨o,es,ep,ho,r⟩,_⟩:=id I.loc;obtain⟨sl,hL⟩:=u.any ho I.free (by simp);exact I.step (g':=s.gens) (d':=s.drawn) (ch:=[]) (λ_ z=>nomatch z) (λb o _ hb _ e n=>u.keep b o e n hb (by simp)) (λb o _ hb _ e n=>u.slot b o e n hb (by simp)) (λb o _ e n=>u.free b o e n (by simp)) (λb o _ e=>u.there b o e (by simp)) u.tups u.frzs u.tbls (λm' hm=>by
  obtain⟨o',mp,gV,Z,r'⟩:=hm;rw[ho] at Z;cases Z;exact⟨_,mp,gV,hL,r'⟩) hok I.bare
theorem Inv.call {g':Array GenState}{t':Nat}{d':Drawn}{ch:List Addr}(I:Inv X pins σ H s)(u:Un (frs X.stack) ch H H' s.heap h')(hok:HOk X.prog X.w H' h')(hg:AllBare g')
  (mp:∀ b∈ch,(b∈X.ex∨X.s₀.heap.objs.size<=b)∧b≠X.env.locals∧(∀ x c,X.env.cells.lookup x=some c->c≠b)∧∀ p∈X.pn++pins,p.1≠b) :
  Inv X pins σ H' { s with heap:=h',gens:=g',drawn:=d',toks:=t' }:=by
 obtain⟨m,⟨o,es,ep,ho,r⟩,_⟩:=id I.loc;obtain⟨sl,hL⟩:=u.any ho I.free λz=>(mp _ z).2.1 rfl
 exact I.step (ch:=ch) mp (λb o hL hb Z e n=>u.keep b o e n (λz=>(au.mp (I.stkSub b z)).elim hL hb) Z) (λb o _ _ Z e n=>u.any e n Z) (λb o Z e n=>u.free b o e n Z) (λb o Z e=>u.there b o e Z) u.tups u.frzs u.tbls (λm' hm=>by
  obtain⟨o',wp,or,gV,r'⟩:=hm;rw[ho] at gV;cases gV;exact⟨_,wp,or,hL,r'⟩) hok hg
theorem Inv.turned {t':Nat}{it:Addr}(I:Inv X pins σ H s)(k:∀ b o,b≠it->s.heap.get? b=some o->h'.get? b=some o)(hn:H it=none)(hL:it≠X.env.locals)
  (h1:it∈X.ex∨X.s₀.heap.objs.size<=it) (h2:∀ x c,X.env.cells.lookup x=some c->c≠it) (h3:∀ p∈X.pn++pins,p.1≠it):Inv X pins σ H { s with heap:=h',toks:=t' }:=by
 have gV:∀ b u,H b=some u->b≠it:=λb u e z=>by rw[z,hn] at e;cases e
 refine I.step (g':=s.gens) (d':=s.drawn) (ch:=[it]) (λb hb=>?_) (λb o _ _ Z e _=>k b o (λz=>Z (by simp[z])) e) (λb o _ _ Z e _=>⟨o.slots,k b o (λz=>Z (by simp[z])) e⟩) (λ_ _ _ _ n=>n)
  (λb o Z e=>⟨o,k b o (λz=>Z (by simp[z])) e⟩) (λ_ _ e=>e) (λ_ _ _ e=>e) (λb ps e=>⟨#[],by rw[e];simp⟩) (λm hm=>?_) (λb u e=>?_) I.bare
 ·have e:b=it:=by simpa using hb
  subst e;exact⟨h1,hL,h2,h3⟩
 ·obtain⟨o,es,ep,ho,r⟩:=hm
  exact⟨o,es,ep,k _ o (Ne.symm hL) ho,r⟩
 ·refine (I.hok b u e).stay (λc v Z q=>k c v ?_ q) (λ_ q=>q) λ_ _ q=>q
  rcases Z with z | z
  ·rw[z];exact gV b u e
  ·exact gV c _ z
theorem Inv.tok (I:Inv X pins σ H s)(t:Nat):Inv X pins σ H { s with toks:=t }:=I.un (h':=s.heap) (t':=t) Un.refl I.hok
theorem Inv.kept {t':Nat}(I:Inv X pins σ H s)(k:∀ b u,s.heap.get? b=some u->h'.get? b=some u):Inv X pins σ H { s with heap:=h',toks:=t' }:=I.un (Un.kept k) (I.hok.kept k)
theorem Inv.laid {a:Addr}{o:HO}{t':Nat}(I:Inv X pins σ H s)(k:∀ b u,s.heap.get? b=some u->h'.get? b=some u)(hp:s.heap.objs.size<=a)(Z:cF X.prog X.w (upd H a o) h' a o) :
 Inv X pins σ (upd H a o) { s with heap:=h',toks:=t' }:=I.un (Un.laid k hp (I.hok.fresh hp)) (I.hok.laid k hp Z)
theorem Inv.write {x e:Addr}{o:HO}{t':Nat}(I:Inv X pins σ H s)(mu:Mut (H x))(he:e=x∨H e=some (.own x))(k:∀ b u,b≠e->s.heap.get? b=some u->h'.get? b=some u)(Z:∃ u,h'.get? e=some u)
 (gV:cF X.prog X.w (upd H x o) h' x o):Inv X pins σ (upd H x o) { s with heap:=h',toks:=t' }:=I.un (Un.write mu he k Z) (I.hok.write mu he k Z gV)
theorem Inv.pins_of {Z:List (Addr×Obj)}(I:Inv X pins σ H s)(h:∀ p∈Z,s.heap.get? p.1=some p.2∧H p.1=none∧p.1≠X.env.locals∧p.1∉X.fs∧∀ v,p.2.data≠.cell v):Inv X Z σ H s :=
 ⟨I.ok,I.os,I.bare,I.base,I.loc,I.cell,I.free,I.freeC,λp hp=>(br.mp hp).elim (λz=>I.pin p (gj _ z)) (h p),I.hok,I.len⟩
theorem uU {N:List Str}(hN:N.Nodup){i j:Nat}{x:Str}(a:N[i]?=some x)(b:N[j]?=some x):i=j:=by
 obtain⟨h1,Z⟩:=ao.mp a;obtain⟨h2,e2⟩:=ao.mp b;exact (List.getElem_inj hN).mp (Z.trans e2.symm)
theorem yC {M:Model}{A:Around}{E:Value->kw->Prop}{i:Nat}{x:Str}{v:V}{u:Value}{Q:Unit->kw->Prop}(I:Inv X pins σ H s)(hN:X.N.Nodup)(hi:X.N[i]?=some x)(hx:Loc X.env.scope x)(r:bE v u)
  (h:∀ s',Inv X pins (σ.set i (some v)) H s'->(∃ a,Heap.SameBut a s.heap s'.heap∧(a=X.env.locals∨X.env.cells.lookup x=some a))->Q () s') (hf:X.fn x=true∨X.env.scope.names.lookup x=some .local:=by first | exact .inl rfl | exact .inr rfl | assumption):wpAny M A (storeName X.env x u) Q E s:=by
 obtain⟨m,hn,hl⟩:=id I.loc;have wp:(X.env.scope.kind == .class||(X.env.scope.kind == .module&&X.env.locals != X.env.globals))=false:=by rw[I.ok.kind];rfl
 have hiσ:i<σ.length:=by rw[I.len];exact (ao.mp hi).1
 have cne:=I.cne;have tracked:∀ {a:Addr} {h':Heap},(∃ o,s.heap.get? a=some o∧H a=none)->Heap.SameBut a s.heap h'->HOk X.prog X.w H h':=λ{a h'} ha Z b ob e=>by
  obtain⟨_,_,gV⟩:=ha;refine (I.hok b ob e).stay (λc w' hc q=>(Z.2 c ?_).trans q) (λ_ q=>q) λ_ _ q=>q
  rintro rfl;rcases hc with rfl | hc
  ·rw[gV] at e;cases e
  ·rw[gV] at hc;cases hc
 rcases hx with hk | hk
 ·refine wpAny_storeName_local hk hn (λh' wz Z=>?_) wp
  obtain⟨oL,_,_,w4,_⟩:=id hn;refine h _ ⟨I.ok,I.os,I.bare,⟨λb o e n hb hx=>?_,λb o e n hb hx=>?_,I.base.free,λb o e hx=>?_,I.base.tups,I.base.frzs,I.base.tbls⟩,⟨_,wz,λj y v' e1 e2 e3=>?_⟩,λy c e=>?_,I.free,I.freeC,λp hp=>?_,tracked ⟨oL,w4,I.free⟩ Z,by simpa using I.len⟩ ⟨_,Z,.inl rfl⟩
  ·exact (Z.2 b (az (bi (AV e) I.ok.above))).trans (I.base.keep b o e n hb hx)
  ·obtain⟨sl,e1⟩:=I.base.slot b o e n hb hx
   exact⟨sl,(Z.2 b (az (bi (AV e) I.ok.above))).trans e1⟩
  ·obtain⟨o',e1⟩:=I.base.there b o e hx
   exact⟨o',(Z.2 b (az (bi (AV e) I.ok.above))).trans e1⟩
  ·by_cases hj:j=i
   ·subst hj
    rw[hi] at e1;cases e1;rw[j3 hiσ] at e2;cases e2;exact⟨u,r,.inl ⟨hk,by simp⟩⟩
   ·rw[kr (Ne.symm hj)] at e2
    obtain⟨u',r',q⟩:=hl j y v' e1 e2 e3;refine⟨u',r',?_⟩;rcases q with ⟨k,e⟩ | ⟨k,c,e,z⟩
    ·refine .inl ⟨k,?_⟩
     have:y≠x:=λe=>hj (uU hN e1 (e▸hi))
     simp[this,e]
    ·exact .inr ⟨k,c,e,z.sameBut Z (cne y c e)⟩
  ·obtain⟨w',z⟩:=I.cell y c e
   exact⟨w',z.sameBut Z (cne y c e)⟩
  ·obtain⟨e,n,ne,nf,d⟩:=I.pin p hp
   exact⟨(Z.2 p.1 ne).trans e,n,ne,nf,d⟩
 ·have mp:X.fn x=true:=by
   rcases hf with z | z
   ·exact z
   ·rw[z] at hk;cases hk
  obtain⟨c,hc⟩:=I.ok.has x (.inl hk);obtain⟨w',z⟩:=I.cell x c hc;refine wpAny_storeName_cell I.ok.kind hk hc z (λh' wx Z=>?_);obtain⟨oc,or,ww⟩:=id z;refine h { s with heap:=h' } ⟨I.ok,I.os,I.bare,⟨λb o e n hb hx=>?_,λb o e n hb hx=>?_,I.base.free,λb o e hx=>?_,I.base.tups,I.base.frzs,I.base.tbls⟩,⟨m,hn.sameBut Z (Ne.symm (cne x c hc)),λj y v' e1 e2 e3=>?_⟩,λy c' e=>?_,I.free,I.freeC,λp hp=>?_,tracked ⟨oc,or,I.freeC x c hc⟩ Z,by simpa using I.len⟩ ⟨c,Z,.inr hc⟩
  ·exact (Z.2 b (az (bi (AV e) (I.ok.cab x c mp hc)))).trans (I.base.keep b o e n hb hx)
  ·obtain⟨sl,e1⟩:=I.base.slot b o e n hb hx
   exact⟨sl,(Z.2 b (az (bi (AV e) (I.ok.cab x c mp hc)))).trans e1⟩
  ·obtain⟨o',e1⟩:=I.base.there b o e hx
   exact⟨o',(Z.2 b (az (bi (AV e) (I.ok.cab x c mp hc)))).trans e1⟩
  ·by_cases hj:j=i
   ·subst hj
    rw[hi] at e1;cases e1;rw[j3 hiσ] at e2;cases e2;exact⟨u,r,.inr ⟨.inl hk,c,hc,wx⟩⟩
   ·rw[kr (Ne.symm hj)] at e2
    obtain⟨u',r',q⟩:=hl j y v' e1 e2 e3;refine⟨u',r',?_⟩;rcases q with q | ⟨k,c',e,z'⟩
    ·exact .inl q
    ·refine .inr ⟨k,c',e,z'.sameBut Z ?_⟩
     rintro rfl;exact hj (uU hN e1 (I.ok.inj _ _ _ e hc▸hi))
  ·by_cases hcc:c'=c
   ·subst hcc;exact⟨_,wx⟩
   ·obtain⟨w2,z2⟩:=I.cell y c' e
    exact⟨w2,z2.sameBut Z hcc⟩
  ·obtain⟨e,n,ne,nf,d⟩:=I.pin p hp
   refine⟨(Z.2 p.1 ?_).trans e,n,ne,nf,d⟩;intro q;rw[q,or] at e;have q':oc=p.2:=av e;exact d w' (by rw[<- q'];exact ww)
theorem lC {M:Model}{A:Around}{E:Value->kw->Prop}{i:Nat}{x:Str}{v:V}{u:Value}{Q:Unit->kw->Prop}(I:Inv X pins σ H s)(hN:X.N.Nodup)(hi:X.N[i]?=some x)(hx:Loc X.env.scope x)(r:bE v u)
  (h:∀ s',Inv X pins (σ.set i (some v)) H s'->Q () s') (hf:X.fn x=true∨X.env.scope.names.lookup x=some .local:=by first | exact .inl rfl | exact .inr rfl | assumption):wpAny M A (storeName X.env x u) Q E s :=
 yC I hN hi hx r (λs' Z _=>h s' Z) hf
theorem Inv.call' {s':kw}{ch:List Addr}(I:Inv X pins σ H s)(ho:s'.os=s.os)(u:Un (frs X.stack) ch H H' s.heap s'.heap)(hok:HOk X.prog X.w H' s'.heap)(hg:AllBare s'.gens)
  (Z:∀ b∈ch,(b∈X.ex∨X.s₀.heap.objs.size<=b)∧b≠X.env.locals∧(∀ x c,X.env.cells.lookup x=some c->c≠b)∧∀ p∈X.pn++pins,p.1≠b):Inv X pins σ H' s':=by
 obtain⟨h',g',d',t',o'⟩:=s';have e:o'=s.os:=ho;subst e;exact I.call (g':=g') (t':=t') (d':=d') u hok hg Z
end
abbrev XK:=Value->Option Addr->Hp->Prop
abbrev St:=List (Option V)
abbrev VK:=V->Hp->Prop
abbrev TE:=St->Hp->VK->Prop
abbrev TT:=St->Hp->(Bool->Hp->Prop)->Prop
abbrev TA:=St->Hp->(List V->Hp->Prop)->Prop
structure jJ where
 nx:St->Hp->Prop
 rt:VK
 bk:St->Hp->Prop:=λ_ _=>False
 ct:St->Hp->Prop:=λ_ _=>False
abbrev TS:=jJ->St->Hp->Prop
def EP (X:Cx)(pins:List (Addr×Obj))(σ:St)(Q:VK)(u:Value)(s':kw):Prop:=∃ v H',Inv X pins σ H' s'∧bE v u∧Q v H'
def TP (X:Cx)(pins:List (Addr×Obj))(σ:St)(Q:Bool->Hp->Prop)(b:Bool)(s':kw):Prop:=∃ H',Inv X pins σ H' s'∧Q b H'
def AP (X:Cx)(pins:List (Addr×Obj))(σ:St)(Q:List V->Hp->Prop)(us:List Value)(s':kw):Prop:=∃ vs H',Inv X pins σ H' s'∧aZ vs us∧Q vs H'
def SP (X:Cx)(pins:List (Addr×Obj))(D:jJ)(f:Flow)(s':kw):Prop :=
 match f with
 | .next=>∃ σ' H',Inv X pins σ' H' s'∧D.nx σ' H'
 | .brk=>∃ σ' H',Inv X pins σ' H' s'∧D.bk σ' H'
 | .cont=>∃ σ' H',Inv X pins σ' H' s'∧D.ct σ' H'
 | .ret u=>∃ v σ' H',Inv X pins σ' H' s'∧bE v u∧D.rt v H'
def PE (X:Cx)(e:Expr)(t:TE):Prop :=
 ∀ (pins:List (Addr×Obj)) (s:kw) (σ:St) (H:Hp) (Q:VK),Inv X pins σ H s->t σ H Q->wpAny (model X.prog X.w) X.A (eval e X.env) (EP X pins σ Q) X.xe s
def PT (X:Cx)(e:Expr)(t:TT):Prop :=
 ∀ (pins:List (Addr×Obj)) (s:kw) (σ:St) (H:Hp) (Q:Bool->Hp->Prop),Inv X pins σ H s->t σ H Q->wpAny (model X.prog X.w) X.A (isTrue e X.env (eval e X.env)) (TP X pins σ Q) X.xe s
def PW (X:Cx)(e:Expr)(t:TT):Prop :=
 ∀ (Z:Sem Value) (pins:List (Addr×Obj)) (s:kw) (σ:St) (H:Hp) (Q:Bool->Hp->Prop),Inv X pins σ H s->t σ H Q->wpAny (model X.prog X.w) X.A (isTrue e X.env Z) (TP X pins σ Q) X.xe s
theorem PW.pt {X:Cx}{e:Expr}{t:TT}(h:PW X e t):PT X e t:=h _
def PA (X:Cx)(es:List Expr)(t:TA):Prop :=
 ∀ (pos:Pos) (pins:List (Addr×Obj)) (s:kw) (σ:St) (H:Hp) (Q:List V->Hp->Prop),Inv X pins σ H s->t σ H Q->wpAny (model X.prog X.w) X.A (spliced (backTo pos (starEach es X.env))) (AP X pins σ Q) X.xe s
def PS (X:Cx)(st:Stmt)(t:TS):Prop :=
 ∀ (pins:List (Addr×Obj)) (s:kw) (σ:St) (H:Hp) (D:jJ),Inv X pins σ H s->t D σ H->wpAny (model X.prog X.w) X.A (exec st X.env) (SP X pins D) X.xe s
def PSs (X:Cx)(st:List Stmt)(t:TS):Prop :=
 ∀ (pins:List (Addr×Obj)) (s:kw) (σ:St) (H:Hp) (D:jJ),Inv X pins σ H s->t D σ H->wpAny (model X.prog X.w) X.A (execs st X.env) (SP X pins D) X.xe s
theorem thn {α:Type}{t:Sem α}{Q Z:α->kw->Prop}{M:Model}{A:Around}{E:Value->kw->Prop}{s:kw}(h:wpAny M A t Q E s)(hQ:∀ a s,Q a s->Z a s):wpAny M A t Z E s:=AJ h hQ λ_ _ x=>x
section
variable {X:Cx}
def Zp (i:Nat):TE:=λσ H Q=>∃ v,σ[i]?=some (some v)∧Q v H
def tC (v:V):TE:=λ_ H Q=>Q v H
theorem Xe {i:Nat}{x:Str}{pos:Pos}(hN:X.N[i]?=some x)(hv:Vis X.env.scope x)(hd:(x==("__debug__" : Str))=false:=by decide)(gV:(x==("__classdict__" : Str))=false:=by decide):PE X (.Name x pos) (Zp i):=by
 intro pins s σ H Q I h;obtain⟨v,e,h⟩:=h;obtain⟨m,hn,hl⟩:=I.loc;obtain⟨u,r,l⟩:=hl i x v hN e hv;have fin:EP X pins σ Q u s:=⟨v,H,I,r,h⟩;rcases l with ⟨hk,hm⟩ | ⟨hk,c,hc,Z⟩
 ·exact wpAny_Name (wpAny_loadName_local I.ok.kind hk hn hm fin) hd
 ·rcases hk with hk | hk
  ·exact wpAny_Name (wpAny_loadName_cell I.ok.kind hk hc Z fin) hd
  ·exact wpAny_Name (wpAny_loadName_free I.ok.kind hk hc Z fin gV) hd
theorem aH {i j pos}:PE X (.Constant (.int i) j pos) (tC (.int i)):=λ_ _ _ H _ I h=>wpAny_Constant_int ⟨.int i,H,I.tok _,⟨_,rfl⟩,h⟩
theorem lM {b j pos}:PE X (.Constant (.bool b) j pos) (tC (.bl b)):=λ_ _ _ H _ I h=>Constant_bool ⟨.bl b,H,I,rfl,h⟩
theorem vF {j pos}:PE X (.Constant .none j pos) (tC .non):=λ_ _ _ H _ I h=>Constant_none ⟨.non,H,I,rfl,h⟩
theorem gD {x j pos}:PE X (.Constant (.str x) j pos) (tC (.str x)):=λ_ _ _ H _ I h=>Calls.Constant_str ⟨.str x,H,I.tok _,⟨_,rfl⟩,h⟩
def Gl (X:Cx)(x:Str):Prop:=X.env.kindOf x=some .globalImplicit
theorem iL {E:Value->kw->Prop}{pins:List (Addr×Obj)}{s:kw}{σ:St}{H:Hp}{x:Str}{u:Value}{pos:Pos}{Q:Value->kw->Prop}(I:Inv X pins σ H s)(Z:Gl X x)(hm:X.mg x=some u)(h:Q u s)
  (hd:(x==("__debug__" : Str))=false:=by decide):wpAny (model X.prog X.w) X.A (eval (.Name x pos) X.env) Q E s :=
 Calls.Name_function_global I.ok.kind Z (Calls.loadGlobal_global (by rw[I.ok.glob];exact I.mod.glob.keeps I.bk) hm h) hd
theorem rG {E:Value->kw->Prop}{pins:List (Addr×Obj)}{s:kw}{σ:St}{H:Hp}{x:Str}{u:Value}{pos:Pos}{Q:Value->kw->Prop}(I:Inv X pins σ H s)(hg:Gl X x)(hm:X.mg x=none)(Z:bootBuiltins x=some u)(h:Q u s)
  (hn:x ≠ "__name__" := by decide) (hd:(x==("__debug__" : Str))=false:=by decide):wpAny (model X.prog X.w) X.A (eval (.Name x pos) X.env) Q E s:=by
 obtain⟨mb,h1,h2⟩:=I.mod.blt;exact Calls.Name_function_global I.ok.kind hg (Calls.loadGlobal_builtin (by rw[I.ok.glob];exact I.mod.glob.keeps I.bk) hm (by rw[I.ok.blt];exact h1.keeps I.bk) ((h2 x hn).trans Z) h) hd
theorem cX {x:Str}{v:V}{u:Value}{pos:Pos}(Z:Gl X x)(hm:X.mg x=some u)(r:bE v u)(hd:(x==("__debug__" : Str))=false:=by decide):PE X (.Name x pos) (tC v) :=
 λ_ _ _ H _ I h=>iL I Z hm ⟨v,H,I,r,h⟩ hd
variable {a b:Expr}{ta tb:TE}{pos:Pos}
def PC (X:Cx)(Z:CmpOp)(a b:Expr)(t:TE):Prop :=
 ∀ (pins:List (Addr×Obj)) (s:kw) (σ:St) (H:Hp) (Q:VK),Inv X pins σ H s->t σ H Q ->
  wpAny (model X.prog X.w) X.A (eval a X.env) (λv s₁=>wpAny (model X.prog X.w) X.A (eval b X.env) (λu s₂=>wpAny (model X.prog X.w) X.A (compareOp Z v u) (EP X pins σ Q) X.xe s₂) X.xe s₁) X.xe s
theorem Cm (b:Expr){Z:CmpOp}(h:Z≠.In)(h2:Z≠.NotIn):behindInMarks Z b=false:=by
 have e1:(Z==CmpOp.In)=false:=by cases Z <;> first | rfl | exact absurd rfl h
 have e2:(Z==CmpOp.NotIn)=false:=by cases Z <;> first | rfl | exact absurd rfl h2
 cases b <;> simp[behindInMarks,e1,e2]
def aBV (ta:TE):TE:=λσ H Q=>ta σ H λx H1=>Q (.bl (decide (x = .non))) H1
def aAZ (ta:TE):TE:=λσ H Q=>ta σ H λx H1=>Q (.bl (!decide (x = .non))) H1
theorem bE.none_iff {x:V}{v:Value}(r:bE x v):(v==Value.none)=decide (x = .non):=by
 cases x with
 | non=>cases r;rfl
 | bl _=>cases r;rfl
 | int _=>obtain⟨t,rfl⟩:=r;rfl
 | str _=>obtain⟨t,rfl⟩:=r;rfl
 | byt _=>obtain⟨t,rfl⟩:=r;rfl
 | flt _=>obtain⟨t,rfl⟩:=r;rfl
 | ref _=>cases r;rfl
 | ty _=>cases r;rfl
theorem Gm {j pos'}(ha:PE X a ta):PC X .Is a (.Constant .none j pos') (aBV ta):=by
 intro pins s σ H Q I h;refine thn (ha pins s σ H _ I h) λv s1 ⟨x,H1,I1,r1,q1⟩=>?_
 exact Constant_none (is_none_gen ⟨.bl _,H1,I1,by rw[r1.none_iff];rfl,q1⟩)
theorem Ii {j pos'}(ha:PE X a ta):PC X .IsNot a (.Constant .none j pos') (aAZ ta):=by
 intro pins s σ H Q I h;refine thn (ha pins s σ H _ I h) λv s1 ⟨x,H1,I1,r1,q1⟩=>?_
 exact Constant_none (isnot_none_gen ⟨.bl _,H1,I1,by rw[r1.none_iff];rfl,q1⟩)
def tB (t:TE):TT:=λσ H Q=>t σ H λx H1=>∃ c,x = .bl c∧Q c H1
theorem Ru {Z:CmpOp}{t:TE}(h:PC X Z a b t)(h1:behindInMarks Z b=false:=by first | exact Cm _ (by decide) (by decide) | rfl):PE X (.Compare a [Z] [b] pos) t:=λpins s σ H Q I hw=>wpAny_Compare1 (h pins s σ H Q I hw) h1
theorem kX {Z:CmpOp}{t:TE}(h:PC X Z a b t)(h1:behindInMarks Z b=false:=by first | exact Cm _ (by decide) (by decide) | rfl):PT X (.Compare a [Z] [b] pos) (tB t):=by
 intro pins s σ H Q I hw;refine wpAny_isTrue_Compare1 (thn (h pins s σ H _ I hw) λv s1 h1=>thn h1 λu s2 h2=>thn h2 λc s3 ⟨x,H1,I1,r1,q1⟩=>?_) h1;obtain⟨d,rfl,q⟩:=q1;cases r1;exact A1 ⟨H1,I1,q⟩
theorem qK {e:Expr}{t:TE}(h:PE X e t)(he:∀ Z,isTrue e X.env Z=(do let v <- Z;standAt e.pos;holding [v] (truthy v)):=by intro _;rfl):PT X e (tB t):=by
 intro pins s σ H Q I hw;refine isTrue_plain (thn (h pins s σ H _ I hw) λv s1 ⟨x,H1,I1,r1,q1⟩=>?_) (he _);obtain⟨d,rfl,q⟩:=q1;cases r1;exact A1 ⟨H1,I1,q⟩
variable {tA tB':TT}{rest:List Expr}
def aBB (t u:TT):TT:=λσ H Q=>t σ H λc H1=>if c=true then u σ H1 Q else Q false H1
def tOr (t u:TT):TT:=λσ H Q=>t σ H λc H1=>if c=true then Q true H1 else u σ H1 Q
def aAo (t:TT):TT:=λσ H Q=>t σ H λc H1=>Q (!c) H1
theorem Ih (ha:PT X a tA):PW X (.BoolOp .And [a] pos) tA:=by
 intro Z pins s σ H Q I h;refine isTrue_and (thn (ha pins s σ H Q I h) λc s1 e=>?_)
 cases c with
 | true=>exact isTrue_and_nil e
 | false=>exact e
theorem Hm (ha:PT X a tA):PW X (.BoolOp .Or [a] pos) tA:=by
 intro Z pins s σ H Q I h;refine isTrue_or (thn (ha pins s σ H Q I h) λc s1 e=>?_)
 cases c with
 | false=>exact isTrue_or_nil e
 | true=>exact e
theorem Po (ha:PT X a tA)(hb:PW X (.BoolOp .And (b::rest) pos) tB'):PW X (.BoolOp .And (a::b::rest) pos) (aBB tA tB'):=by
 intro Z pins s σ H Q I h;refine isTrue_and (thn (ha pins s σ H _ I h) λc s1 ⟨H1,I1,q1⟩=>?_)
 cases c with
 | true=>exact hb Z pins s1 σ H1 Q I1 q1
 | false=>exact⟨H1,I1,q1⟩
theorem Nv (ha:PT X a tA)(hb:PW X (.BoolOp .Or (b::rest) pos) tB'):PW X (.BoolOp .Or (a::b::rest) pos) (tOr tA tB'):=by
 intro Z pins s σ H Q I h;refine isTrue_or (thn (ha pins s σ H _ I h) λc s1 ⟨H1,I1,q1⟩=>?_)
 cases c with
 | true=>exact⟨H1,I1,q1⟩
 | false=>exact hb Z pins s1 σ H1 Q I1 q1
theorem Gy (ha:PT X a tA):PT X (.UnaryOp .Not a pos) (aAo tA):=by
 intro pins s σ H Q I h;exact isTrue_not (ha pins s σ H (λc H1=>Q (!c) H1) I h)
def aAf (ta tb:TE):TE:=λσ H Q=>ta σ H λx H1=>∃ c,x = .bl c∧if c=true then tb σ H1 Q else Q (.bl false) H1
def aAb (ta:TE):TE:=λσ H Q=>ta σ H λx H1=>∃ c,x = .bl c∧Q (.bl (!c)) H1
theorem uR {op}{t:TE}(h:PE X a t):PE X (.BoolOp op [a] pos) t:=λpins s σ H Q I hw=>BoolOp_one (h pins s σ H Q I hw)
theorem qV (ha:PE X a ta)(hb:PE X (.BoolOp .And (b::rest) pos) tb):PE X (.BoolOp .And (a::b::rest) pos) (aAf ta tb):=by
 intro pins s σ H Q I h;refine BoolOp_and (thn (ha pins s σ H _ I h) λv s1 ⟨x,H1,I1,r1,Z⟩=>?_);obtain⟨c,rfl,Z⟩:=Z;cases r1;refine A1 ?_
 cases c with
 | true=>exact hb pins s1 σ H1 Q I1 Z
 | false=>exact⟨.bl false,H1,I1,rfl,Z⟩
theorem Gx (ha:PE X a ta):PE X (.UnaryOp .Not a pos) (aAb ta):=by
 intro pins s σ H Q I h;refine UnaryOp_ (thn (ha pins s σ H _ I h) λv s1 ⟨x,H1,I1,r1,Z⟩=>?_);obtain⟨c,rfl,Z⟩:=Z;cases r1;exact not_of (A1 ⟨.bl (!c),H1,I1,rfl,Z⟩)
def tIf (t:TT)(ta tb:TE):TE:=λσ H Q=>t σ H λc H1=>if c=true then ta σ H1 Q else tb σ H1 Q
theorem Ps {c:Expr}(Z:PT X c tA)(ha:PE X a ta)(hb:PE X b tb):PE X (.IfExp c a b pos) (tIf tA ta tb):=by
 intro pins s σ H Q I h;refine wpAny_IfExp (thn (Z pins s σ H _ I h) λd s1 ⟨H1,I1,q1⟩=>?_)
 cases d with
 | true=>exact ha pins s1 σ H1 Q I1 q1
 | false=>exact hb pins s1 σ H1 Q I1 q1
end
def SqL (K:ac)(H:Hp)(a:Addr)(xs:List V):Prop :=
 Rd H a (.lst xs) ∨
  ∃ (o:Obj) (Z:Array Value) (n:Nat),K.lookup a=some o∧o.cls = .type "list" ∧ o.dict=none∧o.data = .seq Z n∧Z.size<=sizeLine∧aZ xs Z.toList
def SqT (K:ac)(H:Hp)(a:Addr)(xs:List V):Prop :=
 Rd H a (.tup xs) ∨
  ∃ (o:Obj) (Z:Array Value) (n:Nat),K.lookup a=some o∧o.cls = .type "tuple" ∧ o.data = .seq Z n∧Z.size<=sizeLine∧aZ xs Z.toList
def aBU:Value->Option V
 | .none=>some .non
 | .bool b=>some (.bl b)
 | .int i _=>some (.int i)
 | .str x _=>some (.str x)
 | .bytes b _=>some (.byt b)
 | .float b _=>some (.flt b)
 | .ref a=>some (.ref a)
 | .type n=>some (.ty n)
 | _=>none
theorem bE.abs {x:V}{u:Value}(r:bE x u):aBU u=some x:=by
 cases x with
 | non=>cases r;rfl
 | bl _=>cases r;rfl
 | int _=>obtain⟨t,rfl⟩:=r;rfl
 | str _=>obtain⟨t,rfl⟩:=r;rfl
 | byt _=>obtain⟨t,rfl⟩:=r;rfl
 | flt _=>obtain⟨t,rfl⟩:=r;rfl
 | ref _=>cases r;rfl
 | ty _=>cases r;rfl
theorem bE.inj {x y:V}{u:Value}(r:bE x u)(q:bE y u):x=y:=av (r.abs.symm.trans q.abs)
theorem aZ.inj:∀ {xs ys:List V} {us:List Value},aZ xs us->aZ ys us->xs=ys
 | _,_,_,.nil,.nil=>rfl
 | _,_,_,.cons r t,.cons r' t'=>by rw[r.inj r',aZ.inj t t']
section
variable {X:Cx}{pins:List (Addr×Obj)}{σ:St}{H:Hp}{s:kw}{a:Addr}{xs ys:List V}
theorem SqL.of {K:ac}(h:H a=some (.lst xs)):SqL K H a xs:=.inl (.inl h)
theorem SqT.of {K:ac}(h:H a=some (.tup xs)):SqT K H a xs:=.inl (.inl h)
theorem Inv.list (I:Inv X pins σ H s)(h:SqL X.K H a xs):∃ Z:List Value,aZ xs Z∧PlainL s.heap a Z.toArray∧xs.length<=sizeLine:=by
 rcases h with h | ⟨o,Z,n,hk,hc,hd,hs,hz,r⟩
 ·obtain⟨z,Z,n,r,e⟩:=h.ok I.hok
  exact⟨Z,r,⟨_,n,e,rfl,rfl,rfl⟩,z⟩
 ·refine⟨Z.toList,r,⟨o,n,I.kIn a o hk,hc,hd,by simpa using hs⟩,?_⟩
  have e:=r.length;simp only [bh] at e;omega
theorem Inv.tuple (I:Inv X pins σ H s)(h:SqT X.K H a xs):∃ Z:List Value,aZ xs Z∧IsTup s.heap a Z.toArray∧xs.length<=sizeLine:=by
 rcases h with h | ⟨o,Z,n,hk,hc,hs,hz,r⟩
 ·obtain⟨z,Z,r,p⟩:=h.ok I.hok
  exact⟨Z,r,p,z⟩
 ·refine⟨Z.toList,r,⟨o,I.kIn a o hk,hc,n,by simpa using hs⟩,?_⟩
  have e:=r.length;simp only [bh] at e;omega
theorem Inv.list_inj (I:Inv X pins σ H s)(h:SqL X.K H a xs)(h':SqL X.K H a ys):xs=ys:=by
 obtain⟨Z,r,⟨o,n,e,_,_,d⟩,_⟩:=I.list h;obtain⟨its',r',⟨o',n',e',_,_,d'⟩,_⟩:=I.list h';rw[e] at e';cases e';rw[d] at d'
 injection d' with d1 _
 have:Z=its':=by simpa using congrArg wn d1
 subst this;exact r.inj r'
theorem Inv.tuple_inj (I:Inv X pins σ H s)(h:SqT X.K H a xs)(h':SqT X.K H a ys):xs=ys:=by
 obtain⟨Z,r,⟨o,e,_,n,d⟩,_⟩:=I.tuple h;obtain⟨its',r',⟨o',e',_,n',d'⟩,_⟩:=I.tuple h';rw[e] at e';cases e';rw[d] at d'
 injection d' with d1 _
 have:Z=its':=by simpa using congrArg wn d1
 subst this;exact r.inj r'
end
abbrev Cx.wish (X:Cx)(E:Value->kw->Prop):Cx:={ X with xe:=E }
abbrev Cx.nox (X:Cx):Cx:=X.wish λ_ _=>False
theorem Cx.Ok.wish {X:Cx}(ok:X.Ok)(E:Value->kw->Prop):(X.wish E).Ok :=
 ⟨ok.mod,ok.kind,ok.glob,ok.blt,ok.above,ok.inj,ok.has,ok.cab,ok.hd,ok.frames,ok.stk,ok.exf,ok.bs,ok.bsz,ok.noex,ok.exfs,ok.funs,ok.frf⟩
theorem Cx.Ok.unwish {X:Cx}{E:Value->kw->Prop}(ok:(X.wish E).Ok):X.Ok :=
 ⟨ok.mod,ok.kind,ok.glob,ok.blt,ok.above,ok.inj,ok.has,ok.cab,ok.hd,ok.frames,ok.stk,ok.exf,ok.bs,ok.bsz,ok.noex,ok.exfs,ok.funs,ok.frf⟩
section
variable {X:Cx}{pins:List (Addr×Obj)}{σ:St}{H:Hp}{s:kw}{E:Value->kw->Prop}
theorem Inv.wish (I:Inv X pins σ H s)(E:Value->kw->Prop):Inv (X.wish E) pins σ H s:=⟨I.ok.wish E,I.os,I.bare,I.base,I.loc,I.cell,I.free,I.freeC,I.pin,I.hok,I.len⟩
theorem Inv.unwish (I:Inv (X.wish E) pins σ H s):Inv X pins σ H s:=⟨I.ok.unwish,I.os,I.bare,I.base,I.loc,I.cell,I.free,I.freeC,I.pin,I.hok,I.len⟩
theorem SP.unwish {D:jJ}{f:Flow}{s':kw}(h:SP (X.wish E) pins D f s'):SP X pins D f s':=by
 cases f with
 | next=>obtain⟨σ',H',I,q⟩:=h;exact⟨σ',H',I.unwish,q⟩
 | brk=>obtain⟨σ',H',I,q⟩:=h;exact⟨σ',H',I.unwish,q⟩
 | cont=>obtain⟨σ',H',I,q⟩:=h;exact⟨σ',H',I.unwish,q⟩
 | ret u=>obtain⟨v,σ',H',I,r,q⟩:=h;exact⟨v,σ',H',I.unwish,r,q⟩
theorem PSs.nox {st:List Stmt}{t:TS}(h:PSs X.nox st t):PSs X st t:=λpins s σ H D I hw =>
 AJ (h pins s σ H D (I.wish _) hw) (λ_ _ q=>q.unwish) λ_ _ z=>False.elim z
end
section
variable {X:Cx}{st:Stmt}{rest:List Stmt}{t u:TS}{e:Expr}{te:TE}{pos:Pos}
def Zv:TS:=λD σ H=>D.nx σ H
def aBP (t u:TS):TS:=λD σ H=>t { D with nx:=u D } σ H
theorem aV:PSs X [] Zv:=λ_ _ σ H _ I h=>A0 ⟨σ,H,I,h⟩
theorem aB (h1:PS X st t)(h2:PSs X rest u):PSs X (st::rest) (aBP t u):=by
 intro pins s σ H D I h;refine wpAny_execs_cons (thn (h1 pins s σ H { D with nx:=u D } I h) λf s1 q=>?_)
 cases f with
 | next =>
  obtain⟨σ',H',Z,q⟩:=q;exact h2 pins s1 σ' H' D Z q
 | ret v=>exact q
 | brk=>exact q
 | cont=>exact q
theorem aE (h1:PS X st t):PSs X [st] t:=by
 intro pins s σ H D I h;refine wpAny_execs_cons (thn (h1 pins s σ H D I h) λf s1 q=>?_)
 cases f with
 | next=>exact A0 q
 | ret v=>exact q
 | brk=>exact q
 | cont=>exact q
theorem Inv.quiet {pins:List (Addr×Obj)}{σ:St}{H:Hp}{s:kw}(I:Inv X pins σ H s):interactive X.env=false:=by simp[interactive,I.ok.kind]
def Za (te:TE):TS:=λD σ H=>te σ H λ_ H1=>D.nx σ H1
theorem eU (he:PE X e te)(Z:swapsWith e none pos.line X.env=pure false:=by rfl):PS X (.Expr e pos) (Za te):=by
 intro pins s σ H D I h;exact wpAny_Expr_any (thn (he pins s σ H _ I h) λv s1 ⟨x,H1,I1,r1,q1⟩=>⟨σ,H1,I1,q1⟩) I.quiet Z
def aBA (te:TE):TS:=λD σ H=>te σ H D.rt
theorem aQ (Z:PE X e te):PS X (.Return (some e) pos) (aBA te):=by
 intro pins s σ H D I h;exact wpAny_Return_some (thn (Z pins s σ H _ I h) λv s1 ⟨x,H1,I1,r1,q1⟩=>⟨x,σ,H1,I1,r1,q1⟩)
def aAr (c:TT)(t u:TS):TS:=λD σ H=>c σ H λb H1=>if b=true then t D σ H1 else u D σ H1
theorem bR {c:Expr}{a b:List Stmt}{tc:TT}(Z:PT X c tc)(ha:PSs X a t)(hb:PSs X b u):PS X (.If c a b pos) (aAr tc t u):=by
 intro pins s σ H D I h;refine wpAny_If (thn (Z pins s σ H _ I h) λd s1 ⟨H1,I1,q1⟩=>?_)
 cases d with
 | true=>exact ha pins s1 σ H1 D I1 q1
 | false=>exact hb pins s1 σ H1 D I1 q1
end
abbrev TG:=V->St->Hp->(St->Hp->Prop)->Prop
abbrev TGs:=List V->St->Hp->(St->Hp->Prop)->Prop
def PG (X:Cx)(Z:Expr)(t:TG):Prop :=
 ∀ (pins:List (Addr×Obj)) (s:kw) (σ:St) (H:Hp) (v:V) (u:Value) (Q:St->Hp->Prop),Inv X pins σ H s->bE v u->t v σ H Q ->
  wpAny (model X.prog X.w) X.A (assign Z X.env u) (λ_ s'=>∃ σ' H',Inv X pins σ' H' s'∧Q σ' H') X.xe s
def PGs (X:Cx)(ts:List Expr)(t:TGs):Prop :=
 ∀ (pins:List (Addr×Obj)) (s:kw) (σ:St) (H:Hp) (vs:List V) (us:List Value) (Q:St->Hp->Prop),Inv X pins σ H s->aZ vs us->t vs σ H Q ->
  wpAny (model X.prog X.w) X.A (assignInOrder ((assignEach ts X.env).map (·.2)) us) (λ_ s'=>∃ σ' H',Inv X pins σ' H' s'∧Q σ' H') X.xe s
abbrev Wi:=V->V->V->Hp->(Hp->Prop)->Prop
def Xh (X:Cx)(t:Wi):Prop :=
 ∀ (pins:List (Addr×Obj)) (s:kw) (σ:St) (H:Hp) (o i v:V) (Z iv u:Value) (Q:Hp->Prop),Inv X pins σ H s->bE o Z->bE i iv->bE v u->t o i v H Q ->
  wpAny (model X.prog X.w) X.A (setItem Z iv u) (λ_ s'=>∃ H',Inv X pins σ H' s'∧Q H') X.xe s
section
variable {X:Cx}{pos:Pos}
def yT (i:Nat):TG:=λv σ H Q=>Q (σ.set i (some v)) H
theorem bO {i:Nat}{x:Str}(hN:X.N.Nodup)(hi:X.N[i]?=some x)(hx:Loc X.env.scope x)(hf:X.fn x=true∨X.env.scope.names.lookup x=some .local:=by first | exact .inl rfl | exact .inr rfl | assumption):PG X (.Name x pos) (yT i):=by
 intro pins s σ H v u Q I r h;exact wpAny_assign_Name (lC I hN hi hx r (λs' Z=>⟨_,H,Z,h⟩) hf)
def aBC:TGs:=λvs σ H Q=>vs=[]∧Q σ H
def aAd (t:TG)(u:TGs):TGs:=λvs σ H Q=>∃ v r,vs=v::r∧t v σ H λσ' H'=>u r σ' H' Q
theorem Ay:PGs X [] aBC:=by
 intro pins s σ H vs us Q I r h;obtain⟨e,h⟩:=h;subst e;cases r;exact assignInOrder_nil ⟨σ,H,I,h⟩
theorem jK {e:Expr}{es:List Expr}{t:TG}{u:TGs}(h1:PG X e t)(h2:PGs X es u)
  (hs:(assignEach (e::es) X.env).map (·.2)=assign e X.env::(assignEach es X.env).map (·.2):=by rfl):PGs X (e::es) (aAd t u):=by
 intro pins s σ H vs us Q I r h;obtain⟨v,vr,Z,h⟩:=h;subst Z
 cases r with
 | cons r rr =>
  rw[hs];refine assignInOrder_cons (thn (h1 pins s σ H _ _ _ I r h) λ_ s1 ⟨σ1,H1,I1,q1⟩=>?_);exact h2 pins s1 σ1 H1 _ _ Q I1 rr q1
def aAt (K:ac)(n:Nat)(t:TGs):TG:=λv σ H Q=>∃ a xs,v = .ref a∧SqT K H a xs∧xs.length=n∧t xs σ H Q
theorem Ff {es:List Expr}{k:Nat}{t:TGs}{n:Nat}(hc:X.calm=true)(h:PGs X es t)
  (hn:(assignEach es X.env).length=n:=by rfl) (Z:(assignEach es X.env).findIdx? (·.1)=none:=by rfl):PG X (.Tuple es k pos) (aAt X.K n t):=by
 intro pins s σ H v u Q I r hw;obtain⟨a,xs,e1,hq,hl,hw⟩:=hw;subst e1;cases r;obtain⟨gV,rv,ht,hz⟩:=I.tuple hq;refine assign_Tuple_tuple (I.ok.hd hc) ht (by simp[hn,<- hl,rv.length]) Z λh' hx=>?_
 have I1:Inv X pins σ H { s with heap:=h' }:=I.kept (t':=s.toks) λb o e=>hx b o (az (AV e)) e
 exact h pins _ σ H xs _ Q I1 (by simpa using rv) hw
def aAs (to Z:TE)(t:Wi):TG:=λv σ H Q=>to σ H λo H1=>Z σ H1 λi H2=>t o i v H2 λH3=>Q σ H3
theorem Yj {o i:Expr}{to ti:TE}{t:Wi}(ho:PE X o to)(hi:PE X i ti)(hs:Xh X t)
  (ha:∀ v,assign (.Subscript o i pos) X.env v=(do
   let Z <- holding [v] (eval o X.env)
   let iv <- holding [v,Z] (eval i X.env)
   standAt pos
   holding [v,Z,iv] (setItem Z iv v)
   release [v,Z,iv] []):=by intro _;rfl):PG X (.Subscript o i pos) (aAs to ti t):=by
 intro pins s σ H v u Q I r h;rw[ha];refine AA (AM (thn (ho pins s σ H _ I h) λZ s1 ⟨x,H1,I1,r1,q1⟩=>?_));refine AA (AM (thn (hi pins s1 σ H1 _ I1 q1) λiv s2 ⟨y,H2,I2,r2,q2⟩=>?_));refine AA (wpAny_standAt (AA (AM (thn (hs pins s2 σ H2 x y v Z iv u _ I2 r1 r2 r q2) λ_ s3 ⟨H3,I3,q3⟩=>?_))));exact wpAny_release ⟨σ,H3,I3,q3⟩
def Pa (te:TE)(g:TG):TS:=λD σ H=>te σ H λx H1=>g x σ H1 D.nx
theorem Rx {tg e:Expr}{te:TE}{g:TG}(he:PE X e te)(Z:PG X tg g)(hs:swapsWithSole [tg] e pos.line X.env=pure false:=by rfl)(hw:swappedStores [tg] e X.env=pure none:=by rfl)
  (h1:(assignEach [tg] X.env).map (·.2)=[assign tg X.env]:=by rfl):PS X (.Assign [tg] e pos) (Pa te g):=by
 intro pins s σ H D I h;refine wpAny_Assign_stores (thn (he pins s σ H _ I h) λv s1 ⟨x,H1,I1,r1,q1⟩=>?_) hs hw;rw[h1];exact thn (Z pins s1 σ H1 x v _ I1 r1 q1) λ_ s2 q=>q
theorem aJ {i:Nat}{x:Str}{e:Expr}{te:TE}{pos':Pos}(Z:X.N.Nodup)(hi:X.N[i]?=some x)(hx:Loc X.env.scope x)(he:PE X e te)(hs:swapsWith e (some (.Name x pos')) pos.line X.env=pure false:=by rfl)(hf:X.fn x=true∨X.env.scope.names.lookup x=some .local:=by first | exact .inl rfl | exact .inr rfl | assumption) :
  PS X (.Assign [.Name x pos'] e pos) (Pa te (yT i)):=by
 intro pins s σ H D I h;refine wpAny_Assign_Name (thn (he pins s σ H _ I h) λv s1 ⟨y,H1,I1,r1,q1⟩=>?_) hs;exact lC I1 Z hi hx r1 (λs2 I2=>⟨_,H1,I2,q1⟩) hf
def Ye (c:TT)(tb:TS):TS:=λD σ H=>∃ W:Nat->St->Hp->Prop,(∃ m,W m σ H)∧∀ m σ H,W m σ H ->
 c σ H λb H1=>if b=true then ∃ N:St->Hp->Prop,(∀ σ' H',N σ' H'->∃ Z,Z<m∧W Z σ' H')∧tb { D with nx:=N,ct:=N,bk:=D.nx } σ H1 else D.nx σ H1
theorem lI {c:Expr}{Z:List Stmt}{tc:TT}{tb:TS}(hp:PassesOwn (model X.prog X.w) X.A X.env X.xe)(hc:PT X c tc)(hb:PSs X Z tb):PS X (.While c Z [] pos) (Ye tc tb):=by
 intro pins s σ H D I h;obtain⟨W,⟨m0,w0⟩,gV⟩:=h;refine wpAny_While (codeAny_whileLoop (λn s'=>∃ σ' H',Inv X pins σ' H' s'∧W n σ' H') ?_ m0 ⟨σ,H,I,w0⟩);rintro n s1 ⟨σ1,H1,I1,w1⟩;refine wpAny_passesOwn hp (thn (hc pins s1 σ1 H1 _ I1 (gV n σ1 H1 w1)) λb s2 ⟨H2,I2,q2⟩=>?_)
 cases b with
 | true =>
  obtain⟨N,hN,q2⟩:=q2;rw[AD rfl];refine wpAny_passesOwn hp (thn (hb pins s2 σ1 H2 _ I2 q2) λf s3 q3=>?_)
  cases f with
  | next =>
   obtain⟨σ3,H3,I3,n3⟩:=q3;obtain⟨m',hm,w3⟩:=hN σ3 H3 n3;exact⟨m',hm,σ3,H3,I3,w3⟩
  | cont =>
   obtain⟨σ3,H3,I3,n3⟩:=q3;obtain⟨m',hm,w3⟩:=hN σ3 H3 n3;exact⟨m',hm,σ3,H3,I3,w3⟩
  | brk=>exact q3
  | ret v=>exact q3
 | false =>
  rw[AC ag];exact A0 ⟨σ1,H2,I2,q2⟩
end
structure It where
 go:Nat->Hp->Prop
 yld:Nat->Hp->V->Hp->Prop
 stop:Nat->Hp->Prop
def mT (X:Cx)(pins:List (Addr×Obj))(H:Hp)(b:Addr):Prop :=
 H b=none∧b≠X.env.locals∧b∉X.fs∧(b∈X.ex∨X.s₀.heap.objs.size<=b)∧(∀ x c,X.env.cells.lookup x=some c->c≠b)∧∀ p∈X.pn++pins,p.1≠b
theorem Inv.fpOk {X:Cx}{pins:List (Addr×Obj)}{σ:St}{H H':Hp}{s:kw}{b:Addr}(I:Inv X pins σ H s)(hb:s.heap.objs.size<=b)(hn:H' b=none):mT X pins H' b:=by
 refine⟨hn,gn (bi I.lt hb),I.nofs hb,.inr (a5 I.sz hb),λx c e z=>?_,λp Z z=>?_⟩
 ·obtain⟨v,q⟩:=I.cell x c e
  exact absurd (bi q.lt (by rw[z];exact hb)) (e9 _)
 ·exact absurd (bi (AV (I.pin p Z).1) (by rw[z];exact hb)) (e9 _)
structure wQ (P:xv)(w:World)(K:ac)(tg:Expr)(J:It)(fp:List Addr)(it:Addr)(tn:Nat->Heap->Prop):Prop where
 mem:it∈fp
 obj:∀ i h,tn i h->∀ b∈fp,∃ o,h.get? b=some o∧∀ v,o.data≠.cell v
 keep:∀ i h h',tn i h->(∀ b∈fp,∀ o,h.get? b=some o->h'.get? b=some o)->tn i h'
 item:∀ (X:Cx),X.prog=P->X.w=w->X.K=K->X.calm=true->∀ (i:Nat) (pins:List (Addr×Obj)) (s:kw) (σ:St) (H:Hp) (E:Value->kw->Prop),Inv X pins σ H s->(∀ b∈fp,mT X pins H b)->tn i s.heap->J.go i H ->
  wpAny (model P w) X.A (pyNext (.ref it)) (λr s1=>∃ u,r=some u ∧
   wpAny (model P w) X.A (letOwnedTupleGo tg (.ref it) u) (λ_ s2=>∃ x H',Inv X pins σ H' s2∧bE x u∧J.yld i H x H'∧tn (i+1) s2.heap∧∀ b∈fp,H' b=none) E s1) E s
 done:∀ (X:Cx),X.prog=P->X.w=w->X.K=K->X.calm=true->∀ (i:Nat) (pins:List (Addr×Obj)) (s:kw) (σ:St) (H:Hp) (E:Value->kw->Prop),Inv X pins σ H s->(∀ b∈fp,mT X pins H b)->tn i s.heap->J.stop i H ->
  wpAny (model P w) X.A (pyNext (.ref it)) (λr s1=>r=none∧Inv X pins σ H s1) E s
 self:∀ (A:Around) (i:Nat) (s:kw) (Q:Value->kw->Prop) (E:Value->kw->Prop),tn i s.heap->Q (.ref it) s->wpAny (model P w) A (pyIter (.ref it)) Q E s
abbrev TI:=St->Hp->(It->Hp->Prop)->Prop
def PIE (X:Cx)(pins:List (Addr×Obj))(σ:St)(tg:Expr)(R:It->Hp->Prop)(Z:Value)(s2:kw):Prop :=
 ∃ (it:Addr) (fp:List Addr) (tn:Nat->Heap->Prop) (J:It) (H':Hp),Z = .ref it∧Inv X pins σ H' s2∧wQ X.prog X.w X.K tg J fp it tn∧tn 0 s2.heap∧(∀ b∈fp,mT X pins H' b)∧R J H'
def PI (X:Cx)(tg iter:Expr)(wi:TI):Prop :=
 ∀ (pins:List (Addr×Obj)) (s:kw) (σ:St) (H:Hp) (R:It->Hp->Prop),Inv X pins σ H s->wi σ H R ->
  wpAny (model X.prog X.w) X.A (eval iter X.env) (λv s1=>wpAny (model X.prog X.w) X.A (pyIter v) (PIE X pins σ tg R) X.xe s1) X.xe s
theorem Ja {M : Model} {A : Around} {E : Value → kw → Prop} {s : kw} {tg : Expr} {it : Addr} {u : Value} {o : Obj} {n : String} {vs : Array Value} {Q : Unit → kw → Prop} (ho : s.heap.get? it = some o) (hc : o.cls = .type n) (hd : o.data = .fields vs)
    (hn : ["enumerate", "zip", "dict_itemiterator", "dict_reverseitemiterator", "odict_iterator", "itertools.zip_longest", "itertools.pairwise"].contains n = false) (Z : Q () s) : wpAny M A (letOwnedTupleGo tg (.ref it) u) Q E s := by
  unfold letOwnedTupleGo;cases tg <;> first
    | exact AB Z
    | (cases u <;> first
        | exact AB Z
        | (refine AA (wpAny_load ho ?_)
           rw[hc, hd];show wpAny M A (if (["enumerate", "zip", "dict_itemiterator", "dict_reverseitemiterator", "odict_iterator", "itertools.zip_longest", "itertools.pairwise"].contains n && vs[0]? == some (rawInt _)) = true then _ else _) Q E s
           rw[AC (by intro h; rw[hn, rj] at h; cases h)];exact AB Z))
def Itl (K:ac)(a:Addr):It :=
 ⟨λi H=>∃ xs x,SqL K H a xs∧xs[i]?=some x,λi H x H'=>H'=H∧∀ xs,SqL K H a xs->xs[i]?=some x,λi H=>∃ xs,SqL K H a xs∧xs.length<=i⟩
def Itt (K:ac)(a:Addr):It :=
 ⟨λi H=>∃ xs x,SqT K H a xs∧xs[i]?=some x,λi H x H'=>H'=H∧∀ xs,SqT K H a xs->xs[i]?=some x,λi H=>∃ xs,SqT K H a xs∧xs.length<=i⟩
def Itr (lo:Int)(n:Nat):It:=⟨λi _=>i<n,λi H x H'=>H'=H∧x = .int (lo+i),λi _=>n<=i⟩
theorem yY {P:xv}{w:World}{K:ac}{tg:Expr}(a it:Addr):wQ P w K tg (Itl K a) [it] it (λi h=>h.IsListIter it a i) where
 mem:=by simp
 obj:=λi h st b hb=>by
  have e:b=it:=by simpa using hb
  subst e;obtain⟨o,e,c,d⟩:=st;exact⟨o,e,λv z=>by rw[d] at z;cases z⟩
 keep:=λi h h' st k=>st.at λo e=>k it (by simp) o e
 item:=by
  intro X hP hw hK hc i pins s σ H E I hf st hg;subst hP hw hK;obtain⟨xs,x,Z,hx⟩:=hg;obtain⟨gV,rv,p,hz⟩:=I.list Z;obtain⟨u,hu,ru⟩:=rv.get hx;obtain⟨f0,f1,f2,f3,f4,f5⟩:=hf it (by simp);refine wpAny_pyNext_list_item st p.isList (x:=u) (by simpa using hu) λh' st' sb=>?_
  have I1:Inv X pins σ H { s with heap:=h' }:=I.turned (t':=s.toks) (λb o hb e=>(sb.2 b hb).trans e) f0 f1 f3 f4 f5;obtain⟨o,e,c,d⟩:=id st';exact⟨u,rfl,Ja (s:={ s with heap:=h' }) e c d (by decide) ⟨x,H,I1,ru,⟨rfl,λys hy=>by rw[I.list_inj hy Z];exact hx⟩,st',λb hb=>(hf b hb).1⟩⟩
 done:=by
  intro X hP hw hK hc i pins s σ H E I hf st hg;subst hP hw hK;obtain⟨xs,Z,hx⟩:=hg;obtain⟨gV,rv,p,hz⟩:=I.list Z;obtain⟨f0,f1,f2,f3,f4,f5⟩:=hf it (by simp);have hl:=rv.length;exact wpAny_pyNext_list_end (I.ok.hd hc) st p.isList (by simp;omega) λh' eb=>⟨rfl,I.turned (t':=s.toks) (λb o hb e=>eb b o hb e) f0 f1 f3 f4 f5⟩
 self:=λ_ _ _ _ _ st h=>wpAny_pyIter_listiter st h
theorem vR {P:xv}{w:World}{K:ac}{tg:Expr}(a it:Addr):wQ P w K tg (Itt K a) [it] it (λi h=>h.IsTupleIter it a i) where
 mem:=by simp
 obj:=λi h st b hb=>by
  have e:b=it:=by simpa using hb
  subst e;obtain⟨o,e,c,d⟩:=st;exact⟨o,e,λv z=>by rw[d] at z;cases z⟩
 keep:=λi h h' st k=>st.at λo e=>k it (by simp) o e
 item:=by
  intro X hP hw hK hc i pins s σ H E I hf st hg;subst hP hw hK;obtain⟨xs,x,hq,hx⟩:=hg;obtain⟨Z,rv,p,hz⟩:=I.tuple hq;obtain⟨u,hu,ru⟩:=rv.get hx;obtain⟨f0,f1,f2,f3,f4,f5⟩:=hf it (by simp);refine wpAny_pyNext_tuple_item st (show s.heap.IsTuple a Z.toArray from p) (x:=u) (by simpa using hu) λh' st' sb=>?_
  have I1:Inv X pins σ H { s with heap:=h' }:=I.turned (t':=s.toks) (λb o hb e=>(sb.2 b hb).trans e) f0 f1 f3 f4 f5;obtain⟨o,e,c,d⟩:=id st';exact⟨u,rfl,Ja (s:={ s with heap:=h' }) e c d (by decide) ⟨x,H,I1,ru,⟨rfl,λys hy=>by rw[I.tuple_inj hy hq];exact hx⟩,st',λb hb=>(hf b hb).1⟩⟩
 done:=by
  intro X hP hw hK hc i pins s σ H E I hf st hg;subst hP hw hK;obtain⟨xs,hq,hx⟩:=hg;obtain⟨Z,rv,p,hz⟩:=I.tuple hq;obtain⟨f0,f1,f2,f3,f4,f5⟩:=hf it (by simp);have hl:=rv.length;exact wpAny_pyNext_tuple_end (I.ok.hd hc) st (show s.heap.IsTuple a Z.toArray from p) (by simp;omega) λh' eb=>⟨rfl,I.turned (t':=s.toks) (λb o hb e=>eb b o hb e) f0 f1 f3 f4 f5⟩
 self:=λ_ _ _ _ _ st h=>wpAny_pyIter_tupleiter st h
theorem Ge {P:xv}{w:World}{K:ac}{tg:Expr}(it:Addr)(lo:Int)(n:Nat):wQ P w K tg (Itr lo n) [it] it (λi h=>IsRangeIter h it (lo+(i:Nat)*1) ((n:Int)-(i:Nat)) 1) where
 mem:=by simp
 obj:=λi h st b hb=>by
  have e:b=it:=by simpa using hb
  subst e;exact⟨_,st,λv z=>by
   have z':Data.fields _=Data.cell v:=z;cases z'⟩
 keep:=λi h h' st k=>k it (by simp) _ st
 item:=by
  intro X hP hw hK hc i pins s σ H E I Z st hg;subst hP hw hK;obtain⟨f0,f1,f2,f3,f4,f5⟩:=Z it (by simp);have W:=Walks.range (prog:=X.prog) (w:=X.w) (I.ok.hd hc) it lo 1 n;refine W.item i s _ _ hg st λv h' tk hv st' kk=>?_
  obtain⟨t,rfl⟩:=hv;have I1:Inv X pins σ H { s with heap:=h',toks:=tk }:=I.turned (λb o hb e=>kk b o (by simpa using hb) e) f0 f1 f3 f4 f5;refine⟨_,rfl,Ja (s:={ s with heap:=h',toks:=tk }) (n := "range_iterator") st' rfl rfl (by decide) ⟨.int (lo+i),H,I1,⟨t,?_⟩,⟨rfl,rfl⟩,st',λb hb=>(Z b hb).1⟩⟩
  rw[mz]
 done:=by
  intro X hP hw hK hc i pins s σ H E I Z st hg;subst hP hw hK;obtain⟨f0,f1,f2,f3,f4,f5⟩:=Z it (by simp);exact wpAny_pyNext_range_end (I.ok.hd hc) st (by have:n<=i:=hg;omega) λh' eb=>⟨rfl,I.turned (t':=s.toks) (λb o hb e=>eb b o hb e) f0 f1 f3 f4 f5⟩
 self:=λ_ _ _ _ _ st h=>wpAny_pyIter_rangeiter st h
section
variable {X:Cx}{tg:Expr}
def aAY (K:ac)(tl:TE):TI:=λσ H R=>tl σ H λx H1=>∃ a,x = .ref a∧(∃ xs,SqL K H1 a xs)∧R (Itl K a) H1
def aAx (K:ac)(tl:TE):TI:=λσ H R=>tl σ H λx H1=>∃ a,x = .ref a∧(∃ xs,SqT K H1 a xs)∧R (Itt K a) H1
theorem cN {l:Expr}{tl:TE}(hl:PE X l tl):PI X tg l (aAY X.K tl):=by
 intro pins s σ H R I h;refine thn (hl pins s σ H _ I h) λv s1 ⟨x,H1,I1,r1,q1⟩=>?_
 obtain⟨a,e,⟨xs,Z⟩,q⟩:=q1;subst e;cases r1;obtain⟨gV,rv,p,hz⟩:=I1.list Z;refine wpAny_pyIter_list p.isList ?_;refine⟨s1.heap.objs.size,[s1.heap.objs.size],_,_,H1,rfl,I1.kept (t':=s1.toks) λb o e=>AT _ e,yY a _,⟨_,AU _ rfl,rfl,rfl⟩,λb hb=>?_,q⟩;have e:b=s1.heap.objs.size:=by simpa using hb
 subst e;exact I1.fpOk (af _) (I1.hok.fresh (af _))
theorem tS {l:Expr}{tl:TE}(hl:PE X l tl):PI X tg l (aAx X.K tl):=by
 intro pins s σ H R I h;refine thn (hl pins s σ H _ I h) λv s1 ⟨x,H1,I1,r1,q1⟩=>?_
 obtain⟨a,e,⟨xs,hq⟩,q⟩:=q1;subst e;cases r1;obtain⟨Z,rv,p,hz⟩:=I1.tuple hq;refine wpAny_pyIter_tuple (show s1.heap.IsTuple a Z.toArray from p) ?_;refine⟨s1.heap.objs.size,[s1.heap.objs.size],_,_,H1,rfl,I1.kept (t':=s1.toks) λb o e=>AT _ e,vR a _,⟨_,AU _ rfl,rfl,rfl⟩,λb hb=>?_,q⟩;have e:b=s1.heap.objs.size:=by simpa using hb
 subst e;exact I1.fpOk (af _) (I1.hok.fresh (af _))
theorem Cq {pins:List (Addr×Obj)}{σ:St}{H:Hp}{s:kw}{R:It->Hp->Prop}{E:Value->kw->Prop}{lo hi:Int}{t u v:Tok}{tk:Nat}(I:Inv X pins σ H s)(h1 : -(2 ^ 62)<=lo)(h2:lo<2 ^ 62)(h3 : -(2 ^ 62)<=hi)(h4:hi<2 ^ 62)
  (q:R (Itr lo (hi-lo).toNat) H):wpAny (model X.prog X.w) X.A (pyIter (.ref s.heap.objs.size)) (PIE X pins σ tg R) E { s with heap:=s.heap.push { cls:=.type "range",data:=.fields #[.int lo t,.int hi u,.int 1 v] },toks:=tk }:=by
 refine wpAny_pyIter_range (IsRange.new ..) (small_one h1 h2 h3 h4) ?_;have Z:Inv X pins σ H { s with heap:=s.heap.push { cls:=.type "range",data:=.fields #[.int lo t,.int hi u,.int 1 v] },toks:=tk }:=I.kept λb o e=>AT _ e
 refine⟨(s.heap.push { cls:=.type "range",data:=.fields #[.int lo t,.int hi u,.int 1 v] }).objs.size,[(s.heap.push { cls:=.type "range",data:=.fields #[.int lo t,.int hi u,.int 1 v] }).objs.size],_,_,H,rfl,
  Z.kept (t':=tk) λb o e=>AT _ e,Ge _ lo (hi-lo).toNat,?_,λb hb=>?_,q⟩
 ·have e1:lo+((0:Nat):Int)*1=lo:=by simp
  have e2:(((hi-lo).toNat:Nat):Int)-((0:Nat):Int)=Builtin.Range.rangeSize lo hi 1:=by rw[rangeSize_one];split <;> omega
  show IsRangeIter _ _ (lo+((0:Nat):Int)*1) ((((hi-lo).toNat:Nat):Int)-((0:Nat):Int)) 1;rw[e1,e2];exact AU _ rfl
 ·have e:b=(s.heap.push { cls:=.type "range",data:=.fields #[.int lo t,.int hi u,.int 1 v] }).objs.size:=by simpa using hb
  subst e;exact Z.fpOk (af _) (Z.hok.fresh (af _))
def aAV (ta:TA):TI:=λσ H R=>ta σ H λvs H1=>∃ j:Int,vs=[.int j]∧-(2 ^ 62)<=j∧j<2 ^ 62∧R (Itr 0 j.toNat) H1
def aAF (ta:TA):TI:=λσ H R=>ta σ H λvs H1=>∃ i j:Int,vs=[.int i,.int j]∧(-(2 ^ 62)<=i∧i<2 ^ 62∧-(2 ^ 62)<=j∧j<2 ^ 62)∧R (Itr i (j-i).toNat) H1
theorem fB {a:Expr}{ta:TA}{p pos:Pos}(hg:Gl X "range")(hm:X.mg "range" = none)(ha:PA X [a] ta)(hs:starEach [a] X.env=[(false,eval a X.env)]:=by rfl):PI X tg (.Call (.Name "range" p) [a] [] pos) (aAV ta):=by
 intro pins s σ H R I h;refine Call_ (rG I hg hm boot_range (gl (thn (ha pos pins s σ H _ I h) λus s1 ⟨vs,H1,I1,r1,Z⟩=>?_) hs rfl));obtain⟨j,e,Z,q2,q⟩:=Z;subst e
 cases r1 with
 | cons r rr =>
  cases rr;obtain⟨t,rfl⟩:=r;exact call_range_1 (Cq I1 (by omega) (by omega) Z q2 (by simpa using q))
theorem Lw {a b:Expr}{ta:TA}{p pos:Pos}(hg:Gl X "range")(hm:X.mg "range" = none)(ha:PA X [a,b] ta)(hs:starEach [a,b] X.env=[(false,eval a X.env),(false,eval b X.env)]:=by rfl)(Z:starEach [b] X.env=[(false,eval b X.env)]:=by rfl) :
  PI X tg (.Call (.Name "range" p) [a,b] [] pos) (aAF ta):=by
 intro pins s σ H R I h;refine Call_ (rG I hg hm boot_range (gl (thn (ha pos pins s σ H _ I h) λus s1 ⟨vs,H1,I1,r1,q1⟩=>?_) (by rw[hs,Z]) (by rw[Z];rfl)));obtain⟨i,j,e,⟨q1,q2,q3,q4⟩,q⟩:=q1;subst e
 cases r1 with
 | cons r rr =>
  cases rr with
  | cons r' rr =>
   cases rr;obtain⟨t,rfl⟩:=r;obtain⟨t',rfl⟩:=r';exact call_range_2 (Cq I1 q1 q2 q3 q4 q)
def aAy (wi:TI)(g:TG)(tb:TS):TS:=λD σ H=>wi σ H λJ H1=>∃ W:Nat->Nat->St->Hp->Prop,(∃ m,W 0 m σ H1)∧∀ i m σ H,W i m σ H ->
 (J.stop i H∧D.nx σ H)∨(J.go i H∧∃ N:St->Hp->Prop,(∀ σ' H',N σ' H'->∃ Z,Z<m∧W (i+1) Z σ' H')∧∀ x H',J.yld i H x H'->g x σ H' λσ2 H2=>tb { D with nx:=N,ct:=N,bk:=D.nx } σ2 H2)
def mR (fp:List Addr)(h:Heap):List (Addr×Obj):=fp.filterMap λb=>(h.get? b).map λo=>(b,o)
theorem eI {fp:List Addr}{h:Heap}{b:Addr}{o:Obj}(hb:b∈fp)(e:h.get? b=some o):(b,o)∈mR fp h:=ln.mpr ⟨b,hb,by rw[e];rfl⟩
theorem Lc {fp:List Addr}{h:Heap}{p:Addr×Obj}(hp:p∈mR fp h):p.1∈fp∧h.get? p.1=some p.2:=by
 obtain⟨b,hb,e⟩:=ln.mp hp
 cases q:h.get? b with
 | none=>rw[q] at e;cases e
 | some o =>
  rw[q] at e;have Z:(b,o)=p:=av e;subst Z;exact⟨hb,q⟩
theorem Inv.pinned {pins:List (Addr×Obj)}{σ:St}{H:Hp}{s:kw}{fp:List Addr}(I:Inv X pins σ H s)(hf:∀ b∈fp,mT X pins H b)(ho:∀ b∈fp,∃ o,s.heap.get? b=some o∧∀ v,o.data≠.cell v):Inv X (pins++mR fp s.heap) σ H s :=
 I.pins_of λp hp=>(br.mp hp).elim (λz=>I.pin p (bf _ z)) λz=>by
  obtain⟨hb,e⟩:=Lc z;obtain⟨f0,f1,f2,_⟩:=hf p.1 hb;obtain⟨o,Z,d⟩:=ho p.1 hb;rw[e] at Z;cases Z;exact⟨e,f0,f1,f2,d⟩
theorem Inv.unpinned {pins pl:List (Addr×Obj)}{σ:St}{H:Hp}{s:kw}(I:Inv X (pins++pl) σ H s):Inv X pins σ H s:=I.pins_of λp Z=>I.pin p (bf _ (gj _ Z))
theorem cY {iter:Expr}{gV:List Stmt}{wi:TI}{g:TG}{tb:TS}{pos:Pos}(hp:PassesOwn (model X.prog X.w) X.A X.env X.xe)(hc:X.calm=true)(hi:PI X tg iter wi)(hg:PG X tg g)(hb:PSs X gV tb)
  (hs:∀ x,foldedSetIterable iter X.env x=pure x:=by intro _;rfl):PS X (.For tg iter gV [] pos) (aAy wi g tb):=by
 intro pins s σ H D I h;refine wpAny_For (thn (hi pins s σ H _ I h) λv s1 h1=>thn h1 λwz s2 h2=>?_) hs;obtain⟨it,fp,tn,J,H2,e,I2,T,wx,f2,W,⟨m0,w0⟩,or⟩:=h2;subst e;have Z:∀ {H':Hp},(∀ b∈fp,H' b=none)->∀ b∈fp,mT X pins H' b:=λhn b hb=>⟨hn b hb,(f2 b hb).2⟩
 refine codeAny_forLoop_any (λn s'=>∃ i σ' H',Inv X pins σ' H' s'∧tn i s'.heap∧(∀ b∈fp,H' b=none)∧W i n σ' H') ?_ m0 ⟨0,σ,H2,I2,wx,λb hb=>(f2 b hb).1,w0⟩;rintro n s3 ⟨i,σ3,H3,I3,wp,mp,w3⟩;rcases or i n σ3 H3 w3 with ⟨stop,qn⟩ | ⟨go,N,hN,step⟩
 ·refine wpAny_passesOwn hp (thn (T.done X rfl rfl rfl hc i pins s3 σ3 H3 X.xe I3 (Z mp) wp stop) λr s4 ⟨hr,I4⟩=>?_)
  subst hr;exact A0 ⟨σ3,H3,I4,qn⟩
 ·refine wpAny_passesOwn hp (thn (T.item X rfl rfl rfl hc i pins s3 σ3 H3 X.xe I3 (Z mp) wp go) λr s4 ⟨u,hr,h4⟩=>?_)
  subst hr;refine wpAny_passesOwn hp (thn h4 λ_ s5 ⟨x,H5,I5,r5,y5,st5,fr5⟩=>?_);have ww:=I5.pinned (Z fr5) (T.obj _ _ st5);refine wpAny_passesOwn hp (thn (hg _ s5 σ3 H5 x u _ ww r5 (step x H5 y5)) λ_ s6 ⟨σ6,H6,I6,q6⟩=>?_);refine wpAny_passesOwn hp (thn (hb _ s6 σ6 H6 _ I6 q6) λf s7 q7=>?_);have again:∀ {σ7:St} {H7:Hp},Inv X (pins++mR fp s5.heap) σ7 H7 s7->N σ7 H7->∃ m,m<n∧∃ i σ' H',Inv X pins σ' H' s7∧tn i s7.heap∧(∀ b∈fp,H' b=none)∧W i m σ' H':=λ{σ7 H7} I7 n7=>by
   obtain⟨m',hm,w7⟩:=hN σ7 H7 n7;refine⟨m',hm,i+1,σ7,H7,I7.unpinned,T.keep _ _ _ st5 λb hb o e=>(I7.pin (b,o) (bf _ (bf _ (eI hb e)))).1,λb hb=>?_,w7⟩;obtain⟨o,e,d⟩:=T.obj _ _ st5 b hb;exact (I7.pin (b,o) (bf _ (bf _ (eI hb e)))).2.1
  cases f with
  | next=>obtain⟨σ7,H7,I7,n7⟩:=q7;exact again I7 n7
  | cont=>obtain⟨σ7,H7,I7,n7⟩:=q7;exact again I7 n7
  | brk=>obtain⟨σ7,H7,I7,q7⟩:=q7;exact⟨σ7,H7,I7.unpinned,q7⟩
  | ret v=>obtain⟨x7,σ7,H7,I7,r7,q7⟩:=q7;exact⟨x7,σ7,H7,I7.unpinned,r7,q7⟩
end
theorem gN {K:ac}{a:Addr}{xs:List V}{g:TG}{tb:TS}{D:jJ}{σ:St}{H:Hp}(Z:Nat->St->Hp->Prop)(h0:Z 0 σ H)(hl:∀ i σ H,i<=xs.length->Z i σ H->SqL K H a xs)
  (hs:∀ i x σ H,xs[i]?=some x->Z i σ H->g x σ H λσ2 H2=>tb { D with nx:=Z (i+1),ct:=Z (i+1),bk:=D.nx } σ2 H2) (hd:∀ σ H,Z xs.length σ H->D.nx σ H) :
  ∃ W:Nat->Nat->St->Hp->Prop,(∃ m,W 0 m σ H)∧∀ i m σ H,W i m σ H ->
   ((Itl K a).stop i H∧D.nx σ H)∨((Itl K a).go i H∧∃ N:St->Hp->Prop,(∀ σ' H',N σ' H'->∃ m',m'<m∧W (i+1) m' σ' H')∧∀ x H',(Itl K a).yld i H x H'->g x σ H' λσ2 H2=>tb { D with nx:=N,ct:=N,bk:=D.nx } σ2 H2):=by
 refine⟨λi m σ H=>m=xs.length-i∧i<=xs.length∧Z i σ H,⟨xs.length,by simp,cc _,h0⟩,?_⟩;rintro i m σ H ⟨rfl,hi,p⟩;have q:=hl i σ H hi p;by_cases hlt:i<xs.length
 ·refine .inr ⟨⟨xs,xs[i],q,by simp[hlt]⟩,Z (i+1),λσ' H' p'=>⟨xs.length-(i+1),by omega,rfl,hlt,p'⟩,λx H' y=>?_⟩
  obtain⟨e,y⟩:=y;subst e;exact hs i x σ _ (y xs q) p
 ·have e:i=xs.length:=by omega
  subst e;exact .inl ⟨⟨xs,q,af _⟩,hd σ H p⟩
theorem fW {lo:Int}{n:Nat}{g:TG}{tb:TS}{D:jJ}{σ:St}{H:Hp}(Z:Nat->St->Hp->Prop)(h0:Z 0 σ H)
  (hs:∀ i σ H,i<n->Z i σ H->g (.int (lo+i)) σ H λσ2 H2=>tb { D with nx:=Z (i+1),ct:=Z (i+1),bk:=D.nx } σ2 H2) (hd:∀ σ H,Z n σ H->D.nx σ H) :
  ∃ W:Nat->Nat->St->Hp->Prop,(∃ m,W 0 m σ H)∧∀ i m σ H,W i m σ H ->
   ((Itr lo n).stop i H∧D.nx σ H)∨((Itr lo n).go i H∧∃ N:St->Hp->Prop,(∀ σ' H',N σ' H'->∃ m',m'<m∧W (i+1) m' σ' H')∧∀ x H',(Itr lo n).yld i H x H'->g x σ H' λσ2 H2=>tb { D with nx:=N,ct:=N,bk:=D.nx } σ2 H2):=by
 refine⟨λi m σ H=>m=n-i∧i<=n∧Z i σ H,⟨n,by simp,cc _,h0⟩,?_⟩;rintro i m σ H ⟨rfl,hi,p⟩;by_cases hlt:i<n
 ·refine .inr ⟨hlt,Z (i+1),λσ' H' p'=>⟨n-(i+1),by omega,rfl,hlt,p'⟩,λx H' y=>?_⟩
  obtain⟨e,y⟩:=y;subst e y;exact hs i σ _ hlt p
 ·have e:i=n:=by omega
  subst e;exact .inl ⟨af _,hd σ H p⟩
abbrev R2:=V->V->Hp->VK->Prop
def OpR (X:Cx)(f:Value->Value->Sem Value)(r:R2):Prop :=
 ∀ (pins:List (Addr×Obj)) (s:kw) (σ:St) (H:Hp) (x y:V) (v u:Value) (Q:VK),Inv X pins σ H s->bE x v->bE y u->r x y H Q ->
  wpAny (model X.prog X.w) X.A (f v u) (EP X pins σ Q) X.xe s
def UnR (X:Cx)(f:Value->Sem Value)(r:V->Hp->VK->Prop):Prop :=
 ∀ (pins:List (Addr×Obj)) (s:kw) (σ:St) (H:Hp) (x:V) (v:Value) (Q:VK),Inv X pins σ H s->bE x v->r x H Q ->
  wpAny (model X.prog X.w) X.A (f v) (EP X pins σ Q) X.xe s
def dR (X:Cx)(f:Value)(r:List V->Hp->VK->Prop):Prop :=
 ∀ (pins:List (Addr×Obj)) (s:kw) (σ:St) (H:Hp) (xs:List V) (us:List Value) (Q:VK),Inv X pins σ H s->aZ xs us->r xs H Q ->
  wpAny (model X.prog X.w) X.A (call f us) (EP X pins σ Q) X.xe s
def tOp (r:R2)(ta tb:TE):TE:=λσ H Q=>ta σ H λx H1=>tb σ H1 λy H2=>r x y H2 Q
def tUn (r:V->Hp->VK->Prop)(ta:TE):TE:=λσ H Q=>ta σ H λx H1=>r x H1 Q
def rI (C:Int->Int->Prop)(g:Int->Int->V):R2:=λx y H Q=>∃ i j,x = .int i∧y = .int j∧C i j∧Q (g i j) H
def rI0 (g:Int->Int->V):R2:=λx y H Q=>∃ i j,x = .int i∧y = .int j∧Q (g i j) H
def rU (g:Int->V):V->Hp->VK->Prop:=λx H Q=>∃ i,x = .int i∧Q (g i) H
section
variable {X:Cx}{a b c:Expr}{ta tb tc:TE}{pos:Pos}
theorem Ym (ha:PE X a ta)(hb:PE X b tb){pins:List (Addr×Obj)}{s:kw}{σ:St}{H:Hp}{R:V->V->Hp->Prop}(I:Inv X pins σ H s)
  (h:ta σ H λx H1=>tb σ H1 λy H2=>R x y H2) {Q:Value->kw->Prop} {f:Value->Value->Sem Value}
  (Z:∀ v u s2 x y H2,Inv X pins σ H2 s2->bE x v->bE y u->R x y H2->wpAny (model X.prog X.w) X.A (f v u) Q X.xe s2) :
  wpAny (model X.prog X.w) X.A (eval a X.env) (λv s₁=>wpAny (model X.prog X.w) X.A (eval b X.env) (λu s₂=>wpAny (model X.prog X.w) X.A (f v u) Q X.xe s₂) X.xe s₁) X.xe s:=by
 refine thn (ha pins s σ H _ I h) λv s1 ⟨x,H1,I1,r1,q1⟩=>?_
 refine thn (hb pins s1 σ H1 _ I1 q1) λu s2 ⟨y,H2,I2,r2,q2⟩=>?_
 exact Z v u s2 x y H2 I2 r1 r2 q2
theorem aN {Z:Operator}{r:R2}(ho:OpR X (binaryOp Z) r)(ha:PE X a ta)(hb:PE X b tb):PE X (.BinOp a Z b pos) (tOp r ta tb):=by
 intro pins s σ H Q I h;exact wpAny_BinOp (Ym ha hb I h λv u s2 x y H2 I2 rx ry q=>ho pins s2 σ H2 x y v u Q I2 rx ry q)
theorem jF {Z:UnaryOp}{r:V->Hp->VK->Prop}(ho:UnR X (unaryOp Z) r)(ha:PE X a ta):PE X (.UnaryOp Z a pos) (tUn r ta):=by
 intro pins s σ H Q I h;exact UnaryOp_ (thn (ha pins s σ H _ I h) λv s1 ⟨x,H1,I1,r1,q1⟩=>ho pins s1 σ H1 x v Q I1 r1 q1)
theorem opI {f:Value->Value->Sem Value}{C:Int->Int->Prop}{g:Int->Int->Int}
  (rule:∀ (i j:Int) (t u:Tok) (s:kw) (Q:Value->kw->Prop) (E:Value->kw->Prop),C i j->Q (.int (g i j) s.toks) { s with toks:=s.toks+1 }->wpAny (model X.prog X.w) X.A (f (.int i t) (.int j u)) Q E s) :
  OpR X f (rI C λi j=>.int (g i j)):=by
 intro pins s σ H x y v u Q I rx Z h;obtain⟨i,j,rfl,rfl,hc,q⟩:=h;obtain⟨t,rfl⟩:=rx;obtain⟨t',rfl⟩:=Z;exact rule i j t t' s _ _ hc ⟨.int (g i j),H,I.tok _,⟨_,rfl⟩,q⟩
theorem aAE {f:Value->Value->Sem Value}{g:Int->Int->Int}
  (rule:∀ (i j:Int) (t u:Tok) (s:kw) (Q:Value->kw->Prop) (E:Value->kw->Prop),Q (.int (g i j) s.toks) { s with toks:=s.toks+1 }->wpAny (model X.prog X.w) X.A (f (.int i t) (.int j u)) Q E s) :
  OpR X f (rI0 λi j=>.int (g i j)):=by
 intro pins s σ H x y v u Q I rx Z h;obtain⟨i,j,rfl,rfl,q⟩:=h;obtain⟨t,rfl⟩:=rx;obtain⟨t',rfl⟩:=Z;exact rule i j t t' s _ _ ⟨.int (g i j),H,I.tok _,⟨_,rfl⟩,q⟩
theorem Yu {f:Value->Value->Sem Value}{g:Int->Int->Bool}
  (rule:∀ (i j:Int) (t u:Tok) (s:kw) (Q:Value->kw->Prop) (E:Value->kw->Prop),Q (.bool (g i j)) s->wpAny (model X.prog X.w) X.A (f (.int i t) (.int j u)) Q E s) :
  OpR X f (rI0 λi j=>.bl (g i j)):=by
 intro pins s σ H x y v u Q I rx Z h;obtain⟨i,j,rfl,rfl,q⟩:=h;obtain⟨t,rfl⟩:=rx;obtain⟨t',rfl⟩:=Z;exact rule i j t t' s _ _ ⟨.bl (g i j),H,I,rfl,q⟩
def aBL (i j:Int):Prop:=0<j∧j<1073741824
def Xz (i j:Int):Prop:=(-(2 ^ 64)<i∧i<2 ^ 64)∨(-(2 ^ 64)<j∧j<2 ^ 64)
theorem Xz.ok {i j:Int}(h:Xz i j):IntMulOk i j:=by
 rcases h with ⟨h1,h2⟩ | ⟨h1,h2⟩
 ·exact .of_left (intBits_le_64 h1 h2)
 ·exact .of_right (intBits_le_64 h1 h2)
theorem eA:OpR X (binaryOp .Add) (rI0 λi j=>.int (i+j)):=aAE λ_ _ _ _ _ _ _ q=>add_int q
theorem iA:OpR X (binaryOp .Sub) (rI0 λi j=>.int (i-j)):=aAE λ_ _ _ _ _ _ _ q=>sub_int q
theorem kF:OpR X (binaryOp .Mult) (rI Xz λi j=>.int (i*j)):=opI λ_ _ _ _ _ _ _ Z q=>mul_int q Z.ok
theorem dI:OpR X (binaryOp .FloorDiv) (rI aBL λi j=>.int (i/j)):=opI λi j _ _ _ _ _ Z q=>by
 have h1:(0:Int)<j:=Z.1;have h2:j<1073741824:=Z.2;exact floordiv_int (by omega) (by rw[n8 i (by omega)];exact q) (.inl (PyProof.noPylong_small (by omega)))
theorem bY:OpR X (binaryOp .Mod) (rI (λ_ j=>0<j) λi j=>.int (i % j)):=opI λi j _ _ _ _ _ Z q=>by
 have h1:(0:Int)<j:=Z;exact mod_int' (by omega) (by rw[Int.fmod_eq_emod_of_nonneg i (by omega)];exact q)
theorem unI {f:Value->Sem Value}{g:Int->Int}
  (rule:∀ (i:Int) (t:Tok) (s:kw) (Q:Value->kw->Prop) (E:Value->kw->Prop),Q (.int (g i) s.toks) { s with toks:=s.toks+1 }->wpAny (model X.prog X.w) X.A (f (.int i t)) Q E s) :
  UnR X f (rU λi=>.int (g i)):=by
 intro pins s σ H x v Q I Z h;obtain⟨i,rfl,q⟩:=h;obtain⟨t,rfl⟩:=Z;exact rule i t s _ _ ⟨.int (g i),H,I.tok _,⟨_,rfl⟩,q⟩
theorem gB:UnR X (unaryOp .USub) (rU λi=>.int (-i)):=unI λ_ _ _ _ _ q=>neg_int q
end
def Yx:V->V->Bool
 | .non,.non=>true | .non,.int _=>true | .int _,.non=>true | .non,.bl _=>true | .bl _,.non=>true | .non,.str _=>true | .str _,.non=>true
 | .int _,.int _=>true | .bl _,.bl _=>true | .str _,.str _=>true | .byt _,.byt _=>true
 | .int _,.str _=>true | .str _,.int _=>true | .bl _,.str _=>true | .str _,.bl _=>true
 | _,_=>false
def rEq:R2:=λx y H Q=>Yx x y=true∧Q (.bl (decide (x=y))) H
def rNe:R2:=λx y H Q=>Yx x y=true∧Q (.bl (!decide (x=y))) H
theorem sY {i j:Int}:decide (V.int i=V.int j)=(i==j):=by
 rw[cu];simp
theorem Qv {i j:Bool}:decide (V.bl i=V.bl j)=(i==j):=by
 rw[cu];simp
theorem Jo {i j:Str}:decide (V.str i=V.str j)=(i==j):=by
 rw[cu];simp
theorem Jn {i j:Array UInt8}:decide (V.byt i=V.byt j)=(i.toList==j.toList):=by
 rw[cu];cases i;cases j;simp
section
variable {X:Cx}{a b c:Expr}{ta tb tc:TE}{pos:Pos}
theorem bQ {pins:List (Addr×Obj)}{σ:St}{H:Hp}{s:kw}{Q:VK}{k Z:Bool}(I:Inv X pins σ H s)(q:Q (.bl k) H)(e:k=Z):EP X pins σ Q (.bool Z) s:=by
 subst e;exact⟨.bl k,H,I,rfl,q⟩
theorem Vu:OpR X (compareOp .Eq) rEq:=by
 intro pins s σ H x y v u Q I rx Z h;obtain⟨hs,q⟩:=h
 cases x with
 | non =>
  cases rx
  cases y with
  | non=>cases Z;exact PySem.EqNone.eq_none_none (bQ I q (by simp))
  | bl j=>cases Z;exact PySem.EqNone.eq_none_bool (bQ I q (by simp))
  | int j=>obtain⟨t',rfl⟩:=Z;exact PySem.EqNone.eq_none_int (bQ I q (by simp))
  | str j=>obtain⟨t',rfl⟩:=Z;exact PySem.EqNone.eq_none_str (bQ I q (by simp))
  | _=>exact absurd (show false=true from hs) ag
 | bl i =>
  cases rx
  cases y with
  | non=>cases Z;exact PySem.EqNone.eq_bool_none (bQ I q (by simp))
  | bl j=>cases Z;exact eq_bool (bQ I q Qv)
  | str j=>obtain⟨t',rfl⟩:=Z;exact vw (bQ I q (by simp))
  | _=>exact absurd (show false=true from hs) ag
 | int i =>
  obtain⟨t,rfl⟩:=rx
  cases y with
  | non=>cases Z;exact PySem.EqNone.eq_int_none (bQ I q (by simp))
  | int j=>obtain⟨t',rfl⟩:=Z;exact eq_int (bQ I q sY)
  | str j=>obtain⟨t',rfl⟩:=Z;exact wa (bQ I q (by simp))
  | _=>exact absurd (show false=true from hs) ag
 | str i =>
  obtain⟨t,rfl⟩:=rx
  cases y with
  | non=>cases Z;exact PySem.EqNone.eq_str_none (bQ I q (by simp))
  | bl j=>cases Z;exact vx (bQ I q (by simp))
  | int j=>obtain⟨t',rfl⟩:=Z;exact wb (bQ I q (by simp))
  | str j=>obtain⟨t',rfl⟩:=Z;exact eq_str (bQ I q Jo)
  | _=>exact absurd (show false=true from hs) ag
 | byt i =>
  obtain⟨t,rfl⟩:=rx
  cases y with
  | byt j=>obtain⟨t',rfl⟩:=Z;exact PySem.W.eq_bytes (bQ I q Jn)
  | _=>exact absurd (show false=true from hs) ag
 | _=>cases y <;> exact absurd (show false=true from hs) ag
theorem Vs:OpR X (compareOp .NotEq) rNe:=by
 intro pins s σ H x y v u Q I rx Z h;obtain⟨hs,q⟩:=h
 cases x with
 | non =>
  cases rx
  cases y with
  | non=>cases Z;exact PySem.EqNone.ne_none_none (bQ I q (by simp))
  | bl j=>cases Z;exact PySem.EqNone.ne_none_bool (bQ I q (by simp))
  | int j=>obtain⟨t',rfl⟩:=Z;exact PySem.EqNone.ne_none_int (bQ I q (by simp))
  | str j=>obtain⟨t',rfl⟩:=Z;exact PySem.EqNone.ne_none_str (bQ I q (by simp))
  | _=>exact absurd (show false=true from hs) ag
 | bl i =>
  cases rx
  cases y with
  | non=>cases Z;exact PySem.EqNone.ne_bool_none (bQ I q (by simp))
  | bl j=>cases Z;exact ne_bool (bQ I q (congrArg not Qv))
  | str j=>obtain⟨t',rfl⟩:=Z;exact vy (bQ I q (by simp))
  | _=>exact absurd (show false=true from hs) ag
 | int i =>
  obtain⟨t,rfl⟩:=rx
  cases y with
  | non=>cases Z;exact PySem.EqNone.ne_int_none (bQ I q (by simp))
  | int j=>obtain⟨t',rfl⟩:=Z;exact ne_int (bQ I q (congrArg not sY))
  | str j=>obtain⟨t',rfl⟩:=Z;exact wc (bQ I q (by simp))
  | _=>exact absurd (show false=true from hs) ag
 | str i =>
  obtain⟨t,rfl⟩:=rx
  cases y with
  | non=>cases Z;exact PySem.EqNone.ne_str_none (bQ I q (by simp))
  | bl j=>cases Z;exact vz (bQ I q (by simp))
  | int j=>obtain⟨t',rfl⟩:=Z;exact we (bQ I q (by simp))
  | str j=>obtain⟨t',rfl⟩:=Z;exact ne_str (bQ I q (congrArg not Jo))
  | _=>exact absurd (show false=true from hs) ag
 | byt i =>
  obtain⟨t,rfl⟩:=rx
  cases y with
  | byt j=>obtain⟨t',rfl⟩:=Z;exact PySem.W.ne_bytes (bQ I q (congrArg not Jn))
  | _=>exact absurd (show false=true from hs) ag
 | _=>cases y <;> exact absurd (show false=true from hs) ag
theorem Jd:OpR X (compareOp .Lt) (rI0 λi j=>.bl (decide (i<j))):=Yu λ_ _ _ _ _ _ _ q=>lt_int q
theorem aAM:OpR X (compareOp .LtE) (rI0 λi j=>.bl (decide (i<=j))):=Yu λ_ _ _ _ _ _ _ q=>le_int q
theorem pP:OpR X (compareOp .Gt) (rI0 λi j=>.bl (decide (j<i))):=Yu λ_ _ _ _ _ _ _ q=>gt_int q
theorem Md:OpR X (compareOp .Lt) (λx y H Q=>∃ i j,x = .str i∧y = .str j∧Q (.bl (decide (i.cps.toList<j.cps.toList))) H):=by
 intro pins s σ H x y v u Q I rx Z h;obtain⟨i,j,rfl,rfl,q⟩:=h;obtain⟨t,rfl⟩:=rx;obtain⟨t',rfl⟩:=Z;exact lt_str (bQ I q rfl)
theorem zJ:OpR X (compareOp .NotIn) (λx y H Q=>∃ i j,x = .str i∧y = .str j∧Q (.bl (!(!(Builtin.Str.occurrences j i 0 j.length 1).isEmpty))) H):=by
 intro pins s σ H x y v u Q I rx Z h;obtain⟨i,j,rfl,rfl,q⟩:=h;obtain⟨t,rfl⟩:=rx;obtain⟨t',rfl⟩:=Z;exact notIn_str (bQ I q rfl)
theorem aY (b:Expr){Z:CmpOp}(h:Z≠.In:=by decide)(h2:Z≠.NotIn:=by decide):behindInMarks Z b=false:=by
 have e1:(Z==CmpOp.In)=false:=by cases Z <;> first | rfl | exact absurd rfl h
 have e2:(Z==CmpOp.NotIn)=false:=by cases Z <;> first | rfl | exact absurd rfl h2
 cases b <;> simp[behindInMarks,e1,e2]
theorem iM {Z:CmpOp}{r:R2}(ho:OpR X (compareOp Z) r)(ha:PE X a ta)(hb:PE X b tb)(hm:behindInMarks Z b=false):PE X (.Compare a [Z] [b] pos) (tOp r ta tb):=by
 intro pins s σ H Q I h;exact wpAny_Compare1 (Ym ha hb I h λv u s2 x y H2 I2 rx ry q=>ho pins s2 σ H2 x y v u Q I2 rx ry q) hm
def aAO (t:TE):TT:=λσ H Q=>t σ H λx H'=>∃ k,x = .bl k∧Q k H'
theorem aU {Z:CmpOp}{r:R2}(ho:OpR X (compareOp Z) r)(ha:PE X a ta)(hb:PE X b tb)(hm:behindInMarks Z b=false):PT X (.Compare a [Z] [b] pos) (aAO (tOp r ta tb)):=by
 intro pins s σ H Q I h;refine wpAny_isTrue_Compare1 (thn (ha pins s σ H _ I h) λv s1 ⟨x,H1,I1,r1,q1⟩=>thn (hb pins s1 σ H1 _ I1 q1) λu s2 ⟨y,H2,I2,r2,q2⟩ =>
  thn (ho pins s2 σ H2 x y v u _ I2 r1 r2 q2) λc s3 ⟨z,H3,I3,r3,k,e,q3⟩=>?_) hm
 subst e;cases r3;exact A1 ⟨H3,I3,q3⟩
theorem rB:(sizeLine:Nat)<2 ^ 63:=by rw[AG];decide
theorem Fp:OpR X (binaryOp .Add) (λx y H Q=>∃ i j,x = .str i∧y = .str j∧i.length+j.length<=sizeLine∧Q (.str (i++j)) H):=by
 intro pins s σ H x y v u Q I rx Z h;obtain⟨i,j,rfl,rfl,hz,q⟩:=h;obtain⟨t,rfl⟩:=rx;obtain⟨t',rfl⟩:=Z;exact add_str (λt' tk=>⟨.str (i++j),H,I.tok _,⟨_,rfl⟩,q⟩) hz
theorem fV {x:V}{us:List Value}(r:aZ [x] us):∃ u,us=[u]∧bE x u:=by
 cases r with
 | cons r1 r2=>cases r2;exact⟨_,rfl,r1⟩
theorem zF {x y:V}{us:List Value}(r:aZ [x,y] us):∃ u Z,us=[u,Z]∧bE x u∧bE y Z:=by
 cases r with
 | cons r1 r2 =>
  cases r2 with
  | cons r3 r4=>cases r4;exact⟨_,_,rfl,r1,r3⟩
theorem Og:dR X (.builtin "abs") (λxs H Q=>∃ i,xs=[.int i]∧Q (.int (if i<0 then -i else i)) H):=by
 intro pins s σ H xs us Q I r h;obtain⟨i,rfl,q⟩:=h;obtain⟨u,rfl,t,rfl⟩:=fV r;exact call_abs_int λu Z=>⟨.int (if i<0 then -i else i),H,I.tok _,⟨_,rfl⟩,q⟩
theorem Lv (Z:X.calm=true):dR X (.builtin "max") (λxs H Q=>∃ i j,xs=[.int i,.int j]∧Q (.int (if j>i then j else i)) H):=by
 intro pins s σ H xs us Q I r h;obtain⟨i,j,rfl,q⟩:=h;obtain⟨u,w',rfl,⟨t,rfl⟩,⟨t',rfl⟩⟩:=zF r;refine max_two_ints (I.ok.hd Z) λh' tk k=>⟨_,H,I.kept k,?_,q⟩
 by_cases hj:j>i
 ·rw[AD hj,AD hj];exact⟨_,rfl⟩
 ·rw[AC hj,AC hj];exact⟨_,rfl⟩
end
structure Fm (h:Heap)(x dx C:Addr)(mA:Str->Option Value):Prop where
 obj:h.get? x=some (ip C dx)
 ns:h.Ns1 dx mA
 ne:dx≠x
theorem zE {h:Heap}{dx:Addr}{mA:Str->Option Value}(n:h.Ns1 dx mA):∃ od,h.get? dx=some od∧∀ name,n9 name od=some (mA name):=by
 obtain⟨o,es,ep,ho,hd,hk,_,hm⟩:=n;refine⟨o,ho,λname=>?_⟩;have e:=hm name;unfold nsFind findBy at e;rw[<- tj] at e;unfold n9;rw[hd]
 dsimp only
 split
 ·rename_i y q
  rw[q] at e;exact congrArg some e
 ·rename_i q
  rw[q] at e;have a:es.toList.any (·.refKey)=false:=by
   rw[List.any_eq_false];intro y hy;obtain⟨z,t,Z⟩:=hk y (Array.mem_toList_iff.mp hy);simp[DictEntry.refKey,Z]
  have a':¬ es.toList.any (·.refKey)=true:=by rw[a];exact ag
  rw[AC a'];exact congrArg some e
theorem Fm.look {h:Heap}{x dx C:Addr}{mA:Str->Option Value}(I:Fm h x dx C mA):∃ od,rl h x (ip C dx) C (some od)∧∀ name,n9 name od=some (mA name) :=
 let ⟨od,ho,hl⟩:=zE I.ns
 ⟨od,⟨I.obj,rfl,rfl,ho⟩,hl⟩
section
variable {prog:xv}{w:World}{A:Around}{E:Value->kw->Prop}{s:kw}{K:ac}{x dx C f:Addr}{mA:Str->Option Value}{name:Str}{v:Value}
theorem Tq {Z:Bool}{Q:Value->kw->Prop}(X:K.In s.heap)(I:Fm s.heap x dx C mA)(hg:jw K C name=true)(hh:gq K C=true)
  (ha:bx K (.ref C) name=some none) (hv:mA name=some v) (gV:uz v=true) (h:Q v { s with toks:=s.toks+1 }) :
  wpAny (model prog w) A (getAttr (.ref x) name Z) Q E s:=by
 obtain⟨od,J,hl⟩:=I.look;exact PySem.W.get_value X J (nk hg).1 (PySem.W.findObj_own hh ha rfl (by rw[hl,hv])) gV h
theorem Ry {pl:Sem Bool}{Q:Value×List Value->kw->Prop}(X:K.In s.heap)(I:Fm s.heap x dx C mA)(Z:jw K C name=true)
  (hf:bx K (.ref C) name=some (some (.ref f))) (ht:lw K (.ref f)=true) (hv:mA name=none) (h:Q (.ref f,[.ref x]) s) :
  wpAny (model prog w) A (getMethod (.ref x) name pl) Q E s:=by
 obtain⟨od,J,hl⟩:=I.look;exact PySem.W.method_fn X J (nk Z).1 (nk Z).2 hf (AK.mp ht) (by show (n9 name od).map (·.isSome)=some false;rw[hl,hv];rfl) h
theorem tL {ns:List Str}{Q:Unit->kw->Prop}(X:K.In s.heap)(I:Fm s.heap x dx C mA)
  (hs:bx K (.ref C) "__setattr__" = some (some (.builtin "object.__setattr__"))) (hp:lx K C=true) (ht:qq K C name=some none) (hh:gq K C=true)
  (hw:uj mA ns) (hsz:ns.length<=sizeLine)
  (h:∀ h',Fm h' x dx C (λy=>if y=name then some v else mA y)->Heap.SameBut dx s.heap h'->Q () { s with heap:=h',toks:=s.toks+2 }) :
  wpAny (model prog w) A (setAttr (.ref x) name v) Q E s:=by
 obtain⟨od,J,hl⟩:=I.look;refine uk X J hs (PySem.W.osa_open (s:={ s with toks:=s.toks+1 }) (r:=none) X J hp ht λb=>?_);obtain⟨cd,hc,wp⟩:=PySem.W.any_some hh;have hx:s.heap.get? x=some ⟨.ref C,some dx,.plain,#[]⟩:=I.obj;refine AA (AB (AA (AA (wpAny_loadPart hx (AA (wq (s:={ s with toks:=s.toks+1 }) (PySem.W.looks_clsIn X hc) ?_))))));rw[wp];refine AB (a:=some dx) (AA (AB (AA ?_)));refine wpAny_nsSet1 (s:={ s with toks:=s.toks+1 }) I.ns λh' Z gV=>?_
 obtain⟨oD,wz,wx,ww,or,mp⟩:=Z.count (PySem.Within.cons name v hw);refine AA (wpAny_lookBehind ww (by rw[or];exact pastItsLine_dict (a5 mp (by rw[ar];omega))) ?_);exact AB (h _ ⟨(gV.2 _ (Ne.symm I.ne)).trans I.obj,Z,I.ne⟩ gV)
theorem Er {R:Result->kw->Prop}{vs:List Value}{Z:List (Str×Value)}(X:K.In s.heap)(hm:nc K C=true)
  (hi:bx K (.ref C) "__init__" = some (some (.ref f))) (hf:rn K (.ref f)=some (.type "function"))
  (h:codeAny (model prog w) (A.under (.builtin "type.__call__" ⟨.ref C::vs,Z⟩)) (.call (.ref f) ⟨.ref (s.heap.objs.size+1)::vs,Z⟩) (PySem.W.InitBack (s.heap.objs.size+1) R)
   { s with heap:=(s.heap.push gc).push (ip C s.heap.objs.size) }) :
  codeAny (model prog w) A (.call (.ref C) ⟨vs,Z⟩) R s:=by
 obtain⟨hh,g,d,t,os⟩:=s;exact PySem.W.make_core (PySem.W.makes_of X hm) (rq X hi) (λself=>PySem.W.bind_fn X self hf) (.inl rfl) h
end
def dY (f:Str)(v:V):List (Str×V)->List (Str×V)
 | []=>[(f,v)]
 | (g,x)::r=>if g=f then (g,v)::r else (g,x)::dY f v r
theorem cR (f g:Str)(v:V):∀ fs:List (Str×V),(dY f v fs).lookup g=if g=f then some v else fs.lookup g
 | []=>by
  show gu g [(f,v)]=_;by_cases h:g=f
  ·have hb:(g==f)=true:=AK.mpr h
   simp only [gu,hb,AD h]
  ·have hb:(g==f)=false:=beq_eq_false_iff_ne.mpr h
   simp only [gu,hb,AC h]
 | (k,x)::r=>by
  have Z:=cR f g v r;rw[show dY f v ((k,x)::r)=(if k=f then (k,v)::r else (k,x)::dY f v r) from rfl];by_cases hk:k=f
  ·rw[AD hk]
   by_cases h:g=k
   ·have hb:(g==k)=true:=AK.mpr h
    simp only [gu,hb,AD (h.trans hk)]
   ·have hb:(g==k)=false:=beq_eq_false_iff_ne.mpr h
    simp only [gu,hb,AC (λe:g=f=>h (e.trans hk.symm))]
  ·rw[AC hk]
   by_cases h:g=k
   ·have hb:(g==k)=true:=AK.mpr h
    simp only [gu,hb,AC (λe:g=f=>hk (h.symm.trans e))]
   ·have hb:(g==k)=false:=beq_eq_false_iff_ne.mpr h
    simp only [gu,hb];exact Z
theorem rK (f:Str)(v:V):∀ fs:List (Str×V),f∈(dY f v fs).map (·.1)∧∀ g,g∈fs.map (·.1)->g∈(dY f v fs).map (·.1)
 | []=>⟨by simp[dY],λg h=>by simp at h⟩
 | (k,x)::r=>by
  obtain⟨Z,i2⟩:=rK f v r;rw[show dY f v ((k,x)::r)=(if k=f then (k,v)::r else (k,x)::dY f v r) from rfl];by_cases hk:k=f
  ·rw[AD hk]
   subst hk;exact⟨by simp,λg h=>by simpa using h⟩
  ·rw[AC hk]
   refine⟨?_,λg h=>?_⟩
   ·rw[ap]
    exact al _ Z
   ·rw[ap] at h ⊢
    rcases au.mp h with e | e
    ·exact au.mpr (.inl e)
    ·exact al _ (i2 g e)
theorem rO (f:Str)(v:V):∀ fs:List (Str×V),(dY f v fs).length<=fs.length+1
 | []=>by simp[dY]
 | (k,x)::r=>by
  have Z:=rO f v r;rw[show dY f v ((k,x)::r)=(if k=f then (k,v)::r else (k,x)::dY f v r) from rfl];by_cases hk:k=f
  ·rw[AD hk,ar,ar];omega
  ·rw[AC hk,ar,ar];omega
theorem iE.some_of {v:V}{o:Option Value}(r:iE (some v) o):∃ u,o=some u∧bE v u:=by
 cases o with
 | none=>exact (show False from r).elim
 | some u=>exact⟨u,rfl,r⟩
theorem iE.none_of {o:Option Value}(r:iE none o):o=none:=by
 cases o with
 | none=>rfl
 | some u=>exact (show False from r).elim
theorem xL {v:V}{u:Value}(r:bE v u):uz u=true:=by
 cases v with
 | non=>cases (show u=Value.none from r);rfl
 | bl b=>cases (show u=Value.bool b from r);rfl
 | int i=>obtain⟨t,e⟩:=(show ∃ t,u=Value.int i t from r);cases e;rfl
 | str x=>obtain⟨t,e⟩:=(show ∃ t,u=Value.str x t from r);cases e;rfl
 | byt b=>obtain⟨t,e⟩:=(show ∃ t,u=Value.bytes b t from r);cases e;rfl
 | flt b=>obtain⟨t,e⟩:=(show ∃ t,u=Value.float b t from r);cases e;rfl
 | ref a=>cases (show u=Value.ref a from r);rfl
 | ty n=>cases (show u=Value.type n from r);rfl
section
variable {P:xv}{w:World}{H H':Hp}{h h':Heap}{a C dx:Addr}{fs fs':List (Str×V)}
theorem Bs (hok:HOk P w H h)(e:H a=some (.ins C dx fs)):∃ mA,Fm h a dx C mA∧(∀ f,iE (fs.lookup f) (mA f))∧uj mA (fs.map (·.1))∧fs.length<=1000∧H dx=some (.own a):=by
 obtain⟨d,z,ne,Z,mA,n,r,q⟩:=(show cF P w H h a (.ins C dx fs) from hok a _ e);exact⟨mA,⟨Z,n,ne⟩,r,q,z,d⟩
end
structure Cls (K:ac)(C:Addr):Prop where
 pg:jw K C Str.empty=true
 hd:gq K C=true
 po:lx K C=true
 sa:bx K (.ref C) "__setattr__" = some (some (.builtin "object.__setattr__"))
theorem Cls.get {K:ac}{C:Addr}(c:Cls K C)(f:Str):jw K C f=true:=c.pg
def fF (K:ac)(C:Addr)(f:Str):Prop:=bx K (.ref C) f=some none
theorem fF.taker {K:ac}{C:Addr}{f:Str}(n:fF K C f):qq K C f=some none:=by
 unfold qq;rw[show bx K (.ref C) f=some none from n];rfl
structure Pf (K:ac)(C:Addr)(m:Str)(f:Addr):Prop where
 at_:bx K (.ref C) m=some (some (.ref f))
 fn:lw K (.ref f)=true
 kp:dl K (.ref f)=true
section
variable {X:Cx}{pins:List (Addr×Obj)}{σ:St}{H:Hp}{s:kw}{a C dx:Addr}{fs:List (Str×V)}{f:Str}{v:V}{A:Around}{E:Value->kw->Prop}
theorem Gp {b:Bool}{Q:Value->kw->Prop}(I:Inv X pins σ H s)(e:H a=some (.ins C dx fs))(c:Cls X.K C)(n:fF X.K C f)(l:fs.lookup f=some v)
  (h:∀ u s',Inv X pins σ H s'->bE v u->Q u s'):wpAny (model X.prog X.w) A (getAttr (.ref a) f b) Q E s:=by
 obtain⟨mA,O,r,_,_,_⟩:=Bs I.hok e;obtain⟨u,hu,Z⟩:=iE.some_of (v:=v) (o:=mA f) (by rw[<- l];exact r f);exact Tq I.kIn O (c.get f) c.hd n hu (xL Z) (h u _ (I.tok _) Z)
theorem jZ {m:Str}{g:Addr}{pl:Sem Bool}{Q:Value×List Value->kw->Prop}(I:Inv X pins σ H s)(e:H a=some (.ins C dx fs))(c:Cls X.K C)(k:Pf X.K C m g)(l:fs.lookup m=none)
  (h:Q (.ref g,[.ref a]) s):wpAny (model X.prog X.w) A (getMethod (.ref a) m pl) Q E s:=by
 obtain⟨mA,O,r,_,_,_⟩:=Bs I.hok e;have hn:mA m=none:=iE.none_of (by rw[<- l];exact r m);exact Ry I.kIn O (c.get m) k.at_ k.fn hn h
theorem Fc {y:V}{u:Value}{Q:Unit->kw->Prop}(I:Inv X pins σ H s)(e:H a=some (.ins C dx fs))(c:Cls X.K C)(n:fF X.K C f)(hl:fs.length<1000)(ry:bE y u)
  (h:∀ s',Inv X pins σ (upd H a (.ins C dx (dY f y fs))) s'->Q () s'):wpAny (model X.prog X.w) A (setAttr (.ref a) f u) Q E s:=by
 obtain⟨mA,O,r,wi,_,ho⟩:=Bs I.hok e;have hz:(fs.map (·.1)).length<=sizeLine:=by rw[aR,AG];omega
 refine tL I.kIn O c.sa c.po n.taker c.hd wi hz λh' Z sb=>h _ ?_
 have hd:∃ o,h'.get? dx=some o:=let ⟨o,_,_,e',_⟩:=Z.ns;⟨o,e'⟩
 refine I.write (x:=a) (e:=dx) (by rw[e];exact True.intro) (.inr ho) (λb q hb z=>(sb.2 b hb).trans z) hd ?_;refine⟨by rw[aG O.ne];exact ho,?_,O.ne,Z.obj,_,Z.ns,λg=>?_,λg hg=>?_⟩
 ·have:=rO f y fs;omega
 ·show iE ((dY f y fs).lookup g) (if g=f then some u else mA g)
  rw[cR];by_cases q:g=f
  ·rw[AD q,AD q];exact ry
  ·rw[AC q,AC q];exact r g
 ·by_cases q:g=f
  ·rw[q];exact (rK f y fs).1
  ·refine (rK f y fs).2 g (wi g λz=>hg ?_)
   show (if g=f then some u else mA g)=none;rw[AC q];exact z
theorem Inv.made (I:Inv X pins σ H s):Inv X pins σ (upd (upd H s.heap.objs.size (.own (s.heap.objs.size+1))) (s.heap.objs.size+1) (.ins C s.heap.objs.size []))
  { s with heap:=(s.heap.push gc).push (ip C s.heap.objs.size) }:=by
 have Z:(s.heap.push gc).get? s.heap.objs.size=some gc:=AU s.heap rfl;have e2:((s.heap.push gc).push (ip C s.heap.objs.size)).get? (s.heap.objs.size+1)=some (ip C s.heap.objs.size):=by
  have:=AU (s.heap.push gc) (o:=ip C s.heap.objs.size) rfl
  rwa [Heap.size_push] at this
 have e3:(s.heap.push gc).Ns s.heap.objs.size (λ_=>none):=⟨gc,#[],_,Z,rfl,(λe he=>absurd he (by simp)),λ_=>rfl⟩;have I1:=I.laid (a:=s.heap.objs.size) (o:=.own (s.heap.objs.size+1)) (h':=s.heap.push gc) (t':=s.toks) (λb u q=>AT _ q) (af _) ⟨_,Z⟩;refine I1.laid (a:=s.heap.objs.size+1) (o:=.ins C s.heap.objs.size []) (t':=s.toks) (λb u q=>AT _ q) (qc (Heap.size_push _ _)) ?_;have ne:s.heap.objs.size≠s.heap.objs.size+1:=az (gx _);refine⟨by rw[aG ne,aC],cc _,ne,e2,λ_=>none,(Heap.Ns1.of_empty e3).at λo q=>AT _ q,λ_=>True.intro,λy hy=>absurd rfl hy⟩
theorem Ip {prog:xv}{w:World}{env:Env}{e:Expr}{f:Str}{pos:Pos}{s:kw}{Q:Value->kw->Prop}(hb:attributeBase e f env (eval e env)=eval e env)
  (h:wpAny (model prog w) A (eval e env) (λo s₁=>wpAny (model prog w) A (getAttr o f true) Q E s₁) E s):wpAny (model prog w) A (eval (.Attribute e f pos) env) Q E s :=
 Attribute_any_ h (by rw[arm_eval_Attribute,hb])
end
def aBO (K:ac)(ta:TE)(f:Str):TE:=λσ H Q=>ta σ H λx H1=>∃ a C dx fs v,x = .ref a∧H1 a=some (.ins C dx fs)∧Cls K C∧fF K C f∧fs.lookup f=some v∧Q v H1
def aAq (K:ac)(ta tv:TE)(f:Str):TS:=λD σ H=>tv σ H λy H1=>ta σ H1 λx H2=>∃ a C dx fs,x = .ref a∧H2 a=some (.ins C dx fs)∧Cls K C∧fF K C f∧fs.length<1000 ∧
 D.nx σ (upd H2 a (.ins C dx (dY f y fs)))
section
variable {X:Cx}{o e value:Expr}{f:Str}{pos pos' tpos:Pos}{ta tv:TE}
theorem cM (he:PE X e ta)(hb:attributeBase e f X.env (eval e X.env)=eval e X.env):PE X (.Attribute e f pos) (aBO X.K ta f):=by
 intro pins s σ H Q I h;refine Ip hb (thn (he pins s σ H _ I h) λu s1 ⟨x,H1,I1,rx,a,C,dx,fs,v,ex,ea,c,n,l,q⟩=>?_);subst ex;obtain rfl:u=Value.ref a:=rx;exact Gp I1 ea c n l λu' s2 Z ru=>⟨v,H1,Z,ru,q⟩
theorem pU (ha:PE X o ta)(Z:PE X value tv)(hs:swapsWith value (some (.Attribute o f pos')) pos.line X.env=pure false):PS X (.Assign [.Attribute o f pos'] value pos) (aAq X.K ta tv f):=by
 intro pins s σ H D I h;refine plainObj_wpAny_Assign_Attribute (thn (Z pins s σ H _ I h) λu s1 ⟨y,H1,I1,ry,q⟩=>thn (ha pins s1 σ H1 _ I1 q) λov s2 ⟨x,H2,I2,rx,a,C,dx,fs,ex,ea,c,n,l,q2⟩=>?_) hs;subst ex;obtain rfl:ov=Value.ref a:=rx;exact Fc I2 ea c n l ry λs3 I3=>⟨σ,_,I3,q2⟩
end
structure eF (k:Nat)(A:Around):Prop where
 hd:A.handled=none
 dp:A.depth+3*k+5<recursionLimit
 un:A.units+16*k+200<cLine
theorem eF.mono {j k:Nat}{A:Around}(r:eF k A)(h:j<=k):eF j A:=⟨r.hd,by have:=r.dp;omega,by have:=r.un;omega⟩
theorem eF.deeper {k:Nat}{A:Around}(r:eF (k+1) A)(env:Env):eF k (A.deeper env) :=
 ⟨r.hd,by have:=r.dp;show A.depth+1+3*k+5<_;omega,by have:=r.un;show A.units+3+16*k+200<_;omega⟩
theorem Gv {A:Around}{C:Addr}{us:List Value}{Z:List (Str×Value)}:(A.under (.builtin "type.__call__" ⟨.ref C::us,Z⟩)).depth=A.depth+1:=by
 first | rfl | simp[Around.under,Code.weight,Code.isCreation,Code.isGuard,Code.isCaller,Code.frames,Code.isFrame,guardIds]
theorem Fx {A:Around}{C:Addr}{us:List Value}{Z:List (Str×Value)}:(A.under (.builtin "type.__call__" ⟨.ref C::us,Z⟩)).units=A.units+1:=by
 first | rfl | simp[Around.under,Code.cUnits,Code.frames,Code.isFrame]
theorem eF.make {k:Nat}{A:Around}(r:eF (k+1) A)(C:Addr)(us:List Value)(Z:List (Str×Value)):eF k (A.under (.builtin "type.__call__" ⟨.ref C::us,Z⟩)) :=
 ⟨r.hd,by have:=r.dp;rw[Gv];omega,by have:=r.un;rw[Fx];omega⟩
theorem eF.depth {k:Nat}{A:Around}(r:eF k A):A.depth<recursionLimit:=by have:=r.dp;omega
theorem eF.units {k:Nat}{A:Around}(r:eF k A):A.units+64<cLine:=by have:=r.un;omega
def Rq:TA:=λ_ H Q=>Q [] H
def yW (ta:TE)(tr:TA):TA:=λσ H Q=>ta σ H λx H1=>tr σ H1 λxs H2=>Q (x::xs) H2
section
variable {X:Cx}{e:Expr}{es:List Expr}{te:TE}{t:TA}{pos:Pos}
theorem aD:PA X [] Rq:=λ_ _ _ _ H Q I h=>Calls.spliced_nil ⟨[],H,I,.nil,h⟩
theorem aA (ha:PE X e te)(Z:PA X es t)(hs:starEach (e::es) X.env=(false,eval e X.env)::starEach es X.env:=by rfl):PA X (e::es) (yW te t):=by
 intro pos pins s σ H Q I h;rw[hs];show wpAny _ _ (spliced ((false,eval e X.env)::backTo pos (starEach es X.env))) _ _ s;refine Calls.spliced_cons (thn (ha pins s σ H _ I h) λu s1 ⟨x,H1,I1,r1,q1⟩=>?_);exact thn (Z pos pins s1 σ H1 _ I1 q1) λus s2 ⟨xs,H2,I2,r2,q2⟩=>⟨x::xs,H2,I2,.cons r1 r2,q2⟩
def Zm (t:TA):TE:=λσ H Q=>t σ H λxs H1=>xs.length<=sizeLine∧∀ p,H1 p=none->Q (.ref p) (upd H1 p (.tup xs))
def aBQ (t:TA):TE:=λσ H Q=>t σ H λxs H1=>xs.length<=sizeLine∧∀ p,H1 p=none->Q (.ref p) (upd H1 p (.lst xs))
theorem qM {x1}(h:PA X es t):PE X (.Tuple es x1 pos) (Zm t):=by
 intro pins s σ H Q I Z;refine wpAny_Tuple_spliced (thn (h pos pins s σ H _ I Z) λus s1 ⟨xs,H1,I1,r,z,q⟩=>⟨by rw[<- r.length];exact z,?_⟩);have hf:H1 s1.heap.objs.size=none:=I1.hok.fresh (af _);refine⟨.ref s1.heap.objs.size,upd H1 s1.heap.objs.size (.tup xs),I1.laid (t':=s1.toks) (λb u e=>AT _ e) (af _) ?_,rfl,q _ hf⟩;exact⟨z,us,r,⟨_,AU _ rfl,rfl,_,rfl⟩⟩
theorem dB (h:PA X es t):PE X (.List es pos) (aBQ t):=by
 intro pins s σ H Q I Z;refine wpAny_List_spliced (thn (h pos pins s σ H _ I Z) λus s1 ⟨xs,H1,I1,r,z,q⟩=>⟨by rw[<- r.length];exact z,?_⟩);have hf:H1 s1.heap.objs.size=none:=I1.hok.fresh (af _);refine⟨.ref s1.heap.objs.size,upd H1 s1.heap.objs.size (.lst xs),I1.laid (t':=s1.toks) (λb u e=>AT _ e) (af _) ?_,rfl,q _ hf⟩;exact⟨z,us,0,r,AU _ rfl⟩
end
abbrev Sp:=List V->Hp->VK->XK->Prop
abbrev CXT:=List Env->Hp->kw->XK->Value->kw->Prop
structure Gj (P:xv)(w:World)(K:ac)(mg:Str->Option Value)(base:Heap)(A:Around)(outer:List Env)(s:kw)(H:Hp):Prop where
 frames:A.frames=some outer
 mod:Mod K mg base
 bs:∀ b o,base.get? b=some o->s.heap.get? b=some o∧H b=none
 bsz:base.objs.size<=s.heap.objs.size
 funs:s.heap.FunFrames base outer
 frf:∀ b∈frs outer,H b=none
 hok:HOk P w H s.heap
 bare:AllBare s.gens
def CE (outer:List Env)(P:xv)(w:World)(H:Hp)(s:kw)(Q:VK)(u:Value)(s':kw):Prop :=
 ∃ v H',s'.os=s.os∧AllBare s'.gens∧Un (frs outer) [] H H' s.heap s'.heap∧HOk P w H' s'.heap∧bE v u∧Q v H'
def CR (CX:CXT)(outer:List Env)(P:xv)(w:World)(H:Hp)(s:kw)(Q:VK)(E:XK)(r:Result)(s':kw):Prop :=
 match r with
 | .ok (.ret u)=>CE outer P w H s Q u s'
 | .ok _=>False
 | .error e=>CX outer H s E e s'
structure bI (P:xv)(w:World)(K:ac)(mg:Str->Option Value)(base:Heap)(CX:CXT)(k:Nat)(f:Addr)(fd:wh)(ps:List Str)(sp:Sp):Prop where
 len:∀ vs H Q E,sp vs H Q E->vs.length=ps.length
 run:∀ (A:Around) (outer:List Env) (s:kw) (H:Hp) (args:Args) (us:List Value) (vs:List V) (Q:VK) (E:XK),eF k A->Gj P w K mg base A outer s H->BindsTo s fd args (ps.zip us)->aZ vs us->sp vs H Q E ->
  codeAny (model P w) A (.call (.ref f) args) (CR CX outer P w H s Q E) s
theorem Gj.make {P:xv}{w:World}{K:ac}{mg:Str->Option Value}{base:Heap}{A:Around}{outer:List Env}{s:kw}{H:Hp}(e:Gj P w K mg base A outer s H)(C:Addr)(us:List Value)(Z:List (Str×Value)) :
 Gj P w K mg base (A.under (.builtin "type.__call__" ⟨.ref C::us,Z⟩)) outer s H:=⟨by first | exact e.frames | (simpa [Around.under,Code.envs,Code.isFrame,pushEnvs] using e.frames),e.mod,e.bs,e.bsz,e.funs,e.frf,e.hok,e.bare⟩
section
variable {X:Cx}{pins:List (Addr×Obj)}{σ:St}{H:Hp}{s s':kw}
theorem Inv.env0 (I:Inv X pins σ H s):Gj X.prog X.w X.K X.mg X.base X.A X.stack s H :=
 ⟨I.ok.frames,I.ok.mod,I.bs,a5 I.ok.bsz I.sz,I.stack,I.stkFree,I.hok,I.bare⟩
theorem Inv.after {Q:VK}{u:Value}(I:Inv X pins σ H s)(h:CE X.stack X.prog X.w H s Q u s'):EP X pins σ Q u s':=by
 obtain⟨v,H',os,bare,un,hok,r,q⟩:=h;obtain⟨hh,g,d,t,Z⟩:=s';obtain rfl:Z=s.os:=os;exact⟨v,H',I.call (h':=hh) (g':=g) (d':=d) (t':=t) (ch:=[]) un hok bare (λb z=>absurd z (by simp)),r,q⟩
end
def Vq (sp:Sp)(dvs:List V)(E:XK)(t:TA):TE:=λσ H Q=>t σ H λvs H1=>sp (vs++dvs) H1 Q E
def Jv (C:Addr)(m:Str)(sp:Sp)(dvs:List V)(E:XK)(ta:TE)(t:TA):TE:=λσ H Q=>ta σ H λx H1=>∃ a dx fs,x = .ref a∧H1 a=some (.ins C dx fs)∧fs.lookup m=none ∧
 t σ H1 λvs H2=>sp (x::(vs++dvs)) H2 Q E
def Vo (C:Addr)(sp:Sp)(dvs:List V)(E:XK)(t:TA):TE:=λσ H Q=>t σ H λvs H1=>∀ x dx,H1 x=none->H1 dx=none->dx≠x ->
 sp (.ref x::(vs++dvs)) (upd (upd H1 dx (.own x)) x (.ins C dx [])) (λv H2=>v = .non∧Q (.ref x) H2) E
def fD (K:ac)(fd:wh)(ps:List Str)(ds:List Value):Prop :=
 ∀ (s:kw) (us:List Value),K.In s.heap->(us++ds).length=ps.length->BindsTo s fd ⟨us,[]⟩ (ps.zip (us++ds))
theorem fD.all {K:ac}{fd:wh}{ps:List Str}(h:∀ us:List Value,us.length=ps.length->bindArgs fd ⟨us,[]⟩=pure (ps.zip us)):fD K fd ps []:=λs us _ hl=>by
 rw[da] at hl ⊢;exact .of_eq (h us hl)
def gA (CX:CXT)(X:Cx)(E:XK):Prop:=∀ (pins:List (Addr×Obj)) (σ:St) (H:Hp) (s:kw) (e:Value) (s':kw),Inv X pins σ H s->CX X.stack H s E e s'->X.xe e s'
section
variable {X:Cx}{CX:CXT}{k:Nat}{f C:Addr}{fd:wh}{ps:List Str}{sp:Sp}{dvs:List V}{ds:List Value}{E:XK}{x m:Str}{p pos apos:Pos}{e o:Expr}{es:List Expr}{ta:TE}{t:TA}
theorem Ga {pins:List (Addr×Obj)}{σ:St}{H:Hp}{s:kw}{Q:VK}{us:List Value}{vs:List V}(F:bI X.prog X.w X.K X.mg X.base CX k f fd ps sp)(hr:eF k X.A)(hb:fD X.K fd ps ds)(hd:aZ dvs ds)(hx:gA CX X E)
  (I:Inv X pins σ H s) (r:aZ vs us) (h:sp (vs++dvs) H Q E):wpAny (model X.prog X.w) X.A (call (.ref f) us) (EP X pins σ Q) X.xe s:=by
 have r2:aZ (vs++dvs) (us++ds):=r.append hd;have hl:(us++ds).length=ps.length:=by rw[<- r2.length];exact F.len _ _ _ _ h
 refine AZ (AQ (F.run X.A X.stack s H ⟨us,[]⟩ (us++ds) (vs++dvs) Q E hr I.env0 (hb s us I.kIn hl) r2 h) λr s' Z=>?_)
 cases r with
 | error e=>exact hx pins σ H s e s' I Z
 | ok fl =>
  cases fl with
  | ret u=>exact I.after Z
  | next=>exact False.elim Z
  | brk=>exact False.elim Z
  | cont=>exact False.elim Z
theorem Uo (F:bI X.prog X.w X.K X.mg X.base CX k f fd ps sp)(hr:eF k X.A)(hg:Gl X x)(hm:X.mg x=some (.ref f))(hk:dl X.K (.ref f)=true)(hb:fD X.K fd ps ds)(hd:aZ dvs ds)(hx:gA CX X E)
  (ha:PA X (e::es) t) (gV:(x==("__debug__" : Str))=false:=by decide) (he:starEach (e::es) X.env=(false,eval e X.env)::starEach es X.env:=by rfl) (Z:(backTo pos (starEach es X.env)).any (·.1)=false:=by rfl) :
  PE X (.Call (.Name x p) (e::es) [] pos) (Vq sp dvs E t):=by
 intro pins s σ H Q I h;refine wpAny_Call_Name_kw (iL I hg hm ?_ gV);refine i9 (h₀:=X.base) I.ok.mod.kin hk (thn (ha pos pins s σ H _ I h) λus s1 ⟨vs,H1,I1,r,q⟩=>⟨I1.kIn,?_⟩) he Z;exact Ga F hr hb hd hx I1 r q
theorem Tx {pl:Sem Bool}(he:PE X o ta)(c:Cls X.K C)(hm:Pf X.K C m f)(F:bI X.prog X.w X.K X.mg X.base CX k f fd ps sp)(hr:eF k X.A)(hb:fD X.K fd ps ds)(hd:aZ dvs ds)(hx:gA CX X E)(ha:PA X (e::es) t)
  (Z:starEach (e::es) X.env=(false,eval e X.env)::starEach es X.env:=by rfl) (gV:(backTo pos (starEach es X.env)).any (·.1)=false:=by rfl)
  (ht:eval (.Call (.Attribute o m apos) (e::es) [] pos) X.env=(do
   let ov <- eval o X.env
   standAt apos.atName
   let (f,first) <- holding [ov] (getMethod ov m pl)
   callWith pos f first (backTo pos (starEach (e::es) X.env)) (backToKw pos (keywordEach [] X.env))):=by rfl) :
  PE X (.Call (.Attribute o m apos) (e::es) [] pos) (Jv C m sp dvs E ta t):=by
 intro pins s σ H Q I h;refine je (pl:=pl) (thn (he pins s σ H _ I h) λu s1 ⟨x,H1,I1,rx,a,dx,fs,ex,ea,l,q⟩=>?_) ht;subst ex;obtain rfl:u=Value.ref a:=rx;refine jZ I1 ea c hm l ?_;refine i9 (first:=[.ref a]) (h₀:=X.base) I.ok.mod.kin hm.kp (thn (ha pos pins s1 σ H1 _ I1 q) λus s2 ⟨vs,H2,I2,r,q2⟩=>⟨I2.kIn,?_⟩) Z gV;exact Ga (us:=.ref a::us) (vs:=.ref a::vs) F hr hb hd hx I2 (.cons rfl r) q2
theorem Ob {pl:Sem Bool}(he:PE X o ta)(c:Cls X.K C)(hm:Pf X.K C m f)(F:bI X.prog X.w X.K X.mg X.base CX k f fd ps sp)(hr:eF k X.A)(hb:fD X.K fd ps ds)(hd:aZ dvs ds)(hx:gA CX X E)
  (Z:eval (.Call (.Attribute o m apos) [] [] pos) X.env=(do
   let ov <- eval o X.env
   standAt apos.atName
   let (f,first) <- holding [ov] (getMethod ov m pl)
   callWith pos f first (backTo pos (starEach [] X.env)) (backToKw pos (keywordEach [] X.env))):=by rfl) :
  PE X (.Call (.Attribute o m apos) [] [] pos) (Jv C m sp dvs E ta Rq):=by
 intro pins s σ H Q I h;refine je (pl:=pl) (thn (he pins s σ H _ I h) λu s1 ⟨x,H1,I1,rx,a,dx,fs,ex,ea,l,q⟩=>?_) Z;subst ex;obtain rfl:u=Value.ref a:=rx;refine jZ I1 ea c hm l ?_;exact sr (first:=[.ref a]) I1.kIn hm.kp (Ga (us:=[.ref a]) (vs:=[.ref a]) F hr hb hd hx I1 (.cons rfl .nil) q)
structure Mk (K:ac)(C f:Addr):Prop where
 makes:nc K C=true
 init:bx K (.ref C) "__init__" = some (some (.ref f))
 fn:lw K (.ref f)=true
 kp:dl K (.ref C)=true
theorem My {pins:List (Addr×Obj)}{σ:St}{H:Hp}{s:kw}{Q:VK}{us:List Value}{vs:List V}(M:Mk X.K C f)(F:bI X.prog X.w X.K X.mg X.base CX k f fd ps sp)(hr:eF (k+1) X.A)(hb:fD X.K fd ps ds)(hd:aZ dvs ds)
  (hx:gA CX X E) (I:Inv X pins σ H s) (r:aZ vs us)
  (h:∀ x dx,H x=none->H dx=none->dx≠x->sp (.ref x::(vs++dvs)) (upd (upd H dx (.own x)) x (.ins C dx [])) (λv H2=>v = .non∧Q (.ref x) H2) E) :
  wpAny (model X.prog X.w) X.A (call (.ref C) us) (EP X pins σ Q) X.xe s:=by
 have hq:=h (s.heap.objs.size+1) s.heap.objs.size (I.hok.fresh (gv _)) (I.hok.fresh (af _)) (az (gx _));have I2:=Inv.made (C:=C) I;have r2:aZ (V.ref (s.heap.objs.size+1)::(vs++dvs)) (Value.ref (s.heap.objs.size+1)::(us++ds)):=.cons rfl (r.append hd);have hl:(Value.ref (s.heap.objs.size+1)::us++ds).length=ps.length:=by
  have e:=r2.length;rw[F.len _ _ _ _ hq] at e;exact e.symm
 refine AZ (Er (f:=f) I.kIn M.makes M.init (AK.mp M.fn) (AQ (F.run _ X.stack _ _ ⟨Value.ref (s.heap.objs.size+1)::us,[]⟩ (Value.ref (s.heap.objs.size+1)::(us++ds)) _ _ E (hr.make C us [])
  (I2.env0.make C us []) (hb _ (Value.ref (s.heap.objs.size+1)::us) I2.kIn hl) r2 hq) λr s' Z=>?_))
 cases r with
 | error e=>exact hx pins σ _ _ e s' I2 Z
 | ok fl =>
  cases fl with
  | ret u =>
   obtain⟨v,H',I3,rv,ev,q3⟩:=I2.after Z;subst ev;exact⟨rv,⟨V.ref (s.heap.objs.size+1),H',I3,rfl,q3⟩⟩
  | next=>exact False.elim Z
  | brk=>exact False.elim Z
  | cont=>exact False.elim Z
theorem Td (M:Mk X.K C f)(F:bI X.prog X.w X.K X.mg X.base CX k f fd ps sp)(hr:eF (k+1) X.A)(hg:Gl X x)(hm:X.mg x=some (.ref C))(hb:fD X.K fd ps ds)(hd:aZ dvs ds)(hx:gA CX X E)
  (ha:PA X (e::es) t) (gV:(x==("__debug__" : Str))=false:=by decide) (he:starEach (e::es) X.env=(false,eval e X.env)::starEach es X.env:=by rfl) (Z:(backTo pos (starEach es X.env)).any (·.1)=false:=by rfl) :
  PE X (.Call (.Name x p) (e::es) [] pos) (Vo C sp dvs E t):=by
 intro pins s σ H Q I h;refine wpAny_Call_Name_kw (iL I hg hm ?_ gV);refine i9 (h₀:=X.base) I.ok.mod.kin M.kp (thn (ha pos pins s σ H _ I h) λus s1 ⟨vs,H1,I1,r,q⟩=>⟨I1.kIn,?_⟩) he Z;exact My M F hr hb hd hx I1 r q
end
structure aO (N P:List Str)(sc:Scope):Prop where
 kind:sc.kind = .function
 co:sc.isCoroutine=false
 gen:sc.isGenerator=false
 nd:N.Nodup
 pre:N.take P.length=P
 par:∀ x∈P,sc.names.lookup x=some .local∨sc.names.lookup x=some .cell
 nofree:∀ y∈sc.names,y.2≠.free
theorem yK {kindOf:Str->Option NameKind}{x:Str}:∀ {binds:List (Str×Value)} {m:Str->Option Value},(∀ v,(x,v)∉binds)->bindL kindOf binds m x=m x
 | [],_,_=>rfl
 | (n,v)::r,m,h=>by
  unfold bindL;rw[yK λw hw=>h w (al _ hw)];split
  ·have:x≠n:=by rintro rfl;exact h v aq
   simp[this]
  ·rfl
theorem zA {kindOf:Str->Option NameKind}{x:Str}:∀ {binds:List (Str×Value)} {m:Str->Option Value},(∀ v,(x,v)∉binds)->bindC kindOf binds m x=m x
 | [],_,_=>rfl
 | (n,v)::r,m,h=>by
  unfold bindC;rw[zA λw hw=>h w (al _ hw)];split
  ·rfl
  ·have:x≠n:=by rintro rfl;exact h v aq
   simp[this]
theorem xX {kindOf:Str->Option NameKind}{x:Str}{v:Value}:∀ {P:List Str} {vs:List Value} {i:Nat} {m:Str->Option Value},P.Nodup->P[i]?=some x->vs[i]?=some v->kindOf x=some .local ->
  bindL kindOf (P.zip vs) m x=some v
 | [],_,_,_,_,h,_,_=>by simp at h
 | _::_,[],_,_,_,_,h,_=>by simp at h
 | p::P,w::vs,0,m,nd,h1,h2,hk=>by
  simp at h1 h2;subst h1;subst h2;show bindL kindOf ((p,w)::P.zip vs) m p=_;unfold bindL;rw[yK λv Z=>(cx.mp nd).1 (qr Z).1,AD hk];simp
 | p::P,w::vs,i+1,m,nd,h1,h2,hk=>by
  show bindL kindOf ((p,w)::P.zip vs) m x=_;unfold bindL;exact xX (i:=i) (cx.mp nd).2 (by simpa using h1) (by simpa using h2) hk
theorem yE {kindOf:Str->Option NameKind}{x:Str}{v:Value}:∀ {P:List Str} {vs:List Value} {i:Nat} {m:Str->Option Value},P.Nodup->P[i]?=some x->vs[i]?=some v->kindOf x≠some .local ->
  bindC kindOf (P.zip vs) m x=some v
 | [],_,_,_,_,h,_,_=>by simp at h
 | _::_,[],_,_,_,_,h,_=>by simp at h
 | p::P,w::vs,0,m,nd,h1,h2,hk=>by
  simp at h1 h2;subst h1;subst h2;show bindC kindOf ((p,w)::P.zip vs) m p=_;unfold bindC;rw[zA λv Z=>(cx.mp nd).1 (qr Z).1,AC hk];simp
 | p::P,w::vs,i+1,m,nd,h1,h2,hk=>by
  show bindC kindOf ((p,w)::P.zip vs) m x=_;unfold bindC;exact yE (i:=i) (cx.mp nd).2 (by simpa using h1) (by simpa using h2) hk
def oT (N:List Str)(vs:List V):St:=vs.map some++cp (N.length-vs.length) none
def mE (CX:CXT)(P:xv)(w:World)(K:ac)(mg:Str->Option Value)(base:Heap)(N:List Str)(qual:Str)(scope:Scope)(f:Addr)(cd:Value)(A:Around)(outer:List Env)(s:kw)(H:Hp)(E:XK):Cx where
 prog:=P
 w:=w
 K:=K
 mg:=mg
 base:=base
 A:=A.deeper (envOfC qual scope s.heap.objs.size f cd)
 N:=N
 s₀:=s
 H₀:=H
 env:=envOfC qual scope s.heap.objs.size f cd
 outer:=outer
 stack:=envOfC qual scope s.heap.objs.size f cd::outer
 ex:=[]
 calm:=true
 fn:=λ_=>true
 pn:=[]
 xe:=λe s'=>wpAny (model P w) (A.deeper (envOfC qual scope s.heap.objs.size f cd)) (leaving (envOfC qual scope s.heap.objs.size f cd) e) (λ_ Z=>CX outer H s E e Z) (λe' Z=>CX outer H s E e' Z) s'
theorem Bu {sc:Scope}{n:Nat}{x:Str}(h:sc.names.lookup x=some .cell):∃ c,(cellsFrom n sc.names []).lookup x=some c:=by
 have q:=qd sc.names n [] (.inl h);exact g7.mp q
theorem Mh {CX:CXT}{P:xv}{w:World}{K:ac}{mg:Str->Option Value}{base:Heap}{N ps:List Str}{qual:Str}{scope:Scope}{f:Addr}{cd:Value}{A:Around}{outer:List Env}{s s1:kw}{H:Hp}{E:XK}{us:List Value}{vs:List V}
  (S:aO N ps scope) (hd:A.handled=none) (Z:Gj P w K mg base A outer s H) (hl:vs.length=ps.length) (r:aZ vs us)
  (x:InCallC s s.heap.objs.size (bindL (envOfC qual scope s.heap.objs.size f cd).kindOf (ps.zip us) λ_=>none) (cellsFrom (s.heap.objs.size+1) scope.names []) (bindC (envOfC qual scope s.heap.objs.size f cd).kindOf (ps.zip us) λ_=>none) s1) :
  Inv (mE CX P w K mg base N qual scope f cd A outer s H E) [] (oT N vs) H s1:=by
 have or:ps.length<=N.length:=by have:=congrArg i6 S.pre;rw[cj] at this;omega
 obtain⟨h1,tk,rfl,hk⟩:=x.done;have gV:∀ b:Addr,b∉(mE CX P w K mg base N qual scope f cd A outer s H E).ex:=λb z=>absurd (show b∈([]:List Addr) from z) (by simp)
 refine⟨⟨Z.mod,S.kind,rfl,rfl,af _,λy z c h1 h2=>?_,λy hy=>?_,λy c _ h=>?_,λ_=>hd,Around.frames_deeper Z.frames,.inr ⟨rfl,rfl⟩,λb z=>absurd z (gV b),Z.bs,Z.bsz,λb _ _=>gV b,λb z=>absurd z (gV b),Z.funs,Z.frf⟩,
  rfl,Z.bare,Un.kept hk,⟨_,x.toInCall.ns,λi y v h1 h2 h3=>?_⟩,λy c h=>⟨_,x.cell y c h⟩,Z.hok.fresh (af _),λy c h=>?_,λp hp=>absurd (show p∈([]:List (Addr×Obj)) from hp) (by simp),Z.hok.kept hk,?_⟩
 ·exact name_of_addr x.apart (iu h1) (iu h2)
 ·have hy:scope.names.lookup y=some .cell∨scope.names.lookup y=some .free:=hy
  rcases hy with hy | hy
  ·exact Bu hy
  ·exact absurd rfl (S.nofree _ (iu hy))
 ·exact iw (x.above y c (iu h))
 ·have hi:i<vs.length:=by
   unfold oT at h2;by_cases hi:i<vs.length
   ·exact hi
   ·rw[dw (by simpa using hi)] at h2
    rw[List.getElem?_replicate] at h2;split at h2 <;> cases h2
  have ha:vs[i]?=some v:=by
   unfold oT at h2;rw[eh (by simpa using hi),ah] at h2
   cases e:vs[i]? with
   | none=>rw[e] at h2;cases h2
   | some a=>rw[e] at h2;cases h2;rfl
  obtain⟨u,hu,rv⟩:=r.get ha;have hp:ps[i]?=some y:=by
   rw[<- S.pre,jl (by omega)];exact h1
  have mp:ps.Nodup:=by rw[<- S.pre];exact S.nd.sublist (ly _ _)
  refine⟨u,rv,?_⟩;rcases S.par y (ay hp) with k | k
  ·exact .inl ⟨k,xX mp hp hu k⟩
  ·obtain⟨c,e⟩:=Bu (n:=s.heap.objs.size+1) k
   refine .inr ⟨.inl k,c,e,?_⟩;have q:=x.cell y c e;rw[yE mp hp hu (by show scope.names.lookup y≠_;rw[k];decide)] at q;exact q
 ·exact Z.hok.fresh (iw (x.above y c (iu h)))
 ·unfold oT
  show _=N.length;rw[ai,aR,ra];omega
theorem Vl {CX:CXT}{P:xv}{w:World}{K:ac}{mg:Str->Option Value}{base:Heap}{k:Nat}{f:Addr}{name qual:Str}{Z:Arguments}{gV:List Stmt}{scope:Scope}{dV kV doc pm cdv ct oc:Value}{an od:Option Addr}
  {osl:Array (Option Value)} {N ps:List Str} {sp:Sp} (lk:K.lookup f=some ⟨oc,od,.func (ei name qual Z gV scope dV kV doc pm an cdv ct),osl⟩) (ww:ja K cdv qual=true) (S:aO N ps scope)
  (len:∀ vs H Q E,sp vs H Q E->vs.length=ps.length)
  (mp:∀ (A:Around) (outer:List Env) (s:kw) (H:Hp) (vs:List V) (Q:VK) (E:XK),eF k (A.deeper (envOfC qual scope s.heap.objs.size f cdv))->sp vs H Q E ->
   ∃ t,PSs (mE CX P w K mg base N qual scope f cdv A outer s H E) gV t∧t { nx:=λ_ H'=>Q .non H',rt:=Q } (oT N vs) H) :
  bI P w K mg base CX (k+1) f (ei name qual Z gV scope dV kV doc pm an cdv ct) ps sp:=by
 refine⟨len,λA outer s H args us vs Q E hr e0 hb r wp=>?_⟩;have hl:=len _ _ _ _ wp;have KX:K.In s.heap:=e0.mod.kin.keeps λb o e=>(e0.bs b o e).1
 have lim:s.heap.NoLimit:=e0.mod.nolimit.keeps λb o e=>(e0.bs b o e).1
 have or:∀ y∈ps.zip us,scope.names.lookup y.1=some .local∨(scope.names.lookup y.1=some .cell∧((cellsFrom (s.heap.objs.size+1) scope.names []).lookup y.1).isSome=true):=λ⟨n,v⟩ hy=>by
  rcases S.par n (qr hy).1 with q | q
  ·exact .inl q
  ·exact .inr ⟨q,qd _ _ _ (.inl q)⟩
 refine codeAny_call_function hr.depth (KX _ _ lk) rfl S.co S.gen rfl (PySem.W.codeRec_of KX ww) (hb _ _ _ _ ?_);refine wpAny_newFunctionEnv_cells S.kind or λenv he s1 x=>?_
 subst he;refine⟨lim.keeps x.toInCall.keep,codeAny_func ?_⟩;obtain⟨t,ht,hq⟩:=mp A outer s H vs Q E (hr.deeper _) wp;have I:Inv (mE CX P w K mg base N qual scope f cdv A outer s H E) [] (oT N vs) H s1:=Mh S hr.hd e0 hl r x;refine AJ (ht [] s1 (oT N vs) H _ I hq) (λfl s' hs=>?_) λe s' hs=>hs
 have fin:∀ {σ':St} {H':Hp} {v:V} {u:Value},Inv (mE CX P w K mg base N qual scope f cdv A outer s H E) [] σ' H' s'->bE v u->Q v H'->CE outer P w H s Q u s' :=
  λ{σ' H' v u} J rv q=>⟨v,H',J.os,J.bare,J.base,J.hok,rv,q⟩
 cases fl with
 | ret u =>
  obtain⟨v,σ',H',J,rv,q⟩:=hs;exact fin J rv q
 | next =>
  obtain⟨σ',H',J,q⟩:=hs;exact fin (v:=V.non) (u:=Value.none) J rfl q
 | brk =>
  obtain⟨_,_,_,q⟩:=hs;exact False.elim q
 | cont =>
  obtain⟨_,_,_,q⟩:=hs;exact False.elim q
section
variable {X:Cx}{x:Str}{p pos:Pos}{e:Expr}{es:List Expr}{t:TA}{id T:String}{r:List V->Hp->VK->Prop}
def tCB (r:List V->Hp->VK->Prop)(t:TA):TE:=λσ H Q=>t σ H λvs H1=>r vs H1 Q
theorem aP (hc:dR X (.builtin id) r)(hg:Gl X x)(hm:X.mg x=none)(hv:bootBuiltins x=some (.builtin id))(ha:PA X (e::es) t)(hn:x ≠ "__name__" := by decide)(gV:(x==("__debug__" : Str))=false:=by decide)
  (he:starEach (e::es) X.env=(false,eval e X.env)::starEach es X.env:=by rfl) (Z:(backTo pos (starEach es X.env)).any (·.1)=false:=by rfl):PE X (.Call (.Name x p) (e::es) [] pos) (tCB r t):=by
 intro pins s σ H Q I h;refine wpAny_Call_Name_kw (rG I hg hm hv ?_ hn gV);exact PyProof.Rows.callWith_builtin1 (thn (ha pos pins s σ H _ I h) λus s1 ⟨vs,H1,I1,r1,q1⟩=>hc pins s1 σ H1 vs us Q I1 r1 q1) he Z
theorem fA (hc:dR X (.type T) r)(hg:Gl X x)(hm:X.mg x=none)(hv:bootBuiltins x=some (.type T))(ha:PA X (e::es) t)(hn:x ≠ "__name__" := by decide)(gV:(x==("__debug__" : Str))=false:=by decide)
  (he:starEach (e::es) X.env=(false,eval e X.env)::starEach es X.env:=by rfl) (Z:(backTo pos (starEach es X.env)).any (·.1)=false:=by rfl):PE X (.Call (.Name x p) (e::es) [] pos) (tCB r t):=by
 intro pins s σ H Q I h;refine wpAny_Call_Name_kw (rG I hg hm hv ?_ hn gV);exact gl (thn (ha pos pins s σ H _ I h) λus s1 ⟨vs,H1,I1,r1,q1⟩=>hc pins s1 σ H1 vs us Q I1 r1 q1) he Z
end
end L2
namespace HT
open PySem PyProof.Rows
section
variable {prog:xv}{w:World}{A:Around}{E:Value->kw->Prop}{s:kw}
def sIx (n d:Nat):Option Int->Nat
 | none=>d
 | some v=>if v<0 then (v+(n:Int)).toNat else min v.toNat n
theorem iI (n d:Nat):sIx n d none=d:=rfl
theorem fR (n d k:Nat):sIx n d (some (k:Int))=min k n:=by
 show (if (k:Int)<0 then ((k:Int)+(n:Int)).toNat else min (k:Int).toNat n)=min k n;rw[AC (by omega),bj]
theorem vQ (n d:Nat)(hd:d<=n)(o:Option Int):sIx n d o<=n:=by
 cases o with
 | none=>exact hd
 | some v =>
  show (if v<0 then (v+(n:Int)).toNat else min v.toNat n)<=n;by_cases hv:v<0
  ·rw[AD hv];omega
  ·rw[AC hv];exact u4 _ _
theorem Ix (v:Int)(n d:Nat):(if v<0 then max (v+(n:Int)) 0 else min v (n:Int))=((sIx n d (some v):Nat):Int):=by
 show (if v<0 then max (v+(n:Int)) 0 else min v (n:Int))=(((if v<0 then (v+(n:Int)).toNat else min v.toNat n):Nat):Int);by_cases hv:v<0
 ·simp only [AD hv];omega
 ·simp only [AC hv];omega
theorem Gc (lo hi:Option Int)(n:Nat):Builtin.Slice.sliceAdjust lo hi 1 (n:Int)=(((sIx n 0 lo:Nat):Int),((sIx n n hi:Nat):Int)):=by
 have h1:¬ ((1:Int)<0):=by omega
 unfold Builtin.Slice.sliceAdjust;simp only [h1,if_false];refine Prod.ext ?_ ?_
 ·cases lo with
  | none=>rfl
  | some v=>exact Ix v n 0
 ·cases hi with
  | none=>rfl
  | some v=>exact Ix v n n
theorem Ex (i j:Nat):Builtin.Slice.slicePlaces (i:Int) (j:Int) 1=j-i:=by
 unfold Builtin.Slice.slicePlaces;have h1:(1:Int)>0:=by omega
 simp only [h1,if_true,Int.ediv_one];split <;> omega
theorem vB {v:Value}{o:Option Int}{Q:Option Int->kw->Prop}(p:IsPart v o)(h:Q o s):wpAny (model prog w) A (Builtin.Slice.slicePartIndex v) Q E s:=by
 cases p with
 | none=>exact slicePart_none h
 | int i t=>exact slicePart_int h
theorem qT {sl:Addr}{vl vu:Value}{lo hi:Option Int}{n:Nat}{Q:Int×Int×Nat->kw->Prop}(hs:s.heap.IsSliceOf sl vl vu .none)(pl:IsPart vl lo)(pu:IsPart vu hi)
  (h:Q (((sIx n 0 lo:Nat):Int),1,sIx n n hi-sIx n 0 lo) s):wpAny (model prog w) A (Builtin.Slice.sliceApplied (.ref sl) (pure (n:Int))) Q E s:=by
 obtain⟨os,gV,mp,Z⟩:=id hs;unfold Builtin.Slice.sliceApplied Builtin.Slice.sliceFields;refine AA (AA (wpAny_field gV Z (x:=vl) rfl (AA (wpAny_field gV Z (x:=vu) rfl (AA (wpAny_field gV Z (x:=.none) rfl (AB ?_)))))));refine AA (slicePart_none ?_);show wpAny _ _ (if ((1:Int)==0)=true then _ else _) _ _ s;rw[AC (by decide)];refine AA (vB pl (AA (vB pu (AA (AB ?_)))));show wpAny _ _ (match Builtin.Slice.sliceAdjust lo hi 1 (n:Int) with | (lo,hi)=>pure (lo,(1:Int),Builtin.Slice.slicePlaces lo hi 1)) _ _ s;rw[Gc lo hi n];show wpAny _ _ (pure (((sIx n 0 lo:Nat):Int),(1:Int),Builtin.Slice.slicePlaces ((sIx n 0 lo:Nat):Int) ((sIx n n hi:Nat):Int) 1)) _ _ s;rw[Ex];exact AB h
theorem Qu (xs:Array Value)(i k:Nat):((bt k).filterMap λ(m:Nat)=>xs[((i:Int)+(m:Int)*1).toNat]?).toArray=((xs.toList.drop i).take k).toArray:=by
 have e:(λ(m:Nat)=>xs[((i:Int)+(m:Int)*1).toNat]?)=λm=>xs[i+m]?:=by
  funext m
  have:((i:Int)+(m:Int)*1).toNat=i+m:=by omega
  rw[this]
 rw[e]
 have:=pick_run xs i k
 rw[List.filterMap_map] at this;have Z:((λx=>xs[x]?)∘λx=>i+x)=λm=>xs[i+m]?:=rfl
 rw[Z] at this;rw[this]
theorem oM {t sl:Addr}{Z:Array Value}{vl vu:Value}{lo hi:Option Int}{Q:Value->kw->Prop}(ht:IsTup s.heap t Z)(hs:s.heap.IsSliceOf sl vl vu .none)(pl:IsPart vl lo)(pu:IsPart vu hi)
  (hw:¬ (sIx Z.size 0 lo=0∧sIx Z.size Z.size hi=Z.size))
  (h:Q (.ref s.heap.objs.size) { s with heap:=s.heap.push { cls:=.type "tuple",data:=.seq ((Z.toList.drop (sIx Z.size 0 lo)).take (sIx Z.size Z.size hi-sIx Z.size 0 lo)).toArray } })
  (hsz:Z.size<=sizeLine):wpAny (model prog w) A (getItem (.ref t) (.ref sl)) Q E s:=by
 have gV:sizeOk (.seq ((Z.toList.drop (sIx Z.size 0 lo)).take (sIx Z.size Z.size hi-sIx Z.size 0 lo)).toArray):=by
  show ((Z.toList.drop (sIx Z.size 0 lo)).take (sIx Z.size Z.size hi-sIx Z.size 0 lo)).toArray.size<=sizeLine;rw[aj,cj,bu,bh];omega
 have hj:sIx Z.size Z.size hi<=Z.size:=vQ _ _ (af _) hi;obtain⟨os,mp,or,wx⟩:=id hs;have wp:s.TypeIs (.ref sl) "slice" := ⟨os,mp,or⟩
 unfold getItem
 try with_reducible refine AM ?_
 first | refine AA (AB ?_) | skip
 refine AA (wpAny_sequenceKey ht.typeIs (by decide) ?_);refine AA (wpAny_callSpecial?_slot (name:=Str.ofString "__getitem__") ht.typeIs jr
  (AS jr ht.typeIs entry_tuple_getitem ?_ (args_tuple_getitem _ _)))
 show wpAny _ _ (Builtin.Tuple.tupleItemsOf (.ref t) >>= _) _ _ s;refine AA (tupleItemsOf_ ht ?_);refine AA (wpAny_typeOf wp ?_);rw[AD (by decide)];refine AA (qT hs pl pu ?_);have ww:¬ ((((sIx Z.size 0 lo:Nat):Int)==0&&(1:Int)==1&&(sIx Z.size Z.size hi-sIx Z.size 0 lo)==Z.size)=true):=by
  intro q;rw[cz,cz] at q;have q1:((sIx Z.size 0 lo:Nat):Int)=0:=eq_of_beq q.1.1;have q2:sIx Z.size Z.size hi-sIx Z.size 0 lo=Z.size:=eq_of_beq q.2;exact hw ⟨by omega,by omega⟩
 show wpAny _ _ (if (((sIx Z.size 0 lo:Nat):Int)==0&&(1:Int)==1&&(sIx Z.size Z.size hi-sIx Z.size 0 lo)==Z.size)=true then _ else _) _ _ s;rw[AC ww,Qu]
 first
  | exact AA (m:=Builtin.Tuple.tupleExact _) (AN (AB ⟨_,rfl,AB h⟩) gV)
  | exact AA (m:=Builtin.Tuple.tupleExact _) (AN (AA (AB (AB ⟨_,rfl,AB h⟩))) gV)
  | exact AA (AA (m:=Builtin.Tuple.tupleExact _) (AN (AB (AB ⟨_,rfl,AB h⟩)) gV))
  | exact AA (AA (m:=Builtin.Tuple.tupleExact _) (AN (AB ⟨_,rfl,AB h⟩) gV))
end
end HT
namespace L2
open PySem PySem.Spec PyProof.Rows
abbrev TO:=St->Hp->(Option Int->Hp->Prop)->Prop
def PO (X:Cx)(e:Option Expr)(t:TO):Prop :=
 ∀ (pins:List (Addr×Obj)) (s:kw) (σ:St) (H:Hp) (Q:Option Int->Hp->Prop),Inv X pins σ H s->t σ H Q ->
  wpAny (model X.prog X.w) X.A (evalPart e X.env) (λu s'=>∃ o H',Inv X pins σ H' s'∧IsPart u o∧Q o H') X.xe s
def Tl:TO:=λ_ H Q=>Q none H
def aAP (t:TE):TO:=λσ H Q=>t σ H λx H1=>∃ i,x = .int i∧Q (some i) H1
theorem Fs {ns:List Int}:∀ {us:List Value},aZ (ns.map V.int) us->IntsAre us ns:=by
 induction ns with
 | nil=>intro us r;rw[lz] at r;cases r;exact .nil
 | cons n ns ih =>
  intro us r;rw[ap] at r
  cases r with
  | cons r1 r2 =>
   obtain⟨t,e⟩:=r1;subst e;exact .cons n t (ih r2)
section
variable {X:Cx}{e:Expr}{te:TE}{lo hi:Option Expr}{tl th:TO}{pos p2:Pos}
theorem dA:PO X none Tl:=by
 intro pins s σ H Q I h;rw[evalPart_none];exact AB ⟨none,H,I,.none,h⟩
theorem cK (h:PE X e te):PO X (some e) (aAP te):=by
 intro pins s σ H Q I hw;rw[evalPart_some];refine thn (h pins s σ H _ I hw) λu s1 ⟨x,H1,I1,r1,q1⟩=>?_
 obtain⟨i,rfl,q⟩:=q1;obtain⟨t,rfl⟩:=r1;exact⟨some i,H1,I1,.int i t,q⟩
def SlR (X:Cx)(r:V->Option Int->Option Int->Hp->VK->Prop):Prop :=
 ∀ (pins:List (Addr×Obj)) (s:kw) (σ:St) (H:Hp) (x:V) (v Z vu:Value) (lo hi:Option Int) (sl:Addr) (Q:VK),Inv X pins σ H s->bE x v->s.heap.IsSliceOf sl Z vu .none->IsPart Z lo->IsPart vu hi->r x lo hi H Q ->
  ∃ T id,typeLookup (.type T) "__getitem__" = pure (some (.builtin id))∧s.TypeIs v T∧wpAny (model X.prog X.w) X.A (getItem v (.ref sl)) (EP X pins σ Q) X.xe s
def tSl (r:V->Option Int->Option Int->Hp->VK->Prop)(te:TE)(tl th:TO):TE:=λσ H Q=>te σ H λx H1=>tl σ H1 λl H2=>th σ H2 λu Z=>r x l u Z Q
theorem cD {r:V->Option Int->Option Int->Hp->VK->Prop}(hr:SlR X r)(he:PE X e te)(hl:PO X lo tl)(hu:PO X hi th):PE X (.Subscript e (.Slice lo hi none p2) pos) (tSl r te tl th):=by
 intro pins s σ H Q I h;refine Subscript_ (thn (he pins s σ H _ I h) λv s1 ⟨x,H1,I1,r1,q1⟩=>?_);refine wpAny_Slice (thn (hl pins s1 σ H1 _ I1 q1) λvl s2 ⟨l,H2,I2,pl,q2⟩=>thn (hu pins s2 σ H2 _ I2 q2) λvu Z ⟨u,H3,I3,pu,q3⟩=>?_);rw[evalPart_none];refine AB ?_;have I4:Inv X pins σ H3 { Z with heap:=Z.heap.push { cls:=.type "slice",data:=.fields #[vl,vu,.none] } }:=I3.kept (t':=Z.toks) λb ob q=>AT _ q
 obtain⟨T,id,hT,ht,hg⟩:=hr pins { Z with heap:=Z.heap.push { cls:=.type "slice",data:=.fields #[vl,vu,.none] } } σ H3 x v vl vu l u Z.heap.objs.size Q I4 r1 (Heap.IsSliceOf.new ..) pl pu q3
 show wpAny (model X.prog X.w) X.A (subscriptTail e (.Slice lo hi none p2) v (.ref Z.heap.objs.size)) (EP X pins σ Q) X.xe { Z with heap:=Z.heap.push { cls:=.type "slice",data:=.fields #[vl,vu,.none] } }
 exact tail_any (ops:=[.ref Z.heap.objs.size,v]) ht hT hg (by with_unfolding_all rfl)
def iX (xs:List V)(lo hi:Option Int):List V:=(xs.drop (HT.sIx xs.length 0 lo)).take (HT.sIx xs.length xs.length hi-HT.sIx xs.length 0 lo)
theorem rQ (xs:List V)(lo hi:Option Int):(iX xs lo hi).length<=xs.length:=by
 unfold iX;rw[cj,bu];omega
def aBJ (K:ac):V->Option Int->Option Int->Hp->VK->Prop:=λx lo hi H Q=>∃ a xs,x = .ref a∧SqT K H a xs ∧
 ¬ (HT.sIx xs.length 0 lo=0∧HT.sIx xs.length xs.length hi=xs.length)∧∀ p,H p=none->Q (.ref p) (upd H p (.tup (iX xs lo hi)))
theorem Yi:SlR X (aBJ X.K):=by
 intro pins s σ H x v vl vu lo hi sl Q I rx hs pl pu h;obtain⟨a,xs,rfl,hx,hw,q⟩:=h;cases rx;obtain⟨gV,r,ht,hz⟩:=I.tuple hx;have Z:gV.toArray.size=xs.length:=by rw[aj];exact r.length.symm
 refine⟨"tuple",_,jr.lookup,ht.typeIs,?_⟩
 refine HT.oM ht hs pl pu (by rw[Z];exact hw) ?_ (by rw[Z];exact hz);rw[Z];refine⟨.ref s.heap.objs.size,_,I.laid (t':=s.toks) (o:=.tup (iX xs lo hi)) (λb ob q=>AT _ q) (af _) ?_,rfl,q _ (I.hok.fresh (af _))⟩;exact⟨a5 (rQ xs lo hi) hz,_,(r.drop (HT.sIx xs.length 0 lo)).take (HT.sIx xs.length xs.length hi-HT.sIx xs.length 0 lo),IsTup.new _ _⟩
end
def ixN (n:Nat)(i:Int):Option Nat:=if 0<=i then (if i<n then some i.toNat else none) else if -(n:Int)<=i then some (i+n).toNat else none
def atI {α:Type}(xs:List α)(i:Int):Option α:=(ixN xs.length i).bind λj=>xs[j]?
theorem Ib {n:Nat}{i:Int}{j:Nat}(h:ixN n i=some j):seqIndex? i n=some j∧j<n∧-(n:Int)<=i∧i<n:=by
 unfold ixN at h;by_cases h0:0<=i
 ·rw[AD h0] at h
  by_cases h1:i<n
  ·rw[AD h1] at h
   have e:i.toNat=j:=av h;exact⟨by rw[seqIndex_of h0 h1,e],by omega,by omega,h1⟩
  ·rw[AC h1] at h;cases h
 ·rw[AC h0] at h
  by_cases h1 : -(n:Int)<=i
  ·rw[AD h1] at h
   have e:(i+n).toNat=j:=av h;exact⟨by rw[seqIndex_neg (by omega) h1,e],by omega,h1,by omega⟩
  ·rw[AC h1] at h;cases h
theorem Av {α:Type}{xs:List α}{i:Int}{v:α}(h:atI xs i=some v):∃ j,seqIndex? i xs.length=some j∧xs[j]?=some v∧j<xs.length∧-(xs.length:Int)<=i∧i<xs.length:=by
 unfold atI at h
 cases e:ixN xs.length i with
 | none=>rw[e] at h;cases h
 | some j =>
  rw[e] at h;obtain⟨h1,h2,h3,Z⟩:=Ib e;exact⟨j,h1,h,h2,h3,Z⟩
theorem bL {α:Type}{xs:List α}{j:Nat}{v:α}(h:xs[j]?=some v):atI xs (j:Int)=some v:=by
 have Z:j<xs.length:=(ao.mp h).1;have e:ixN xs.length (j:Int)=some j:=by
  unfold ixN;rw[AD (by omega),AD (by omega)];simp
 unfold atI;rw[e];exact h
def Uv (b:Expr):Prop:=∀ o i,subscripted b false o i=operate [o,i] (getItem o i)
def IxR (X:Cx)(r:R2):Prop :=
 ∀ (value Z:Expr) (pins:List (Addr×Obj)) (s:kw) (σ:St) (H:Hp) (x y:V) (v u:Value) (Q:VK),Inv X pins σ H s->bE x v->bE y u->r x y H Q ->
  subscripted Z false v u=operate [v,u] (getItem v u)->wpAny (model X.prog X.w) X.A (subscriptTail value Z v u) (EP X pins σ Q) X.xe s
def MtR (X:Cx)(id:String)(r:V->List V->Hp->VK->Prop):Prop :=
 ∀ (pins:List (Addr×Obj)) (s:kw) (σ:St) (H:Hp) (x:V) (xs:List V) (v:Value) (us:List Value) (Q:VK),Inv X pins σ H s->bE x v->aZ xs us->r x xs H Q ->
  wpAny (model X.prog X.w) X.A (call (.builtin id) (v::us)) (EP X pins σ Q) X.xe s
section
variable {X:Cx}{a b:Expr}{ta tb:TE}{pos:Pos}
theorem cH {r:R2}(hr:IxR X r)(ha:PE X a ta)(hb:PE X b tb)(hs:Uv b):PE X (.Subscript a b pos) (tOp r ta tb):=by
 intro pins s σ H Q I h;exact Subscript_ (Ym ha hb I h λv u s2 x y H2 I2 rx Z q=>hr a b pins s2 σ H2 x y v u Q I2 rx Z q (hs _ _))
def aAJ (K:ac):R2:=λx y H Q=>∃ p xs i v,x = .ref p∧y = .int i∧SqL K H p xs∧atI xs i=some v∧Q v H
def aBN (K:ac):R2:=λx y H Q=>∃ p xs i v,x = .ref p∧y = .int i∧SqT K H p xs∧atI xs i=some v∧Q v H
def aBE:R2:=λx y H Q=>∃ z i c,x = .str z∧y = .int i∧z.length<=sizeLine∧atI z.cps.toList i=some c∧Q (.str ⟨#[c]⟩) H
theorem bW:IxR X (aAJ X.K):=by
 intro value mp pins s σ H x y v u Q I rx ry h hs;obtain⟨p,xs,i,z,rfl,rfl,hq,he,q⟩:=h;cases rx;obtain⟨t,rfl⟩:=ry;obtain⟨gV,r,pl,hz⟩:=I.list hq;obtain⟨j,h1,h2,h3,h4,h5⟩:=Av he;obtain⟨w,ew,Z⟩:=r.get h2;have hl:=r.length;have hn:=rB;have fin:EP X pins σ Q w s:=⟨z,H,I,Z,q⟩;by_cases h0:0<=i
 ·have hj:i.toNat=j:=by
   rw[seqIndex_of h0 h5] at h1;exact av h1
  exact item_listR pl.isList h0 (by omega) (by rw[hj];simpa using ew) fin hs
 ·have hj:(i+(gV.toArray.size:Int)).toNat=j:=by
   rw[seqIndex_neg (by omega) h4] at h1;rw[aj,<- hl];exact av h1
  exact subscriptTail_builtinR (x:=w) pl.isList.typeIs slot_list_getitem.lookup
   (wpAny_getItem_list_neg (Q:=λr s'=>r=w∧EP X pins σ Q r s') pl.isList (by omega) (by rw[aj] <;> omega) (by omega) (by rw[hj];simpa using ew) ⟨rfl,fin⟩) hs
theorem lO:IxR X (aBN X.K):=by
 intro value gV pins s σ H x y v u Q I rx ry h hs;obtain⟨p,xs,i,z,rfl,rfl,hq,he,q⟩:=h;cases rx;obtain⟨t,rfl⟩:=ry;obtain⟨mp,r,pl,hz⟩:=I.tuple hq;obtain⟨j,h1,h2,h3,h4,h5⟩:=Av he;obtain⟨w,ew,Z⟩:=r.get h2;have hl:=r.length;have hn:=rB;have fin:EP X pins σ Q w s:=⟨z,H,I,Z,q⟩;exact subscriptTail_builtinR (x:=w) pl.typeIs slot_tuple_getitem.lookup
  (getItem_tuple (j:=j) (Q:=λr s'=>r=w∧EP X pins σ Q r s') pl (by omega) (by omega) (by rw[aj,<- hl];exact h1) (by simpa using ew) ⟨rfl,fin⟩) hs
theorem Xb:IxR X aBE:=by
 intro value Z pins s σ H x y v u Q I rx ry h hs;obtain⟨z,i,c,rfl,rfl,hz,he,q⟩:=h;obtain⟨t,rfl⟩:=rx;obtain⟨t',rfl⟩:=ry;obtain⟨j,h1,h2,h3,h4,h5⟩:=Av he;have hl:z.cps.toList.length=z.length:=by simp[Str.length]
 rw[hl] at h1 h4 h5;have hn:=rB;exact tail_any (typeIs_str s z t) slot_str_getitem.lookup (getItem_str (c:=c) (by
  have e1:decide (i < -(2 ^ 63:Int))=false:=AH (by omega);have e2:decide (i≥2 ^ 63)=false:=AH (by omega);rw[e1,e2,jm]) (by rw[h1];simpa using h2) ⟨.str ⟨#[c]⟩,H,I.tok _,⟨_,rfl⟩,q⟩) hs
theorem Fh (Z:List Value)(n j:Nat)(u:Value):Obj.mapSeq (·.setIfInBounds j u) { cls:=.type "list",data:=.seq Z.toArray n } = { cls:=.type "list",data:=.seq (Z.set j u).toArray n }:=by
 simp[Obj.mapSeq]
theorem Inv.lst {pins:List (Addr×Obj)}{σ:St}{H:Hp}{s:kw}{p:Addr}{xs:List V}(I:Inv X pins σ H s)(h:H p=some (.lst xs)) :
  ∃ (Z:List Value) (n:Nat),aZ xs Z∧s.heap.get? p=some { cls:=.type "list",data:=.seq Z.toArray n }∧xs.length<=sizeLine:=by
 obtain⟨z,Z,n,r,e⟩:=I.hok p _ h;exact⟨Z,n,r,e,z⟩
theorem Inv.lstUpd {pins:List (Addr×Obj)}{σ:St}{H:Hp}{s:kw}{p:Addr}{xs ys:List V}{Z its':List Value}{n n':Nat}{f:Obj->Obj}(I:Inv X pins σ H s)(h:H p=some (.lst xs))
  (ho:s.heap.get? p=some { cls:=.type "list",data:=.seq Z.toArray n }) (hf:f { cls:=.type "list",data:=.seq Z.toArray n } = { cls:=.type "list",data:=.seq its'.toArray n' }) (r:aZ ys its') (hz:ys.length<=sizeLine) (t:Nat) :
  Inv X pins σ (upd H p (.lst ys)) { s with heap:=s.heap.update p f,toks:=t }:=by
 have e:(s.heap.update p f).get? p=some { cls:=.type "list",data:=.seq its'.toArray n' }:=by
  rw[AW f ho (by rw[hf] <;> rfl),hf]
 refine I.write (x:=p) (e:=p) (by rw[h];trivial) (.inl rfl) (λb u hb q=>(AX _ _ (Ne.symm hb)).trans q) ⟨_,e⟩ ?_;exact⟨hz,its',n',r,e⟩
def Yv:V->V->V->Hp->(Hp->Prop)->Prop:=λo i v H Q=>∃ p xs k j,o = .ref p∧i = .int k∧H p=some (.lst xs)∧ixN xs.length k=some j∧Q (upd H p (.lst (xs.set j v)))
theorem Rw:Xh X Yv:=by
 intro pins s σ H o i v ov iv u Q I ro ri rv h;obtain⟨p,xs,k,j,rfl,rfl,hp,hj,q⟩:=h;cases ro;obtain⟨t,rfl⟩:=ri;obtain⟨Z,n,r,ho,hz⟩:=I.lst hp;obtain⟨h1,h2,h3,h4⟩:=Ib hj;have hl:=r.length;have hn:=rB;have I':Inv X pins σ (upd H p (.lst (xs.set j v))) { s with heap:=s.heap.update p (Obj.mapSeq (·.setIfInBounds j u)) } :=
  I.lstUpd hp ho (Fh Z n j u) (r.set rv j) (by rw[j9];exact hz) s.toks
 by_cases h0:0<=k
 ·have hk:k.toNat=j:=by
   rw[seqIndex_of h0 h4] at h1;exact av h1
  exact PySem.W.ki_setAt ho h0 (by omega) (by rw[aj,<- hl];exact h4) (by rw[hk];exact⟨_,I',q⟩)
 ·have hk:(k+(Z.toArray.size:Int)).toNat=j:=by
   rw[seqIndex_neg (by omega) h3] at h1;rw[aj,<- hl];exact av h1
  exact PySem.W.ki_setBack ho (by omega) (by rw[aj,<- hl];exact h3) (by omega) (by rw[hk];exact⟨_,I',q⟩)
theorem zN (lo hi:Option Int)(n:Nat):(sliceBounds lo hi none n).1=((HT.sIx n 0 lo:Nat):Int)∧(sliceBounds lo hi none n).2.1=((HT.sIx n n hi:Nat):Int)∧(sliceBounds lo hi none n).2.2=1:=by
 refine⟨?_,?_,rfl⟩
 ·cases lo with
  | none=>simp[sliceBounds,HT.sIx]
  | some i =>
   simp only [sliceBounds,HT.sIx,u5,show (1:Int)>0 by decide,if_true];by_cases h:i<0
   ·simp only [h,if_true] <;> omega
   ·simp only [h,if_false] <;> omega
 ·cases hi with
  | none=>simp[sliceBounds,HT.sIx]
  | some i =>
   simp only [sliceBounds,HT.sIx,u5,show (1:Int)>0 by decide,if_true];by_cases h:i<0
   ·simp only [h,if_true] <;> omega
   ·simp only [h,if_false] <;> omega
theorem xD (Z:List Value)(lo hi:Option Int):slicePick Z.toArray lo hi none=((Z.drop (HT.sIx Z.length 0 lo)).take (HT.sIx Z.length Z.length hi-HT.sIx Z.length 0 lo)).toArray:=by
 obtain⟨h1,h2,h3⟩:=zN lo hi Z.toArray.size;unfold slicePick;rw[h1,h2,h3];simp only [sliceRange_one,pick_run,aj] <;> rfl
def aBG (K:ac):V->Option Int->Option Int->Hp->VK->Prop:=λx lo hi H Q=>∃ a xs,x = .ref a∧SqL K H a xs∧∀ p,H p=none->Q (.ref p) (upd H p (.lst (iX xs lo hi)))
theorem gZ:SlR X (aBG X.K):=by
 intro pins s σ H x v vl vu lo hi sl Q I rx hs pl pu h;obtain⟨a,xs,rfl,hx,q⟩:=h;cases rx;obtain⟨gV,r,ht,hz⟩:=I.list hx;have Z:=r.length;refine⟨"list",_,slot_list_getitem.lookup,ht.isList.typeIs,?_⟩
 refine wpAny_getItem_list_slice ht.isList hs pl pu .none (by simp) ?_ (by rw[aj] <;> omega);rw[xD,<- Z];refine⟨.ref s.heap.objs.size,_,I.laid (t':=s.toks) (o:=.lst (iX xs lo hi)) (λb ob q=>AT _ q) (af _) ?_,rfl,q _ (I.hok.fresh (af _))⟩;exact⟨a5 (rQ xs lo hi) hz,_,0,(r.drop (HT.sIx xs.length 0 lo)).take (HT.sIx xs.length xs.length hi-HT.sIx xs.length 0 lo),AU _ rfl⟩
def iV:V->Bool
 | .non=>true
 | .bl _=>true
 | .int _=>true
 | .str _=>true
 | _=>false
def eqV:V->V->Bool
 | .non,.non=>true
 | .bl a,.bl b=>a==b
 | .bl a,.int b=>(if a then 1 else 0)==b
 | .int a,.bl b=>a==(if b then 1 else 0)
 | .int a,.int b=>a==b
 | .str a,.str b=>a==b
 | _,_=>false
theorem iY {A:Around}{s:kw}{y x:V}{u v:Value}(ry:bE y u)(Z:bE x v)(fy:iV y=true)(fx:iV x=true):SeqAt.EqAt A s u v (eqV y x):=by
 cases y with
 | non =>
  cases ry
  cases x with
  | non=>cases Z;exact SeqAt.EqAt.same _
  | bl b=>cases Z;exact SeqAt.EqAt.none_bool b
  | int b=>obtain⟨t,rfl⟩:=Z;exact SeqAt.EqAt.none_int b t
  | str b=>obtain⟨t,rfl⟩:=Z;exact SeqAt.EqAt.none_str b t
  | _=>exact absurd (show false=true from fx) ag
 | bl a =>
  cases ry
  cases x with
  | non=>cases Z;exact SeqAt.EqAt.bool_none a
  | bl b=>cases Z;exact SeqAt.EqAt.bool_bool a b
  | int b=>obtain⟨t,rfl⟩:=Z;exact SeqAt.EqAt.bool_int a b t
  | str b=>obtain⟨t,rfl⟩:=Z;exact SeqAt.EqAt.bool_str a b t
  | _=>exact absurd (show false=true from fx) ag
 | int a =>
  obtain⟨t',rfl⟩:=ry
  cases x with
  | non=>cases Z;exact SeqAt.EqAt.int_none a t'
  | bl b=>cases Z;exact SeqAt.EqAt.int_bool a t' b
  | int b=>obtain⟨t,rfl⟩:=Z;exact SeqAt.EqAt.int_int a t' b t
  | str b=>obtain⟨t,rfl⟩:=Z;exact SeqAt.EqAt.int_str a t' b t
  | _=>exact absurd (show false=true from fx) ag
 | str a =>
  obtain⟨t',rfl⟩:=ry
  cases x with
  | non=>cases Z;exact SeqAt.EqAt.str_none a t'
  | bl b=>cases Z;exact SeqAt.EqAt.str_bool a t' b
  | int b=>obtain⟨t,rfl⟩:=Z;exact SeqAt.EqAt.str_int a t' b t
  | str b=>obtain⟨t,rfl⟩:=Z;exact SeqAt.EqAt.str_str a t' b t
  | _=>exact absurd (show false=true from fx) ag
 | _=>exact absurd (show false=true from fy) ag
def eqU (x:V)(u:Value):Bool:=match u with
 | .none=>eqV .non x
 | .bool b=>eqV (.bl b) x
 | .int i _=>eqV (.int i) x
 | .str z _=>eqV (.str z) x
 | _=>false
theorem Gq {x y:V}{u:Value}(r:bE y u)(f:iV y=true):eqU x u=eqV y x:=by
 cases y with
 | non=>cases r;rfl
 | bl b=>cases r;rfl
 | int i=>obtain⟨t,rfl⟩:=r;rfl
 | str z=>obtain⟨t,rfl⟩:=r;rfl
 | _=>exact absurd (show false=true from f) ag
theorem oK {x:V}:∀ {xs:List V} {us:List Value},aZ xs us->xs.all iV=true->us.any (eqU x)=xs.any λy=>eqV y x
 | _,_,.nil,_=>rfl
 | y::xs,u::us,.cons r t,f=>by
  rw[sx,cz] at f;rw[mx,mx,Gq r f.1,oK t f.2]
theorem jH {A:Around}{s:kw}{x:V}{v:Value}(rx:bE x v)(Z:iV x=true):∀ {xs:List V} {us:List Value},aZ xs us->xs.all iV=true->∀ u∈us,SeqAt.EqAt A s u v (eqU x u)
 | _,_,.nil,_=>λu hu=>by cases hu
 | y::xs,u::us,.cons r t,f=>λu' hu=>by
  rw[sx,cz] at f;rcases au.mp hu with rfl | hu
  ·rw[Gq r f.1];exact iY r rx f.1 Z
  ·exact jH rx Z t f.2 u' hu
def inV (x:V)(xs:List V):Bool:=xs.any λy=>eqV y x
def rIn (K:ac)(neg:Bool):R2:=λx y H Q=>∃ p xs,y = .ref p∧(SqL K H p xs∨SqT K H p xs)∧iV x=true∧xs.all iV=true∧Q (.bl (if neg then !inV x xs else inV x xs)) H
theorem Lu:OpR X (compareOp .In) (rIn X.K false):=by
 intro pins s σ H x y v u Q I rx ry h;obtain⟨p,xs,rfl,hq,fx,fs,q⟩:=h;cases ry;rcases hq with hq | hq
 ·obtain⟨Z,r,pl,hz⟩:=I.list hq
  refine SeqAt.in_listAt (eqU x) pl.isList (λw hw=>jH rx fx r fs w (by simpa using hw)) ⟨.bl _,H,I,rfl,?_⟩;rw[show Z.toArray.any (eqU x)=Z.any (eqU x) by simp,oK r fs];exact q
 ·obtain⟨Z,r,pl,hz⟩:=I.tuple hq
  refine SeqAt.in_tupleAt (eqU x) pl (λw hw=>jH rx fx r fs w (by simpa using hw)) ⟨.bl _,H,I,rfl,?_⟩;rw[show Z.toArray.any (eqU x)=Z.any (eqU x) by simp,oK r fs];exact q
theorem gW:OpR X (compareOp .NotIn) (rIn X.K true):=by
 intro pins s σ H x y v u Q I rx ry h;obtain⟨p,xs,rfl,hq,fx,fs,q⟩:=h;cases ry;rcases hq with hq | hq
 ·obtain⟨Z,r,pl,hz⟩:=I.list hq
  refine SeqAt.notIn_listAt (eqU x) pl.isList (λw hw=>jH rx fx r fs w (by simpa using hw)) ⟨.bl _,H,I,rfl,?_⟩;rw[show Z.toArray.any (eqU x)=Z.any (eqU x) by simp,oK r fs];exact q
 ·obtain⟨Z,r,pl,hz⟩:=I.tuple hq
  refine SeqAt.notIn_tupleAt (eqU x) pl (λw hw=>jH rx fx r fs w (by simpa using hw)) ⟨.bl _,H,I,rfl,?_⟩;rw[show Z.toArray.any (eqU x)=Z.any (eqU x) by simp,oK r fs];exact q
theorem aW:dR X (.builtin "len") (λxs H Q=>∃ p ys,xs=[.ref p]∧(SqL X.K H p ys∨SqT X.K H p ys)∧Q (.int ys.length) H):=by
 intro pins s σ H xs us Q I r h;obtain⟨p,ys,rfl,hq,q⟩:=h;obtain⟨u,rfl,rx⟩:=fV r;cases rx;have hn:=rB;rcases hq with hq | hq
 ·obtain⟨gV,r',pl,hz⟩:=I.list hq
  have Z:=r'.length;exact Calls.call_len_list pl.isList (by simp only [aj] <;> omega) ⟨.int ys.length,H,I.tok _,⟨s.toks+1,by rw[aj,Z]⟩,q⟩
 ·obtain⟨gV,r',pl,hz⟩:=I.tuple hq
  have Z:=r'.length;exact len_tuple pl (by simp only [aj] <;> omega) ⟨.int ys.length,H,I.tok _,⟨s.toks+1,by rw[aj,Z]⟩,q⟩
theorem zZ:dR X (.builtin "len") (λxs H Q=>∃ z,xs=[.str z]∧z.length<=sizeLine∧Q (.int z.length) H):=by
 intro pins s σ H xs us Q I r h;obtain⟨z,rfl,Z,q⟩:=h;obtain⟨u,rfl,t,rfl⟩:=fV r;have hn:=rB;exact len_str (by omega) ⟨.int z.length,H,I.tok _,⟨_,rfl⟩,q⟩
theorem pM:dR X (.type "list") (λxs H Q=>∃ p ys,xs=[.ref p]∧(SqL X.K H p ys∨SqT X.K H p ys)∧∀ l,H l=none->Q (.ref l) (upd H l (.lst ys))):=by
 intro pins s σ H xs us Q I r h;obtain⟨p,ys,rfl,hq,q⟩:=h;obtain⟨u,rfl,rx⟩:=fV r;cases rx;have fin:∀ (Z:List Value),aZ ys Z->ys.length<=sizeLine->∀ (h':Heap) (c':Nat),(∀ b o',s.heap.get? b=some o'->h'.get? b=some o') ->
   h'.get? s.heap.objs.size=some { cls:=.type "list",dict:=none,data:=.seq Z.toArray c',slots:=#[] }->EP X pins σ Q (.ref s.heap.objs.size) { s with heap:=h' }:=λZ r' hz h' c' kp e =>
  ⟨.ref s.heap.objs.size,_,I.laid (t':=s.toks) kp (af _) (show cF X.prog X.w _ h' _ (.lst ys) from ⟨hz,Z,c',r',e⟩),rfl,q _ (I.hok.fresh (af _))⟩
 rcases hq with hq | hq
 ·obtain⟨Z,r',pl,hz⟩:=I.list hq
  have gV:=r'.length;obtain⟨o,ho,hc,n,hd⟩:=pl.isList;exact call_list_seq p (.inl rfl) ho hc hd (λh' c' kp e=>fin Z r' hz h' c' kp e) (by simp only [aj] <;> omega)
 ·obtain⟨Z,r',pl,hz⟩:=I.tuple hq
  have gV:=r'.length;obtain⟨o,ho,hc,n,hd⟩:=pl;exact call_list_seq p (.inr rfl) ho hc hd (λh' c' kp e=>fin Z r' hz h' c' kp e) (by simp only [aj] <;> omega)
theorem mG:dR X (.type "tuple") (λxs H Q=>∃ p ys,xs=[.ref p]∧((SqL X.K H p ys∧∀ l,H l=none->Q (.ref l) (upd H l (.tup ys)))∨(SqT X.K H p ys∧Q (.ref p) H))):=by
 intro pins s σ H xs us Q I r h;obtain⟨p,ys,rfl,h⟩:=h;obtain⟨u,rfl,rx⟩:=fV r;cases rx;rcases h with ⟨hq,q⟩ | ⟨hq,q⟩
 ·obtain⟨Z,r',pl,hz⟩:=I.list hq
  have gV:=r'.length;refine call_tuple_list pl.isList (λh' kp=>?_) (by simp only [aj] <;> omega);have I1:Inv X pins σ H { s with heap:=h' }:=I.kept (t':=s.toks) kp;have I2:Inv X pins σ (upd H h'.objs.size (.tup ys)) { s with heap:=h'.push { cls:=.type "tuple",data:=.seq Z.toArray } } :=
   I1.laid (t':=s.toks) (λb o e=>AT _ e) (af _) (show cF X.prog X.w _ _ _ (.tup ys) from ⟨hz,Z,r',IsTup.new _ _⟩)
  exact⟨.ref h'.objs.size,_,I2,rfl,q _ (I1.hok.fresh (af _))⟩
 ·obtain⟨Z,r',pl,hz⟩:=I.tuple hq
  exact call_tuple_same pl ⟨.ref p,H,I,rfl,q⟩
def tyV (K:ac)(T:String)(x:V)(H:Hp):Prop:=match x with
 | .str _=>T = "str"
 | .int _=>T = "int"
 | .ref p=>(T = "list" ∧ ∃ xs,SqL K H p xs)∨(T = "tuple" ∧ ∃ o,K.lookup p=some o∧o.cls = .type "tuple" ∧ o.dict=none) ∨
  (T = "dict" ∧ ((∃ kvs,H p=some (.dK kvs))∨∃ kvs,H p=some (.dT kvs)))∨(T = "set" ∧ ∃ S n,H p=some (.set S n))
 | _=>False
theorem Op {pins:List (Addr×Obj)}{σ:St}{H:Hp}{s:kw}{T:String}{x:V}{v:Value}(I:Inv X pins σ H s)(r:bE x v)(ty:tyV X.K T x H) :
  s.TypeIs v T∧∀ a,v = .ref a->∃ ob,s.heap.get? a=some ob∧ob.dict=none:=by
 cases x with
 | str z =>
  obtain⟨t,rfl⟩:=r;cases (show T = "str" from ty)
  exact⟨typeIs_str s z t,λ_ e=>nomatch e⟩
 | int i =>
  obtain⟨t,rfl⟩:=r;cases (show T = "int" from ty)
  exact⟨typeIs_int s i t,λ_ e=>nomatch e⟩
 | ref p =>
  cases r;rcases ty with ⟨rfl,xs,hq⟩ | ⟨rfl,o,hk,hc,hd⟩ | ⟨rfl,hk⟩ | ⟨rfl,S,n,hk⟩
  ·obtain⟨gV,_,pl,_⟩:=I.list hq
   refine⟨pl.isList.typeIs,λa e=>?_⟩;cases e;obtain⟨o,n,e,c,hd,_⟩:=pl;exact⟨o,e,hd⟩
  ·refine⟨⟨o,I.kIn p o hk,hc⟩,λa e=>?_⟩
   cases e;exact⟨o,I.kIn _ o hk,hd⟩
  ·have z:∃ o,s.heap.get? p=some o∧o.ExactDict:=by
    rcases hk with ⟨kvs,hk⟩ | ⟨kvs,hk⟩
    ·obtain⟨_,_,_,_,o,_,_,e,ex,_⟩:=I.hok p _ hk
     exact⟨o,e,ex⟩
    ·obtain⟨_,_,_,_,o,_,_,e,ex,_⟩:=I.hok p _ hk
     exact⟨o,e,ex⟩
   obtain⟨o,e,ex⟩:=z;refine⟨⟨o,e,ex.1⟩,λa Z=>?_⟩;cases Z;exact⟨o,e,ex.2.1⟩
  ·obtain⟨o,_,_,_,e,ex,_⟩:=I.hok p _ hk
   refine⟨⟨o,e,ex.1⟩,λa Z=>?_⟩;cases Z;exact⟨o,e,ex.2.1⟩
 | _=>exact False.elim ty
def aAv (K:ac)(T:String)(r:V->List V->Hp->VK->Prop)(to:TE):TE:=λσ H Q=>to σ H λx H1=>tyV K T x H1∧r x [] H1 Q
def tBM (K:ac)(T:String)(r:V->List V->Hp->VK->Prop)(to:TE)(t:TA):TE:=λσ H Q=>to σ H λx H1=>tyV K T x H1∧t σ H1 λxs H2=>r x xs H2 Q
variable {o e:Expr}{es:List Expr}{to:TE}{t:TA}{name:Str}{apos cpos:Pos}{T id:String}{r:V->List V->Hp->VK->Prop}
theorem Xk (pa:PlainAttrs T)(slot:Slot T name id)(mp:typeOf (.builtin id)=pure (.type "method_descriptor"))(hm:MtR X id r)(ho:PE X o to)
  (gV:attributeBase o name X.env (eval o X.env)=eval o X.env:=by rfl) (Z:(apos.endLine==cpos.line)=true:=by rfl):PE X (.Call (.Attribute o name apos) [] [] cpos) (aAv X.K T r to):=by
 intro pins s σ H Q I h;refine wpAny_Call_method0_late gV Z (thn (ho pins s σ H _ I h) λv s1 ⟨x,H1,I1,r1,ty,q1⟩=>?_);obtain⟨h1,h2⟩:=Op I1 r1 ty;exact⟨T,id,pa,slot,mp,h1,h2,Calls.callWith_builtin rfl (PySem.evalArgs_none (hm pins s1 σ H1 x [] v [] Q I1 r1 .nil q1))⟩
theorem rS (pa:PlainAttrs T)(slot:Slot T name id)(wp:typeOf (.builtin id)=pure (.type "method_descriptor"))(hm:MtR X id r)(ho:PE X o to)(ha:PA X (e::es) t)
  (gV:attributeBase o name X.env (eval o X.env)=eval o X.env:=by rfl)
  (or:((backTo cpos (starEach (e::es) X.env)).all (λx=>!x.1)&&(backToKw cpos (keywordEach [] X.env)).all (λx=>x.1.isSome)
   && decide ((e::es).length+([]:List Keyword).length+(if ([]:List Keyword).isEmpty then 0 else 1)<30))=true:=by rfl)
  (mp:(apos.endLine==cpos.line)=true:=by rfl) (hs:starEach (e::es) X.env=(false,eval e X.env)::starEach es X.env:=by rfl) (Z:(backTo cpos (starEach es X.env)).any (·.1)=false:=by rfl) :
  PE X (.Call (.Attribute o name apos) (e::es) [] cpos) (tBM X.K T r to t):=by
 intro pins s σ H Q I h;refine wpAny_Call_method_late gV or mp rfl (thn (ho pins s σ H _ I h) λv s1 ⟨x,H1,I1,r1,ty,q1⟩=>?_);obtain⟨h1,h2⟩:=Op I1 r1 ty;refine⟨T,id,pa,slot,wp,h1,h2,?_⟩;have hA:=ha cpos pins s1 σ H1 _ I1 q1;rw[hs] at hA ⊢;refine Calls.callWith_builtin (by show (false||(backTo cpos (starEach es X.env)).any (·.1))=false;rw[Z] <;> rfl) (Calls.evalArgs_plain ?_);exact thn hA λus s2 ⟨vs,H2,I2,r2,q2⟩=>hm pins s2 σ H2 x vs v us Q I2 r1 r2 q2
end
def MtM (X:Cx)(id:String)(r:V->List V->Hp->VK->Prop):Prop :=
 ∀ (pins:List (Addr×Obj)) (s:kw) (σ:St) (H:Hp) (x:V) (xs:List V) (v:Value) (us:List Value) (Q:VK),Inv X pins σ H s->bE x v->aZ xs us->r x xs H Q ->
  wpAny (model X.prog X.w) X.A (call (.builtin id) (v::us)) (EP X pins σ Q) X.xe s
theorem aZ.one:∀ {x:V} {us:List Value},aZ [x] us->∃ u,us=[u]∧bE x u
 | _,_,.cons r .nil=>⟨_,rfl,r⟩
theorem aZ.zero:∀ {us:List Value},aZ [] us->us=[]
 | _,.nil=>rfl
theorem aZ.dropLast {xs:List V}{us:List Value}(h:aZ xs us):aZ xs.dropLast us.dropLast:=by
 induction h with
 | nil=>exact .nil
 | cons r t ih =>
  cases t with
  | nil=>exact .nil
  | cons q t'=>exact .cons r ih
theorem aZ.eraseIdx:∀ {xs:List V} {us:List Value} (i:Nat),aZ xs us->aZ (xs.eraseIdx i) (us.eraseIdx i)
 | _,_,_,.nil=>.nil
 | _,_,0,.cons _ t=>t
 | _,_,i+1,.cons r t=>.cons r (aZ.eraseIdx i t)
theorem aZ.rep {xs:List V}{us:List Value}(h:aZ xs us):∀ k:Nat,aZ (cp k xs).flatten (cp k us).flatten
 | 0=>.nil
 | k+1=>by
  rw[fe,fe,ji,ji];exact aZ.append h (aZ.rep h k)
theorem Hc {α:Type}(l:List α):l.eraseIdx (l.length-1)=l.dropLast:=by
 induction l with
 | nil=>rfl
 | cons a r ih =>
  cases r with
  | nil=>rfl
  | cons b r =>
   have e:(a::b::r).length-1=((b::r).length-1)+1:=by
    have h1:(a::b::r).length=r.length+2:=rfl;have h2:(b::r).length=r.length+1:=rfl;omega
   rw[e,List.eraseIdx_cons_succ,ih]
   all_goals rfl
theorem xN {α:Type}:∀ (l:List α) (i:Nat),(l.eraseIdx i).length<=l.length
 | [],_=>af _
 | _::_,0=>gv _
 | _::r,i+1=>Nat.succ_le_succ (xN r i)
theorem yJ (gV:List Value):∀ (k:Nat) (Z:List Value),
  tm (λx1 x2=>x1++x2) Z.toArray (cp k gV.toArray)=(Z++(cp k gV).flatten).toArray
 | 0,Z=>by simp
 | k+1,Z=>by
  have e:Z.toArray++gV.toArray=(Z++gV).toArray:=by simp
  have e2:(Z++gV)++(cp k gV).flatten=Z++(cp (k+1) gV).flatten:=by
   rw[fe,ji,d8]
  rw[<- e2,<- yJ gV k (Z++gV),<- e,fe,qt]
section
variable {X:Cx}{pins:List (Addr×Obj)}{σ:St}{H:Hp}{s:kw}{l b:Addr}{xs ys zs:List V}
theorem Inv.lset {Z its':List Value}{n:Nat}{f:Array Value->Array Value}{t':Nat}(I:Inv X pins σ H s)(hH:H l=some (.lst xs))
  (e:s.heap.get? l=some { cls:=.type "list",data:=.seq Z.toArray n }) (hf:f Z.toArray=its'.toArray) (hv:aZ ys its') (hz:ys.length<=sizeLine) :
  Inv X pins σ (upd H l (.lst ys)) { s with heap:=s.heap.update l (Obj.mapSeq f),toks:=t' }:=by
 have q:=PySem.IsL.update e f;rw[hf] at q;refine I.write (x:=l) (e:=l) (by rw[hH];exact trivial) (.inl rfl) (λb' u hb hu=>(AX s.heap (Obj.mapSeq f) (Ne.symm hb)).trans hu) ⟨_,q⟩ ?_;exact⟨hz,its',_,hv,q⟩
theorem Inv.lnew {Z:List Value}{t':Nat}(I:Inv X pins σ H s)(hv:aZ ys Z)(hz:ys.length<=sizeLine) :
  Inv X pins σ (upd H s.heap.objs.size (.lst ys)) { s with heap:=s.heap.push { cls:=.type "list",data:=.seq Z.toArray },toks:=t' } :=
 I.laid (λ_ _ q=>AT _ q) (af _) ⟨hz,Z,0,hv,AU _ rfl⟩
theorem Inv.fresh (I:Inv X pins σ H s):H s.heap.objs.size=none:=I.hok.fresh (af _)
theorem Inv.lstM (I:Inv X pins σ H s)(hH:H l=some (.lst xs)):xs.length<=sizeLine∧∃ (Z:List Value) (n:Nat),aZ xs Z∧xs.length=Z.length∧s.heap.get? l=some { cls:=.type "list",data:=.seq Z.toArray n }:=by
 obtain⟨z,Z,n,r,e⟩:=I.hok l _ hH;exact⟨z,Z,n,r,r.length,e⟩
theorem Nf {n:Nat}(h:n<=sizeLine):Builtin.List.listTooLong n=false:=by
 unfold Builtin.List.listTooLong;exact AH (by omega)
end
section
variable {X:Cx}
def Tk:V->List V->Hp->VK->Prop:=λx vs H Q=>∃ l xs y,x = .ref l∧vs=[y]∧H l=some (.lst xs)∧xs.length<sizeLine∧Q .non (upd H l (.lst (xs++[y])))
theorem gE:MtM X "list.append" Tk:=by
 intro pins s σ H x vs v us Q I rx rv h;obtain⟨l,xs,y,rfl,rfl,hH,hz,q⟩:=h;cases rx;obtain⟨u,rfl,ru⟩:=rv.one;obtain⟨z,Z,n,r,hl,e⟩:=I.lstM hH;refine call_meets F.slot_list_append ⟨_,e,rfl⟩ F.entry_list_append (F.args_list_append_2 _ _) (PySem.list_append l Z.toArray n u (by rw[aj];omega)) ⟨e,?_⟩;refine⟨.non,_,I.lset (its':=Z++[u]) hH e (by simp) (r.append (.cons ru .nil)) ?_,rfl,q⟩;rw[ai,cm];omega
def aBR:V->List V->Hp->VK->Prop:=λx vs H Q=>∃ l xs y,x = .ref l∧vs=[]∧H l=some (.lst xs)∧xs[xs.length-1]?=some y∧Q y (upd H l (.lst xs.dropLast))
theorem Xo:MtM X "list.pop" aBR:=by
 intro pins s σ H x vs v us Q I rx rv h;obtain⟨l,xs,y,rfl,rfl,hH,hy,q⟩:=h;cases rx;have mp:=rv.zero;subst mp;obtain⟨z,Z,n,r,hl,e⟩:=I.lstM hH;obtain⟨u,hu,ru⟩:=r.get hy;have gV:Z.toArray[Z.toArray.size-1]?=some u:=by
  show Z.toArray[Z.length-1]?=some u;rw[<- jf,<- hl];exact hu
 refine call_meets F.slot_list_pop ⟨_,e,rfl⟩ F.entry_list_pop (F.args_list_pop_1 _) (MeetsSeq.list_pop_last l Z.toArray n u gV (by rw[aj];omega)) ⟨e,?_⟩;refine⟨y,_,I.lset (its':=Z.dropLast) hH e ?_ r.dropLast ?_,ru,q⟩
 ·show Z.toArray.eraseIdxIfInBounds (Z.toArray.size-1)=Z.dropLast.toArray
  rw[aj,ma,Hc]
 ·rw[ku]
  omega
def Yp:V->List V->Hp->VK->Prop:=λx vs H Q=>∃ l xs i k y,x = .ref l∧vs=[.int i]∧H l=some (.lst xs)∧-(2 ^ 63)<=i∧i<2 ^ 63∧seqIndex? i xs.length=some k∧xs[k]?=some y∧Q y (upd H l (.lst (xs.eraseIdx k)))
theorem Rh:MtM X "list.pop" Yp:=by
 intro pins s σ H x vs v us Q I rx rv h;obtain⟨l,xs,i,k,y,rfl,rfl,hH,h1,h2,hk,hy,q⟩:=h;cases rx;obtain⟨u,rfl,ru⟩:=rv.one;obtain⟨t,rfl⟩:=ru;obtain⟨z,Z,n,r,hl,e⟩:=I.lstM hH;obtain⟨w,hw,gV⟩:=r.get hy;refine call_meets F.slot_list_pop ⟨_,e,rfl⟩ F.entry_list_pop (F.args_list_pop_2 _ _)
  (MeetsSeq.list_pop_at l Z.toArray n i t k w (fitsIndex_both h1 h2) (by rw[aj,<- hl];exact hk) (by rw[<- jf];exact hw) (by rw[aj];omega)) ⟨e,?_⟩
 refine⟨y,_,I.lset (its':=Z.eraseIdx k) hH e ?_ (r.eraseIdx k) ?_,gV,q⟩
 ·show Z.toArray.eraseIdxIfInBounds k=(Z.eraseIdx k).toArray
  rw[ma]
 ·have:=xN xs k
  omega
theorem Vc {α:Type}(xs:List α)(k:Nat):(cp k xs).flatten.length=k*xs.length:=by
 induction k with
 | zero=>simp
 | succ k ih=>rw[fe,ji,ai,ih,l6,j4]
end
end L2
namespace Att
open PySem PySem.W PySem.Calls PyProof.Rows
theorem sJ {P:Params}{h:Heap}:∀ (ns:List Int) (vs:List Value),WellAll P h vs (ns.map WData.int)->IntsAre vs ns:=by
 intro ns
 induction ns with
 | nil =>
  intro vs w;rw[lz] at w;cases w;exact .nil
 | cons n ns ih =>
  intro vs w;rw[ap] at w
  cases w with
  | cons a b =>
   cases a;exact .cons _ _ (ih _ b)
theorem Lj {l:OpenLaw}{n:Nat}(hn:l.most=some n){P:Params}{h:Heap}{args:List WData}{vals:List Value}
  (Z:l.row.toRowW.claim.pre args=true) (mp:WellAll P h vals args) :
  ∃ a vs ns,vals=[Value.ref a]∧args=[WData.list (ns.map WData.int)]∧h.get? a=some { cls:=.type "list",data:=.seq vs.toArray }∧IntsAre vs ns∧ns.length<=n:=by
 have or:WShape.hasAll [] args [.list .int]=true:=(pre_splitW Z).1;have hc:l.pre.holds [] { args:=args }=true:=(pre_splitW Z).2;obtain⟨d,r,rfl,h1,h2⟩:=hasAllW_cons or;obtain rfl:=hasAllW_nil h2;obtain⟨xs,rfl,h3⟩:=hasW_list h1;obtain⟨ns,rfl⟩:=items_int h3;have gV:ns.length<=n:=by
  unfold OpenLaw.pre at hc;have h4:(WTm.not (.lt (.lit (.int (n:Int))) (.len (.arg 0)))).holds [] { args:=[.list (ns.map .int)] }=true:=by
   have h4:=(holds_andW hc).1;rw[hn] at h4;exact h4
  have h5:=condW_of h4 (w_not (w_lt w_lit (w_len_list (w_arg rfl))));rw[aR] at h5;refine Nat.le_of_not_lt λq=>?_
  have q':(n:Int)<((ns.length:Nat):Int):=by omega
  first
   | (rw[AE q'] at h5;exact absurd h5 (by decide))
   | (simp at h5;omega)
 cases mp with
 | cons w1 w2 =>
  cases w2
  cases w1 with
  | list ho hall=>exact⟨_,_,ns,rfl,rfl,ho,sJ ns _ hall,gV⟩
theorem Mi (l:OpenLaw)(args:List WData):l.row.toRowW.claim.post args (.bool true) args=true :=
 postW_of (r:=l.row.toRowW) (X:=(true==true))
  (show WShape.has [] (.bool true) .bool=true by first | rfl | decide | simp[WShape.has,WShape.arms,WShape.armsAll])
  (show (WTm.eq .res (.lit (.bool true))).value [] { args:=args,res:=some (.bool true),after:=args }=some (.bool (true==true)) from w_eq_bool (w_res rfl) w_lit) rfl
theorem Dq {l:OpenLaw}{n:Nat}{q:xv}{loose:List Str}{XP:(Str->Option Value)->Heap->Prop}{YP:World->Heap->Prop}{d:DefRec}
  (hn:l.most=some n) (hdf:d.params.defaults=[])
  (call:∀ (w:World) (s₀ s₁:kw) (mg mb:Str->Option Value) (fa:Addr) (o:Obj) (pm cd doc:Value) (a:Addr) (vs:List Value) (ns:List Int),
   Ground q loose [] XP w s₀ mg mb s₁.heap->YP w s₁.heap ->
   s₁.heap.get? fa=some o->o.data = .func (docDef d.name d.params d.body d.scope pm cd doc)->s₁.heap.CodeRec cd d.name->mg d.name=some (.ref fa) ->
   s₁.heap.get? a=some { cls:=.type "list",data:=.seq vs.toArray }->IntsAre vs ns->ns.length<=n->s₁.gens = #[] ->
   codeAny (model l.prog w) callerA (.call (.ref fa) ⟨[.ref a],[]⟩) (λr s'=>r = .ok (.ret (.bool true))∧OldK s₁.heap s'.heap∧s'.os=s₁.os∧AllBare s'.gens) s₁) :
  WalkO q loose XP YP l.row.toRowW d [] (λf vs=>vo f vs):=by
 intro w s₀ s₁ mg mb G Y fa o pm cd doc dV kV ho hd wp hD hmg hg args vals as mp wx wz ww w4;obtain rfl:dV = .none:=Dflts.none hD hdf;obtain rfl:kV = .none:=Dflts.noKw hD;obtain⟨a,vs,ns,rfl,rfl,gV,Z,or⟩:=Lj hn mp ww;refine enter_call (AQ (call w s₀ s₁ mg mb fa o pm cd doc a vs ns G Y ho (fd_plain hd) wp hmg gV Z or hg) λr s' hq=>?_);obtain⟨rfl,h2,h3,h4⟩:=hq;exact⟨.inl ⟨.bool true,.bool true,[],rfl,λ_=>rfl,.bool true,Mi l _,λ_=>⟨wu,λ_ hm=>(nomatch hm)⟩⟩,h2,h3,h4⟩
end Att
namespace L2
open PySem PySem.Spec PyProof.Rows
theorem yS:∀ {vs:List Value} {ns:List Int},IntsAre vs ns->aZ (ns.map V.int) vs
 | _,_,.nil=>.nil
 | _,_,.cons n t h=>.cons ⟨t,rfl⟩ (yS h)
def Yd (H:Hp):Prop:=∀ b,H b=none∨∃ o xs,H b=some (.frz o (.lst xs))
theorem Rg {P:xv}{w:World}{K:ac}{mg mb:Str->Option Value}{CX:CXT}{k:Nat}{fa a:Addr}{fd:wh}{x:Str}{sp:Sp}{s₁:kw}{vs:List Value}{ns:List Int}
  (KX:K.In s₁.heap) (or:s₁.heap.Ns mainGlobals mg) (hb:s₁.heap.Ns builtinsNs mb) (w4:∀ x:Str,x ≠ "__name__" -> mb x=bootBuiltins x) (wp:s₁.heap.NoLimit) (hg:s₁.gens = #[])
  (ha:s₁.heap.get? a=some { cls:=.type "list",data:=.seq vs.toArray }) (hi:IntsAre vs ns) (hl:ns.length<=sizeLine) (hr:eF k callerA)
  (F:∀ base:Heap,K.In base->base.Ns mainGlobals mg->bI P w K mg base CX k fa fd [x] sp) (gV:∀ (s:kw) (u:Value),BindsTo s fd ⟨[u],[]⟩ [(x,u)])
  (w8:∀ H:Hp,Yd H->SqL K H a (ns.map V.int)->sp [.ref a] H (λv _=>v = .bl true) λ_ _ _=>False)
  (wz:∀ H e s',CX [] H s₁ (λ_ _ _=>False) e s'->False) :
  codeAny (model P w) callerA (.call (.ref fa) ⟨[.ref a],[]⟩) (λr s'=>r = .ok (.ret (.bool true))∧OldK s₁.heap s'.heap∧s'.os=s₁.os∧AllBare s'.gens) s₁:=by
 have rv:=yS hi;have ww:=hi.length;have core:∀ H:Hp,Yd H->SqL K H a (ns.map V.int)->HOk P w H s₁.heap->(∀ b,H b≠none->b=a)->(H a≠none->K.lookup a=none) ->
   codeAny (model P w) callerA (.call (.ref fa) ⟨[.ref a],[]⟩) (λr s'=>r = .ok (.ret (.bool true))∧OldK s₁.heap s'.heap∧s'.os=s₁.os∧AllBare s'.gens) s₁:=by
  intro H hO hS hok hA hK;have base_of:∀ {b:Addr} {o:Obj},s₁.heap.get? b=some o->H b=none->(Bb s₁.heap H).get? b=some o:=λe n=>Py e n
  have w6:∀ {b:Addr} {o:Obj} {es:Array DictEntry} {ep:Nat},s₁.heap.get? b=some o->o.data = .dict es ep->H b=none:=λ{b o es ep} e d=>by
   cases q:H b with
   | none=>rfl
   | some u =>
    have e':b=a:=hA b (by rw[q];simp);subst e';rw[ha] at e;cases e;have d':Data.seq vs.toArray _=Data.dict es ep:=d;cases d'
  have Z:∀ {b:Addr} {m:Str->Option Value},s₁.heap.Ns b m->(Bb s₁.heap H).Ns b m:=λ{b m} ⟨o,es,ep,e,d,r⟩=>⟨o,es,ep,base_of e (w6 e d),d,r⟩
  have wx:K.In (Bb s₁.heap H):=λb o e=>base_of (KX b o e) (by
   cases q:H b with
   | none=>rfl
   | some u =>
    have e':b=a:=hA b (by rw[q];simp);subst e';rw[hK (by rw[q];simp)] at e;cases e)
  have hM:Mod K mg (Bb s₁.heap H):=⟨wx,Z or,⟨mb,Z hb,w4⟩,let ⟨mc,h1,h2⟩:=wp;⟨mc,Z h1,h2⟩⟩;have e0:Gj P w K mg (Bb s₁.heap H) callerA [] s₁ H:=⟨rfl,hM,λb o e=>Ur e,qc (Lk _ _),trivial,λb hb=>absurd (show b∈([]:List Addr) from hb) (by simp),hok,.of_eq hg⟩;refine AQ ((F _ wx (Z or)).run callerA [] s₁ H ⟨[.ref a],[]⟩ [.ref a] [.ref a] _ _ hr e0 (gV s₁ (.ref a)) (.cons rfl .nil) (w8 H hO hS)) λr s' h=>?_
  cases r with
  | error e=>exact (wz H e s' h).elim
  | ok fl =>
   cases fl with
   | next=>exact False.elim h
   | brk=>exact False.elim h
   | cont=>exact False.elim h
   | ret u =>
    obtain⟨v,H',os,bare,un,mp,r',q⟩:=h;have q':v = .bl true:=q;subst q';obtain rfl:u=Value.bool true:=r';refine⟨rfl,OldK.of_keep λb o e=>?_,os,bare⟩
    cases q:H b with
    | none=>exact un.keep b o e q (by intro z;exact absurd (show b∈([]:List Addr) from z) (by simp)) (by simp)
    | some u =>
     rcases hO b with z | ⟨ob,xs,z⟩
     ·rw[q] at z;cases z
     ·have z2:=un.frzs b ob _ z
      obtain⟨e1,_⟩:=hok b _ z;obtain⟨e2,_⟩:=mp b _ z2;rw[e] at e1;cases e1;exact e2
 cases hk:K.lookup a with
 | some o =>
  have e:=KX a o hk;rw[ha] at e;cases e;refine core (λ_=>none) (λ_=>.inl rfl) (.inr ⟨_,vs.toArray,_,hk,rfl,rfl,rfl,by rw[aj,ww];exact hl,by simpa using rv⟩) (λb u z=>by have z':(none:Option HO)=some u:=z;cases z') (λb z=>absurd rfl z) λz=>absurd rfl z
 | none =>
  refine core (λb=>if b=a then some (.frz { cls:=.type "list",data:=.seq vs.toArray } (.lst (ns.map V.int))) else none) (λb=>?_) (.inl (.inr ⟨{ cls:=.type "list",data:=.seq vs.toArray },AD rfl⟩)) (λb u z=>?_) (λb z=>?_) λ_=>hk
  ·by_cases hb:b=a
   ·exact .inr ⟨_,_,AD hb⟩
   ·exact .inl (AC hb)
  ·by_cases hb:b=a
   ·have z':=(AD hb).symm.trans z
    cases z';subst hb;exact⟨ha,by rw[aR];exact hl,vs,_,rv,ha⟩
   ·have z':=(AC hb).symm.trans z
    cases z'
  ·by_cases hb:b=a
   ·exact hb
   ·exact absurd (AC hb) z
theorem Tf {l:qu}{n k:Nat}{q:xv}{loose:List Str}{XP:(Str->Option Value)->Heap->Prop}{YP:World->Heap->Prop}{d:DefRec}{K:Params->ac}{CX:World->CXT}{sp:World->Sp}{x:Str}
  (hn:l.most=some n) (or:n<=sizeLine) (hdf:d.params.defaults=[]) (hr:eF k callerA)
  (hY:∀ (w:World) (h:Heap),YP w h->(K w.params).In h)
  (F:∀ (w:World) (mg:Str->Option Value) (fa:Addr) (h:Heap),(K w.params).In h->h.Ns mainGlobals mg->mg d.name=some (.ref fa) ->
   ∃ fd:wh,(∀ (s:kw) (u:Value),BindsTo s fd ⟨[u],[]⟩ [(x,u)]) ∧
    ∀ base:Heap,(K w.params).In base->base.Ns mainGlobals mg->bI l.prog w (K w.params) mg base (CX w) k fa fd [x] (sp w))
  (ww:∀ (w:World) (H:Hp) (a:Addr) (ns:List Int),ns.length<=n->Yd H->SqL (K w.params) H a (ns.map V.int)->sp w [.ref a] H (λv _=>v = .bl true) λ_ _ _=>False)
  (wp:∀ (w:World) (H:Hp) (s:kw) (e:Value) (s':kw),CX w [] H s (λ_ _ _=>False) e s'->False) :
  wf q loose XP YP l.row.toRowW d [] (λf vs=>vo f vs):=by
 refine Att.Dq hn hdf λw s₀ s₁ mg mb fa o pm cd doc a vs ns G Y ho hd wx hmg mp gV Z hg=>?_
 have KX:=hY w _ Y;obtain⟨fd,hb,hF⟩:=F w mg fa _ KX G.T.g hmg;exact Rg KX G.T.g G.T.b G.T.builtins G.T.nolimit hg mp gV (a5 Z or) hr hF hb (λH hO hS=>ww w H a ns Z hO hS) λH e s'=>wp w H s₁ e s'
def eT (s:Stmt)(j:Nat):Stmt:=match s with
 | .ClassDef _ _ _ body _ _ _ _ _ _ _=>body.getD j (.Pass ⟨0,0,0,0⟩)
 | _=>.Pass ⟨0,0,0,0⟩
def eE (s:Stmt):Arguments:=match s with
 | .FunctionDef _ a _ _ _ _ _ _ _ _=>a
 | _=>{ posonlyargs:=[],args:=[],vararg:=none,kwonlyargs:=[],kw_defaults:=[],kwarg:=none,defaults:=[] }
def dL (s:Stmt):List Stmt:=match s with
 | .FunctionDef _ _ b _ _ _ _ _ _ _=>b
 | _=>[]
def aF (s:Stmt):Scope:=match s with
 | .FunctionDef _ _ _ _ _ _ sc _ _ _=>sc
 | _=>{ kind:=.function,names:=[],isGenerator:=false,isCoroutine:=false }
abbrev E0:XK:=λ_ _ _=>False
structure Fun (K:ac)(x qual:Str)(st:Stmt)(f:Addr)(fd:wh):Prop where
 ex:∃ (oc:Value) (od:Option Addr) (kV doc pm:Value) (an:Option Addr) (cdv ct:Value) (osl:Array (Option Value)),
  fd=ei x qual (eE st) (dL st) (aF st) .none kV doc pm an cdv ct∧K.lookup f=some ⟨oc,od,.func fd,osl⟩∧ja K cdv qual=true
 kp:dl K (.ref f)=true
section
variable {P:xv}{w:World}{K:ac}{mg:Str->Option Value}{base:Heap}
theorem Fun.binds {x qual:Str}{st:Stmt}{f:Addr}{fd:wh}{ps:List Str}(F:Fun K x qual st f fd)
  (h:∀ (kV doc pm:Value) (an:Option Addr) (cdv ct:Value) (us:List Value),us.length=ps.length->bindArgs (ei x qual (eE st) (dL st) (aF st) .none kV doc pm an cdv ct) ⟨us,[]⟩=pure (ps.zip us)):fD K fd ps []:=by
 obtain⟨oc,od,kV,doc,pm,an,cdv,ct,osl,rfl,lk,Z⟩:=F.ex;exact .all (h kV doc pm an cdv ct)
theorem Gg {x qual:Str}{st:Stmt}{f:Addr}{oc:Value}{od an:Option Addr}{osl:Array (Option Value)}{kV doc pm cdv ct:Value}(l:K.lookup f=some ⟨oc,od,.func (ei x qual (eE st) (dL st) (aF st) .none kV doc pm an cdv ct),osl⟩)
 (c:ja K cdv qual=true) (k:dl K (.ref f)=true):Fun K x qual st f (ei x qual (eE st) (dL st) (aF st) .none kV doc pm an cdv ct):=⟨⟨oc,od,kV,doc,pm,an,cdv,ct,osl,rfl,l,c⟩,k⟩
end
theorem eD {A:Around}{k:Nat}(Z:eF k A):A.units+1<cLine:=fk (le (by decide:1<=64) _) Z.units
section
variable {X:Cx}
theorem pv (i:Nat){x:Str}{pos:Pos}(hN:X.N[i]?=some x:=by rfl)(hv:Vis X.env.scope x:=by first | exact Or.inl rfl | exact Or.inr (Or.inl rfl) | exact Or.inr (Or.inr rfl))(hd:(x==("__debug__" : Str))=false:=by decide)
 (Z:(x==("__classdict__" : Str))=false:=by decide):PE X (.Name x pos) (Zp i):=Xe hN hv hd Z
end
theorem oE {A B:Prop}(h:B):if false=true then A else B:=by
 rw[AC ag];exact h
theorem oQ {A B:Prop}(h:A):if true=true then A else B:=by
 rw[AD rfl];exact h
theorem oW {c A B:Prop}[Decidable c](h1:c->A)(h2:¬ c->B):if c then A else B:=by
 by_cases h:c
 ·rw[AD h]
  exact h1 h
 ·rw[AC h]
  exact h2 h
theorem Vr {c A B:Prop}[Decidable c](Z:c)(h:B):if (!decide c)=true then A else B:=by
 rw[AE Z];exact oE h
def aL (H H':Hp):Prop:=∀ b o,H b=some o->H' b=some o
theorem aL.refl (H:Hp):aL H H:=λ_ _ h=>h
theorem aL.trans {H H1 H2:Hp}(a:aL H H1)(b:aL H1 H2):aL H H2:=λc o h=>b c o (a c o h)
theorem aL.seq {K:ac}{H H':Hp}{a:Addr}{xs:List V}(e:aL H H')(h:SqL K H a xs):SqL K H' a xs:=by
 rcases h with (h | ⟨o,h⟩) | h
 ·exact .inl (.inl (e _ _ h))
 ·exact .inl (.inr ⟨o,e _ _ h⟩)
 ·exact .inr h
end L2
namespace Wd
abbrev W:=List Nat
theorem aAu (a:W):¬ a<a:=gf a
theorem aBD {a b c:W}(h:¬ b<a)(h':¬ c<b):¬ c<a:=λZ=>u8.mpr (List.le_trans (u8.mp h) (u8.mp h')) Z
def rot (k:Nat)(w:W):W:=w.drop k++w.take k
theorem Jb {a b:W}(hl:a.length=b.length)(h:∀ i,i<a.length->a[i]?=b[i]?):a=b:=by
 apply l7 ;intro i;by_cases hi:i<a.length
 ·exact h i hi
 ·rw[c8 (by omega),c8 (by omega)]
def Bd (w:W):Nat->W
 | 0=>w
 | n+1=>if rot (n+1) w<Bd w n then rot (n+1) w else Bd w n
def mK (w:W):W:=Bd w (w.length-1)
theorem Ya {a b:W}(h:a<b)(hl:b.length<=a.length)(x y:W):a++x<b++y:=by
 induction a generalizing b with
 | nil =>
  cases b with
  | nil=>exact absurd h (aAu _)
  | cons d b=>simp at hl
 | cons c a ih =>
  cases b with
  | nil=>exact absurd h (by simp)
  | cons d b =>
   rw[i8,i8];rw[me] at h ⊢;rcases h with h | ⟨h,h'⟩
   ·exact .inl h
   ·exact .inr ⟨h,ih h' (by simpa using hl)⟩
theorem Da (p:W){a b:W}:p++a<p++b↔a<b:=by
 induction p with
 | nil=>rfl
 | cons c p ih =>
  rw[i8,i8,me];constructor
  ·intro h
   rcases h with h | ⟨_,h⟩
   ·exact absurd h (e9 _)
   ·exact ih.mp h
  ·intro h
   exact .inr ⟨rfl,ih.mpr h⟩
def rep (n:Nat)(l:W):W:=(cp n l).flatten
theorem oY (n:Nat)(l:W):rep (n+1) l=l++rep n l:=by unfold rep;rw[fe,ji]
theorem Cw (l:W):rep 0 l=[]:=rfl
theorem Ve (l:W):rep 1 l=l:=by rw[oY,Cw,da]
theorem nP (n:Nat)(l:W):(rep n l).length=n*l.length:=by
 induction n with
 | zero=>rw[Cw,ul];rfl
 | succ n ih=>rw[oY,ai,ih,l6,j4]
theorem Uc {l:W}{n i:Nat}(h:i<n*l.length):(rep n l)[i]?=l[i % l.length]?:=by
 induction n generalizing i with
 | zero=>rw[ul] at h;omega
 | succ n ih =>
  rw[oY];rw[l6] at h;by_cases hi:i<l.length
  ·rw[eh hi,gy hi]
  ·rw[dw (by omega),ih (by omega)]
   congr 1
   rw[<- Nat.mod_eq_sub_mod (by omega)]
end Wd
namespace Dt
abbrev Mx:=Nat->Nat->Int
def dH:Nat->(Nat->Int)->Int
 | 0,_=>0
 | n+1,f=>dH n f+f n
def sk (j k:Nat):Nat:=if k<j then k else k+1
def sg (j:Nat):Int:=if j % 2=0 then 1 else -1
def det:Nat->Mx->Int
 | 0,_=>1
 | n+1,A=>dH (n+1) λj=>sg j*(A 0 j*det n λi k=>A (i+1) (sk j k))
section
variable {n N p q i j k l:Nat}{A B:Mx}{f g:Nat->Int}{c m:Int}
theorem eV:∀ {n:Nat},(∀ j,j<n->f j=g j)->dH n f=dH n g
 | 0,_=>rfl
 | n+1,h=>by
  show dH n f+f n=dH n g+g n;rw[eV (n:=n) λj Z=>h j (by omega),h n (by omega)]
theorem oJ:∀ {n:Nat},dH n (λj=>f j+c*g j)=dH n f+c*dH n g
 | 0=>by show (0:Int)=0+c*0;omega
 | n+1=>by
  show dH n (λj=>f j+c*g j)+(f n+c*g n)=(dH n f+f n)+c*(dH n g+g n);rw[oJ (n:=n),r6];omega
theorem kS:∀ {n:Nat},(∀ j,j<n->f j=0)->dH n f=0
 | 0,_=>rfl
 | n+1,h=>by
  show dH n f+f n=0;rw[kS (n:=n) λj Z=>h j (by omega),h n (by omega)];rfl
theorem Iu {n:Nat}:dH n (λj=>c*g j)=c*dH n g:=by
 have h:=oJ (n:=n) (f:=λ_=>0) (c:=c) (g:=g);rw[kS (λ_ _=>rfl)] at h;rw[eV (g:=λj=>0+c*g j) λj _=>by omega,h];omega
theorem yH:∀ {n:Nat},(∀ j,0<j->j<n+1->f j=0)->dH (n+1) f=f 0
 | 0,_=>by show (0:Int)+f 0=f 0;omega
 | n+1,h=>by
  show dH (n+1) f+f (n+1)=f 0;rw[yH (n:=n) λj Z hj=>h j Z (by omega),h (n+1) (by omega) (by omega)];omega
theorem Mt (h:k<n):sk j k<n+1:=by unfold sk;split <;> omega
theorem bK:∀ {n:Nat} {A B:Mx},(∀ i k,i<n->k<n->A i k=B i k)->det n A=det n B
 | 0,_,_,_=>rfl
 | n+1,A,B,h=>by
  refine eV λj Z=>?_
  rw[h 0 j (by omega) Z,bK (n:=n) λi k hi hk=>h (i+1) (sk j k) (by omega) (Mt hk)]
def cC (A:Mx)(i:Nat)(u:Nat->Int):Mx:=λa k=>if a=i then u k else A a k
theorem lU {u:Nat->Int}:cC A i u i=u:=by
 funext k
 exact AD rfl
theorem jQ {u:Nat->Int}{a:Nat}(h:a≠i):cC A i u a=A a:=by
 funext k
 exact AC h
theorem He {u:Nat->Int}:(λa k=>cC A (i+1) u (a+1) (sk j k))=cC (λa k=>A (a+1) (sk j k)) i λk=>u (sk j k):=by
 funext a k
 unfold cC;by_cases h:a=i
 ·rw[AD h,AD (by omega)]
 ·rw[AC h,AC (by omega)]
theorem oZ:∀ {n:Nat} {A:Mx} {i:Nat} {u v:Nat->Int},i<n->det n (cC A i λk=>u k+c*v k)=det n (cC A i u)+c*det n (cC A i v)
 | n+1,A,0,u,v,_=>by
  have e:∀ w:Nat->Int,det (n+1) (cC A 0 w)=dH (n+1) λj=>sg j*(w j*det n λi k=>A (i+1) (sk j k)):=λw=>by
   refine eV λj _=>?_
   rw[lU,bK (n:=n) (A:=λi k=>cC A 0 w (i+1) (sk j k)) (B:=λi k=>A (i+1) (sk j k)) λa k _ _=>by rw[jQ (by omega)]]
  rw[e,e,e,<- oJ];refine eV λj _=>?_
  rw[Int.add_mul,r6]
  congr 1
  rw[dv c,<- dv (sg j) c,g8 (sg j) c,dv c]
 | n+1,A,i+1,u,v,h=>by
  have e:∀ w:Nat->Int,det (n+1) (cC A (i+1) w)=dH (n+1) λj=>sg j*(A 0 j*det n (cC (λa k=>A (a+1) (sk j k)) i λk=>w (sk j k))):=λw=>by
   refine eV λj _=>?_
   rw[He,jQ (by omega)]
  rw[e,e,e,<- oJ];refine eV λj _=>?_
  rw[oZ (n:=n) (i:=i) (u:=λk=>u (sk j k)) (v:=λk=>v (sk j k)) (by omega),r6,r6]
  congr 1
  rw[<- dv (A 0 j) c,g8 (A 0 j) c,dv c,<- dv (sg j) c,g8 (sg j) c,dv c]
theorem Ir:sg (j+1) = - sg j:=by
 unfold sg;by_cases h:j % 2=0
 ·rw[AD h,AC (by omega)]
 ·rw[AC h,AD (by omega)];rfl
theorem aAX:sg j*sg j=1:=by
 unfold sg;split <;> rfl
theorem dbl {F:Nat->Nat->Int}:∀ {N:Nat},(∀ j l,l<j->j<=N->F j l+F l (j-1)=0)->dH (N+1) (λj=>dH N (F j))=0
 | 0,_=>rfl
 | N+1,h=>by
  have ih:=dbl (N:=N) λj l hl hj=>h j l hl (by omega)
  have Z:dH (N+1) (λj=>dH (N+1) (F j))=dH (N+1) (λj=>dH N (F j)+1*F j N):=eV λj _=>by
   show dH N (F j)+F j N=_;omega
  have e2:dH (N+1) (λl=>F l N+1*F (N+1) l)=0:=kS λl hl=>by
   have:=h (N+1) l (by omega) (by omega)
   rw[tu] at this;omega
  rw[oJ] at Z e2;show dH (N+1) (λj=>dH (N+1) (F j))+dH (N+1) (F (N+1))=0;have e3:dH (N+1) (F (N+1))=dH (N+1) λl=>F (N+1) l:=rfl
  rw[Z,ih];omega
theorem aAL (h:l<j):sk j (sk l k)=sk l (sk (j-1) k):=by
 have a:∀ x y:Nat,sk x y=if y<x then y else y+1:=λ_ _=>rfl
 by_cases h1:k<l
 ·rw[a l k,AD h1,a j k,AD (by omega),a (j-1) k,AD (by omega),a l k,AD h1]
 ·rw[a l k,AC h1]
  by_cases h2:k+1<j
  ·rw[a j,AD h2,a (j-1) k,AD (by omega),a l k,AC h1]
  ·rw[a j,AC h2,a (j-1) k,AC (by omega),a l,AC (by omega)]
theorem aAz (h:∀ k,k<n+2->A 0 k=A 1 k):det (n+2) A=0:=by
 have e:det (n+2) A=dH (n+2) λj=>dH (n+1) λl=>sg j*(A 0 j*(sg l*(A 1 (sk j l)*det n λi k=>A (i+2) (sk j (sk l k))))):=by
  refine eV λj _=>?_
  show sg j*(A 0 j*dH (n+1) λl=>sg l*(A 1 (sk j l)*det n λi k=>A (i+2) (sk j (sk l k))))=_;rw[<- Iu,<- Iu]
 rw[e];refine dbl λj l hl hj=>?_
 have s1:sk j l=l:=by unfold sk;rw[AD hl]
 have s2:sk l (j-1)=j:=by unfold sk;rw[AC (by omega)];omega
 have s3:(λi k=>A (i+2) (sk l (sk (j-1) k)))=λi k=>A (i+2) (sk j (sk l k)):=by
  funext i k
  rw[aAL hl]
 rw[s1,s2,s3,<- h j (by omega),<- h l (by omega)];have Z:sg j = - sg (j-1):=by rw[<- Ir,jb (by omega)]
 rw[Z];generalize det n (λi k=>A (i+2) (sk j (sk l k)))=d
 grind
theorem alt:∀ {n i:Nat} {A:Mx},i+1<n->(∀ k,k<n->A i k=A (i+1) k)->det n A=0
 | n+2,0,A,_,h=>aAz h
 | n+1,i+1,A,hi,h=>by
  refine kS λj _=>?_
  rw[alt (n:=n) (i:=i) (A:=λa k=>A (a+1) (sk j k)) (by omega) λk hk=>h (sk j k) (Mt hk),g9,g9]
def tr (p i:Nat):Nat:=if i=p then p+1 else if i=p+1 then p else i
theorem pS {u v:Nat->Int}(h:i≠j):cC (cC A i u) j v=cC (cC A j v) i u:=by
 funext a k
 unfold cC;by_cases h1:a=i
 ·rw[AC (by omega),AD h1,AD h1]
 ·by_cases h2:a=j
  ·rw[AD h2,AC h1,AD h2]
  ·rw[AC h2,AC h1,AC h1,AC h2]
theorem Ah {u v:Nat->Int}(h:i<n):det n (cC A i λk=>u k+v k)=det n (cC A i u)+det n (cC A i v):=by
 have:=oZ (c:=1) (A:=A) (u:=u) (v:=v) h
 rw[jz] at this;rw[<- this]
 congr 2
 funext k
 omega
theorem jG (u:Nat->Int)(h:∀ k,u k=A i k):det n (cC A i u)=det n A:=bK λa k _ _=>by
 unfold cC;by_cases e:a=i
 ·rw[AD e,h,e]
 ·rw[AC e]
theorem swap (h:p+1<n):det n (λi k=>A (tr p i) k) = - det n A:=by
 have D:∀ x y:Nat->Int,∃ d,det n (cC (cC A p x) (p+1) y)=d:=λ_ _=>⟨_,rfl⟩
 have z:∀ w:Nat->Int,det n (cC (cC A p w) (p+1) w)=0:=λw=>alt h λk _=>by rw[jQ (by omega),lU,lU]
 have l2:∀ x y y':Nat->Int,det n (cC (cC A p x) (p+1) λk=>y k+y' k)=det n (cC (cC A p x) (p+1) y)+det n (cC (cC A p x) (p+1) y'):=λx y y'=>Ah h
 have l1:∀ x Z y:Nat->Int,det n (cC (cC A p λk=>x k+Z k) (p+1) y)=det n (cC (cC A p x) (p+1) y)+det n (cC (cC A p Z) (p+1) y):=λx Z y=>by
  rw[pS (by omega),pS (u:=x) (by omega),pS (u:=Z) (by omega)];exact Ah (by omega)
 have e0:=z λk=>A p k+A (p+1) k
 rw[l2,l1,l1,z,z] at e0;have e1:det n (cC (cC A p (A p)) (p+1) (A (p+1)))=det n A:=by
  rw[jG _ (λk=>by rw[jQ (by omega)]),jG _ (λk=>rfl)]
 have e2:det n (cC (cC A p (A (p+1))) (p+1) (A p))=det n λi k=>A (tr p i) k:=by
  refine bK λa k _ _=>?_
  unfold cC tr;by_cases h1:a=p+1
  ·rw[AD h1,AC (by omega),AD h1]
  ·rw[AC h1]
   by_cases h2:a=p
   ·rw[AD h2,AD h2]
   ·rw[AC h2,AC h2,AC h1]
 rw[e1,e2] at e0;omega
theorem tJ:∀ (d:Nat) {i:Nat} {A:Mx},i+1+d<n->(∀ k,k<n->A i k=A (i+1+d) k)->det n A=0
 | 0,i,A,hi,h=>alt hi h
 | d+1,i,A,hi,h=>by
  have h2:=tJ d (i:=i) (A:=λa k=>A (tr (i+1+d) a) k) (by omega) λk hk=>by
   show A (tr (i+1+d) i) k=A (tr (i+1+d) (i+1+d)) k;unfold tr;rw[AC (by omega),AC (by omega),AD rfl];exact h k hk
  rw[swap (by omega)] at h2;omega
theorem Xn {t:Int}(Z:0<i)(h:i<n):det n (cC A i λk=>A i k-t*A 0 k)=det n A:=by
 have e:=oZ (c:=-t) (A:=A) (u:=A i) (v:=A 0) h;rw[jG (A i) λ_=>rfl,tJ (i-1) (i:=0) (A:=cC A i (A 0)) (by omega) λk _=>?_,g9,um] at e
 ·rw[<- e]
  congr 2
  funext k
  rw[u9];omega
 ·rw[jQ (by omega),show 0+1+(i-1)=i by omega,lU]
theorem Qr {t:Nat->Int}:∀ {m:Nat},m<=n->det n (λi k=>if 0<i∧i<m then A i k-t i*A 0 k else A i k)=det n A
 | 0,_=>bK λi k _ _=>AC (by omega)
 | m+1,hm=>by
  rw[<- Qr (m:=m) (by omega)];by_cases h0:m=0
  ·subst h0
   exact bK λi k _ _=>by rw[AC (by omega),AC (by omega)]
  ·rw[<- Xn (A:=λi k=>if 0<i∧i<m then A i k-t i*A 0 k else A i k) (i:=m) (t:=t m) (by omega) (by omega)]
   refine bK λi k _ _=>?_
   unfold cC
   dsimp only
   by_cases h1:i=m
   ·subst h1
    rw[AD rfl,AD (by omega),AC (by omega),AC (by omega)]
   ·rw[AC h1]
    by_cases h2:0<i∧i<m
    ·rw[AD h2,AD (by omega)]
    ·rw[AC h2,AC (by omega)]
theorem Xy:∀ {n:Nat} {A:Mx},(∀ i,i<n+1->A i 0=0)->det (n+1) A=0
 | n,A,h=>by
  refine kS λj Z=>?_
  cases j with
  | zero=>rw[h 0 (by omega),qf,g9]
  | succ j =>
   cases n with
   | zero=>omega
   | succ n=>rw[Xy (n:=n) (A:=λi k=>A (i+1) (sk (j+1) k)) λi hi=>h (i+1) (by omega),g9,g9]
theorem aAk (h:∀ i,i<n->A (i+1) 0=0):det (n+1) A=A 0 0*det n λi k=>A (i+1) (k+1):=by
 show dH (n+1) _=_;rw[yH λj Z hj=>?_]
 ·show sg 0*(A 0 0*det n λi k=>A (i+1) (sk 0 k))=_
  rw[show sg 0=1 from rfl,jz];rfl
 ·cases n with
  | zero=>omega
  | succ n =>
   rw[Xy (A:=λi k=>A (i+1) (sk j k)) λi hi=>by
    show A (i+1) (sk j 0)=0;rw[show sk j 0=0 by unfold sk;rw[AD Z]];exact h i hi,g9,g9]
def Cg (m a b:Int):Prop:=m∣a-b
theorem Cg.refl (a:Int):Cg m a a:=by unfold Cg;rw[Int.sub_self];exact Int.dvd_zero m
theorem Cg.symm {a b:Int}(h:Cg m a b):Cg m b a:=by
 unfold Cg at *;rw[<- Int.neg_sub];exact r8.mpr h
theorem Cg.trans {a b d:Int}(h:Cg m a b)(g:Cg m b d):Cg m a d:=by
 unfold Cg at *;rw[show a-d=(a-b)+(b-d) by omega];exact va h g
theorem Cg.add {a b Z b':Int}(h:Cg m a b)(g:Cg m Z b'):Cg m (a+Z) (b+b'):=by
 unfold Cg at *;rw[show a+Z-(b+b')=(a-b)+(Z-b') by omega];exact va h g
theorem Cg.mul {a b Z b':Int}(h:Cg m a b)(g:Cg m Z b'):Cg m (a*Z) (b*b'):=by
 unfold Cg at *;rw[show a*Z-b*b'=(a-b)*Z+b*(Z-b') by rw[o0,Int.mul_sub];omega];exact va (pk h) (pe g)
theorem Cg.sub {a b Z b':Int}(h:Cg m a b)(g:Cg m Z b'):Cg m (a-Z) (b-b'):=by
 unfold Cg at *;rw[show a-Z-(b-b')=(a-b)-(Z-b') by omega];exact Int.dvd_sub h g
theorem Cg.neg {a b:Int}(h:Cg m a b):Cg m (-a) (-b):=by
 have:=(Cg.refl (m:=m) 0).sub h
 rwa [nr,nr] at this
theorem qA (a:Int):Cg m (a % m) a:=by
 unfold Cg;rw[Int.emod_def];rw[show a-m*(a/m)-a = -(m*(a/m)) by omega];exact r8.mpr (uo ..)
theorem Nt:∀ {n:Nat},(∀ j,j<n->Cg m (f j) (g j))->Cg m (dH n f) (dH n g)
 | 0,_=>Cg.refl _
 | n+1,h=>(Nt (n:=n) λj Z=>h j (by omega)).add (h n (by omega))
theorem Bo:∀ {n:Nat} {A B:Mx},(∀ i k,i<n->k<n->Cg m (A i k) (B i k))->Cg m (det n A) (det n B)
 | 0,_,_,_=>Cg.refl _
 | n+1,A,B,h=>Nt λj Z=>(Cg.refl _).mul ((h 0 j (by omega) Z).mul (Bo λi k hi hk=>h (i+1) (sk j k) (by omega) (Mt hk)))
theorem Qg {t:Nat->Int}(h:∀ i,i<n->m∣A (i+1) 0-t i*A 0 0):Cg m (det (n+1) A) (A 0 0*det n λi k=>A (i+1) (k+1)-t i*A 0 (k+1)):=by
 rw[<- Qr (n:=n+1) (A:=A) (t:=λi=>t (i-1)) (m:=n+1) (af _)];refine (Bo (B:=λi k=>if i=0 then A 0 k else if k=0 then 0 else A i k-t (i-1)*A 0 k) λi k hi hk=>?_).trans ?_
 ·by_cases h0:i=0
  ·subst h0
   rw[AC (by omega),AD rfl];exact Cg.refl _
  ·rw[AD (by omega),AC h0]
   by_cases hk0:k=0
   ·subst hk0
    rw[AD rfl]
    have:=h (i-1) (by omega)
    rw[show i-1+1=i by omega] at this;unfold Cg;rw[nu];exact this
   ·rw[AC hk0]
    exact Cg.refl _
 ·rw[aAk λi _=>by rw[AC (by omega),AD rfl]]
  rw[AD rfl];have e:det n (λi k=>if i+1=0 then A 0 (k+1) else if k+1=0 then 0 else A (i+1) (k+1)-t (i+1-1)*A 0 (k+1))=det n λi k=>A (i+1) (k+1)-t i*A 0 (k+1):=bK λi k _ _=>by rw[AC (by omega),AC (by omega)];rfl
  rw[e];exact Cg.refl _
def mv (p:Nat)(A:Mx):Mx:=λi k=>if i=0 then A p k else if i<=p then A (i-1) k else A i k
theorem Oz:∀ {p:Nat} {A:Mx},p<n->det n (mv p A)=sg p*det n A
 | 0,A,h=>by
  rw[show sg 0=1 from rfl,jz];exact bK λi k _ _=>by
   unfold mv;by_cases h0:i=0
   ·rw[AD h0,h0]
   ·rw[AC h0,AC (by omega)]
 | p+1,A,h=>by
  have Z:=Oz (p:=p) (A:=λi k=>A (tr p i) k) (by omega);rw[swap h] at Z;rw[Ir,u9,<- Int.mul_neg,<- Z];refine bK λi k _ _=>?_
  unfold mv tr
  dsimp only
  by_cases h0:i=0
  ·rw[AD h0,AD h0,AD rfl]
  ·rw[AC h0,AC h0]
   by_cases h1:i<=p
   ·rw[AD (by omega),AD h1,AC (by omega),AC (by omega)]
   ·by_cases h2:i=p+1
    ·subst h2
     rw[AD (by omega),AC (by omega),AC (by omega),AD rfl];rfl
    ·rw[AC (by omega),AC h1,AC (by omega),AC h2]
end
def sN:Nat->(Nat->Nat)->Nat
 | 0,_=>0
 | n+1,f=>sN n f+f n
def pN:Nat->(Nat->Nat)->Nat
 | 0,_=>1
 | n+1,f=>f 0*pN n λi=>f (i+1)
section
variable {n N p q i j k l:Nat}{A B:Mx}{f g:Nat->Nat}{c m:Int}
theorem Mv:∀ {n:Nat},(∀ j,j<n->f j<=g j)->sN n f<=sN n g
 | 0,_=>af _
 | n+1,h=>Nat.add_le_add (Mv λj Z=>h j (by omega)) (h n (by omega))
theorem Ez {c:Nat}:∀ {n:Nat},sN n (λj=>f j*c)=sN n f*c
 | 0=>by show 0=0*c;omega
 | n+1=>by
  show sN n (λj=>f j*c)+f n*c=(sN n f+f n)*c;rw[Ez (n:=n),ib]
theorem Vj:∀ {n:Nat} {f g:Nat->Nat},(∀ j,j<n->f j<=g j)->pN n f<=pN n g
 | 0,_,_,_=>af _
 | n+1,f,g,h=>ic (h 0 (by omega)) (Vj λj Z=>h (j+1) (by omega))
theorem Ho {f:Nat->Int}:∀ {n:Nat},(dH n f).natAbs<=sN n λj=>(f j).natAbs
 | 0=>af _
 | n+1=>by
  have:=Ho (f:=f) (n:=n)
  have h2:=Int.natAbs_add_le (dH n f) (f n);show (dH n f+f n).natAbs<=sN n (λj=>(f j).natAbs)+(f n).natAbs;omega
theorem Wg {f:Nat->Nat}{j:Nat}:∀ {n:Nat},sN n (λk=>f (sk j k))<=sN (n+1) f
 | 0=>cc _
 | n+1=>by
  show sN n (λk=>f (sk j k))+f (sk j n)<=sN (n+1) f+f (n+1);by_cases h:n<j
  ·have e:∀ m,m<=n+1->sN m (λk=>f (sk j k))=sN m f:=λm=>by
    induction m with
    | zero=>intro _;rfl
    | succ m ih =>
     intro hm;show sN m (λk=>f (sk j k))+f (sk j m)=sN m f+f m;rw[ih (by omega),show sk j m=m by unfold sk;rw[AD (by omega)]]
   have:=e (n+1) (af _)
   have Z:sN (n+1) (λk=>f (sk j k))=sN n (λk=>f (sk j k))+f (sk j n):=rfl;omega
  ·have:=Wg (j:=j) (f:=f) (n:=n)
   rw[show sk j n=n+1 by unfold sk;rw[AC h]];omega
theorem Yn:(sg j).natAbs=1:=by unfold sg;split <;> rfl
theorem yQ:∀ {n:Nat} {A:Mx},(det n A).natAbs<=pN n λi=>sN n λk=>(A i k).natAbs
 | 0,_=>af _
 | n+1,A=>by
  refine a5 Ho ?_;show _<=sN (n+1) (λk=>(A 0 k).natAbs)*pN n λi=>sN (n+1) λk=>(A (i+1) k).natAbs
  rw[<- Ez];refine Mv λj _=>?_
  rw[oh,oh,Yn,ie];exact jt _ (a5 yQ (Vj λi _=>Wg (f:=λk=>(A (i+1) k).natAbs)))
def ent (M:List (List Int)):Mx:=λi k=>(M.getD i []).getD k 0
theorem yD {α:Type}{M:List α}{d:α}(i:Nat):(M.eraseIdx p).getD i d=M.getD (if i<p then i else i+1) d:=by
 rw[ak,ak,l8];split <;> rfl
theorem Va {M:List (List Int)}{u:List Int->List Int}(h:i<M.length):(M.map u).getD i []=u (M.getD i []):=by
 rw[ak,ak,ah,aa h];rfl
theorem elim {M:List (List Int)}{top:List Int}{back:Int}{t:List Int->Int}{low:List Int->List Int}(hp:p<n+1)(hM:M.length=n+1)(gV:∀ k,k<n+1->Cg m (top.getD k 0) ((M.getD p []).getD k 0))(hb:Cg m (top.getD 0 0*back) 1)
  (ht:∀ r∈M,Cg m (t r) (r.getD 0 0*back)) (Z:∀ r∈M,∀ k,k<n->(low r).getD k 0=r.getD (k+1) 0-t r*top.getD (k+1) 0):Cg m (det (n+1) (ent M)) (sg p*(top.getD 0 0*det n (ent ((M.eraseIdx p).map low)))):=by
 have e1:det (n+1) (ent M)=sg p*det (n+1) (mv p (ent M)):=by
  rw[Oz hp,<- dv,aAX,jz]
 have mem:∀ i,i<n->(M.eraseIdx p).getD i []∈M:=λi hi=>by
  rw[yD];split
  ·rw[ak,aa (by omega)]
   exact dk _
  ·rw[ak,aa (by omega)]
   exact dk _
 have row:∀ i k,i<n->mv p (ent M) (i+1) k=((M.eraseIdx p).getD i []).getD k 0:=λi k hi=>by
  unfold mv ent;rw[AC (by omega),yD];by_cases h:i<p
  ·rw[AD (by omega),AD h]
   rfl
  ·rw[AC (by omega),AC h]
 rw[e1];refine (Cg.refl _).mul ?_;refine (Bo (B:=λi k=>if i=0 then top.getD k 0 else mv p (ent M) i k) λi k hi hk=>?_).trans ?_
 ·by_cases h0:i=0
  ·subst h0
   rw[AD rfl];exact (gV k hk).symm
  ·rw[AC h0]
   exact Cg.refl _
 ·refine (Qg (t:=λi=>t ((M.eraseIdx p).getD i [])) λi hi=>?_).trans ?_
  ·rw[AC (by omega),AD rfl,row i 0 hi]
   have h1:=ht _ (mem i hi);have h2:=(h1.mul (Cg.refl (top.getD 0 0))).trans (b:=((M.eraseIdx p).getD i []).getD 0 0*back*top.getD 0 0) (d:=((M.eraseIdx p).getD i []).getD 0 0*1) (by
    rw[dv,g8 back];exact (Cg.refl _).mul hb)
   rw[mz] at h2;exact h2.symm
  ·rw[AD rfl]
   refine (Cg.refl _).mul ?_;rw[bK (B:=ent ((M.eraseIdx p).map low)) λi k hi hk=>?_]
   ·exact Cg.refl _
   ·rw[AC (by omega),AD rfl,row i (k+1) hi]
    unfold ent;rw[Va (by rw[ig];split <;> omega),Z _ (mem i hi) k hk]
theorem Zy {M:List (List Int)}(h:∀ r∈M,m∣r.getD 0 0)(Z:M.length=n+1):Cg m (det (n+1) (ent M)) 0:=by
 rw[<- Xy (n:=n) (A:=λi k=>if k=0 then 0 else ent M i k) λi _=>AD rfl];refine Bo λi k hi hk=>?_
 by_cases hk0:k=0
 ·subst hk0
  rw[AD rfl];unfold Cg ent;rw[nu];refine h _ ?_;rw[ak,aa (by omega)];exact dk _
 ·rw[AC hk0]
  exact Cg.refl _
theorem Uw:∀ {r:List Int} {n:Nat},r.length=n->(((r.map λx=>if x<0 then -x else x).sum:Int))=((sN n λk=>(r.getD k 0).natAbs:Nat):Int):=by
 intro r
 induction r with
 | nil=>intro n h;subst h;rfl
 | cons x r ih =>
  intro n h;subst h;have Z:∀ (n:Nat) (f:Nat->Nat),sN (n+1) f=f 0+sN n λk=>f (k+1):=λn=>by
   induction n with
   | zero=>intro f;show 0+f 0=f 0+0;omega
   | succ n ih2 =>
    intro f;show sN (n+1) f+f (n+1)=f 0+(sN n (λk=>f (k+1))+f (n+1));rw[ih2];omega
  rw[ap,cy,ih rfl,ar,Z];show (if x<0 then -x else x)+_=(((x.natAbs+sN r.length λk=>(r.getD k 0).natAbs:Nat)):Int);rw[kc]
  congr 1
  split <;> omega
end
end Dt
namespace Wd
def gC (t:W)(n i:Nat):W:=(bt n).map λk=>t.getD ((i+k) % t.length) 0
theorem nD (t:W)(n i:Nat):(gC t n i).length=n:=by rw[gC,aR,cq]
theorem vS {t:W}{n i k:Nat}(h:k<n)(Z:0<t.length):(gC t n i)[k]?=t[(i+k) % t.length]?:=by
 rw[gC,ah,List.getElem?_range h];show some (t.getD ((i+k) % t.length) 0)=_;rw[ak,aa (jn _ Z)];rfl
theorem zO {t:W}{n i:Nat}(h:i+n<=t.length):(t.drop i).take n=gC t n i:=by
 apply Jb
 ·rw[cj,bu,nD]
  omega
 ·intro k hk
  rw[cj,bu] at hk;rw[jl (by omega),lq,vS (by omega) (by omega),gy (by omega)]
theorem Uk {t:W}{n i c:Nat}(h:i+n<=c*t.length)(Z:0<t.length):((rep c t).drop i).take n=gC t n i:=by
 apply Jb
 ·rw[cj,bu,nP,nD]
  omega
 ·intro k hk
  rw[cj,bu,nP] at hk;rw[jl (by omega),lq,vS (by omega) Z,Uc (by omega)]
def bV (t:W)(n:Nat):List W:=(bt (t.length+1-n)).map (gC t n)
def Rr (t:W)(n:Nat):List W:=(bt t.length).map (gC t n)
def win (t:W)(n:Nat)(b:Bool):List W:=if b=true then Rr t n else bV t n
theorem Qh (t:W)(n:Nat):(bV t n).length=t.length+1-n:=by rw[bV,aR,cq]
theorem gL:∀ {xs ys:List W},xs.Perm ys->xs.Pairwise (λa b=>¬ b<a)->ys.Pairwise (λa b=>¬ b<a)->xs=ys:=by
 intro xs ys h h1 h2;refine List.Perm.eq_of_pairwise ?_ h1 h2 h;intro a b _ _ Z z2;exact m4 a b z2 Z
end Wd
namespace Hg
variable {bg en:List Nat->List Nat}
inductive Rch (bg en:List Nat->List Nat)(ms:List (List Nat))(p:List Nat):List Nat->Prop
 | self:Rch bg en ms p p
 | fw {w:List Nat}:w∈ms->Rch bg en ms p (bg w)->Rch bg en ms p (en w)
 | bw {w:List Nat}:w∈ms->Rch bg en ms p (en w)->Rch bg en ms p (bg w)
def Cl (bg en:List Nat->List Nat)(ls:List (List Nat))(w:List Nat):Prop:=bg w∈ls↔en w∈ls
theorem Rch.inside {ms ls:List (List Nat)}{p z:List Nat}(hp:p∈ls)(Z:∀ w∈ms,Cl bg en ls w)(h:Rch bg en ms p z):z∈ls:=by
 induction h with
 | self=>exact hp
 | fw hw _ ih=>exact (Z _ hw).mp ih
 | bw hw _ ih=>exact (Z _ hw).mpr ih
theorem Rch.mono {ms ns:List (List Nat)}{p z:List Nat}(Z:∀ w∈ms,w∈ns)(h:Rch bg en ms p z):Rch bg en ns p z:=by
 induction h with
 | self=>exact .self
 | fw hw _ ih=>exact .fw (Z _ hw) ih
 | bw hw _ ih=>exact .bw (Z _ hw) ih
theorem Rch.perm {ms ns:List (List Nat)}{p z:List Nat}(Z:ms.Perm ns):Rch bg en ms p z↔Rch bg en ns p z:=⟨λh=>h.mono λ_ hw=>Z.mem_iff.mp hw,λh=>h.mono λ_ hw=>Z.mem_iff.mpr hw⟩
def nN (ls:List (List Nat))(t:List Nat):List (List Nat):=if t∈ls then ls else ls++[t]
theorem lA {ls:List (List Nat)}{t z:List Nat}:z∈nN ls t↔z∈ls∨z=t:=by
 unfold nN;split
 ·rename_i h
  exact⟨.inl,λg=>g.elim id λe=>e▸h⟩
 ·rw[br,ax]
theorem Jt {ls:List (List Nat)}{t:List Nat}(h:ls.Nodup):(nN ls t).Nodup:=by
 unfold nN;split
 ·exact h
 ·rename_i g
  refine fg.mpr ⟨h,by simp,λa ha b hb e=>?_⟩;rw[ax] at hb;exact g (hb▸e▸ha)
theorem Dl (ls:List (List Nat))(t:List Nat):ls <+: nN ls t:=by
 unfold nN;split
 ·exact u6 _
 ·exact List.prefix_append ..
theorem Df (ls:List (List Nat))(t:List Nat):(nN ls t).length<=ls.length+1:=by
 unfold nN;split
 ·omega
 ·simp
structure Pass (bg en:List Nat->List Nat)(ms:List (List Nat))(p:List Nat)(fs:List (List Nat))(i:Nat)(ls:List (List Nat)):Prop where
 nd:ls.Nodup
 pre:fs <+: ls
 rch:∀ z∈ls,Rch bg en ms p z
 cl:ls.length=fs.length->∀ w∈ms.take i,Cl bg en fs w
theorem Pass.zero {ms fs:List (List Nat)}{p:List Nat}(nd:fs.Nodup)(rch:∀ z∈fs,Rch bg en ms p z):Pass bg en ms p fs 0 fs:=⟨nd,u6 _,rch,λ_ w hw=>by rw[jc] at hw;cases hw⟩
theorem Ch {ms:List (List Nat)}{i:Nat}{w v:List Nat}(h:ms[i]?=some w)(Z:v∈ms.take (i+1)):v∈ms.take i∨v=w:=by
 rw[cn,h,br] at Z;rcases Z with z | z
 ·exact .inl z
 ·exact .inr (by simpa using z)
theorem Pass.yes {ms fs ls:List (List Nat)}{p w:List Nat}{i:Nat}(h:Pass bg en ms p fs i ls)(hw:ms[i]?=some w)(hi:bg w∈ls∨en w∈ls):Pass bg en ms p fs (i+1) (nN (nN ls (bg w)) (en w)):=by
 have hm:=ay hw;have Z:=(Dl ls (bg w)).trans (Dl (nN ls (bg w)) (en w));refine⟨Jt (Jt h.nd),h.pre.trans Z,λz hz=>?_,λe v hv=>?_⟩
 ·rw[lA,lA] at hz
  have hb:Rch bg en ms p (bg w)∧Rch bg en ms p (en w):=by
   rcases hi with g | g
   ·exact⟨h.rch _ g,.fw hm (h.rch _ g)⟩
   ·exact⟨.bw hm (h.rch _ g),h.rch _ g⟩
  rcases hz with (z | rfl) | rfl
  ·exact h.rch _ z
  ·exact hb.1
  ·exact hb.2
 ·have l1:=h.pre.length_le
  have l2:=Z.length_le;have e1:ls.length=fs.length:=by omega
  rcases Ch hw hv with g | rfl
  ·exact h.cl e1 v g
  ·have q1:=h.pre.eq_of_length (by omega)
   have q2:=Z.eq_of_length (by omega);subst q1;have m1:bg v∈fs:=by rw[q2,lA,lA];exact .inl (.inr rfl)
   have m2:en v∈fs:=by rw[q2,lA];exact .inr rfl
   exact⟨λ_=>m2,λ_=>m1⟩
theorem Pass.no {ms fs ls:List (List Nat)}{p w:List Nat}{i:Nat}(h:Pass bg en ms p fs i ls)(hw:ms[i]?=some w)(h1:¬ bg w∈ls)(h2:¬ en w∈ls):Pass bg en ms p fs (i+1) ls:=by
 refine⟨h.nd,h.pre,h.rch,λe v Z=>?_⟩;rcases Ch hw Z with g | rfl
 ·exact h.cl e v g
 ·exact⟨λz=>absurd (h.pre.subset z) h1,λz=>absurd (h.pre.subset z) h2⟩
def Wz (bg en:List Nat->List Nat)(ms:List (List Nat)):List (List Nat):=ms.map bg++ms.map en
theorem Fw {ms:List (List Nat)}{p z:List Nat}(h:Rch bg en ms p z):z=p∨z∈Wz bg en ms:=by
 cases h with
 | self=>exact .inl rfl
 | fw hw _=>exact .inr (br.mpr (.inr (gt hw)))
 | bw hw _=>exact .inr (br.mpr (.inl (gt hw)))
theorem pV {α:Type}[BEq α][LawfulBEq α]:∀ {ls ms:List α},ls.Nodup->(∀ z∈ls,z∈ms)->ls.length<=ms.length
 | [],_,_,_=>cc _
 | a::ls,ms,h,hs=>by
  rw[cx] at h;have ha:=hs a (aq ..);have ih:=pV (ls:=ls) (ms:=ms.erase a) h.2 λz Z=>(sd (λe:z=a=>h.1 (e▸Z))).mpr (hs z (al _ Z))
  have:=lg ha
  have:=ft ha
  rw[ar];omega
theorem Qi {ms ls:List (List Nat)}{p:List Nat}(h:ls.Nodup)(hr:∀ z∈ls,Rch bg en ms p z):ls.length<=2*ms.length+1:=by
 have:=pV (ms:=p::Wz bg en ms) h λz Z=>au.mpr (Fw (hr z Z))
 unfold Wz at this;rw[ar,ai,aR,aR] at this;omega
end Hg
namespace Dt
def dP (N:Nat):Prop:=1<N∧∀ x,0<x->x<N->ju x N=1
section
variable {N F b d e n:Nat}
def pm (N:Nat):Nat->Nat->Nat->Nat
 | 0,_,_=>1 % N
 | f+1,b,e=>if e=0 then 1 % N else if e % 2=1 then b*pm N f (b*b % N) (e/2) % N else pm N f (b*b % N) (e/2)
theorem Cf (N b e:Nat):(b*b % N) ^ e % N=b ^ (2*e) % N:=by
 rw[<- vb,kx,Nat.pow_two]
theorem Jc:∀ (f b e:Nat),e<2 ^ f->pm N f b e=b ^ e % N
 | 0,b,e,h=>by
  obtain rfl:e=0:=by simpa using h
  rfl
 | f+1,b,e,h=>by
  unfold pm;by_cases h0:e=0
  ·rw[AD h0,h0,qg]
  ·rw[AC h0]
   have Z:=Jc f (b*b % N) (e/2) (by rw[gr] at h;omega);by_cases h1:e % 2=1
   ·rw[AD h1,Z,ky,vc,Cf,<- ky,c7,<- gr]
    congr 2
    omega
   ·rw[AC h1,Z,Cf]
    congr 2
    omega
theorem Ul {b d:Nat}(hd:1<d){x y:Nat}(hx:b ^ x % d=1)(Z:b ^ y % d=1):b ^ (y % x) % d=1:=by
 have e:b ^ y=(b ^ x) ^ (y/x)*b ^ (y % x):=by rw[<- kx,<- j2,ke]
 rw[e,ky,vb,hx,Nat.one_pow,gy hd,ie,vc] at Z;exact Z
theorem Tw {b d:Nat}(hd:1<d):∀ (x y:Nat),b ^ x % d=1->b ^ y % d=1->b ^ (ju x y) % d=1:=λx y=>by
 induction x,y using Nat.gcd.induction with
 | H0 y=>intro _ h;rw[Nat.gcd_zero_left];exact h
 | H1 x y hx ih =>
  intro h1 h2;rw[se];exact ih (Ul hd h1 h2) h1
theorem rP (rs:List Nat)(hN:1<N)(hF:N<=F*F)(h1:b ^ F % N=1)(h2:∀ r∈rs,ju (b ^ (F/r) % N+(N-1)) N=1)(h3:∀ g,g∣F->g<F->∃ r∈rs,g∣F/r):dP N:=by
 have mp:∀ d,d∣N->1<d->F<d:=λd Z hd=>by
  have gV:b ^ F % d=1:=by
   have:=tw (b ^ F) Z
   rw[h1,gy hd] at this;exact this.symm
  have no:∀ e,0<e->e<F->b ^ e % d≠1:=λe he xf hc=>by
   have hg:=Tw hd e F hc gV;have w4:=kj e F;have w8:ju e F<=e:=vf F he;obtain⟨r,hr,wx⟩:=h3 _ w4 (by omega);obtain⟨q,hq⟩:=wx;have wz:b ^ (F/r) % d=1:=by rw[hq,kx,vb,hg,Nat.one_pow,gy hd]
   have wp:d∣b ^ (F/r) % N+(N-1):=by
    have e1:b ^ (F/r) % N % d=1:=by rw[tw _ Z];exact wz
    refine j6 ?_;have e2:(b ^ (F/r) % N+(N-1)) % d=(1+(N-1)) % d:=by rw[Nat.add_mod,e1,Nat.add_mod_mod]
    rw[e2,show 1+(N-1)=N by omega];exact Nat.mod_eq_zero_of_dvd Z
   have:=Nat.dvd_gcd wp Z
   rw[h2 r hr] at this
   have:=wg (by omega) this
   omega
  have inj:((bt F).map λi=>b ^ i % d).Nodup:=by
   refine jj.mpr (jo (λ{i j} hi hj xa he=>?_) j7);have hj:j<F:=ck.mp hj;refine no (j-i) (by omega) (by omega) ?_;have a1:b ^ (F-i)*b ^ i % d=1:=by rw[<- j2,jb (by omega)];exact gV
   have a2:b ^ (F-i)*b ^ j % d=b ^ (j-i) % d:=by
    rw[<- j2,show F-i+j=F+(j-i) by omega,j2,ky,gV,ie,vc]
   rw[<- a2,ky,<- he,<- ky];exact a1
  have sub:∀ z∈(bt F).map (λi=>b ^ i % d),z∈List.range' 1 (d-1):=λz hz=>by
   obtain⟨i,hi,rfl⟩:=aw.mp hz;have hi:i<F:=ck.mp hi;rw[List.mem_range'_1];have xb:=jn (b ^ i) (show d>0 by omega);have w6:b ^ i % d≠0:=λz=>by
    have a1:b ^ (F-i)*b ^ i % d=1:=by rw[<- j2,jb (by omega)];exact gV
    rw[ky,z,Nat.mul_zero,Nat.zero_mod] at a1;cases a1
   omega
  have:=Hg.pV inj sub
  rw[aR,cq,List.length_range'] at this;omega
 refine⟨hN,λx h0 hx=>?_⟩;refine ba λhg=>?_
 have ww:=kj x N;have xg:ju x N<=x:=vf N h0;have xc:0<ju x N:=Nat.gcd_pos_of_pos_left N h0;obtain⟨c,hc⟩:=ww;have k1:=mp _ (kj x N) (by omega);have or:1<c:=by
  rcases fh 1 c with z | z
  ·exact z
  ·have:ju x N*c<=ju x N*1:=jt _ z
   omega
 have k2:=mp c ⟨_,by rw[c7];exact hc⟩ or
 have:=Nat.mul_lt_mul'' k1 k2
 omega
theorem Nl {k g:Nat}(h:g∣2 ^ (k+1))(hl:g<2 ^ (k+1)):g∣2 ^ (k+1)/2:=by
 obtain⟨c,hc⟩:=h;have Z:c % 2=0:=by
  refine ba λz=>?_
  have gV:Nat.Coprime c 2:=by
   show ju c 2=1;rw[Nat.gcd_comm,se,show c % 2=1 by omega];rfl
  have h1:=Nat.Coprime.pow_right (k+1) gV;have h2:c∣2 ^ (k+1):=⟨g,by rw[hc,c7]⟩;have h3:=Nat.Coprime.eq_one_of_dvd h1 h2;rw[h3,sf] at hc;omega
 refine⟨c/2,?_⟩;rw[hc]
 have:c=2*(c/2):=by omega
 rw[Nat.mul_div_assoc _ (j6 Z)]
theorem tX (h k:Nat)(hh:h<2 ^ (k+1))(h0:0<h)(hp:pm (h*2 ^ (k+1)+1) (k+1+k+1) 3 (h*2 ^ k)=h*2 ^ (k+1)):dP (h*2 ^ (k+1)+1):=by
 have Z:0<2 ^ k:=lr (by decide);have hs:2 ^ (k+1)=2*2 ^ k:=by rw[gr,c7]
 have hN:1<h*2 ^ (k+1)+1:=by have:=Nat.mul_pos h0 (lr (n:=k+1) (show 0<2 by decide));omega
 have gV:h*2 ^ k<2 ^ (k+1+k+1):=by
  have:=Nat.mul_lt_mul_of_lt_of_le hh (af (2 ^ k)) Z
  rw[<- j2] at this;exact uq this (m6 (by decide) (by omega))
 rw[Jc _ _ _ gV] at hp;refine rP (F:=2 ^ (k+1)) (b:=3 ^ h) [2] hN ?_ ?_ ?_ λg hg hl=>⟨2,by simp,Nl hg hl⟩
 ·have:=gk (2 ^ (k+1)) (show h+1<=2 ^ (k+1) from hh)
  rw[ib] at this
  have:=lr (n:=k+1) (show 0<2 by decide)
  omega
 ·have e3:3 ^ (h*2 ^ (k+1))=3 ^ (h*2 ^ k)*3 ^ (h*2 ^ k):=by
   rw[hs,show h*(2*2 ^ k)=h*2 ^ k*2 by rw[c7 2,d9],kx,Nat.pow_two]
  rw[<- kx,e3,ky,hp];have e:∀ x:Nat,0<x->x*x % (x+1)=1:=λx hx=>by
   rw[show x*x=1+(x+1)*(x-1) by
    have:x*x=(x-1+1)*x:=by rw[jb hx]
    have h2:(x+1)*(x-1)=x*(x-1)+(x-1):=by rw[ib,ie]
    have h3:x*x=x*(x-1)+x:=by
     have:x*x=x*(x-1+1):=by rw[jb hx]
     rw[this,vd,sf]
    omega,Nat.add_mul_mod_self_left,gy (by omega)]
  exact e _ (Nat.mul_pos h0 (lr (by decide)))
 ·intro r hr
  obtain rfl:=ax.mp hr;rw[<- kx,hs,pq _ (by decide),<- hs,hp,tu];have e:∀ x:Nat,x % 2=0->ju (x+x) (x+1)=1:=λx hx=>by
   have:ju (x+x) (x+1)∣2:=by
    have a1:=Nat.gcd_dvd_left (x+x) (x+1);have a2:=kj (x+x) (x+1);have a3:=Nat.dvd_sub (Nat.dvd_mul_left_of_dvd a2 2) a1;rw[show 2*(x+1)-(x+x)=2 by omega] at a3;exact a3
   have mp:=wg (by decide) this;have Z:=Nat.gcd_pos_of_pos_right (x+x) (show 0<x+1 by omega);rcases fh (ju (x+x) (x+1)) 2 with z | z
   ·omega
   ·have e2:ju (x+x) (x+1)=2:=by omega
    have a2:=kj (x+x) (x+1);rw[e2] at a2;omega
  refine e _ ?_;rw[hs,<- d9,c7 h 2,d9];exact Nat.mul_mod_right ..
theorem Ze:dP (133*2 ^ 192+1):=tX 133 191 (by decide +kernel) (by decide) (by decide +kernel)
def Gf (N:Nat):Bool:=decide (1<N)&&(bt N).all λx=>x==0||ju x N==1
theorem Ly (h:Gf N=true):dP N:=by
 unfold Gf at h;rw[cz,AI,dz] at h;refine⟨h.1,λx h0 Z=>?_⟩
 have:=h.2 x (ck.mpr Z)
 rw[kf,AK,AK] at this;omega
theorem dP.cop {r c:Nat}(h:dP r)(Z:¬ r∣c):Nat.Coprime c r:=by
 show ju c r=1;rw[Nat.gcd_comm,se];have h1:=h.1;exact h.2 (c % r) (oj λz=>Z (j6 z)) (jn _ (by omega))
theorem Ci:∀ (rs:List Nat),(∀ r∈rs,dP r)->∀ c,c∣rs.prod->c≠1->∃ r∈rs,r∣c
 | [],_,c,h,h1=>absurd (Nat.eq_one_of_dvd_one h) h1
 | r::rs,hp,c,h,h1=>by
  by_cases hr:r∣c
  ·exact⟨r,by simp,hr⟩
  ·rw[List.prod_cons] at h
   obtain⟨r',h2,Z⟩:=Ci rs (λx hx=>hp x (al _ hx)) c (Nat.Coprime.dvd_of_dvd_mul_left ((hp r (by simp)).cop hr) h) h1;exact⟨r',al _ h2,Z⟩
theorem aBM:dP 2305843009213693951:=by
 have ps:∀ r∈[61,151,331,1321],dP r:=λr Z=>Ly (by
  have:∀ r∈[61,151,331,1321],Gf r=true:=by decide +kernel
  exact this r Z)
 refine rP (F:=4027518961) (b:=429339995019680672) [61,151,331,1321] (by decide) (by decide) ?_ ?_ λg hg hl=>?_
 ·rw[<- Jc 32 _ _ (by decide)]
  decide +kernel
 ·intro r Z
  have gV:∀ r∈[61,151,331,1321],ju (pm 2305843009213693951 32 429339995019680672 (4027518961/r)+(2305843009213693951-1)) 2305843009213693951=1:=by decide +kernel
  rw[<- Jc 32 _ _ (fk (qv _ _) (by decide))];exact gV r Z
 ·obtain⟨c,hc⟩:=hg
  have hF:([61,151,331,1321]:List Nat).prod=4027518961:=by decide
  obtain⟨r,Z,q,rfl⟩:=Ci _ ps c (by rw[hF];exact⟨g,by rw[hc,c7]⟩) λz=>by rw[z,sf] at hc;omega
  have h0:=(ps r Z).1;refine⟨r,Z,q,?_⟩;rw[hc,show g*(r*q)=r*(g*q) by rw[<- d9,c7 g r,d9],pq _ (by omega)]
theorem aAa:dP (211*2 ^ 192+1):=tX 211 191 (by decide +kernel) (by decide) (by decide +kernel)
theorem Zt:dP (598*2 ^ 192+1):=tX 598 191 (by decide +kernel) (by decide) (by decide +kernel)
theorem Zq:dP (652*2 ^ 192+1):=tX 652 191 (by decide +kernel) (by decide) (by decide +kernel)
theorem Zx:dP (721*2 ^ 192+1):=tX 721 191 (by decide +kernel) (by decide) (by decide +kernel)
theorem aAl:dP (850*2 ^ 192+1):=tX 850 191 (by decide +kernel) (by decide) (by decide +kernel)
theorem Xt:dP (1282*2 ^ 192+1):=tX 1282 191 (by decide +kernel) (by decide) (by decide +kernel)
structure Euc (pr:Nat)(num:Int)(last rest:Nat)(lt t:Int):Prop where
 pos:1<=rest
 lp:1<=last
 cop:ju rest last=1
 ct:Cg pr (t*num) rest
 cl:Cg pr (lt*num) last
 bd:t.natAbs*last+lt.natAbs*rest<=pr
theorem Euc.init {pr:Nat}{num:Int}{r:Nat}(h:dP pr)(Z:num % pr=r)(h0:r≠0):Euc pr num pr r 0 1:=by
 have h1:=h.1;have gV:(r:Int)<pr:=by rw[<- Z];exact c9 _ (by omega)
 refine⟨by omega,by omega,h.2 r (by omega) (by omega),?_,?_,by simp⟩
 ·rw[jz,<- Z]
  exact (qA num).symm
 ·rw[qf]
  unfold Cg;rw[nr];exact r8.mpr (Int.dvd_refl _)
theorem Euc.step {pr:Nat}{num:Int}{last rest:Nat}{lt t:Int}(h:Euc pr num last rest lt t)(h1:rest≠1):Euc pr num rest (last % rest) t (lt-(last/rest:Nat)*t):=by
 have Z:=h.pos;have hd:=ke last rest;have hd2:((last:Nat):Int)=rest*(last/rest:Nat)+(last % rest:Nat):=by exact_mod_cast hd.symm
 refine⟨?_,Z,?_,?_,h.ct,?_⟩
 ·refine oj λz=>h1 ?_
  have:=h.cop
  rw[Nat.gcd_eq_left (j6 z)] at this;exact this
 ·rw[<- se]
  exact h.cop
 ·have e:(lt-(last/rest:Nat)*t)*num=lt*num-(last/rest:Nat)*(t*num):=by rw[o0,dv]
  rw[e,show ((last % rest:Nat):Int)=(last:Int)-(last/rest:Nat)*(rest:Int) by rw[hd2,g8];omega];exact h.cl.sub ((Cg.refl _).mul h.ct)
 ·have hb:=h.bd
  have a1:(lt-(last/rest:Nat)*t).natAbs<=lt.natAbs+(last/rest)*t.natAbs:=by
   have:=ur lt ((last/rest:Nat)*t)
   rw[oh,fm] at this;exact this
  have a2:=gk rest a1;rw[ib] at a2;have a3:t.natAbs*last=(last/rest)*t.natAbs*rest+t.natAbs*(last % rest):=by
   conv=>lhs;rw[<- hd,vd,<- d9,c7 t.natAbs rest,d9,c7 rest]
   rw[c7 t.natAbs]
  omega
theorem Euc.tle {pr:Nat}{num:Int}{last rest:Nat}{lt t:Int}(h:Euc pr num last rest lt t):t.natAbs<=pr∧lt.natAbs<=pr:=by
 have hb:=h.bd;have h1:=jt t.natAbs h.lp;have h2:=jt lt.natAbs h.pos;omega
theorem Euc.fin {pr:Nat}{num:Int}{last rest:Nat}{lt t:Int}(h:Euc pr num last rest lt t)(h1:rest=1):Cg pr (t % pr*num) 1:=by
 have:=h.ct
 rw[h1] at this;exact ((qA t).mul (Cg.refl num)).trans this
theorem crt {M1 pr:Nat}{D res r2 inv:Int}(hM:0<M1)(hp:0<pr)(h1:Cg M1 res D)(h2:Cg pr r2 D)(hi:Cg pr (inv*M1) 1)(h0:0<=res∧res<M1):Cg (M1*pr:Nat) (res+(r2-res)*inv % pr*M1) D∧0<=res+(r2-res)*inv % pr*M1∧res+(r2-res)*inv % pr*M1<(M1*pr:Nat):=by
 have e0:=du ((r2-res)*inv) (show (pr:Int)≠0 by omega);have e1:=c9 ((r2-res)*inv) (show (0:Int)<pr by omega);have hc:=qA (m:=pr) ((r2-res)*inv);generalize (r2-res)*inv % pr=q at e0 e1 hc;refine⟨?_,?_,?_⟩
 ·have a1:Cg M1 (res+q*M1) D:=by
   have:Cg M1 (q*M1) 0:=by
    unfold Cg;rw[nu];exact Int.dvd_mul_left ..
   have:=h1.add this
   rwa [um] at this
  have Z:Cg pr (res+q*M1) D:=by
   have b1:Cg pr (q*M1) (r2-res):=by
    refine (hc.mul (Cg.refl (M1:Int))).trans ?_;rw[dv]
    have:=(Cg.refl (m:=pr) (r2-res)).mul hi
    rwa [mz] at this
   have:=(Cg.refl (m:=pr) res).add b1
   rw[show res+(r2-res)=r2 by omega] at this;exact this.trans h2
  unfold Cg at a1 Z hi ⊢;obtain⟨x,hx⟩:=a1;rw[hx] at Z ⊢;have a3:(pr:Int)∣x:=by
   have c1:(pr:Int)∣inv*(M1*x):=pe Z;have c2:(pr:Int)∣(inv*M1-1)*x:=pk hi
   have:=Int.dvd_sub c1 c2
   rw[show inv*(M1*x)-(inv*M1-1)*x=x by rw[o0,dv];omega] at this;exact this
  obtain⟨y,rfl⟩:=a3;refine⟨y,?_⟩;rw[<- dv,fo]
 ·have:=Int.mul_nonneg e0 (show (0:Int)<=M1 by omega)
  omega
 ·have a:=mn (show q<=(pr:Int)-1 by omega) (show (0:Int)<=M1 by omega)
  rw[o0,jz] at a;rw[fo,g8 (M1:Int)];omega
theorem Kn {M:Nat}{D res bd:Int}(hm:2*bd<M)(Z : -bd<=D∧D<=bd)(h:Cg M res D)(h0:0<=res∧res<M):(if bd<res then res-M else res)=D:=by
 obtain⟨k,hk⟩:=h;have k0:k=0∨k=1:=by
  rcases Int.lt_or_le k 0 with z | z
  ·have:=m7 (show k<=-1 by omega) (show (0:Int)<=M by omega)
   omega
  ·rcases Int.lt_or_le 1 k with y | y
   ·have:=m7 (show 2<=k by omega) (show (0:Int)<=M by omega)
    omega
   ·omega
 rcases k0 with rfl | rfl
 ·rw[g9] at hk
  rw[AC (by omega)];omega
 ·rw[mz] at hk
  rw[AD (by omega)];omega
end
theorem Kr {pr p:Nat}{rest Z inv dN dM D:Int}(hr:0<rest∧rest<pr)(hi:Cg pr (inv*Z) 1)(hE:Cg pr dN (sg p*(Z*dM)))(hD:Cg pr (rest*dN) D) :
  (0<(if p % 2=1 then (pr:Int)-rest*Z % pr else rest*Z % pr)∧(if p % 2=1 then (pr:Int)-rest*Z % pr else rest*Z % pr)<pr)∧Cg pr ((if p % 2=1 then (pr:Int)-rest*Z % pr else rest*Z % pr)*dM) D:=by
 have h0:=du (rest*Z) (show (pr:Int)≠0 by omega);have h1:=c9 (rest*Z) (show (0:Int)<pr by omega);have hc:=qA (m:=pr) (rest*Z);have or:rest*Z % pr≠0:=λz=>by
  rw[z] at hc;have a1:=(hc.mul (Cg.refl (m:=pr) inv));rw[qf,dv,g8 Z] at a1;have a2:=(Cg.refl (m:=pr) rest).mul hi;rw[mz] at a2;have a3:=a1.trans a2;unfold Cg at a3;rw[nr] at a3
  have:=Int.le_of_dvd hr.1 (r8.mp a3)
  omega
 generalize rest*Z % pr=x at h0 h1 hc or;have mp:Cg pr (x*dM) (rest*(Z*dM)):=by
  rw[<- dv];exact hc.mul (Cg.refl _)
 have gV:=((Cg.refl (m:=pr) rest).mul hE).symm.trans hD;by_cases hp:p % 2=1
 ·rw[AD hp]
  have hs:sg p = -1:=by unfold sg;rw[AC (by omega)]
  rw[hs] at gV;refine⟨⟨by omega,by omega⟩,?_⟩;have a1:Cg pr (((pr:Int)-x)*dM) (-(x*dM)):=by
   unfold Cg;rw[o0,show (pr:Int)*dM-x*dM - -(x*dM)=pr*dM by omega];exact uo ..
  refine a1.trans (mp.neg.trans ?_);rw[show -(rest*(Z*dM))=rest*(-1*(Z*dM)) by rw[u9,jz,Int.mul_neg]];exact gV
 ·rw[AC hp]
  have hs:sg p=1:=by unfold sg;rw[AD (by omega)]
  rw[hs,jz] at gV;exact⟨⟨by omega,h1⟩,mp.trans gV⟩
def pL:List Nat->Nat
 | []=>1
 | x::l=>x*pL l
theorem Iy (x:Nat):∀ l:List Nat,pL (l++[x])=pL l*x
 | []=>by show x*1=1*x;omega
 | y::l=>by
  show y*pL (l++[x])=y*pL l*x;rw[Iy x l,d9]
theorem Oo {R:Nat}:∀ {l:List Nat},(∀ x∈l,x<=R)->pL l<=R ^ l.length
 | [],_=>af _
 | y::l,h=>by
  show y*pL l<=R ^ (l.length+1);rw[gr,c7];exact ic (Oo λx Z=>h x (al _ Z)) (h y (aq ..))
def rs (n:Nat)(r:List Int):Nat:=sN n λk=>(r.getD k 0).natAbs
theorem Vg (n:Nat):∀ M:List (List Int),pN M.length (λi=>sN n λk=>(ent M i k).natAbs)=pL (M.map (rs n))
 | []=>rfl
 | r::M=>by
  show (sN n λk=>(ent (r::M) 0 k).natAbs)*pN M.length (λi=>sN n λk=>(ent (r::M) (i+1) k).natAbs)=rs n r*pL (M.map (rs n));rw[<- Vg n M];rfl
theorem Nb {f:Nat->Nat}:∀ {n k:Nat},k<n->f k<=sN n f
 | n+1,k,h=>by
  show f k<=sN n f+f n;rcases fh k n with z | z
  ·have:=Nb (f:=f) z
   omega
  ·rw[show k=n by omega]
   omega
theorem Wl {n:Nat}{r:List Int}(hl:r.length=n){x:Int}(hx:x∈r):x.natAbs<=rs n r:=by
 obtain⟨k,hk⟩:=ii hx;have Z:=(ao.mp hk).1
 have:=Nb (f:=λk=>(r.getD k 0).natAbs) (n:=n) (k:=k) (by omega)
 rw[ak,hk] at this;exact this
theorem Xp {M:List (List Int)}{n:Nat}(h:M.length=n):(det n (ent M)).natAbs<=pL (M.map (rs n)):=by
 rw[<- Vg,h];exact yQ
def kn:List Nat:=[133,211,598,652,721,850,1282]
def pr (j:Nat):Nat:=kn.getD j 0*2 ^ 192+1
def md:Nat->Nat
 | 0=>2305843009213693951
 | j+1=>md j*pr j
theorem Mr:∀ {j:Nat},j<7->dP (pr j)
 | 0,_=>Ze
 | 1,_=>aAa
 | 2,_=>Zt
 | 3,_=>Zq
 | 4,_=>Zx
 | 5,_=>aAl
 | 6,_=>Xt
 | j+7,h=>by omega
theorem aAH:∀ j,j<7->pr j<2 ^ 250∧md j % pr j≠0∧md j<2 ^ 1600∧md (j+1)<2 ^ 1800:=by decide +kernel
section
variable {n m p q i j k l:Nat}{A B T U:Mx}{f g:Nat->Int}{c:Nat->Int}
theorem Dm (h:i<n):det n (cC A i λ_=>0)=0:=by
 have e:=oZ (c:=1) (A:=A) (u:=λ_=>0) (v:=λ_=>0) h;rw[show (λk:Nat=>(0:Int)+1*0)=λ_=>0 from rfl] at e;omega
def pI:Nat->(Nat->Int)->Int
 | 0,_=>1
 | n+1,f=>pI n f*f n
theorem Di:∀ {n:Nat} {f:Nat->Int},pI (n+1) f=f 0*pI n λi=>f (i+1)
 | 0,f=>by show 1*f 0=f 0*1;omega
 | n+1,f=>by
  show pI (n+1) f*f (n+1)=f 0*(pI n (λi=>f (i+1))*f (n+1));rw[Di (n:=n),dv]
theorem Ou:∀ {n:Nat} {f:Nat->Int},(∀ i,i<n->f i=1)->pI n f=1
 | 0,_,_=>rfl
 | n+1,f,h=>by
  show pI n f*f n=1;rw[Ou (n:=n) λi hi=>h i (by omega),h n (by omega)];rfl
theorem yN:∀ {n:Nat} {U:Mx},(∀ i k,k<i->i<n->U i k=0)->det n U=pI n λi=>U i i
 | 0,_,_=>rfl
 | n+1,U,h=>by
  rw[aAk λi hi=>h (i+1) 0 (by omega) (by omega),yN (n:=n) λi k h1 h2=>h (i+1) (k+1) (by omega) (by omega),Di]
end
section
variable {n i j k l m:Nat}{A B:Mx}{f:Nat->Nat}{c:Int}
theorem Ql (hi:i<n)(hj:j<n)(Z:i≠j):det n (cC A i λk=>A i k+c*A j k)=det n A:=by
 have e:=oZ (c:=c) (A:=A) (u:=A i) (v:=A j) hi;have z:det n (cC A i (A j))=0:=by
  rcases fh i j with h | h
  ·refine tJ (j-(i+1)) (i:=i) (A:=cC A i (A j)) (by omega) λk _=>?_
   rw[lU,show i+1+(j-(i+1))=j by omega,jQ (by omega)]
  ·refine tJ (i-(j+1)) (i:=j) (A:=cC A i (A j)) (by omega) λk _=>?_
   rw[jQ (by omega),show j+1+(i-(j+1))=i by omega,lU]
 rw[z,jG (A i) λ_=>rfl,g9,um] at e;exact e
def un (i k:Nat):Int:=if k=i then 1 else 0
def chM (n:Nat)(f:Nat->Nat):Mx:=λi k=>un i k-if f i<n then un (f i) k else 0
def chS (n:Nat)(f:Nat->Nat)(S:Nat->Bool):Mx:=λi k=>if S i=true then un i k else chM n f i k
theorem rL {S S':Nat->Bool}{a:Nat}(h:S a=S' a):chS n f S a k=chS n f S' a k:=by
 unfold chS;rw[h]
theorem Hq {S:Nat->Bool}(hi:i<n)(hS:S i=false)(hf:f i<n->S (f i)=true):det n (chS n f λa=>S a||a==i)=det n (chS n f S):=by
 by_cases h:f i<n
 ·have Z:i≠f i:=λz=>by have:=hf h;rw[<- z,hS] at this;cases this
  rw[<- Ql (A:=chS n f S) (i:=i) (j:=f i) (c:=1) hi h Z];refine bK λa k _ _=>?_
  unfold cC
  try dsimp only
  by_cases ha:a=i
  ·subst ha
   rw[AD rfl];unfold chS
   try dsimp only
   rw[AD (by rw[beq_self_eq_true,qh]),AC (by rw[hS];exact ag),AD (hf h)];unfold chM;rw[AD h];omega
  ·rw[AC ha]
   exact rL (by rw[beq_false_of_ne ha,jm])
 ·refine bK λa k _ _=>?_
  by_cases ha:a=i
  ·subst ha
   unfold chS
   try dsimp only
   rw[AD (by rw[beq_self_eq_true,qh]),AC (by rw[hS];exact ag)];unfold chM;rw[AC h,nu]
  ·exact rL (by rw[beq_false_of_ne ha,jm])
theorem Yc:∀ n:Nat,det n un=1
 | n=>by
  rw[yN (n:=n) λi k h1 _=>by unfold un;rw[AC (by omega)]];exact Ou λi _=>by unfold un;rw[AD rfl]
theorem Xx {d:Nat->Nat}(hd:∀ i,i<n->f i<n->d (f i)<d i):det n (chM n f)=1:=by
 have gV:∀ m l,l<=n->det n (chS n f λa=>decide (d a<m)||(decide (d a=m)&&decide (a<l)))=det n (chM n f):=λm=>by
  induction m with
  | zero =>
   intro l
   induction l with
   | zero =>
    intro _;refine bK λa k _ _=>?_
    unfold chS
    try dsimp only
    rw[AC (by simp)]
   | succ l ih =>
    intro hl;rw[<- ih (by omega)];by_cases h:d l=0
    ·have:=Hq (n:=n) (f:=f) (i:=l) (S:=λa=>decide (d a<0)||(decide (d a=0)&&decide (a<l))) (by omega) (by simp) (λZ=>by have:=hd l (by omega) Z;omega)
     rw[<- this]
     congr 2
     funext a
     by_cases ha:a=l
     ·subst ha
      simp[h]
     ·have e:decide (a<l+1)=decide (a<l):=by rw[decide_eq_decide];omega
      rw[e,beq_false_of_ne ha,jm]
    ·congr 2
     funext a
     by_cases ha:a=l
     ·subst ha
      simp[h]
     ·have e:decide (a<l+1)=decide (a<l):=by rw[decide_eq_decide];omega
      rw[e]
  | succ m ihm =>
   intro l
   induction l with
   | zero =>
    intro _;rw[<- ihm n (af n)];refine bK λa k ha _=>?_
    have e:(decide (d a<m+1)||(decide (d a=m+1)&&decide (a<0)))=(decide (d a<m)||(decide (d a=m)&&decide (a<n))):=by
     rw[AH (show ¬ a<0 by omega),AE ha,ij,jm,Bool.and_true,cu,kf,AI,AI,AI];omega
    exact rL e
   | succ l ih =>
    intro hl;rw[<- ih (by omega)];by_cases h:d l=m+1
    ·have:=Hq (n:=n) (f:=f) (i:=l) (S:=λa=>decide (d a<m+1)||(decide (d a=m+1)&&decide (a<l))) (by omega) (by simp[h]) (λZ=>by
      have:=hd l (by omega) Z
      have:d (f l)<m+1:=by omega
      simp[this])
     rw[<- this]
     congr 2
     funext a
     by_cases ha:a=l
     ·subst ha
      simp[h]
     ·have e:decide (a<l+1)=decide (a<l):=by rw[decide_eq_decide];omega
      rw[e,beq_false_of_ne ha,jm]
    ·congr 2
     funext a
     by_cases ha:a=l
     ·subst ha
      simp[h]
     ·have e:decide (a<l+1)=decide (a<l):=by rw[decide_eq_decide];omega
      rw[e]
 obtain⟨m,hm⟩:∃ m,∀ i,i<n->d i<m:=by
  have:∀ N,∃ m,∀ i,i<N->d i<m:=λN=>by
   induction N with
   | zero=>exact⟨0,λi h=>by omega⟩
   | succ N ih =>
    obtain⟨m,hm⟩:=ih;refine⟨m+d N+1,λi h=>?_⟩;rcases fh i N with z | z
    ·have:=hm i z
     omega
    ·rw[show i=N by omega]
     omega
  exact this n
 rw[<- gV m 0 (cc _),<- Yc n];refine bK λa k ha _=>?_
 unfold chS
 try dsimp only
 rw[AD (by simp[hm a ha])]
def itf (f:Nat->Nat):Nat->Nat->Nat
 | 0,i=>i
 | k+1,i=>f (itf f k i)
theorem Pd (hi:i<n)(hl:∀ k,k<=m->itf f (k+1) i<n)(hr:itf f (m+1) i=i)(Z:∀ k,0<k->k<=m->itf f k i≠i):det n (chM n f)=0:=by
 have gV:∀ k,k<=m->det n (cC (chM n f) i λl=>un i l-un (itf f (k+1) i) l)=det n (chM n f):=λk=>by
  induction k with
  | zero =>
   intro _;refine jG _ λl=>?_
   unfold chM
   have:=hl 0 (cc _)
   rw[AD (show f i<n from this)];rfl
  | succ k ih =>
   intro hk;rw[<- ih (by omega)];have h1:=hl k (by omega);have h2:=hl (k+1) hk;have h3:=Z (k+1) (by omega) hk;rw[<- Ql (A:=cC (chM n f) i λl=>un i l-un (itf f (k+1) i) l) (i:=i) (j:=itf f (k+1) i) (c:=1) hi h1 (λz=>h3 z.symm)];refine bK λa l _ _=>?_
   unfold cC
   try dsimp only
   by_cases ha:a=i
   ·subst ha
    rw[AD rfl,AD rfl,AD rfl,AC h3];unfold chM;rw[AD (show f (itf f (k+1) a)<n from h2)];show un a l-un (f (itf f (k+1) a)) l=_;omega
   ·rw[AC ha,AC ha,AC ha]
 rw[<- gV m (af _),hr,show (λl=>un i l-un i l)=λ_=>0 by funext l;omega];exact Dm hi
end
def bV (n i w:Nat):Nat->Int:=λk=>un i k-if w<n then un w k else 0
def chA (n:Nat)(Ws:Nat->List Nat)(c:List Nat):Mx:=λi k=>match c[i]? with
 | some w=>bV n i w k
 | none=>((Ws i).map λw=>bV n i w k).sum
def La (Ws:Nat->List Nat):Nat->List (List Nat)
 | 0=>[[]]
 | m+1=>(La Ws m).flatMap λc=>(Ws m).map λw=>c++[w]
section
variable {n m i:Nat}{A:Mx}{Ws:Nat->List Nat}{c:List Nat}
theorem vC:∀ {m:Nat} {c:List Nat},c∈La Ws m->c.length=m
 | 0,c,h=>by rw[ax.mp h];rfl
 | m+1,c,h=>by
  obtain⟨c',h1,h2⟩:=pw.mp h;obtain⟨w,_,rfl⟩:=aw.mp h2;rw[ai,vC h1];rfl
theorem Em {g:Nat->Nat->Int}(hi:i<n):∀ l:List Nat,det n (cC A i λk=>(l.map λw=>g w k).sum)=(l.map λw=>det n (cC A i (g w))).sum
 | []=>Dm hi
 | w::l=>by
  have e:=Ah (A:=A) (u:=g w) (v:=λk=>(l.map λw=>g w k).sum) hi;rw[ap,cy,<- Em hi l,<- e];rfl
theorem Se (hm:c.length=m)(h:m<n):det n (chA n Ws c)=((Ws m).map λw=>det n (chA n Ws (c++[w]))).sum:=by
 have Z:det n (chA n Ws c)=det n (cC (chA n Ws c) m λk=>((Ws m).map λw=>bV n m w k).sum):=(jG _ λk=>by
  show _=match c[m]? with
   | some w=>bV n m w k
   | none=>((Ws m).map λw=>bV n m w k).sum
  rw[c8 (by omega)]).symm
 rw[Z,Em h]
 congr 1
 refine b8 λw _=>bK λa k _ _=>?_
 unfold cC chA;by_cases ha:a=m
 ·subst ha
  rw[AD rfl,dw (by omega),hm,qi];rfl
 ·rw[AC ha]
  rcases fh a m with z | z
  ·rw[eh (by omega)]
  ·rw[c8 (l:=c) (by omega),c8 (by rw[ai,cm];omega)]
theorem Jg:∀ {m:Nat},m<=n->det n (chA n Ws [])=((La Ws m).map λc=>det n (chA n Ws c)).sum
 | 0,_=>by
  show det n (chA n Ws [])=det n (chA n Ws [])+0;omega
 | m+1,h=>by
  rw[Jg (m:=m) (by omega)];have gV:∀ l:List (List Nat),(∀ c∈l,c.length=m)->(l.map λc=>det n (chA n Ws c)).sum=((l.flatMap λc=>(Ws m).map λw=>c++[w]).map λc=>det n (chA n Ws c)).sum:=λl=>by
   induction l with
   | nil=>intro _;rfl
   | cons c l ih =>
    intro hl;rw[ap,cy,fi,a7,ng,ih λc Z=>hl c (al _ Z),Se (hl c (aq ..)) (by omega),bv];rfl
  exact gV _ λc Z=>vC Z
def goF (n:Nat)(c:List Nat)(i:Nat):Nat:=if i<n then c.getD i n else i
def goN (n:Nat)(c:List Nat):Nat->Nat->Nat
 | 0,i=>i
 | k+1,i=>goF n c (goN n c k i)
def rW (n:Nat)(c:List Nat):Prop:=∀ i,i<n->¬ goN n c n i<n
theorem Om (Z:c.length=n):det n (chA n Ws c)=det n (chM n λi=>c.getD i n):=bK λa k ha _=>by
 unfold chA;rw[aa (show a<c.length by omega)];show bV n a c[a] k=bV n a (c.getD a n) k;rw[show c.getD a n=c[a] by rw[ak,aa (show a<c.length by omega)];rfl]
theorem Hy {k:Nat}(h:¬ i<n):goN n c k i=i:=by
 induction k with
 | zero=>rfl
 | succ k ih =>
  show goF n c (goN n c k i)=i;rw[ih];unfold goF;rw[AC h]
theorem lZ {k:Nat}:∀ l:Nat,goN n c (l+k) i=goN n c l (goN n c k i)
 | 0=>by rw[ix];rfl
 | l+1=>by
  rw[show l+1+k=(l+k)+1 by omega];show goF n c (goN n c (l+k) i)=goF n c (goN n c l (goN n c k i));rw[lZ l]
theorem Lx {k:Nat}:goN n c (k+1) i=goN n c k (goF n c i):=by
 rw[show k+1=k+1 from rfl,lZ k];rfl
theorem Ki (h:rW n c):det n (chM n λi=>c.getD i n)=1:=by
 have ex:∀ i,∃ k,¬ goN n c k i<n:=λi=>by
  by_cases hi:i<n
  ·exact⟨n,h i hi⟩
  ·exact⟨0,hi⟩
 have mK:∀ i,∃ k,¬ goN n c k i<n∧∀ j,j<k->goN n c j i<n:=λi=>by
  obtain⟨k,hk⟩:=ex i
  induction k with
  | zero=>exact⟨0,hk,λj hj=>by omega⟩
  | succ k ih =>
   by_cases h2:goN n c k i<n
   ·refine⟨k+1,hk,λj hj=>?_⟩
    refine ba λz=>?_
    have:goN n c (k-j+j) i=goN n c j i:=by rw[lZ];exact Hy z
    rw[show k-j+j=k by omega] at this;rw[this] at h2;exact z h2
   ·exact ih h2
 refine Xx (d:=λi=>k8 (mK i)) λi hi hf=>?_
 obtain⟨Z,a2⟩:=rb (mK i);obtain⟨b1,b2⟩:=rb (mK (c.getD i n));have hg:goF n c i=c.getD i n:=by unfold goF;rw[AD hi]
 show k8 (mK (c.getD i n))<k8 (mK i);generalize k8 (mK i)=ka at Z a2 ⊢;generalize k8 (mK (c.getD i n))=kb at b1 b2 ⊢;refine ba λz=>?_
 cases ka with
 | zero=>exact Z hi
 | succ ka =>
  rw[Lx,hg] at Z;exact Z (b2 ka (by omega))
theorem Kq (h:¬ rW n c):det n (chM n λi=>c.getD i n)=0:=by
 obtain⟨i,hi,hn⟩:∃ i,i<n∧goN n c n i<n:=by
  refine ba λz=>h λi hi hn=>z ⟨i,hi,hn⟩
 have lt:∀ k,k<=n->goN n c k i<n:=λk hk=>by
  refine ba λz=>?_
  have:goN n c (n-k+k) i=goN n c k i:=by rw[lZ];exact Hy z
  rw[show n-k+k=n by omega] at this;rw[this] at hn;exact z hn
 obtain⟨a,b,wx,hb,heq⟩:∃ a b,a<b∧b<=n∧goN n c a i=goN n c b i:=by
  refine ba λz=>?_
  have nd:((bt (n+1)).map λk=>goN n c k i).Nodup:=by
   refine jj.mpr (jo (λ{x y} hx hy or he=>z ⟨x,y,or,?_,he⟩) j7)
   have:=ck.mp hy
   omega
  have:=Hg.pV (ms:=bt n) nd λy hy=>by
   obtain⟨k,hk,rfl⟩:=aw.mp hy
   have:=ck.mp hk
   exact ck.mpr (lt k (by omega))
  rw[aR,cq,cq] at this;omega
 have hj:=lt a (by omega);have step:∀ k,k+a<=n->goN n c k (goN n c a i)<n:=λk hk=>by
  rw[<- lZ];exact lt _ hk
 have Z:goN n c (b-a) (goN n c a i)=goN n c a i:=by
  rw[<- lZ,show b-a+a=b by omega,heq]
 generalize goN n c a i=j at hj step Z;obtain⟨p,ww,wp,mp,gV⟩:∃ p,0<p∧p<=b-a∧goN n c p j=j∧∀ q,0<q->q<p->goN n c q j≠j:=by
  have:∀ N p,p<=N->0<p->p<=b-a->goN n c p j=j->∃ p,0<p∧p<=b-a∧goN n c p j=j∧∀ q,0<q->q<p->goN n c q j≠j:=λN=>by
   induction N with
   | zero=>intro p h1 h2;omega
   | succ N ih =>
    intro p h1 h2 h3 h4;by_cases hq:∃ q,0<q∧q<p∧goN n c q j=j
    ·obtain⟨q,q1,q2,q3⟩:=hq
     exact ih q (by omega) q1 (by omega) q3
    ·exact⟨p,h2,h3,h4,λq q1 q2 q3=>hq ⟨q,q1,q2,q3⟩⟩
  exact this (b-a) (b-a) (af _) (by omega) (af _) Z
 have eq:∀ k,k<=p->itf (λi=>c.getD i n) k j=goN n c k j:=λk=>by
  induction k with
  | zero=>intro _;rfl
  | succ k ih =>
   intro hk;show c.getD (itf (λi=>c.getD i n) k j) n=goF n c (goN n c k j);rw[ih (by omega)];unfold goF;rw[AD (step k (by omega))]
 refine Pd (i:=j) (m:=p-1) hj (λk hk=>?_) ?_ λk h1 h2=>?_
 ·rw[eq (k+1) (by omega)]
  exact step (k+1) (by omega)
 ·rw[show p-1+1=p by omega,eq p (af _),mp]
 ·rw[eq k (by omega)]
  exact gV k h1 (by omega)
theorem Km [DecidablePred (rW n)]:det n (chA n Ws [])=(((La Ws n).filter λc=>decide (rW n c)).length:Nat):=by
 rw[Jg (af n)];have gV:∀ l:List (List Nat),(∀ c∈l,c.length=n)->(l.map λc=>det n (chA n Ws c)).sum=((l.filter λc=>decide (rW n c)).length:Nat):=λl=>by
  induction l with
  | nil=>intro _;rfl
  | cons c l ih =>
   intro hl;rw[ap,cy,ih λc Z=>hl c (al _ Z),Om (hl c (aq ..)),fu];by_cases Z:rW n c
   ·rw[Ki Z,AD (AE Z),ar]
    omega
   ·rw[Kq Z,AC (by rw[AH Z];exact ag)]
    omega
 exact gV _ λc Z=>vC Z
end
def cE (words:List (List Nat))(o:List Nat):Int:=((words.countP λw=>decide (w.drop 1=o):Nat):Int)
def rI (Z:List (List Nat))(t:List Nat)(words:List (List Nat)):List Int:=Z.map λo=>if o=t then ((words.length:Nat):Int)-cE words t else-cE words o
def wS (ls:List (List Nat))(g:List Nat->List (List Nat))(i:Nat):List Nat:=(g (ls.getD i [])).map λw=>ls.idxOf (w.drop 1)
theorem Ub {w:List Nat}{Z:List (List Nat)}{o:List Nat}:cE (w::Z) o=cE Z o+if w.drop 1=o then 1 else 0:=by
 unfold cE;rw[p0];by_cases h:w.drop 1=o
 ·rw[AD (AE h),AD h];omega
 ·rw[AC (λz=>h (AF z)),AC h];omega
theorem Ee {ls:List (List Nat)}(gV:ls.Nodup){i k:Nat}(hk:k<ls.length):∀ Z:List (List Nat),((Z.map λw=>ls.idxOf (w.drop 1)).map λw=>bV ls.length i w k).sum=(if i=k then ((Z.length:Nat):Int) else 0)-cE Z ls[k]
 | []=>by
  show (0:Int)=_-((0:Nat):Int);split <;> simp
 | w::Z=>by
  rw[ap,ap,cy,Ee gV hk Z,Ub];have e:(if ls.idxOf (w.drop 1)<ls.length then un (ls.idxOf (w.drop 1)) k else 0)=if w.drop 1=ls[k] then (1:Int) else 0:=by
   by_cases h:w.drop 1=ls[k]
   ·rw[AD h,h,gV.idxOf_getElem,AD hk]
    simp[un]
   ·rw[AC h]
    split
    ·rename_i hlt
     have mp:ls.idxOf (w.drop 1)≠k:=λz=>h (by
      have:=tz hlt
      subst z;exact this.symm)
     unfold un;rw[AC (Ne.symm mp)]
    ·rfl
  show un i k-(if ls.idxOf (w.drop 1)<ls.length then un (ls.idxOf (w.drop 1)) k else 0)+_=_;rw[e,ar];by_cases hik:i=k
  ·rw[AD hik,AD hik,hik]
   simp[un];omega
  ·rw[AC hik,AC hik]
   simp[un,hik,Ne.symm hik];omega
theorem Qp {ls:List (List Nat)}(Z:ls.Nodup)(g:List Nat->List (List Nat)):det ls.length (ent (ls.map λt=>rI ls t (g t)))=det ls.length (chA ls.length (wS ls g) []):=bK λi k hi hk=>by
 show ((ls.map λt=>rI ls t (g t)).getD i []).getD k 0=((wS ls g i).map λw=>bV ls.length i w k).sum;unfold wS;rw[Ee Z hk,ak,ak,ah,aa hi];show ((rI ls ls[i] (g ls[i]))[k]?).getD 0=_;unfold rI;rw[ah,aa hk,ak,aa hi];show (if ls[k]=ls[i] then _ else _)=(if i=k then (((g ls[i]).length:Nat):Int) else 0)-cE (g ls[i]) ls[k];by_cases hik:i=k
 ·subst hik
  rw[AD rfl,AD rfl]
 ·rw[AC hik,AC (λz=>hik (by have a:=Z.idxOf_getElem i hi;have b:=Z.idxOf_getElem k hk;rw[z,a] at b;exact b)),nr]
def sT (ls:List (List Nat))(Z:List Nat->List Nat)(t:List Nat):List Nat:=if t∈ls then (Z t).drop 1 else t
def iT (ls:List (List Nat))(Z:List Nat->List Nat):Nat->List Nat->List Nat
 | 0,t=>t
 | k+1,t=>sT ls Z (iT ls Z k t)
def plc (ls:List (List Nat))(Z:List Nat->List Nat):List Nat:=ls.map λt=>ls.idxOf ((Z t).drop 1)
theorem Hi {ls:List (List Nat)}(Z:List Nat->List Nat){t:List Nat}:∀ k:Nat,goN ls.length (plc ls Z) k (ls.idxOf t)=ls.idxOf (iT ls Z k t)
 | 0=>rfl
 | k+1=>by
  show goF ls.length (plc ls Z) (goN ls.length (plc ls Z) k (ls.idxOf t))=ls.idxOf (sT ls Z (iT ls Z k t));rw[Hi Z k];unfold goF sT;by_cases h:iT ls Z k t∈ls
  ·have hl:ls.idxOf (iT ls Z k t)<ls.length:=kl h
   rw[AD hl,AD h];unfold plc;rw[ak,ah,aa hl,tz hl];rfl
  ·have hl:¬ ls.idxOf (iT ls Z k t)<ls.length:=λz=>h (pf.mp z)
   rw[AC hl,AC h]
theorem Ks {ls:List (List Nat)}(gV:ls.Nodup)(Z:List Nat->List Nat):rW ls.length (plc ls Z)↔(ls.all λt=>decide (iT ls Z ls.length t∉ls))=true:=by
 rw[dz];constructor
 ·intro h t ht
  refine AE λz=>h (ls.idxOf t) (kl ht) ?_
  rw[Hi];exact kl z
 ·intro h i hi z
  have e:=Hi (ls:=ls) Z (t:=ls[i]) ls.length;rw[gV.idxOf_getElem i hi] at e;rw[e] at z;exact AF (h ls[i] (dk hi)) (pf.mp z)
inductive R2 {α β:Type}(R:α->β->Prop):List α->List β->Prop
 | nil:R2 R [] []
 | cons {a:α} {b:β} {as:List α} {bs:List β}:R a b->R2 R as bs->R2 R (a::as) (b::bs)
abbrev W:=List Nat
def fU (f:W->W)(t w:W):W->W:=λx=>if x=t then w else f x
theorem Lh {f:W->W}{a b x y:W}(h:a≠b):fU (fU f a x) b y=fU (fU f b y) a x:=by
 funext z
 unfold fU;by_cases h1:z=b
 ·rw[AD h1,AC (λe=>h (e.symm.trans h1)),AD h1]
 ·rw[AC h1,AC h1]
theorem pX {f:W->W}{t w:W}:fU f t w t=w:=by unfold fU;rw[AD rfl]
theorem tD {f:W->W}{t w x:W}(h:x≠t):fU f t w x=f x:=by unfold fU;rw[AC h]
def chs (g:W->List W):List W->List (W->W)
 | []=>[λ_=>[]]
 | t::ls=>(chs g ls).flatMap λf=>(g t).map λw=>fU f t w
theorem As {g:W->List W}:∀ {ls:List W} {f:W->W},f∈chs g ls->∀ t∈ls,f t∈g t
 | t::ls,f,h,x,hx=>by
  obtain⟨Z,h1,h2⟩:=pw.mp h;obtain⟨w,hw,rfl⟩:=aw.mp h2;by_cases e:x=t
  ·subst e;rw[pX];exact hw
  ·rw[tD e];exact As h1 x ((au.mp hx).resolve_left e)
theorem Az {α β γ:Type}{F:α->β->γ}(as:List α)(bs:List β):(as.flatMap λa=>bs.map λb=>F a b).Perm (bs.flatMap λb=>as.map λa=>F a b):=by
 induction as with
 | nil=>simp
 | cons a as ih =>
  rw[fi];refine (kh _ ih).trans ?_;clear ih
  induction bs with
  | nil=>simp
  | cons b bs ih2 =>
   rw[fi,fi,ap,ap,i8,i8];refine List.Perm.cons _ ?_;refine qw ?_ (kh _ ih2);rw[<- d8,<- d8];exact List.Perm.append_right _ mf
theorem hU {α β:Type}{F G:α->List β}:∀ {l:List α},(∀ a∈l,(F a).Perm (G a))->(l.flatMap F).Perm (l.flatMap G)
 | [],_=>by simp
 | a::l,h=>by
  rw[fi,fi];exact (h a (aq ..)).append (hU λb hb=>h b (al _ hb))
theorem Oi {g:W->List W}{ls ms:List W}(h:ls.Perm ms):ls.Nodup->(chs g ls).Perm (chs g ms):=by
 induction h with
 | nil=>intro _;exact .refl _
 | cons t _ ih=>intro hn;exact (ih (cx.mp hn).2).flatMap_right _
 | swap a b l =>
  intro hn;have Z:b≠a:=λe=>(cx.mp hn).1 (e▸aq ..)
  show (((chs g l).flatMap λf=>(g a).map λw=>fU f a w).flatMap λf=>(g b).map λw=>fU f b w).Perm (((chs g l).flatMap λf=>(g b).map λw=>fU f b w).flatMap λf=>(g a).map λw=>fU f a w);rw[t7,t7];refine hU λf _=>?_
  rw[mq,mq];have e:(λx=>(g a).map λy=>fU (fU f b x) a y)=λx=>(g a).map λy=>fU (fU f a y) b x:=by
   funext x;congr 1;funext y;exact Lh Z
  have e2:=Az (F:=λx y=>fU (fU f a x) b y) (g a) (g b);refine e2.trans ?_;rw[e]
 | trans h1 _ ih1 ih2=>intro hn;exact (ih1 hn).trans (ih2 (h1.nodup_iff.mp hn))
def cmT (ls:List W)(Z:W->W):Bool:=ls.all λt=>decide (iT ls Z ls.length t∉ls)
theorem Ai {ls ms:List W}(h:∀ t,t∈ls↔t∈ms){Z:W->W}{t:W}:∀ k,iT ls Z k t=iT ms Z k t
 | 0=>rfl
 | k+1=>by
  show sT ls Z (iT ls Z k t)=sT ms Z (iT ms Z k t);rw[Ai h k];unfold sT;by_cases e:iT ms Z k t∈ms
  ·rw[AD e,AD ((h _).mpr e)]
  ·rw[AC e,AC (λz=>e ((h _).mp z))]
theorem Cp {ls ms:List W}(h:ls.Perm ms)(cw:W->W):cmT ls cw=cmT ms cw:=by
 unfold cmT;rw[cu,dz,dz];have hm:∀ t,t∈ls↔t∈ms:=λt=>h.mem_iff
 constructor
 ·intro q t Z
  have:=AF (q t ((hm t).mpr Z))
  rw[Ai hm,h.length_eq] at this;exact AE λz=>this ((hm _).mpr z)
 ·intro q t Z
  have:=AF (q t ((hm t).mp Z))
  rw[<- Ai hm,<- h.length_eq] at this;exact AE λz=>this ((hm _).mp z)
def nC (ls:List W)(g:W->List W):Nat:=((chs g ls).filter (cmT ls)).length
theorem Hv {ls ms:List W}(h:ls.Perm ms)(hn:ls.Nodup)(g:W->List W):nC ls g=nC ms g:=by
 unfold nC;rw[((Oi (g:=g) h hn).filter (cmT ls)).length_eq]
 congr 2
 funext f
 exact Cp h f
theorem pR {g g':W->List W}:∀ {ls:List W},(∀ t∈ls,g t=g' t)->chs g ls=chs g' ls
 | [],_=>rfl
 | t::ls,h=>by
  show (chs g ls).flatMap _=(chs g' ls).flatMap _;rw[pR λx Z=>h x (al _ Z),h t (aq ..)]
theorem Cs {ls:List W}{g g':W->List W}(h:∀ t∈ls,g t=g' t):nC ls g=nC ls g':=by unfold nC;rw[pR h]
theorem Dz {ls:List W}(hn:ls.Nodup){g:W->List W}:∀ m,m<=ls.length->La (wS ls g) m=(chs g (ls.take m).reverse).map λf=>(ls.take m).map λt=>ls.idxOf ((f t).drop 1)
 | 0,_=>by rw[jc];rfl
 | m+1,h=>by
  have hm:m<ls.length:=h;have ht:ls.take (m+1)=ls.take m++[ls[m]]:=by rw[cn,aa hm];rfl
  rw[ht,List.reverse_append];show (La (wS ls g) m).flatMap _=((chs g (ls.take m).reverse).flatMap λf=>(g ls[m]).map λw=>fU f ls[m] w).map _;rw[Dz hn m (by omega),mq,List.map_flatMap];have Z:ls[m]∉ls.take m:=λz=>by
   have nd:(ls.take m++[ls[m]]).Nodup:=ht▸hn.sublist (ly (m+1) ls);exact (fg.mp nd).2.2 _ z _ (ax.mpr rfl) rfl
  congr 1
  funext f
  unfold wS;rw[ak,aa hm,bv,bv];refine b8 λw _=>?_
  show (ls.take m).map _++[_]=(ls.take m++[ls[m]]).map _;rw[a7,List.map_singleton]
  congr 1
  ·refine b8 λt ht=>?_
   show _=ls.idxOf ((fU f ls[m] w t).drop 1);rw[tD (λe=>Z (by rw[<- e];exact ht))]
  ·show _=[ls.idxOf ((fU f ls[m] w ls[m]).drop 1)]
   rw[pX]
theorem Xu {ls:List W}(hn:ls.Nodup)(g:W->List W):det ls.length (ent (ls.map λt=>rI ls t (g t)))=((nC ls g:Nat):Int):=by
 classical
 rw[Qp hn,Km,Dz hn ls.length (af _),cr];rw[Hv (ut ls).symm hn g];unfold nC;rw[List.filter_map,aR]
 congr 3
 funext f
 rw[Cp (ut ls)];show decide (rW ls.length (plc ls f))=cmT ls f;rw[cu,AI];exact Ks hn f
theorem vP {g:W->List W}:∀ ls:List W,(chs g ls).length<=2 ^ (ls.map λt=>(g t).length).sum
 | []=>af 1
 | t::ls=>by
  have Z:=vP (g:=g) ls;have e:(chs g (t::ls)).length=(chs g ls).length*(g t).length:=by
   show ((chs g ls).flatMap λf=>(g t).map λw=>fU f t w).length=_;generalize chs g ls=l
   induction l with
   | nil=>simp
   | cons f l ihl=>rw[fi,ai,aR,ihl,ar,ib,ie,j4]
  rw[e,ap,cy,j2,c7];exact ic (iw Nat.lt_two_pow_self) Z
end Dt
namespace Hg
variable {bg en:List Nat->List Nat}
def Tr (bg en:List Nat->List Nat):List Nat->List (List Nat)->List Nat->Prop
 | p,[],q=>p=q
 | p,w::ws,q=>bg w=p∧Tr bg en (en w) ws q
theorem Tr.mem:∀ {Z:List (List Nat)} {p q:List Nat},Tr bg en p Z q->∀ w∈Z,bg w∈p::Z.map en
 | v::Z,p,q,h,w,hw=>by
  rcases au.mp hw with rfl | hw
  ·rw[h.1]
   exact aq ..
  ·exact al _ (Tr.mem h.2 w hw)
theorem Tr.exc (χ:List Nat->Bool):∀ {Z:List (List Nat)} {p q:List Nat},Tr bg en p Z q->((Z.filter λl=>χ (bg l)).length:Int)-((Z.filter λl=>χ (en l)).length:Int)=(if χ p then 1 else 0)-(if χ q then 1 else 0)
 | [],p,q,h=>by
  cases h;simp
 | w::Z,p,q,h=>by
  have ih:=Tr.exc χ h.2;rw[fu,fu,h.1];by_cases h1:χ p <;> by_cases h2:χ (en w) <;> simp[h1,h2] at ih ⊢ <;> omega
theorem Tr.rch {ms:List (List Nat)}{p:List Nat}:∀ {Z:List (List Nat)} {r q:List Nat},Tr bg en r Z q->(∀ w∈Z,w∈ms)->Rch bg en ms p r->∀ w∈Z,Rch bg en ms p (bg w)∧Rch bg en ms p (en w)
 | v::Z,r,q,h,hs,hr,w,hw=>by
  have h1:Rch bg en ms p (bg v):=by rw[h.1];exact hr
  have h2:Rch bg en ms p (en v):=.fw (hs v (aq ..)) h1;rcases au.mp hw with rfl | hw
  ·exact⟨h1,h2⟩
  ·exact Tr.rch h.2 (λw hw=>hs w (al _ hw)) h2 w hw
theorem Rch.trans {ms:List (List Nat)}{p z y:List Nat}(h1:Rch bg en ms p z)(h2:Rch bg en ms z y):Rch bg en ms p y:=by
 induction h2 with
 | self=>exact h1
 | fw hw _ ih=>exact .fw hw ih
 | bw hw _ ih=>exact .bw hw ih
theorem Rch.symm {ms:List (List Nat)}{p z:List Nat}(h:Rch bg en ms p z):Rch bg en ms z p:=by
 induction h with
 | self=>exact .self
 | fw hw _ ih=>exact (Rch.bw hw .self).trans ih
 | bw hw _ ih=>exact (Rch.fw hw .self).trans ih
end Hg
namespace Wd
def iN (k:Nat):Nat->Nat->W
 | 0,_=>[]
 | n+1,N=>iN k n (N/k)++[97+N % k]
theorem lS (k:Nat):∀ n N,(iN k n N).length=n
 | 0,_=>rfl
 | n+1,N=>by rw[iN,ai,lS k n];rfl
theorem Dr {k:Nat}(hk:0<k):∀ n N M,N<M->M<k ^ n->iN k n N<iN k n M
 | 0,N,M,h1,h2=>by rw[qg] at h2;omega
 | n+1,N,M,h1,h2=>by
  rw[iN,iN];have Z:N/k<=M/k:=Nat.div_le_div_right (iw h1);rcases Nat.lt_or_eq_of_le Z with h | h
  ·exact Ya (Dr hk n _ _ h (sh (by rw[c7,<- gr];exact h2))) (by rw[lS,lS];exact af _) _ _
  ·rw[h,Da]
   have e1:=ke N k;have e2:=ke M k;rw[h] at e1
   have:N % k<M % k:=by omega
   rw[me];left;omega
theorem xW {k:Nat}(hk:0<k):∀ n N,∀ c∈iN k n N,97<=c∧c<97+k
 | 0,_,c,h=>by cases h
 | n+1,N,c,h=>by
  rw[iN,br] at h;rcases h with h | h
  ·exact xW hk n _ c h
  ·have e:c=97+N % k:=by simpa using h
   have:=jn N hk
   omega
def num (k:Nat)(w:W):Nat:=w.foldl (λa c=>a*k+(c-97)) 0
theorem Pm (k:Nat)(w:W)(c:Nat):num k (w++[c])=num k w*k+(c-97):=by
 unfold num;rw[o8];rfl
theorem Uf {w:W}(h:0<w.length):∃ u c,w=u++[c]:=by
 exact⟨w.dropLast,w.getLast (dt.mp h),(gh _).symm⟩
theorem zC {k:Nat}:∀ (n:Nat) (w:W),w.length=n->(∀ c∈w,97<=c∧c<97+k)->iN k n (num k w)=w∧num k w<k ^ n
 | 0,w,h,_=>by
  have:w=[]:=a8.mp h
  subst this;exact⟨rfl,by rw[qg];exact Nat.zero_lt_one⟩
 | n+1,w,h,hw=>by
  obtain⟨u,c,rfl⟩:=Uf (w:=w) (by omega);rw[ai] at h;have Z:u.length=n:=by
   have:[c].length=1:=rfl
   omega
  obtain⟨h1,h2⟩:=zC n u Z λd hd=>hw d (gj _ hd)
  have hc:=hw c (by simp);have hk:0<k:=by omega
  have hd:(num k u*k+(c-97))/k=num k u:=by rw[j4,Nat.add_mul_div_right _ _ hk,p7 (by omega),ix]
  have hm:(num k u*k+(c-97)) % k=c-97:=by rw[j4,Nat.add_mul_mod_self_right,gy (by omega)]
  rw[Pm,iN,hd,hm,h1];refine⟨by rw[show 97+(c-97)=c by omega],?_⟩;rw[gr]
  have:num k u*k+k<=k ^ n*k:=by rw[<- l6];exact gk k h2
  omega
def cQ (k n:Nat):List W:=(bt (k ^ n)).map (iN k n)
theorem jM (k n:Nat):(cQ k n).length=k ^ n:=by rw[cQ,aR,cq]
def Okk (k:Nat)(w:W):Prop:=∀ c∈w,97<=c∧c<97+k
def Lst (w:W):Prop:=w=mK w
def fill (k n:Nat)(p:W):W:=p++cp (n-p.length) (96+k)
instance (w:W):Decidable (Lst w):=inferInstanceAs (Decidable (w=mK w))
structure LW (k n:Nat)(w:W):Prop where
 len:w.length=n
 ok:Okk k w
 lst:Lst w
def Nn (k:Nat)(w:W)(m:Nat):Prop:=∀ v,LW k w.length v->∀ p,m<=p->p<w.length->v.take p=w.take p->¬ w.getD p 0<v.getD p 0
theorem oN {k n:Nat}{w:W}(hk:0<k):w∈cQ k n↔w.length=n∧Okk k w:=by
 unfold cQ;rw[aw];constructor
 ·rintro⟨i,_,rfl⟩
  exact⟨lS k n i,xW hk n i⟩
 ·rintro⟨hl,Z⟩
  obtain⟨h1,h2⟩:=zC n w hl Z;exact⟨num k w,ck.mpr h2,h1⟩
theorem rR {k n:Nat}(hk:0<k):(cQ k n).Pairwise (· < ·):=by
 unfold cQ;rw[jj];refine jo ?_ j7;intro a b _ hb Z;exact Dr hk n a b Z (ck.mp hb)
theorem Mo (k n:Nat)(hk:0<k):cQ k (n+1)=(cQ k n).flatMap λw=>(bt k).map λc=>w++[97+c]:=by
 unfold cQ;rw[mq,gr];generalize k ^ n=m
 induction m with
 | zero=>simp
 | succ m ih =>
  rw[l6,List.range_add,a7,ih,ll,sv]
  congr 1
  simp only [fi,List.flatMap_nil,da,bv];apply b8;intro c hc;have Z:=ck.mp hc;show iN k (n+1) (m*k+c)=_;rw[iN];have e1:(m*k+c)/k=m:=by rw[c7,Nat.mul_add_div hk,p7 Z];omega
  have e2:(m*k+c) % k=c:=by rw[c7,Nat.mul_add_mod,gy Z]
  rw[e1,e2]
theorem lQ {t:W}{n c:Nat}(hn:1<=n)(h:n<=t.length+1):bV (t++[c]) n=bV t n++[t.drop (t.length+1-n)++[c]]:=by
 unfold bV;rw[ai,cm,show t.length+1+1-n=t.length+1-n+1 by omega,ll,a7];refine congr (congrArg _ (b8 λi hi=>?_)) ?_
 ·rw[ck] at hi
  rw[<- zO (t:=t++[c]) (by rw[ai,cm];omega),<- zO (t:=t) (by omega),ik (by omega),m8 (by rw[bu];omega)]
 ·show [gC (t++[c]) n (t.length+1-n)]=_
  rw[<- zO (t:=t++[c]) (by rw[ai,cm];omega),ik (by omega),b9 (by rw[ai,bu,cm];omega)]
theorem Bz:∀ (a b:List W),a.Nodup->(∀ x∈a,x∈b)->a.length<=b.length
 | [],b,_,_=>cc _
 | x::a,b,hn,hs=>by
  obtain⟨h1,h2⟩:=cx.mp hn;have hx:x∈b:=hs x aq
  have:=Bz a (b.erase x) h2 λy Z=>(sd (λe=>h1 (by rw[<- e];exact Z))).mpr (hs y (al _ Z))
  rw[lg hx] at this;have hp:0<b.length:=ft hx;rw[ar];omega
def Cc (k:Nat):W:=(bt k).map (97 + ·)
section
variable {k n:Nat}{t:W}
theorem full {a b:List W}(hn:a.Nodup)(hs:∀ x∈a,x∈b)(hl:b.length<=a.length){x:W}(hx:x∈b):x∈a:=by
 refine ba λZ=>?_
 have:=Bz (x::a) b (cx.mpr ⟨Z,hn⟩) λy hy=>by
  rcases au.mp hy with rfl | hy
  ·exact hx
  ·exact hs y hy
 rw[ar] at this;omega
end
open Hg
def beg (l:W):W:=l.take (l.length-1)
def fin (l:W):W:=l.drop 1
theorem Tr.app {p r q:W}:∀ {xs ys:List W} {p:W},Tr beg fin p xs r->Tr beg fin r ys q->Tr beg fin p (xs++ys) q
 | [],_,_,h,g=>by cases h;exact g
 | x::xs,_,_,h,g=>⟨h.1,Tr.app (p:=p) h.2 g⟩
def sl (t:W)(i j:Nat):W:=(t.drop i).take (j-i)
def hd (w:W):Nat:=w.getD 0 0
end Wd
namespace Wd
open Hg
def lst (us:List W):W:=us.getD (us.length-1) []
def ext (Z us:List W):List (List W):=(Z.filter λw=>decide (beg w=fin (lst us)) && !decide (w∈us)).map λw=>us++[w]
def cnt (f:W->W)(E:List W)(v:W):Nat:=(E.filter λw=>decide (f w=v)).length
def Bal (E:List W)(s t:W):Prop:=∀ v,cnt beg E v+(if v=t then 1 else 0)=cnt fin E v+(if v=s then 1 else 0)
def gY (E:List W)(s:W):Prop:=∀ χ:W->Prop,χ s->(∀ e∈E,χ (beg e)↔χ (fin e))->∀ e∈E,χ (beg e)
section
variable {E L us:List W}{s t v p q w:W}
theorem oA (f:W->W)(e:W)(E:List W)(v:W):cnt f (e::E) v=(if f e=v then 1 else 0)+cnt f E v:=by
 unfold cnt;rw[fu];by_cases h:f e=v
 ·rw[AD (AE h),AD h,ar,j4]
 ·rw[AC (by rw[AH h];exact ag),AC h,ix]
theorem Ik (f:W->W)(A B:List W)(v:W):cnt f (A++B) v=cnt f A v+cnt f B v:=by
 unfold cnt;rw[j8,ai]
theorem tR {A B:List W}(f:W->W)(h:A.Perm B)(v:W):cnt f A v=cnt f B v:=(h.filter _).length_eq
theorem Bal.perm {A B:List W}(h:Bal A s t)(Z:A.Perm B):Bal B s t:=λv=>by rw[<- tR beg Z,<- tR fin Z];exact h v
theorem gY.perm {A B:List W}(h:gY A s)(hp:A.Perm B):gY B s:=λχ hs hc e Z=>h χ hs (λe Z=>hc e (hp.mem_iff.mp Z)) e (hp.mem_iff.mpr Z)
theorem Ak:∀ {us:List W} {p:W},Tr beg fin p us q->Bal us p q
 | [],p,h=>λv=>by
  have h:p=q:=h;subst h;rfl
 | w::us,p,h=>λv=>by
  have ih:=Ak h.2 v;have e:beg w=p:=h.1;rw[oA,oA];have Z:(if v=p then 1 else 0)=(if beg w=v then 1 else 0):=by
   by_cases c:v=p
   ·rw[AD c,AD (by rw[e,c])]
   ·rw[AC c,AC (λz=>c (by rw[<- z,e]))]
  have e2:(if v=fin w then 1 else 0)=(if fin w=v then 1 else 0):=by
   by_cases c:v=fin w
   ·rw[AD c,AD c.symm]
   ·rw[AC c,AC (λz=>c z.symm)]
  omega
theorem Ax:∀ {us:List W} {p:W},Tr beg fin p us q->gY us p
 | [],p,_=>λχ _ _ e he=>by cases he
 | w::us,p,h=>λχ hp Z e he=>by
  have hb:χ (beg w):=by rw[show beg w=p from h.1];exact hp
  have hf:=(Z w (aq ..)).mp hb;rcases au.mp he with rfl | he
  ·exact hb
  ·exact Ax h.2 χ hf (λe he=>Z e (al _ he)) e he
theorem Bal.rest (h:Bal E s t)(hp:E.Perm (us++L))(Z:Tr beg fin s us q):Bal L q t:=λv=>by
 have h1:=(h.perm hp) v;have h2:=Ak Z v;rw[Ik,Ik] at h1;omega
theorem Bal.out (h:Bal L v t)(Z:v≠t):∃ e∈L,beg e=v:=by
 have h1:=h v;rw[AC Z,AD rfl] at h1;have h2:0<cnt beg L v:=by omega
 obtain⟨e,he⟩:=eg h2;obtain⟨g1,g2⟩:=cb.mp he;exact⟨e,g1,AF g2⟩
theorem Bal.go:∀ (k:Nat) {L:List W} {v:W},L.length=k->Bal L v t->∃ cs R,L.Perm (cs++R)∧Tr beg fin v cs t
 | 0,L,v,hl,h=>by
  by_cases c:v=t
  ·exact⟨[],L,ej _,c⟩
  ·obtain⟨e,Z,_⟩:=h.out c
   rw[a8.mp hl] at Z;cases Z
 | k+1,L,v,hl,h=>by
  by_cases c:v=t
  ·exact⟨[],L,ej _,c⟩
  ·obtain⟨e,Z,hb⟩:=h.out c
   have hp:=jk Z;have h2:Bal (L.erase e) (fin e) t:=h.rest (us:=[e]) hp ⟨hb,rfl⟩;have gV:(L.erase e).length=k:=by rw[lg Z,hl];rfl
   obtain⟨cs,R,h3,h4⟩:=Bal.go k gV h2;exact⟨e::cs,R,hp.trans (h3.cons e),⟨hb,h4⟩⟩
theorem Du:∀ {us:List W} {p:W},Tr beg fin p us q->v∈p::us.map fin->∃ xs ys,us=xs++ys∧Tr beg fin p xs v∧Tr beg fin v ys q
 | [],p,h,hv=>by
  have e:v=p:=by simpa using hv
  exact⟨[],[],rfl,e.symm,e▸h⟩
 | w::us,p,h,hv=>by
  by_cases c:v=p
  ·exact⟨[],w::us,rfl,c.symm,by rw[c];exact h⟩
  ·have Z:v∈fin w::us.map fin:=(au.mp hv).resolve_left c
   obtain⟨xs,ys,e,h1,h2⟩:=Du h.2 Z;exact⟨w::xs,ys,by rw[e];rfl,⟨h.1,h1⟩,h2⟩
theorem Ot:∀ (k:Nat) {us R:List W},R.length<=k->Tr beg fin s us t->Bal R t t->gY (us++R) s->∃ full,full.Perm (us++R)∧Tr beg fin s full t
 | k,us,[],_,h,_,_=>⟨us,by rw[da],h⟩
 | 0,us,r::R,hl,_,_,_=>absurd hl (by simp)
 | k+1,us,r::R,hl,h,hb,hc=>by
  have wp:∀ v,cnt beg (r::R) v=cnt fin (r::R) v:=λv=>by have:=hb v;omega
  have hex:∃ e∈r::R,beg e∈s::us.map fin:=by
   refine ba λz=>?_
   have mp:∀ e∈r::R,¬ beg e∈s::us.map fin:=λe he c=>z ⟨e,he,c⟩
   have or:∀ e∈r::R,¬ fin e∈s::us.map fin:=λe he c=>by
    have h1:0<cnt fin (r::R) (fin e):=ft (cb.mpr ⟨he,AE rfl⟩);rw[<- wp] at h1;obtain⟨e',w8⟩:=eg h1;obtain⟨g1,g2⟩:=cb.mp w8;exact mp e' g1 (by rw[AF g2];exact c)
   have:=hc (λv=>v∈s::us.map fin) (aq ..) (λe he=>?_) r (bf _ (aq ..))
   ·exact mp r (aq ..) this
   ·rcases br.mp he with he | he
    ·exact⟨λ_=>al _ (gt he),λ_=>h.mem e he⟩
    ·exact⟨λz=>absurd z (mp e he),λz=>absurd z (or e he)⟩
  obtain⟨e,he,wz⟩:=hex;obtain⟨xs,ys,rfl,t1,t2⟩:=Du h wz;have hp:=jk he;have ww:Bal (r::R) (beg e) (beg e):=λv=>by have:=wp v;omega
  have w4:Bal ((r::R).erase e) (fin e) (beg e):=ww.rest (us:=[e]) hp ⟨rfl,rfl⟩;obtain⟨cs,R',h3,h4⟩:=Bal.go _ rfl w4;have gV:(r::R).Perm ((e::cs)++R'):=hp.trans (h3.cons e);have t3:Tr beg fin (beg e) (e::cs) (beg e):=⟨rfl,h4⟩;have w6:Bal R' (beg e) (beg e):=ww.rest gV t3;have xa:Bal R' t t:=λv=>by have:=w6 v;omega
  have wx:R'.length<=k:=by
   have:=gV.length_eq
   rw[ai,ar,ar] at this;rw[ar] at hl;omega
  have Z:((xs++ys)++(r::R)).Perm ((xs++((e::cs)++ys))++R'):=by
   refine (gV.append_left (xs++ys)).trans ?_;rw[d8,d8,d8];refine kh xs ?_;rw[<- d8,<- d8];exact mf.append_right R'
  obtain⟨full,f1,f2⟩:=Ot k wx (Tr.app (p:=s) t1 (Tr.app (p:=s) t3 t2)) xa (hc.perm Z);exact⟨full,f1.trans Z.symm,f2⟩
theorem aAU (hb:Bal E s t)(hc:gY E s):∃ us,us.Perm E∧Tr beg fin s us t:=by
 obtain⟨cs,R,h1,h2⟩:=Bal.go _ rfl hb;have Z:=hb.rest h1 h2;obtain⟨full,f1,f2⟩:=Ot _ (af _) h2 Z (hc.perm h1);exact⟨full,f1.trans h1.symm,f2⟩
theorem Bal.step (hb:Bal E s t){e:W}(Z:e∈E)(h:beg e=s):Bal (E.erase e) (fin e) t:=hb.rest (us:=[e]) (jk Z) ⟨h,rfl⟩
end
end Wd
namespace Dt
open Wd Hg
section
variable {ts:List W}{f:W->W}
theorem Sj {t:W}(h:t∉ts):∀ k,iT ts f k t=t
 | 0=>rfl
 | k+1=>by
  show sT ts f (iT ts f k t)=t;rw[Sj h k];unfold sT;rw[AC h]
theorem Qa {t:W}:∀ l k,iT ts f (l+k) t=iT ts f l (iT ts f k t)
 | 0,k=>by rw[ix];rfl
 | l+1,k=>by
  rw[show l+1+k=(l+k)+1 by omega];show sT ts f (iT ts f (l+k) t)=sT ts f (iT ts f l (iT ts f k t));rw[Qa l k]
theorem Aw:cmT ts f=true↔∀ χ:W->Prop,(∀ t,χ t->t∈ts∧χ ((f t).drop 1))->∀ t,¬ χ t:=by
 constructor
 ·intro h χ hc t ht
  have mp:∀ k,χ (iT ts f k t):=λk=>by
   induction k with
   | zero=>exact ht
   | succ k ih =>
    show χ (sT ts f (iT ts f k t));unfold sT;rw[AD (hc _ ih).1];exact (hc _ ih).2
  exact AF (dz.mp h t (hc t ht).1) (hc _ (mp ts.length)).1
 ·intro h
  refine dz.mpr λt ht=>AE λhn=>?_
  have lt:∀ k,k<=ts.length->iT ts f k t∈ts:=λk hk=>by
   refine ba λz=>?_
   have e:iT ts f (ts.length-k+k) t=iT ts f k t:=by rw[Qa];exact Sj z _
   rw[show ts.length-k+k=ts.length by omega] at e;rw[e] at hn;exact z hn
  obtain⟨a,b,Z,hb,heq⟩:∃ a b,a<b∧b<=ts.length∧iT ts f a t=iT ts f b t:=by
   refine ba λz=>?_
   have nd:((bt (ts.length+1)).map λk=>iT ts f k t).Nodup:=by
    refine jj.mpr (jo (λ{x y} hx hy gV he=>z ⟨x,y,gV,?_,he⟩) j7)
    have:=ck.mp hy
    omega
   have:=Hg.pV (ms:=ts) nd λy hy=>by
    obtain⟨k,hk,rfl⟩:=aw.mp hy
    have:=ck.mp hk
    exact lt k (by omega)
   rw[aR,cq] at this;omega
  refine h (λu=>∃ k,a<=k∧k<b∧u=iT ts f k t) (λu ⟨k,h1,h2,h3⟩=>?_) (iT ts f a t) ⟨a,af _,Z,rfl⟩;subst h3;refine⟨lt k (by omega),?_⟩;have e:(f (iT ts f k t)).drop 1=iT ts f (k+1) t:=by
   show _=sT ts f (iT ts f k t);unfold sT;rw[AD (lt k (by omega))]
  rw[e];by_cases hk:k+1<b
  ·exact⟨k+1,by omega,hk,rfl⟩
  ·exact⟨a,af _,Z,by rw[heq,show b=k+1 by omega]⟩
end
def fct:Nat->Nat
 | 0=>1
 | n+1=>(n+1)*fct n
def pF (c:W->Nat):List W->Nat
 | []=>1
 | t::ts=>fct (c t-1)*pF c ts
theorem uS {c c':W->Nat}:∀ {ts:List W},(∀ t∈ts,c t=c' t)->pF c ts=pF c' ts
 | [],_=>rfl
 | t::ts,h=>by
  show fct (c t-1)*pF c ts=fct (c' t-1)*pF c' ts;rw[h t (aq ..),uS λu Z=>h u (al _ Z)]
theorem Tt {c:W->Nat}{ts us:List W}(h:ts.Perm us):pF c ts=pF c us:=by
 induction h with
 | nil=>rfl
 | cons t _ ih=>show fct (c t-1)*_=fct (c t-1)*_;rw[ih]
 | swap a b l=>show fct (c b-1)*(fct (c a-1)*pF c l)=fct (c a-1)*(fct (c b-1)*pF c l);rw[uu]
 | trans _ _ h1 h2=>exact h1.trans h2
def og (E:List W)(t:W):List W:=E.filter λw=>decide (beg w=t)
def rm (E:List W)(w:W):List W:=E.filter λx=>!decide (x=w)
section
variable {E:List W}{a b t w:W}
theorem zR:(og E t).length=cnt beg E t:=rfl
theorem dU:w∈og E t↔w∈E∧beg w=t:=by unfold og;rw[cb,AI]
theorem iJ {x:W}:x∈rm E w↔x∈E∧x≠w:=by
 unfold rm;rw[cb,o9,decide_eq_false_iff_not]
theorem pA (h:E.Nodup):(rm E w).Nodup:=h.sublist ff
theorem mC (h:E.Nodup)(hw:w∈E):E.Perm (w::rm E w):=by
 refine (d7 h (cx.mpr ⟨λz=>(iJ.mp z).2 rfl,pA h⟩)).mpr λx=>?_
 rw[au,iJ];constructor
 ·intro Z
  by_cases e:x=w
  ·exact .inl e
  ·exact .inr ⟨Z,e⟩
 ·rintro (e | e)
  ·rw[e];exact hw
  ·exact e.1
theorem mY (h:E.Nodup)(hw:w∈E):(rm E w).length+1=E.length:=by
 have:=(mC h hw).length_eq
 rw[ar] at this;omega
theorem Pq (h:E.Nodup)(hw:w∈E)(hb:Bal E (beg w) b):Bal (rm E w) (fin w) b:=hb.rest (us:=[w]) (mC h hw) ⟨rfl,rfl⟩
theorem uB (h:E.Nodup)(hw:w∈E)(f:W->W)(v:W):cnt f E v=(if f w=v then 1 else 0)+cnt f (rm E w) v:=by
 rw[tR f (mC h hw),oA]
theorem Qd (h:beg w≠t):og (rm E w) t=og E t:=by
 unfold og rm;rw[gi];refine im λx _=>?_
 by_cases e:beg x=t
 ·have:x≠w:=λz=>h (by rw[<- z];exact e)
  simp[e,this]
 ·simp[e]
theorem Fi (h:beg w=t):og (rm E w) t=(og E t).filter λx=>!decide (x=w):=by
 unfold og rm;rw[gi,gi];refine im λx _=>?_
 rw[wj]
end
def Qm:Nat->List W->W->W->List (List W)
 | 0,_,a,b=>if a=b then [[]] else []
 | n+1,E,a,b=>(og E a).flatMap λw=>(Qm n (rm E w) (fin w) b).map λus=>w::us
def eN (E:List W)(a b:W):Nat:=(Qm E.length E a b).length
theorem tG:∀ {n:Nat} {E:List W} {a b:W} {us:List W},E.length=n->E.Nodup->(us∈Qm n E a b↔us.Perm E∧Tr beg fin a us b)
 | 0,E,a,b,us,hl,_=>by
  obtain rfl:=a8.mp hl;show us∈(if a=b then [[]] else [])↔_;constructor
  ·intro h
   by_cases e:a=b
   ·rw[AD e] at h
    rw[ax.mp h];exact⟨.nil,e⟩
   ·rw[AC e] at h
    cases h
  ·rintro⟨h1,h2⟩
   obtain rfl:=List.perm_nil.mp h1;have e:a=b:=h2;rw[AD e];exact ax.mpr rfl
 | n+1,E,a,b,us,hl,hn=>by
  show us∈(og E a).flatMap (λw=>(Qm n (rm E w) (fin w) b).map λus=>w::us)↔_;rw[pw];constructor
  ·rintro⟨w,hw,h⟩
   obtain⟨vs,hv,rfl⟩:=aw.mp h;obtain⟨Z,mp⟩:=dU.mp hw;have gV:(rm E w).length=n:=by have:=mY hn Z;omega
   obtain⟨h1,h2⟩:=(tG gV (pA hn)).mp hv;exact⟨(h1.cons w).trans (mC hn Z).symm,mp,h2⟩
  ·rintro⟨h1,h2⟩
   cases us with
   | nil=>rw[<- h1.length_eq] at hl;cases hl
   | cons w vs =>
    have Z:w∈E:=h1.mem_iff.mp (aq ..);have gV:(rm E w).length=n:=by have:=mY hn Z;omega
    refine⟨w,dU.mpr ⟨Z,h2.1⟩,aw.mpr ⟨vs,(tG gV (pA hn)).mpr ⟨?_,h2.2⟩,rfl⟩⟩;exact ((h1.trans (mC hn Z)).cons_inv)
theorem Js {E:List W}(hn:E.Nodup){a b:W}(Z:E≠[]):eN E a b=((og E a).map λw=>eN (rm E w) (fin w) b).sum:=by
 obtain⟨n,hl⟩:∃ n,E.length=n+1:=⟨E.length-1,by have:=dt.mpr Z;omega⟩;unfold eN;rw[hl];show ((og E a).flatMap λw=>(Qm n (rm E w) (fin w) b).map λus=>w::us).length=_;rw[List.length_flatMap]
 congr 1
 refine b8 λw hw=>?_
 have:=mY hn (dU.mp hw).1
 rw[aR,show (rm E w).length=n by omega]
theorem Lg {E:List W}(hn:E.Nodup){a b:W}(h:¬ Bal E a b):eN E a b=0:=by
 unfold eN;rw[a8,mr];intro us Z;obtain⟨h1,h2⟩:=(tG rfl hn).mp Z;exact h ((Ak h2).perm h1)
def Txs (E:List W)(b:W)(ts:List W):Prop:=ts.Nodup∧∀ t,t∈ts↔t≠b∧∃ w∈E,beg w=t
def bst (E:List W)(b:W)(ts:List W):Nat:=fct (cnt beg E b)*pF (cnt beg E) ts*nC ts (og E)
theorem Txs.perm {E:List W}{b:W}{ts us:List W}(h1:Txs E b ts)(h2:Txs E b us):ts.Perm us:=(d7 h1.1 h2.1).mpr λt=>by rw[h1.2,h2.2]
theorem Uq {E:List W}{b:W}{ts us:List W}(h1:Txs E b ts)(h2:Txs E b us):bst E b ts=bst E b us:=by
 unfold bst;rw[Tt (h1.perm h2),Hv (h1.perm h2) h1.1]
def nW (ts:List W)(a:W)(g:W->List W)(w:W):Nat:=((chs g ts).filter λf=>cmT (a::ts) (fU f a w)).length
theorem tH {ts:List W}{a:W}{g:W->List W}:nC (a::ts) g=((g a).map (nW ts a g)).sum:=by
 show (((chs g ts).flatMap λf=>(g a).map λw=>fU f a w).filter (cmT (a::ts))).length=((g a).map λw=>((chs g ts).filter λf=>cmT (a::ts) (fU f a w)).length).sum;generalize chs g ts=l
 induction l with
 | nil =>
  show 0=((g a).map λw=>0).sum;generalize g a=l
  induction l with
  | nil=>rfl
  | cons w l ih=>rw[ap,cy,<- ih]
 | cons f l ih =>
  rw[fi,j8,ai,ih];clear ih;generalize g a=m
  induction m with
  | nil=>rfl
  | cons w m ih =>
   rw[ap,ap,ap,cy,cy,fu,fu];by_cases hc:cmT (a::ts) (fU f a w)=true
   ·rw[AD hc,AD hc,ar,ar];omega
   ·rw[AC hc,AC hc];omega
theorem Ms {ts:List W}{a w:W}{g g':W->List W}(h:∀ t∈ts,g t=g' t):nW ts a g w=nW ts a g' w:=by unfold nW;rw[pR h]
theorem rN {f:W->Nat}{w:W}:∀ {l:List W},l.Nodup->w∈l->((l.filter λx=>!decide (x=w)).map f).sum+f w=(l.map f).sum
 | x::l,hn,hw=>by
  rw[cx] at hn;by_cases e:x=w
  ·subst e
   rw[db (by simp),ap,cy,jv.mpr λy Z=>by have:y≠x:=λz=>hn.1 (z▸Z);simp[this]];omega
  ·rw[dq (by simp[e]),ap,cy,ap,cy,<- rN hn.2 ((au.mp hw).resolve_left (Ne.symm e))]
   omega
theorem Ie {S:Nat}{f h:W->Nat}:∀ {l:List W},(∀ w∈l,h w+f w=S)->(l.map h).sum+(l.map f).sum=l.length*S
 | [],_=>by simp
 | w::l,hh=>by
  have e:=hh w (aq ..);have ih:=Ie (l:=l) λx Z=>hh x (al _ Z)
  rw[ap,cy,ap,cy,ar,ib,ie];omega
theorem yZ {c:Nat}{f:W->Nat}:∀ {l:List W},(∀ w∈l,f w=c)->(l.map f).sum=l.length*c
 | [],_=>by simp
 | w::l,h=>by
  rw[ap,cy,h w (aq ..),yZ λx Z=>h x (al _ Z),ar,ib,ie,j4]
theorem Cd {c:Nat}{f:W->Nat}:∀ l:List W,(l.map λw=>c*f w).sum=c*(l.map f).sum
 | []=>rfl
 | w::l=>by rw[ap,cy,Cd l,ap,cy,vd]
theorem Th {ts:List W}{a w:W}{g:W->List W}(ha:a∉ts)(hg:g a=[w])(hw:w.drop 1≠a)(hl:∀ t∈ts,∀ x∈g t,x.drop 1≠a):nC (a::ts) g=nC ts g:=by
 rw[tH,hg];show nW ts a g w+0=_;rw[k9];unfold nW nC
 congr 1
 refine im λf hf=>?_
 rw[cu,Aw,Aw];have hm:∀ t∈ts,f t∈g t:=As hf;constructor
 ·intro h χ hc t ht
  refine h χ (λu Z=>?_) t ht;obtain⟨h1,h2⟩:=hc u Z;have mp:u≠a:=λz=>ha (z▸h1)
  exact⟨al _ h1,by rw[tD mp];exact h2⟩
 ·intro h χ hc t ht
  have or:=h (λu=>χ u∧u≠a) λu ⟨h1,h2⟩=>by
   obtain⟨h3,h4⟩:=hc u h1;rw[tD h2] at h4;have Z:=(au.mp h3).resolve_left h2;exact⟨Z,h4,hl u Z _ (hm u Z)⟩
  have gV:∀ u,χ u->u=a:=λu Z=>ba λz=>or u ⟨Z,z⟩
  obtain rfl:=gV t ht;have h2:=(hc t ht).2;rw[pX] at h2;exact hw (gV _ h2)
theorem Pj {ts:List W}{g:W->List W}(gV:ts≠[])(h:∀ t∈ts,∀ x∈g t,x.drop 1∈ts):nC ts g=0:=by
 unfold nC;rw[a8,iy];intro f hf hc;obtain⟨t,ht⟩:=jg _ gV;exact Aw.mp hc (λu=>u∈ts) (λu Z=>⟨Z,h u Z _ (As hf u Z)⟩) t ht
theorem Qy {E:List W}{b:W}(hb:Bal E b b)(v:W):cnt beg E v=cnt fin E v:=by
 have:=hb v
 omega
theorem Uj:∀ (n:Nat) {E:List W} {a b:W} {ts:List W},E.length=n->E.Nodup->Bal E a b->Txs E b ts->eN E a b=bst E b ts
 | 0,E,a,b,ts,hl,hn,hb,ht=>by
  obtain rfl:=a8.mp hl;have wp:a=b:=by
   have h:=hb a;rw[AD (rfl:a=a)] at h;refine ba λz=>?_
   rw[AC z] at h;cases h
  obtain rfl:ts=[]:=mr.mpr λt h=>by
   obtain⟨_,w,hw,_⟩:=(ht.2 t).mp h;cases hw
  show (if a=b then [[]] else ([]:List (List W))).length=1;rw[AD wp];rfl
 | n+1,E,a,b,ts,hl,hn,hb,ht=>by
  have xf:E≠[]:=λz=>by rw[z] at hl;cases hl
  rw[Js hn xf];have w6:∀ w∈og E a,(rm E w).length=n:=λw hw=>by have:=mY hn (dU.mp hw).1;omega
  have w8:∀ w∈og E a,Bal (rm E w) (fin w) b:=λw hw=>by
   obtain⟨h1,h2⟩:=dU.mp hw;exact Pq hn h1 (h2.symm▸hb)
  by_cases wp:a=b
  ·subst wp
   by_cases h0:cnt beg E a=0
   ·have e:og E a=[]:=a8.mp h0
    rw[e];show 0=fct _*_*nC ts (og E);have xa:∀ w∈E,fin w∈ts:=λw hw=>by
     have h1:0<cnt fin E (fin w):=ft (cb.mpr ⟨hw,AE rfl⟩);rw[<- Qy hb] at h1;obtain⟨x,hx⟩:=eg h1;obtain⟨xi,xh⟩:=cb.mp hx;refine (ht.2 _).mpr ⟨λz=>?_,x,xi,AF xh⟩;rw[z,h0] at h1;cases h1
    obtain⟨w,hw⟩:=jg _ xf;rw[Pj (List.ne_nil_of_mem (xa w hw)) λt _ x hx=>xa x (dU.mp hx).1,Nat.mul_zero]
   ·have hc:∀ w∈og E a,eN (rm E w) (fin w) a=fct (cnt beg E a-1)*pF (cnt beg E) ts*nC ts (og E):=λw hw=>by
     obtain⟨mp,Z⟩:=dU.mp hw;have wz:Txs (rm E w) a ts:=⟨ht.1,λt=>by
      rw[ht.2];constructor
      ·rintro⟨h1,x,h2,h3⟩
       exact⟨h1,x,iJ.mpr ⟨h2,λz=>h1 (by rw[<- h3,z,Z])⟩,h3⟩
      ·rintro⟨h1,x,h2,h3⟩
       exact⟨h1,x,(iJ.mp h2).1,h3⟩⟩
     rw[Uj n (w6 w hw) (pA hn) (w8 w hw) wz];unfold bst;have e1:=uB hn mp beg a;rw[AD Z] at e1;rw[show cnt beg (rm E w) a=cnt beg E a-1 by omega];rw[uS (c':=cnt beg E) λt gV=>by
      have e2:=uB hn mp beg t;rw[AC (λz=>((ht.2 t).mp gV).1 (by rw[<- z,Z]))] at e2;omega]
     rw[Cs (g':=og E) λt gV=>Qd (λz=>((ht.2 t).mp gV).1 (by rw[<- z,Z]))]
    rw[yZ hc,zR];unfold bst;obtain⟨m,hm⟩:∃ m,cnt beg E a=m+1:=⟨cnt beg E a-1,by omega⟩;rw[hm];show (m+1)*(fct m*_*_)=(m+1)*fct m*_*_;rw[d9,d9,d9]
  ·have xk:cnt beg E a=cnt fin E a+1:=by
    have:=hb a
    rw[AC wp,AD rfl] at this;omega
   have xj:a∈ts:=by
    obtain⟨w,hw⟩:=eg (show 0<(og E a).length by rw[zR];omega);exact (ht.2 a).mpr ⟨wp,w,dU.mp hw⟩
   obtain⟨us,hp⟩:∃ us,ts.Perm (a::us):=⟨ts.erase a,jk xj⟩;have gV:Txs E b (a::us):=⟨hp.nodup_iff.mp ht.1,λt=>by rw[<- hp.mem_iff];exact ht.2 t⟩;rw[Uq ht gV];have ww:a∉us:=(cx.mp gV.1).1;have xb:∀ w∈og E a,pF (cnt beg (rm E w)) us=pF (cnt beg E) us:=λw hw=>uS λt or=>by
    obtain⟨mp,Z⟩:=dU.mp hw;have e2:=uB hn mp beg t;rw[AC (λz=>ww (by rw[<- Z,z];exact or))] at e2;omega
   have xc:∀ w∈og E a,cnt beg (rm E w) b=cnt beg E b:=λw hw=>by
    obtain⟨mp,Z⟩:=dU.mp hw;have e2:=uB hn mp beg b;rw[AC (λz=>wp (by rw[<- Z,z]))] at e2;omega
   by_cases h1:cnt beg E a=1
   ·obtain⟨w,hw⟩:=List.length_eq_one_iff.mp (show (og E a).length=1 from h1)
    have w4:w∈og E a:=by rw[hw];exact ax.mpr rfl
    obtain⟨mp,Z⟩:=dU.mp w4;have xg:∀ x∈E,x.drop 1≠a:=λx hx z=>by
     have:0<cnt fin E a:=ft (cb.mpr ⟨hx,AE z⟩)
     omega
    have wz:Txs (rm E w) b us:=⟨(cx.mp gV.1).2,λt=>by
     constructor
     ·intro or
      obtain⟨h3,x,h4,h5⟩:=(gV.2 t).mp (al _ or);exact⟨h3,x,iJ.mpr ⟨h4,λz=>ww (by rw[<- Z,<- z,h5];exact or)⟩,h5⟩
     ·rintro⟨h3,x,h4,h5⟩
      obtain⟨h6,h7⟩:=iJ.mp h4;refine (au.mp ((gV.2 t).mpr ⟨h3,x,h6,h5⟩)).resolve_left λz=>h7 ?_
      have:x∈og E a:=dU.mpr ⟨h6,h5.trans z⟩
      rw[hw] at this;exact ax.mp this⟩
    rw[hw];show eN (rm E w) (fin w) b+0=_;rw[k9,Uj n (w6 w w4) (pA hn) (w8 w w4) wz];unfold bst;rw[xc w w4,xb w w4,Th ww hw (xg w mp) λt _ x hx=>xg x (dU.mp hx).1];rw[Cs (g':=og E) λt or=>Qd (λz=>ww (by rw[<- Z,z];exact or))];show fct _*pF _ us*_=fct _*(fct (cnt beg E a-1)*pF _ us)*_;rw[h1];show _=fct _*(1*pF _ us)*_;rw[ie]
   ·have hc:∀ w∈og E a,eN (rm E w) (fin w) b=fct (cnt beg E b)*(fct (cnt beg E a-2)*pF (cnt beg E) us)*nC (a::us) (og (rm E w)):=λw hw=>by
     obtain⟨mp,Z⟩:=dU.mp hw;have e1:=uB hn mp beg a;rw[AD Z] at e1;have wz:Txs (rm E w) b (a::us):=⟨gV.1,λt=>by
      rw[gV.2];constructor
      ·rintro⟨h3,x,h4,h5⟩
       by_cases hta:t=a
       ·obtain⟨y,hy⟩:=eg (show 0<(og (rm E w) a).length by rw[zR];omega)
        exact⟨h3,y,(dU.mp hy).1,by rw[(dU.mp hy).2,hta]⟩
       ·exact⟨h3,x,iJ.mpr ⟨h4,λz=>hta (by rw[<- h5,z,Z])⟩,h5⟩
      ·rintro⟨h3,x,h4,h5⟩
       exact⟨h3,x,(iJ.mp h4).1,h5⟩⟩
     rw[Uj n (w6 w hw) (pA hn) (w8 w hw) wz];unfold bst;rw[xc w hw];show _*(fct (cnt beg (rm E w) a-1)*pF (cnt beg (rm E w)) us)*_=_;rw[xb w hw,show cnt beg (rm E w) a-1=cnt beg E a-2 by omega]
    rw[b8 hc,Cd];have hS:∀ w∈og E a,nC (a::us) (og (rm E w))+nW us a (og E) w=nC (a::us) (og E):=λw hw=>by
     obtain⟨mp,Z⟩:=dU.mp hw;rw[tH,tH,Fi Z,<- rN (l:=og E a) (f:=nW us a (og E)) (hn.sublist ff) hw]
     congr 2
     refine b8 λx _=>Ms λt or=>Qd (λz=>ww (by rw[<- Z,z];exact or))
    have wx:=Ie hS;rw[<- tH (g:=og E),zR] at wx;unfold bst;show _=fct (cnt beg E b)*(fct (cnt beg E a-1)*pF (cnt beg E) us)*nC (a::us) (og E);obtain⟨m,hm⟩:∃ m,cnt beg E a=m+2:=⟨cnt beg E a-2,by omega⟩;rw[hm] at wx ⊢;have e3:((og E a).map λw=>nC (a::us) (og (rm E w))).sum=(m+1)*nC (a::us) (og E):=by
     rw[show m+2=(m+1)+1 from rfl,ib,ie] at wx;omega
    rw[e3];show fct _*(fct m*_)*((m+1)*_)=fct _*((m+1)*fct m*_)*_;generalize fct (cnt beg E b)=A;generalize fct m=B;generalize pF (cnt beg E) us=C;generalize nC (a::us) (og E)=D;rw[d9 (m+1) B C,uu A (m+1) (B*C),c7 (m+1) (A*(B*C)),d9 (A*(B*C)) (m+1) D]
theorem Ba:∀ {n:Nat},n<=64->fct n<=64 ^ n
 | 0,_=>af 1
 | n+1,h=>by
  show (n+1)*fct n<=64 ^ (n+1);rw[gr,c7];exact ic (Ba (by omega)) (by omega)
theorem Qw (n:Nat):fct (n-1)<=fct n:=by
 cases n with
 | zero=>exact af _
 | succ n=>show fct n<=(n+1)*fct n;exact Nat.le_mul_of_pos_left _ (uv n)
theorem Wh {c:W->Nat}:∀ {ts:List W},(∀ t∈ts,c t<=64)->pF c ts<=64 ^ (ts.map c).sum
 | [],_=>af 1
 | t::ts,h=>by
  show fct (c t-1)*pF c ts<=_;rw[ap,cy,j2];exact ic (a5 (Qw _) (Ba (h t (aq ..)))) (Wh λu Z=>h u (al _ Z))
theorem Je {c:W->Nat}{t:W}:∀ ts:List W,pF c (ts++[t])=pF c ts*fct (c t-1)
 | []=>by show fct _*1=1*fct _;omega
 | u::ts=>by
  show fct _*pF c (ts++[t])=fct _*pF c ts*_;rw[Je ts,d9]
theorem vE {α:Type}(p:α->Bool):∀ l:List α,(l.filter p).length+(l.filter λx=>!p x).length=l.length
 | []=>rfl
 | x::l=>by
  have Z:=vE p l;by_cases h:p x=true
  ·rw[dq h,db (by simp[h]),ar,ar];omega
  ·rw[db h,dq (by simp[h]),ar,ar];omega
theorem Au {E:List W}:∀ {ts:List W},ts.Nodup->(ts.map (cnt beg E)).sum<=E.length
 | [],_=>by simp
 | t::ts,nd=>by
  rw[cx] at nd;have ih:=Au (E:=E.filter λl=>!decide (beg l=t)) nd.2;rw[ap,cy];have e:ts.map (cnt beg (E.filter λl=>!decide (beg l=t)))=ts.map (cnt beg E):=b8 λu hu=>by
   unfold cnt;rw[gi]
   congr 1
   refine im λl _=>?_
   by_cases h:beg l=u
   ·have Z:u≠t:=λz=>nd.1 (z▸hu)
    simp[h,Z]
   ·simp[h]
  rw[e] at ih;have h2:=vE (λl=>decide (beg l=t)) E;exact a5 (le ih _) (qc h2)
theorem Zu {ts:List W}{g:W->List W}:nC ts g<=2 ^ (ts.map λt=>(g t).length).sum:=a5 (df ..) (vP ts)
theorem jL {f:W->W}{v:W}:∀ {E:List W},(E.map f).count v=cnt f E v
 | []=>rfl
 | e::E=>by
  rw[ap,vg,oA,jL];by_cases h:f e=v
  ·rw[AD (by rw[h];exact beq_self_eq_true v),AD h];omega
  ·rw[AC (by intro z;exact h (eq_of_beq z)),AC h];omega
theorem Tj {E:List W}{a b:W}:(E.map beg++[b]).Perm (E.map fin++[a])↔Bal E a b:=by
 rw[List.perm_iff_count];have e:∀ (x v:W),([x]:List W).count v=if v=x then 1 else 0:=λx v=>by
  rw[vg,List.count_nil];by_cases h:v=x
  ·rw[AD h,AD (by rw[h];exact beq_self_eq_true x)]
  ·rw[AC h,AC (by intro z;exact h (eq_of_beq z).symm)]
 unfold Bal;constructor
 ·intro h v
  have:=h v
  rw[l9,l9,jL,jL,e,e] at this;exact this
 ·intro h v
  rw[l9,l9,jL,jL,e,e];exact h v
end Dt
namespace Wd
def it (f:W->W):Nat->W->W
 | 0,w=>w
 | k+1,w=>f (it f k w)
open Hg
def bU (w:W):Nat:=w.getD (w.length-1) 0
section
variable {ms us xs ys:List W}{p q r t e w0:W}{n:Nat}
theorem Sx {w:W}(h:1<=w.length):w=beg w++[bU w]:=by
 unfold beg bU
 conv=>lhs;rw[<- ki (w.length-1) w]
 congr 1
 rw[lb (by omega),List.drop_eq_nil_of_le (by omega),ak,aa (by omega)];rfl
theorem Tr.split:∀ {xs:List W} {p:W},Tr beg fin p (xs++ys) q->∃ r,Tr beg fin p xs r∧Tr beg fin r ys q
 | [],p,h=>⟨p,rfl,h⟩
 | x::xs,p,h=>by
  obtain⟨r,h1,h2⟩:=Tr.split (xs:=xs) h.2;exact⟨r,⟨h.1,h1⟩,h2⟩
theorem Ss (h:Tr beg fin p us p)(Z:us.Perm ms)(hw:w0∈ms):∃ vs,Tr beg fin (beg w0) (w0::vs) (beg w0)∧(w0::vs).Perm ms:=by
 obtain⟨xs,ys,rfl⟩:=List.append_of_mem (Z.mem_iff.mpr hw);obtain⟨r,h1,h2,h3⟩:=Tr.split h;refine⟨ys++xs,⟨rfl,Tr.app (p:=p) h3 (h2.symm▸h1)⟩,?_⟩;refine qw ?_ Z;exact mf (l₁:=w0::ys) (l₂:=xs)
end
end Wd
namespace Dt
open Wd Hg
def rk (b:W):List W->List W->Nat
 | _,[]=>0
 | E,w::us=>(((og E (beg w)).filter λx=>decide (x<w)).map λx=>eN (rm E x) (fin x) b).sum+rk b (rm E w) us
theorem Ro {E:List W}(hn:E.Nodup)(Z:E.Pairwise λx y=>¬ y<x):E.Pairwise (· < ·):=by
 refine wt (λa b h1 h2=>?_) Z hn;exact ba λz=>h2 (m4 a b z h1)
def aBX (g:W->List W)(t w:W):W->List W:=λx=>if x=t then [w] else g x
def trs (ts:List W):List W->(W->List W)->List (List W)
 | [],g=>if cmT ts (λt=>(g t).headD [])=true then [[]] else []
 | t::r,g=>(g t).flatMap λw=>(trs ts r (aBX g t w)).map λus=>w::us
end Dt
namespace Dt
open Wd
theorem Sk:∀ (us:List W) (E:List W),us.foldl rm E=E.filter λx=>!decide (x∈us)
 | [],E=>by
  show E=_;rw[jv.mpr λx _=>by simp]
 | u::us,E=>by
  show us.foldl rm (rm E u)=_;rw[Sk us (rm E u)];unfold rm;rw[gi];refine im λx _=>?_
  by_cases e:x=u <;> by_cases h:x∈us <;> simp[e,h]
theorem Ig {b w:W}:∀ {us E:List W},rk b E (us++[w])=rk b E us+(((og (us.foldl rm E) (beg w)).filter λx=>decide (x<w)).map λx=>eN (rm (us.foldl rm E) x) (fin x) b).sum
 | [],E=>by
  show _+0=0+_;rw[k9,ix];rfl
 | u::us,E=>by
  show _+rk b (rm E u) (us++[w])=_+rk b (rm E u) us+_;rw[Ig (us:=us) (E:=rm E u),ph];rfl
theorem Te {E:List W}(hn:E.Nodup){a b:W}(h:0<eN E a b):gY E a:=by
 obtain⟨us,Z⟩:=eg h;obtain⟨h1,h2⟩:=(tG rfl hn).mp Z;exact (Ax h2).perm h1
open Classical in
theorem tN {E:List W}(hn:E.Nodup){b:W}:∀ l:List W,(l.map λx=>eN (rm E x) (fin x) b).sum=((l.filter λx=>decide (gY (rm E x) (fin x))).map λx=>eN (rm E x) (fin x) b).sum
 | []=>rfl
 | x::l=>by
  have Z:=tN hn (b:=b) l;by_cases h:gY (rm E x) (fin x)
  ·rw[dq (p:=λx=>decide (gY (rm E x) (fin x))) (AE h),ap,ap,cy,cy,Z]
  ·rw[db (p:=λx=>decide (gY (rm E x) (fin x))) (λz=>h (AF z)),ap,cy,Z]
   have e:eN (rm E x) (fin x) b=0:=Nat.eq_zero_of_not_pos λz=>h (Te (pA hn) z)
   rw[e,ix]
end Dt
namespace L2
open PySem PySem.Spec PyProof.Rows
def tx (l:List Nat):Str:=⟨l.toArray⟩
abbrev T (l:List Nat):V:=.str (tx l)
theorem gT (l:List Nat):(tx l).length=l.length:=by simp[tx,Str.length]
theorem dZ (l:List Nat):(tx l).cps.toList=l:=by simp[tx]
theorem kD (x:Str):tx x.cps.toList=x:=by cases x;simp[tx]
theorem gP {a b:List Nat}(h:tx a=tx b):a=b:=by
 have e:=congrArg (λx:Str=>x.cps.toList) h
 simpa [tx] using e
theorem Zb {a b:List Nat}(h:T a=T b):a=b:=gP (V.str.inj h)
theorem Vz {a b:List Nat}:decide (T a=T b)=decide (a=b):=by
 rw[cu,AI,AI];exact⟨Zb,λh=>by rw[h]⟩
theorem Yg (a b:List Nat):tx a++tx b=tx (a++b):=by
 rw[<- kD (tx a++tx b),PySem.W.KT.app_list,dZ,dZ]
section
variable {X:Cx}
theorem pJ:OpR X (binaryOp .Add) (λx y H Q=>∃ a,x=T a∧∃ b,y=T b∧a.length+b.length<=sizeLine∧Q (T (a++b)) H):=by
 intro pins s σ H x y v u Q I rx Z h;obtain⟨a,e1,b,e2,hz,q⟩:=h;exact Fp pins s σ H x y v u Q I rx Z ⟨tx a,tx b,e1,e2,by rw[gT,gT];exact hz,by rw[Yg];exact q⟩
theorem Tu:OpR X (compareOp .Lt) (λx y H Q=>∃ a,x=T a∧∃ b,y=T b∧Q (.bl (decide (a<b))) H):=by
 intro pins s σ H x y v u Q I rx Z h;obtain⟨a,e1,b,e2,q⟩:=h;exact Md pins s σ H x y v u Q I rx Z ⟨tx a,tx b,e1,e2,by rw[dZ,dZ];exact q⟩
theorem nI:OpR X (compareOp .Eq) (λx y H Q=>∃ a,x=T a∧∃ b,y=T b∧Q (.bl (decide (a=b))) H):=by
 intro pins s σ H x y v u Q I rx Z h;obtain⟨a,rfl,b,rfl,q⟩:=h;exact Vu pins s σ H _ _ v u Q I rx Z ⟨rfl,by rw[Vz];exact q⟩
theorem Tp:OpR X (compareOp .NotEq) (λx y H Q=>∃ a,x=T a∧∃ b,y=T b∧Q (.bl (!decide (a=b))) H):=by
 intro pins s σ H x y v u Q I rx Z h;obtain⟨a,rfl,b,rfl,q⟩:=h;exact Vs pins s σ H _ _ v u Q I rx Z ⟨rfl,by rw[Vz];exact q⟩
theorem eP:OpR X (compareOp .Eq) (λx y H Q=>∃ a,x = .int a∧∃ b,y = .int b∧Q (.bl (decide (a=b))) H):=by
 intro pins s σ H x y v u Q I rx Z h;obtain⟨a,rfl,b,rfl,q⟩:=h;exact Vu pins s σ H _ _ v u Q I rx Z ⟨rfl,by rw[sY,rc];exact q⟩
theorem nK:OpR X (compareOp .NotEq) (λx y H Q=>∃ a,x = .int a∧∃ b,y = .int b∧Q (.bl (!decide (a=b))) H):=by
 intro pins s σ H x y v u Q I rx Z h;obtain⟨a,rfl,b,rfl,q⟩:=h;exact Vs pins s σ H _ _ v u Q I rx Z ⟨rfl,by rw[sY,rc];exact q⟩
def gX (l:List Nat)(lo hi:Option Int):List Nat:=(l.drop (HT.sIx l.length 0 lo)).take (HT.sIx l.length l.length hi-HT.sIx l.length 0 lo)
theorem pH (v:Option Int)(n d:Nat):(match v with | none=>(d:Int) | some i=>max 0 (min (if i<0 then i+(n:Int) else i) (n:Int)))=((HT.sIx n d v:Nat):Int):=by
 cases v with
 | none=>rfl
 | some i =>
  show max 0 (min (if i<0 then i+(n:Int) else i) (n:Int))=(((if i<0 then (i+(n:Int)).toNat else min i.toNat n):Nat):Int);by_cases hi:i<0
  ·simp only [AD hi];omega
  ·simp only [AC hi];omega
theorem Ct (lo hi:Option Int)(n:Nat):Builtin.Str.strSliceIndices lo hi 1 n=Builtin.Str.strSliceIndices (some ((HT.sIx n 0 lo:Nat):Int)) (some ((HT.sIx n n hi:Nat):Int)) 1 n:=by
 have h1:=HT.vQ n 0 (cc _) lo;have h2:=HT.vQ n n (af _) hi;have c1:=pH lo n 0;have c2:=pH hi n n;have Z:=pH (some ((HT.sIx n 0 lo:Nat):Int)) n 0;have d2:=pH (some ((HT.sIx n n hi:Nat):Int)) n n;rw[HT.fR,er h1] at Z;rw[HT.fR,er h2] at d2;unfold Builtin.Str.strSliceIndices;simp only [show ((1:Int)>0) from by decide,if_true];have g:∀ a b c d:Int,a=c->b=d->sliceRange a b 1=sliceRange c d 1:=λa b c d h1 h2=>by rw[h1,h2]
 exact g _ _ _ _ (c1.trans Z.symm) (c2.trans d2.symm)
theorem Nm (l:List Nat)(lo hi:Option Int):Txt.slice (tx l) lo hi=tx (gX l lo hi):=by
 have h1:=HT.vQ l.length 0 (cc _) lo;have h2:=HT.vQ l.length l.length (af _) hi;unfold Txt.slice;rw[gT,Ct];by_cases hab:HT.sIx l.length 0 lo<=HT.sIx l.length l.length hi
 ·have e:=StrLaws.sliceText_nat (tx l) hab (by rw[gT];exact h2)
  unfold StrLaws.sliceText at e;rw[gT,dZ] at e;exact e
 ·have e0:Builtin.Str.strSliceIndices (some ((HT.sIx l.length 0 lo:Nat):Int)) (some ((HT.sIx l.length l.length hi:Nat):Int)) 1 l.length=[]:=by
   unfold Builtin.Str.strSliceIndices sliceRange;have n1:¬ (((HT.sIx l.length 0 lo:Nat):Int)<0):=by omega
   have n2:¬ (((HT.sIx l.length l.length hi:Nat):Int)<0):=by omega
   simp only [show ((1:Int)>0) from by decide,if_true,AC n1,AC n2];have n3:¬ (max (0:Int) (min ((HT.sIx l.length 0 lo:Nat):Int) (l.length:Int))<max (0:Int) (min ((HT.sIx l.length l.length hi:Nat):Int) (l.length:Int))):=by omega
   simp[n3]
  have Z:gX l lo hi=[]:=by
   unfold gX;rw[show HT.sIx l.length l.length hi-HT.sIx l.length 0 lo=0 by omega,jc]
  rw[e0,Z]
  cases l with
  | nil=>rfl
  | cons c r=>rfl
theorem zS:SlR X (λx lo hi H Q=>∃ a,x=T a∧a.length<=sizeLine∧Q (T (gX a lo hi)) H):=by
 intro pins s σ H x v vl vu lo hi sl Q I rx hs pl pu h;obtain⟨a,rfl,hz,q⟩:=h;obtain⟨t,rfl⟩:=rx;obtain⟨l,mp,gV⟩:∃ l:Option (Int×Tok),partValue l=vl∧l.map (·.1)=lo:=by
  cases pl with
  | none=>exact⟨none,rfl,rfl⟩
  | int i t=>exact⟨some (i,t),rfl,rfl⟩
 obtain⟨u,Z,wp⟩:∃ u:Option (Int×Tok),partValue u=vu∧u.map (·.1)=hi:=by
  cases pu with
  | none=>exact⟨none,rfl,rfl⟩
  | int i t=>exact⟨some (i,t),rfl,rfl⟩
 refine⟨"str",_,F.slot_str_getitem.lookup,typeIs_str _ _ _,?_⟩
 have or:s.heap.IsSlice sl l u none:=by
  obtain⟨o,ho,hc,hd⟩:=hs;exact⟨o,ho,hc,by rw[mp,Z];exact hd⟩
 refine wpAny_getItem_str_slice or rfl ?_;have ww:(if ((1:Int)==1&&(Builtin.Str.strSliceIndices lo hi 1 (tx a).length).length==(tx a).length)=true then (tx a) else ⟨((Builtin.Str.strSliceIndices lo hi 1 (tx a).length).filterMap ((tx a).cps[·]?)).toArray⟩)=tx (gX a lo hi):=Nm a lo hi;unfold sliceMade slicePicked;rw[gV,wp];refine post_val_or_str ⟨?_,λt' k=>?_⟩
 ·show (Txt.slice (tx a) lo hi).length<=sizeLine
  exact a5 (Txt.slice_le _ _ _) (by rw[gT];exact hz)
 ·refine⟨T (gX a lo hi),H,I.tok _,⟨t',?_⟩,q⟩
  exact congrArg (λz=>Value.str z t') ww
theorem Fo (n:Nat)(l:List Nat):(Wd.rep n l).length=n*l.length:=Wd.nP n l
theorem Lb (n:Nat)(c:Array Nat):∀ Z:Array Nat,(cp n c).foldl (· ++ ·) Z=Z++(Wd.rep n c.toList).toArray:=by
 induction n with
 | zero=>intro Z;simp[Wd.rep]
 | succ n ih =>
  intro Z;rw[fe,qt,ih];rw[Wd.oY,n6]
  congr 1
  apply Array.ext';simp
theorem Yq (n:Nat)(l:List Nat):Txt.mul (tx l) (n:Int)=tx (Wd.rep n l):=by
 unfold Txt.mul;by_cases h1:(n:Int)<1
 ·have e:n=0:=by omega
  subst e;rw[AD h1];rfl
 ·rw[AC h1]
  by_cases h2:((n:Int)==1||(tx l).length==0)=true
  ·rw[AD h2]
   rw[kf,AK,AK,gT] at h2;rcases h2 with h2 | h2
   ·have e:n=1:=by omega
    subst e;rw[Wd.Ve]
   ·have e:l=[]:=a8.mp h2
    subst e
    have:Wd.rep n []=[]:=a8.mp (by rw[Fo];simp)
    rw[this]
  ·rw[AC h2,bj,Lb]
   simp[tx]
theorem Pn:OpR X (binaryOp .Mult) (λx y H Q=>∃ a,x=T a∧∃ n:Nat,y = .int n∧(n<=sizeLine∧n*a.length<=sizeLine)∧Q (T (Wd.rep n a)) H):=by
 intro pins s σ H x y v u Q I rx ry h;obtain⟨a,rfl,n,rfl,⟨h1,h2⟩,q⟩:=h;obtain⟨t,rfl⟩:=rx;obtain⟨t',rfl⟩:=ry;have hs:=AG;refine SB.mul ⟨?_,?_,?_⟩ λt' k=>⟨T (Wd.rep n a),H,I.tok _,⟨t',by rw[Yq]⟩,q⟩
 ·have e1:decide ((n:Int) < -(2 ^ 63:Int))=false:=AH (by omega)
  have e2:decide ((n:Int)≥2 ^ 63)=false:=AH (by omega);rw[e1,e2];rfl
 ·intro hn _
  rw[gT];have h3:n*a.length<=16777216:=by omega
  intro hc;have h4:((n*a.length:Nat):Int)<=16777216:=by omega
  have Z:(0:Int)<n:=by omega
  have h5:((2 ^ 63-1)/(n:Int))*n<=2 ^ 63-1:=Int.ediv_mul_le _ (by omega);have h6:(2 ^ 63-1:Int)<((2 ^ 63-1)/(n:Int)+1)*n:=Int.lt_ediv_add_one_mul_self _ Z;have h7:((2 ^ 63-1)/(n:Int)+1)*n<=(a.length:Int)*n:=mn (by omega) (by omega);have h8:((n*a.length:Nat):Int)=(a.length:Int)*n:=by rw[fo,g8]
  omega
 ·intro hn _
  rw[gT,bj,c7];unfold Builtin.Str.tooLong;exact AH (by omega)
theorem qZ:∀ {ls:List (List Nat)} {us:List Value},aZ (ls.map T) us->StrsAre us (ls.map tx)
 | [],us,r=>by
  cases r;exact .nil
 | l::ls,us,r=>by
  rw[ap] at r
  cases r with
  | cons r1 r2 =>
   obtain⟨t,rfl⟩:=r1;exact .cons _ _ (qZ r2)
end
end L2
namespace L2
theorem xP {w:List Nat}{k:Nat}(h:k<=w.length):gX w (some (k:Int)) none=w.drop k:=by
 unfold gX;rw[HT.fR,HT.iI,er h];exact b9 (by rw[bu];omega)
theorem Tv {w:List Nat}{k:Nat}(h:k<=w.length):gX w none (some (k:Int))=w.take k:=by
 unfold gX;rw[HT.fR,HT.iI,er h,kz,qj]
theorem Eh {w:List Nat}{a b:Nat}(hb:b<=w.length)(Z:a<=b):gX w (some (a:Int)) (some (b:Int))=(w.drop a).take (b-a):=by
 unfold gX;rw[HT.fR,HT.fR,er hb,er (show a<=w.length by omega)]
open PyProof.Rows PySem PySem.Spec
structure cG (N N':List Str)(sc scope:Scope)(x:Str):Prop where
 kind:scope.kind = .function
 cell:∀ y∈scope.names,y.2≠.cell
 names:∀ y∈scope.names,y.2 = .local->scope.names.lookup y.1=some .local
 var:scope.names.lookup x=some .local
 ok:∀ y∈scope.names,y.2 = .free->sc.names.lookup y.1=some .cell∨sc.names.lookup y.1=some .free
 hd:N'[0]?=some x
 len:N'.length=N.length+1
 sub:∀ i,i<N.length->N'[i+1]?=N[i]?∨(N'[i+1]?.map λy=>scope.names.lookup y)=some none
 noe:scope.names.lookup ("" : Str)=none
 nol:∀ y∈N'.tail,scope.names.lookup y≠some .local
 nd:N'.Nodup
def dQ (Z:List (Str×Addr)):List (Str×NameKind)->List (Str×Addr)->List (Str×Addr)
 | [],acc=>acc
 | (n,k)::r,acc=>dQ Z r (if k == .free then (n,(Z.lookup n).getD 0)::acc else acc)
theorem nF {Z:List (Str×Addr)}{y:Str}{c:Addr}:∀ (names:List (Str×NameKind)) (gV:List (Str×Addr)),(∀ z∈names,z.2 = .free->∃ c,Z.lookup z.1=some c) ->
  (gV.lookup y=some c->Z.lookup y=some c)->(dQ Z names gV).lookup y=some c->Z.lookup y=some c
 | [],gV,_,ha,h=>ha h
 | (n,k)::r,gV,hz,ha,h=>by
  unfold dQ at h;refine nF r _ (λz hm=>hz z (al _ hm)) (λq=>?_) h;split at q
  ·rename_i hk
   obtain⟨c',e⟩:=hz (n,k) aq (by simpa using hk);rw[jx] at q;split at q
   ·rename_i he
    have:y=n:=by simpa using he
    subst this;rw[e] at q;rw[e];exact q
   ·exact ha q
  ·exact ha q
theorem Cz {gV:List (Str×Addr)}{y:Str}:∀ (names:List (Str×NameKind)) (Z:List (Str×Addr)),(∃ c,Z.lookup y=some c)->∃ c,(dQ gV names Z).lookup y=some c
 | [],Z,h=>h
 | (n,k)::r,Z,⟨c,h⟩=>by
  unfold dQ;refine Cz r _ ?_;split
  ·rw[jx]
   split
   ·exact⟨_,rfl⟩
   ·exact⟨c,h⟩
  ·exact⟨c,h⟩
theorem uW {Z:List (Str×Addr)}{y:Str}:∀ (names:List (Str×NameKind)) (gV:List (Str×Addr)),(y,NameKind.free)∈names->∃ c,(dQ Z names gV).lookup y=some c
 | (n,k)::r,gV,h=>by
  unfold dQ;rcases au.mp h with e | h
  ·cases e
   refine Cz r _ ⟨(Z.lookup y).getD 0,?_⟩;simp
  ·exact uW r _ h
theorem iS {scope:Scope}{env:Env}(h:∀ z∈scope.names,z.2 = .free->∃ c,env.cells.lookup z.1=some c):closureFor scope env=pure (dQ env.cells scope.names []):=by
 have gen:∀ (names:List (Str×NameKind)) (Z:List (Str×Addr)),(∀ z∈names,z.2 = .free->∃ c,env.cells.lookup z.1=some c) ->
   (forIn names Z λ(x:Str×NameKind) (r:List (Str×Addr))=>(if (x.2==NameKind.free)=true then (do let a <- cellOf env x.1;pure (ForInStep.yield ((x.1,a)::r))) else pure (ForInStep.yield r):Sem (ForInStep (List (Str×Addr)))))=(pure (dQ env.cells names Z):Sem (List (Str×Addr))):=by
  intro names
  induction names with
  | nil=>intro Z _;rfl
  | cons z r ih =>
   intro Z hz;obtain⟨n,k⟩:=z;rw[List.forIn_cons];unfold dQ;by_cases hk:(k==NameKind.free)=true
   ·obtain⟨c,e⟩:=hz (n,k) aq (by simpa using hk)
    have e':env.cells.lookup n=some c:=e;simp only [hk,if_true,cellOf,e',pure_bind,Option.getD_some];exact ih _ λz hm=>hz z (al _ hm)
   ·simp only [hk,dm,if_false,pure_bind]
    exact ih _ λz hm=>hz z (al _ hm)
 have g:=gen scope.names [] h;unfold closureFor;refine Eq.trans ?_ (congrArg (λ(m:Sem (List (Str×Addr)))=>m >>= λcs=>pure cs) g);rfl
theorem cL (scope:Scope)(env:Env)(y:Str):(relabel scope env).names.lookup y=(scope.names.lookup y).map λk=>if (k==NameKind.free&&env.scope.kind == .function&&env.kindOf y==some .cell)=true then NameKind.cell else k:=by
 unfold relabel;show gu y (scope.names.map λ(n,k)=>if (k==NameKind.free&&env.scope.kind == .function&&env.kindOf n==some .cell)=true then (n,NameKind.cell) else (n,k))=_
 induction scope.names with
 | nil=>rfl
 | cons z r ih =>
  obtain⟨n,k⟩:=z;rw[ap];by_cases hy:(y==n)=true
  ·have e:y=n:=by simpa using hy
   subst e;by_cases hc:(k==NameKind.free&&env.scope.kind == .function&&env.kindOf y==some .cell)=true
   ·simp only [hc,if_true,jx,beq_self_eq_true,iq]
   ·simp only [hc,if_false,jx,beq_self_eq_true,iq,dm]
  ·have Z:(y==n)=false:=by simpa using hy
   by_cases hc:(k==NameKind.free&&env.scope.kind == .function&&env.kindOf n==some .cell)=true
   ·simp only [hc,if_true,jx,Z]
    exact ih
   ·simp only [hc,if_false,jx,Z,dm]
    exact ih
theorem eK {κ:Type}:∀ {l:List (Str×κ)} {y:Str} {k:κ},l.lookup y=some k->(y,k)∈l:=λh=>iu h
abbrev bX (X:Cx)(N':List Str)(scope:Scope)(cl:List (Str×Addr))(C:Addr)(s:kw)(H:Hp)(fp:List Addr):Cx :=
 { X with env:=compEnvC scope cl C X.env,N:=N',s₀:=s,H₀:=H,outer:=X.stack,stack:=X.stack,ex:=fp,fn:=λ_=>false,xe:=λ_ _=>False }
abbrev Zl (cds:List Expr)(env:Env):Sem Bool:=forIn cds true λc r=>if r=true then do let ok <- isTrue c env (eval c env);pure (ForInStep.yield ok) else pure (ForInStep.yield r)
def PTL (X:Cx)(cds:List Expr)(t:TT):Prop :=
 ∀ (pins:List (Addr×Obj)) (s:kw) (σ:St) (H:Hp) (Q:Bool->Hp->Prop),Inv X pins σ H s->t σ H Q->wpAny (model X.prog X.w) X.A (Zl cds X.env) (TP X pins σ Q) X.xe s
theorem Id {X:Cx}:PTL X [] (λ_ H k=>k true H):=λpins s σ H Q I q=>wpAny_tests_nil ⟨H,I,q⟩
theorem Iv {X:Cx}{cd:Expr}{tc:TT}(h:PT X cd tc):PTL X [cd] tc:=λpins s σ H Q I q=>wpAny_tests_one (h pins s σ H Q I q)
theorem mD {prog:xv}{w:World}{A:Around}{R:Result->kw->Prop}{s:kw}{elt Z iter:Expr}{cds:List Expr}{scope:Scope}{pos:Pos}{it gV:Value}{env:Env}(I:Nat->kw->Prop)
  (mp:∀ n s,I n s->wpAny (model prog w) A (pyNext it) (λr s₁=>match r with
   | none=>R (.ok .next) s₁
   | some v=>wpAny (model prog w) A (letOwnedTupleGo Z it v) (λ_ s₁'=>wpAny (model prog w) A (assign Z env v) (λ_ s₂=>wpAny (model prog w) A (Zl cds env) (λok s₂' =>
    if ok=true then wpAny (model prog w) A (eval elt env) (λx s₃ =>
     wpAny (model prog w) A (call (.builtin "list.append") [gV,x]) (λ_ s₄=>∃ m,m<n∧I m s₄) (λ_ _=>False) s₃) (λ_ _=>False) s₂'
    else ∃ m,m<n∧I m s₂') (λ_ _=>False) s₂) (λ_ _=>False) s₁') (λ_ _=>False) s₁) (λ_ _=>False) s)
  (n:Nat) (h:I n s) :
  codeAny (model prog w) A (.compLoop (.ListComp elt [⟨Z,iter,cds,0⟩] scope pos) 0 it gV env) R s:=by
 refine codeAny_loop rfl I (λn s hI=>?_) n h;show wpAny _ A ((compTurn (.ListComp elt [⟨Z,iter,cds,0⟩] scope pos) 0 it gV env).onRaise (λx=>do noteFrame x env;theTreesLotGoes x)) _ _ s;refine wpAny_noted ?_;rw[compTurn_list];refine AA (wpAny_standAt (AA (AJ (mp n s hI) (λr s₁ h₁=>?_) λ_ _ h'=>h'.elim)))
 cases r with
 | none=>exact AB h₁
 | some v =>
  refine AA (AJ h₁ (λ_ s₀ h₀=>?_) λ_ _ h'=>h'.elim);refine AA (AJ h₀ (λ_ s₂ h₂=>?_) λ_ _ h'=>h'.elim);refine AA ((AJ h₂ (λok s₃ h₃=>?_) λ_ _ h'=>h'.elim))
  cases ok with
  | false=>exact AB ⟨rfl,by simpa using h₃⟩
  | true =>
   have h₃':=h₃;simp only [if_true] at h₃';exact AA (AA (AJ h₃' (λx s₄ h₄=>AA (AJ h₄ (λ_ s₅ h₅=>AB (AB ⟨rfl,h₅⟩)) λ_ _ h'=>h'.elim)) λ_ _ h'=>h'.elim))
theorem lF {prog:xv}{w:World}{A:Around}{R:Result->kw->Prop}{s:kw}{elt Z iter:Expr}{scope:Scope}{pos:Pos}{it gV:Value}{env:Env}(I:Nat->kw->Prop)
  (mp:∀ n s,I n s->wpAny (model prog w) A (pyNext it) (λr s₁=>match r with
   | none=>R (.ok .next) s₁
   | some v=>wpAny (model prog w) A (letOwnedTupleGo Z it v) (λ_ s₁'=>wpAny (model prog w) A (assign Z env v) (λ_ s₂=>wpAny (model prog w) A (eval elt env) (λx s₃ =>
    wpAny (model prog w) A (call (.builtin "list.append") [gV,x]) (λ_ s₄=>∃ m,m<n∧I m s₄) (λ_ _=>False) s₃)
    (λ_ _=>False) s₂) (λ_ _=>False) s₁') (λ_ _=>False) s₁) (λ_ _=>False) s)
  (n:Nat) (h:I n s) :
  codeAny (model prog w) A (.compLoop (.ListComp elt [⟨Z,iter,[],0⟩] scope pos) 0 it gV env) R s:=by
 refine codeAny_loop rfl I (λn s hI=>?_) n h;show wpAny _ _ ((compTurn (.ListComp elt [⟨Z,iter,[],0⟩] scope pos) 0 it gV env).onRaise (λx=>do noteFrame x env;theTreesLotGoes x)) _ _ s;refine wpAny_noted ?_;rw[compTurn_list1];refine AA (wpAny_standAt (AA (AJ (mp n s hI) (λr s₁ h₁=>?_) λ_ _ h'=>h'.elim)))
 cases r with
 | none=>exact AB h₁
 | some v =>
  refine AA (AJ h₁ (λ_ s₁' h₁'=>?_) λ_ _ h'=>h'.elim);exact AA (AJ h₁' (λ_ s₂ h₂=>AA (AA (AJ h₂ (λx s₃ h₃=>AA (AJ h₃
   (λ_ s₄ h₄=>AB (AB ⟨rfl,h₄⟩)) λ_ _ h'=>h'.elim)) λ_ _ h'=>h'.elim))) λ_ _ h'=>h'.elim)
def jB (te:TE)(σ:St)(Q:VK)(J:It)(H1:Hp):Prop:=∀ D,H1 D=none->∃ W:Nat->Nat->List V->Hp->Prop,(∃ m,W 0 m [] (upd H1 D (.lst [])))∧∀ i m ys H2,W i m ys H2 ->
 (J.stop i H2∧Q (.ref D) H2)∨(J.go i H2∧ys.length<sizeLine∧∃ N:V->Hp->Prop,(∀ v H',N v H'->H' D=some (.lst ys)∧∃ Z,Z<m∧W (i+1) Z (ys++[v]) (upd H' D (.lst (ys++[v])))) ∧
  ∀ y H',J.yld i H2 y H'->te (some y::σ) H' N)
def Vy (wi:TI)(te:TE):TE:=λσ H Q=>wi σ H (jB te σ Q)
def iU (tc:TT)(te:TE)(σ:St)(Q:VK)(J:It)(H1:Hp):Prop:=∀ D,H1 D=none->∃ W:Nat->Nat->List V->Hp->Prop,(∃ m,W 0 m [] (upd H1 D (.lst [])))∧∀ i m ys H2,W i m ys H2 ->
 (J.stop i H2∧Q (.ref D) H2)∨(J.go i H2∧ys.length<sizeLine∧∃ N:V->Hp->Prop,(∀ v H',N v H'->H' D=some (.lst ys)∧∃ m',m'<m∧W (i+1) m' (ys++[v]) (upd H' D (.lst (ys++[v])))) ∧
  ∃ Nn:Hp->Prop,(∀ H',Nn H'->∃ m',m'<m∧W (i+1) m' ys H') ∧
  ∀ y H',J.yld i H2 y H'->tc (some y::σ) H' λb Z=>if b=true then te (some y::σ) Z N else Nn Z)
def Oj (wi:TI)(tc:TT)(te:TE):TE:=λσ H Q=>wi σ H (iU tc te σ Q)
section
variable {X:Cx}{N':List Str}{scope:Scope}{x:Str}{px:Pos}{elt iter:Expr}{cds:List Expr}{pos:Pos}{te:TE}{tc:TT}{wi:TI}
theorem uC (S:cG X.N N' X.env.scope scope x)(hc:X.calm=true)(ht:∀ cl C s H fp,PTL (bX X N' scope cl C s H fp) cds tc)(he:∀ cl C s H fp,PE (bX X N' scope cl C s H fp) elt te)
  {pins:List (Addr×Obj)} {σ:St} {H:Hp} {s:kw} {Q:VK} {E:Value->kw->Prop} {RR:Value->Addr->Result->kw->Prop} {it:Addr} {fp:List Addr} {tn:Nat->Heap->Prop} {J:It}
  (I:Inv X pins σ H s) (T:wQ X.prog X.w X.K (.Name x px) J fp it tn) (st:tn 0 s.heap) (f2:∀ b∈fp,mT X pins H b)
  (hw:iU tc te σ Q J H)
  (yb:∀ D C s' H',Inv X pins σ H' s'->(∃ m,s'.heap.Ns C m)->C≠X.env.locals->(∀ y c,X.env.cells.lookup y=some c->c≠C)->H' C=none->X.s₀.heap.objs.size<=C->(∀ p∈X.pn++pins,p.1≠C)->Q (.ref D) H'->RR (.ref D) C (.ok .next) s') :
  ∃ cl,closureFor scope X.env=pure cl∧wpAny (model X.prog X.w) X.A (newList []) (λxl s₃=>wpAny (model X.prog X.w) X.A (newFunctionEnv scope X.env.globals cl [] X.env.qual none .none (some X.env)) (λw6 s₄ =>
   codeAny (model X.prog X.w) X.A (.compStart (.ListComp elt [⟨.Name x px,iter,cds,0⟩] scope pos) 0 (.ref it) xl { w6 with scope:=relabel scope X.env }) (RR xl w6.locals) s₄) E s₃) E s:=by
 have wx:∀ z∈scope.names,z.2 = .free->∃ c,X.env.cells.lookup z.1=some c:=λz hz hk=>by
  rcases S.ok z hz hk with q | q
  ·exact I.ok.has z.1 (.inl q)
  ·exact I.ok.has z.1 (.inr q)
 refine⟨_,iS wx,?_⟩;have or:∀ y c,(dQ X.env.cells scope.names []).lookup y=some c->X.env.cells.lookup y=some c:=λy c=>nF scope.names [] wx λq=>by cases q
 generalize yf:dQ X.env.cells scope.names []=cl at or;have xq:∀ y,scope.names.lookup y=some .free->∃ c,cl.lookup y=some c:=λy hy=>by
  rw[<- yf];exact uW scope.names [] (eK hy)
 refine AN (wpAny_newFunctionEnv S.cell (by intro y hy;simp at hy) (λh₁ xb₁ xa₁=>?_) S.kind);have I3:Inv X pins σ (upd H s.heap.objs.size (.lst [])) { s with heap:=s.heap.push { cls:=.type "list",data:=.seq ([]:List Value).toArray } }:=I.lnew (t':=s.toks) .nil (cc _)
 obtain⟨W,⟨m0,w0⟩,xr⟩:=hw s.heap.objs.size I.fresh
 dsimp only at xb₁ xa₁ ⊢
 generalize xh:({ s with heap:=s.heap.push { cls:=.type "list",data:=.seq ([]:List Value).toArray } }:kw)=Z at I3
 have xf:Z.heap=s.heap.push { cls:=.type "list",data:=.seq ([]:List Value).toArray }:=by rw[<- xh]
 have xw:Z.heap.objs.size=s.heap.objs.size+1:=by rw[xf,Heap.size_push]
 rw[<- xf] at xb₁ xa₁ ⊢;have ww:∀ b o,Z.heap.get? b=some o->h₁.get? b=some o:=λb o e=>xa₁.extBut b o (by have:=AV e;exact az this) (AT _ e)
 have xu:∀ b o,s.heap.get? b=some o->h₁.get? b=some o:=λb o e=>ww b o (by rw[xf];exact AT _ e)
 have xx:Z.heap.objs.size≠X.env.locals:=gn I3.lt;have xj:∀ y c,X.env.cells.lookup y=some c->c≠Z.heap.objs.size:=λy c e z=>by
  obtain⟨v,q⟩:=I3.cell y c e
  have:=q.lt
  rw[z] at this;exact absurd this (e9 _)
 have w4:∀ p∈X.pn++pins,p.1≠Z.heap.objs.size:=λp hp z=>by
  have:=AV (I3.pin p hp).1
  rw[z] at this;exact absurd this (e9 _)
 have x6:∀ b o,Z.heap.get? b=some o->b<Z.heap.objs.size:=λb o e=>by have:=AV e;exact this
 have w8:∀ b∈fp,b<Z.heap.objs.size:=λb hb=>by
  obtain⟨o,e,_⟩:=T.obj 0 s.heap st b hb;rw[xw];exact fj (AV e)
 have x9:∀ b∈fp,b≠s.heap.objs.size:=λb hb=>by
  obtain⟨o,e,_⟩:=T.obj 0 s.heap st b hb;exact az (AV e)
 have ya:(bX X N' scope cl Z.heap.objs.size Z (upd H s.heap.objs.size (.lst [])) fp).Ok:=by
  refine⟨I3.ok.mod,?_,I3.ok.glob,I3.ok.blt,af _,λy z c h1 h2=>I3.ok.inj y z c (or y c h1) (or z c h2),λy hy=>?_,λy c hf=>(by cases hf),I3.ok.hd,I3.ok.frames,.inl rfl,λb hb=>⟨az (w8 b hb),λy c e=>(f2 b hb).2.2.2.2.1 y c (or y c e)⟩,
   λb o e=>I3.bs b o e,a5 I3.ok.bsz I3.sz,λb o e hb=>?_,λb hb z=>?_,I3.stack,I3.stkFree⟩
  ·show (relabel scope X.env).kind = .function
   exact S.kind
  ·have mp:(relabel scope X.env).names.lookup y=some .cell∨(relabel scope X.env).names.lookup y=some .free:=hy
   rw[cL] at mp
   cases q:scope.names.lookup y with
   | none=>rw[q] at mp;rcases mp with z | z <;> cases z
   | some k =>
    have hm:=eK q
    cases k with
    | free=>exact xq y q
    | cell=>exact absurd rfl (S.cell _ hm)
    | «local» => rw[q] at mp;rcases mp with z | z <;> simp at z
    | globalExplicit=>rw[q] at mp;rcases mp with z | z <;> simp at z
    | globalImplicit=>rw[q] at mp;rcases mp with z | z <;> simp at z
  ·rcases (f2 b hb).2.2.2.1 with z | z
   ·exact I.ok.noex b o e z
   ·exact absurd (bi (AV e) (a5 I.ok.bsz z)) (e9 _)
  ·rcases au.mp (I3.stkSub b z) with q | q
   ·exact (f2 b hb).2.1 q
   ·exact (f2 b hb).2.2.1 q
 have wp:∀ {H':Hp},(∀ b∈fp,H' b=none)->∀ b∈fp,mT (bX X N' scope cl Z.heap.objs.size Z (upd H s.heap.objs.size (.lst [])) fp) pins H' b:=λhn b hb =>
  ⟨hn b hb,az (w8 b hb),λz=>by
   rcases au.mp (I3.stkSub b z) with q | q
   ·exact (f2 b hb).2.1 q
   ·exact (f2 b hb).2.2.1 q,.inl hb,λy c e=>(f2 b hb).2.2.2.2.1 y c (or y c e),(f2 b hb).2.2.2.2.2⟩
 have I4:Inv (bX X N' scope cl Z.heap.objs.size Z (upd H s.heap.objs.size (.lst [])) fp) pins (none::σ) (upd H s.heap.objs.size (.lst [])) { Z with heap:=h₁,toks:=Z.toks+([]:List (Str×Value)).length }:=by
  refine⟨ya,rfl,I3.bare,Un.kept ww,⟨_,xb₁,λi y v e1 e2 yg=>?_⟩,λy c e=>?_,?_,λy c e=>I3.freeC y c (or y c e),λp hp=>?_,I3.hok.kept ww,?_⟩
  ·cases i with
   | zero=>cases e2
   | succ i =>
    have xm:σ[i]?=some (some v):=by simpa using e2
    have hi:i<X.N.length:=by rw[<- I3.len];exact (ao.mp xm).1
    have gV:(relabel scope X.env).names.lookup y=some .local∨(relabel scope X.env).names.lookup y=some .cell∨(relabel scope X.env).names.lookup y=some .free:=yg;have xc:N'[i+1]?=some y:=e1;rcases S.sub i hi with q | q
    ·rw[xc] at q
     have hy:X.N[i]?=some y:=q.symm;have xz:y∈N'.tail:=by
      rw[mh];exact⟨i,by rw[ol];exact xc⟩
     have xg:scope.names.lookup y=some .free:=by
      rw[cL] at gV
      cases q2:scope.names.lookup y with
      | none=>rw[q2] at gV;rcases gV with z | z | z <;> cases z
      | some k =>
       cases k with
       | free=>rfl
       | cell=>exact absurd rfl (S.cell _ (eK q2))
       | «local» => exact absurd q2 (S.nol y xz)
       | globalExplicit=>rw[q2] at gV;rcases gV with z | z | z <;> simp at z
       | globalImplicit=>rw[q2] at gV;rcases gV with z | z | z <;> simp at z
     have hok:=S.ok (y,.free) (eK xg) rfl;obtain⟨m,hn,hl⟩:=I3.loc;have xp:Vis X.env.scope y:=by
      rcases hok with z | z
      ·exact .inr (.inl z)
      ·exact .inr (.inr z)
     obtain⟨u,r,l⟩:=hl i y v hy xm xp;refine⟨u,r,.inr ⟨?_,?_⟩⟩
     ·show (relabel scope X.env).names.lookup y=some .cell∨(relabel scope X.env).names.lookup y=some .free
      rw[cL,xg,iq];by_cases hcnd:(NameKind.free==NameKind.free&&X.env.scope.kind == .function&&X.env.kindOf y==some .cell)=true
      ·left
       rw[AD hcnd]
      ·right
       rw[AC hcnd]
     ·rcases l with ⟨k,_⟩ | ⟨k,c,e,z⟩
      ·have k':X.env.scope.names.lookup y=some .local:=k
       have wz:X.env.scope.names.lookup y=some .cell∨X.env.scope.names.lookup y=some .free:=hok;rw[k'] at wz;rcases wz with z | z <;> cases z
      ·obtain⟨c',e'⟩:=xq y xg
       have e3:=or y c' e';rw[e] at e3;cases e3;obtain⟨o,ho,hd⟩:=z;exact⟨c,e',o,ww c o ho,hd⟩
    ·rw[xc] at q
     have q:scope.names.lookup y=none:=av q;rw[cL,q] at gV;rcases gV with z | z | z <;> cases z
  ·obtain⟨v,o,ho,hd⟩:=I3.cell y c (or y c e)
   exact⟨v,o,ww c o ho,hd⟩
  ·show upd H s.heap.objs.size (.lst []) Z.heap.objs.size=none
   exact I3.hok.fresh (af _)
  ·obtain⟨e,n,ne,nf,d⟩:=I3.pin p hp
   refine⟨ww _ _ e,n,w4 p hp,λz=>?_,d⟩;rcases au.mp (I3.stkSub p.1 z) with q | q
   ·exact ne q
   ·exact nf q
  ·show (none::σ).length=N'.length
   rw[S.len,ar,I3.len]
 have xt:tn 0 h₁:=T.keep 0 s.heap h₁ st λb _ o e=>xu b o e
 have loop:∀ s₄:kw,s₄ = { Z with heap:=h₁,toks:=Z.toks+([]:List (Str×Value)).length } ->
   codeAny (model X.prog X.w) X.A (.compLoop (.ListComp elt [⟨.Name x px,iter,cds,0⟩] scope pos) 0 (.ref it) (.ref s.heap.objs.size) (compEnvC scope cl Z.heap.objs.size X.env)) (RR (.ref s.heap.objs.size) Z.heap.objs.size) s₄:=by
  rintro s₄ rfl;refine mD (λn s'=>∃ i v0 ys H',Inv (bX X N' scope cl Z.heap.objs.size Z (upd H s.heap.objs.size (.lst [])) fp) pins (v0::σ) H' s'∧tn i s'.heap∧(∀ b∈fp,H' b=none)∧W i n ys H') ?_ m0
   ⟨0,none,[],_,I4,xt,λb hb=>by rw[aG (x9 b hb)];exact (f2 b hb).1,w0⟩
  rintro n s5 ⟨i,v0,ys,H5,I5,xo,xi,w5⟩;rcases xr i n ys H5 w5 with ⟨stop,qn⟩ | ⟨go,hz,N,hN,Nn,yc,step⟩
  ·refine thn (T.done (bX X N' scope cl Z.heap.objs.size Z (upd H s.heap.objs.size (.lst [])) fp) rfl rfl rfl hc i pins s5 (v0::σ) H5 (λ_ _=>False) I5 (wp xi) xo stop) λr s6 ⟨hr,I6⟩=>?_
   subst hr;have yj:∀ b∈fp,(b∈X.ex∨X.s₀.heap.objs.size<=b)∧b≠X.env.locals∧(∀ x c,X.env.cells.lookup x=some c->c≠b)∧∀ p∈X.pn++pins,p.1≠b:=λb hb =>
    ⟨(f2 b hb).2.2.2.1,(f2 b hb).2.1,(f2 b hb).2.2.2.2.1,(f2 b hb).2.2.2.2.2⟩
   have I7:Inv X pins σ H5 s6:=I3.call' (ch:=fp) I6.os I6.base I6.hok I6.bare yj;obtain⟨m,hm,_⟩:=I6.loc;exact yb s.heap.objs.size Z.heap.objs.size s6 H5 I7 ⟨m,hm⟩ xx xj I6.free (a5 I3.sz (af _)) w4 qn
  ·refine thn (T.item (bX X N' scope cl Z.heap.objs.size Z (upd H s.heap.objs.size (.lst [])) fp) rfl rfl rfl hc i pins s5 (v0::σ) H5 (λ_ _=>False) I5 (wp xi) xo go) λr s6 ⟨u,hr,h6⟩=>?_
   subst hr;refine thn h6 λ_ s7 ⟨y,H7,I7,r7,y7,st7,fr7⟩=>?_
   have yi:=I7.pinned (wp fr7) (T.obj _ _ st7);refine wpAny_assign_Name (lC (i:=0) (v:=y) yi S.nd S.hd (.inl (lookup_relabel_local S.var)) r7 (λs8 I8=>?_) (.inr (lookup_relabel_local S.var)));have x8:Inv (bX X N' scope cl Z.heap.objs.size Z (upd H s.heap.objs.size (.lst [])) fp) (pins++mR fp s7.heap) (some y::σ) H7 s8:=I8;refine thn (ht cl Z.heap.objs.size Z (upd H s.heap.objs.size (.lst [])) fp _ s8 (some y::σ) H7 (λb xy=>if b=true then te (some y::σ) xy N else Nn xy) x8 (step y H7 y7)) λyh s8 ⟨H8,I8,q8⟩=>?_
   cases yh with
   | false =>
    have ye:Nn H8:=by simpa using q8
    obtain⟨m',hm,w9⟩:=yc H8 ye;refine⟨m',hm,i+1,some y,ys,_,I8.unpinned,T.keep _ _ _ st7 λb hb o e=>(I8.pin (b,o) (bf _ (bf _ (eI hb e)))).1,λb hb=>?_,w9⟩;obtain⟨o,e,d⟩:=T.obj _ _ st7 b hb;exact (I8.pin (b,o) (bf _ (bf _ (eI hb e)))).2.1
   | true =>
    refine thn (he cl Z.heap.objs.size Z (upd H s.heap.objs.size (.lst [])) fp _ s8 (some y::σ) H8 N I8 (by simpa using q8)) λw s9 ⟨v,H9,I9,r9,q9⟩=>?_
    obtain⟨yd,m',hm,w9⟩:=hN v H9 q9;refine thn (gE _ s9 (some y::σ) H9 (.ref s.heap.objs.size) [v] (.ref s.heap.objs.size) [w] (λz xk=>z = .non∧xk=upd H9 s.heap.objs.size (.lst (ys++[v]))) I9 rfl (.cons r9 .nil) ⟨s.heap.objs.size,ys,v,rfl,rfl,yd,hz,rfl,rfl⟩) λ_ yk ⟨z,xk,I10,_,ez,e10⟩=>?_
    subst e10;refine⟨m',hm,i+1,some y,ys++[v],_,I10.unpinned,T.keep _ _ _ st7 λb hb o e=>(I10.pin (b,o) (bf _ (bf _ (eI hb e)))).1,λb hb=>?_,w9⟩;obtain⟨o,e,d⟩:=T.obj _ _ st7 b hb;exact (I10.pin (b,o) (bf _ (bf _ (eI hb e)))).2.1
 exact codeAny_compStart_list (loop _ (by rw[<- xh])) (T.self X.A 0 _ _ _ xt (loop _ (by rw[<- xh])))
theorem jB.toF {te:TE}{σ:St}{Q:VK}{J:It}{H:Hp}(hw:jB te σ Q J H):iU (λ_ H k=>k true H) te σ Q J H:=λD hD=>by
 obtain⟨W,h0,hW⟩:=hw D hD;refine⟨W,h0,λi m ys H2 Z=>?_⟩;rcases hW i m ys H2 Z with g | ⟨g1,g2,N,g3,g4⟩
 ·exact .inl g
 ·exact .inr ⟨g1,g2,N,g3,λ_=>False,λ_ z=>z.elim,λy H' hy=>oQ (g4 y H' hy)⟩
theorem Do {at':St->VK->It->Hp->Prop}(S:cG X.N N' X.env.scope scope x)(hc:X.calm=true)(hi:PI X (.Name x px) iter wi)(ht:∀ cl C s H fp,PTL (bX X N' scope cl C s H fp) cds tc)(he:∀ cl C s H fp,PE (bX X N' scope cl C s H fp) elt te)(cv:∀ σ Q J H,at' σ Q J H->iU tc te σ Q J H)
  (hs:∀ x,foldedSetIterable iter X.env x=pure x:=by intro _;rfl):PE X (.ListComp elt [⟨.Name x px,iter,cds,0⟩] scope pos) (λσ H Q=>wi σ H (at' σ Q)):=by
 intro pins s σ H Q I h;rw[eval_ListComp];have Z:∀ z∈scope.names,z.2 = .free->∃ c,X.env.cells.lookup z.1=some c:=λz hz hk=>by
  rcases S.ok z hz hk with q | q
  ·exact I.ok.has z.1 (.inl q)
  ·exact I.ok.has z.1 (.inr q)
 refine wpAny_comprehension_free (use:=none) rfl hs (iS Z) S.kind S.names (thn (hi pins s σ H _ I h) λxv s1 h1=>thn h1 λw4 s2 h2=>?_);obtain⟨it,fp,tn,J,H2,e,I2,T,ww,f2,hw⟩:=h2;subst e;obtain⟨cl,wp,gV⟩:=uC (tc:=tc) (cds:=cds) (elt:=elt) (iter:=iter) (pos:=pos) (px:=px) (E:=X.xe) (RR:=λwz C=>compPost (model X.prog X.w) X.A X.xe none (EP X pins σ Q) wz C) S hc ht he I2 T ww f2 (cv _ _ _ _ hw) (λD C s' H' I' ⟨m,hm⟩ n1 n2 n3 n4 n5 q =>
  ⟨m,hm,λh' or=>⟨.ref D,H',I'.turned (it:=C) (t':=s'.toks) (λb o hb e=>(or.2 b hb).trans e) n3 n1 (.inr n4) n2 n5,rfl,q⟩⟩)
 have wx:(pure (dQ X.env.cells scope.names []):Sem (List (Str×Addr)))=pure cl:=(iS Z).symm.trans wp;have mp:dQ X.env.cells scope.names []=cl:=by
  injection wx
 rw[mp];exact gV
theorem rX {at':St->VK->It->Hp->Prop}{i:Nat}{y:Str}{py gV:Pos}(S:cG X.N N' X.env.scope scope x)(hc:X.calm=true)(hi:PI X (.Name x px) iter wi)(ht:∀ cl C s H fp,PTL (bX X N' scope cl C s H fp) cds tc)(he:∀ cl C s H fp,PE (bX X N' scope cl C s H fp) elt te)(cv:∀ σ Q J H,at' σ Q J H->iU tc te σ Q J H)
  (hN:X.N.Nodup) (hy:X.N[i]?=some y) (or:X.env.scope.names.lookup y=some .local)
  (w6:swapsWith (.ListComp elt [⟨.Name x px,iter,cds,0⟩] scope pos) (some (.Name y py)) gV.line X.env=pure true:=by rfl)
  (hs:∀ x,foldedSetIterable iter X.env x=pure x:=by intro _;rfl):PS X (.Assign [.Name y py] (.ListComp elt [⟨.Name x px,iter,cds,0⟩] scope pos) gV) (Pa (λσ H Q=>wi σ H (at' σ Q)) (yT i)):=by
 intro pins s σ H D0 I h;have Z:∀ z∈scope.names,z.2 = .free->∃ c,X.env.cells.lookup z.1=some c:=λz hz hk=>by
  rcases S.ok z hz hk with q | q
  ·exact I.ok.has z.1 (.inl q)
  ·exact I.ok.has z.1 (.inr q)
 rw[exec_Assign_Name_used _ _ _ _ w6];refine AA (wpAny_standAt (AA ?_));show wpAny _ X.A (do let _ <- comprehension (.ListComp elt [⟨.Name x px,iter,cds,0⟩] scope pos) scope X.env _ (newList []) false (eval iter X.env) (some (assign (.Name y py) X.env))) _ _ s;refine AA (AJ (wpAny_comprehension_free (use:=some (assign (.Name y py) X.env)) (Q:=λ_ s'=>SP X pins D0 .next s') rfl hs (iS Z) S.kind S.names
  (thn (hi pins s σ H _ I h) λxv s1 h1=>thn h1 λxf s2 h2=>?_)) (λ_ s' hq=>AB (AB hq)) λ_ _ e=>e)
 obtain⟨it,fp,tn,J,H2,e,I2,T,wz,f2,hw⟩:=h2;subst e;obtain⟨cl,wx,mp⟩:=uC (tc:=tc) (cds:=cds) (elt:=elt) (iter:=iter) (pos:=pos) (px:=px) (E:=X.xe) (Q:=λx H1=>yT i x σ H1 D0.nx) (RR:=λxb C=>compPost (model X.prog X.w) X.A X.xe (some (assign (.Name y py) X.env)) (λ_ s'=>SP X pins D0 .next s') xb C) S hc ht he I2 T wz f2 (cv _ _ _ _ hw) (λD C s' H' I' ⟨m,hm⟩ n1 n2 n3 n4 n5 q=>by
  show wpAny _ X.A (assign (.Name y py) X.env (.ref D)) _ _ _;refine wpAny_assign_Name (yC (i:=i) (v:=.ref D) I' hN hy (.inl or) rfl (λw8 xc ⟨a,hsa,hwa⟩=>?_) (.inr or));have w4:C≠a:=by
   rcases hwa with z | z
   ·rw[z];exact n1
   ·intro z2
    exact n2 y a z z2.symm
  refine⟨m,hm.sameBut hsa w4,λh' ww=>?_⟩;exact⟨_,H',xc.turned (it:=C) (t':=w8.toks) (λb o hb e=>(ww.2 b hb).trans e) n3 n1 (.inr n4) n2 n5,q⟩)
 have xa:(pure (dQ X.env.cells scope.names []):Sem (List (Str×Addr)))=pure cl:=(iS Z).symm.trans wx;have wp:dQ X.env.cells scope.names []=cl:=by
  injection xa
 rw[wp];exact mp
theorem eR (S:cG X.N N' X.env.scope scope x)(Z:X.calm=true)(hi:PI X (.Name x px) iter wi)(he:∀ cl C s H fp,PE (bX X N' scope cl C s H fp) elt te)
  (hs:∀ x,foldedSetIterable iter X.env x=pure x:=by intro _;rfl):PE X (.ListComp elt [⟨.Name x px,iter,[],0⟩] scope pos) (Vy wi te) :=
 Do (at':=λσ Q=>jB te σ Q) S Z hi (λ_ _ _ _ _=>Id) he (λ_ _ _ _ h=>h.toF) hs
theorem Fj {i:Nat}{y:Str}{py Z:Pos}(S:cG X.N N' X.env.scope scope x)(hc:X.calm=true)(hi:PI X (.Name x px) iter wi)(he:∀ cl C s H fp,PE (bX X N' scope cl C s H fp) elt te)
  (hN:X.N.Nodup) (hy:X.N[i]?=some y) (mp:X.env.scope.names.lookup y=some .local)
  (gV:swapsWith (.ListComp elt [⟨.Name x px,iter,[],0⟩] scope pos) (some (.Name y py)) Z.line X.env=pure true:=by rfl)
  (hs:∀ x,foldedSetIterable iter X.env x=pure x:=by intro _;rfl):PS X (.Assign [.Name y py] (.ListComp elt [⟨.Name x px,iter,[],0⟩] scope pos) Z) (Pa (Vy wi te) (yT i)) :=
 rX (at':=λσ Q=>jB te σ Q) S hc hi (λ_ _ _ _ _=>Id) he (λ_ _ _ _ h=>h.toF) hN hy mp gV hs
end
theorem vD {lo:Int}{n:Nat}{te:TE}{σ:St}{H:Hp}{Q:VK}(f:Nat->V)(hn:n<=sizeLine)
  (he:∀ i H',i<n->aL H H'->∀ N:V->Hp->Prop,(∀ Z,aL H' Z->N (f i) Z)->te (some (.int (lo+i))::σ) H' N)
  (hq:∀ D H',H D=none->aL H H'->H' D=some (.lst ((bt n).map f))->Q (.ref D) H') :
  jB te σ Q (Itr lo n) H:=by
 intro D hD;refine⟨λi m ys H2=>m=n-i∧i<=n∧ys=(bt i).map f∧aL H H2∧H2 D=some (.lst ys),⟨n,rfl,cc _,rfl,λb o e=>?_,aC⟩,?_⟩
 ·rw[aG (aI e hD)]
  exact e
 ·rintro i m ys H2 ⟨rfl,hi,rfl,hs,hd⟩
  by_cases hlt:i<n
  ·refine .inr ⟨hlt,by rw[aR,cq];omega,λv H'=>v=f i∧aL H2 H',λv H' ⟨ev,hs'⟩=>⟨hs' D _ hd,n-(i+1),by omega,rfl,hlt,?_,λb o e=>?_,aC⟩,λy H' hy=>?_⟩
   ·rw[ev,ll,a7]
    rfl
   ·rw[aG (aI e hD)]
    exact hs' b o (hs b o e)
   ·obtain⟨e1,e2⟩:=hy
    subst e1 e2;exact he i _ hlt hs _ λZ gV=>⟨rfl,gV⟩
  ·have e:i=n:=by omega
   subst e;exact .inl ⟨af _,hq D H2 hD hs hd⟩
structure Cal (P:xv)(w:World)(K:ac)(mg:Str->Option Value)(base:Heap)(CX:CXT)(x:Str)(k:Nat)(ps:List Str)(sp:Sp):Prop where
 ex:∃ (f:Addr) (fd:wh),bI P w K mg base CX k f fd ps sp∧mg x=some (.ref f)∧dl K (.ref f)=true∧fD K fd ps []
section
variable {X:Cx}
theorem aM {CX:CXT}{x:Str}{j k:Nat}{ps:List Str}{sp:Sp}{E:XK}{e:Expr}{es:List Expr}{t:TA}{p pos:Pos}(c:Cal X.prog X.w X.K X.mg X.base CX x j ps sp)(hr:eF k X.A)(hx:gA CX X E)(ha:PA X (e::es) t)
  (Z:j<=k:=by decide) (hg:Gl X x:=by rfl) (mp:(x==("__debug__" : Str))=false:=by decide) (he:starEach (e::es) X.env=(false,eval e X.env)::starEach es X.env:=by rfl) (gV:(backTo pos (starEach es X.env)).any (·.1)=false:=by rfl) :
  PE X (.Call (.Name x p) (e::es) [] pos) (Vq sp [] E t):=by
 obtain⟨f,fd,F,hm,hk,hb⟩:=c.ex;exact Uo F (hr.mono Z) hg hm hk hb .nil hx ha mp he gV
theorem cW (l:List Nat){x:Str}{j pos}(h:x=tx l):PE X (.Constant (.str x) j pos) (tC (T l)):=by
 subst h;exact gD
theorem dG:dR X (.builtin "len") (λxs H Q=>∃ (l:List Nat),xs=[T l]∧l.length<=sizeLine∧Q (.int (l.length:Nat)) H):=by
 intro pins s σ H xs us Q I r h;obtain⟨l,e,Z,q⟩:=h;exact zZ pins s σ H xs us Q I r ⟨tx l,e,by rw[gT];exact Z,by rw[gT];exact q⟩
theorem Ty:IxR X (λx y H Q=>∃ (l:List Nat),x=T l∧∃ (i:Int),y = .int i∧l.length<=sizeLine∧∃ c,atI l i=some c∧Q (T [c]) H):=by
 intro value Z pins s σ H x y v u Q I rx ry h hs;obtain⟨l,e1,i,e2,hz,c,hc,q⟩:=h;exact Xb value Z pins s σ H x y v u Q I rx ry ⟨tx l,i,c,e1,e2,by rw[gT];exact hz,by rw[dZ];exact hc,q⟩ hs
theorem lY:OpR X (binaryOp .Add) (λx y H Q=>∃ (l b:Addr) (xs zs:List V),x = .ref l∧y = .ref b∧SqL X.K H l xs∧SqL X.K H b zs∧xs.length+zs.length<=sizeLine∧∀ p,H p=none->Q (.ref p) (upd H p (.lst (xs++zs)))):=by
 intro pins s σ H x y v u Q I rx ry h;obtain⟨l,b,xs,zs,rfl,rfl,hH,hB,hz,q⟩:=h;cases rx;cases ry;obtain⟨gV,r,⟨⟨cls,dd,w4,sl⟩,n,ho,hc,w6,hd⟩,_⟩:=I.list hH;obtain⟨Z,r2,⟨⟨wx,wp,data2,ww⟩,n2,mp,or,wz,hd2⟩,_⟩:=I.list hB;simp only at hc hd or hd2;subst hc hd or hd2;have e:gV.toArray++Z.toArray=(gV++Z).toArray:=by simp
 refine concat_meets ⟨_,ho,rfl⟩ ⟨_,mp,rfl⟩ noFill_list_add seq_list_add PySem.F.slot_list_add PySem.F.entry_list_add (PySem.F.args_list_add_2 _ _) (list_addW l b gV.toArray Z.toArray n n2 dd wp sl ww (by rw[aj,aj,<- r.length,<- r2.length];exact hz)) ⟨ho,mp,?_⟩;rw[e];exact⟨.ref _,_,I.lnew (t':=s.toks) (r.append r2) (by rw[ai];exact hz),rfl,q _ I.fresh⟩
theorem fL (ls:List (List Nat)):(ls.map T).all iV=true:=by
 rw[wo,dz];intro l _;rfl
theorem Qf {ls ms:List (List Nat)}{us ws:List Value}(r:aZ (ls.map T) us)(r':aZ (ms.map T) ws){A:Around}{s:kw}{j:Nat}{u w:Value}(hu:us[j]?=some u)(hw:ws[j]?=some w):SeqAt.EqAt A s u w (decide (ls[j]?=ms[j]?)):=by
 have h1:j<ls.length:=by have:=r.length;rw[aR] at this;rw[this];exact (ao.mp hu).1
 have h2:j<ms.length:=by have:=r'.length;rw[aR] at this;rw[this];exact (ao.mp hw).1
 obtain⟨u',e1,q1⟩:=r.get (i:=j) (x:=T ls[j]) (by rw[ah,aa h1];rfl);obtain⟨w',Z,q2⟩:=r'.get (i:=j) (x:=T ms[j]) (by rw[ah,aa h2];rfl);rw[hu] at e1;cases e1;rw[hw] at Z;cases Z;have e:=iY (A:=A) (s:=s) q1 q2 rfl rfl;have ee:eqV (T ls[j]) (T ms[j])=decide (ls[j]?=ms[j]?):=by
  show (tx ls[j]==tx ms[j])=_;rw[cu,AK,AI,aa h1,aa h2];exact⟨λh=>by rw[gP h],λh=>by rw[av h]⟩
 rw[ee] at e;exact e
theorem pK {ls ms:List (List Nat)}(h:ls.length=ms.length):(bt ls.length).all (λj=>decide (ls[j]?=ms[j]?))=decide (ls=ms):=by
 rw[cu,dz,AI];constructor
 ·intro g
  apply l7;intro i;by_cases hi:i<ls.length
  ·exact AF (g i (ck.mpr hi))
  ·rw[c8 (by omega),c8 (by omega)]
 ·intro g j _
  rw[g];exact AE rfl
theorem vT (hu:X.A.units<cLine):OpR X (compareOp .Eq) (λx y H Q=>∃ (p b:Addr) (ls ms:List (List Nat)),x = .ref p∧y = .ref b∧SqL X.K H p (ls.map T)∧SqL X.K H b (ms.map T)∧Q (.bl (decide (ls=ms))) H):=by
 intro pins s σ H x y v u Q I rx ry h;obtain⟨p,b,ls,ms,rfl,rfl,h1,h2,q⟩:=h;cases rx;cases ry;obtain⟨mp,r,pl,_⟩:=I.list h1;obtain⟨gV,r2,Z,_⟩:=I.list h2;have l1:=r.length;have l2:=r2.length;rw[aR] at l1 l2;by_cases hl:ls.length=ms.length
 ·refine SeqAt.eq_listAt (e:=λj=>decide (ls[j]?=ms[j]?)) pl.isList Z.isList (by rw[aj,aj];omega) hu (λj g1 g2=>Qf r r2 (by simp) (by simp)) ?_
  rw[aj,<- l1,pK hl];exact⟨.bl _,H,I,rfl,q⟩
 ·refine SeqAt.eq_list_lengthsAt pl.isList Z.isList (by rw[aj,aj,bne_iff_ne];omega) hu ?_
  have e:decide (ls=ms)=false:=AH λz=>hl (by rw[z])
  rw[e] at q;exact⟨.bl _,H,I,rfl,q⟩
theorem Vb:OpR X (compareOp .IsNot) (λx y H Q=>∃ a,x = .bl a∧∃ b,y = .bl b∧Q (.bl (!decide (a=b))) H):=by
 intro pins s σ H x y v u Q I rx Z h;obtain⟨a,rfl,b,rfl,q⟩:=h;cases rx;cases Z;refine AB (a:=Value.bool (!(Value.bool a==Value.bool b))) (bQ I q ?_);cases a <;> cases b <;> rfl
end
structure Fly (P:xv)(w:World)(outer:List Env)(H:Hp)(s:kw)(a:Addr)(cls:Value)(H':Hp)(s':kw):Prop where
 os:s'.os=s.os
 bare:AllBare s'.gens
 ex:∃ (B:Heap) (t:Addr),Heap.FlyingW B outer a cls (.ref t) s'.heap∧HOk P w H' B∧(∀ b o,s.heap.get? b=some o->H b=none->b∉frs outer->B.get? b=some o) ∧
  ∀ b o,s.heap.get? b=some o->b∉frs outer->∃ o',B.get? b=some o'
 slot:∀ b o,s.heap.get? b=some o->H b=none->b∈frs outer->∃ sl,s'.heap.get? b=some { o with slots:=sl }
 free:∀ b o,s.heap.get? b=some o->H b=none->H' b=none
 tups:∀ b xs,H b=some (.tup xs)->H' b=some (.tup xs)
 frzs:∀ b o u,H b=some (.frz o u)->H' b=some (.frz o u)
 tbls:∀ b ps,H b=some (.tbl ps)->∃ more,H' b=some (.tbl (ps++more))
theorem aAh {P:xv}{w:World}{H:Hp}{h:Heap}{a:Addr}(x:HOk P w H h)(e:h.get? a=none):H a=none:=by
 cases q:H a with
 | none=>rfl
 | some u =>
  have y:=x a u q;have z:∃ o,h.get? a=some o:=by
   cases u with
   | lst xs=>obtain⟨_,_,_,_,e⟩:=y;exact⟨_,e⟩
   | tup xs=>obtain⟨_,_,_,o,e,_⟩:=y;exact⟨o,e⟩
   | dK kvs=>obtain⟨_,_,_,_,o,_,_,e,_⟩:=y;exact⟨o,e⟩
   | dT kvs=>obtain⟨_,_,_,_,o,_,_,e,_⟩:=y;exact⟨o,e⟩
   | set S n=>obtain⟨o,_,_,_,e,_⟩:=y;exact⟨o,e⟩
   | ins C dx fs=>obtain⟨_,_,_,e,_⟩:=y;exact⟨_,e⟩
   | own y'=>exact y
   | xd fs=>obtain⟨_,⟨o,_,_,e,_⟩,_⟩:=y;exact⟨o,e⟩
   | rng lo hi=>obtain⟨_,_,_,e⟩:=y;exact⟨_,e⟩
   | frz ob u=>exact⟨_,y.1⟩
   | tbl ps=>exact⟨_,y⟩
   | met f y'=>exact⟨_,y⟩
   | ext φ=>exact y.2.1
  obtain⟨o,z⟩:=z;rw[e] at z;cases z
section
variable {X:Cx}{pins:List (Addr×Obj)}{σ:St}{H H':Hp}{s s':kw}{a:Addr}{cls:Value}{E:Value->kw->Prop}
structure Own (X:Cx):Prop where
 stk:X.stack=X.env::X.outer
 fr:X.env.frame=some X.env.locals
 ex:X.ex=[]
theorem Own.frs (O:Own X){b:Addr}:b∈frs X.stack↔b=X.env.locals∨b∈frs X.outer:=by
 unfold L2.frs;rw[O.stk,ir,O.fr];exact au
theorem Inv.oldNe (I:Inv X pins σ H s){b:Addr}{o:Obj}(e:X.s₀.heap.get? b=some o):b≠X.env.locals:=az (bi (AV e) I.ok.above)
theorem Inv.hidHok (I:Inv X pins σ H s):HOk X.prog X.w H (qp s.heap (L2.frs X.stack)):=λb u e =>
 (I.hok b u e).stay (λc v Z q=>gs _ q λhm=>by
  have n:=I.stkFree c hm;rcases Z with z | z
  ·rw[z,e] at n
   cases n
  ·rw[z] at n
   cases n) (λ_ q=>q) λ_ _ q=>q
theorem Fly.raised {args:List Value}{h:Heap}(I:Inv X pins σ H s)(O:Own X)(hx:Heap.MadeExcOf s.heap h a cls args) :
  wpAny (model X.prog X.w) X.A (leaving X.env (.ref a)) (λ_ wx=>Fly X.prog X.w X.outer X.H₀ X.s₀ a cls H wx) E { s with heap:=h }:=by
 have ww:=I.stack;have wp:∀ env∈X.stack,∀ b,env.frame=some b->b∈L2.frs X.stack:=λenv he b hb=>ln.mpr ⟨env,he,hb⟩
 have hl:=qk ww wp;rw[O.stk] at hl;have or:=I.ok.frames;rw[O.stk] at or;have Z:∀ b,b∉X.ex:=λb z=>by
  rw[O.ex] at z;cases z
 refine wpAny_leaves_madeW (s:={ s with heap:=h }) or O.fr (λb o q=>nz _ q) hl hx λh' t x1 x2 x3 x4=>?_
 have gV:∀ b o,X.s₀.heap.get? b=some o->b∉L2.frs X.outer->b∉L2.frs (X.env::X.outer):=λb o e nb z=>by
  rw[<- O.stk] at z;rcases O.frs.mp z with q | q
  ·exact I.oldNe e q
  ·exact nb q
 have mp:=I.hidHok;rw[O.stk] at mp;refine⟨I.os,I.bare,⟨_,t,x1,mp,λb o e n nb=>?_,λb o e nb=>?_⟩,λb o e n hb=>?_,λb o e n=>I.base.free b o e n (Z b),I.base.tups,I.base.frzs,I.base.tbls⟩
 ·exact gs _ (I.base.keep b o e n nb (Z b)) (gV b o e nb)
 ·obtain⟨o',e'⟩:=I.base.there b o e (Z b)
  exact⟨o',gs _ e' (gV b o e nb)⟩
 ·obtain⟨sl,e1⟩:=I.base.slot b o e n hb (Z b)
  obtain⟨_,o2,e2,hd⟩:=I.funs.mem hb;rw[e1] at e2;cases e2;obtain⟨wz,e3⟩:=x4 b _ (hx.keeps b _ e1) hd;exact⟨wz,e3⟩
theorem Fly.on (I:Inv X pins σ H s)(O:Own X)(Y:Fly X.prog X.w X.stack H s a cls H' s') :
  wpAny (model X.prog X.w) X.A (leaving X.env (.ref a)) (λ_ ww=>Fly X.prog X.w X.outer X.H₀ X.s₀ a cls H' ww) E s':=by
 obtain⟨B,t,or,wp,kp,th⟩:=Y.ex;have mp:=I.ok.frames;rw[O.stk] at mp or;have Z:∀ b,b∉X.ex:=λb z=>by
  rw[O.ex] at z;cases z
 have gV:∀ b o,X.s₀.heap.get? b=some o->b∉L2.frs X.outer->b∉L2.frs X.stack:=λb o e nb z=>by
  rcases O.frs.mp z with q | q
  ·exact I.oldNe e q
  ·exact nb q
 refine wpAny_leaves_onW mp O.fr or λh' x1 x2=>?_
 refine⟨Y.os.trans I.os,Y.bare,⟨B,t,x1,wp,λb o e n nb=>kp b o (I.base.keep b o e n nb (Z b)) (I.base.free b o e n (Z b)) (gV b o e nb),λb o e nb=>?_⟩,λb o e n hb=>?_,λb o e n=>?_,
  λb xs q=>Y.tups b xs (I.base.tups b xs q),λb o u q=>Y.frzs b o u (I.base.frzs b o u q),λb ps q=>?_⟩
 ·obtain⟨o',e'⟩:=I.base.there b o e (Z b)
  exact th b o' e' (gV b o e nb)
 ·obtain⟨sl,e1⟩:=I.base.slot b o e n hb (Z b)
  obtain⟨_,o2,e2,hd⟩:=I.funs.mem hb;rw[e1] at e2;cases e2;obtain⟨wz,e3⟩:=Y.slot b _ e1 (I.base.free b o e n (Z b)) (O.frs.mpr (.inr hb));obtain⟨wx,e4⟩:=x2 b _ e3 hd;exact⟨wx,e4⟩
 ·obtain⟨o',e'⟩:=I.base.there b o e (Z b)
  exact Y.free b o' e' (I.base.free b o e n (Z b))
 ·obtain⟨m1,e1⟩:=I.base.tbls b ps q
  obtain⟨m2,e2⟩:=Y.tbls b _ e1;exact⟨m1++m2,by rw[e2,n6]⟩
theorem Fly.un (I:Inv X pins σ H s)(Y:Fly X.prog X.w X.stack H s a cls H' s'):Un (L2.frs X.stack) [] H H' s.heap s'.heap:=by
 obtain⟨B,t,Z,gV,kp,th⟩:=Y.ex;refine⟨λb o e n nb _=>Z.1 b o (kp b o e n nb),λb o e n hb _=>Y.slot b o e n hb,λb o e n _=>Y.free b o e n,λb o e _=>?_,Y.tups,Y.frzs,Y.tbls⟩;by_cases hb:b∈L2.frs X.stack
 ·obtain⟨sl,q⟩:=Y.slot b o e (I.stkFree b hb) hb
  exact⟨_,q⟩
 ·obtain⟨o',q⟩:=th b o e hb
  exact⟨o',Z.1 b o' q⟩
theorem Fly.inv (I:Inv X pins σ H s)(Y:Fly X.prog X.w X.stack H s a cls H' s'):Inv X pins σ H' s':=by
 have hok:HOk X.prog X.w H' s'.heap:=by
  obtain⟨B,t,gV,Z,kp,th⟩:=Y.ex;exact Z.kept gV.1
 exact I.call' (ch:=[]) Y.os (Y.un I) hok Y.bare λ_ z=>nomatch z
theorem Fly.slots {outer:List Env}{h':Heap}(Y:Fly X.prog X.w outer H s a cls H' s')(hd:∀ b∈L2.frs outer,∃ o,s.heap.get? b=some o∧∀ vs,o.data≠.fields vs)(x:s'.heap.UpToSlots h') :
  ∀ b o,s.heap.get? b=some o->H b=none->b∈L2.frs outer->∃ sl,h'.get? b=some { o with slots:=sl }:=λb o e n hb=>by
 obtain⟨sl,q⟩:=Y.slot b o e n hb;obtain⟨o2,e2,d2⟩:=hd b hb;rw[e] at e2;cases e2;obtain⟨Z,q'⟩:=x b _ q d2;exact⟨Z,q'⟩
theorem Fly.again {A:Around}{Q:Unit->kw->Prop}(I:Inv X pins σ H s)(Y:Fly X.prog X.w X.stack H s a cls H' s')(h:∀ h',Fly X.prog X.w X.stack H s a cls H' { s' with heap:=h' }->Q () { s' with heap:=h' }) :
  wpAny (model X.prog X.w) A (setFlight (.ref a) none) Q E s':=by
 obtain⟨B,t,gV,Z,kp,th⟩:=Y.ex;refine lands_againW gV λh' x1 x2=>h h' ?_
 exact⟨Y.os,Y.bare,⟨B,t,x1,Z,kp,th⟩,Y.slots (λb hb=>(I.stack.mem hb).2) x2,Y.free,Y.tups,Y.frzs,Y.tbls⟩
theorem Fly.look {Q:Unit->kw->Prop}(I:Inv X pins σ H s)(O:Own X)(Y:Fly X.prog X.w X.stack H s a cls H' s')(h:∀ h',Fly X.prog X.w X.stack H s a cls H' { s' with heap:=h' }->Q () { s' with heap:=h' }) :
  wpAny (model X.prog X.w) X.A (noteFrame (.ref a) X.env) (λ_ s2=>wpAny (model X.prog X.w) X.A (setFlight (.ref a) none) Q E s2) E s':=by
 obtain⟨B,t,or,gV,kp,th⟩:=Y.ex;have mp:=I.ok.frames;have Z:=or;rw[O.stk] at mp Z;refine wpAny_looks_onW mp O.fr Z λh4 x4 y4=>?_
 refine wpAny_landsW (s:={ s' with heap:=h4 }) x4 λh5 x5 y5=>h h5 ?_
 rw[<- O.stk] at x5;exact⟨Y.os,Y.bare,⟨B,t,x5,gV,kp,th⟩,Y.slots (λb hb=>(I.stack.mem hb).2) (y4.trans y5),Y.free,Y.tups,Y.frzs,Y.tbls⟩
theorem Fly.looks {M:Model}{outer:List Env}(Y:Fly X.prog X.w outer H s a cls H' s'):sy M s'.heap (typeOf (.ref a)) cls:=by
 obtain⟨B,t,gV,_⟩:=Y.ex;obtain⟨ob,Z,hc⟩:=gV.there;subst hc;exact (wv Z).andThen .now
theorem Fly.track (I:Inv X pins σ H s)(Y:Fly X.prog X.w X.stack H s a cls H' s'):H' a=none∧Inv X pins σ (upd H' a (.ext λh=>∃ o,h.get? a=some o∧o.cls=cls)) s':=by
 obtain⟨B,t,mp,or,kp,th⟩:=Y.ex;have J:=Y.inv I;have na:H' a=none:=aAh or mp.2.1;obtain⟨_,_,wz,oe,vs,_,_,_,gV,wp,ww,_⟩:=id mp;have wx:∀ b∈L2.frs X.stack,b≠a:=λb hb z=>by
  obtain⟨_,o,e,d⟩:=wz.mem hb;rw[z,gV] at e;cases e;exact d vs ww
 have Z:∀ b o,s.heap.get? b=some o->b≠a:=λb o e z=>by
  by_cases hb:b∈L2.frs X.stack
  ·exact wx b hb z
  ·obtain⟨o',e'⟩:=th b o e hb
   rw[z,mp.2.1] at e';cases e'
 have n0:∀ b o,X.s₀.heap.get? b=some o->b∉X.ex->b≠a:=λb o e hx=>by
  obtain⟨o',e'⟩:=I.base.there b o e hx;exact Z b o' e'
 obtain⟨mL,⟨oL,_,_,w4,_⟩,_⟩:=id I.loc;have nL:X.env.locals≠a:=Z _ oL w4;refine⟨na,J.ok,J.os,J.bare,⟨J.base.keep,J.base.slot,λb o e n hx=>?_,J.base.there,λb xs q=>?_,λb o u q=>?_,λb ps q=>?_⟩,J.loc,J.cell,?_,λy c e=>?_,λp hp=>?_,λb u q=>?_,J.len⟩
 ·rw[aG (n0 b o e hx)]
  exact J.base.free b o e n hx
 ·have z:=J.base.tups b xs q
  rw[aG (aI z na)];exact z
 ·have z:=J.base.frzs b o u q
  rw[aG (aI z na)];exact z
 ·obtain⟨m,z⟩:=J.base.tbls b ps q
  exact⟨m,by rw[aG (aI z na)];exact z⟩
 ·rw[aG nL]
  exact J.free
 ·obtain⟨v,o,ho,_⟩:=I.cell y c e
  rw[aG (Z c o ho)];exact J.freeC y c e
 ·obtain⟨e,n,ne,nf,d⟩:=J.pin p hp
  refine⟨e,?_,ne,nf,d⟩;rw[aG (Z _ _ (I.pin p hp).1)];exact n
 ·by_cases hb:b=a
  ·subst hb
   rw[aC] at q;cases q;exact⟨⟨oe,gV,wp.1⟩,⟨oe,gV⟩,λh1 h2 ⟨o,e,c⟩ k=>⟨o,k o e,c⟩⟩
  ·rw[aG hb] at q
   exact (J.hok b u q).stay (λ_ _ _ z=>z) (λc z=>by rw[aG (aI z na)];exact z) λc xs z=>by rw[aG (aI z na)];exact z
end
abbrev sP:List Value:=[.type "ValueError",.type "Exception",.type "BaseException",.type "object"]
structure Exc (K:ac)(mg:Str->Option Value)(x:Str)(C:Addr):Prop where
 mg:mg x=some (.ref C)
 is:kg K C sP "ValueError.__new__" = true
theorem Exc.own {K:ac}{mg:Str->Option Value}{x:Str}{C:Addr}{h:Heap}(c:Exc K mg x C)(X:K.In h):OwnCls x C sP "ValueError.__new__" mg h:=by
 refine⟨c.mg,?_⟩;have q:=c.is;unfold kg at q;split at q
 ·rename_i dd cd sl ho
  split at q
  ·rename_i C' bm k0 k1 k2 k3 n k5 hm hs
   simp only [AK,o9,cz] at q;obtain⟨⟨⟨⟨⟨g1,g2⟩,g3⟩,g4⟩,g5⟩,g6⟩:=q;subst g1 g2;obtain⟨nm,bs,mro,ns,qn,hd,sn,sub,ab,col,del⟩:=cd;have gV:sl = #[k0,k1,k2,k3,some (.builtin "ValueError.__new__"),k5]:=by
    cases sl with
    | mk l =>
     have Z:l=_:=hs;rw[Z]
   have mp:mro=_:=hm;have or:del=false:=g3;subst gV mp or;refine⟨bm,ns,nm,qn,bs,hd,sn,sub,ab,col,dd,k0,k1,k2,k3,k5,h.nsMap ns,X _ _ ho,?_,?_,?_⟩
   ·exact .of_isNs (om X g5)
   ·exact PySem.W.nsMap_none_of_in X g5 g6
   ·exact t8 X g4
  ·cases q
 ·cases q
def Yr (E:Value->Hp->Prop)(C:Addr)(t:TA):TS:=λ_ σ H=>t σ H λvs H1=>vs.length<=sizeLine∧E (.ref C) H1
theorem eJ {x:Str}{C:Addr}{e₀:Expr}{rest:List Expr}{np cpos pos:Pos}{t:TA}{E:Value->Hp->Prop}(c:Exc X.K X.mg x C)(hc:X.calm=true)
  (hE:∀ (pins:List (Addr×Obj)) (σ:St) (H:Hp) (s:kw) (h:Heap) (a:Addr) (args:List Value),Inv X pins σ H s->Heap.MadeExcOf s.heap h a (.ref C) args->E (.ref C) H->X.xe (.ref a) { s with heap:=h })
  (ha:PA X (e₀::rest) t) (hg:Gl X x:=by rfl) (hd:(x==("__debug__" : Str))=false:=by decide)
  (he:starEach (e₀::rest) X.env=(false,eval e₀ X.env)::starEach rest X.env:=by rfl) (Z:(backTo cpos (starEach rest X.env)).any (·.1)=false:=by rfl) :
  PS X (.Raise (some (.Call (.Name x np) (e₀::rest) [] cpos)) none pos) (Yr E C t):=by
 intro pins s σ H D I h;have O:=c.own I.mod.kin;obtain⟨tl,N,nm,q,bs,hdct,sn,sub,ab,col,dd,k0,k1,k2,k3,k5,mN,hC,hN,gV,T⟩:=O.obj;refine wpAny_Raise_call_subT (C:=C) (nm:=nm) (q:=q) (N:=N) (bs:=bs) (bm:=tl) (hdct:=hdct) (sn:=sn) (sub:=sub) (ab:=ab) (col:=col) (dd:=dd) (k0:=k0) (k1:=k1) (k2:=k2) (k3:=k3) (k5:=k5) k6 (mN:=mN)
  (T.hasType (by decide +kernel)) (I.ok.hd hc) (by rw[he];show (false||(backTo cpos (starEach rest X.env)).any (·.1))=false;rw[Z];rfl) gV (iL I hg c.mg ⟨rfl,?_⟩ hd)
 have hA:=ha cpos pins s σ H _ I h;rw[he] at hA ⊢;refine Calls.evalArgs_plain (thn hA λus s2 ⟨vs,H2,I2,r2,hz,q2⟩=>?_);exact⟨rfl,by rw[<- r2.length];exact hz,I2.bk _ _ hC,hN.keeps I2.bk,T.keeps I2.bk,λh' e hx=>hE pins σ H2 s2 h' e us I2 hx q2⟩
section
variable {P:xv}{w:World}{K:ac}{mg:Str->Option Value}{base:Heap}{N:List Str}{qual:Str}{scope:Scope}{f:Addr}{cdv:Value}{A:Around}{outer:List Env}{s:kw}{H:Hp}{E:XK}
theorem Qb {CX:CXT}:Own (mE CX P w K mg base N qual scope f cdv A outer s H E):=⟨rfl,rfl,rfl⟩
end
def XP (X:Cx)(pins:List (Addr×Obj))(R:St->Value->Hp->Prop)(e:Value)(s':kw):Prop :=
 ∃ a cls σ' H s1 H',e = .ref a∧Inv X pins σ' H s1∧Fly X.prog X.w X.stack H s1 a cls H' s'∧R σ' cls H'
abbrev TTy:=jJ->(St->Value->Hp->Prop)->St->Hp->Prop
def PTy (X:Cx)(st:List Stmt)(t:TTy):Prop :=
 ∀ (pins:List (Addr×Obj)) (s:kw) (σ:St) (H:Hp) (D:jJ) (R:St->Value->Hp->Prop),Inv X pins σ H s->t D R σ H->wpAny (model X.prog X.w) X.A (execs st X.env) (SP X pins D) (XP X pins R) s
section
variable {X:Cx}
abbrev TH:=jJ->St->Value->Hp->Prop
def PH (X:Cx)(Z:List ExceptHandler)(t:TH):Prop :=
 ∀ (pins:List (Addr×Obj)) (σ:St) (H:Hp) (s:kw) (a:Addr) (cls:Value) (H':Hp) (s':kw) (D:jJ),Inv X pins σ H s->Fly X.prog X.w X.stack H s a cls H' s'->t D σ cls H' ->
  wpAny (model X.prog X.w) X.A (handleBy (.ref a) X.env Z) (SP X pins D) X.xe s'
abbrev tY (X:Cx)(a:Addr):Cx:={ X with A:=X.A.mark (some (.ref a)),calm:=false,xe:=λ_ _=>False }
theorem Inv.mark {pins:List (Addr×Obj)}{σ:St}{H:Hp}{s:kw}(I:Inv X pins σ H s)(a:Addr):Inv (tY X a) pins σ H s:=by
 have ok:=I.ok;exact⟨⟨ok.mod,ok.kind,ok.glob,ok.blt,ok.above,ok.inj,ok.has,ok.cab,λz=>(by cases z),ok.frames,ok.stk,ok.exf,ok.bs,ok.bsz,ok.noex,ok.exfs,ok.funs,ok.frf⟩,I.os,I.bare,I.base,I.loc,I.cell,I.free,I.freeC,I.pin,I.hok,I.len⟩
theorem Inv.unmark {pins:List (Addr×Obj)}{σ:St}{H:Hp}{s:kw}{a:Addr}(I:Inv (tY X a) pins σ H s)(J:X.Ok):Inv X pins σ H s:=⟨J,I.os,I.bare,I.base,I.loc,I.cell,I.free,I.freeC,I.pin,I.hok,I.len⟩
theorem Zk {h:Heap}{a:Addr}{m m':Str->Option Value}(x:h.Ns a m)(y:h.Ns a m'):∀ z,m z=m' z:=λz=>by
 obtain⟨o,es,ep,ho,hd,_,hf⟩:=x;obtain⟨o',wp,or,Z,gV,_,mp⟩:=y;rw[ho] at Z;cases Z;rw[hd] at gV;cases gV;rw[<- hf z,<- mp z]
theorem Inv.turnFrame {pins:List (Addr×Obj)}{σ σ':St}{H:Hp}{s:kw}{h':Heap}{m':Str->Option Value}(I:Inv X pins σ H s)(mp:h'.Ns X.env.locals m')(hs:Heap.SameBut X.env.locals s.heap h')(hl:σ'.length=σ.length)
  (hm:∀ (i:Nat) (x:Str) (v:V),X.N[i]?=some x->σ'[i]?=some (some v)->σ[i]?=some (some v)∧∀ m,s.heap.Ns X.env.locals m->m' x=m x):Inv X pins σ' H { s with heap:=h' }:=by
 have kp:∀ b o,b≠X.env.locals->s.heap.get? b=some o->h'.get? b=some o:=λb o hb e=>(hs.2 b hb).trans e
 obtain⟨m0,gV,or⟩:=I.loc;obtain⟨oL,_,_,wp,_⟩:=id gV;have ok:HOk X.prog X.w H h':=λb ob e=>(I.hok b ob e).stay (λc w' hc q=>kp c w' (λz=>by
  subst z;rcases hc with g | g
  ·rw[<- g,I.free] at e
   cases e
  ·rw[I.free] at g
   cases g) q) (λ_ q=>q) λ_ _ q=>q
 refine⟨I.ok,I.os,I.bare,⟨λb o e n hb hx=>kp b o (I.oldNe e) (I.base.keep b o e n hb hx),λb o e n hb hx=>?_,I.base.free,λb o e hx=>?_,I.base.tups,I.base.frzs,I.base.tbls⟩,⟨m',mp,λi x v Z e2 e3=>?_⟩,λy c e=>?_,I.free,I.freeC,λp hp=>?_,ok,hl.trans I.len⟩
 ·obtain⟨sl,Z⟩:=I.base.slot b o e n hb hx
  exact⟨sl,kp b _ (I.oldNe e) Z⟩
 ·obtain⟨o',Z⟩:=I.base.there b o e hx
  exact⟨o',kp b _ (I.oldNe e) Z⟩
 ·obtain⟨g1,g2⟩:=hm i x v Z e2
  obtain⟨u,r,l⟩:=or i x v Z g1 e3;refine⟨u,r,?_⟩;rcases l with ⟨k,z⟩ | ⟨k,c,e,o,ho,hd⟩
  ·exact .inl ⟨k,(g2 m0 gV).trans z⟩
  ·exact .inr ⟨k,c,e,o,kp c o (I.cne x c e) ho,hd⟩
 ·obtain⟨v,o,ho,hd⟩:=I.cell y c e
  exact⟨v,o,kp c o (I.cne y c e) ho,hd⟩
 ·obtain⟨e,n,ne,nf,d⟩:=I.pin p hp
  exact⟨kp _ _ ne e,n,ne,nf,d⟩
theorem xJ:∀ (x:List Nat) (ls:List (List Nat)),risingS (tx x) (ls.map tx)=true->(∀ y∈ls,¬ y<x)∧ls.Pairwise (λa b=>¬ b<a)
 | x,[],_=>⟨λ_ h=>(by cases h),.nil⟩
 | x,y::ls,h=>by
  have h':(!ltCps (tx y).cps.toList (tx x).cps.toList&&risingS (tx y) (ls.map tx))=true:=h;rw[cz,dZ,dZ,ltCps_eq] at h';obtain⟨a,b⟩:=xJ y ls h'.2;have h1:¬ y<x:=by simpa using h'.1
  refine⟨λz hz=>?_,gz.mpr ⟨a,b⟩⟩;rcases au.mp hz with rfl | hz
  ·exact h1
  ·exact Wd.aBD h1 (a z hz)
theorem yG:∀ (ls:List (List Nat)),sortedS (ls.map tx)=true->ls.Pairwise (λa b=>¬ b<a)
 | [],_=>.nil
 | x::ls,h=>gz.mpr (xJ x ls h)
theorem rH:∀ {us:List Value} {Z:List Str},StrsAre us Z->aZ ((Z.map λx=>x.cps.toList).map T) us
 | _,_,.nil=>.nil
 | _,_,.cons x t h=>.cons ⟨t,by show Value.str x t=Value.str (tx x.cps.toList) t;rw[kD]⟩ (rH h)
theorem fP:dR X (.builtin "sorted") (λxs H Q=>∃ (p:Addr) (ls:List (List Nat)),xs=[.ref p]∧SqL X.K H p (ls.map T)∧ls.length<64∧∀ (ms:List (List Nat)) (D:Addr),H D=none->ms.Perm ls->ms.Pairwise (λa b=>¬ b<a)->Q (.ref D) (upd H D (.lst (ms.map T)))):=by
 intro pins s σ H xs us Q I r h;obtain⟨p,ls,rfl,hq,wp,q⟩:=h;obtain⟨u,rfl,ru⟩:=fV r;cases ru;obtain⟨or,rv,pl,hz⟩:=I.list hq;have gV:=rv.length;rw[aR] at gV;refine sorted_strs pl.isList (qZ rv) (by omega) λout Z a1 a2 a3=>?_
 obtain⟨e,he⟩:=sortedAll_at s.heap or out;have em:(Z.map λx=>x.cps.toList).map tx=Z:=by
  rw[bv]
  conv=>rhs;rw[<- lu Z]
  exact b8 λx _=>kD x
 have hp:(Z.map λx=>x.cps.toList).Perm ls:=by
  have z:=a2.map λx=>x.cps.toList
  have e2:(ls.map tx).map (λx=>x.cps.toList)=ls:=by
   rw[bv]
   conv=>rhs;rw[<- lu ls]
   exact b8 λx _=>dZ x
  rw[e2] at z;exact z
 have mp:=hp.length_eq;refine⟨.ref _,_,I.laid (t':=s.toks) (λ_ _=>sortedAll_old) (gv _) (o:=.lst ((Z.map λx=>x.cps.toList).map T)) ⟨by rw[aR,mp];rw[aR] at hz;exact hz,out.toList,e,rH a1,by simpa using he⟩,rfl,q _ _ (I.hok.fresh (gv _)) hp (yG _ (by rw[em];exact a3))⟩
theorem Nj (hu:X.A.units<cLine):OpR X (compareOp .NotEq) (λx y H Q=>∃ (p b:Addr) (ls ms:List (List Nat)),x = .ref p∧y = .ref b∧SqL X.K H p (ls.map T)∧SqL X.K H b (ms.map T)∧Q (.bl (!decide (ls=ms))) H):=by
 intro pins s σ H x y v u Q I rx ry h;obtain⟨p,b,ls,ms,rfl,rfl,h1,h2,q⟩:=h;cases rx;cases ry;obtain⟨mp,r,pl,_⟩:=I.list h1;obtain⟨gV,r2,Z,_⟩:=I.list h2;have l1:=r.length;have l2:=r2.length;rw[aR] at l1 l2;by_cases hl:ls.length=ms.length
 ·refine SeqAt.RcNeAt.lists (e:=λj=>decide (ls[j]?=ms[j]?)) pl.isList Z.isList (by rw[aj,aj];omega) hu (λj g1 g2=>Qf r r2 (by simp) (by simp)) _ _ _ _ ?_
  rw[aj,<- l1,pK hl];exact⟨.bl _,H,I,rfl,q⟩
 ·refine SeqAt.RcNeAt.lists_lengths pl.isList Z.isList (by rw[aj,aj,bne_iff_ne];omega) hu _ _ _ _ ?_
  have e:decide (ls=ms)=false:=AH λz=>hl (by rw[z])
  rw[e] at q;exact⟨.bl _,H,I,rfl,q⟩
end
def nub:List (List Nat)->List (List Nat)->List (List Nat)
 | acc,[]=>acc
 | acc,l::ls=>if l∈acc then nub acc ls else nub (acc++[l]) ls
def eL (ls:List (List Nat)):Nat->List (List Nat)
 | 0=>[]
 | i+1=>if ls.getD i []∈eL ls i then eL ls i else eL ls i++[ls.getD i []]
theorem qQ (ls:List (List Nat)):∀ i,(eL ls i).length<=i
 | 0=>af _
 | i+1=>by
  have h:=qQ ls i;rw[eL];split
  ·omega
  ·rw[ai,cm]
   omega
theorem rZ (ls:List (List Nat)):∀ i,(eL ls i).Nodup
 | 0=>il
 | i+1=>by
  have h:=rZ ls i;rw[eL];split
  ·exact h
  ·rename_i hn
   refine fg.mpr ⟨h,by simp,λa ha b hb e=>?_⟩;have Z:b=ls.getD i []:=by simpa using hb
   rw[e,Z] at ha;exact hn ha
theorem qE (ls:List (List Nat))(x:List Nat):∀ i,i<=ls.length->(x∈eL ls i↔x∈ls.take i)
 | 0,_=>by simp[eL]
 | i+1,hi=>by
  have h:=qE ls x i (by omega);have e:ls.take (i+1)=ls.take i++[ls.getD i []]:=by
   rw[cn,ak,aa (by omega)];rfl
  rw[e,br,eL];split
  ·rename_i hm
   rw[h];constructor
   ·exact .inl
   ·rintro (q | q)
    ·exact q
    ·have Z:x=ls.getD i []:=by simpa using q
     rw[Z,<- qE ls _ i (by omega)];exact hm
  ·rw[br,h]
def uniq (ls:List (List Nat)):List (List Nat):=eL ls ls.length
theorem uV (ls:List (List Nat)):(uniq ls).Nodup:=rZ ls _
theorem iD (ls:List (List Nat))(x:List Nat):x∈uniq ls↔x∈ls:=by
 rw[uniq,qE ls x _ (af _),cr]
namespace SE
section
variable {prog:xv}{w:World}{A:Around}{R:Result->kw->Prop}{J:Addr}{fp wr:List Addr}{G:Array GenState->Array GenState->Prop}{n:Nat}{P:Nat->Value->Prop}{St:Nat->kw->Prop}
abbrev Has (prog:xv)(w:World)(h:Heap)(D:Addr)(ms:List (List Nat)):Prop:=h.SetOf (fq prog w) D (λx=>decide (x.cps.toList∈ms)) ms.length
theorem Has.at {h h':Heap}{D:Addr}{ms:List (List Nat)}(x:Has prog w h D ms)(k:∀ o,h.get? D=some o->h'.get? D=some o):Has prog w h' D ms:=by
 obtain⟨o,es,ep,tb,Z,r⟩:=x;exact⟨o,es,ep,tb,k o Z,r⟩
theorem loop (W:WalksS prog w A.in1 J fp wr G n P St){D:Addr}(hD:D∉fp)(ls:List (List Nat))(hv:∀ i v,P i v->∃ t,v=Value.str (tx (ls.getD i [])) t)(hn:n+1<scanBound) :
  ∀ (k i:Nat) (s:kw),n-i=k->i<=n->St i s->Has prog w s.heap D (eL ls i) ->
   (∀ s',Moved (D::wr) G s s'->Has prog w s'.heap D (eL ls n)->R (.ok (.ret .none)) s')->codeAny (model prog w) A (.builtin "set.update.loop" ⟨[.ref D,.ref J],[]⟩) R s:=by
 have gV:D∉wr:=λz=>hD (W.sub _ z)
 have up:∀ b∈wr,b∈D::wr:=λb hb=>.tail _ hb
 intro k
 induction k with
 | zero =>
  intro i s hk hi st hs hR;obtain rfl:i=n:=by omega
  refine AO gb ?_;rw[Around.under_plainId dh];refine AA (m:=pyNext (.ref J)) (W.done s _ _ st λs2 mv=>?_);exact (show wpAny _ A.in1 (ret Value.none) _ _ s2 from AB (hR s2 (mv.mono up) (hs.at λo e=>mv.heap D o gV e)))
 | succ k ih =>
  intro i s hk hi st hs hR;have Z:i<n:=by omega
  refine AO gb ?_;rw[Around.under_plainId dh];refine AA (m:=pyNext (.ref J)) (W.item i s _ _ Z st λv s2 pv mp mv=>?_);obtain⟨t,rfl⟩:=hv i v pv;have or:=hs.at λo e=>mv.heap D o gV e
  refine AA (m:=holding [Value.str (tx (ls.getD i [])) t] (setAdd D (.str (tx (ls.getD i [])) t))) (AM ?_);unfold setAdd;refine AM (AA ((fq prog w).pyHash (k:=tx (ls.getD i [])) (strKind_is _ _ _ _) ?_));have hl:=qQ ls i;refine wpAny_setAddHashed_of (knd:=fq prog w) (s:={ s2 with toks:=s2.toks+1 }) (strKind_is _ _ _ _) rfl or (by omega) λh3 sb x3=>?_
  have x4:Has prog w h3 D (eL ls (i+1)):=by
   refine lh x3 (λy=>?_) ?_
   ·rw[eL]
    split
    ·rename_i hm
     rw[cu,kf,AI,AI];constructor
     ·rintro (q | q)
      ·exact q
      ·rw[q,dZ]
       exact hm
     ·exact .inl
    ·rw[cu,kf,AI,AI,AI,br,ax]
     constructor
     ·rintro (q | q)
      ·exact .inl q
      ·right
       rw[q,dZ]
     ·rintro (q | q)
      ·exact .inl q
      ·right
       rw[<- q,kD]
   ·rw[dZ,eL]
    by_cases hm:ls.getD i []∈eL ls i
    ·rw[AD hm,AD (AE hm)]
    ·rw[AC hm,AC (by rw[AH hm];exact ag),ai]
     rfl
  refine AB ⟨plainId_quiet dh _,ih (i+1) _ (by omega) Z (W.frame _ s2 _ _ mp (gv _) λb hb o e=>(sb.2 b λz=>hD (z▸hb)).trans e) x4 λs5 m5 x5=>?_⟩;refine hR s5 (Moved.trans W.gtrans ((mv.mono up).then_heap (gv _) λb o hb e=>(sb.2 b λz=>hb (z▸.head _)).trans e) m5) x5
variable {E:Value->kw->Prop}{s:kw}
theorem Vd {l:Addr}{Z:Array Value}{ls:List (List Nat)}{Q:Value->kw->Prop}(hh:A.handled=none)(hl:s.heap.IsList l Z)(hv:∀ i v,Z[i]?=some v->∃ t,v=Value.str (tx (ls.getD i [])) t)(hn:Z.size+1<scanBound)
  (h:∀ (h':Heap) (tk:Nat),Has prog w h' s.heap.objs.size (eL ls Z.size)->(∀ b o,s.heap.get? b=some o->h'.get? b=some o)->Q (.ref s.heap.objs.size) { s with heap:=h',toks:=tk }) :
  wpAny (model prog w) A (call (.type "set") [.ref l]) Q E s:=by
 obtain⟨mc,mt,f0⟩:=F.called_set.mro;have f1:=F.called_set.made;have f2:=F.called_set.sub;have f3:=F.called_set.notType;have f4:=F.called_set.canCreate;have f5:=F.typeCall_set_1 (.ref l);refine AZ (codeAny_of_tree (show wpAny _ _ (callAny (.type "set") _) _ _ _ from AB ⟨Code.quiet_builtin _ (by decide +kernel),AO F.entry_type_call ?_⟩))
 rw[Around.under_plain (weight_type_call_type "set" [.ref l] []) rfl]
 repeat (any_goals (first | wp_step | assumption))
 refine AQ (code_set_new_1 (.ref l) (E:=E) (Q₁:=λob s1=>∃ b:Bool,ob = .ref s.heap.objs.size∧s1 = { s with heap:=s.heap.push { cls:=.type "set",dict:=none,data:=.set #[] 0 (.fresh 0 0 b) } }) λb=>⟨b,rfl,rfl⟩) λr s1 hr=>?_
 cases r with
 | error e=>exact hr
 | ok fl =>
  cases fl with
  | ret ob =>
   obtain⟨b,rfl,rfl⟩:=hr;generalize gV:({ cls:=.type "set",dict:=none,data:=.set #[] 0 (.fresh 0 0 b) }:Obj)=ob
   have hD:(s.heap.push ob).get? s.heap.objs.size=some ob:=AU _ (by rw[<- gV];rfl);have hT:Shared.TypeIs { s with heap:=s.heap.push ob } (.ref s.heap.objs.size) "set" := ⟨_,hD,by rw[<- gV]⟩
   have f6:=F.called_set.init.lookup;have f7:=F.called_set.init.bind (.ref s.heap.objs.size)
   repeat (any_goals (first | wp_step | assumption))
   refine AQ (AR (R:=wants (λr s2=>r = .none∧∃ h' tk,s2 = { s with heap:=h',toks:=tk }∧Has prog w h' s.heap.objs.size (eL ls Z.size)∧∀ b o,s.heap.get? b=some o->h'.get? b=some o) E)
    F.called_set.init.plain F.entry_set_init (check_set_init_1 hT ?_)) λr2 s2 mp=>?_
   ·obtain⟨⟨oc,od,xg,osl⟩,or,wp,nl,wx⟩:=id hl
    simp only at wp wx;subst wp wx;have wz:(s.heap.push ob).get? l=some { cls:=.type "list",dict:=od,data:=.seq Z nl,slots:=osl }:=AT _ or
    have f8:=F.sub_list_set;have f9:=F.sub_list_frozenset;have xh:(Value.type "list" == Value.type "dict")=false:=by decide
    have ww:(s.heap.push ob).IsList l Z:=⟨_,wz,rfl,nl,rfl⟩;subst gV;unfold Builtin.«set.__init__» noKeywords Builtin.Frozenset.updateFrom;generalize xb:pyIter=PI
    wp_walk
    subst xb;refine wpAny_pyIter_list ww ?_;refine AA (wpAny_runValue ?_);have w4:l<s.heap.objs.size:=AV or;have w8:A.in1.in1.in1.handled=none:=by simp[hh]
    have hsz:(s.heap.push { cls:=.type "set",dict:=none,data:=.set #[] 0 (.fresh 0 0 b) }).objs.size=s.heap.objs.size+1:=Heap.size_push _ _
    have xc:l≠(s.heap.push { cls:=.type "set",dict:=none,data:=.set #[] 0 (.fresh 0 0 b) }).objs.size:=by rw[hsz];exact az (fj w4)
    have xf:s.heap.objs.size∉[(s.heap.push { cls:=.type "set",dict:=none,data:=.set #[] 0 (.fresh 0 0 b) }).objs.size,l]:=by
     rw[hsz];intro z;rcases au.mp z with e | e
     ·exact az (gx _) e
     ·exact gn w4 (ax.mp e)
    refine loop ((Walks.list w8 _ l xc Z).toS) (D:=s.heap.objs.size) xf ls hv hn (Z.size-0) 0 _ (by omega) (cc _) ⟨⟨_,AU _ rfl,rfl,rfl⟩,ww.push _⟩ ?_ λs3 mv x3=>?_
    ·have hg:((s.heap.push { cls:=.type "set",dict:=none,data:=.set #[] 0 (.fresh 0 0 b) }).push { cls:=.type "list_iterator",data:=.fields #[.ref l,.int 0 0] }).get? s.heap.objs.size=some { cls:=.type "set",dict:=none,data:=.set #[] 0 (.fresh 0 0 b) }:=AT _ hD
     exact lh ((nw (knd:=fq prog w) b).setOf hg (by unfold scanBound;omega)) (λ_=>rfl) rfl
    ·obtain⟨h3,g3,d3,w6,xa⟩:=s3
     obtain rfl:g3=s.gens:=mv.gens;obtain rfl:d3=s.drawn:=mv.drawn;obtain rfl:xa=s.os:=mv.os;refine AB (show wpAny _ _ (ret Value.none) _ _ _ from AB ⟨rfl,h3,w6,rfl,x3,λc o e=>?_⟩);have hc:=AV e;exact mv.heap c o (show c∉[s.heap.objs.size,(s.heap.push { cls:=.type "set",dict:=none,data:=.set #[] 0 (.fresh 0 0 b) }).objs.size] by
      rw[hsz];intro z;rcases au.mp z with e | e
      ·exact az hc e
      ·exact az (fj hc) (ax.mp e)) (AT _ (AT _ e))
   ·cases r2 with
    | error e=>exact mp
    | ok fl2 =>
     cases fl2 with
     | ret r =>
      obtain⟨rfl,h3,tk,rfl,x3,k3⟩:=mp
      repeat (any_goals (first | wp_step | assumption))
      exact h _ _ x3 k3
     | _=>exact mp.elim
  | _=>exact hr.elim
end
end SE
def By (P:xv)(w:World)(D:Addr)(ms:List (List Nat)):HO:=.ext λh=>SE.Has P w h D ms
section
variable {X:Cx}
theorem Ha {ls:List (List Nat)}{us:List Value}(r:aZ (ls.map T) us){i:Nat}{v:Value}(h:us[i]?=some v):∃ t,v=Value.str (tx (ls.getD i [])) t:=by
 have hl:=r.length;rw[aR] at hl;have hi:i<ls.length:=by have:=(ao.mp h).1;omega
 obtain⟨u,h1,h2⟩:=r.get (i:=i) (x:=T ls[i]) (by rw[ah,aa hi];rfl);rw[h] at h1;cases h1;rw[ak,aa hi];exact h2
theorem Kz (hc:X.calm=true):dR X (.type "set") (λxs H Q=>∃ (p:Addr) (ls:List (List Nat)),xs=[.ref p]∧SqL X.K H p (ls.map T)∧ls.length+1<4096∧∀ D,H D=none->Q (.ref D) (upd H D (By X.prog X.w D (uniq ls)))):=by
 intro pins s σ H xs us Q I r h;obtain⟨p,ls,rfl,hq,hz,q⟩:=h;obtain⟨u,rfl,ru⟩:=fV r;cases ru;obtain⟨gV,rv,pl,_⟩:=I.list hq;have Z:=rv.length;rw[aR] at Z;refine SE.Vd (I.ok.hd hc) pl.isList (ls:=ls) (λi v e=>Ha rv (by simpa using e)) (by rw[aj];unfold scanBound;omega) λh' tk x k=>?_
 have e:eL ls gV.toArray.size=uniq ls:=by rw[aj,<- Z];rfl
 rw[e] at x;have hf:H s.heap.objs.size=none:=I.hok.fresh (af _);refine⟨.ref s.heap.objs.size,_,I.laid (t':=tk) k (af _) (o:=By X.prog X.w s.heap.objs.size (uniq ls)) ?_,rfl,q _ hf⟩;refine⟨x,?_,λh1 h2 x1 kk=>x1.at kk⟩;obtain⟨o,_,_,_,ho,_⟩:=x;exact⟨o,ho⟩
theorem Me:dR X (.builtin "len") (λxs H Q=>∃ (D:Addr) (ms:List (List Nat)),xs=[.ref D]∧H D=some (By X.prog X.w D ms)∧Q (.int (ms.length:Nat)) H):=by
 intro pins s σ H xs us Q I r h;obtain⟨D,ms,rfl,Z,q⟩:=h;obtain⟨u,rfl,ru⟩:=fV r;cases ru;obtain⟨⟨o,es,ep,tb,ho,hex,hd,_,_,hb,hf,hn⟩,_⟩:=(show cF X.prog X.w H s.heap D (By X.prog X.w D ms) from I.hok D _ Z);have gV:es.size<4096:=hb;exact call_len_set ho hex hd hf (by omega) ⟨.int (ms.length:Nat),H,I.tok _,⟨s.toks+1,by rw[<- hn]⟩,q⟩
namespace LM
theorem aBK (a:Int)(t:Tok)(l:Addr)(Z:Array Value)(n:Nat)(dd:Option Addr)(sl:Array (Option Value)) :
  Meets (Builtin.«int.__rmul__» ⟨[.int a t,.ref l],[]⟩) (λ_ R s=>s.heap.get? l=some { cls:=.type "list",dict:=dd,data:=.seq Z n,slots:=sl }∧R (.ok (.ret Value.notImplemented)) s) :=
 .of_wp λprog w A R s z=>by
  obtain⟨hp,g,d,tk,os⟩:=s;obtain⟨hl,z⟩:=z
  wp_walk
  exact⟨_,rfl,z⟩
theorem mul (l:Addr)(Z:Array Value)(n:Nat)(dd:Option Addr)(sl:Array (Option Value))(x:Int)(u:Tok)(c0:¬(!Builtin.List.listFitsIndex x)=true)(c1:¬Z.size*x.toNat>(2 ^ 63-1)/8)(c2:¬Builtin.List.listTooLong (Z.size*x.toNat)=true) :
  Meets (Builtin.«list.__mul__» ⟨[.ref l,.int x u],[]⟩) (λ_ R s=>s.heap.get? l=some { cls:=.type "list",dict:=dd,data:=.seq Z n,slots:=sl } ∧
   R (.ok (.ret (Value.ref s.heap.objs.size))) { s with heap:=s.heap.push { cls:=Value.type "list",data:=Data.seq (tm (λx1 x2=>x1++x2) #[] (cp (if Z.isEmpty=true then 0 else x.toNat) Z)) } }) :=
 .of_wp λprog w A R s z=>by
  obtain⟨hp,g,d,tk,os⟩:=s;obtain⟨hl,z⟩:=z;have hsz:=AutoListH.joined_fits c2
  wp_walk using wpAny_loadPart' hl
  refine wpAny_ite_false (AH (ua.mpr hsz)) ?_
  wp_walk
  exact⟨_,rfl,z⟩
end LM
theorem Ey (K:ac)(Z:X.K=K):dR X (.builtin "len") (λxs H Q=>∃ p ys,xs=[.ref p]∧(SqL K H p ys∨SqT K H p ys)∧Q (.int ys.length) H):=by
 subst Z;exact aW
theorem Li (K:ac)(Z:X.K=K):IxR X (aAJ K):=by
 subst Z;exact bW
theorem Sw:OpR X (binaryOp .Mult) (λx y H Q=>∃ (l:Addr) (k:Int) (xs:List V),x = .ref l∧y = .int k∧SqL X.K H l xs∧(-(2 ^ 63)<=k∧k<2 ^ 63∧xs.length*k.toNat<=sizeLine)∧∀ p,H p=none->Q (.ref p) (upd H p (.lst (cp k.toNat xs).flatten))):=by
 intro pins s σ H x y v u Q I rx ry h;obtain⟨l,k,xs,rfl,rfl,hH,⟨h1,h2,hz⟩,q⟩:=h;cases rx;obtain⟨t,rfl⟩:=ry;obtain⟨Z,r,⟨⟨cls,dd,wx,sl⟩,n,e,hc,wz,hd⟩,z⟩:=I.list hH;simp only at hc hd;subst hc hd;have hl:=r.length;have ww:Z.toArray.size*k.toNat<=sizeLine:=by rw[aj,<- hl];exact hz
 have wp:¬ Z.toArray.size*k.toNat>(2 ^ 63-1)/8:=by
  have:(sizeLine:Nat)<=(2 ^ 63-1)/8:=by decide
  omega
 have mp:¬ (!Builtin.List.listFitsIndex k)=true:=by
  rw[fitsIndex_both h1 h2];exact ag
 have gV:¬ Builtin.List.listTooLong (Z.toArray.size*k.toNat)=true:=by
  rw[Nf ww];exact ag
 have or:tm (λx1 x2=>x1++x2) #[] (cp (if Z.toArray.isEmpty=true then 0 else k.toNat) Z.toArray)=(cp k.toNat Z).flatten.toArray:=by
  have f0:∀ m:Nat,tm (λx1 x2=>x1++x2) #[] (cp m Z.toArray)=(cp m Z).flatten.toArray:=λm=>by
   have:=yJ Z m []
   rw[qy] at this;exact this
  rw[f0]
  cases Z with
  | nil=>simp
  | cons a r'=>rw[AC (by simp)]
 refine wpAny_binaryOp_repeat_ref (T := "list") (U := "int") (by decide) ⟨_,e,rfl⟩ (λs'=>typeIs_int s' k t) noFill_list_mul F.fills_int_mul F.slot_int_rmul repeat_list F.slot_int_index.lookup
  (call_meets F.slot_int_rmul (typeIs_int s k t) F.entry_int_rmul (F.args_int_rmul_2 _ _) (LM.aBK k t l Z.toArray n dd sl)
   ⟨e,rfl,⟨_,e,rfl⟩,call_meets F.slot_list_mul ⟨_,e,rfl⟩ F.entry_list_mul (F.args_list_mul_2 _ _) (LM.mul l Z.toArray n dd sl k t mp wp gV) ⟨e,?_⟩⟩)
 rw[or];exact⟨.ref _,_,I.lnew (t':=s.toks) (r.rep k.toNat) (by rw[Vc,c7];exact hz),rfl,q _ I.fresh⟩
theorem Sy:OpR X (binaryOp .Mult) (λx y H Q=>∃ (l:Addr) (k:Nat) (xs:List V),x = .ref l∧y = .int k∧SqL X.K H l xs∧(k<=sizeLine∧xs.length*k<=sizeLine)∧∀ p,H p=none->Q (.ref p) (upd H p (.lst (cp k xs).flatten))):=by
 intro pins s σ H x y v u Q I rx Z h;obtain⟨l,k,xs,e1,e2,hH,⟨hk,hz⟩,q⟩:=h;have hs:=AG;refine Sw pins s σ H x y v u Q I rx Z ⟨l,(k:Int),xs,e1,e2,hH,⟨by omega,by omega,?_⟩,?_⟩
 ·rw[bj]
  exact hz
 ·rw[bj]
  exact q
end
def Itx (l:List Nat):It:=⟨λi _=>i<l.length,λi H x H'=>H'=H∧∃ c,l[i]?=some c∧x=T [c],λi _=>l.length<=i⟩
theorem Lq {P:xv}{w:World}{K:ac}{tg:Expr}{it:Addr}{ty:String}{l:List Nat}{t:Tok}(Z:ty = "str_ascii_iterator" ∨ ty = "str_iterator")
  (W:∀ A:Around,A.handled=none->Walks P w A it [it] [it] (tx l).cps.size (SignAt (tx l)) (λi h=>h.IsStrIter it ty (tx l) t i)):wQ P w K tg (Itx l) [it] it (λi h=>h.IsStrIter it ty (tx l) t i) where
 mem:=by simp
 obj:=λi h st b hb=>by
  have e:b=it:=by simpa using hb
  subst e;obtain⟨o,e,c,d⟩:=st;exact⟨o,e,λv z=>by rw[d] at z;cases z⟩
 keep:=λi h h' st k=>by
  obtain⟨o,e,r⟩:=st;exact⟨o,k it (by simp) o e,r⟩
 item:=by
  intro X hP hw hK hc i pins s σ H E I hf st hg;subst hP hw hK;obtain⟨f0,f1,f2,f3,f4,f5⟩:=hf it (by simp);refine (W X.A (I.ok.hd hc)).item i s _ _ (by have:i<l.length:=hg;simpa [tx] using this) st λv h' tk hv st' kk=>?_
  obtain⟨c,u,gV,rfl⟩:=hv;have I1:Inv X pins σ H { s with heap:=h',toks:=tk }:=I.turned (λb o hb e=>kk b o (by simpa using hb) e) f0 f1 f3 f4 f5;obtain⟨o,e,cl,d⟩:=id st';refine⟨_,rfl,Ja (s:={ s with heap:=h',toks:=tk }) (n:=ty) e cl d (by rcases Z with rfl | rfl <;> decide) ⟨T [c],H,I1,⟨u,rfl⟩,⟨rfl,c,?_,rfl⟩,st',λb hb=>(hf b hb).1⟩⟩
  simpa [tx] using gV
 done:=by
  intro X hP hw hK hc i pins s σ H E I hf st hg;subst hP hw hK;obtain⟨f0,f1,f2,f3,f4,f5⟩:=hf it (by simp);have hn:l.length<=i:=hg;obtain⟨o,e,cl,d⟩:=id st;rcases Z with rfl | rfl
  ·exact wpAny_pyNext_ascii_end (I.ok.hd hc) st (by simpa [tx] using hn) λh' eb=>⟨rfl,I.turned (t':=s.toks) (λb o hb e=>eb b o hb e) f0 f1 f3 f4 f5⟩
  ·exact wpAny_pyNext_wide_end (I.ok.hd hc) st (by simpa [tx] using hn) λh' eb=>⟨rfl,I.turned (t':=s.toks) (λb o hb e=>eb b o hb e) f0 f1 f3 f4 f5⟩
 self:=λA i s Q E st h=>by
  rcases Z with rfl | rfl
  ·exact wpAny_pyIter_striter_ascii st h
  ·exact wpAny_pyIter_striter_wide st h
def aBH (tl:TE):TI:=λσ H R=>tl σ H λx H1=>∃ l,x=T l∧R (Itx l) H1
section
variable {X:Cx}{tg:Expr}
theorem Mw {e:Expr}{tl:TE}(hl:PE X e tl):PI X tg e (aBH tl):=by
 intro pins s σ H R I h;refine thn (hl pins s σ H _ I h) λv s1 ⟨x,H1,I1,r1,q1⟩=>?_
 obtain⟨l,rfl,q⟩:=q1;obtain⟨t,rfl⟩:=r1;have fin:∀ (ty:String) (o:Obj),(ty = "str_ascii_iterator" ∨ ty = "str_iterator")->(∀ A:Around,A.handled=none->Walks X.prog X.w A s1.heap.objs.size [s1.heap.objs.size] [s1.heap.objs.size] (tx l).cps.size (SignAt (tx l)) (λi h=>h.IsStrIter s1.heap.objs.size ty (tx l) t i)) ->
   (s1.heap.push o).IsStrIter s1.heap.objs.size ty (tx l) t 0->PIE X pins σ tg R (.ref s1.heap.objs.size) { s1 with heap:=s1.heap.push o }:=λty o Z W st=>by
  refine⟨s1.heap.objs.size,[s1.heap.objs.size],_,_,H1,rfl,I1.kept (t':=s1.toks) λb o e=>AT _ e,Lq Z W,st,λb hb=>?_,q⟩;have e:b=s1.heap.objs.size:=by simpa using hb
  subst e;exact I1.fpOk (af _) (I1.hok.fresh (af _))
 cases ha:(tx l).cps.all (· < 128)
 ·exact wpAny_pyIter_wide ha (fin "str_iterator" _ (.inr rfl) (λA hA=>Walks.strWide hA _ (tx l) t) ⟨_,AU _ rfl,rfl,rfl⟩)
 ·exact wpAny_pyIter_ascii ha (fin "str_ascii_iterator" _ (.inl rfl) (λA hA=>Walks.strAscii hA _ (tx l) t) ⟨_,AU _ rfl,rfl,rfl⟩)
end
theorem Ew {l:List Nat}{g:TG}{tb:TS}{D:jJ}{σ:St}{H:Hp}(Z:Nat->St->Hp->Prop)(h0:Z 0 σ H)
  (hs:∀ i c σ H,l[i]?=some c->Z i σ H->g (T [c]) σ H λσ2 H2=>tb { D with nx:=Z (i+1),ct:=Z (i+1),bk:=D.nx } σ2 H2) (hd:∀ σ H,Z l.length σ H->D.nx σ H) :
  ∃ W:Nat->Nat->St->Hp->Prop,(∃ m,W 0 m σ H)∧∀ i m σ H,W i m σ H ->
   ((Itx l).stop i H∧D.nx σ H)∨((Itx l).go i H∧∃ N:St->Hp->Prop,(∀ σ' H',N σ' H'->∃ m',m'<m∧W (i+1) m' σ' H')∧∀ x H',(Itx l).yld i H x H'->g x σ H' λσ2 H2=>tb { D with nx:=N,ct:=N,bk:=D.nx } σ2 H2):=by
 refine⟨λi m σ H=>m=l.length-i∧i<=l.length∧Z i σ H,⟨l.length,by simp,cc _,h0⟩,?_⟩;rintro i m σ H ⟨rfl,hi,p⟩;by_cases hlt:i<l.length
 ·refine .inr ⟨hlt,Z (i+1),λσ' H' p'=>⟨l.length-(i+1),by omega,rfl,hlt,p'⟩,λx H' y=>?_⟩
  obtain⟨rfl,c,hc,rfl⟩:=y;exact hs i c σ _ hc p
 ·obtain rfl:i=l.length:=by omega
  exact .inl ⟨af _,hd σ H p⟩
section
variable {X:Cx}
theorem Es:OpR X (compareOp .NotIn) (λx y H Q=>∃ c,x=T [c]∧∃ l,y=T l∧Q (.bl (!decide (c∈l))) H):=by
 intro pins s σ H x y v u Q I rx Z h;obtain⟨c,e1,l,e2,q⟩:=h;exact zJ pins s σ H x y v u Q I rx Z ⟨tx [c],tx l,e1,e2,by rw[show tx [c]=⟨#[c]⟩ from rfl,StrLaws.found_one,dZ];exact q⟩
end
open PySem.W in
structure Knd (K:ac)(C:Addr):Prop where
 ga:findIn K (.ref C) "__getattribute__" = some (some (.builtin "BaseException.__getattribute__"))
 hk:findIn K (.ref C) "__getattr__" = some none
 ha:findIn K (.ref C) "__class__" = some (some (.builtin "object.__class__"))
 hn:specialIn K (.builtin "object.__class__") "__get__" = some (some (.builtin "getset_descriptor.__get__"))
 htk:takesIn K (.builtin "object.__class__")=some true
 hm:mroIn K C (.type "object")=some true
 hb:mroIn K C (.type "BaseException")=some true
 cl:(clsIn K C).isSome=true
namespace EX
open PySem.W PySem.Calls PySem.Builtin PySem.Builtin.ObjectAttr PySem.Builtin.Getset_descriptor
variable {prog:xv}{w:World}{A:Around}{E:Value->kw->Prop}{s:kw}{K:ac}{a C:Addr}
theorem ty {M:Model}{h:Heap}(p:∃ o,h.get? a=some o∧o.cls = .ref C):Looks M h (typeOf (.ref a)) (.ref C):=by
 obtain⟨o,h1,h2⟩:=p;exact h2▸(Looks.ld h1).andThen .now
theorem aAQ {M:Model}{h:Heap}(X:K.In h)(k:Knd K C):Looks M h (find (.ref a) (.ref C) "__class__") (.bind (.builtin "getset_descriptor.__get__") (.builtin "object.__class__")):=by
 have Z:=looks_findIn (M:=M) X k.ha;have L2:Looks M h (getOf (some (.builtin "object.__class__"))) (some (.builtin "getset_descriptor.__get__")):=looks_specialIn X k.hn
 have L3:=looks_takesIn (M:=M) X k.htk;refine Z.andThen (L2.andThen ?_);exact (show Looks M h (dataDescriptor? (some (.builtin "object.__class__")) (some (.builtin "getset_descriptor.__get__"))) (some (.builtin "getset_descriptor.__get__",.builtin "object.__class__")) from L3.andThen .now).andThen (Looks.tag .now)
theorem get {tp:Value}{R:Result->kw->Prop}(X:K.In s.heap)(k:Knd K C)(p:∃ o,s.heap.get? a=some o∧o.cls = .ref C)(h:R (.ok (.ret (.ref C))) s) :
  codeAny (model prog w) A (.call (.builtin "getset_descriptor.__get__") ⟨[.builtin "object.__class__",.ref a,tp],[]⟩) R s:=by
 obtain⟨Z,g,dr,t,os⟩:=s;have L0:=ty (M:=model prog w) p;have L1:=looks_mroIn (M:=model prog w) X k.hm;refine AR KF.slot_gs.plain KF.entry_gs (KF.slot_gs.check _ _ _ _ _ _ _ _ KF.type_class (KF.args_gs _ _ _) ?_);unfold Builtin.«getset_descriptor.__get__» descrGet;rw[dga_obj];refine AA (AB ?_);unfold descrGetter descrCheckInstance descrNameAndClass isInstance;simp only [KF.owner_class]
 repeat lk
 refine⟨Code.quiet_builtin _ (by decide +kernel),AO KF.entry_class ?_⟩;unfold Builtin.«object.__class__» shownTypeOf
 repeat lk
 exact h
theorem aBF {Q:Option Value->kw->Prop}(X:K.In s.heap)(k:Knd K C)(p:∃ o,s.heap.get? a=some o∧o.cls = .ref C)(h:Q (some (.ref C)) { s with toks:=s.toks+1 }) :
  wpAny (model prog w) A (getAttr? (.ref a) "__class__") Q E s:=by
 obtain⟨hh,g,d,t,os⟩:=s;have Z:=ty (M:=model prog w) p;have L1:=looks_findIn (M:=model prog w) X k.ga;have L2:=looks_findIn (M:=model prog w) X k.hk;have L3:=aAQ (M:=model prog w) (a:=a) X k;have L4:=looks_mroIn (M:=model prog w) X k.hb;unfold getAttr? getAttrBy? getAttrBy;refine AA (wpAny_mkText (AA (wpAny_attempt (AM (AA (Z.at (AA (L1.at ?_))))))))
 dsimp only
 have hx:(Value.builtin "BaseException.__getattribute__" == Value.builtin "object.__getattribute__")=false:=by decide +kernel
 rw[AC (by rw[hx,ij];exact ag)];unfold getAttrByItsOwn hookBefore;refine AA (L2.at (AA (wpAny_attempt (AM ?_))));unfold callGetattribute boundAndCalled;rw[AC (show ¬ (false&&onTheHeap (Value.builtin "BaseException.__getattribute__"))=true by decide)]
 refine AA (AY (F.attr_ValueError.ga.bind (.ref a)) ?_);have gV:builtinKind "BaseException.__getattribute__" = some .slot:=by decide +kernel
 have or:splitId "BaseException.__getattribute__" = some ("BaseException", "__getattribute__"):=by decide +kernel
 have mp:=F.args_bexc_ga (.ref a) (.str "__class__" t)
 refine AZ (AR F.attr_ValueError.ga.plain F.entry_bexc_ga ?_);simp only [checkBuiltinCall,gV,or];unfold isInstance;refine AA (AA (Z.at (L4.at ?_)));rw[AC (by decide)];refine AY mp ?_;show wpAny _ A.in1 («object.__getattribute__» ⟨[.ref a,.str "__class__" t],[]⟩) _ _ _
 unfold «object.__getattribute__» slotArgs attrName
 iterate 8 lk
 refine AA (AB (AA (Z.at (AA (L3.at ?_)))))
 dsimp only
 unfold bindTo;refine AA (AM (AZ (get (a:=a) (C:=C) X k p (show wpAny _ _ (ret (Value.ref C)) _ _ _ from AB (handed_on rfl (AB h))))))
theorem kit (k:Knd K C):KitX K (.ref a) (.ref C) (λh=>∃ o,h.get? a=some o∧o.cls = .ref C) where
 ty:=λ_ _ _ p=>ty p
 it:=λ_ _ X _=>by
  obtain⟨cd,Z⟩:=g7.mp k.cl;unfold clsIn at Z;split at Z
  ·rename_i ho
   intro A' Q' E' s' kp q;unfold isType loadHead;exact AA (wpAny_loadPart (kp _ _ (X _ _ ho)) (AB q))
  ·cases Z
 ne:=λh tp dd mp n sl X gV=>by
  obtain⟨cd,Z⟩:=g7.mp k.cl;refine km.mpr λq=>?_
  obtain rfl:C=tp:=Value.ref.inj (AK.mp q);unfold clsIn at Z;split at Z
  ·rename_i ho
   have z:=(X _ _ ho).symm.trans gV;cases z
  ·cases Z
 ca:=λX p h=>aBF X k p h
end EX
section
variable {X:Cx}
def Zn:Value->Option V
 | .ref c=>some (.ref c)
 | .type n=>some (.ty n)
 | _=>none
theorem Np {c:Value}{v:V}{u:Value}(h:Zn c=some v)(r:bE v u):u=c:=by
 cases c <;> first
  | (cases h;exact r)
  | cases h
theorem xV:∀ {Z:List Addr} {us:List Value},aZ (Z.map V.ref) us->us=Z.map Value.ref
 | [],_,r=>by cases r;rfl
 | c::Z,us,r=>by
  rw[ap] at r
  cases r with
  | cons r1 r2 =>
   cases r1;rw[xV r2];rfl
end
section
variable {X:Cx}{es:List Expr}{te:TE}{t:TA}
theorem Vt {c:Const}{j:Nat}{p:Pos}(ha:PE X (.Constant c j p) te)(Z:PA X es t):PA X (.Constant c j p::es) (yW te t):=aA ha Z rfl
theorem aAA {x:Str}{p:Pos}(ha:PE X (.Name x p) te)(Z:PA X es t):PA X (.Name x p::es) (yW te t):=aA ha Z rfl
theorem Yy {as:List Expr}{k}{p:Pos}(ha:PE X (.Tuple as k p) te)(Z:PA X es t):PA X (.Tuple as k p::es) (yW te t):=aA ha Z rfl
def Qt:List ((Int×Nat×Pos)×(Int×Nat×Pos)×Nat×Pos)->List Expr
 | []=>[]
 | ((i,j,p),(i',j',p'),k,q)::r=>.Tuple [.Constant (.int i) j p,.Constant (.int i') j' p'] k q::Qt r
def Fv:List (Int×Int)->TA
 | []=>λ_ H Q=>Q [] H
 | (a,b)::r=>λσ H Q=>∀ t,H t=none->Fv r σ (upd H t (.tup [.int a,.int b])) λvs H1=>Q (.ref t::vs) H1
theorem Dv:∀ l:List ((Int×Nat×Pos)×(Int×Nat×Pos)×Nat×Pos),PA X (Qt l) (Fv (l.map λx=>(x.1.1,x.2.1.1)))
 | []=>aD
 | ((i,j,p),(i',j',p'),k,q)::r=>λpos pins s σ H Q I h=>by
  have h0:PE X (.Tuple [.Constant (.int i) j p,.Constant (.int i') j' p'] k q) (Zm (yW (tC (.int i)) (yW (tC (.int i')) Rq))):=qM (Vt aH (Vt aH aD));refine Yy (X:=X) h0 (Dv r) pos pins s σ H Q I ⟨?_,λt Z=>h t Z⟩;have hs:=AG;show 2<=sizeLine;omega
theorem yP:∀ (l:List (Int×Int)) {σ:St} {H:Hp} {Q:List V->Hp->Prop},
  (∀ vs H1,vs.length=l.length->aL H H1->(∀ (j:Nat) (p:Int×Int),l[j]?=some p->∃ t,vs[j]?=some (.ref t)∧H1 t=some (.tup [.int p.1,.int p.2]))->Q vs H1)->Fv l σ H Q
 | [],_,H,_,h=>h [] H rfl (aL.refl _) λj p e=>by cases e
 | (a,b)::r,σ,H,Q,h=>λt ht=>by
  refine yP r λvs H1 hl Z hv=>h (.ref t::vs) H1 (by rw[ar,hl,ar]) (λc o e=>Z c o (by rw[aG (aI e ht)];exact e)) λj p e=>?_
  cases j with
  | zero =>
   have e':(a,b)=p:=by simpa using e
   subst e';exact⟨t,rfl,Z t _ aC⟩
  | succ j =>
   obtain⟨t',h1,h2⟩:=hv j p (by simpa using e);exact⟨t',by simpa using h1,h2⟩
end
end L2
namespace L2
open PySem
section
variable {X:Cx}{N':List Str}{scope:Scope}{x:Str}{px:Pos}{elt iter cd:Expr}{pos:Pos}{te:TE}{tc:TT}{wi:TI}
theorem vW (S:cG X.N N' X.env.scope scope x)(hc:X.calm=true)(hi:PI X (.Name x px) iter wi)(Z:∀ cl C s H fp,PT (bX X N' scope cl C s H fp) cd tc)(he:∀ cl C s H fp,PE (bX X N' scope cl C s H fp) elt te)
  (hs:∀ x,foldedSetIterable iter X.env x=pure x:=by intro _;rfl):PE X (.ListComp elt [⟨.Name x px,iter,[cd],0⟩] scope pos) (Oj wi tc te) :=
 Do (at':=λσ Q=>iU tc te σ Q) S hc hi (λcl C s H fp=>Iv (Z cl C s H fp)) he (λ_ _ _ _ h=>h) hs
theorem iR {i:Nat}{y:Str}{py Z:Pos}(S:cG X.N N' X.env.scope scope x)(hc:X.calm=true)(hi:PI X (.Name x px) iter wi)(ht:∀ cl C s H fp,PT (bX X N' scope cl C s H fp) cd tc)(he:∀ cl C s H fp,PE (bX X N' scope cl C s H fp) elt te)
  (hN:X.N.Nodup) (hy:X.N[i]?=some y) (mp:X.env.scope.names.lookup y=some .local)
  (gV:swapsWith (.ListComp elt [⟨.Name x px,iter,[cd],0⟩] scope pos) (some (.Name y py)) Z.line X.env=pure true:=by rfl)
  (hs:∀ x,foldedSetIterable iter X.env x=pure x:=by intro _;rfl):PS X (.Assign [.Name y py] (.ListComp elt [⟨.Name x px,iter,[cd],0⟩] scope pos) Z) (Pa (Oj wi tc te) (yT i)) :=
 rX (at':=λσ Q=>iU tc te σ Q) S hc hi (λcl C s H fp=>Iv (ht cl C s H fp)) he (λ_ _ _ _ h=>h) hN hy mp gV hs
end
theorem rT {α:Type}(p:α->Bool)(l:List α)(i:Nat)(v:α)(h:l[i]?=some v):(l.take (i+1)).filter p=(l.take i).filter p++(if p v then [v] else []):=by
 rw[cn,h,j8];cases hp:p v <;> simp[hp]
theorem sC {α:Type}(p:α->Bool)(l:List α)(i:Nat):((l.take i).filter p).length<=i:=by
 have h1:=df p (l.take i);rw[cj] at h1;omega
theorem Mf (w:List Nat)(k:Nat):gX w none (some (k:Int))=w.take k:=by
 unfold gX;rw[HT.fR,HT.iI,kz,qj];by_cases h:k<=w.length
 ·rw[er h]
 ·rw[Nat.min_eq_right (by omega),cr,b9 (by omega)]
end L2
set_option autoImplicit false
namespace SR
open PySem PyProof.Rows
structure SB (kd:SortKind)(z:Array Keyed)(st:SortSt):Prop where
 prm:(arrOf st).Perm z
 knd:kindOf st=kd
 ffl:failedOf st=none
def Up (κ:KeyKind)(xs:Array Keyed)(l r:Nat):Prop:=∀ i j,l<=i->i<=j->j<r->κ.kle (KK κ xs i) (KK κ xs j)
structure Kp (lo:Nat)(st st':SortSt):Prop where
 low:∀ k,k<lo->(arrOf st')[k]?=(arrOf st)[k]?
 pen:pendingOf st'=pendingOf st
end SR
set_option autoImplicit false
namespace SR
open PySem PyProof.Rows
def aAp:Bool->Keyed->Array Keyed->Nat->Nat->Nat->StateT SortSt Sem (Option Nat):=sortPriv% PySem.Builtin.gallop
def bq (left:Bool)(Z:Keyed)(arr:Array Keyed)(base:Nat)(i:Nat):StateT SortSt Sem (Option Bool):=do
 let x <- elem' arr (base+i)
 if left then lt' x Z else return (<- lt' Z x).map (!·)
end SR
set_option autoImplicit false
namespace SR
open PySem PyProof.Rows
structure Ev (st st':SortSt):Prop where
 knd:kindOf st'=kindOf st
 arr:arrOf st'=arrOf st
 pen:pendingOf st'=pendingOf st
 ffl:failedOf st'=failedOf st
end SR
set_option autoImplicit false
set_option autoImplicit false
namespace SR
open PySem PyProof.Rows
def rt (a:Array Keyed)(n:Nat):List Keyed:=(a.toList.take n).reverse
section
variable {prog:xv}{w:World}{A:Around}{E:Value->kw->Prop}{s:kw}{κ:KeyKind}{kd:SortKind}
abbrev aAI:=Option (Array Keyed)×Nat×Nat×Array Keyed×Nat×Nat×Nat
def hi3 (a b o:Array Keyed)(i j g p q:Nat):StateT SortSt Sem (ForInStep aAI):=do
 let x <- elem' a (i-1)
 if (i-1==0)=true then pure (ForInStep.done (some (a.extract 0 (i-1)++b.extract 0 j++(o.push x).reverse),i-1,j,o.push x,g,p,q))
 else if (decide (p<7)&&decide (q<7))=true then pure (ForInStep.done (none,i-1,j,o.push x,g,p,q)) else pure (ForInStep.yield (none,i-1,j,o.push x,g,p,q))
def hi2 (a b o:Array Keyed)(i j g p q:Nat):StateT SortSt Sem (ForInStep aAI):=do
 let x <- elem' b j
 if (j==1)=true then pure (ForInStep.done (some (b.extract 0 j++a.extract 0 i++(o.push x).reverse),i,j,o.push x,g,p,q))
 else do
  let u <- elem' a (i-1)
  let z <- aAp true u b 0 j (j-1)
  match z with
  | some y =>
   if j-y>0 then
    if (y==1)=true then pure (ForInStep.done (some (b.extract 0 y++a.extract 0 i++(o.push x++(b.extract y j).reverse).reverse),i,y,o.push x++(b.extract y j).reverse,g,p,j-y))
    else if (y==0)=true then pure (ForInStep.done (some (a.extract 0 i++b.extract 0 y++(o.push x++(b.extract y j).reverse).reverse),i,y,o.push x++(b.extract y j).reverse,g,p,j-y))
    else hi3 a b (o.push x++(b.extract y j).reverse) i y g p (j-y)
   else hi3 a b (o.push x) i j g p (j-y)
  | _=>pure (ForInStep.done (some (a.extract 0 i++b.extract 0 j++(o.push x).reverse),i,j,o.push x,g,p,q))
end
end SR
set_option autoImplicit false
namespace SR
open PySem PyProof.Rows
def sg (xs:Array Keyed)(l n:Nat):List Keyed:=(xs.toList.drop l).take n
end SR
set_option autoImplicit false
set_option autoImplicit false
namespace SR
open PySem PyProof.Rows
def Stk (κ:KeyKind)(xs:Array Keyed):Nat->List (Nat×Nat×Nat)->Nat->Prop
 | s,[],e=>s=e
 | s,t::r,e=>t.1=s∧1<=t.2.1∧Up κ xs s (s+t.2.1)∧Stk κ xs (s+t.2.1) r e
end SR
set_option autoImplicit false
namespace L2
open PySem PyProof.Rows PySem.Spec
section
variable {X:Cx}
theorem rY {x:V}:∀ {xs:List V} {us:List Value},aZ xs us->xs.all iV=true->us.countP (eqU x)=xs.countP (λy=>eqV y x)
 | _,_,.nil,_=>rfl
 | y::xs,u::us,.cons r t,f=>by
  rw[sx,cz] at f;rw[p0,p0,rY t f.2,Gq r f.1]
theorem Kg:MtR X "list.count" (λx xs H Q=>∃ (p:Addr) (ys:List V) (a:V),x = .ref p∧xs=[a]∧SqL X.K H p ys∧ys.all iV=true∧iV a=true∧Q (.int ((ys.countP (λy=>eqV y a):Nat):Int)) H):=by
 intro pins s σ H x xs v us Q I rx rs h;obtain⟨p,ys,a,rfl,rfl,hq,hf,ha,q⟩:=h;cases rx;obtain⟨u,rfl,ru⟩:=fV rs;obtain⟨Z,r,⟨⟨cls,dd,gV,sl⟩,n,ho,hc,mp,hd⟩,hz⟩:=I.list hq;simp only at hc hd;subst hc hd;refine call_meets lv ⟨_,ho,rfl⟩ PySem.F.entry_list_count (PySem.F.args_list_count_2 _ _) (SeqAt.list_countAt p Z.toArray n dd sl u (eqU a))
  ⟨ho,λy hy=>jH ru ha r hf y (by simpa using hy),⟨.int ((ys.countP (λy=>eqV y a):Nat):Int),H,I.tok _,⟨s.toks,by rw[<- rY r hf]⟩,q⟩⟩
theorem yR (hc:X.calm=true):dR X (.builtin "sum") (λxs H Q=>∃ (p:Addr) (ns:List Int),xs=[.ref p]∧SqL X.K H p (ns.map V.int)∧Q (.int ns.sum) H):=by
 intro pins s σ H xs us Q I r h;obtain⟨p,ns,rfl,hq,q⟩:=h;obtain⟨u,rfl,ru⟩:=fV r;cases ru;obtain⟨gV,rv,pl,_⟩:=I.list hq;have Z:=Fs rv;have mp:=Z.numsOf;obtain⟨ys,hx⟩:=Z.allInts.items;have hl:=pl.isList;rw[hx] at hl;have e:preSum (numAt ys) ys.size=ns.sum:=by
  rw[preSum_eq,b9 (by simp)];rw[<- mp,show gV=gV.toArray.toList from by simp,hx,nums_intItems]
 exact sum_intListG (I.ok.hd hc) hl λh' tk t' hk=>⟨.int ns.sum,H,I.kept hk,⟨t',by rw[e]⟩,q⟩
theorem zD (K:ac)(Z:X.K=K):MtR X "list.count" (λx xs H Q=>∃ (p:Addr) (ys:List V) (a:V),x = .ref p∧xs=[a]∧SqL K H p ys∧ys.all iV=true∧iV a=true∧Q (.int ((ys.countP (λy=>eqV y a):Nat):Int)) H):=by
 subst Z;exact Kg
theorem Ng (K:ac)(hK:X.K=K){o e:Expr}{es:List Expr}{to:TE}{t:TA}{name:Str}{apos cpos:Pos}{T id:String}{r:V->List V->Hp->VK->Prop}
  (pa:PlainAttrs T) (slot:Slot T name id) (Z:typeOf (.builtin id)=pure (.type "method_descriptor")) (hm:MtR X id r) (ho:PE X o to) (ha:PA X (e::es) t)
  (b1:attributeBase o name X.env (eval o X.env)=eval o X.env:=by rfl)
  (b2:((backTo cpos (starEach (e::es) X.env)).all (λx=>!x.1)&&(backToKw cpos (keywordEach [] X.env)).all (λx=>x.1.isSome)&&decide ((e::es).length+([]:List Keyword).length+(if ([]:List Keyword).isEmpty then 0 else 1)<30))=true:=by rfl)
  (b3:(apos.endLine==cpos.line)=true:=by rfl) (b4:starEach (e::es) X.env=(false,eval e X.env)::starEach es X.env:=by rfl) (b5:(backTo cpos (starEach es X.env)).any (·.1)=false:=by rfl) :
  PE X (.Call (.Attribute o name apos) (e::es) [] cpos) (tBM K T r to t):=by
 subst hK;exact rS pa slot Z hm ho ha b1 b2 b3 b4 b5
end
section
variable {κ:Type}[DecidableEq κ]
def dF (kvs:List (κ×V))(k:κ):Option V:=(kvs.find? λZ=>decide (Z.1=k)).map (·.2)
def fE (kvs:List (κ×V))(k:κ)(v:V):List (κ×V) :=
 if (kvs.any λZ=>decide (Z.1=k))=true then kvs.map (λZ=>if Z.1=k then (Z.1,v) else Z) else kvs++[(k,v)]
def uI (kvs:List (κ×V))(k:κ):List (κ×V):=kvs.filter λZ=>decide (Z.1≠k)
theorem cV {p:κ×V}{r:List (κ×V)}{k:κ}(e:p.1=k):dF (p::r) k=some p.2:=by simp[dF,jh,e]
theorem cP {p:κ×V}{r:List (κ×V)}{k:κ}(e:¬ p.1=k):dF (p::r) k=dF r k:=by simp[dF,jh,e]
theorem oC (k:κ):∀ kvs:List (κ×V),(kvs.any λZ=>decide (Z.1=k))=(dF kvs k).isSome
 | []=>rfl
 | p::r=>by
  rw[mx];by_cases e:p.1=k
  ·simp only [cV e,AE e,Bool.true_or,Option.isSome_some]
  ·rw[cP e,AH e,Bool.false_or];exact oC k r
theorem Eg (k j:κ)(y:V):∀ kvs:List (κ×V),dF (kvs.map λZ=>if Z.1=k then (Z.1,y) else Z) j=(dF kvs j).map λx=>if j=k then y else x
 | []=>rfl
 | p::r=>by
  have ih:=Eg k j y r;rw[ap];by_cases h:p.1=k
  ·rw[AD h]
   by_cases e:p.1=j
   ·rw[cV (p:=(p.1,y)) e,cV e,iq,AD (e.symm.trans h)]
   ·rw[cP (p:=(p.1,y)) e,cP e,ih]
  ·rw[AC h]
   by_cases e:p.1=j
   ·rw[cV (p:=p) e,cV e,iq,AC (λz=>h (e.trans z))]
   ·rw[cP (p:=p) e,cP e,ih]
theorem yA (k j:κ)(y:V):∀ kvs:List (κ×V),dF kvs k=none->dF (kvs++[(k,y)]) j=if j=k then some y else dF kvs j
 | [],_=>by
  by_cases e:k=j
  ·rw[AD e.symm];exact cV (p:=(k,y)) e
  ·rw[AC (λz=>e z.symm)];exact cP (p:=(k,y)) e
 | p::r,hn=>by
  rw[i8];have hk:¬ p.1=k:=λz=>by rw[cV z] at hn;cases hn
  rw[cP hk] at hn;have Z:=yA k j y r hn;by_cases e:p.1=j
  ·rw[cV e,cV e,AC (λz=>hk (e.trans z))]
  ·rw[cP e,cP e,Z]
theorem Eb (kvs:List (κ×V))(k j:κ)(y:V):dF (fE kvs k y) j=if j=k then some y else dF kvs j:=by
 unfold fE;by_cases a:(kvs.any λZ=>decide (Z.1=k))=true
 ·rw[AD a,Eg]
  rw[oC] at a;by_cases e:j=k
  ·obtain⟨x,hx⟩:=g7.mp a
   rw[AD e,e,hx,iq,AD rfl]
  ·rw[AC e]
   cases dF kvs j with
   | none=>rfl
   | some x=>rw[iq,AC e]
 ·rw[AC a]
  refine yA k j y kvs ?_;rw[oC] at a
  cases q:dF kvs k with
  | none=>rfl
  | some x=>rw[q] at a;exact (a rfl).elim
theorem iP (kvs:List (κ×V))(k:κ)(v:V):(fE kvs k v).length<=kvs.length+1:=by
 unfold fE;split
 ·rw[aR];omega
 ·rw[ai,ar,lm];omega
theorem iE.isSome_eq {o:Option V}{u:Option Value}(r:iE o u):o.isSome=u.isSome:=by
 cases o with
 | none=>cases u with
  | none=>rfl
  | some _=>exact (show False from r).elim
 | some _=>cases u with
  | none=>exact (show False from r).elim
  | some _=>rfl
theorem KV.val {kvs:List (κ×V)}{vs:List (κ×Value)}(r:KV kvs vs)(k:κ):iE (dF kvs k) (valueAt vs k):=by
 unfold KV at r
 induction r with
 | nil=>exact True.intro
 | @cons p q ps qs h t ih =>
  obtain⟨h1,h2⟩:=h;by_cases e:p.1=k
  ·have Z:q.1=k:=h1.symm.trans e
   have b:valueAt (q::qs) k=some q.2:=by simp[valueAt,jh,Z]
   rw[cV e,b];exact h2
  ·have Z:¬ q.1=k:=λz=>e (h1.trans z)
   have b:valueAt (q::qs) k=valueAt qs k:=by simp[valueAt,jh,Z]
   rw[cP e,b];exact ih
theorem KV.any {kvs:List (κ×V)}{vs:List (κ×Value)}(r:KV kvs vs)(k:κ):(kvs.any λZ=>decide (Z.1=k))=vs.any λZ=>decide (Z.1=k):=by
 unfold KV at r
 induction r with
 | nil=>rfl
 | cons h t ih=>rw[mx,mx,ih,h.1]
theorem KV.repl {kvs:List (κ×V)}{vs:List (κ×Value)}(r:KV kvs vs)(k:κ){y:V}{u:Value}(ry:bE y u) :
  KV (kvs.map λZ=>if Z.1=k then (Z.1,y) else Z) (vs.map λZ=>if Z.1=k then (Z.1,u) else Z):=by
 unfold KV at r ⊢
 induction r with
 | nil=>exact .nil
 | @cons p q ps qs h t ih =>
  rw[ap,ap];refine .cons ?_ ih;obtain⟨h1,h2⟩:=h;by_cases e:p.1=k
  ·rw[AD e,AD (h1.symm.trans e)];exact⟨h1,ry⟩
  ·rw[AC e,AC (λz=>e (h1.trans z))];exact⟨h1,h2⟩
theorem KV.put {kvs:List (κ×V)}{vs:List (κ×Value)}(r:KV kvs vs)(k:κ){y:V}{u:Value}(Z:bE y u):KV (fE kvs k y) (stored vs k u):=by
 unfold fE stored;rw[r.any k];by_cases e:(vs.any λkv=>decide (kv.1=k))=true
 ·rw[AD e,AD e];exact r.repl k Z
 ·rw[AC e,AC e];exact Paired.snoc r ⟨rfl,Z⟩
theorem KV.drop {kvs:List (κ×V)}{vs:List (κ×Value)}(r:KV kvs vs)(k:κ):KV (uI kvs k) (without vs k):=by
 unfold KV at r ⊢;unfold uI without
 induction r with
 | nil=>exact .nil
 | @cons p q ps qs h t ih =>
  obtain⟨h1,h2⟩:=h;rw[fu,fu];by_cases e:p.1=k
  ·have a:¬ decide (p.1≠k)=true:=by simp[e]
   have b:¬ decide (q.1≠k)=true:=by simp[h1.symm.trans e]
   rw[AC a,AC b];exact ih
  ·have Z:¬ q.1=k:=λz=>e (h1.trans z)
   have a:decide (p.1≠k)=true:=by simp[e]
   have b:decide (q.1≠k)=true:=by simp[Z]
   rw[AD a,AD b];exact .cons ⟨h1,h2⟩ ih
theorem KV.keys {kvs:List (κ×V)}{vs:List (κ×Value)}(r:KV kvs vs):kvs.map (·.1)=vs.map (·.1):=by
 unfold KV at r
 induction r with
 | nil=>rfl
 | cons h t ih=>rw[ap,ap,ih,h.1]
theorem KV.length {kvs:List (κ×V)}{vs:List (κ×Value)}(r:KV kvs vs):kvs.length=vs.length:=Paired.length r
theorem Pb (kvs:List (κ×V))(k:κ):(uI kvs k).length<=kvs.length:=df _ _
end
theorem nU {P:xv}{w:World}{k:Key}{u:Value}(r:bE (kV k) u):(bF P w).is k u=true:=by
 cases k with
 | inl i=>obtain⟨t,e⟩:=(show ∃ t,u=Value.int i t from r);subst e;exact Dc P w i t
 | inr x=>obtain⟨t,e⟩:=(show ∃ t,u=Value.str x t from r);subst e;exact Bv P w x t
theorem xK {P:xv}{w:World}:∀ {Z:List Key} {us:List Value},aZ (Z.map kV) us->ItemsAre (bF P w) Z us
 | [],_,r=>by rw[lz] at r;cases r;exact .nil
 | k::Z,_,r=>by
  rw[ap] at r
  cases r with
  | cons h t=>exact .cons (nU h) (xK t)
abbrev KT (H:Hp):List (List Key×V)->List (List Key×Addr×Value)->Prop:=Paired λp q=>p.1=q.1∧H q.2.1=some (.tup (p.1.map kV))∧bE p.2 q.2.2
theorem KT.val {H:Hp}{kvs:List (List Key×V)}{xs:List (List Key×Addr×Value)}(r:KT H kvs xs)(k:List Key):iE (dF kvs k) ((atKey xs k).map (·.2)):=by
 induction r with
 | nil=>exact True.intro
 | @cons p q ps qs h t ih =>
  obtain⟨h1,_,h2⟩:=h;by_cases e:p.1=k
  ·have Z:q.1=k:=h1.symm.trans e
   have b:atKey (q::qs) k=some q.2:=by simp[atKey,jh,Z]
   rw[cV e,b];exact h2
  ·have Z:¬ q.1=k:=λz=>e (h1.trans z)
   have b:atKey (q::qs) k=atKey qs k:=by simp[atKey,jh,Z]
   rw[cP e,b];exact ih
theorem KT.repl {H:Hp}{kvs:List (List Key×V)}{xs:List (List Key×Addr×Value)}(r:KT H kvs xs)(k:List Key){y:V}{u:Value}(ry:bE y u) :
  KT H (kvs.map λZ=>if Z.1=k then (Z.1,y) else Z) (xs.map (putAt k u)):=by
 induction r with
 | nil=>exact .nil
 | @cons p q ps qs h t ih =>
  rw[ap,ap];refine .cons ?_ ih;obtain⟨h1,h2,h3⟩:=h;unfold putAt;by_cases e:p.1=k
  ·rw[AD e,AD (h1.symm.trans e)];exact⟨h1,h2,ry⟩
  ·rw[AC e,AC (λz=>e (h1.trans z))];exact⟨h1,h2,h3⟩
theorem KT.put {H:Hp}{kvs:List (List Key×V)}{xs:List (List Key×Addr×Value)}(r:KT H kvs xs)(k:List Key){b:Addr}{y:V}{u:Value}(hb:H b=some (.tup (k.map kV)))(Z:bE y u) :
  KT H (fE kvs k y) (storedH xs k b u):=by
 have e:(kvs.any λkv=>decide (kv.1=k))=(atKey xs k).isSome:=by
  rw[oC,(r.val k).isSome_eq,pb]
 unfold fE storedH;rw[e];by_cases q:(atKey xs k).isSome=true
 ·rw[AD q,AD q];exact r.repl k Z
 ·rw[AC q,AC q];exact Paired.snoc r ⟨rfl,hb,Z⟩
theorem KT.keeps {H H':Hp}{kvs:List (List Key×V)}{xs:List (List Key×Addr×Value)}(r:KT H kvs xs)(Z:∀ b ys,H b=some (.tup ys)->H' b=some (.tup ys)):KT H' kvs xs :=
 Paired.mapP r λ_ _ z=>⟨z.1,Z _ _ z.2.1,z.2.2⟩
section
variable {P:xv}{w:World}{H:Hp}{h:Heap}{a:Addr}
theorem Wa {u:HO}(ok:HOk P w H h)(e:Rd H a u):cF P w H h a u:=e.ok ok
theorem uH {kvs:List (Key×V)}(ok:HOk P w H h)(e:Rd H a (.dK kvs)):kvs.length<=sizeLine∧(a==sysModules)=false∧∃ vs,KV kvs vs∧h.DictOf (bF P w) a vs :=
 show cF P w H h a (.dK kvs) from Wa ok e
theorem oV {kvs:List (Key×V)}(ok:HOk P w H h)(e:H a=some (.dK kvs)):kvs.length<=sizeLine∧(a==sysModules)=false∧∃ vs,KV kvs vs∧h.DictOf (bF P w) a vs:=uH ok (.inl e)
theorem wE {Z:List Key}(ok:HOk P w H h)(e:H a=some (.tup (Z.map kV))):(tupleKind (bF P w)).is h Z a:=by
 obtain⟨_,gV,r,o,h1,h2,n,h3⟩:=(show cF P w H h a (.tup (Z.map kV)) from ok a _ e);exact⟨o,gV.toArray,n,h1,h2,h3,by simpa using xK r⟩
theorem xQ {kvs:List (List Key×V)}(ok:HOk P w H h)(e:Rd H a (.dT kvs)):kvs.length<=sizeLine∧(a==sysModules)=false ∧
  ∃ xs,KT H kvs xs∧h.DictOfH (tupleKind (bF P w)) a xs:=by
 obtain⟨z,y,xs,r,o,es,ep,h1,h2,Z,h4,h5⟩:=(show cF P w H h a (.dT kvs) from Wa ok e);refine⟨z,y,xs,r,o,es,ep,h1,h2,Z,h4,λx hx=>?_,h5⟩;have all:∀ {l:List (List Key×V)} {m:List (List Key×Addr×Value)},KT H l m->∀ x∈m,(tupleKind (bF P w)).is h x.1 x.2.1:=by
  intro l m q
  induction q with
  | nil=>intro x hx;exact nomatch hx
  | @cons p q ps qs hq t ih =>
   intro x hx;rcases au.mp hx with e | hx
   ·subst e
    exact wE ok (by rw[<- hq.1];exact hq.2.1)
   ·exact ih x hx
 exact all r x hx
theorem aAN {kvs:List (List Key×V)}(ok:HOk P w H h)(e:H a=some (.dT kvs)):kvs.length<=sizeLine∧(a==sysModules)=false ∧
 ∃ xs,KT H kvs xs∧h.DictOfH (tupleKind (bF P w)) a xs:=xQ ok (.inl e)
end
def jO (H:Hp)(a:Addr)(y:V)(r:Option V):Prop :=
 (∃ kvs k,Rd H a (.dK kvs)∧y=kV k∧r=dF kvs k)∨∃ kvs k b,Rd H a (.dT kvs)∧y = .ref b∧H b=some (.tup (k.map kV))∧r=dF kvs k
def wM (H:Hp)(a:Addr)(y v:V)(H':Hp):Prop :=
 (∃ kvs k,H a=some (.dK kvs)∧y=kV k∧kvs.length<sizeLine∧H'=upd H a (.dK (fE kvs k v))) ∨
 ∃ kvs k b,H a=some (.dT kvs)∧y = .ref b∧H b=some (.tup (k.map kV))∧kvs.length<sizeLine∧H'=upd H a (.dT (fE kvs k v))
theorem jO.k {H:Hp}{a:Addr}{kvs:List (Key×V)}{k:Key}(e:H a=some (.dK kvs)):jO H a (kV k) (dF kvs k):=.inl ⟨kvs,k,.inl e,rfl,rfl⟩
theorem wM.k {H:Hp}{a:Addr}{kvs:List (Key×V)}{k:Key}{v:V}(e:H a=some (.dK kvs))(hl:kvs.length<sizeLine):wM H a (kV k) v (upd H a (.dK (fE kvs k v))):=.inl ⟨kvs,k,e,rfl,hl,rfl⟩
section
variable {X:Cx}{pins:List (Addr×Obj)}{σ:St}{H:Hp}{s:kw}{a:Addr}{y v:V}{u r:Value}{o:Option V}{A:Around}{E:Value->kw->Prop}
theorem Inv.big (I:Inv X pins σ H s):sysModules<s.heap.objs.size:=by
 have h:mainGlobals<s.heap.objs.size:=(I.mod.glob.keeps I.bk).lt;exact uq (by decide) h
theorem Ku {Q:Value->kw->Prop}(hu:A.units+1<cLine)(I:Inv X pins σ H s)(g:jO H a y (some v))(ry:bE y u)(h:∀ w' s',Inv X pins σ H s'->bE v w'->Q w' s') :
  wpAny (model X.prog X.w) A (getItem (.ref a) u) Q E s:=by
 rcases g with ⟨kvs,k,e,ey,l⟩ | ⟨kvs,k,b,e,ey,eb,l⟩
 ·subst ey
  obtain⟨z,hd,vs,Z,dd⟩:=uH I.hok e;obtain⟨w',hw,gV⟩:=iE.some_of (v:=v) (o:=valueAt vs k) (by rw[l];exact Z.val k);exact wpAny_getItem_of (nU ry) dd.mapOf hw (h w' _ (I.tok _) gV)
 ·subst ey
  cases (show u=Value.ref b from ry);obtain⟨z,hd,xs,Z,dd⟩:=xQ I.hok e;obtain⟨w',hw,gV⟩:=iE.some_of (v:=v) (o:=(atKey xs k).map (·.2)) (by rw[l];exact Z.val k);obtain⟨p,hp,mp⟩:=bz.mp hw;refine wpAny_getItem_heap (tupleKind_room_in1 hu) (wE I.hok eb) dd hp ?_;rw[mp];exact h w' _ (I.tok _) gV
theorem aBW {Q:Value->kw->Prop}(hu:A.units+1<cLine)(I:Inv X pins σ H s)(g:jO H a y o)(ry:bE y u)(h:∀ s',Inv X pins σ H s'->Q (.bool o.isSome) s') :
  wpAny (model X.prog X.w) A (compareOp .In u (.ref a)) Q E s:=by
 rcases g with ⟨kvs,k,e,ey,l⟩ | ⟨kvs,k,b,e,ey,eb,l⟩
 ·subst ey
  obtain⟨z,hd,vs,Z,dd⟩:=uH I.hok e;refine wpAny_in_of (nU ry) hd dd.mapOf ?_;rw[<- (Z.val k).isSome_eq,<- l];exact h _ (I.tok _)
 ·subst ey
  cases (show u=Value.ref b from ry);obtain⟨z,hd,xs,Z,dd⟩:=xQ I.hok e;refine wpAny_in_heap (tupleKind_room_in1 hu) (wE I.hok eb) hd dd ?_;have q:=(Z.val k).isSome_eq;rw[pb] at q;rw[<- q,<- l];exact h _ (I.tok _)
theorem Sz {Q:Value->kw->Prop}(hu:A.units+1<cLine)(I:Inv X pins σ H s)(g:jO H a y o)(ry:bE y u)(h:∀ s',Inv X pins σ H s'->Q (.bool (!o.isSome)) s') :
  wpAny (model X.prog X.w) A (compareOp .NotIn u (.ref a)) Q E s:=by
 rcases g with ⟨kvs,k,e,ey,l⟩ | ⟨kvs,k,b,e,ey,eb,l⟩
 ·subst ey
  obtain⟨z,hd,vs,Z,dd⟩:=uH I.hok e;refine wpAny_notIn_of (nU ry) hd dd.mapOf ?_;rw[<- (Z.val k).isSome_eq,<- l];exact h _ (I.tok _)
 ·subst ey
  cases (show u=Value.ref b from ry);obtain⟨z,hd,xs,Z,dd⟩:=xQ I.hok e;refine wpAny_notIn_heap (tupleKind_room_in1 hu) (wE I.hok eb) hd dd ?_;have q:=(Z.val k).isSome_eq;rw[pb] at q;rw[<- q,<- l];exact h _ (I.tok _)
theorem nV {h':Heap}{t':Nat}{ob:HO}(I:Inv X pins σ H s)(mu:Mut (H a))(hs:Heap.SameBut a s.heap h')(he:∃ q,h'.get? a=some q)(Z:cF X.prog X.w (upd H a ob) h' a ob) :
  Inv X pins σ (upd H a ob) { s with heap:=h',toks:=t' } :=
 I.write (x:=a) (e:=a) mu (.inl rfl) (λb q hb z=>(hs.2 b hb).trans z) he Z
theorem Bt {P:xv}{w:World}{H':Hp}{h':Heap}{kvs:List (Key×V)}{vs:List (Key×Value)}(z:kvs.length<=sizeLine)(hd:(a==sysModules)=false)(Z:KV kvs vs)(dd:h'.DictOf (bF P w) a vs) :
 cF P w H' h' a (.dK kvs):=⟨z,hd,vs,Z,dd⟩
theorem Mc {H':Hp}{Q:Unit->kw->Prop}(hu:A.units+1<cLine)(I:Inv X pins σ H s)(g:wM H a y v H')(ry:bE y u)(rv:bE v r)(h:∀ s',Inv X pins σ H' s'->Q () s') :
  wpAny (model X.prog X.w) A (setItem (.ref a) u r) Q E s:=by
 rcases g with ⟨kvs,k,e,ey,l,eH⟩ | ⟨kvs,k,b,e,ey,eb,l,eH⟩
 ·subst ey eH
  obtain⟨z,hd,vs,Z,dd⟩:=oV I.hok e;have hz:vs.length<=sizeLine:=by rw[<- Z.length];exact z
  have hl:(fE kvs k v).length<=sizeLine:=by have:=iP kvs k v;omega
  refine wpAny_setItem_pairs (hsz:=hz) (nU ry) dd λh' gV hs=>h _ ?_
  have he:∃ q,h'.get? a=some q:=let ⟨q,_,_,hq,_⟩:=gV;⟨q,hq⟩
  exact nV I (by rw[e];exact True.intro) hs he (Bt hl hd (Z.put k rv) gV)
 ·subst ey eH
  cases (show u=Value.ref b from ry);obtain⟨z,hd,xs,Z,dd⟩:=aAN I.hok e;have hz:xs.length<=sizeLine:=by rw[<- Paired.length Z];exact z
  have hl:(fE kvs k v).length<=sizeLine:=by have:=iP kvs k v;omega
  refine wpAny_setItem_heap (hsz:=hz) (tupleKind_room_in1 hu) (wE I.hok eb) dd λh' gV hs=>h _ ?_
  obtain⟨q,es,ep,hq,h2,h3,h4,_,h5⟩:=gV;refine nV I (by rw[e];exact True.intro) hs ⟨q,hq⟩ ⟨hl,hd,_,(Z.put k eb rv).keeps λc ys ec=>?_,q,es,ep,hq,h2,h3,h4,h5⟩;rw[aG (Yw ec e (λz=>nomatch z))];exact ec
end
section
variable {X:Cx}{pins:List (Addr×Obj)}{σ:St}{H:Hp}{s:kw}{a:Addr}{kvs:List (Key×V)}{k:Key}{u:Value}{A:Around}{E:Value->kw->Prop}
theorem aAi {v:V}{more:List Value}{Q:Value->kw->Prop}(I:Inv X pins σ H s)(e:H a=some (.dK kvs))(ry:bE (kV k) u)(l:dF kvs k=some v)(hm:more=[]∨∃ x,more=[x])
  (h:∀ w' s',Inv X pins σ (upd H a (.dK (uI kvs k))) s'->bE v w'->Q w' s'):wpAny (model X.prog X.w) A (call (.builtin "dict.pop") (.ref a::u::more)) Q E s:=by
 obtain⟨z,hd,vs,Z,dd⟩:=oV I.hok e;obtain⟨w',hw,mp⟩:=iE.some_of (v:=v) (o:=valueAt vs k) (by rw[<- l];exact Z.val k);have hp:(keyPart u).isSome=true:=by
  cases k with
  | inl i=>obtain⟨t,q⟩:=(show ∃ t,u=Value.int i t from ry);subst q;rfl
  | inr x=>obtain⟨t,q⟩:=(show ∃ t,u=Value.str x t from ry);subst q;rfl
 have ha:argsOk "dict.pop" ⟨.ref a::u::more,[]⟩:=by
  rcases hm with q | ⟨x,q⟩
  ·subst q;exact PySem.F.args_dict_pop_2 _ _
  ·subst q;exact p8 _ _ _
 refine call_meetsIn mi dd.typeIs ql ha (meets_dict_pop_there (bF X.prog X.w) a (nU ry) more hm hp)
  ⟨vs,w',dd,by rw[<- Z.length];exact z,hw,λh' gV hs=>h w' _ ?_ mp⟩
 have he:∃ q,h'.get? a=some q:=let ⟨q,_,_,hq,_⟩:=gV;⟨q,hq⟩
 exact nV I (by rw[e];exact True.intro) hs he (Bt (a5 (Pb kvs k) z) hd (Z.drop k) gV)
theorem Wx {r:Value}{Q:Value->kw->Prop}(I:Inv X pins σ H s)(e:H a=some (.dK kvs))(Z:bE (kV k) u)(l:dF kvs k=none)(h:∀ s',Inv X pins σ H s'->Q r s') :
  wpAny (model X.prog X.w) A (call (.builtin "dict.pop") [.ref a,u,r]) Q E s:=by
 obtain⟨z,hd,vs,gV,dd⟩:=oV I.hok e;have hn:valueAt vs k=none:=iE.none_of (by rw[<- l];exact gV.val k);have hp:(keyPart u).isSome=true:=by
  cases k with
  | inl i=>obtain⟨t,q⟩:=(show ∃ t,u=Value.int i t from Z);subst q;rfl
  | inr x=>obtain⟨t,q⟩:=(show ∃ t,u=Value.str x t from Z);subst q;rfl
 exact call_meetsIn mi dd.typeIs ql (p8 _ _ _) (meets_dict_pop_default (bF X.prog X.w) a (nU Z) hd hp r) ⟨vs,dd,hn,h _ (I.tok _)⟩
theorem aAK {Q:Value->kw->Prop}(I:Inv X pins σ H s)(e:Rd H a (.dK kvs))(h:∀ t s',Inv X pins σ H s'->Q (.int kvs.length t) s'):wpAny (model X.prog X.w) A (call (.builtin "len") [.ref a]) Q E s:=by
 obtain⟨z,hd,vs,Z,dd⟩:=uH I.hok e;refine call_len_dict hd dd (by rw[<- Z.length];rw[AG] at z;omega) ?_;rw[<- Z.length];exact h _ _ (I.tok _)
end
def Zr (i:Expr):Prop:=∀ Z iv,subscripted i false Z iv=operate [Z,iv] (getItem Z iv)
theorem To {prog:xv}{w:World}{A:Around}{E:Value->kw->Prop}{s:kw}{env:Env}{value Z:Expr}{pos:Pos}{T id:String}{Q:Value->kw->Prop}
  (hl:typeLookup (.type T) "__getitem__" = pure (some (.builtin id))) (hs:Zr Z)
  (h:wpAny (model prog w) A (eval value env) (λo s₁=>wpAny (model prog w) A (eval Z env) (λi s₂=>s₂.TypeIs o T∧wpAny (model prog w) A (getItem o i) Q E s₂) E s₁) E s) :
  wpAny (model prog w) A (eval (.Subscript value Z pos) env) Q E s:=by
 refine Subscript_ (AJ h (λo s₁ h₁=>AJ h₁ (λi s₂ h₂=>?_) λ_ _ x=>x) λ_ _ x=>x);obtain⟨hT,h₂⟩:=h₂;unfold subscriptTail;refine AA ?_;rw[getitemInPython_of_ne hT.not_modules];refine AA (wpAny_specialOf hT hl ?_);have fin:wpAny (model prog w) A (subscripted Z false o i) (λr s₃=>wpAny (model prog w) A (letTemporaryGo value o r >>= λ_=>pure r) Q E s₃) E s₂:=by
  rw[hs o i];exact wpAny_operating (AJ h₂ (λr s₃ h₃=>AA (wpAny_letTemporaryGo (AB h₃))) λ_ _ x=>x)
 first
  | exact AB (AA fin)
  | exact AA (AB (AA fin))
  | exact AA fin
theorem Ei {X:Cx}{pins:List (Addr×Obj)}{σ:St}{H:Hp}{s:kw}{a:Addr}{y:V}{o:Option V}(I:Inv X pins σ H s)(g:jO H a y o):s.TypeIs (.ref a) "dict" := by
 rcases g with ⟨kvs,k,e,_,_⟩ | ⟨kvs,k,b,e,_,_,_⟩
 ·obtain⟨_,_,vs,_,dd⟩:=uH I.hok e
  exact dd.typeIs
 ·obtain⟨_,_,xs,_,dd⟩:=xQ I.hok e
  exact dd.typeIs
def Zd (td ty:TE):TE:=λσ H Q=>td σ H λx H1=>ty σ H1 λy H2=>∃ a v,x = .ref a∧jO H2 a y (some v)∧Q v H2
def aBT (ty td:TE):TE:=λσ H Q=>ty σ H λy H1=>td σ H1 λx H2=>∃ a o,x = .ref a∧jO H2 a y o∧Q (.bl o.isSome) H2
def Tz (ty td:TE):TE:=λσ H Q=>ty σ H λy H1=>td σ H1 λx H2=>∃ a o,x = .ref a∧jO H2 a y o∧Q (.bl (!o.isSome)) H2
def Zo (td ty tv:TE):TS:=λD σ H=>tv σ H λv H1=>td σ H1 λx H2=>ty σ H2 λy H3=>∃ a Z,x = .ref a∧wM H3 a y v Z∧D.nx σ Z
section
variable {X:Cx}{o i e value:Expr}{pos pos' tpos:Pos}{td ty tv:TE}
theorem tK (hu:X.A.units+1<cLine)(ho:PE X o td)(hi:PE X i ty)(hs:Zr i):PE X (.Subscript o i pos) (Zd td ty):=by
 intro pins s σ H Q I h;refine To PySem.F.slot_dict_getitem.lookup hs (thn (ho pins s σ H _ I h) λu s1 ⟨x,H1,I1,rx,q1⟩=>thn (hi pins s1 σ H1 _ I1 q1) λiv s2 ⟨y,H2,I2,ry,a,v,ex,g,q2⟩=>?_);subst ex;obtain rfl:u=Value.ref a:=rx;exact⟨Ei I2 g,Ku hu I2 g ry λw' s3 I3 Z=>⟨v,H2,I3,Z,q2⟩⟩
theorem Fy (Z:X.A.units+1<cLine)(hi:PE X i ty)(ho:PE X o td):PC X .In i o (aBT ty td):=by
 intro pins s σ H Q I h;refine thn (hi pins s σ H _ I h) λiv s1 ⟨y,H1,I1,ry,q1⟩=>thn (ho pins s1 σ H1 _ I1 q1) λu s2 ⟨x,H2,I2,rx,a,ov,ex,g,q2⟩=>?_
 subst ex;obtain rfl:u=Value.ref a:=rx;exact aBW Z I2 g ry λs3 I3=>⟨.bl ov.isSome,H2,I3,rfl,q2⟩
theorem yU (Z:X.A.units+1<cLine)(hi:PE X i ty)(ho:PE X o td):PC X .NotIn i o (Tz ty td):=by
 intro pins s σ H Q I h;refine thn (hi pins s σ H _ I h) λiv s1 ⟨y,H1,I1,ry,q1⟩=>thn (ho pins s1 σ H1 _ I1 q1) λu s2 ⟨x,H2,I2,rx,a,ov,ex,g,q2⟩=>?_
 subst ex;obtain rfl:u=Value.ref a:=rx;exact Sz Z I2 g ry λs3 I3=>⟨.bl (!ov.isSome),H2,I3,rfl,q2⟩
theorem tI (hu:X.A.units+1<cLine)(ho:PE X o td)(hi:PE X i ty)(hv:PE X value tv)(hs:swapsWith value (some (.Subscript o i pos')) pos.line X.env=pure false) :
  PS X (.Assign [.Subscript o i pos'] value pos) (Zo td ty tv):=by
 intro pins s σ H D I h;refine wpAny_Assign_Subscript (thn (hv pins s σ H _ I h) λr s1 ⟨v,H1,I1,rv,q1⟩=>thn (ho pins s1 σ H1 _ I1 q1) λu s2 ⟨x,H2,I2,rx,q2⟩=>thn (hi pins s2 σ H2 _ I2 q2) λiv s3 ⟨y,H3,I3,ry,a,H4,ex,g,q3⟩=>?_) hs;subst ex;obtain rfl:u=Value.ref a:=rx;exact Mc hu I3 g ry rv λs4 Z=>⟨σ,H4,Z,q3⟩
end
theorem Ec {P:xv}{w:World}{H:Hp}(h:Heap)(hb:sysModules<h.objs.size):cF P w H (h.push { cls:=.type "dict",data:=.dict #[] }) h.objs.size (.dK []) :=
 ⟨cc _,beq_eq_false_iff_ne.mpr (Ne.symm (az hb)),[],.nil,Heap.DictOf.new h⟩
def Wq:TE:=λ_ H Q=>∀ p,H p=none->Q (.ref p) (upd H p (.dK []))
section
variable {X:Cx}{pos:Pos}
theorem vN:PE X (.Dict [] [] pos) Wq:=λpins s σ H Q I h =>
 wpAny_Dict_empty ⟨.ref s.heap.objs.size,_,I.laid (a:=s.heap.objs.size) (o:=.dK []) (t':=s.toks) (λ_ _ q=>AT _ q) (af _) (Ec s.heap I.big),rfl,h _ (I.hok.fresh (af _))⟩
end
def zU:List (TE×TE)->St->Hp->(List (V×V)->Hp->Prop)->Prop
 | [],_,H,Q=>Q [] H
 | (tk,tv)::r,σ,H,Q=>tk σ H λx H1=>tv σ H1 λy H2=>zU r σ H2 λps Z=>Q ((x,y)::ps) Z
abbrev VV:List (V×V)->List (Value×Value)->Prop:=Paired λp q=>bE p.1 q.1∧bE p.2 q.2
def PPs (X:Cx)(pos:Pos)(keys:List (Option Expr))(Z:List Expr)(trs:List (TE×TE)):Prop :=
 ∀ (pins:List (Addr×Obj)) (s:kw) (σ:St) (H:Hp) (Q:List (V×V)->Hp->Prop),Inv X pins σ H s->zU trs σ H Q ->
  wpAny (model X.prog X.w) X.A (evalPairs (pairTrees keys Z X.env pos)) (λvs s'=>∃ ps H',Inv X pins σ H' s'∧VV ps vs∧Q ps H') X.xe s
theorem Sn {X:Cx}{pos:Pos}:PPs X pos [] [] []:=λpins s σ H Q I h=>pairTrees_nil_walk ⟨[],H,I,.nil,h⟩
theorem Ny {X:Cx}{pos:Pos}{k v:Expr}{ks:List (Option Expr)}{vs:List Expr}{Z tv:TE}{trs:List (TE×TE)}(hk:PE X k Z)(hv:PE X v tv)(hr:PPs X pos ks vs trs) :
  PPs X pos (some k::ks) (v::vs) ((Z,tv)::trs):=λpins s σ H Q I h =>
 pairTrees_cons_walk (thn (hk pins s σ H _ I h) λu s1 ⟨x,H1,I1,rx,q1⟩=>thn (hv pins s1 σ H1 _ I1 q1) λw2 s2 ⟨y,H2,I2,ry,q2⟩ =>
  thn (hr pins s2 σ H2 _ I2 q2) λws s3 ⟨ps,H3,I3,rel,q3⟩=>⟨(x,y)::ps,H3,I3,.cons ⟨rx,ry⟩ rel,q3⟩)
def qB (kvs more:List (Key×V)):List (Key×V):=more.foldl (λZ kv=>fE Z kv.1 kv.2) kvs
theorem KV.merge:∀ {more:List (Key×V)} {rs:List (Key×Value)} {kvs:List (Key×V)} {vs:List (Key×Value)},KV more rs->KV kvs vs->KV (qB kvs more) (merged vs rs):=by
 intro more rs kvs vs r;unfold KV at r
 induction r generalizing kvs vs with
 | nil=>intro q;exact q
 | @cons p q ps qs h t ih =>
  intro Z;have e:KV (fE kvs p.1 p.2) (stored vs q.1 q.2):=by
   have:=Z.put p.1 h.2
   rw[<- h.1];exact this
  exact ih e
theorem mJ:∀ (more kvs:List (Key×V)),(qB kvs more).length<=kvs.length+more.length
 | [],kvs=>by show kvs.length<=kvs.length+0;omega
 | p::r,kvs=>by
  have h1:=mJ r (fE kvs p.1 p.2);have h2:=iP kvs p.1 p.2;show (qB (fE kvs p.1 p.2) r).length<=_;rw[ar];omega
theorem wF {P:xv}{w:World}:∀ {kvs:List (Key×V)} {Z:List (Value×Value)},VV (kvs.map λkv=>(kV kv.1,kv.2)) Z->∃ rs,Carries (bF P w) Z rs∧KV kvs rs
 | [],_,r=>by rw[lz] at r;cases r;exact⟨[],True.intro,.nil⟩
 | p::kvs,_,r=>by
  rw[ap] at r
  cases r with
  | @cons a b as bs h t =>
   obtain⟨rs,c,q⟩:=wF (P:=P) (w:=w) t;obtain⟨b1,b2⟩:=b;exact⟨(p.1,b2)::rs,⟨nU h.1,rfl,c⟩,.cons ⟨rfl,h.2⟩ q⟩
def Zw (trs:List (TE×TE)):TE:=λσ H Q=>∀ p,H p=none->zU trs σ (upd H p (.dK [])) λps H2=>H2 p=some (.dK [])∧∃ kvs:List (Key×V),ps=kvs.map (λZ=>(kV Z.1,Z.2))∧kvs.length<=15∧Q (.ref p) (upd H2 p (.dK (qB [] kvs)))
theorem Sr {X:Cx}{pos:Pos}{keys:List (Option Expr)}{Z:List Expr}{trs:List (TE×TE)}(h:PPs X pos keys Z trs)(gV:keys.all (·.isSome)=true)(hl:keys.length=Z.length)(h0:keys≠[])
  (or:keys.length<=15):PE X (.Dict keys Z pos) (Zw trs):=by
 intro pins s σ H Q I q;have hn:=I.hok.fresh (af s.heap.objs.size);have I1:=I.laid (a:=s.heap.objs.size) (o:=.dK []) (h':=s.heap.push { cls:=.type "dict",data:=.dict #[] }) (t':=s.toks) (λ_ _ q=>AT _ q) (af _) (Ec s.heap I.big)
 refine wpAny_Dict_walk (knd:=bF X.prog X.w) gV hl h0 or (thn (h pins _ σ _ _ I1 (q _ hn)) λws s2 ⟨ps,H2,I2,rel,e,kvs,ep,lk,q2⟩=>?_);subst ep;obtain⟨rs,c,rk⟩:=wF (P:=X.prog) (w:=X.w) rel;obtain⟨z,hd,wp,r0,dd⟩:=oV I2.hok e;cases r0;refine⟨rs,c,dd,λh' mp hs=>⟨.ref s.heap.objs.size,_,?_,rfl,q2⟩⟩;have hz:(qB [] kvs).length<=sizeLine:=by
  have h1:=mJ kvs [];rw[lm] at h1;rw[AG];omega
 have he:∃ q,h'.get? s.heap.objs.size=some q:=let ⟨q,_,_,hq,_⟩:=mp;⟨q,hq⟩
 exact nV I2 (by rw[e];exact True.intro) hs he (Bt hz hd (rk.merge .nil) mp)
structure M1 (X:Cx)(o:Expr)(m:Str)(apos:Pos)(e:Expr)(cpos:Pos):Prop where
 base:attributeBase o m X.env (eval o X.env)=eval o X.env
 few:((backTo cpos (starEach [e] X.env)).all (λx=>!x.1)&&(backToKw cpos (keywordEach [] X.env)).all (λx=>x.1.isSome)
  && decide (([e]:List Expr).length+([]:List Keyword).length+(if ([]:List Keyword).isEmpty then 0 else 1)<30))=true
 line:(apos.endLine==cpos.line)=true
 trees:backTo cpos (starEach [e] X.env)=[(false,eval e X.env)]
structure M2 (X:Cx)(o:Expr)(m:Str)(apos:Pos)(e f:Expr)(cpos:Pos):Prop where
 base:attributeBase o m X.env (eval o X.env)=eval o X.env
 few:((backTo cpos (starEach [e,f] X.env)).all (λx=>!x.1)&&(backToKw cpos (keywordEach [] X.env)).all (λx=>x.1.isSome)
  && decide (([e,f]:List Expr).length+([]:List Keyword).length+(if ([]:List Keyword).isEmpty then 0 else 1)<30))=true
 line:(apos.endLine==cpos.line)=true
 trees:backTo cpos (starEach [e,f] X.env)=[(false,eval e X.env),(false,eval f X.env)]
def IsD (H:Hp)(a:Addr):Prop:=(∃ kvs,Rd H a (.dK kvs))∨∃ kvs,Rd H a (.dT kvs)
theorem Xr {X:Cx}{pins:List (Addr×Obj)}{σ:St}{H:Hp}{s:kw}{a:Addr}(I:Inv X pins σ H s)(d:IsD H a) :
  s.TypeIs (.ref a) "dict" ∧ (∀ b,Value.ref a = .ref b->∃ Z,s.heap.get? b=some Z∧Z.dict=none)∧(a==sysModules)=false:=by
 rcases d with ⟨kvs,e⟩ | ⟨kvs,e⟩
 ·obtain⟨_,hd,vs,_,dd⟩:=uH I.hok e
  refine⟨dd.typeIs,λb q=>?_,hd⟩;cases q;obtain⟨Z,_,_,h1,h2,_⟩:=dd;exact⟨Z,h1,h2.2.1⟩
 ·obtain⟨_,hd,xs,_,dd⟩:=xQ I.hok e
  refine⟨dd.typeIs,λb q=>?_,hd⟩;cases q;obtain⟨Z,_,_,h1,h2,_⟩:=dd;exact⟨Z,h1,h2.2.1⟩
def Wo (td ty tx:TE):TE:=λσ H Q=>td σ H λx H1=>∃ a,x = .ref a∧IsD H1 a∧ty σ H1 λy H2=>tx σ H2 λz Z=>∃ kvs k,Z a=some (.dK kvs)∧y=kV k ∧
 (∀ v,dF kvs k=some v->Q v (upd Z a (.dK (uI kvs k))))∧(dF kvs k=none->Q z Z)
section
variable {X:Cx}{o e f:Expr}{apos cpos:Pos}{td ty tx:TE}
theorem Ri (ho:PE X o td)(he:PE X e ty)(hf:PE X f tx)(m:M2 X o "pop" apos e f cpos):PE X (.Call (.Attribute o "pop" apos) [e,f] [] cpos) (Wo td ty tx):=by
 intro pins s σ H Q I h;refine wpAny_Call_method m.base m.few m.line qa mi PySem.F.type_dict_pop (thn (ho pins s σ H _ I h) λu s1 ⟨x,H1,I1,rx,a,ex,d,q1⟩=>?_);subst ex;obtain rfl:u=Value.ref a:=rx;obtain⟨t1,t2,_⟩:=Xr I1 d;refine⟨t1,t2,?_⟩;rw[m.trees];refine Calls.callWith_builtin rfl (Calls.evalArgs_plain (Calls.spliced_cons (thn (he pins s1 σ H1 _ I1 q1) λiv s2 ⟨y,H2,I2,ry,q2⟩ =>
  Calls.spliced_cons (thn (hf pins s2 σ H2 _ I2 q2) λfv s3 ⟨z,H3,I3,rz,kvs,k,ea,ey,q3,q4⟩=>Calls.spliced_nil ?_))))
 subst ey
 cases l:dF kvs k with
 | some v=>exact aAi I3 ea ry l (.inr ⟨fv,rfl⟩) λw' s4 I4 Z=>⟨v,_,I4,Z,q3 v l⟩
 | none=>exact Wx I3 ea ry l λs4 I4=>⟨z,H3,I4,rz,q4 l⟩
end
end L2
namespace L2
open PySem PySem.Spec PyProof.Rows
section
variable {X:Cx}
theorem xT:dR X (.builtin "len") (λxs H Q=>∃ a kvs,xs=[V.ref a]∧H a=some (.dK kvs)∧Q (.int kvs.length) H):=by
 intro pins s σ H xs us Q I r h;obtain⟨a,kvs,rfl,ha,q⟩:=h;obtain⟨u,rfl,ru⟩:=fV r;cases ru;exact aAK I (.inl ha) λt s' Z=>⟨.int kvs.length,H,Z,⟨t,rfl⟩,q⟩
end
namespace RT
def obj (x:Str)(t:Tok)(i:Int):Obj:={ cls:=.type "reversed",data:=.fields #[.str x t,rawInt i] }
def Is (h:Heap)(a:Addr)(x:Str)(t:Tok)(i:Int):Prop:=∃ o,h.get? a=some o∧o.cls = .type "reversed" ∧ o.data = .fields #[.str x t,rawInt i]
end RT
structure Cam (P:xv)(w:World)(K:ac)(mg:Str->Option Value)(base:Heap)(CX:CXT)(x:Str)(C:Addr)(k:Nat)(ps:List Str)(sp:Sp):Prop where
 ex:∃ (f:Addr) (fd:wh),bI P w K mg base CX k f fd ps sp∧Mk K C f∧mg x=some (.ref C)∧fD K fd ps []
section
variable {X:Cx}
theorem Ap {CX:CXT}{x:Str}{C:Addr}{j k:Nat}{ps:List Str}{sp:Sp}{E:XK}{e:Expr}{es:List Expr}{t:TA}{p pos:Pos}(c:Cam X.prog X.w X.K X.mg X.base CX x C j ps sp)(hr:eF k X.A)(hx:gA CX X E)(ha:PA X (e::es) t)
  (Z:j+1<=k:=by decide) (hg:Gl X x:=by rfl) (b1:(x==("__debug__" : Str))=false:=by decide) (b2:starEach (e::es) X.env=(false,eval e X.env)::starEach es X.env:=by rfl) (b3:(backTo pos (starEach es X.env)).any (·.1)=false:=by rfl) :
  PE X (.Call (.Name x p) (e::es) [] pos) (Vo C sp [] E t):=by
 obtain⟨f,fd,F,M,hm,hb⟩:=c.ex;exact Td M F (hr.mono Z) hg hm hb .nil hx ha b1 b2 b3
end
namespace SE
section
variable {prog:xv}{w:World}{A:Around}{E:Value->kw->Prop}{s:kw}
theorem Lz {l:Addr}{Z:Array Value}{ls:List (List Nat)}{Q:Value->kw->Prop}(hh:A.handled=none)(hl:s.heap.IsTuple l Z)(hv:∀ i v,Z[i]?=some v->∃ t,v=Value.str (tx (ls.getD i [])) t)(hn:Z.size+1<scanBound)
  (h:∀ (h':Heap) (tk:Nat),Has prog w h' s.heap.objs.size (eL ls Z.size)->(∀ b o,s.heap.get? b=some o->h'.get? b=some o)->Q (.ref s.heap.objs.size) { s with heap:=h',toks:=tk }) :
  wpAny (model prog w) A (call (.type "set") [.ref l]) Q E s:=by
 obtain⟨mc,mt,f0⟩:=F.called_set.mro;have f1:=F.called_set.made;have f2:=F.called_set.sub;have f3:=F.called_set.notType;have f4:=F.called_set.canCreate;have f5:=F.typeCall_set_1 (.ref l);refine AZ (codeAny_of_tree (show wpAny _ _ (callAny (.type "set") _) _ _ _ from AB ⟨Code.quiet_builtin _ (by decide +kernel),AO F.entry_type_call ?_⟩))
 rw[Around.under_plain (weight_type_call_type "set" [.ref l] []) rfl]
 repeat (any_goals (first | wp_step | assumption))
 refine AQ (code_set_new_1 (.ref l) (E:=E) (Q₁:=λob s1=>∃ b:Bool,ob = .ref s.heap.objs.size∧s1 = { s with heap:=s.heap.push { cls:=.type "set",dict:=none,data:=.set #[] 0 (.fresh 0 0 b) } }) λb=>⟨b,rfl,rfl⟩) λr s1 hr=>?_
 cases r with
 | error e=>exact hr
 | ok fl =>
  cases fl with
  | ret ob =>
   obtain⟨b,rfl,rfl⟩:=hr;generalize gV:({ cls:=.type "set",dict:=none,data:=.set #[] 0 (.fresh 0 0 b) }:Obj)=ob
   have hD:(s.heap.push ob).get? s.heap.objs.size=some ob:=AU _ (by rw[<- gV];rfl);have hT:Shared.TypeIs { s with heap:=s.heap.push ob } (.ref s.heap.objs.size) "set" := ⟨_,hD,by rw[<- gV]⟩
   have f6:=F.called_set.init.lookup;have f7:=F.called_set.init.bind (.ref s.heap.objs.size)
   repeat (any_goals (first | wp_step | assumption))
   refine AQ (AR (R:=wants (λr s2=>r = .none∧∃ h' tk,s2 = { s with heap:=h',toks:=tk }∧Has prog w h' s.heap.objs.size (eL ls Z.size)∧∀ b o,s.heap.get? b=some o->h'.get? b=some o) E)
    F.called_set.init.plain F.entry_set_init (check_set_init_1 hT ?_)) λr2 s2 mp=>?_
   ·obtain⟨⟨oc,od,xg,osl⟩,or,wp,nl,wx⟩:=id hl
    simp only at wp wx;subst wp wx;have wz:(s.heap.push ob).get? l=some { cls:=.type "tuple",dict:=od,data:=.seq Z nl,slots:=osl }:=AT _ or
    have f8:=F.sub_tuple_set;have f9:=F.sub_tuple_frozenset;have xh:(Value.type "tuple" == Value.type "dict")=false:=by decide
    have ww:(s.heap.push ob).IsTuple l Z:=⟨_,wz,rfl,nl,rfl⟩;subst gV;unfold Builtin.«set.__init__» noKeywords Builtin.Frozenset.updateFrom;generalize xb:pyIter=PI
    wp_walk
    subst xb;refine wpAny_pyIter_tuple ww ?_;refine AA (wpAny_runValue ?_);have w4:l<s.heap.objs.size:=AV or;have w8:A.in1.in1.in1.handled=none:=by simp[hh]
    have hsz:(s.heap.push { cls:=.type "set",dict:=none,data:=.set #[] 0 (.fresh 0 0 b) }).objs.size=s.heap.objs.size+1:=Heap.size_push _ _
    have xc:l≠(s.heap.push { cls:=.type "set",dict:=none,data:=.set #[] 0 (.fresh 0 0 b) }).objs.size:=by rw[hsz];exact az (fj w4)
    have xf:s.heap.objs.size∉[(s.heap.push { cls:=.type "set",dict:=none,data:=.set #[] 0 (.fresh 0 0 b) }).objs.size,l]:=by
     rw[hsz];intro z;rcases au.mp z with e | e
     ·exact az (gx _) e
     ·exact gn w4 (ax.mp e)
    refine loop ((Walks.tuple w8 _ l xc Z).toS) (D:=s.heap.objs.size) xf ls hv hn (Z.size-0) 0 _ (by omega) (cc _) ⟨⟨_,AU _ rfl,rfl,rfl⟩,ww.push _⟩ ?_ λs3 mv x3=>?_
    ·have hg:((s.heap.push { cls:=.type "set",dict:=none,data:=.set #[] 0 (.fresh 0 0 b) }).push { cls:=.type "tuple_iterator",data:=.fields #[.ref l,.int 0 0] }).get? s.heap.objs.size=some { cls:=.type "set",dict:=none,data:=.set #[] 0 (.fresh 0 0 b) }:=AT _ hD
     exact lh ((nw (knd:=fq prog w) b).setOf hg (by unfold scanBound;omega)) (λ_=>rfl) rfl
    ·obtain⟨h3,g3,d3,w6,xa⟩:=s3
     obtain rfl:g3=s.gens:=mv.gens;obtain rfl:d3=s.drawn:=mv.drawn;obtain rfl:xa=s.os:=mv.os;refine AB (show wpAny _ _ (ret Value.none) _ _ _ from AB ⟨rfl,h3,w6,rfl,x3,λc o e=>?_⟩);have hc:=AV e;exact mv.heap c o (show c∉[s.heap.objs.size,(s.heap.push { cls:=.type "set",dict:=none,data:=.set #[] 0 (.fresh 0 0 b) }).objs.size] by
      rw[hsz];intro z;rcases au.mp z with e | e
      ·exact az hc e
      ·exact az (fj hc) (ax.mp e)) (AT _ (AT _ e))
   ·cases r2 with
    | error e=>exact mp
    | ok fl2 =>
     cases fl2 with
     | ret r =>
      obtain⟨rfl,h3,tk,rfl,x3,k3⟩:=mp
      repeat (any_goals (first | wp_step | assumption))
      exact h _ _ x3 k3
     | _=>exact mp.elim
  | _=>exact hr.elim
end
end SE
section
variable {X:Cx}
theorem Hk (hc:X.calm=true):dR X (.type "set") (λxs H Q=>∃ (p:Addr) (ls:List (List Nat)),xs=[.ref p]∧SqT X.K H p (ls.map T)∧ls.length+1<4096∧∀ D,H D=none->Q (.ref D) (upd H D (By X.prog X.w D (uniq ls)))):=by
 intro pins s σ H xs us Q I r h;obtain⟨p,ls,rfl,hq,hz,q⟩:=h;obtain⟨u,rfl,ru⟩:=fV r;cases ru;obtain⟨gV,rv,pl,_⟩:=I.tuple hq;have Z:=rv.length;rw[aR] at Z;refine SE.Lz (I.ok.hd hc) pl (ls:=ls) (λi v e=>Ha rv (by simpa using e)) (by rw[aj];unfold scanBound;omega) λh' tk x k=>?_
 have e:eL ls gV.toArray.size=uniq ls:=by rw[aj,<- Z];rfl
 rw[e] at x;have hf:H s.heap.objs.size=none:=I.hok.fresh (af _);refine⟨.ref s.heap.objs.size,_,I.laid (t':=tk) k (af _) (o:=By X.prog X.w s.heap.objs.size (uniq ls)) ?_,rfl,q _ hf⟩;refine⟨x,?_,λh1 h2 x1 kk=>x1.at kk⟩;obtain⟨o,_,_,_,ho,_⟩:=x;exact⟨o,ho⟩
end
end L2
namespace ST
open PySem PySem.SetTable
def it (M:Nat):Nat->Nat->Nat
 | 0,i=>i
 | s+1,i=>it M s ((i*5+1) % M)
theorem Ab (M:Nat):∀ s t i,it M (s+t) i=it M t (it M s i)
 | 0,t,i=>by rw[ix];rfl
 | s+1,t,i=>by rw[ub];exact Ab M s t _
def Jr (M:Nat):Nat->Nat->List Nat
 | 0,_=>[]
 | s+1,i=>i::Jr M s ((i*5+1) % M)
theorem Cv {M:Nat}:∀ {n i j:Nat},j∈Jr M n i->∃ s,s<n∧it M s i=j
 | n+1,i,j,h=>by
  rw[Jr,au] at h;rcases h with h | h
  ·exact⟨0,by omega,h.symm⟩
  ·obtain⟨s,h1,h2⟩:=Cv h
   exact⟨s+1,by omega,h2⟩
def full (M:Nat):Bool:=it M M 0==0&&(bt M).all λj=>(Jr M M 0).contains j
theorem Kk {M:Nat}(h:full M=true){a j:Nat}(ha:a<M)(hj:j<M):∃ s,s<M∧it M s a=j:=by
 rw[full,cz,AK,dz] at h;have Z:∀ x,x<M->∃ s,s<M∧it M s 0=x:=λx hx=>Cv (by have:=h.2 x (ck.mpr hx);simpa using this)
 obtain⟨s0,h0,e0⟩:=Z a ha;obtain⟨s1,h1,e1⟩:=Z j hj;rcases fh s1 s0 with z | z
 ·refine⟨M-s0+s1,by omega,?_⟩
  have w:it M (M-s0) a=0:=by rw[<- e0,<- Ab,show s0+(M-s0)=M by omega,h.1]
  rw[Ab,w,e1]
 ·refine⟨s1-s0,by omega,?_⟩
  rw[<- e0,<- Ab,show s0+(s1-s0)=s1 by omega,e1]
def xG (M:Nat):Prop:=M=8∨M=16∨M=32∨M=64∨M=128∨M=256∨M=512
theorem xG.full {M:Nat}(h:xG M):full M=true:=by
 rcases h with rfl | rfl | rfl | rfl | rfl | rfl | rfl <;> decide +kernel
theorem xG.pos {M:Nat}(h:xG M):8<=M:=by
 rcases h with rfl | rfl | rfl | rfl | rfl | rfl | rfl <;> decide
def lp (mask:Nat):Nat->Nat->Nat->Nat×Nat
 | 0,i,p=>(i,p)
 | s+1,i,p=>lp mask s (leap mask i p).1 (leap mask i p).2
theorem Rn (mask:Nat):∀ s t i p,lp mask (s+t) i p=lp mask t (lp mask s i p).1 (lp mask s i p).2
 | 0,t,i,p=>by rw[ix];rfl
 | s+1,t,i,p=>by rw[ub];exact Rn mask s t _ _
theorem Zj (mask:Nat):∀ s i p,(lp mask s i p).2=p/32 ^ s
 | 0,i,p=>by rw[qg,Nat.div_one];rfl
 | s+1,i,p=>by
  show (lp mask s _ (p/32)).2=_;rw[Zj mask s,Nat.div_div_eq_div_mul,gr,c7]
theorem We (mask:Nat):∀ s i,(lp mask s i 0).1=it (mask+1) s i
 | 0,i=>rfl
 | s+1,i=>by
  show (lp mask s ((i*5+1+0/32) % (mask+1)) (0/32)).1=_;rw[Nat.zero_div,k9];exact We mask s _
theorem Wc (mask:Nat):∀ s i p,i<mask+1->(lp mask s i p).1<mask+1
 | 0,i,p,h=>h
 | s+1,i,p,h=>Wc mask s _ _ (jn _ (uv _))
theorem Mg (mask i:Nat):i<=runEnd mask i:=by
 unfold runEnd;split <;> omega
theorem xY {mask:Nat}{owner:Array (Option Nat)}:∀ {fuel i p:Nat},layClean.free mask owner fuel i p=none->∀ s,s<fuel->(owner.getD (lp mask s i p).1 (some 0)).isNone=false
 | fuel+1,i,p,h,s,hs=>by
  rw[layClean.free] at h;split at h
  ·cases h
  ·rename_i hf
   cases s with
   | zero =>
    have:=uc.mp hf 0 (ck.mpr (by have:=Mg mask i;omega))
    rw[k9] at this;exact km.mpr this
   | succ s=>exact xY h s (by omega)
theorem yL {mask:Nat}{owner:Array (Option Nat)}:∀ {fuel i p j:Nat},layClean.free mask owner fuel i p=some j->(owner.getD j (some 0)).isNone=true
 | fuel+1,i,p,j,h=>by
  rw[layClean.free] at h;split at h
  ·rename_i k hf
   cases h
   have:=vh hf
   exact this
  ·exact yL h
theorem Um {mask:Nat}{owner:Array (Option Nat)}{i p j:Nat}(hM:xG (mask+1))(hi:i<mask+1)(hp:p<2 ^ 64)(hj:j<mask+1)(he:(owner.getD j (some 0)).isNone=true) :
  ∃ k,layClean.free mask owner (turns mask) i p=some k∧(owner.getD k (some 0)).isNone=true:=by
 cases hf:layClean.free mask owner (turns mask) i p with
 | some k=>exact⟨k,rfl,yL hf⟩
 | none =>
  exfalso;have Z:(lp mask 13 i p).2=0:=by
   rw[Zj];exact p7 (uq hp (by decide))
  obtain⟨s,hs,e⟩:=Kk hM.full (Wc mask 13 i p hi) hj;have z:=xY hf (13+s) (by unfold turns;omega);rw[Rn,Z,We,e,he] at z;cases z
theorem tZ {α β:Type}{f g:α->Option β}:∀ l:List α,(∀ i∈l,f i=g i)->l.filterMap f=l.filterMap g
 | [],_=>rfl
 | x::l,h=>by
  have Z:=tZ l λi hi=>h i (al _ hi)
  rw[ir,ir,h x (aq ..),Z]
def vals (N:Nat)(f:Nat->Option Nat):List Nat:=(bt N).filterMap f
theorem Ox {f g:Nat->Option Nat}{j v:Nat}(hf:f j=none)(hg:g j=some v)(he:∀ i,i≠j->g i=f i):∀ l:List Nat,l.Nodup->j∈l->(l.filterMap g).Perm (v::l.filterMap f)
 | x::l,nd,hm=>by
  rw[cx] at nd;by_cases e:x=j
  ·subst e
   rw[jp hg,li hf]
   have:l.filterMap g=l.filterMap f:=tZ l λi hi=>he i λz=>nd.1 (z▸hi)
   rw[this]
  ·have Z:j∈l:=by
    rcases au.mp hm with z | z
    ·exact absurd z.symm e
    ·exact z
   have ih:=Ox hf hg he l nd.2 Z;have hx:=he x e
   cases h:f x with
   | none=>rw[li (hx.trans h),li h];exact ih
   | some y =>
    rw[jp (hx.trans h),jp h];exact (ih.cons y).trans (vp ..)
theorem Io {f:Nat->Option Nat}:∀ l:List Nat,(∀ i∈l,(f i).isNone=false)->(l.filterMap f).length=l.length
 | [],_=>rfl
 | x::l,h=>by
  have Z:=h x (aq ..)
  cases e:f x with
  | none=>rw[e] at Z;cases Z
  | some y=>rw[jp e,ar,ar,Io l λi hi=>h i (al _ hi)]
def zQ (mask:Nat)(owner:Array (Option Nat))(k:Nat):Prop:=owner.size=mask+1∧(vals (mask+1) λj=>owner.getD j none).Perm (bt k)
theorem getD_some {owner:Array (Option Nat)}{j:Nat}(h:j<owner.size):owner.getD j (some 0)=owner.getD j none:=by
 simp[vq,h]
theorem Ux {mask:Nat}(hM:xG (mask+1)){owner:Array (Option Nat)}{k:Nat}(g:zQ mask owner k)(hk:k<mask+1)(h:Int) :
  ∃ j,layClean.free mask owner (turns mask) (bits h % (mask+1)) (bits h)=some j∧zQ mask (owner.setIfInBounds j (some k)) (k+1):=by
 obtain⟨hs,hp⟩:=g;obtain⟨j0,wp,or⟩:∃ j,j<mask+1∧(owner.getD j (some 0)).isNone=true:=by
  apply ba;intro mp
  have:=Io (f:=λj=>owner.getD j none) (bt (mask+1)) λi hi=>by
   have gV:=ck.mp hi;have e:=getD_some (owner:=owner) (j:=i) (by omega)
   cases z:(owner.getD i none).isNone with
   | false=>rfl
   | true=>exact absurd ⟨i,gV,by rw[e];exact z⟩ mp
  rw[cq] at this;have h2:=hp.length_eq;rw[cq] at h2;unfold vals at h2;omega
 obtain⟨j,e1,Z⟩:=Um hM (i:=bits h % (mask+1)) (p:=bits h) (jn _ (uv _)) (by unfold bits;omega) wp or;have hj:j<owner.size:=by
  rcases fh j owner.size with z | z
  ·exact z
  ·rw[vq,dif_neg (by omega)] at Z
   cases Z
 refine⟨j,e1,by rw[Array.size_setIfInBounds];exact hs,?_⟩;have hf:(λi=>owner.getD i none) j=none:=by
  show owner.getD j none=none;rw[getD_some hj] at Z
  cases z:owner.getD j none with
  | none=>rfl
  | some y=>rw[z] at Z;cases Z
 have hg:(λi=>(owner.setIfInBounds j (some k)).getD i none) j=some k:=by
  show (owner.setIfInBounds j (some k)).getD j none=some k;simp[vq,hj]
 have q:=Ox hf hg (λi hi=>by
  show (owner.setIfInBounds j (some k)).getD i none=owner.getD i none;rw[gm,gm,Array.getElem?_setIfInBounds_ne (Ne.symm hi)]) (bt (mask+1)) List.nodup_range (ck.mpr (by omega))
 refine q.trans ?_;rw[show bt (k+1)=bt k++[k] from ll];exact (hp.cons k).trans (oo ..).symm
theorem Sd {mask:Nat}(hM:xG (mask+1)):∀ (Z:List Int) (owner:Array (Option Nat)) (k:Nat),zQ mask owner k->k+Z.length<=mask+1 ->
  ∃ o',(Z.foldl (λgV h=>do
   let (owner,k) <- gV
   let j <- layClean.free mask owner (turns mask) (bits h % (mask+1)) (bits h)
   pure (owner.setIfInBounds j (some k),k+1)) (some (owner,k)))=some (o',k+Z.length)∧zQ mask o' (k+Z.length)
 | [],owner,k,g,_=>⟨owner,rfl,g⟩
 | h::Z,owner,k,g,hk=>by
  rw[ar] at hk;obtain⟨j,e,g'⟩:=Ux hM g (by omega) h;obtain⟨o',e',mp⟩:=Sd hM Z _ _ g' (by omega);refine⟨o',?_,by rw[ar,show k+(Z.length+1)=k+1+Z.length by omega];exact mp⟩;rw[qt,ar,show k+(Z.length+1)=k+1+Z.length by omega,<- e']
  congr 1
  show (layClean.free mask owner (turns mask) (bits h % (mask+1)) (bits h)).bind _=_;rw[e];rfl
theorem Qz (mask:Nat):zQ mask (vi (mask+1) none) 0:=by
 refine⟨Array.size_replicate,?_⟩
 have:vals (mask+1) (λj=>(vi (mask+1) (none:Option Nat)).getD j none)=[]:=by
  unfold vals;refine List.filterMap_eq_nil_iff.mpr λi _=>?_
  rw[gm,Array.getElem?_replicate];split <;> rfl
 rw[this];exact ej _
theorem Iw {mask finger moves:Nat}{led plain:Bool}{hashes:Array Int}(hM:xG (mask+1))(hn:hashes.size<=mask) :
  ∃ (t:SetTable) (Z:Array Nat),laid mask finger moves led plain hashes=some (t,Z)∧Z.toList.Perm (bt hashes.size)∧t.place.size=hashes.size∧t.mask=mask∧t.dummies = #[]∧t.led=led∧t.plain=plain:=by
 obtain⟨o,e,g⟩:=Sd hM hashes.toList _ 0 (Qz mask) (by rw[bh];omega);have hc:layClean mask hashes=some o:=by
  unfold layClean;rw[<- Array.foldl_toList];refine (congrArg (ud (·.1)) e).trans ?_;rfl
 have em:((bt (mask+1)).filterMap λj=>(o.getD j none).map (j,·)).map (·.2)=vals (mask+1) λj=>o.getD j none:=by
  rw[List.map_filterMap];unfold vals;refine tZ _ λi _=>?_
  cases o.getD i none <;> rfl
 have gp:(vals (mask+1) λj=>o.getD j none).Perm (bt hashes.size):=by
  have:=g.2
  rw[ix,bh] at this;exact this
 refine⟨_,_,by unfold laid;rw[hc];rfl,by rw[em];exact gp,?_,rfl,rfl,rfl,rfl⟩;show (((bt (mask+1)).filterMap λj=>(o.getD j none).map (j,·)).map (·.1)).toArray.size=_;have hl:=congrArg i6 em;rw[aR] at hl;rw[aj,aR,hl,gp.length_eq,cq]
end ST
namespace SS
open PySem PyProof.Rows
def byT (w:World):Bool:=w.params.followText "set-order"
def nB:Value->Str
 | .str x _=>x
 | _=>Str.empty
def El (w:World)(e:Int×Value):Prop:=e.1=hashStr w (nB e.2)∧∃ t,e.2 = .str (nB e.2) t
def Els (w:World)(es:List (Int×Value))(ms:List Str):Prop:=(∀ e∈es,El w e)∧(es.map λe=>nB e.2).Perm ms
theorem Els.perm {w:World}{es Z:List (Int×Value)}{ms:List Str}(h:Els w es ms)(p:Z.Perm es):Els w Z ms:=⟨λe he=>h.1 e (p.mem_iff.mp he),(p.map _).trans h.2⟩
theorem Els.of {w:World}{prog:xv}{es:List (Int×Value)}{ms:List Str}(h:Els w es ms):ElemsOf (fq prog w) es:=λe Z=>by
 obtain⟨h1,t,h2⟩:=h.1 e Z;refine⟨⟨nB e.2,?_,h1⟩,?_⟩
 ·rw[h2]
  exact strKind_is prog w _ t
 ·rw[h2]
  rfl
theorem Els.len {w:World}{es:List (Int×Value)}{ms:List Str}(h:Els w es ms):es.length=ms.length:=by
 have:=h.2.length_eq
 rwa [aR] at this
theorem Els.has {w:World}{prog:xv}{es:List (Int×Value)}{ms:List Str}(h:Els w es ms)(k:Str):k∈ms↔∃ e∈es,(fq prog w).is k e.2=true:=by
 rw[<- h.2.mem_iff,aw];constructor
 ·rintro⟨e,Z,rfl⟩
  obtain⟨_,t,h2⟩:=h.1 e Z;refine⟨e,Z,?_⟩
  conv=>lhs;arg 3;rw[h2]
  exact strKind_is prog w _ t
 ·rintro⟨e,Z,hk⟩
  obtain⟨t,ht⟩:=Value.isStrOf_shape hk;exact⟨e,Z,by rw[ht];rfl⟩
def Is (w:World)(h:Heap)(a:Addr)(ms:List Str):Prop :=
 ∃ o es ep t,h.get? a=some o∧o.ExactSet∧o.data = .set es ep t∧Els w es.toList ms∧ms.Nodup∧es.size<scanBound∧t.fits es.size=true∧(byT w=true∨t.led=true)∧(es.size=0∨t.plain=false)
theorem Is.at {w:World}{h h':Heap}{a:Addr}{ms:List Str}(x:Is w h a ms)(e:∀ o,h.get? a=some o->h'.get? a=some o):Is w h' a ms:=let ⟨o,es,ep,t,ho,r⟩:=x;⟨o,es,ep,t,e o ho,r⟩
theorem Is.there {w:World}{h:Heap}{a:Addr}{ms:List Str}(x:Is w h a ms):∃ o,h.get? a=some o:=let ⟨o,_,_,_,ho,_⟩:=x;⟨o,ho⟩
theorem Fk (t:SetTable)(es:Array (Int×Value))(h:Int)(x:Value):(layNew t es h x).2.1.led=t.led:=by
 unfold layNew;split
 ·rename_i slot wd _
  show ((t.put slot).1.orStandIn _).led=t.led;unfold SetTable.orStandIn;split <;> rfl
 ·rfl
theorem Gz {mask finger moves:Nat}{led plain:Bool}{Z:Array Int}{t:SetTable}{o:Array Nat}(h:SetTable.laid mask finger moves led plain Z=some (t,o)):t.led=led∧t.plain=plain:=by
 unfold SetTable.laid at h
 cases hc:SetTable.layClean mask Z with
 | none=>rw[hc] at h;cases h
 | some ow =>
  rw[hc] at h;have h':=av h;rw[<- (Prod.mk.inj h').1];exact⟨rfl,rfl⟩
theorem vM (t:SetTable)(es:Array (Int×Value))(n:Nat)(Z:t.plain=false):(relayAll t es n).2.1.led=t.led∧(relayAll t es n).2.1.plain=false:=by
 unfold relayAll;split
 ·rename_i t' order e
  obtain⟨h1,h2⟩:=Gz e
  dsimp only
  split
  ·exact⟨h1,h2.trans Z⟩
  ·exact⟨rfl,rfl⟩
 ·exact⟨rfl,rfl⟩
section
variable {prog:xv}{w:World}{A:Around}{E:Value->kw->Prop}{s:kw}
theorem Is.store (prog:xv){a:Addr}{o:Obj}{es Z:Array (Int×Value)}{ep:Nat}{t t':SetTable}{h:Heap}{ms:List Str}(ho:h.get? a=some o)(hex:o.ExactSet)(hd:o.data = .set es ep t)(gV:Els w Z.toList ms)(mp:ms.Nodup)(hb:Z.size<scanBound)(hf:t'.fits Z.size=true)
  (hl:byT w=true∨t'.led=true) (hp:Z.size=0∨t'.plain=false):(h.update a (Obj.putSet Z t')).get? a=some { o with data:=.set Z (ep+1) t' }∧Is w (h.update a (Obj.putSet Z t')) a ms:=by
 have hg:=(SetOf_store (knd:=fq prog w) (S':=λk=>decide (k∈ms)) ho hex hd gV.of (λk=>by rw[AI];exact gV.has k) hb hf).1;exact⟨hg,_,Z,ep+1,t',hg,hex,rfl,gV,mp,hb,hf,hl,hp⟩
theorem Ol {a : Addr} {ms : List Str} {k : Str} {tk : Tok} {Q : Bool → kw → Prop} (hS : Is w s.heap a ms) (xp : ms.length + 1 < scanBound)
    (h : ∀ h' wz, Heap.SameBut a s.heap h' → Is w h' a wz → (∀ x, x ∈ wz ↔ x ∈ ms ∨ x = k) → wz.length ≤ ms.length + 1 → Q (!decide (k ∈ ms)) { s with heap := h' }) :
    wpAny (model prog w) A (setAddHashed a (.str k tk) (hashStr w k)) Q E s := by
  obtain⟨o, es, ep, t, ho, hex, hd, or, xf, hb, hf, hl, hp⟩ := hS;have hn : es.size = ms.length := by rw[← or.len, bh]
  have w8 : (fq prog w).is k (.str k tk) = true := strKind_is prog w k tk;unfold setAddHashed setAddHashedIn;refine AM (AA (AL ho hd hf ?_))
  dsimp only
  rw[byScan_of (knd := fq prog w) (x := .str k tk) rfl hb or.of];simp only [↓reduceIte];unfold setAddByScan;refine AA (AA (wpAny_rule (AA (wpAny_setScan_of (knd := fq prog w) w8 ho hd hf or.of ?_))))
  cases hr : List.findIdx? (λe => (fq prog w).is k e.2) es.toList with
  | some j =>
    dsimp only
    obtain⟨hj, xl, _⟩ := List.findIdx?_eq_some_iff_getElem.mp hr;have hm : k ∈ ms := (or.has (prog := prog) k).mpr ⟨es.toList[j], dk hj, xl⟩;refine AB (AB ?_);have z := h s.heap ms (Heap.SameBut.refl a s.heap) ⟨o, es, ep, t, ho, hex, hd, or, xf, hb, hf, hl, hp⟩ (λx => ⟨.inl, λq => q.elim id λe => e ▸ hm⟩) (by omega);rw[AE hm] at z;exact z
  | none =>
    dsimp only
    have hm : ¬ k ∈ ms := λz => by
      obtain⟨e, he, q⟩ := (or.has (prog := prog) k).mp z;have := List.findIdx?_eq_none_iff.mp hr e he;rw[q] at this;cases this
    have gw : ∀ (b : Bool) {s₁ : kw} {Q' : Unit → kw → Prop}, Q' () s₁ → wpAny (model prog w) A (match b with | true => rule "set.scan.the-table-gave-way" | false => pure ()) Q' E s₁ := λb s₁ Q' hq => by
      cases b
      · exact AB hq
      · exact wpAny_rule hq
    have gV := layNew_perm t es (hashStr w k) (.str k tk);have mp := layNew_fits t es (hashStr w k) (.str k tk);have wp := Fk t es (hashStr w k) (.str k tk);generalize hL : layNew t es (hashStr w k) (.str k tk) = L at gV mp wp ⊢;obtain⟨Z, t1, wasDummy, xq⟩ := L
    dsimp only at gV mp wp ⊢
    rw[pd] at gV;have ww : Els w Z.toList (ms ++ [k]) := by
      refine Els.perm ⟨λe he => ?_, ?_⟩ gV
      · rcases br.mp he with z | z
        · exact or.1 e z
        · have e' : e = (hashStr w k, .str k tk) := by simpa using z
          rw[e'];exact⟨rfl, tk, rfl⟩
      · rw[a7]
        exact or.2.append_right _
    have wx : (ms ++ [k]).Nodup := fg.mpr ⟨xf, by simp, λx hx y hy e => hm (by have : y = k := (by simpa using hy); rw[← this, ← e]; exact hx)⟩;have xr : Z.size = ms.length + 1 := by rw[← bh, ww.len, ai, cm]
    have xj : Z.size < scanBound := by omega
    have fin : ∀ h', Heap.SameBut a s.heap h' → Is w h' a (ms ++ [k]) → Q true { s with heap := h' } := λh' sb x => by
      have z := h h' (ms ++ [k]) sb x (λy => by rw[br, ax]) (by rw[ai, cm]; omega);rw[AH hm] at z;exact z
    have tail : ∀ t2 : SetTable, t2.fits Z.size = true → (byT w = true ∨ t2.led = true) → t2.plain = false → wpAny (model prog w) A (do
        storeSet a Z t2
        if (!wasDummy && t2.tooFull) = true then do
            (match (relayAll t2 Z (SetTable.grown Z.size)).2.2 with | true => rule "set.scan.the-table-gave-way" | false => pure ())
            storeSet a (relayAll t2 Z (SetTable.grown Z.size)).1 (relayAll t2 Z (SetTable.grown Z.size)).2.1
            pure (some true)
          else pure (some true)) (λr s' => wpAny (model prog w) A (match r with | some added => pure added | none => setAddHashedIn a (.str k tk) (hashStr w k) 99999) Q E s') E s := λt2 xm w4 xc => by
      refine AA (wpAny_storeSet_of ho hd ?_ (fits_of_scanBound xj));obtain⟨xa, xk⟩ := Is.store prog ho hex hd ww wx xj xm w4 (.inr xc);have xi := Heap.SameBut.update s.heap a (Obj.putSet Z t2);split
      · have q1 := relayAll_perm t2 Z (SetTable.grown Z.size)
        have q2 := relayAll_fits t2 Z (SetTable.grown Z.size);have q3 := vM t2 Z (SetTable.grown Z.size) xc;generalize relayAll t2 Z (SetTable.grown Z.size) = Rl at q1 q2 q3 ⊢;obtain⟨xh, t3, g2⟩ := Rl
        dsimp only at q1 q2 q3 ⊢
        have xg := ww.perm q1;have hsz : xh.size = Z.size := by rw[← bh, q1.length_eq, bh]
        have w6 : xh.size < scanBound := by omega
        refine AA (gw _ (AA (wpAny_storeSet_of xa rfl ?_ (fits_of_scanBound w6))));obtain⟨_, xo⟩ := Is.store prog xa hex rfl xg wx w6 q2 (w4.imp id λz => q3.1.trans z) (.inr q3.2);exact AB (AB (fin _ (xi.trans (Heap.SameBut.update _ a _)) xo))
      · exact AB (AB (fin _ xi xk))
    refine AA (gw _ ?_);have xb : byT w = true ∨ t1.led = true := hl.imp id λz => wp.trans z
    split
    · refine AA (AB ?_)
      simp only [dm, ↓reduceIte];exact tail { t1 with plain := false } (SetTable.fits_plain_off mp) xb rfl
    · rename_i hpl
      refine AA (AB ?_);simp only [↓reduceIte];exact tail t1 mp xb (km.mpr hpl)
end
theorem tP:∀ n,n<=256->ST.xG (SetTable.sizeAbove n)∧n<SetTable.sizeAbove n:=by
 have Z:∀ n,n<257->(SetTable.sizeAbove n=8∨SetTable.sizeAbove n=16∨SetTable.sizeAbove n=32∨SetTable.sizeAbove n=64∨SetTable.sizeAbove n=128∨SetTable.sizeAbove n=256∨SetTable.sizeAbove n=512)∧n<SetTable.sizeAbove n:=by decide +kernel
 exact λn h=>Z n (by omega)
theorem oG {es:Array (Int×Value)}{Z:Array Nat}(h:Z.toList.Perm (bt es.size)):(Z.filterMap (es[·]?)).toList.Perm es.toList:=by
 rw[Array.toList_filterMap];exact (h.filterMap _).trans (by rw[filterMap_getElem?_range])
theorem nH {α:Type}:∀ (l:List α) (i:Nat) (h:i<l.length),(l[i]::l.eraseIdx i).Perm l
 | x::l,0,_=>ej _
 | x::l,i+1,h=>by
  have h':i<l.length:=by simpa using h
  have Z:=nH l i h';exact (vp x (l[i]'h') (l.eraseIdx i)).trans (Z.cons x)
theorem zB {α:Type}(next:Nat->Nat)(xs:Array α):(pickOrder next xs).toList.Perm xs.toList:=by
 have mp:∀ (Z k:Nat) (left:List α) (out:Array α),left.length=Z->(pickOrder.go next Z k left out).toList.Perm (out.toList++left):=by
  intro Z
  induction Z with
  | zero =>
   intro k left out hl;obtain rfl:=a8.mp hl;rw[pickOrder.go,da]
  | succ Z ih =>
   intro k left out hl;have gV:next k % left.length<left.length:=jn _ (by omega);rw[pickOrder.go,aa gV]
   dsimp only
   refine (ih _ _ _ (by rw[oq gV];omega)).trans ?_;rw[pd,d8];refine kh _ ?_;exact nH left _ gV
 have z:=mp xs.size 0 xs.toList #[] (bh)
 simpa [pickOrder] using z
section
variable {prog:xv}{w:World}{A:Around}{E:Value->kw->Prop}{s:kw}
theorem fX {Q:Bool->kw->Prop}(h:Q (byT w) s):wpAny (model prog w) A setsByText Q E s:=by
 unfold setsByText;exact AA (wpAny_askSetting (AB h))
theorem Cu {a:Addr}{ms:List Str}{n:Nat}{Q:Unit->kw->Prop}{o:Obj}{es:Array (Int×Value)}{ep:Nat}{t:SetTable}(ho:s.heap.get? a=some o)(hd:o.data = .set es ep t)(hf:t.fits es.size=true)(hn:n<=256)(hm:es.size<=n)
  (h:∀ (gV:Array (Int×Value)) (t':SetTable),gV.toList.Perm es.toList->t'.place.size=es.size->t'.mask+1=SetTable.sizeAbove n->t'.dummies = #[]->t'.led=t.led->t'.plain=t.plain->Q () { s with heap:=s.heap.update a (Obj.putSet gV t') }) :
  wpAny (model prog w) A (setRelay a n) Q E s:=by
 obtain⟨hM,wp⟩:=tP n hn;have h8:=hM.pos;unfold setRelay;refine AA (AL ho hd hf ?_)
 dsimp only
 have hs:=AG;have mp:¬ SetTable.sizeAbove n>sizeLine:=by
  rcases hM with e | e | e | e | e | e | e <;> omega
 rw[AC mp];obtain⟨t',Z,e1,e2,e3,e4,e5,e6,e7⟩:=ST.Iw (mask:=SetTable.sizeAbove n-1) (finger:=t.finger) (moves:=t.movedTo (SetTable.sizeAbove n-1)) (led:=t.led) (plain:=t.plain) (hashes:=es.map (·.1)) (by rw[jb (by omega)];exact hM) (by rw[ou];omega);have or:t.relaid (es.map (·.1)) n=some (t',Z):=e1;rw[or];rw[ou] at e2 e3;have hp:=oG e2;have hsz:(Z.filterMap (es[·]?)).size=es.size:=by rw[<- bh,hp.length_eq,bh]
 refine AA (m:=(do
  if ((Z.filterMap (es[·]?)).size != es.size)=true then unsupported "internal:set-table-lost-an-element"
  pure (Z.filterMap (es[·]?),t'))) ?_
 rw[hsz,bne_self_eq_false,AC ag];refine AB ?_;exact wpAny_storeSet_of ho hd (h _ _ hp e3 (by rw[e4];omega) e5 e6 e7) (by rw[hsz];omega)
theorem Oh {a b:Addr}{ms mp:List Str}{Q:Bool->kw->Prop}(h1:Is w s.heap a ms)(h2:Is w s.heap b mp)(h:Q true s):wpAny (model prog w) A (setsQuiet [a,b]) Q E s:=by
 unfold setsQuiet;refine AA ?_;refine wpAny_forIn_list _ (λrest r s'=>r=(none,())∧s'=s∧∀ c∈rest,∃ ks,Is w s.heap c ks) _ ?_ ?_ _ _ ⟨rfl,rfl,λc hc=>?_⟩
 ·rintro c rest r s' ⟨rfl,rfl,gV⟩
  obtain⟨ks,hc⟩:=gV c (aq ..);obtain⟨o,es,ep,t,ho,hex,hd,wp,ww,hb,hf,_⟩:=hc;refine AA (wpAny_setEntries_of ho hd hf (AA ?_));rw[<- ue];refine wpAny_forIn_list _ (λrest r s2=>r=(none,())∧s2=s'∧∀ e∈rest,El w e) _ ?_ ?_ _ _ ⟨rfl,rfl,wp.1⟩
  ·rintro⟨hh,x⟩ or r s2 ⟨rfl,rfl,Z⟩
   obtain⟨_,tk,e⟩:=Z _ (aq ..)
   dsimp only at e ⊢
   rw[e];exact AB ⟨rfl,rfl,λu hu=>Z u (al _ hu)⟩
  ·rintro r s2 ⟨rfl,rfl,_⟩
   exact AB ⟨rfl,rfl,λu hu=>gV u (al _ hu)⟩
 ·rintro r s' ⟨rfl,rfl,_⟩
  exact AB h
 ·rcases au.mp hc with rfl | hc
  ·exact⟨ms,h1⟩
  ·rcases au.mp hc with rfl | hc
   ·exact⟨mp,h2⟩
   ·cases hc
theorem aAc {a b:Addr}{or mp:List Str}{Q:Array (Int×Value)->kw->Prop}(h1:Is w s.heap a or)(xi:or≠[])(h2:Is w s.heap b mp)(h:∀ es:Array (Int×Value),Els w es.toList mp->Q es s) :
  wpAny (model prog w) A (setWalkUnseen b [a] (some a)) Q E s:=by
 obtain⟨o,es,ep,t,ho,hex,hd,gV,xo,hb,hf,hl,hp⟩:=id h2;unfold setWalkUnseen;refine AA (AL ho hd hf ?_)
 dsimp only
 refine AA (fX ?_);have walk:∀ Q':Array (Int×Value)->kw->Prop,(byT w=true∨es.size<=1)->(∀ wp:Array (Int×Value),Els w wp.toList mp->Q' wp s)->wpAny (model prog w) A (setWalk b) Q' E s:=λQ' hc hQ=>by
  unfold setWalk;refine AA (AL ho hd hf ?_)
  dsimp only
  refine AA (fX ?_);by_cases Z:byT w=true
  ·rw[AD Z]
   refine AA (wpAny_askSetting (AB (hQ _ (gV.perm (zB _ _)))))
  ·rw[AC Z]
   have h1:es.size<=1:=hc.resolve_left Z;have xb:(!t.plain&&decide (es.size>1))=false:=by
    rw[AH (by omega),ij]
   have w6:(!t.led&&decide (es.size>1))=false:=by
    rw[AH (by omega),ij]
   show wpAny _ _ (if (!t.plain&&decide (es.size>1))=true then _ else _) _ _ s;rw[xb,AC ag];refine AA (m:=if (!t.led&&decide (es.size>1))=true then unsupported "set:maker-not-led" else pure ()) ?_
   rw[w6,AC ag];exact AB (AB (hQ _ gV))
 by_cases hc:byT w=true∨es.size<=1
 ·have e:(byT w||(t.led&&t.plain)||decide (es.size<=1))=true:=by
   rcases hc with z | z
   ·rw[z];simp
   ·rw[AE z];simp
  rw[e,AD rfl];exact walk _ hc h
 ·have Z:byT w=false:=km.mpr λz=>hc (.inl z)
  have xg:¬ es.size<=1:=λz=>hc (.inr z)
  have w8:t.plain=false:=hp.resolve_left (by omega);have xc:t.led=true:=hl.resolve_left (by rw[Z];exact ag);have e:(byT w||(t.led&&t.plain)||decide (es.size<=1))=false:=by
   rw[Z,w8,AH xg];simp
  rw[e,AC ag];refine AA (Oh h2 h1 ?_);simp only [pi,dm,↓reduceIte];refine AA (wpAny_rule ?_);obtain⟨o1,wz,xp,t1,xa,xl,w4,wx,xm,xr,xj,xq,xk⟩:=id h1;refine AA (AL xa w4 xj ?_)
  dsimp only
  have xh:wz.size≠0:=λz=>xi (a8.mp (by rw[<- wx.len,bh];exact z))
  have ww:t1.plain=false:=xk.resolve_left xh;have xf:(t1.led && !t.led||t1.plain && !t.plain)=false:=by
   rw[xc,ww];simp
  rw[xf,AC ag];exact AB (h es gV)
theorem Ut {a:Addr}{ms:List Str}{m:Nat}{Q:Unit->kw->Prop}(hS:Is w s.heap a ms)(hm:ms.length+m<=128)(h:∀ h',Heap.SameBut a s.heap h'->Is w h' a ms->Q () { s with heap:=h' }):wpAny (model prog w) A (setRoomFor a m) Q E s:=by
 obtain⟨o,es,ep,t,ho,hex,hd,Z,mp,hb,hf,hl,hp⟩:=id hS;have hn:es.size=ms.length:=by rw[<- Z.len,bh]
 have wp:t.place.size=es.size:=by
  simp only [SetTable.fits,cz,AK] at hf;exact hf.1
 unfold setRoomFor;refine AA (AL ho hd hf ?_)
 dsimp only
 unfold SetTable.roomFor;by_cases hc:(t.fill+m)*5≥t.mask*3
 ·rw[AD hc]
  refine Cu (ms:=ms) ho hd hf (by omega) (by omega) λgV t' p1 p2 p3 p4 p5 p6=>?_
  have hsz:gV.size=es.size:=by rw[<- bh,p1.length_eq,bh]
  have h8:=(tP ((t.place.size+m)*2) (by omega)).2;have or:t'.fits gV.size=true:=by
   simp only [SetTable.fits,cz,AK,decide_eq_true_eq,SetTable.fill,p4];exact⟨by omega,by show t'.place.size+0<=t'.mask;omega⟩
  exact h _ (Heap.SameBut.update _ a _) (Is.store prog ho hex hd (Z.perm p1) mp (by omega) or (hl.imp id λz=>p5.trans z) (hp.imp (λz=>by omega) λz=>p6.trans z)).2
 ·rw[AC hc]
  exact AB (h s.heap (Heap.SameBut.refl a _) hS)
theorem Ni {a b:Addr}{gV mp:List Str}{ww:Sem Unit}{Q:Unit->kw->Prop}(wp:a≠b)(h1:Is w s.heap a gV)(h2:Is w s.heap b mp)(w8:gV≠[])(hsz:gV.length+mp.length<=128)
  (wx:∀ (s':kw) (Q':Unit->kw->Prop),(∀ o,s.heap.get? b=some o->s'.heap.get? b=some o)->Q' () s'->wpAny (model prog w) A ww Q' E s')
  (h:∀ h' Z,Heap.SameBut a s.heap h'->Is w h' a Z->(∀ x,x∈Z↔x∈gV∨x∈mp)->Z.length<=gV.length+mp.length->Q () { s with heap:=h' }):wpAny (model prog w) A (setMerge a b ww) Q E s:=by
 obtain⟨o,es,ep,t,ho,hex,hd,xg,xh,hb,hf,hl,hp⟩:=id h2;have hn:es.size=mp.length:=by rw[<- xg.len,bh]
 unfold setMerge;rw[AC (show ¬ ((a==b)=true) by rw[AK];exact wp)];refine AA (AL ho hd hf ?_)
 dsimp only
 by_cases h0:es.isEmpty=true
 ·rw[AD h0]
  have e0:mp=[]:=a8.mp (by rw[<- hn];simpa using h0);exact AB (h s.heap gV (Heap.SameBut.refl a _) h1 (λx=>by rw[e0];simp) (by omega))
 rw[AC h0];refine AA (Ut h1 (by omega) λh3 xf i3=>?_);have xm:h3.get? b=some o:=(xf.2 b (Ne.symm wp)).trans ho;have xo:Is w h3 b mp:=⟨o,es,ep,t,xm,hex,hd,xg,xh,hb,hf,hl,hp⟩;obtain⟨o3,xc,xz,t3,xp,xy,xr,xb,xw,xu,wz,x6,x9⟩:=id i3;refine AA (AL (s:={ s with heap:=h3 }) xp xr wz ?_)
 dsimp only
 have w4:t3.road t = .oneByOne:=by
  unfold SetTable.road;have hp:t3.place.size=xc.size:=by
   simp only [SetTable.fits,cz,AK] at wz;exact wz.1
  have xt:0<xc.size:=by
   rw[<- bh,xb.len];exact dt.mpr w8
  rw[AD];rw[bne_iff_ne];unfold SetTable.fill;omega
 rw[w4]
 dsimp only
 refine AA (aAc (s:={ s with heap:=h3 }) i3 w8 xo λxi or=>AA ?_);rw[<- ue];refine wpAny_forIn_list _ (λrest _ s'=>∃ dn Z,xi.toList=dn++rest∧s' = { s with heap:=s'.heap }∧Heap.SameBut a s.heap s'.heap∧Is w s'.heap a Z∧(∀ x,x∈Z↔x∈gV∨∃ e∈dn,x=nB e.2)∧Z.length<=gV.length+dn.length) _ ?_ ?_ _ _ ⟨[],gV,rfl,rfl,xf,i3,λx=>by simp,by simp⟩
 ·rintro⟨hh,x⟩ rest u s' ⟨dn,Z,e1,e2,sb,i4,hm,xj⟩
  obtain⟨q1,tk,q2⟩:=or.1 (hh,x) (by rw[e1];simp)
  dsimp only at q1 q2 ⊢
  have xx:dn.length+(rest.length+1)=mp.length:=by
   have:=congrArg i6 e1
   rw[or.len,ai,ar] at this;omega
  rw[q2,q1];have xl:scanBound=4096:=rfl;refine AA (AM (Ol (s:=s') i4 (by omega) λh5 xk xa i5 xq x8=>?_));have w6:h5.get? b=some o:=(xa.2 b (Ne.symm wp)).trans ((sb.2 b (Ne.symm wp)).trans ho);refine AA (wx _ _ (λo' z=>?_) ?_)
  ·rw[ho] at z
   cases z;exact w6
  ·refine AA (AL (s:={ s' with heap:=h5 }) w6 hd hf ?_)
   dsimp only
   rw[bne_self_eq_false,AC ag];refine AB ⟨dn++[(hh,x)],xk,by rw[e1,d8];rfl,by rw[e2],sb.trans xa,i5,λy=>?_,by rw[ai,cm];omega⟩;rw[xq,hm];constructor
   ·rintro ((z | ⟨e,he,rfl⟩) | rfl)
    ·exact .inl z
    ·exact .inr ⟨e,gj _ he,rfl⟩
    ·exact .inr ⟨(hh,x),by simp,rfl⟩
   ·rintro (z | ⟨e,he,rfl⟩)
    ·exact .inl (.inl z)
    ·rcases br.mp he with z | z
     ·exact .inl (.inr ⟨e,z,rfl⟩)
     ·have:e=(hh,x):=by simpa using z
      subst this;exact .inr rfl
 ·rintro u s' ⟨dn,Z,e1,e2,sb,i4,hm,xj⟩
  rw[da] at e1;rw[e2];refine AB (h _ Z sb i4 (λx=>?_) ?_)
  ·rw[hm,<- e1,<- or.2.mem_iff,aw]
   exact or_congr Iff.rfl ⟨λ⟨e,he,z⟩=>⟨e,he,z.symm⟩,λ⟨e,he,z⟩=>⟨e,he,z.symm⟩⟩
  ·have:=congrArg i6 e1
   rw[or.len] at this;omega
def dS (w:World):Obj:={ cls:=.type "set",dict:=none,data:=.set #[] 0 (.fresh 0 0 (!byT w)) }
theorem Wp {Q:Value->kw->Prop}(h:Q (.ref s.heap.objs.size) { s with heap:=s.heap.push (dS w) }):wpAny (model prog w) A (newSet (.type "set")) Q E s:=by
 unfold newSet;refine AA (fX ?_)
 dsimp only
 simp only [newObj];exact AA (wpAny_alloc (AB h))
theorem Is.fresh (h:Heap):Is w (h.push (dS w)) h.objs.size []:=by
 refine⟨dS w,#[],0,.fresh 0 0 (!byT w),AU _ rfl,⟨rfl,rfl,rfl⟩,rfl,⟨λe Z=>by simp at Z,by simp⟩,il,by decide,rfl,?_,.inl rfl⟩;cases byT w
 ·exact .inr rfl
 ·exact .inl rfl
theorem Rz {a:Addr}{n:Nat}{Q:Unit->kw->Prop}(Z:s.heap.get? a=some (dS w))(hn:n<=128)
  (h:∀ (h3:Heap) (o3:Obj) (mp:Nat) (t3:SetTable),Heap.SameBut a s.heap h3->h3.get? a=some o3->o3.ExactSet->o3.data = .set #[] mp t3->t3.place.size=0->t3.dummies = #[]->ST.xG (t3.mask+1)->n<=t3.mask->(byT w=true∨t3.led=true)->Q () { s with heap:=h3 }) :
  wpAny (model prog w) A (setRoomFor a n) Q E s:=by
 have gV:byT w=true∨(!byT w)=true:=by cases byT w <;> simp
 unfold setRoomFor;refine AA (AL Z rfl rfl ?_)
 dsimp only
 unfold SetTable.roomFor;by_cases hc:((SetTable.fresh 0 0 (!byT w)).fill+n)*5≥(SetTable.fresh 0 0 (!byT w)).mask*3
 ·rw[AD hc]
  refine Cu (ms:=[]) Z rfl rfl (by show (0+n)*2<=256;omega) (cc _) λor t' p1 p2 p3 p4 p5 p6=>?_
  obtain rfl:or = #[]:=by
   have:=p1.length_eq
   rw[bh] at this;exact mw this
  obtain⟨hM,ww⟩:=tP ((0+n)*2) (by omega);have wp:t'.mask+1=SetTable.sizeAbove ((0+n)*2):=p3;have hg:(s.heap.update a (Obj.putSet #[] t')).get? a=some { dS w with data:=.set #[] (0+1) t' }:=by
   have:=AW (Obj.putSet #[] t') Z (by rw[putSet_of (o:=dS w) #[] t' rfl];rfl)
   rw[putSet_of (o:=dS w) #[] t' rfl] at this;exact this
  exact h _ _ 1 t' (Heap.SameBut.update _ a _) hg ⟨rfl,rfl,rfl⟩ rfl p2 p4 (by rw[wp];exact hM) (by omega) (gV.imp id λz=>p5.trans z)
 ·rw[AC hc]
  have wx:¬ (0+n)*5≥7*3:=hc;exact AB (h s.heap (dS w) 0 _ (Heap.SameBut.refl a _) Z ⟨rfl,rfl,rfl⟩ rfl rfl rfl (.inl rfl) (by show n<=7;omega) gV)
theorem Ls {a b:Addr}{ms:List Str}{Q:Unit->kw->Prop}(xl:a≠b)(xf:s.heap.get? a=some (dS w))(h2:Is w s.heap b ms)(hsz:ms.length<=128)
  (h:∀ h',Heap.SameBut a s.heap h'->Is w h' a ms->Q () { s with heap:=h' }):wpAny (model prog w) A (setMerge a b) Q E s:=by
 obtain⟨o,es,ep,t,ho,hex,hd,wz,w4,hb,hf,hl,hp⟩:=id h2;have hn:es.size=ms.length:=by rw[<- wz.len,bh]
 have w8:byT w=true∨(!byT w)=true:=by cases byT w <;> simp
 unfold setMerge;rw[AC (show ¬ ((a==b)=true) by rw[AK];exact xl)];refine AA (AL ho hd hf ?_)
 dsimp only
 by_cases h0:es.isEmpty=true
 ·rw[AD h0]
  have e0:ms=[]:=a8.mp (by rw[<- hn];simpa using h0);subst e0;exact AB (h s.heap (Heap.SameBut.refl a _) ⟨dS w,#[],0,.fresh 0 0 (!byT w),xf,⟨rfl,rfl,rfl⟩,rfl,⟨λe he=>by simp at he,by simp⟩,il,by decide,rfl,w8,.inl rfl⟩)
 rw[AC h0];have xm:0<es.size:=by
  rcases Nat.eq_zero_or_pos es.size with z | z
  ·exact absurd (by simpa using z) h0
  ·exact z
 have w6:t.plain=false:=hp.resolve_left (by omega);refine AA (Rz xf (by omega) λh3 o3 xo t3 xa mp ww wp xg xh hM xk xc=>?_);have xi:t3.fits (#[]:Array (Int×Value)).size=true:=by
  simp only [SetTable.fits,cz,AK,decide_eq_true_eq,SetTable.fill,xh];exact⟨xg,by show t3.place.size+0<=t3.mask;omega⟩
 refine AA (AL (s:={ s with heap:=h3 }) mp wp xi ?_)
 dsimp only
 have or:byT w=true∨(t3.led&&t.led)=true:=by
  rcases xc with z | z
  ·exact .inl z
  ·rcases hl with y | y
   ·exact .inl y
   ·exact .inr (by rw[z,y];rfl)
 have wx:(t3.fill != 0)=false:=by
  unfold SetTable.fill;rw[xg,xh];rfl
 unfold SetTable.road;rw[wx,AC ag];by_cases hm:(t3.mask==t.mask&&t.dummies.isEmpty)=true
 ·rw[AD hm]
  dsimp only
  refine wpAny_storeSet_of (s:={ s with heap:=h3 }) mp wp ?_ (fits_of_scanBound hb);exact h _ (xa.trans (Heap.SameBut.update _ a _)) (Is.store prog (t':={ mask:=t.mask,place:=t.place,dummies:=t.dummies,finger:=t3.finger,led:=t3.led&&t.led,moves:=t3.moves,plain:=t3.plain&&t.plain }) mp ww wp wz w4 hb hf or (.inr (by show (t3.plain&&t.plain)=false;rw[w6,ij]))).2
 ·rw[AC hm]
  dsimp only
  obtain⟨t',Z,e1,e2,e3,e4,e5,e6,e7⟩:=ST.Iw (finger:=t3.finger) (moves:=t3.moves) (led:=t3.led&&t.led) (plain:=t3.plain&&t.plain) (hashes:=es.map (·.1)) hM (by rw[ou];exact xk);rw[e1];rw[ou] at e2 e3;have xb:=oG e2;have gV:(Z.filterMap (es[·]?)).size=es.size:=by rw[<- bh,xb.length_eq,bh]
  refine AA (m:=(do
   if ((Z.filterMap (es[·]?)).size != es.size)=true then unsupported "internal:set-table-lost-an-element"
   pure (Z.filterMap (es[·]?),t'))) ?_
  rw[gV,bne_self_eq_false,AC ag];refine AB ?_;refine wpAny_storeSet_of (s:={ s with heap:=h3 }) mp wp ?_ (by rw[gV];exact fits_of_scanBound hb);have xj:t'.fits (Z.filterMap (es[·]?)).size=true:=by
   simp only [SetTable.fits,cz,AK,decide_eq_true_eq,SetTable.fill,e5];exact⟨by omega,by show t'.place.size+0<=t'.mask;omega⟩
  exact h _ (xa.trans (Heap.SameBut.update _ a _)) (Is.store prog mp ww wp (wz.perm xb) w4 (by rw[gV];exact hb) xj (by rw[e6];exact or) (.inr (by rw[e7,w6,ij]))).2
theorem Is.ty {a:Addr}{ms:List Str}(x:Is w s.heap a ms):s.TypeIs (.ref a) "set" := by
 obtain⟨o,_,_,_,Z,hex,_⟩:=x;exact⟨o,Z,hex.1⟩
theorem Tm {b:Addr}{ms:List Str}{Q:Value->kw->Prop}(h2:Is w s.heap b ms)(hsz:ms.length<=128)
  (h:∀ h',(∀ x o,s.heap.get? x=some o->h'.get? x=some o)->Is w h' s.heap.objs.size ms->Q (.ref s.heap.objs.size) { s with heap:=h' }):wpAny (model prog w) A (Builtin.Frozenset.copyOf b) Q E s:=by
 unfold Builtin.Frozenset.copyOf Builtin.Frozenset.baseOf;refine AA (AA (wpAny_isInstance h2.ty sub_set_self (AB ?_)));rw[AD rfl];refine AA (Wp ?_);refine AA (m:=Builtin.Frozenset.addrOf (.ref s.heap.objs.size)) (AB ?_);obtain⟨o,ho⟩:=h2.there;have Z:=AV ho;refine AA (Ls (s:={ s with heap:=s.heap.push (dS w) }) (gn Z) (AU _ rfl) (h2.at λo e=>AT _ e) hsz λh' sb i=>AB ?_);exact h h' (λx o e=>(sb.2 x (az (AV e))).trans (AT _ e)) i
theorem Sa:entryFor table "set.__or__" = some Builtin.«frozenset.__or__» :=
 entryFor_alias (id' := "frozenset.__or__") (by kernel_rfl) (by first | rfl | decide +kernel | (unfold String.splitOn;simp +decide [String.splitOnAux])) (by decide +kernel) (by kernel_rfl)
theorem Zh {a b:Addr}{gV Z:List Str}{Q:Value->kw->Prop}(w4:a≠b)(h1:Is w s.heap a gV)(h2:Is w s.heap b Z)(w6:gV≠[])(hsz:gV.length+Z.length<=128)
  (h:∀ h' mp,(∀ x o,s.heap.get? x=some o->h'.get? x=some o)->Is w h' s.heap.objs.size mp->(∀ x,x∈mp↔x∈gV∨x∈Z)->mp.length<=gV.length+Z.length->Q (.ref s.heap.objs.size) { s with heap:=h' }) :
  wpAny (model prog w) A (binaryOp .BitOr (.ref a) (.ref b)) Q E s:=by
 refine wpAny_binaryOp_same h1.ty h2.ty F.fills_set_or F.slot_set_or (AS F.slot_set_or h1.ty Sa ?_ (F.args_set_or_2 _ _));refine AA (m:=Builtin.Frozenset.slot1 "__or__" ⟨[.ref a,.ref b],[]⟩) (AB (a:=(Value.ref a,Value.ref b)) ?_)
 dsimp only
 simp only [dm,↓reduceIte];have any:∀ (c:Addr) (ms:List Str) (A':Around) (s':kw) (Q':Bool->kw->Prop),Is w s'.heap c ms->Q' true s'->wpAny (model prog w) A' (Builtin.Frozenset.isAnySet (.ref c)) Q' E s':=λc ms A' s' Q' hc hQ=>by
  unfold Builtin.Frozenset.isAnySet;refine AA (m:=isInstance (.ref c) (.type "set")) (wpAny_isInstance hc.ty sub_set_self ?_)
  exact AB hQ
 refine AA (m:=Builtin.Frozenset.isAnySet (.ref a) <&&> Builtin.Frozenset.isAnySet (.ref b)) ?_;refine AA (m:=Builtin.Frozenset.isAnySet (.ref a)) (any a gV _ s _ h1 ?_);refine any b Z _ s _ h2 ?_;simp only [pi,dm,↓reduceIte];refine AA (m:=Builtin.Frozenset.addrOf (.ref a)) (AB ?_);refine AA ?_;refine AA (m:=Builtin.Frozenset.copyOf a) (Tm h1 (by omega) λh3 wp i3=>?_);have hb:(Value.ref b != Value.ref a)=true:=by
  rw[bne_iff_ne];exact λz=>w4 (by cases z;rfl)
 have wx:=AV h2.there.choose_spec;have or:Is w h3 b Z:=h2.at λo e=>wp b o e
 have nb:s.heap.objs.size≠b:=gn wx;rw[hb,AD rfl];refine AA (m:=holding [.ref s.heap.objs.size] (do Builtin.Frozenset.updateFrom _ (<- Builtin.Frozenset.addrOf (.ref s.heap.objs.size)) (.ref b))) (AM ?_);refine AA (m:=Builtin.Frozenset.addrOf (.ref s.heap.objs.size)) (AB ?_);unfold Builtin.Frozenset.updateFrom;refine AA (m:=Builtin.Frozenset.isAnySet (.ref b)) (any b Z _ { s with heap:=h3 } _ or ?_);rw[AD rfl];refine AA (m:=Builtin.Frozenset.addrOf (.ref b)) (AB ?_);unfold Builtin.Frozenset.merge;obtain⟨o,es,ep,t,ho,hex,hd,xb,w8,xa,hf,hl,hp⟩:=id or;refine AA (wpAny_setEpoch_of (s:={ s with heap:=h3 }) ho hd hf ?_);refine Ni (s:={ s with heap:=h3 }) nb i3 or w6 hsz (λs' Q' keep hQ=>?_) λh4 mp wz i4 hm ww=>?_
 ·unfold Builtin.Frozenset.unchanged
  refine AA (wpAny_setEpoch_of (s:=s') (keep o ho) hd hf ?_);rw[bne_self_eq_false,AC ag];exact AB hQ
 ·refine AB (AB ⟨_,rfl,(by intro z;cases z),h h4 mp (λx o' e=>(wz.2 x (az (AV e))).trans (wp x o' e)) i4 hm ww⟩)
end
theorem dO:Slot "set_iterator" "__next__" "set_iterator.__next__" :=
 .of (owner := "set_iterator") (n := "__next__") (by rw[typeLookup_type,builtinLookup_eq_fast];kernel_rfl) (by decide +kernel) (by decide +kernel) (by decide +kernel) (by first | exact .inl (by decide +kernel) | exact .inr (by decide +kernel)) (by rw[isSubtype_type];kernel_rfl)
theorem kG:entryFor table "set_iterator.__next__" = some Builtin.«set_iterator.__next__» := entryFor_of_tree (by kernel_rfl)
theorem lV (a:Value):argsOk "set_iterator.__next__" ⟨[a],[]⟩:=by unfold argsOk;kernel_rfl
theorem yO:Slot "set_iterator" "__iter__" "set_iterator.__iter__" :=
 .of (owner := "set_iterator") (n := "__iter__") (by rw[typeLookup_type,builtinLookup_eq_fast];kernel_rfl) (by decide +kernel) (by decide +kernel) (by decide +kernel) (by first | exact .inl (by decide +kernel) | exact .inr (by decide +kernel)) (by rw[isSubtype_type];kernel_rfl)
theorem Ml (a:Value):argsOk "set_iterator.__iter__" ⟨[a],[]⟩:=by unfold argsOk;kernel_rfl
theorem Gw:entryFor table "set_iterator.__iter__" = some Builtin.«dict_keyiterator.__iter__» :=
 entryFor_alias (id' := "dict_keyiterator.__iter__") (by kernel_rfl) (by first | rfl | decide +kernel | (unfold String.splitOn;simp +decide [String.splitOnAux])) (by decide +kernel) (by kernel_rfl)
theorem Fl:entryFor table "set.__iter__" = some Builtin.«frozenset.__iter__» :=
 entryFor_alias (id' := "frozenset.__iter__") (by kernel_rfl) (by first | rfl | decide +kernel | (unfold String.splitOn;simp +decide [String.splitOnAux])) (by decide +kernel) (by kernel_rfl)
def It (h:Heap)(I a:Addr)(first:Value)(i n ep:Nat):Prop:=∃ o,h.get? I=some o∧o.cls = .type "set_iterator" ∧ o.data = .fields #[first,rawInt (i:Int),.ref a,rawInt (n:Int),rawInt (ep:Int)]
theorem It.at {h h':Heap}{I a:Addr}{first:Value}{i n ep:Nat}(x:It h I a first i n ep)(e:∀ o,h.get? I=some o->h'.get? I=some o):It h' I a first i n ep:=let ⟨o,ho,r⟩:=x;⟨o,e _ ho,r⟩
section
variable {prog:xv}{w:World}{A:Around}{E:Value->kw->Prop}{s:kw}
theorem It.ty {I a:Addr}{first:Value}{i n ep:Nat}(x:It s.heap I a first i n ep):s.TypeIs (.ref I) "set_iterator" := let ⟨o,ho,hc,_⟩:=x;⟨o,ho,hc⟩
theorem Im {α:Type}{I:Addr}{s0 s:kw}{Q:Option Value->kw->Prop}(Z:A.handled=none)(hQ:∀ h',(∀ b o,s.heap.get? b=some o->h'.get? b=some o)->Q none { s with heap:=h' }) :
  wpAny (model prog w) A.in1 (newExc (.type "StopIteration") [] >>= λe=>(raiseNew e:Sem Fin)) (λfin s'=>∃ v,fin = .done (.ret v)∧wpAny (model prog w) A (pure (some v)) Q E s')
   (λe s'=>wpAny (model prog w) A (do if <- isInstance e (.type "StopIteration") then pure none else throw e) Q E s') s:=by
 refine AA ?_;simp only [newExc,newTuple];refine AA (AN ?_ (by size_fits));refine AA (m:=firstArgMember _ _) (AY (a:=Value.none) (by first | rfl | (simp only [firstArgMember];rfl)) ?_);refine AN ?_ (by size_fits);simp only [raiseNew];refine AA (wpAny_handled ?_)
 first | rw[show A.in1.handled=none from Z] | rw[Z]
 refine AA (AB (wpAny_throw ?_));refine AA (wpAny_isInstance (T := "StopIteration") (b:=true) ⟨_,AU _ rfl,rfl⟩ isSubtype_stop ?_)
 refine AB (hQ _ λb ob eb=>?_);exact AT _ (AT _ eb)
theorem Oc {I a:Addr}{o:Obj}{es:Array (Int×Value)}{ep i slot nx:Nat}{t:SetTable}{x:Value}{Q:Option Value->kw->Prop}(hI:It s.heap I a (rawInt (slot:Int)) i es.size ep)(or:a≠I)(ho:s.heap.get? a=some o)(hd:o.data = .set es ep t)(hf:t.fits es.size=true)
  (hN:∀ (A':Around) (E':Value->kw->Prop) (Q':Option (Value×Nat)->kw->Prop),Q' (some (x,nx)) s->wpAny (model prog w) A' (setNext a slot i ep) Q' E' s)
  (hQ:∀ h',It h' I a (rawInt (nx:Int)) (i+1) es.size ep->Heap.SameBut I s.heap h'->Q (some x) { s with heap:=h' }):wpAny (model prog w) A (pyNext (.ref I)) Q E s:=by
 obtain⟨oi,gV,mp,Z⟩:=id hI;unfold pyNext;refine AA (wpAny_attempt (wpAny_callSpecial?_slot (name:=Str.ofString "__next__") hI.ty dO (AS dO hI.ty kG ?_ (lV _))))
 unfold Builtin.«set_iterator.__next__»;refine AA (AY (a:=(Value.ref I,[])) rfl ?_)
 try dsimp only
 refine AA (wpAny_fieldsOf gV Z ?_)
 dsimp only [rawInt]
 refine AA (wpAny_setEntries_of ho hd hf ?_);rw[AC (by simp)];refine AA (m:=setNext a (slot:Int).toNat (i:Int).toNat (ep:Int).toNat) ?_;rw[bj,bj,bj];refine hN _ _ _ ?_
 dsimp only
 refine AA (wpAny_setField gV Z (by simp) ?_);have h2:=AW (Obj.mapFields (·.setIfInBounds 0 (rawInt (nx:Int)))) gV (Obj.isFreed_of_fields (Obj.data_mapFields Z _));refine AA (wpAny_setField h2 (Obj.data_mapFields Z _) (by simp) ?_);refine AB ⟨_,rfl,AB (hQ _ ?_ ((Heap.SameBut.update ..).trans (Heap.SameBut.update ..)))⟩;exact⟨_,AW _ h2 (Obj.isFreed_of_fields (Obj.data_mapFields (Obj.data_mapFields Z _) _)),(Obj.cls_mapFields ..).trans ((Obj.cls_mapFields ..).trans mp),by rw[Obj.data_mapFields (Obj.data_mapFields Z _)];simp[rawInt]⟩
theorem Sm {I a:Addr}{o:Obj}{es:Array (Int×Value)}{ep i slot:Nat}{t:SetTable}{Q:Option Value->kw->Prop}(hh:A.handled=none)(hI:It s.heap I a (rawInt (slot:Int)) i es.size ep)(mp:a≠I)(ho:s.heap.get? a=some o)(hd:o.data = .set es ep t)(hf:t.fits es.size=true)
  (hN:∀ (A':Around) (E':Value->kw->Prop) (Q':Option (Value×Nat)->kw->Prop),Q' none s->wpAny (model prog w) A' (setNext a slot i ep) Q' E' s)
  (hQ:∀ h',Heap.ExtBut I s.heap h'->Q none { s with heap:=h' }):wpAny (model prog w) A (pyNext (.ref I)) Q E s:=by
 obtain⟨oi,gV,or,Z⟩:=id hI;unfold pyNext;refine AA (wpAny_attempt (wpAny_callSpecial?_slot (name:=Str.ofString "__next__") hI.ty dO (AS dO hI.ty kG ?_ (lV _))))
 unfold Builtin.«set_iterator.__next__»;refine AA (AY (a:=(Value.ref I,[])) rfl ?_)
 try dsimp only
 refine AA (wpAny_fieldsOf gV Z ?_)
 dsimp only [rawInt]
 refine AA (wpAny_setEntries_of ho hd hf ?_);rw[AC (by simp)];refine AA (m:=setNext a (slot:Int).toNat (i:Int).toNat (ep:Int).toNat) ?_;rw[bj,bj,bj];refine hN _ _ _ ?_
 dsimp only
 refine AA (wpAny_setField gV Z (by simp) ?_);refine AJ (Im (α:=Unit) (I:=I) (s0:=s) (Q:=Q) (E:=E) hh λh' kp=>hQ h' λb ob hb eb=>kp b ob ((AX _ _ (Ne.symm hb)).trans eb)) (λfin s' z=>z) λe s' z=>z
theorem Qe {I a tp:Addr}{o ot:Obj}{es:Array (Int×Value)}{ep i p nt:Nat}{t:SetTable}{x:Int×Value}{ps:List Nat}{Q:Option Value->kw->Prop}(hI:It s.heap I a (.ref tp) i es.size ep)(ho:s.heap.get? a=some o)(hd:o.data = .set es ep t)(hf:t.fits es.size=true)
  (mp:s.heap.get? tp=some ot) (wp:ot.data = .seq (ps.map λj:Nat=>rawInt (j:Int)).toArray nt) (hp:ps[i]?=some p) (hx:es[p]?=some x)
  (hQ:∀ h',It h' I a (.ref tp) (i+1) es.size ep->Heap.SameBut I s.heap h'->Q (some x.2) { s with heap:=h' }):wpAny (model prog w) A (pyNext (.ref I)) Q E s:=by
 obtain⟨oi,gV,or,Z⟩:=id hI;unfold pyNext;refine AA (wpAny_attempt (wpAny_callSpecial?_slot (name:=Str.ofString "__next__") hI.ty dO (AS dO hI.ty kG ?_ (lV _))))
 unfold Builtin.«set_iterator.__next__»;refine AA (AY (a:=(Value.ref I,[])) rfl ?_)
 try dsimp only
 refine AA (wpAny_fieldsOf gV Z ?_)
 dsimp only [rawInt]
 refine AA (wpAny_setEntries_of ho hd hf ?_);rw[AC (by simp)];refine AA (wpAny_seqItems mp wp ?_)
 dsimp only
 rw[bj,mj,ah,hp]
 dsimp only [ud,rawInt]
 refine AA (m:=setNextDrawn a (p:Int).toNat (ep:Int).toNat) ?_;rw[bj,bj];unfold setNextDrawn;refine AA (AL ho hd hf ?_)
 dsimp only
 rw[bne_self_eq_false,AC ag,hx];refine AB ?_;refine AA (wpAny_setField gV Z (by simp) ?_);refine AB ⟨_,rfl,AB (hQ _ ?_ (Heap.SameBut.update ..))⟩;exact⟨_,AW _ gV (Obj.isFreed_of_fields (Obj.data_mapFields Z _)),(Obj.cls_mapFields ..).trans or,by rw[Obj.data_mapFields Z];simp[rawInt]⟩
theorem Tn {I a tp:Addr}{o ot:Obj}{es:Array (Int×Value)}{ep i nt:Nat}{t:SetTable}{ps:List Nat}{Q:Option Value->kw->Prop}(hh:A.handled=none)(hI:It s.heap I a (.ref tp) i es.size ep)(ho:s.heap.get? a=some o)(hd:o.data = .set es ep t)(hf:t.fits es.size=true)
  (mp:s.heap.get? tp=some ot) (or:ot.data = .seq (ps.map λj:Nat=>rawInt (j:Int)).toArray nt) (hp:ps[i]?=none)
  (hQ:∀ h',Heap.ExtBut I s.heap h'->Q none { s with heap:=h' }):wpAny (model prog w) A (pyNext (.ref I)) Q E s:=by
 obtain⟨oi,gV,wp,Z⟩:=id hI;unfold pyNext;refine AA (wpAny_attempt (wpAny_callSpecial?_slot (name:=Str.ofString "__next__") hI.ty dO (AS dO hI.ty kG ?_ (lV _))))
 unfold Builtin.«set_iterator.__next__»;refine AA (AY (a:=(Value.ref I,[])) rfl ?_)
 try dsimp only
 refine AA (wpAny_fieldsOf gV Z ?_)
 dsimp only [rawInt]
 refine AA (wpAny_setEntries_of ho hd hf ?_);rw[AC (by simp)];refine AA (wpAny_seqItems mp or ?_)
 dsimp only
 rw[bj,mj,ah,hp]
 dsimp only [ud]
 refine AA (wpAny_setField gV Z (by simp) ?_);have h2:=AW (Obj.mapFields (·.setIfInBounds 0 (rawInt 0))) gV (Obj.isFreed_of_fields (Obj.data_mapFields Z _));refine AA (wpAny_setField h2 (Obj.data_mapFields Z _) (by simp) ?_);refine AJ (Im (α:=Unit) (I:=I) (s0:=s) (Q:=Q) (E:=E) hh λh' kp=>hQ h' λb ob hb eb=>kp b ob ((AX _ _ (Ne.symm hb)).trans ((AX _ _ (Ne.symm hb)).trans eb))) (λfin s' z=>z) λe s' z=>z
theorem Il {I a:Addr}{first:Value}{i n ep:Nat}{Q:Value->kw->Prop}(Z:It s.heap I a first i n ep)(h:Q (.ref I) s):wpAny (model prog w) A (pyIter (.ref I)) Q E s:=by
 refine wpAny_pyIter_slot Z.ty yO (AS yO Z.ty Gw ?_ (Ml _));show wpAny _ _ (ret (.ref I)) _ _ s;exact AB ⟨_,rfl, "set_iterator",_,Z.ty,dO.lookup,h⟩
theorem Bk {M:Model}{Z:Source}{n:Nat}{Q:Nat->kw->Prop}(hn:n≠0)(h:∀ i d,i<n->Q i { s with drawn:=d }):wpAny M A (choose Z n) Q E s:=λΓ p hΓ=>⟨hn,h _ _ (jn _ (oj hn))⟩
theorem Ua {α:Type}:∀ (xs:List α) (s:kw) (Q:List α->kw->Prop),(∀ ys d,ys.Perm xs->Q ys { s with drawn:=d })->wpAny (model prog w) A (drawOrder xs.length xs) Q E s:=by
 intro xs;generalize hn:xs.length=n
 induction n generalizing xs with
 | zero =>
  intro s Q h;obtain rfl:=a8.mp hn;rw[drawOrder];exact AB (h [] s.drawn (ej _))
 | succ n ih =>
  intro s Q h
  cases xs with
  | nil=>cases hn
  | cons x xs =>
   rw[drawOrder]
   rotate_left
   ·intro z
    cases z
   refine AA (Bk (by simp) λi d hi=>?_);rw[aa hi]
   dsimp only
   refine AA (ih ((x::xs).eraseIdx i) (by rw[oq hi,hn];rfl) _ _ λys Z hp=>AB ?_);exact h _ Z ((hp.cons _).trans (nH _ i hi))
end
theorem Nc {prog:xv}{w:World}{A:Around}{a I:Addr}{o:Obj}{es:Array (Int×Value)}{ep:Nat}{t:SetTable}{L:List (Int×Value)}{slots:Nat->Nat}(hh:A.handled=none)(Z:a≠I)(hd:o.data = .set es ep t)(hf:t.fits es.size=true)
  (hN:∀ (i:Nat) (s:kw) (A':Around) (E':Value->kw->Prop) (Q':Option (Value×Nat)->kw->Prop),s.heap.get? a=some o->i<=L.length->Q' ((L[i]?).map λe=>(e.2,slots (i+1))) s->wpAny (model prog w) A' (setNext a (slots i) i ep) Q' E' s) :
  Walks prog w A I [I,a] [I] L.length (λi v=>(L.map (·.2))[i]?=some v) (λi h=>h.get? a=some o∧It h I a (rawInt (slots i:Int)) i es.size ep) where
 sub:=λb hb=>by simp at hb;simp[hb]
 frame:=λ_ _ _ y hk=>⟨hk a (by simp) o y.1,y.2.at λo e=>hk I (by simp) o e⟩
 item:=λi s Q E hi y hQ=>by
  refine Oc (x:=L[i].2) (nx:=slots (i+1)) y.2 Z y.1 hd hf (λA' E' Q' q=>hN i s A' E' Q' y.1 (by omega) ?_) λh' gV hs=>?_
  ·rw[aa hi]
   exact q
  ·exact hQ _ h' s.toks (by rw[ah,aa hi];rfl) ⟨(hs.2 a Z).trans y.1,gV⟩ λb o hb eo=>hs.extBut b o (λh=>hb (by simp[h])) eo
 done:=λs Q E y hQ=>by
  refine Sm hh y.2 Z y.1 hd hf (λA' E' Q' q=>hN L.length s A' E' Q' y.1 (af _) ?_) λh' he=>hQ h' s.toks λb o hb eo=>he b o (λh=>hb (by simp[h])) eo
  rw[c8 (af _)];exact q
 self:=λ_ _ _ _ y hQ=>Il y.2 hQ
theorem Nr {prog:xv}{w:World}{A:Around}{a I tp:Addr}{o ot:Obj}{es:Array (Int×Value)}{ep nt:Nat}{t:SetTable}{ps:List Nat}(hh:A.handled=none)(wp:a≠I)(mp:tp≠I)(hd:o.data = .set es ep t)(hf:t.fits es.size=true)
  (gV:ot.data = .seq (ps.map λj:Nat=>rawInt (j:Int)).toArray nt) (ww:∀ p∈ps,p<es.size) :
  Walks prog w A I [I,a,tp] [I] ps.length (λi v=>(ps.map λp=>(es.getD p (0,.none)).2)[i]?=some v) (λi h=>h.get? a=some o∧h.get? tp=some ot∧It h I a (.ref tp) i es.size ep) where
 sub:=λb hb=>by simp at hb;simp[hb]
 frame:=λ_ _ _ y hk=>⟨hk a (by simp) o y.1,hk tp (by simp) ot y.2.1,y.2.2.at λo e=>hk I (by simp) o e⟩
 item:=λi s Q E hi y hQ=>by
  have hp:ps[i]?=some ps[i]:=aa hi;have Z:=ww _ (dk hi);have hx:es[ps[i]]?=some (es[ps[i]]'Z):=lc Z;refine Qe y.2.2 y.1 hd hf y.2.1 gV hp hx λh' or hs=>?_
  refine hQ _ h' s.toks ?_ ⟨(hs.2 a wp).trans y.1,(hs.2 tp mp).trans y.2.1,or⟩ λb o hb eo=>hs.extBut b o (λh=>hb (by simp[h])) eo
  rw[ah,hp];show some (es.getD ps[i] (0,Value.none)).2=_;rw[gm,hx];rfl
 done:=λs Q E y hQ=>Tn hh y.2.2 y.1 hd hf y.2.1 gV (c8 (af _)) λh' he=>hQ h' s.toks λb o hb eo=>he b o (λh=>hb (by simp[h])) eo
 self:=λ_ _ _ _ y hQ=>Il y.2.2 hQ
theorem Ce {w:World}:∀ L:List (Int×Value),(∀ e∈L,El w e)->StrsAre (L.map (·.2)) (L.map λe=>nB e.2)
 | [],_=>.nil
 | e::L,h=>by
  obtain⟨_,Z,q⟩:=h e (aq ..);rw[ap,ap];have r:=Ce L λx hx=>h x (al _ hx)
  have z:StrsAre (Value.str (nB e.2) Z::L.map (·.2)) (nB e.2::L.map λe=>nB e.2):=.cons _ _ r;rw[<- q] at z;exact z
section
variable {prog:xv}{w:World}{A:Around}{E:Value->kw->Prop}{s:kw}
theorem Ui {a:Addr}{ms:List Str}{Q:Value->kw->Prop}(hS:Is w s.heap a ms)
  (h:∀ (h':Heap) (d:Drawn) (I:Addr) (fp:List Addr) (xs:List Value) (ss:List Str) (St:Nat->Heap->Prop),(∀ A':Around,A'.handled=none->Walks prog w A' I fp [I] xs.length (λi v=>xs[i]?=some v) St)->St 0 h' ->
   (∀ b o,s.heap.get? b=some o->h'.get? b=some o)->s.heap.objs.size<=I->(∀ b∈fp,b=a∨s.heap.objs.size<=b)->StrsAre xs ss->ss.Perm ms->Q (.ref I) { s with heap:=h',drawn:=d }) :
  wpAny (model prog w) A (pyIter (.ref a)) Q E s:=by
 obtain⟨o,es,ep,t,ho,hex,hd,xg,xm,hb,hf,hl,hp⟩:=id hS;have xf:=AV ho;have wx:t.place.size=es.size:=by
  simp only [SetTable.fits,cz,AK] at hf;exact hf.1
 refine wpAny_pyIter_slot hS.ty F.slot_set_iter (AS F.slot_set_iter hS.ty Fl ?_ (F.args_set_iter_1 _));unfold Builtin.«frozenset.__iter__»;refine AA (m:=Builtin.Frozenset.slot0 "__iter__" ⟨[.ref a],[]⟩) (AY (a:=a) rfl ?_)
 unfold Builtin.Frozenset.sizeOf;refine AA (AA (wpAny_setEntries_of ho hd hf (AB ?_)));have mp:∀ L:List (Int×Value),L.Perm es.toList->StrsAre (L.map (·.2)) (L.map λe=>nB e.2)∧(L.map λe=>nB e.2).Perm ms:=λL hp=>⟨Ce L (xg.perm hp).1,(xg.perm hp).2⟩
 have fin:∀ (L:List (Int×Value)) (slots:Nat->Nat),slots 0=0->L.Perm es.toList->(∀ (i:Nat) (s:kw) (A':Around) (E':Value->kw->Prop) (Q':Option (Value×Nat)->kw->Prop),s.heap.get? a=some o->i<=L.length->Q' ((L[i]?).map λe=>(e.2,slots (i+1))) s->wpAny (model prog w) A' (setNext a (slots i) i ep) Q' E' s) ->
   wpAny (model prog w) A.in1 (setEpoch a >>= λe=>newFields "set_iterator" [rawInt 0,rawInt 0,.ref a,rawInt (es.size:Int),rawInt (e:Int)] >>= ret) (λfin s'=>∃ v,fin = .done (.ret v)∧∃ (T:String) (r:Value),s'.TypeIs v T∧typeLookup (.type T) "__next__" = pure (some r)∧Q v s') E s:=λL slots h0 hL hN=>by
  refine AA (wpAny_setEpoch_of ho hd hf ?_);have hI:It (s.heap.push { cls:=.type "set_iterator",data:=.fields #[rawInt 0,rawInt 0,.ref a,rawInt (es.size:Int),rawInt (ep:Int)] }) s.heap.objs.size a (rawInt (slots 0:Int)) 0 es.size ep:=⟨_,AU _ rfl,rfl,by rw[h0];rfl⟩
  obtain⟨q1,q2⟩:=mp L hL;refine AA (AN (AB ⟨_,rfl, "set_iterator",_,⟨_,AU _ rfl,rfl⟩,dO.lookup,?_⟩))
  have z:=h (s.heap.push { cls:=.type "set_iterator",data:=.fields #[rawInt 0,rawInt 0,.ref a,rawInt (es.size:Int),rawInt (ep:Int)] }) s.drawn s.heap.objs.size [s.heap.objs.size,a] (L.map (·.2)) _ (λi h=>h.get? a=some o∧It h s.heap.objs.size a (rawInt (slots i:Int)) i es.size ep) (λA' wz=>by
     rw[aR];exact Nc wz (az xf) hd hf hN) ⟨AT _ ho,hI⟩ (λb o e=>AT _ e) (af _) (λb hb=>by
     rcases au.mp hb with rfl | hb
     · exact .inr (af _)
     · exact .inl (ax.mp hb)) q1 q2
  exact z
 have w6:∀ (Q':Bool->kw->Prop),Q' (!byT w&&(!t.plain&&decide (es.size>1))) s->wpAny (model prog w) A.in1 (setDrawn a) Q' E s:=λQ' q=>by
  unfold setDrawn;refine AA (AL ho hd hf ?_)
  dsimp only
  exact AA (fX (AB q))
 refine AA (w6 _ ?_);by_cases hby:byT w=true
 ·rw[hby]
  simp only [pi,rj,dm,↓reduceIte];refine AA (AB ?_);refine fin (pickOrder (w.params.setOrder a ep) es).toList (λ_=>0) rfl (zB _ _) λi s' A' E' Q' Z hi q=>?_
  unfold setNext;refine AA (AL Z hd hf ?_)
  dsimp only
  refine AA (fX ?_);rw[hby,AD rfl,bne_self_eq_false,AC ag];unfold setWalk;refine AA (AA (AL Z hd hf ?_))
  dsimp only
  refine AA (fX ?_);rw[hby,AD rfl];refine AA (wpAny_askSetting (AB (AB ?_)));rw[jf] at q;exact q
 ·have xa:byT w=false:=km.mpr hby
  have xk:t.led=true:=hl.resolve_left hby;by_cases h1:es.size<=1
  ·have xb:(!byT w&&(!t.plain&&decide (es.size>1)))=false:=by rw[AH (by omega)];simp
   rw[xb];simp only [dm,↓reduceIte];refine AA (AB ?_);have hN:∀ (slot i:Nat) (s':kw) (A':Around) (E':Value->kw->Prop) (Q':Option (Value×Nat)->kw->Prop),s'.heap.get? a=some o ->
       Q' (match es[SetTable.below t.place slot]?,t.place[SetTable.below t.place slot]? with | some (_,x),some j=>some (x,j+1) | _,_=>none) s'->wpAny (model prog w) A' (setNext a slot i ep) Q' E' s':=λslot i s' A' E' Q' Z q=>by
     unfold setNext;refine AA (AL Z hd hf ?_)
     dsimp only
     refine AA (fX ?_);rw[xa,AC ag];have xj:(!t.plain&&decide (es.size>1))=false:=by rw[AH (by omega)];simp
     show wpAny _ _ (if (!t.plain&&decide (es.size>1))=true then _ else _) _ _ s';rw[xj,AC ag];refine AA (m:=if (!t.led && !es.isEmpty)=true then unsupported "set:maker-not-led" else pure ()) ?_
     rw[xk];simp only [pi,rj,dm,↓reduceIte];exact AB (AB q)
   by_cases h0:es.size=0
   · have ee:es = #[]:=mw h0
     refine fin [] (λ_=>0) rfl (by rw[ee]) λi s' A' E' Q' Z hi q=>hN 0 i s' A' E' Q' Z ?_
     rw[ee,Array.getElem?_eq_none (by simp)];exact q
   · obtain⟨e0,wp⟩:∃ e0,es = #[e0]:=by
       obtain⟨l⟩:=es
       match l,h0,h1 with
       | [e0],_,_=>exact⟨e0,rfl⟩
       | [],h,_=>exact absurd rfl h
       | _::_::_,_,h=>simp at h
     obtain⟨j,hj⟩:∃ j,t.place = #[j]:=by
       rw[wp] at wx
       cases or:t.place with
       | mk l =>
         rw[or] at wx
         match l,wx with
         | [j],_=>exact⟨j,rfl⟩
     refine fin [e0] (λi=>if i=0 then 0 else j+1) rfl (by rw[wp]) λi s' A' E' Q' Z hi q=>hN _ i s' A' E' Q' Z ?_
     have b0:SetTable.below #[j] 0=0:=by
       simp[SetTable.below,SetTable.below.go]
     have b1:SetTable.below #[j] (j+1)=1:=by
       simp[SetTable.below,SetTable.below.go]
     match i,hi with
     | 0,_ =>
       rw[AD rfl,hj,b0,wp];exact q
     | 1,_ =>
       rw[AC (by decide),hj,b1,wp];exact q
  ·have or:t.plain=false:=hp.resolve_left (by omega)
   have xh:(!byT w&&(!t.plain&&decide (es.size>1)))=true:=by rw[xa,or,AE (by omega)];rfl
   rw[xh,AD rfl];have hr:(bt es.size).length=es.size:=cq;refine AA (m:=drawOrder es.size (bt es.size)) ?_;have dr:=Ua (prog:=prog) (w:=w) (A:=A.in1) (E:=E) (bt es.size) s;rw[hr] at dr;refine dr _ λps d ww=>?_
   have or:ps.length=es.size:=by rw[ww.length_eq,hr]
   have hs:=AG;have sb:scanBound=4096:=rfl;refine AA (wpAny_newTuple ?_ (by rw[aR];omega));generalize xc:({ cls:=.type "tuple",data:=.seq (ps.map λj:Nat=>rawInt (j:Int)).toArray }:Obj)=ot
   have hg:(s.heap.push ot).get? s.heap.objs.size=some ot:=AU _ (by rw[<- xc];rfl);have w4:(s.heap.push ot).get? a=some o:=AT _ ho;refine AA (wpAny_setEpoch_of (s:={ s with heap:=s.heap.push ot,drawn:=d }) w4 hd hf ?_);refine AA (AN (AB ⟨_,rfl, "set_iterator",_,⟨_,AU _ rfl,rfl⟩,dO.lookup,?_⟩))
   have hsz:(s.heap.push ot).objs.size=s.heap.objs.size+1:=Heap.size_push _ _;have xi:(ps.map λp=>es.getD p (0,Value.none)).Perm es.toList:=by
     have e1:(bt es.size).map (λp=>es.getD p (0,Value.none))=es.toList:=by
       apply List.ext_getElem
       · simp
       · intro i g1 g2
         have g3:i<es.size:=by simpa using g1
         simp[gm,g3]
     exact (ww.map _).trans (by rw[e1])
   obtain⟨q1,q2⟩:=mp _ xi;rw[bv,bv] at q1;rw[bv] at q2;have w8:∀ p∈ps,p<es.size:=λp hp=>ck.mp (ww.mem_iff.mp hp)
   have xl:∀ (o2:Obj),o2 = { cls:=.type "set_iterator",data:=.fields #[.ref s.heap.objs.size,rawInt 0,.ref a,rawInt (es.size:Int),rawInt (ep:Int)] }->Q (.ref (s.heap.objs.size+1)) { s with heap:=(s.heap.push ot).push o2,drawn:=d }:=λo2 gV=>by
    refine h ((s.heap.push ot).push o2) d (s.heap.objs.size+1) [s.heap.objs.size+1,a,s.heap.objs.size] (ps.map λp=>(es.getD p (0,Value.none)).2) _ (λi h=>h.get? a=some o∧h.get? s.heap.objs.size=some ot∧It h (s.heap.objs.size+1) a (.ref s.heap.objs.size) i es.size ep) (λA' wz=>by
        rw[aR];exact Nr (ot:=ot) (nt:=0) wz (az (fj xf)) (az (gx _)) hd hf (by rw[<- xc]) w8) ⟨AT _ w4,AT _ hg,?_⟩ (λb o e=>AT _ (AT _ e)) (gv _) (λb hb=>?_) q1 q2
    · rw[<- hsz]
      exact⟨o2,AU _ (by rw[gV];rfl),by rw[gV],by rw[gV];rfl⟩
    · rcases au.mp hb with rfl | hb
      · exact .inr (gv _)
      · rcases au.mp hb with rfl | hb
        · exact .inl rfl
        · exact .inr (qc (ax.mp hb).symm)
   have z:=xl _ rfl;rw[<- hsz] at z;exact z
end
theorem Qq {xs:List Value}{Z:Array Value}(h:ItemsOf (λi v=>xs[i]?=some v) Z xs.length):Z.toList=xs:=by
 apply l7;intro i;rw[jf]
 cases e:Z[i]? with
 | some v=>exact (h.2 i v e).symm
 | none =>
  have:Z.size<=i:=by
   rcases fh i Z.size with z | z
   ·rw[lc z] at e;cases e
   ·exact z
  rw[c8 (by rw[<- h.1];exact this)]
section
variable {prog:xv}{w:World}{A:Around}{E:Value->kw->Prop}{s:kw}
theorem Ta {a:Addr}{ms:List Str}{Q:Bool->kw->Prop}(hS:Is w s.heap a ms)(h:Q false s):wpAny (model prog w) A (Builtin.List.listLengthHint (.ref a)) Q E s:=by
 unfold Builtin.List.listLengthHint;refine AA (wpAny_specialOf hS.ty F.slot_set_len.lookup ?_);generalize gV:("set.__len__" : String)=mp
 wp_delta
 rw[show splitId mp=some ("set", "__len__") from by subst gV;decide +kernel]
 subst gV;refine AA (wpAny_isInstance (T := "set") (b:=true) hS.ty sub_set_self ?_)
 refine wpAny_ite_split (λZ=>absurd Z (by decide)) (λ_=>?_);refine wpAny_ite_split (λ_=>?_) (λZ=>absurd (by decide +kernel) Z);refine AA (wpAny_typeOf hS.ty ?_);exact AB h
theorem Kf {a:Addr}{ms:List Str}{R:Result->kw->Prop}(hh:A.handled=none)(hS:Is w s.heap a ms)(hz:ms.length<=sizeLine)(S:Addr)(res:Value)(h1:S≠a)(mp:s.heap.get? S=some { cls:=.type "list",data:=.seq #[] })
  (hR:∀ s' Z c' ss,(∀ b o,b≠S->s.heap.get? b=some o->s'.heap.get? b=some o)->s'.gens=s.gens->s'.os=s.os->s'.heap.get? S=some { cls:=.type "list",dict:=none,data:=.seq Z c',slots:=#[] }->StrsAre Z.toList ss->ss.Perm ms->R (.ok (.ret res)) s') :
  wpAny (model prog w) A.in1 (Builtin.List.listExtendWith (.ref S) (.ref a) res)
   (λfin s'=>match fin with | .done f=>R (.ok f) s' | .again c'=>c'.quiet=true∧codeAny (model prog w) A c' R s') (λe s'=>R (.error e) s') s:=by
 unfold Builtin.List.listExtendWith;refine AA (wpAny_typeOf hS.ty ?_);have g1:Builtin.List.listSameRef (.ref S) (.ref a)=false:=by simp[Builtin.List.listSameRef,h1]
 have g2:(Value.type "set" == Value.type "list")=false:=by decide
 have g3:(Value.type "set" == Value.type "tuple")=false:=by decide
 simp only [g1,g2,g3,jm,dm,if_false];refine AA (Ui (A:=A.in1) hS λh2 d I fp xs ss St W xb kp or xf wx w6=>?_);have wz:=AV mp;have xh:S≠I:=az (bi wz or);have w4:S∉fp:=λz=>by
  rcases xf S z with e | e
  ·exact h1 e
  ·exact absurd wz (ua.mpr e)
 have xa:Is w h2 a ms:=hS.at λo e=>kp a o e
 refine AA (AM (Ta (s:={ s with heap:=h2,drawn:=d }) xa ?_));have WS:=(W A.in1 hh).toS;have xi:xs.length=ms.length:=by rw[wx.length,w6.length_eq]
 have last:∀ (h0:Heap) (c0:Nat),(∀ b o,b≠S->h2.get? b=some o->h0.get? b=some o)->h0.get? S=some { cls:=.type "list",data:=.seq #[] c0 } ->
   wpAny (model prog w) A.in1 (again (.builtin "list.extend.loop" ⟨[.ref S,.ref I,res],[]⟩))
    (λfin s'=>match fin with | .done f=>R (.ok f) s' | .again c'=>c'.quiet=true∧codeAny (model prog w) A c' R s') (λe s'=>R (.error e) s') { s with heap:=h0,drawn:=d }:=λh0 c0 ww w8=>by
  refine AB ⟨plainId_quiet F.plain_extend_loop _,codeAny_extend_loopS WS (by omega) S w4 res xs.length 0 _ #[] c0 rfl (cc _) ?_ w8 (ItemsOf.nil _) λs' Z c' hm xg wp=>?_⟩
  ·exact (W A.in1 hh).frame 0 h2 h0 xb λb hb o e=>ww b o (λz=>w4 (z▸hb)) e
  ·refine hR s' Z c' ss (λb o hb e=>?_) hm.gens hm.os xg (by rw[Qq wp];exact wx) w6
   by_cases hbI:b=I
   ·subst hbI
    exact absurd (AV e) (ua.mpr or)
   ·exact hm.heap b o (by simp[hb,hbI]) (ww b o hb (kp b o e))
 refine wpAny_ite_split (λ_=>?_) (λxc=>absurd (by decide +kernel) xc);refine AA (wpAny_rule ?_);have gV:h2.get? S=some { cls:=.type "list",data:=.seq #[] }:=kp S _ mp
 refine AA (m:=((do updateSeq S (λz=>z.push .none);updateSeq S (λz=>z.pop)):Sem Unit)) (AA (wpAny_updateSeq (s:={ s with heap:=h2,drawn:=d }) gV rfl ?_));have k1:=AW (Obj.mapSeq (λz=>z.push .none)) gV rfl;refine wpAny_updateSeq k1 rfl ?_;have k2:=AW (Obj.mapSeq (λz=>z.pop)) k1 rfl;exact last _ _ (λb o hb e=>(AX _ _ (Ne.symm hb)).trans ((AX _ _ (Ne.symm hb)).trans e)) k2
theorem Gk {a:Addr}{ms:List Str}{Q:List Value->kw->Prop}(hh:A.handled=none)(hS:Is w s.heap a ms)(hz:ms.length<=sizeLine)
  (hQ:∀ s' vs ss,(∀ b o,s.heap.get? b=some o->s'.heap.get? b=some o)->s'.gens=s.gens->s'.os=s.os->StrsAre vs ss->ss.Perm ms->Q vs s'):wpAny (model prog w) A (collect (.ref a)) Q E s:=by
 have gV:=AV hS.there.choose_spec;unfold collect;refine AA (wpAny_runValue (AO F.entry_proto_collect ?_));rw[Around.under_plainId F.plain_proto_collect];refine AA (m:=newList []) (AN (AB ⟨plainId_quiet F.plain_list_iadd _,AO F.entry_list_iadd ?_⟩));rw[Around.under_plainId F.plain_list_iadd];have mp:(s.heap.push { cls:=.type "list",data:=.seq #[] }).get? s.heap.objs.size=some { cls:=.type "list",data:=.seq #[] }:=AU _ rfl
 have go:∀ R:Result->kw->Prop,(∀ s' Z c' ss,(∀ b o,s.heap.get? b=some o->s'.heap.get? b=some o)->s'.gens=s.gens->s'.os=s.os->s'.heap.get? s.heap.objs.size=some { cls:=.type "list",dict:=none,data:=.seq Z c',slots:=#[] }->StrsAre Z.toList ss->ss.Perm ms->R (.ok (.ret (.ref s.heap.objs.size))) s') ->
   wpAny (model prog w) A.in1 (Builtin.List.listExtendWith (.ref s.heap.objs.size) (.ref a) (.ref s.heap.objs.size))
    (λfin s'=>match fin with | .done f=>R (.ok f) s' | .again c'=>c'.quiet=true∧codeAny (model prog w) A c' R s') (λe s'=>R (.error e) s') { s with heap:=s.heap.push { cls:=.type "list",data:=.seq #[] } }:=λR hR =>
  Kf (A:=A) (s:={ s with heap:=s.heap.push { cls:=.type "list",data:=.seq #[] } }) hh (hS.at λo e=>AT _ e) hz s.heap.objs.size (.ref s.heap.objs.size) (gn gV) mp
   λs' Z c' ss kp g1 g2 e1 e2 e3=>hR s' Z c' ss (λb o e=>kp b o (az (AV e)) (AT _ e)) g1 g2 e1 e2 e3
 refine go (λr s'=>match r with
  | .ok (.ret v)=>wpAny (model prog w) A (match v with
   | .ref a=>do
    match (<- load a).data with
    | .seq xs _=>pure xs.toList
    | _=>unsupported "internal:collect"
   | _=>unsupported "internal:collect") Q E s'
  | .ok _=>False
  | .error e=>E e s') λs' Z c' ss kp g1 g2 or e2 e3=>?_
 refine AA (m:=load s.heap.objs.size) (wpAny_load or (AB ?_));exact hQ s' Z.toList ss kp g1 g2 e2 e3
theorem Kv (a:Value){Q₁:Value->kw->Prop}(h:Q₁ (.ref s.heap.objs.size) { s with heap:=s.heap.push (dS w) }):codeAny (model prog w) A (.call (.builtin "set.__new__") ⟨[.type "set",a],[]⟩) (wants Q₁ E) s:=by
 refine codeAny_of_tree (show wpAny _ A.in1 (do checkBuiltinCall "set.__new__" ⟨[.type "set",a],[]⟩;again (.builtin "set.__new__" ⟨[.type "set",a],[]⟩)) _ _ s from ?_)
 refine AA (AY (F.newCall_set_1 a) (AB ⟨plainId_quiet F.plain_set_new _,AO F.entry_set_new ?_⟩));rw[Around.under_plainId F.plain_set_new _];unfold Builtin.«set.__new__» Builtin.Frozenset.newClass;have Z:=sub_set_self;obtain⟨hp,g,d,tk,os⟩:=s
 dsimp only
 wp_walk
 refine wpAny_askSetting (AB ?_)
 dsimp only
 simp only [newObj];refine AA (wpAny_alloc (AB (AB h)))
end
end SS
namespace L2
open PySem PySem.Spec PyProof.Rows
namespace SE
def Of (w:World)(h:Heap)(D:Addr)(ls:List (List Nat))(i:Nat):Prop:=∃ ms,SS.Is w h D ms∧(∀ x,x∈ms↔x∈(ls.take i).map tx)∧ms.length<=i
theorem Of.at {w:World}{h h':Heap}{D:Addr}{ls:List (List Nat)}{i:Nat}(x:Of w h D ls i)(k:∀ o,h.get? D=some o->h'.get? D=some o):Of w h' D ls i:=let ⟨ms,a,b⟩:=x;⟨ms,a.at k,b⟩
section
variable {prog:xv}{w:World}{A:Around}{R:Result->kw->Prop}{J:Addr}{fp wr:List Addr}{G:Array GenState->Array GenState->Prop}{n:Nat}{P:Nat->Value->Prop}{St:Nat->kw->Prop}
theorem Zz (W:WalksS prog w A.in1 J fp wr G n P St){D:Addr}(hD:D∉fp)(ls:List (List Nat))(hv:∀ i v,P i v->∃ t,v=Value.str (tx (ls.getD i [])) t)(hn:n+1<scanBound)(wx:n<=ls.length) :
  ∀ (k i:Nat) (s:kw),n-i=k->i<=n->St i s->Of w s.heap D ls i ->
   (∀ s',Moved (D::wr) G s s'->Of w s'.heap D ls n->R (.ok (.ret .none)) s')->codeAny (model prog w) A (.builtin "set.update.loop" ⟨[.ref D,.ref J],[]⟩) R s:=by
 have gV:D∉wr:=λz=>hD (W.sub _ z)
 have up:∀ b∈wr,b∈D::wr:=λb hb=>.tail _ hb
 intro k
 induction k with
 | zero =>
  intro i s hk hi st hs hR;obtain rfl:i=n:=by omega
  refine AO gb ?_;rw[Around.under_plainId dh];refine AA (m:=pyNext (.ref J)) (W.done s _ _ st λs2 mv=>?_);exact (show wpAny _ A.in1 (ret Value.none) _ _ s2 from AB (hR s2 (mv.mono up) (hs.at λo e=>mv.heap D o gV e)))
 | succ k ih =>
  intro i s hk hi st hs hR;have Z:i<n:=by omega
  refine AO gb ?_;rw[Around.under_plainId dh];refine AA (m:=pyNext (.ref J)) (W.item i s _ _ Z st λv s2 pv or mv=>?_);obtain⟨t,rfl⟩:=hv i v pv;have wp:=hs.at λo e=>mv.heap D o gV e
  refine AA (m:=holding [Value.str (tx (ls.getD i [])) t] (setAdd D (.str (tx (ls.getD i [])) t))) (AM ?_);unfold setAdd;refine AM (AA ((fq prog w).pyHash (k:=tx (ls.getD i [])) (strKind_is _ _ _ _) ?_));obtain⟨ms,mp,hi2,hi3⟩:=wp;refine SS.Ol (s:={ s2 with toks:=s2.toks+1 }) mp (by omega) λh3 ww sb i3 m3 l3=>?_
  have x4:Of w h3 D ls (i+1):=by
   refine⟨ww,i3,λx=>?_,by omega⟩;have e:ls.take (i+1)=ls.take i++[ls.getD i []]:=by
    rw[cn,ak,aa (by omega)];rfl
   rw[m3,hi2,e,a7,br,ap,lz,ax]
  refine AB ⟨plainId_quiet dh _,ih (i+1) _ (by omega) Z (W.frame _ s2 _ _ or (gv _) λb hb o e=>(sb.2 b λz=>hD (z▸hb)).trans e) x4 λs5 m5 x5=>?_⟩;refine hR s5 (Moved.trans W.gtrans ((mv.mono up).then_heap (gv _) λb o hb e=>(sb.2 b λz=>hb (z▸.head _)).trans e) m5) x5
variable {E:Value->kw->Prop}{s:kw}
theorem Ov {l:Addr}{Z:Array Value}{ls:List (List Nat)}{Q:Value->kw->Prop}(hh:A.handled=none)(hl:s.heap.IsList l Z)(hv:∀ i v,Z[i]?=some v->∃ t,v=Value.str (tx (ls.getD i [])) t)(hn:Z.size+1<scanBound)(xf:Z.size<=ls.length)
  (h:∀ (h':Heap) (tk:Nat),Of w h' s.heap.objs.size ls Z.size->(∀ b o,s.heap.get? b=some o->h'.get? b=some o)->Q (.ref s.heap.objs.size) { s with heap:=h',toks:=tk }) :
  wpAny (model prog w) A (call (.type "set") [.ref l]) Q E s:=by
 obtain⟨mc,mt,f0⟩:=F.called_set.mro;have f1:=F.called_set.made;have f2:=F.called_set.sub;have f3:=F.called_set.notType;have f4:=F.called_set.canCreate;have f5:=F.typeCall_set_1 (.ref l);refine AZ (codeAny_of_tree (show wpAny _ _ (callAny (.type "set") _) _ _ _ from AB ⟨Code.quiet_builtin _ (by decide +kernel),AO F.entry_type_call ?_⟩))
 rw[Around.under_plain (weight_type_call_type "set" [.ref l] []) rfl]
 repeat (any_goals (first | wp_step | assumption))
 refine AQ (SS.Kv (.ref l) (E:=E) (Q₁:=λob s1=>ob = .ref s.heap.objs.size∧s1 = { s with heap:=s.heap.push (SS.dS w) }) ⟨rfl,rfl⟩) λr s1 hr=>?_
 cases r with
 | error e=>exact hr
 | ok fl =>
  cases fl with
  | ret ob =>
   obtain⟨rfl,rfl⟩:=hr;generalize gV:SS.dS w=ob;have hD:(s.heap.push ob).get? s.heap.objs.size=some ob:=AU _ (by rw[<- gV];rfl);have hT:Shared.TypeIs { s with heap:=s.heap.push ob } (.ref s.heap.objs.size) "set" := ⟨_,hD,by rw[<- gV];rfl⟩
   have f6:=F.called_set.init.lookup;have f7:=F.called_set.init.bind (.ref s.heap.objs.size)
   repeat (any_goals (first | wp_step | assumption))
   refine AQ (AR (R:=wants (λr s2=>r = .none∧∃ h' tk,s2 = { s with heap:=h',toks:=tk }∧Of w h' s.heap.objs.size ls Z.size∧∀ b o,s.heap.get? b=some o->h'.get? b=some o) E)
    F.called_set.init.plain F.entry_set_init (check_set_init_1 hT ?_)) λr2 s2 mp=>?_
   ·obtain⟨⟨oc,od,xh,osl⟩,or,wp,nl,wx⟩:=id hl
    simp only at wp wx;subst wp wx;have wz:(s.heap.push ob).get? l=some { cls:=.type "list",dict:=od,data:=.seq Z nl,slots:=osl }:=AT _ or
    have f8:=F.sub_list_set;have f9:=F.sub_list_frozenset;have xi:(Value.type "list" == Value.type "dict")=false:=by decide
    have ww:(s.heap.push ob).IsList l Z:=⟨_,wz,rfl,nl,rfl⟩;subst gV;unfold Builtin.«set.__init__» noKeywords Builtin.Frozenset.updateFrom;generalize xb:pyIter=PI
    wp_walk
    subst xb;refine wpAny_pyIter_list ww ?_;refine AA (wpAny_runValue ?_);have w4:l<s.heap.objs.size:=AV or;have w8:A.in1.in1.in1.handled=none:=by simp[hh]
    have hsz:(s.heap.push (SS.dS w)).objs.size=s.heap.objs.size+1:=Heap.size_push _ _;have xc:l≠(s.heap.push (SS.dS w)).objs.size:=by rw[hsz];exact az (fj w4)
    have xg:s.heap.objs.size∉[(s.heap.push (SS.dS w)).objs.size,l]:=by
     rw[hsz];intro z;rcases au.mp z with e | e
     ·exact az (gx _) e
     ·exact gn w4 (ax.mp e)
    refine Zz ((Walks.list w8 _ l xc Z).toS) (D:=s.heap.objs.size) xg ls hv hn xf (Z.size-0) 0 _ (by omega) (cc _) ⟨⟨_,AU _ rfl,rfl,rfl⟩,ww.push _⟩ ?_ λs3 mv x3=>?_
    ·have hg:((s.heap.push (SS.dS w)).push { cls:=.type "list_iterator",data:=.fields #[.ref l,.int 0 0] }).get? s.heap.objs.size=some (SS.dS w):=AT _ hD
     exact⟨[],(SS.Is.fresh s.heap).at λo e=>AT _ e,λx=>by simp,cc _⟩
    ·obtain⟨h3,g3,d3,w6,xa⟩:=s3
     obtain rfl:g3=s.gens:=mv.gens;obtain rfl:d3=s.drawn:=mv.drawn;obtain rfl:xa=s.os:=mv.os;refine AB (show wpAny _ _ (ret Value.none) _ _ _ from AB ⟨rfl,h3,w6,rfl,x3,λc o e=>?_⟩);have hc:=AV e;exact mv.heap c o (show c∉[s.heap.objs.size,(s.heap.push (SS.dS w)).objs.size] by
      rw[hsz];intro z;rcases au.mp z with e | e
      ·exact az hc e
      ·exact az (fj hc) (ax.mp e)) (AT _ (AT _ e))
   ·cases r2 with
    | error e=>exact mp
    | ok fl2 =>
     cases fl2 with
     | ret r =>
      obtain⟨rfl,h3,tk,rfl,x3,k3⟩:=mp
      repeat (any_goals (first | wp_step | assumption))
      exact h _ _ x3 k3
     | _=>exact mp.elim
  | _=>exact hr.elim
end
end SE
def nS (w:World)(D:Addr)(ms:List (List Nat)):HO:=.ext λh=>SS.Is w h D (ms.map tx)
theorem tU {ls:List (List Nat)}{x:Str}:x∈ls.map tx↔x.cps.toList∈ls:=by
 rw[aw];constructor
 ·rintro⟨l,h,rfl⟩
  rw[dZ];exact h
 ·intro h
  exact⟨_,h,kD x⟩
theorem Vf {w:World}{h:Heap}{D:Addr}{ms gV:List Str}(x:SS.Is w h D ms)(p:ms.Perm gV):SS.Is w h D gV:=by
 obtain⟨o,es,ep,t,ho,hex,hd,Z,mp,r⟩:=x;exact⟨o,es,ep,t,ho,hex,hd,⟨Z.1,Z.2.trans p⟩,p.nodup_iff.mp mp,r⟩
theorem Cb {w:World}{h:Heap}{D:Addr}{ms:List Str}(x:SS.Is w h D ms):ms.Nodup:=let ⟨_,_,_,_,_,_,_,_,n,_⟩:=x;n
theorem Pc {ls:List (List Nat)}(h:ls.Nodup):(ls.map tx).Nodup:=by
 refine jj.mpr (h.imp λZ e=>Z (gP e))
section
variable {X:Cx}
theorem Ae {pins:List (Addr×Obj)}{σ:St}{H:Hp}{s:kw}{D:Addr}{ms:List (List Nat)}(I:Inv X pins σ H s)(h:H D=some (nS X.w D ms)):SS.Is X.w s.heap D (ms.map tx):=by
 obtain⟨x,_⟩:=(show cF X.prog X.w H s.heap D (nS X.w D ms) from I.hok D _ h);exact x
theorem yB (hc:X.calm=true):dR X (.type "set") (λxs H Q=>∃ (p:Addr) (ls:List (List Nat)),xs=[.ref p]∧SqL X.K H p (ls.map T)∧ls.length+1<4096∧∀ D,H D=none->Q (.ref D) (upd H D (nS X.w D (uniq ls)))):=by
 intro pins s σ H xs us Q I r h;obtain⟨p,ls,rfl,hq,hz,q⟩:=h;obtain⟨u,rfl,ru⟩:=fV r;cases ru;obtain⟨gV,rv,pl,_⟩:=I.list hq;have Z:=rv.length;rw[aR] at Z;refine SE.Ov (I.ok.hd hc) pl.isList (ls:=ls) (λi v e=>Ha rv (by simpa using e)) (by rw[aj];unfold scanBound;omega) (by rw[aj];omega) λh' tk x k=>?_
 obtain⟨ms,i1,i2,_⟩:=x;have x:SS.Is X.w h' s.heap.objs.size ((uniq ls).map tx):=by
  refine Vf i1 ((d7 (Cb i1) (Pc (uV ls))).mpr λy=>?_);rw[i2,tU,tU,iD,aj,<- Z,cr]
 have hf:H s.heap.objs.size=none:=I.hok.fresh (af _);refine⟨.ref s.heap.objs.size,_,I.laid (t':=tk) k (af _) (o:=nS X.w s.heap.objs.size (uniq ls)) ⟨x,x.there,λh1 h2 x1 kk=>x1.at kk⟩,rfl,q _ hf⟩
theorem Xl:OpR X (binaryOp .BitOr) (λx y H Q=>∃ (a b:Addr) (ls ms:List (List Nat)),x = .ref a∧y = .ref b∧a≠b∧H a=some (nS X.w a ls)∧H b=some (nS X.w b ms)∧ls≠[]∧ls.length+ms.length<=128 ∧
  ∀ (D:Addr) (qs:List (List Nat)),H D=none->qs.Nodup->qs.length<=ls.length+ms.length->(∀ z,z∈qs↔z∈ls∨z∈ms)->Q (.ref D) (upd H D (nS X.w D qs))):=by
 intro pins s σ H x y v u Q I rx ry h;obtain⟨a,b,ls,ms,rfl,rfl,or,h1,h2,gV,hsz,q⟩:=h;cases rx;cases ry;refine SS.Zh or (Ae I h1) (Ae I h2) (λz=>gV (List.map_eq_nil_iff.mp z)) (by rw[aR,aR];exact hsz) λh' Z kp i hm hl=>?_
 have em:(Z.map λx=>x.cps.toList).map tx=Z:=by
  rw[bv]
  conv=>rhs;rw[<- lu Z]
  exact b8 λx _=>kD x
 have mp:(Z.map λx=>x.cps.toList).Nodup:=jj.mpr ((Cb i).imp λ{a b} gV e=>gV ((kD a).symm.trans ((congrArg tx e).trans (kD b))));have x:SS.Is X.w h' s.heap.objs.size ((Z.map λx=>x.cps.toList).map tx):=by rw[em];exact i
 refine⟨.ref s.heap.objs.size,_,I.laid (t':=s.toks) kp (af _) (o:=nS X.w s.heap.objs.size (Z.map λx=>x.cps.toList)) ⟨x,x.there,λh1 h2 x1 kk=>x1.at kk⟩,rfl,q _ _ (I.hok.fresh (af _)) mp (by rw[aR];rw[aR,aR] at hl;exact hl) λz=>?_⟩;have e:=hm (tx z);rw[tU,tU,dZ] at e;rw[<- e,<- em,tU,dZ,em]
end
structure pB (J:It)(H:Hp)(vs:List V):Prop where
 go:∀ i H',aL H H'->i<vs.length->J.go i H'
 yl:∀ i H' y H2,aL H H'->J.yld i H' y H2->H2=H'∧vs[i]?=some y
 st:∀ H',aL H H'->J.stop vs.length H'
theorem cJ {K:ac}{a:Addr}{H:Hp}{vs:List V}(h:SqL K H a vs):pB (Itl K a) H vs :=
 ⟨λi H' s hi=>⟨vs,vs[i],s.seq h,aa hi⟩,λi H' y H2 s ⟨Z,e2⟩=>⟨Z,e2 vs (s.seq h)⟩,λH' s=>⟨vs,s.seq h,af _⟩⟩
theorem xZ {K:ac}{H H':Hp}{p:Addr}{xs:List V}(s:aL H H')(h:SqT K H p xs):SqT K H' p xs:=by
 rcases h with (h | ⟨q,h⟩) | h
 ·exact .inl (.inl (s _ _ h))
 ·exact .inl (.inr ⟨q,s _ _ h⟩)
 ·exact .inr h
theorem hG {K:ac}{a:Addr}{H:Hp}{vs:List V}(h:SqT K H a vs):pB (Itt K a) H vs :=
 ⟨λi H' s hi=>⟨vs,vs[i],xZ s h,aa hi⟩,λi H' y H2 s ⟨Z,e2⟩=>⟨Z,e2 vs (xZ s h)⟩,λH' s=>⟨vs,xZ s h,af _⟩⟩
theorem pG {J:It}{vs:List V}{te:TE}{σ:St}{H:Hp}{Q:VK}(f:V->V)(rd:pB J H vs)(hn:vs.length<=sizeLine)
  (he:∀ x H',x∈vs->aL H H'->∀ N:V->Hp->Prop,(∀ Z,aL H' Z->N (f x) Z)->te (some x::σ) H' N)
  (hq:∀ D H',H D=none->aL H H'->H' D=some (.lst (vs.map f))->Q (.ref D) H'):jB te σ Q J H:=by
 intro D hD;refine⟨λi m ys H2=>m=vs.length-i∧i<=vs.length∧ys=(vs.take i).map f∧aL H H2∧H2 D=some (.lst ys),⟨vs.length,rfl,cc _,rfl,λb o e=>?_,aC⟩,?_⟩
 ·rw[aG (aI e hD)]
  exact e
 ·rintro i m ys H2 ⟨rfl,hi,rfl,hs,hd⟩
  by_cases hlt:i<vs.length
  ·have hx:vs[i]?=some vs[i]:=aa hlt
   refine .inr ⟨rd.go i H2 hs hlt,by rw[aR,cj];omega,λv H'=>v=f vs[i]∧aL H2 H',λv H' ⟨ev,hs'⟩=>⟨hs' D _ hd,vs.length-(i+1),by omega,rfl,hlt,?app,λb o e=>?kp,aC⟩,λy H' hy=>?stp⟩
   case app =>
    rw[ev,cn,hx,a7];rfl
   case kp =>
    rw[aG (aI e hD)];exact hs' b o (hs b o e)
   case stp =>
    obtain⟨rfl,e2⟩:=rd.yl i H2 y H' hs hy;have e4:y=vs[i]:=by rw[hx] at e2;exact (av e2).symm
    subst e4;exact he _ _ (dk hlt) hs _ λZ gV=>⟨rfl,gV⟩
  ·have e:i=vs.length:=by omega
   subst e;rw[cr] at hd;exact .inl ⟨rd.st H2 hs,hq D H2 hD hs hd⟩
theorem nG {J:It}{vs:List V}{tc:TT}{te:TE}{σ:St}{H:Hp}{Q:VK}(p:V->Bool)(f:V->V)(rd:pB J H vs)(hn:vs.length<=sizeLine)
  (ht:∀ x H',x∈vs->aL H H'->∀ N:Bool->Hp->Prop,(∀ Z,aL H' Z->N (p x) Z)->tc (some x::σ) H' N)
  (he:∀ x H',x∈vs->p x=true->aL H H'->∀ N:V->Hp->Prop,(∀ Z,aL H' Z->N (f x) Z)->te (some x::σ) H' N)
  (hq:∀ D H',H D=none->aL H H'->H' D=some (.lst ((vs.filter p).map f))->Q (.ref D) H'):iU tc te σ Q J H:=by
 intro D hD;refine⟨λi m ys H2=>m=vs.length-i∧i<=vs.length∧ys=((vs.take i).filter p).map f∧aL H H2∧H2 D=some (.lst ys),⟨vs.length,rfl,cc _,rfl,λb o e=>?_,aC⟩,?_⟩
 ·rw[aG (aI e hD)]
  exact e
 ·rintro i m ys H2 ⟨rfl,hi,rfl,hs,hd⟩
  by_cases hlt:i<vs.length
  ·have hx:vs[i]?=some vs[i]:=aa hlt
   refine .inr ⟨rd.go i H2 hs hlt,by have:=sC p vs i;rw[aR];omega,λv H'=>v=f vs[i]∧p vs[i]=true∧aL H2 H',λv H' ⟨ev,hp,hs'⟩=>⟨hs' D _ hd,vs.length-(i+1),by omega,rfl,hlt,?app,λb o e=>?kp,aC⟩,
    λH'=>p vs[i]=false∧aL H2 H',λH' ⟨hp,hs'⟩=>⟨vs.length-(i+1),by omega,rfl,hlt,?skp,λb o e=>hs' b o (hs b o e),hs' D _ hd⟩,λy H' hy=>?stp⟩
   case app =>
    rw[ev,rT p vs i _ hx,hp,a7];rfl
   case kp =>
    rw[aG (aI e hD)];exact hs' b o (hs b o e)
   case skp =>
    rw[rT p vs i _ hx,hp];simp
   case stp =>
    obtain⟨rfl,e2⟩:=rd.yl i H2 y H' hs hy;have e4:y=vs[i]:=by rw[hx] at e2;exact (av e2).symm
    subst e4;refine ht _ _ (dk hlt) hs _ λZ gV=>?_
    by_cases hp:p vs[i]=true
    ·rw[AD hp]
     exact he _ _ (dk hlt) hp (hs.trans gV) _ λH3 h3=>⟨rfl,hp,gV.trans h3⟩
    ·rw[AC hp]
     exact⟨by simpa using hp,gV⟩
  ·have e:i=vs.length:=by omega
   subst e;rw[cr] at hd;exact .inl ⟨rd.st H2 hs,hq D H2 hD hs hd⟩
def unT:V->List Nat
 | .str x=>x.cps.toList
 | _=>[]
theorem eW (l:List Nat):unT (T l)=l:=dZ l
section
variable {X:Cx}
theorem uD (K:ac)(h:X.K=K):OpR X (compareOp .In) (rIn K false):=by subst h;exact Lu
theorem mM (K:ac)(h:X.K=K):OpR X (compareOp .NotIn) (rIn K true):=by subst h;exact gW
end
theorem oU {f:List Nat->V}(ls:List (List Nat)):(ls.map T).map (λx=>f (unT x))=ls.map f:=by
 rw[bv];exact b8 λl _=>by show f (unT (T l))=f l;rw[eW]
theorem eM {p:List Nat->Bool}:∀ ls:List (List Nat),(ls.map T).filter (λx=>p (unT x))=(ls.filter p).map T
 | []=>rfl
 | l::ls=>by
  rw[ap,fu,fu,eW,eM ls];split <;> rfl
end L2
namespace SS
open PySem PyProof.Rows L2
section
variable {prog:xv}{w:World}{A:Around}{E:Value->kw->Prop}{s:kw}
theorem Rj {a:Addr}{Q:Bool->kw->Prop}(hS:s.TypeIs (.ref a) "dict")(h:Q false s):wpAny (model prog w) A (Builtin.List.listLengthHint (.ref a)) Q E s:=by
 unfold Builtin.List.listLengthHint;refine AA (wpAny_specialOf hS F.slot_dict_len.lookup ?_);generalize gV:("dict.__len__" : String)=mp
 wp_delta
 rw[show splitId mp=some ("dict", "__len__") from by subst gV;decide +kernel]
 subst gV;refine AA (wpAny_isInstance (T := "dict") (b:=true) hS F.sub_dict_dict ?_)
 refine wpAny_ite_split (λZ=>absurd Z (by decide)) (λ_=>?_);refine wpAny_ite_split (λ_=>?_) (λZ=>absurd (by decide +kernel) Z);refine AA (wpAny_typeOf hS ?_);exact AB h
def yX (vs:List (Key×Value))(i:Nat)(v:Value):Prop:=∃ k x,vs[i]?=some (k,x)∧uL k v=true
theorem wB {h:Heap}{a:Addr}{vs:List (Key×Value)}{ep:Nat}{Z:Obj}(hD:Heap.DictAt (bF prog w) h a vs ep):Heap.DictAt (bF prog w) (h.push Z) a vs ep:=by
 obtain⟨o,es,g,r⟩:=hD;exact⟨o,es,AT _ g,r⟩
theorem Ph {a:Addr}{vs:List (Key×Value)}{ep:Nat}(Z:Heap.DictAt (bF prog w) s.heap a vs ep):s.TypeIs (.ref a) "dict" := by
 obtain⟨o,es,g,r⟩:=Z;exact (show Heap.DictOf (bF prog w) s.heap a vs from ⟨o,es,ep,g,r⟩).typeIs
theorem tT {a:Addr}{vs:List (Key×Value)}{ep:Nat}{R:Result->kw->Prop}(hh:A.handled=none)(hd:(a==sysModules)=false)(hD:Heap.DictAt (bF prog w) s.heap a vs ep)(hz:vs.length<=sizeLine)(S:Addr)(res:Value)(h1:S≠a)(or:s.heap.get? S=some { cls:=.type "list",data:=.seq #[] })
  (hR:∀ s' Z c',(∀ b o,b≠S->s.heap.get? b=some o->s'.heap.get? b=some o)->s'.gens=s.gens->s'.os=s.os->s'.heap.get? S=some { cls:=.type "list",dict:=none,data:=.seq Z c',slots:=#[] }->ItemsOf (yX vs) Z vs.length->R (.ok (.ret res)) s') :
  wpAny (model prog w) A.in1 (Builtin.List.listExtendWith (.ref S) (.ref a) res)
   (λfin s'=>match fin with | .done f=>R (.ok f) s' | .again c'=>c'.quiet=true∧codeAny (model prog w) A c' R s') (λe s'=>R (.error e) s') s:=by
 unfold Builtin.List.listExtendWith;refine AA (wpAny_typeOf (Ph hD) ?_);have g1:Builtin.List.listSameRef (.ref S) (.ref a)=false:=by simp[Builtin.List.listSameRef,h1]
 have g2:(Value.type "dict" == Value.type "list")=false:=by decide
 have g3:(Value.type "dict" == Value.type "tuple")=false:=by decide
 simp only [g1,g2,g3,jm,dm,if_false];refine AA (wpAny_pyIter_dict hd hD ?_);have xb:=AV or;have xg:a<s.heap.objs.size:=by obtain⟨o,es,g,r⟩:=hD;exact AV g
 generalize mp:({ cls:=Value.type "dict_keyiterator",data:=Data.fields #[Value.ref a,Value.int 0 0,Value.int (↑vs.length) 0,Value.int (↑ep) 0] }:Obj)=io
 have w6:s.heap.objs.size<=s.heap.objs.size:=af _;have xc:S≠s.heap.objs.size:=az xb;have xa:a≠s.heap.objs.size:=az xg;have kp:∀ b o,s.heap.get? b=some o->(s.heap.push io).get? b=some o:=λb o e=>AT _ e
 have W:=Walks.dictKeys (prog:=prog) (w:=w) (knd:=bF prog w) (A:=A.in1) hh s.heap.objs.size a xa vs ep;have wz:Heap.DictAt (bF prog w) (s.heap.push io) a vs ep:=wB hD;have w8:(s.heap.push io).IsKeyIter s.heap.objs.size a 0 vs.length ep∧Heap.DictAt (bF prog w) (s.heap.push io) a vs ep:=by
  refine⟨⟨io,AU _ (by rw[<- mp];rfl),?_,?_⟩,wz⟩
  ·rw[<- mp]
  ·rw[<- mp];rfl
 have wx:S∉[s.heap.objs.size,a]:=by simp[xc,h1]
 refine AA (AM (Rj (s:={ s with heap:=s.heap.push io }) (Ph (s:={ s with heap:=s.heap.push io }) wz) ?_));have WS:=W.toS;have last:∀ (h0:Heap) (c0:Nat),(∀ b o,b≠S->(s.heap.push io).get? b=some o->h0.get? b=some o)->h0.get? S=some { cls:=.type "list",data:=.seq #[] c0 } ->
   wpAny (model prog w) A.in1 (again (.builtin "list.extend.loop" ⟨[.ref S,.ref s.heap.objs.size,res],[]⟩))
    (λfin s'=>match fin with | .done f=>R (.ok f) s' | .again c'=>c'.quiet=true∧codeAny (model prog w) A c' R s') (λe s'=>R (.error e) s') { s with heap:=h0 }:=λh0 c0 ww w4=>by
  refine AB ⟨plainId_quiet F.plain_extend_loop _,codeAny_extend_loopS WS (by omega) S wx res vs.length 0 _ #[] c0 rfl (cc _) ?_ w4 (ItemsOf.nil _) λs' Z c' hm xh wp=>?_⟩
  ·exact W.frame 0 (s.heap.push io) h0 w8 λb hb o e=>ww b o (λz=>wx (z▸hb)) e
  ·refine hR s' Z c' (λb o hb e=>?_) hm.gens hm.os xh wp
   by_cases hbI:b=s.heap.objs.size
   ·subst hbI
    exact absurd (AV e) (ua.mpr w6)
   ·exact hm.heap b o (by simp[hb,hbI]) (ww b o hb (kp b o e))
 refine wpAny_ite_split (λ_=>?_) (λxf=>absurd (by decide +kernel) xf);refine AA (wpAny_rule ?_);have gV:(s.heap.push io).get? S=some { cls:=.type "list",data:=.seq #[] }:=kp S _ or
 refine AA (m:=((do updateSeq S (λz=>z.push .none);updateSeq S (λz=>z.pop)):Sem Unit)) (AA (wpAny_updateSeq (s:={ s with heap:=s.heap.push io }) gV rfl ?_));have k1:=AW (Obj.mapSeq (λz=>z.push .none)) gV rfl;refine wpAny_updateSeq k1 rfl ?_;have k2:=AW (Obj.mapSeq (λz=>z.pop)) k1 rfl;exact last _ _ (λb o hb e=>(AX _ _ (Ne.symm hb)).trans ((AX _ _ (Ne.symm hb)).trans e)) k2
theorem Et {a:Addr}{vs:List (Key×Value)}{ep:Nat}{Q:List Value->kw->Prop}(hh:A.handled=none)(hd:(a==sysModules)=false)(hD:Heap.DictAt (bF prog w) s.heap a vs ep)(hz:vs.length<=sizeLine)
  (hQ:∀ (s':kw) (gV:Array Value),(∀ b o,s.heap.get? b=some o->s'.heap.get? b=some o)->s'.gens=s.gens->s'.os=s.os->ItemsOf (yX vs) gV vs.length->Q gV.toList s'):wpAny (model prog w) A (collect (.ref a)) Q E s:=by
 have or:a<s.heap.objs.size:=by obtain⟨o,es,g,r⟩:=hD;exact AV g
 unfold collect;refine AA (wpAny_runValue (AO F.entry_proto_collect ?_));rw[Around.under_plainId F.plain_proto_collect];refine AA (m:=newList []) (AN (AB ⟨plainId_quiet F.plain_list_iadd _,AO F.entry_list_iadd ?_⟩));rw[Around.under_plainId F.plain_list_iadd];have mp:(s.heap.push { cls:=.type "list",data:=.seq #[] }).get? s.heap.objs.size=some { cls:=.type "list",data:=.seq #[] }:=AU _ rfl
 have go:∀ R:Result->kw->Prop,(∀ s' Z c',(∀ b o,s.heap.get? b=some o->s'.heap.get? b=some o)->s'.gens=s.gens->s'.os=s.os->s'.heap.get? s.heap.objs.size=some { cls:=.type "list",dict:=none,data:=.seq Z c',slots:=#[] }->ItemsOf (yX vs) Z vs.length->R (.ok (.ret (.ref s.heap.objs.size))) s') ->
   wpAny (model prog w) A.in1 (Builtin.List.listExtendWith (.ref s.heap.objs.size) (.ref a) (.ref s.heap.objs.size))
    (λfin s'=>match fin with | .done f=>R (.ok f) s' | .again c'=>c'.quiet=true∧codeAny (model prog w) A c' R s') (λe s'=>R (.error e) s') { s with heap:=s.heap.push { cls:=.type "list",data:=.seq #[] } }:=λR hR =>
  tT (A:=A) (s:={ s with heap:=s.heap.push { cls:=.type "list",data:=.seq #[] } }) hh hd (wB hD) hz s.heap.objs.size (.ref s.heap.objs.size) (gn or) mp
   λs' Z c' kp g1 g2 e1 e2=>hR s' Z c' (λb o e=>kp b o (az (AV e)) (AT _ e)) g1 g2 e1 e2
 refine go (λr s'=>match r with
  | .ok (.ret v)=>wpAny (model prog w) A (match v with
   | .ref a=>do
    match (<- load a).data with
    | .seq xs _=>pure xs.toList
    | _=>unsupported "internal:collect"
   | _=>unsupported "internal:collect") Q E s'
  | .ok _=>False
  | .error e=>E e s') λs' Z c' kp g1 g2 wp e2=>?_
 refine AA (m:=load s.heap.objs.size) (wpAny_load wp (AB ?_));exact hQ s' Z kp g1 g2 e2
end
end SS
namespace L2
open PySem PyProof.Rows
def tKs (ls:List (List Nat))(v:V):List (Key×V):=ls.map λt=>(cf (tx t),v)
section
variable {X:Cx}
theorem Jh:∀ (ls:List Str) (us:List Value),us.length=ls.length->(∀ (i:Nat) (v:Value),us[i]?=some v->∃ x t,ls[i]?=some x∧v=Value.str x t)->StrsAre us ls
 | [],[],_,_=>.nil
 | [],_::_,h,_=>nomatch h
 | _::_,[],h,_=>nomatch h
 | y::ls,u::us,h,hp=>by
  obtain⟨x,t,e1,Z⟩:=hp 0 u rfl;have e3:y=x:=by simpa using e1
  rw[Z,<- e3];exact .cons _ _ (Jh ls us (by simpa using h) λi v e=>by simpa using hp (i+1) v (by simpa using e))
theorem Pu:∀ {kvs:List (Key×V)} {vs:List (Key×Value)},KV kvs vs->vs.map (·.1)=kvs.map (·.1)
 | [],[],.nil=>rfl
 | _::_,_::_,.cons h r=>by rw[ap,ap,h.1,Pu r]
theorem xO {ls:List (List Nat)}{kvs:List (Key×V)}{vs:List (Key×Value)}{Z:Array Value}(hk:kvs.map (·.1)=ls.map λt=>cf (tx t))(r:KV kvs vs)(h:ItemsOf (SS.yX vs) Z vs.length):StrsAre Z.toList (ls.map tx):=by
 have e0:vs.map (·.1)=(ls.map tx).map cf:=by rw[Pu r,hk,bv];rfl
 have el:vs.length=ls.length:=by have:=congrArg i6 e0;simpa using this
 refine Jh _ _ (by rw[bh,h.1,el,aR]) λi v e=>?_
 obtain⟨k,x,g1,g2⟩:=h.2 i v (by rw[<- jf];exact e);have g3:(vs.map (·.1))[i]?=some k:=by rw[ah,g1];rfl
 rw[e0,ah] at g3
 cases g4:(ls.map tx)[i]? with
 | none=>rw[g4] at g3;cases g3
 | some y =>
  rw[g4] at g3;obtain rfl:cf y=k:=av g3;rcases cT g2 with ⟨j,t,q1,_⟩ | ⟨z,t,q1,q2⟩
  ·cases q1
  ·cases q1
   exact⟨y,t,rfl,q2⟩
end
open PySem.Spec
section
variable {X:Cx}
theorem Fr {pins:List (Addr×Obj)}{σ:St}{H:Hp}{s:kw}{A:Around}(I:Inv X pins σ H s)(hu:A.units<cLine){D F:Addr}{ls:List (List Nat)}(h1:SqT X.K H D (ls.map T))(h2:SqT X.K H F (ls.map T)):SeqAt.EqAt A s (.ref D) (.ref F) true:=by
 by_cases hne:D=F
 ·subst hne
  exact SeqAt.EqAt.same _
 obtain⟨gV,r,pl,_⟩:=I.tuple h1;obtain⟨Z,r2,mp,_⟩:=I.tuple h2;have l1:=r.length;have l2:=r2.length;have z:=SeqAt.EqAt.of_refs hne (SeqAt.RcAt.tuples (A:=A) (s:=s) (e:=λ_=>true) pl mp hu λj g1 g2=>?_)
 ·rw[show ((bt (min gV.toArray.size Z.toArray.size)).all (λ_=>true)&&gV.toArray.size==Z.toArray.size)=true by rw[show gV.toArray.size=Z.toArray.size by rw[aj,aj];omega];simp] at z
  exact z
 ·have hj:j<ls.length:=by
   rw[aR] at l1;rw[aj] at g1;omega
  obtain⟨u',e1,q1⟩:=r.get (i:=j) (x:=T ls[j]) (by rw[ah,aa hj];rfl);obtain⟨w',e2,q2⟩:=r2.get (i:=j) (x:=T ls[j]) (by rw[ah,aa hj];rfl);have e:=iY (A:=A.in1) (s:=s) q1 q2 rfl rfl;rw[show eqV (T ls[j]) (T ls[j])=true from by show (tx ls[j]==tx ls[j])=true;rw[AK]] at e;have a1:gV.toArray[j]=u':=by
   rw[k7];exact (ao.mp e1).2
  have a2:Z.toArray[j]=w':=by
   rw[k7];exact (ao.mp e2).2
  rw[a1,a2];exact e
end
section
variable {X:Cx}{pins:List (Addr×Obj)}{σ:List (Option V)}{H H':Hp}{s:kw}{h':Heap}
theorem Inv.turnedL {t':Nat}{ch:List Addr}(I:Inv X pins σ H s)(k:∀ b o,b∉ch->s.heap.get? b=some o->h'.get? b=some o)(hf:∀ b∈ch,mT X pins H b):Inv X pins σ H { s with heap:=h',toks:=t' }:=by
 have gV:∀ b u,H b=some u->b∉ch:=λb u e z=>by rw[(hf b z).1] at e;cases e
 refine I.step (g':=s.gens) (d':=s.drawn) (ch:=ch) (λb hb=>?_) (λb o _ _ Z e _=>k b o Z e) (λb o _ _ Z e _=>⟨o.slots,k b o Z e⟩) (λ_ _ _ _ n=>n)
  (λb o Z e=>⟨o,k b o Z e⟩) (λ_ _ e=>e) (λ_ _ _ e=>e) (λb ps e=>⟨#[],by rw[e];simp⟩) (λm hm=>?_) (λb u e=>?_) I.bare
 ·obtain⟨f0,f1,f2,f3,f4,f5⟩:=hf b hb
  exact⟨f3,f1,f4,f5⟩
 ·obtain⟨o,es,ep,ho,r⟩:=hm
  exact⟨o,es,ep,k _ o (λz=>(hf _ z).2.1 rfl) ho,r⟩
 ·refine (I.hok b u e).stay (λc v Z q=>k c v ?_ q) (λ_ q=>q) λ_ _ q=>q
  rcases Z with z | z
  ·rw[z];exact gV b u e
  ·exact gV c _ z
end
def Itz (K:ac)(a b:Addr):It :=
 ⟨λi H=>∃ xs ys x y,SqL K H a xs∧SqL K H b ys∧xs[i]?=some x∧ys[i]?=some y,
  λi H x H'=>∃ (T:Addr) (u v:V),x = .ref T∧H T=none∧H'=upd H T (.tup [u,v])∧(∀ xs,SqL K H a xs->xs[i]?=some u)∧∀ ys,SqL K H b ys->ys[i]?=some v,
  λi H=>∃ xs ys,SqL K H a xs∧SqL K H b ys∧(xs.length<=i∨ys.length<=i)⟩
theorem Od {P:xv}{w:World}{K:ac}{wx:List Expr}{x1}{pos:Pos}{a b z TI TO i1 i2:Addr}(D:ZipApart z TI TO i1 i2 a b) :
  wQ P w K (.Tuple wx x1 pos) (Itz K a b) [z,TI,TO,i1,i2] z (λi h=>IsZip h z TI TO .none∧IsPair h TI (.ref i1) (.ref i2)∧(∃ u v,IsPair h TO u v)∧h.IsListIter i1 a i∧h.IsListIter i2 b i) where
 mem:=by simp
 obj:=λi h st c Z=>by
  obtain⟨h1,h2,⟨u,v,h3⟩,⟨o4,e4,c4,d4⟩,⟨o5,e5,c5,d5⟩⟩:=st;simp only [au,fz,or_false] at Z;rcases Z with rfl | rfl | rfl | rfl | rfl
  ·exact⟨_,h1,λv z=>by cases z⟩
  ·exact⟨_,h2,λv z=>by cases z⟩
  ·exact⟨_,h3,λv z=>by cases z⟩
  ·exact⟨_,e4,λv z=>by rw[d4] at z;cases z⟩
  ·exact⟨_,e5,λv z=>by rw[d5] at z;cases z⟩
 keep:=λi h h' st k=>by
  obtain⟨h1,h2,⟨u,v,h3⟩,h4,h5⟩:=st;exact⟨k z (by simp) _ h1,k TI (by simp) _ h2,⟨u,v,k TO (by simp) _ h3⟩,h4.at λo e=>k i1 (by simp) o e,h5.at λo e=>k i2 (by simp) o e⟩
 item:=by
  intro X hP hw hK Z i pins s σ H E I hf st hg;subst hP hw hK;obtain⟨xs,ys,x,y,gV,mp,hx,hy⟩:=hg;obtain⟨w6,rv,p,hz⟩:=I.list gV;obtain⟨ww,or,p2,w8⟩:=I.list mp;obtain⟨u,hu,ru⟩:=rv.get hx;obtain⟨v,hv,xa⟩:=or.get hy;obtain⟨h1,h2,⟨c1,c2,h3⟩,h4,h5⟩:=st;refine wpAny_pyNext_zip_item D h1 h2 h3 h4 h5 p.isList p2.isList (x:=u) (y:=v) (by simpa using hu) (by simpa using hv) λh' z1 z2 z3 z4 z5 z6 z7=>?_
  refine⟨_,rfl,wpAny_letOwnedTupleGo_zip (s:={ s with heap:=h' }) z1 λw4 y1 y2=>?_⟩;have hT:H s.heap.objs.size=none:=I.hok.fresh (af _);have I1:Inv X pins σ (upd H s.heap.objs.size (.tup [x,y])) { s with heap:=s.heap.push { cls:=.type "tuple",data:=.seq #[u,v] },toks:=s.toks } :=
   I.laid (t':=s.toks) (λb u e=>AT _ e) (af _) ⟨(by show 2<=sizeLine;rw[AG];decide),[u,v],.cons ru (.cons xa .nil),⟨_,AU _ rfl,rfl,_,rfl⟩⟩
  have nf:∀ c∈[z,TI,TO,i1,i2],c≠s.heap.objs.size:=λc Z e=>by
   have lt:∃ o,s.heap.get? c=some o:=by
    obtain⟨o4,e4,_⟩:=id h4;obtain⟨o5,e5,_⟩:=id h5;simp only [au,fz,or_false] at Z;rcases Z with rfl | rfl | rfl | rfl | rfl
    ·exact⟨_,h1⟩
    ·exact⟨_,h2⟩
    ·exact⟨_,h3⟩
    ·exact⟨_,e4⟩
    ·exact⟨_,e5⟩
   obtain⟨o,ho⟩:=lt
   have:=AV ho
   rw[e] at this;exact e9 _ this
  have wz:∀ c∈[z,TI,TO,i1,i2],mT X pins (upd H s.heap.objs.size (.tup [x,y])) c:=λc Z=>by
   obtain⟨f0,f⟩:=hf c Z;exact⟨by rw[aG (nf c Z)];exact f0,f⟩
  have I2:Inv X pins σ (upd H s.heap.objs.size (.tup [x,y])) { s with heap:=w4,toks:=s.toks } :=
   Inv.turnedL (s:={ s with heap:=s.heap.push { cls:=.type "tuple",data:=.seq #[u,v] },toks:=s.toks }) (t':=s.toks) (ch:=[z,TI,TO,i1,i2]) I1 (λb o hb e=>by
    simp only [au,fz,or_false,not_or] at hb;obtain⟨b1,b2,b3,b4,b5⟩:=hb;refine (y2.2 b b1).trans ?_;rcases Heap.get?_push_cases e with ⟨rfl,rfl⟩ | e
    ·exact z5
    ·exact z7 b o b1 b3 b4 b5 e) wz
  refine⟨.ref s.heap.objs.size,_,I2,rfl,⟨s.heap.objs.size,x,y,rfl,hT,rfl,λzs wp=>by rw[I.list_inj wp gV];exact hx,λzs wp=>by rw[I.list_inj wp mp];exact hy⟩,⟨y1,?_,⟨u,v,?_⟩,?_,?_⟩,λc Z=>(wz c Z).1⟩
  ·exact (y2.2 TI D.TIz).trans (z7 TI _ D.TIz D.TITO D.TIi1 D.TIi2 h2)
  ·exact (y2.2 TO D.TOz).trans z2
  ·exact z3.at λo e=>(y2.2 i1 D.i1z).trans e
  ·exact z4.at λo e=>(y2.2 i2 D.i2z).trans e
 done:=by
  intro X hP hw hK Z i pins s σ H E I hf st hg;subst hP hw hK;obtain⟨xs,ys,gV,mp,hl⟩:=hg;obtain⟨w6,rv,p,hz⟩:=I.list gV;obtain⟨ww,or,p2,w8⟩:=I.list mp;obtain⟨h1,h2,⟨c1,c2,h3⟩,h4,h5⟩:=st;have l1:=rv.length;have l2:=or.length;refine wpAny_pyNext_zip_end (I.ok.hd Z) D h1 h2 h3 h4 h5 p.isList p2.isList ?_ λh' kk=>⟨rfl,?_⟩
  ·rcases hl with g | g
   ·exact .inl (by simp;omega)
   ·exact .inr (by simp;omega)
  ·exact I.turnedL (t':=s.toks) (ch:=[z,TI,TO,i1,i2]) (λb o hb e=>by
    simp only [au,fz,or_false,not_or] at hb;obtain⟨b1,b2,b3,b4,b5⟩:=hb;exact kk b o b1 b3 b4 b5 e) hf
 self:=λ_ _ _ _ _ st h=>wpAny_pyIter_zip st.1 h
section
variable {X:Cx}
def aBS (K:ac)(ta:TA):TI:=λσ H R=>ta σ H λxs H1=>∃ a b:Addr,xs=[.ref a,.ref b]∧(∃ us,SqL K H1 a us)∧(∃ vs,SqL K H1 b vs)∧R (Itz K a b) H1
theorem Wk {a b:Expr}{ta:TA}{p pos pos':Pos}{Z:List Expr}{x1}(hg:Gl X "zip")(hm:X.mg "zip" = none)(ha:PA X [a,b] ta)(hs:starEach [a,b] X.env=[(false,eval a X.env),(false,eval b X.env)]:=by rfl)(gV:starEach [b] X.env=[(false,eval b X.env)]:=by rfl) :
  PI X (.Tuple Z x1 pos') (.Call (.Name "zip" p) [a,b] [] pos) (aBS X.K ta):=by
 intro pins s σ H R I h;refine Call_ (rG I hg hm boot_zip (gl (thn (ha pos pins s σ H _ I h) λus s1 ⟨vs,H1,I1,r1,q1⟩=>?_) (by rw[hs,gV]) (by rw[gV];rfl)));obtain⟨l1,l2,e,⟨xa,or⟩,⟨w8,wp⟩,q⟩:=q1;subst e
 cases r1 with
 | cons r rr =>
  cases rr with
  | cons r' rr =>
   cases rr;cases r;cases r';obtain⟨w4,rv,p,hz⟩:=I1.list or;obtain⟨wx,wz,p2,w6⟩:=I1.list wp;obtain⟨o1,ww,_⟩:=id p.isList;obtain⟨o2,mp,_⟩:=id p2.isList;refine call_zip_2 p.isList p2.isList λh' z1 z2 z3 z4 z5 z6 z7=>?_
   refine wpAny_pyIter_zip (s:={ s1 with heap:=h' }) z1 ?_;have fr:∀ c,s1.heap.objs.size<=c->mT X pins H1 c:=λc hc=>I1.fpOk hc (I1.hok.fresh hc)
   refine⟨s1.heap.objs.size+4,[s1.heap.objs.size+4,s1.heap.objs.size+2,s1.heap.objs.size+3,s1.heap.objs.size,s1.heap.objs.size+1],_,_,H1,rfl,I1.kept (t':=s1.toks) z7,Od (zipApart_new (AV ww) (AV mp)),⟨z1,z2,⟨_,_,z3⟩,z4,z5⟩,λc hc=>fr c ?_,q⟩;simp only [au,fz,or_false] at hc;rcases hc with rfl | rfl | rfl | rfl | rfl
   ·exact jy _ _
   ·exact jy _ _
   ·exact jy _ _
   ·exact af _
   ·exact jy _ _
theorem Kw:MtM X "list.insert" (λx vs H Q=>∃ (l:Addr) (xs:List V) (i:Nat) (y:V),x = .ref l∧vs=[.int (i:Nat),y]∧H l=some (.lst xs)∧i<=xs.length∧xs.length<=1000∧Q .non (upd H l (.lst (xs.take i++y::xs.drop i)))):=by
 intro pins s σ H x vs v us Q I rx rv h;obtain⟨l,xs,i,y,rfl,rfl,hH,hi,hn,q⟩:=h;cases rx;obtain⟨u,w',rfl,⟨t,rfl⟩,mp⟩:=zF rv;obtain⟨z,Z,n,r,hl,e⟩:=I.lstM hH;have hs:=AG;have or:=r.length;have gV:¬ (!Builtin.List.listFitsIndex ((i:Nat):Int))=true:=by
  have h1:(-(2 ^ 63:Int)<=((i:Nat):Int)):=Int.le_trans (by decide) (uf i);have h2:((i:Nat):Int)<2 ^ 63:=Int.lt_of_le_of_lt (show ((i:Nat):Int)<=1000 by omega) (by decide);unfold Builtin.List.listFitsIndex;rw[AE h1,AE h2]
  decide
 have hsz:Z.toArray.size<=sizeLine:=by rw[aj];omega
 have hk:(if ((i:Nat):Int)<0 then (((i:Nat):Int)+(Z.toArray.size:Int)).toNat else min ((i:Nat):Int).toNat Z.toArray.size)=i:=by
  rw[AC (by omega),bj,aj];exact er (by omega)
 generalize hx:((i:Nat):Int)=x at gV hk ⊢;have M:=qz l Z.toArray n x t w' gV hsz;refine call_meets F.slot_list_insert ⟨_,e,rfl⟩ F.entry_list_insert (F.args_list_insert_3 _ _ _) M ⟨e,?_⟩;have hf:(λxs:Array Value=>have k:=if x<0 then (x+(xs.size:Int)).toNat else min x.toNat xs.size;(xs.extract 0 k).push w'++xs.extract k) Z.toArray=(Z.take i++w'::Z.drop i).toArray:=by
  show (Z.toArray.extract 0 (if x<0 then (x+(Z.toArray.size:Int)).toNat else min x.toNat Z.toArray.size)).push w'++Z.toArray.extract (if x<0 then (x+(Z.toArray.size:Int)).toNat else min x.toNat Z.toArray.size)=_;rw[hk];apply Array.toList_inj.mp;rw[Array.toList_append,pd,si,si];simp;exact b9 (by rw[bu];omega)
 have hv:aZ (xs.take i++y::xs.drop i) (Z.take i++w'::Z.drop i):=?hv;refine⟨.non,_,I.lset (its':=Z.take i++w'::Z.drop i) hH e hf hv ?_,rfl,q⟩
 ·rw[ai,cj,ar,bu]
  omega
 case hv=>exact (r.take i).append (.cons mp (r.drop i))
end
theorem on1 {α:Type}{C:List α->Prop}{us:List α}(h:us.length=1)(k:∀ a,C [a]):C us:=match us,h with | [a],_=>k a
theorem on2 {α:Type}{C:List α->Prop}{us:List α}(h:us.length=2)(k:∀ a b,C [a,b]):C us:=match us,h with | [a,b],_=>k a b
theorem on3 {α:Type}{C:List α->Prop}{us:List α}(h:us.length=3)(k:∀ a b c,C [a,b,c]):C us:=match us,h with | [a,b,c],_=>k a b c
theorem on4 {α:Type}{C:List α->Prop}{us:List α}(h:us.length=4)(k:∀ a b c d,C [a,b,c,d]):C us:=match us,h with | [a,b,c,d],_=>k a b c d
section
variable {X:Cx}
theorem Rk {st:List Stmt}:PSs X st (λ_ _ _=>False):=λ_ _ _ _ _ _ h=>h.elim
end
structure Ar (N N':List Str)(sc scope:Scope)(x y2:Str):Prop where
 kind:scope.kind = .function
 cell:∀ y∈scope.names,y.2≠.cell
 names:∀ y∈scope.names,y.2 = .local->scope.names.lookup y.1=some .local
 var:scope.names.lookup x=some .local
 var2:scope.names.lookup y2=some .local
 ok:∀ y∈scope.names,y.2 = .free->sc.names.lookup y.1=some .cell∨sc.names.lookup y.1=some .free
 hd:N'[0]?=some x
 hd2:N'[1]?=some y2
 len:N'.length=N.length+2
 sub:∀ i,i<N.length->N'[i+2]?=N[i]?∨N'[i+2]?=some ("" : Str)
 noe:scope.names.lookup ("" : Str)=none
 nol:∀ y∈N'.tail.tail,scope.names.lookup y≠some .local
 nd:N'.Nodup
def Bh (K:ac)(te:TE)(σ:St)(Q:VK)(J:It)(H1:Hp):Prop:=∀ D,H1 D=none->∃ W:Nat->Nat->List V->Hp->Prop,(∃ m,W 0 m [] (upd H1 D (.lst [])))∧∀ i m ys H2,W i m ys H2 ->
 (J.stop i H2∧Q (.ref D) H2)∨(J.go i H2∧ys.length<sizeLine∧∃ N:V->Hp->Prop,(∀ v H',N v H'->H' D=some (.lst ys)∧∃ Z,Z<m∧W (i+1) Z (ys++[v]) (upd H' D (.lst (ys++[v])))) ∧
  ∀ y H',J.yld i H2 y H'->∃ (a:Addr) (u v:V),y = .ref a∧SqT K H' a [u,v]∧te (some u::some v::σ) H' N)
def Xa (K:ac)(wi:TI)(te:TE):TE:=λσ H Q=>wi σ H (Bh K te σ Q)
section
variable {X:Cx}{N':List Str}{scope:Scope}{x y2:Str}{px py py2 pt:Pos}{elt iter:Expr}{pos:Pos}{te:TE}{wi:TI}
theorem Gi (S:Ar X.N N' X.env.scope scope x y2)(hc:X.calm=true)(he:∀ cl C s H fp,PE (bX X N' scope cl C s H fp) elt te)
  {pins:List (Addr×Obj)} {σ:St} {H:Hp} {s:kw} {Q:VK} {E:Value->kw->Prop} {RR:Value->Addr->Result->kw->Prop} {it:Addr} {fp:List Addr} {tn:Nat->Heap->Prop} {J:It}
  (I:Inv X pins σ H s) (T:wQ X.prog X.w X.K (.Tuple [.Name x px,.Name y2 py] 0 pt) J fp it tn) (st:tn 0 s.heap) (f2:∀ b∈fp,mT X pins H b)
  (hw:Bh X.K te σ Q J H)
  (yd:∀ D C s' H',Inv X pins σ H' s'->(∃ m,s'.heap.Ns C m)->C≠X.env.locals->(∀ y c,X.env.cells.lookup y=some c->c≠C)->H' C=none->X.s₀.heap.objs.size<=C->(∀ p∈X.pn++pins,p.1≠C)->Q (.ref D) H'->RR (.ref D) C (.ok .next) s') :
  ∃ cl,closureFor scope X.env=pure cl∧wpAny (model X.prog X.w) X.A (newList []) (λxm s₃=>wpAny (model X.prog X.w) X.A (newFunctionEnv scope X.env.globals cl [] X.env.qual none .none (some X.env)) (λw6 s₄ =>
   codeAny (model X.prog X.w) X.A (.compStart (.ListComp elt [⟨.Tuple [.Name x px,.Name y2 py] 0 pt,iter,[],0⟩] scope pos) 0 (.ref it) xm { w6 with scope:=relabel scope X.env }) (RR xm w6.locals) s₄) E s₃) E s:=by
 have wx:∀ z∈scope.names,z.2 = .free->∃ c,X.env.cells.lookup z.1=some c:=λz hz hk=>by
  rcases S.ok z hz hk with q | q
  ·exact I.ok.has z.1 (.inl q)
  ·exact I.ok.has z.1 (.inr q)
 refine⟨_,iS wx,?_⟩;have or:∀ y c,(dQ X.env.cells scope.names []).lookup y=some c->X.env.cells.lookup y=some c:=λy c=>nF scope.names [] wx λq=>by cases q
 generalize yf:dQ X.env.cells scope.names []=cl at or;have xr:∀ y,scope.names.lookup y=some .free->∃ c,cl.lookup y=some c:=λy hy=>by
  rw[<- yf];exact uW scope.names [] (eK hy)
 refine AN (wpAny_newFunctionEnv S.cell (by intro y hy;simp at hy) (λh₁ xb₁ xa₁=>?_) S.kind);have I3:Inv X pins σ (upd H s.heap.objs.size (.lst [])) { s with heap:=s.heap.push { cls:=.type "list",data:=.seq ([]:List Value).toArray } }:=I.lnew (t':=s.toks) .nil (cc _)
 obtain⟨W,⟨m0,w0⟩,xt⟩:=hw s.heap.objs.size I.fresh
 dsimp only at xb₁ xa₁ ⊢
 generalize xi:({ s with heap:=s.heap.push { cls:=.type "list",data:=.seq ([]:List Value).toArray } }:kw)=Z at I3
 have xf:Z.heap=s.heap.push { cls:=.type "list",data:=.seq ([]:List Value).toArray }:=by rw[<- xi]
 have xx:Z.heap.objs.size=s.heap.objs.size+1:=by rw[xf,Heap.size_push]
 rw[<- xf] at xb₁ xa₁ ⊢;have ww:∀ b o,Z.heap.get? b=some o->h₁.get? b=some o:=λb o e=>xa₁.extBut b o (by have:=AV e;exact az this) (AT _ e)
 have xw:∀ b o,s.heap.get? b=some o->h₁.get? b=some o:=λb o e=>ww b o (by rw[xf];exact AT _ e)
 have xy:Z.heap.objs.size≠X.env.locals:=gn I3.lt;have xk:∀ y c,X.env.cells.lookup y=some c->c≠Z.heap.objs.size:=λy c e z=>by
  obtain⟨v,q⟩:=I3.cell y c e
  have:=q.lt
  rw[z] at this;exact absurd this (e9 _)
 have w4:∀ p∈X.pn++pins,p.1≠Z.heap.objs.size:=λp hp z=>by
  have:=AV (I3.pin p hp).1
  rw[z] at this;exact absurd this (e9 _)
 have x6:∀ b o,Z.heap.get? b=some o->b<Z.heap.objs.size:=λb o e=>by have:=AV e;exact this
 have w8:∀ b∈fp,b<Z.heap.objs.size:=λb hb=>by
  obtain⟨o,e,_⟩:=T.obj 0 s.heap st b hb;rw[xx];exact fj (AV e)
 have ya:∀ b∈fp,b≠s.heap.objs.size:=λb hb=>by
  obtain⟨o,e,_⟩:=T.obj 0 s.heap st b hb;exact az (AV e)
 have yb:(bX X N' scope cl Z.heap.objs.size Z (upd H s.heap.objs.size (.lst [])) fp).Ok:=by
  refine⟨I3.ok.mod,?_,I3.ok.glob,I3.ok.blt,af _,λy z c h1 h2=>I3.ok.inj y z c (or y c h1) (or z c h2),λy hy=>?_,λy c hf=>(by cases hf),I3.ok.hd,I3.ok.frames,.inl rfl,λb hb=>⟨az (w8 b hb),λy c e=>(f2 b hb).2.2.2.2.1 y c (or y c e)⟩,
   λb o e=>I3.bs b o e,a5 I3.ok.bsz I3.sz,λb o e hb=>?_,λb hb z=>?_,I3.stack,I3.stkFree⟩
  ·show (relabel scope X.env).kind = .function
   exact S.kind
  ·have mp:(relabel scope X.env).names.lookup y=some .cell∨(relabel scope X.env).names.lookup y=some .free:=hy
   rw[cL] at mp
   cases q:scope.names.lookup y with
   | none=>rw[q] at mp;rcases mp with z | z <;> cases z
   | some k =>
     have hm:=eK q
     cases k with
     | free=>exact xr y q
     | cell=>exact absurd rfl (S.cell _ hm)
     | «local» => rw[q] at mp;rcases mp with z | z <;> simp at z
     | globalExplicit=>rw[q] at mp;rcases mp with z | z <;> simp at z
     | globalImplicit=>rw[q] at mp;rcases mp with z | z <;> simp at z
  ·rcases (f2 b hb).2.2.2.1 with z | z
   · exact I.ok.noex b o e z
   · exact absurd (bi (AV e) (a5 I.ok.bsz z)) (e9 _)
  ·rcases au.mp (I3.stkSub b z) with q | q
   · exact (f2 b hb).2.1 q
   · exact (f2 b hb).2.2.1 q
 have wp:∀ {H':Hp},(∀ b∈fp,H' b=none)->∀ b∈fp,mT (bX X N' scope cl Z.heap.objs.size Z (upd H s.heap.objs.size (.lst [])) fp) pins H' b:=λhn b hb =>
  ⟨hn b hb,az (w8 b hb),λz=>by
   rcases au.mp (I3.stkSub b z) with q | q
   · exact (f2 b hb).2.1 q
   · exact (f2 b hb).2.2.1 q,.inl hb,λy c e=>(f2 b hb).2.2.2.2.1 y c (or y c e),(f2 b hb).2.2.2.2.2⟩
 have I4:Inv (bX X N' scope cl Z.heap.objs.size Z (upd H s.heap.objs.size (.lst [])) fp) pins (none::none::σ) (upd H s.heap.objs.size (.lst [])) { Z with heap:=h₁,toks:=Z.toks+([]:List (Str×Value)).length }:=by
  refine⟨yb,rfl,I3.bare,Un.kept ww,⟨_,xb₁,λi y v e1 e2 yg=>?_⟩,λy c e=>?_,?_,λy c e=>I3.freeC y c (or y c e),λp hp=>?_,I3.hok.kept ww,?_⟩
  ·cases i with
   | zero=>cases e2
   | succ i =>
    cases i with
    | zero=>cases e2
    | succ i =>
     have xo:σ[i]?=some (some v):=by simpa using e2
     have hi:i<X.N.length:=by rw[<- I3.len];exact (ao.mp xo).1
     have gV:(relabel scope X.env).names.lookup y=some .local∨(relabel scope X.env).names.lookup y=some .cell∨(relabel scope X.env).names.lookup y=some .free:=yg;have xc:N'[i+2]?=some y:=e1;rcases S.sub i hi with q | q
     ·rw[xc] at q
      have hy:X.N[i]?=some y:=q.symm;have xz:y∈N'.tail.tail:=by
       rw[mh];exact⟨i,by rw[ol,ol];exact xc⟩
      have xg:scope.names.lookup y=some .free:=by
       rw[cL] at gV
       cases q2:scope.names.lookup y with
       | none=>rw[q2] at gV;rcases gV with z | z | z <;> cases z
       | some k =>
        cases k with
        | free=>rfl
        | cell=>exact absurd rfl (S.cell _ (eK q2))
        | «local» => exact absurd q2 (S.nol y xz)
        | globalExplicit=>rw[q2] at gV;rcases gV with z | z | z <;> simp at z
        | globalImplicit=>rw[q2] at gV;rcases gV with z | z | z <;> simp at z
      have hok:=S.ok (y,.free) (eK xg) rfl;obtain⟨m,hn,hl⟩:=I3.loc;have xq:Vis X.env.scope y:=by
       rcases hok with z | z
       ·exact .inr (.inl z)
       ·exact .inr (.inr z)
      obtain⟨u,r,l⟩:=hl i y v hy xo xq;refine⟨u,r,.inr ⟨?_,?_⟩⟩
      ·show (relabel scope X.env).names.lookup y=some .cell∨(relabel scope X.env).names.lookup y=some .free
       rw[cL,xg,iq];by_cases hcnd:(NameKind.free==NameKind.free&&X.env.scope.kind == .function&&X.env.kindOf y==some .cell)=true
       ·left
        rw[AD hcnd]
       ·right
        rw[AC hcnd]
      ·rcases l with ⟨k,_⟩ | ⟨k,c,e,z⟩
       ·have k':X.env.scope.names.lookup y=some .local:=k
        have wz:X.env.scope.names.lookup y=some .cell∨X.env.scope.names.lookup y=some .free:=hok;rw[k'] at wz;rcases wz with z | z <;> cases z
       ·obtain⟨c',e'⟩:=xr y xg
        have e3:=or y c' e';rw[e] at e3;cases e3;obtain⟨o,ho,hd⟩:=z;exact⟨c,e',o,ww c o ho,hd⟩
     ·rw[xc] at q
      cases q;rw[cL,S.noe] at gV;rcases gV with z | z | z <;> cases z
  ·obtain⟨v,o,ho,hd⟩:=I3.cell y c (or y c e)
   exact⟨v,o,ww c o ho,hd⟩
  ·show upd H s.heap.objs.size (.lst []) Z.heap.objs.size=none
   exact I3.hok.fresh (af _)
  ·obtain⟨e,n,ne,nf,d⟩:=I3.pin p hp
   refine⟨ww _ _ e,n,w4 p hp,λz=>?_,d⟩;rcases au.mp (I3.stkSub p.1 z) with q | q
   · exact ne q
   · exact nf q
  ·show (none::none::σ).length=N'.length
   rw[S.len,ar,ar,I3.len]
 have xu:tn 0 h₁:=T.keep 0 s.heap h₁ st λb _ o e=>xw b o e
 have loop:∀ s₄:kw,s₄ = { Z with heap:=h₁,toks:=Z.toks+([]:List (Str×Value)).length } ->
   codeAny (model X.prog X.w) X.A (.compLoop (.ListComp elt [⟨.Tuple [.Name x px,.Name y2 py] 0 pt,iter,[],0⟩] scope pos) 0 (.ref it) (.ref s.heap.objs.size) (compEnvC scope cl Z.heap.objs.size X.env)) (RR (.ref s.heap.objs.size) Z.heap.objs.size) s₄:=by
  rintro s₄ rfl;refine lF (λn s'=>∃ i v0 v1 ys H',Inv (bX X N' scope cl Z.heap.objs.size Z (upd H s.heap.objs.size (.lst [])) fp) pins (v0::v1::σ) H' s'∧tn i s'.heap∧(∀ b∈fp,H' b=none)∧W i n ys H') ?_ m0
   ⟨0,none,none,[],_,I4,xu,λb hb=>by rw[aG (ya b hb)];exact (f2 b hb).1,w0⟩
  rintro n s5 ⟨i,v0,v1,ys,H5,I5,xp,xj,w5⟩;rcases xt i n ys H5 w5 with ⟨stop,qn⟩ | ⟨go,hz,N,hN,step⟩
  ·refine thn (T.done (bX X N' scope cl Z.heap.objs.size Z (upd H s.heap.objs.size (.lst [])) fp) rfl rfl rfl hc i pins s5 (v0::v1::σ) H5 (λ_ _=>False) I5 (wp xj) xp stop) λr s6 ⟨hr,I6⟩=>?_
   subst hr;have yi:∀ b∈fp,(b∈X.ex∨X.s₀.heap.objs.size<=b)∧b≠X.env.locals∧(∀ x c,X.env.cells.lookup x=some c->c≠b)∧∀ p∈X.pn++pins,p.1≠b:=λb hb =>
     ⟨(f2 b hb).2.2.2.1,(f2 b hb).2.1,(f2 b hb).2.2.2.2.1,(f2 b hb).2.2.2.2.2⟩
   have I7:Inv X pins σ H5 s6:=I3.call' (ch:=fp) I6.os I6.base I6.hok I6.bare yi;obtain⟨m,hm,_⟩:=I6.loc;exact yd s.heap.objs.size Z.heap.objs.size s6 H5 I7 ⟨m,hm⟩ xy xk I6.free (a5 I3.sz (af _)) w4 qn
  ·refine thn (T.item (bX X N' scope cl Z.heap.objs.size Z (upd H s.heap.objs.size (.lst [])) fp) rfl rfl rfl hc i pins s5 (v0::v1::σ) H5 (λ_ _=>False) I5 (wp xj) xp go) λr s6 ⟨u,hr,h6⟩=>?_
   subst hr;refine thn h6 λ_ s7 ⟨y,H7,I7,r7,y7,st7,fr7⟩=>?_
   have yh:=I7.pinned (wp fr7) (T.obj _ _ st7);obtain⟨aT,u0,u1,e7,yc,xh⟩:=step y H7 y7;have x8:Inv (bX X N' scope cl Z.heap.objs.size Z (upd H s.heap.objs.size (.lst [])) fp) (pins++mR fp s7.heap) (v0::v1::σ) H7 s7:=yh;refine thn ((show PG _ _ _ from Ff (X:=bX X N' scope cl Z.heap.objs.size Z (upd H s.heap.objs.size (.lst [])) fp) (es:=[.Name x px,.Name y2 py]) (n:=2) hc
     (jK (bO (i:=0) S.nd S.hd (.inl (lookup_relabel_local S.var)) (.inr (lookup_relabel_local S.var))) (jK (bO (i:=1) S.nd S.hd2 (.inl (lookup_relabel_local S.var2)) (.inr (lookup_relabel_local S.var2))) Ay)))
     _ s7 (v0::v1::σ) H7 y u (λσ2 H2=>σ2=some u0::some u1::σ∧H2=H7) x8 r7 ⟨aT,[u0,u1],e7,yc,rfl,u0,[u1],rfl,u1,[],rfl,rfl,rfl,rfl⟩) λ_ s8 ⟨σ8,H8,I8,e8,e8'⟩=>?_
   subst e8 e8';have x9:Inv (bX X N' scope cl Z.heap.objs.size Z (upd H s.heap.objs.size (.lst [])) fp) (pins++mR fp s7.heap) (some u0::some u1::σ) H8 s8:=I8;refine thn (he cl Z.heap.objs.size Z (upd H s.heap.objs.size (.lst [])) fp _ s8 (some u0::some u1::σ) _ N x9 xh) λw s9 ⟨v,H9,I9,r9,q9⟩=>?_
   obtain⟨ye,m',hm,w9⟩:=hN v H9 q9;refine thn (gE _ s9 (some u0::some u1::σ) H9 (.ref s.heap.objs.size) [v] (.ref s.heap.objs.size) [w] (λz xl=>z = .non∧xl=upd H9 s.heap.objs.size (.lst (ys++[v]))) I9 rfl (.cons r9 .nil) ⟨s.heap.objs.size,ys,v,rfl,rfl,ye,hz,rfl,rfl⟩) λ_ yj ⟨z,xl,I10,_,ez,e10⟩=>?_
   subst e10;refine⟨m',hm,i+1,some u0,some u1,ys++[v],_,I10.unpinned,T.keep _ _ _ st7 λb hb o e=>(I10.pin (b,o) (bf _ (bf _ (eI hb e)))).1,λb hb=>?_,w9⟩;obtain⟨o,e,d⟩:=T.obj _ _ st7 b hb;exact (I10.pin (b,o) (bf _ (bf _ (eI hb e)))).2.1
 exact codeAny_compStart_list (loop _ (by rw[<- xi])) (T.self X.A 0 _ _ _ xu (loop _ (by rw[<- xi])))
end
theorem Qs {K:ac}{a b:Addr}{xs ys:List V}{te:TE}{σ:St}{H:Hp}{Q:VK}(f:V->V->V)(hx:SqL K H a xs)(hy:SqL K H b ys)(he:xs.length=ys.length)(hn:xs.length<=sizeLine)
  (hs:∀ (i:Nat) (x y:V) (H':Hp),xs[i]?=some x->ys[i]?=some y->aL H H'->∀ N:V->Hp->Prop,(∀ Z,aL H' Z->N (f x y) Z)->te (some x::some y::σ) H' N)
  (hq:∀ D H',H D=none->aL H H'->H' D=some (.lst (qm f xs ys))->Q (.ref D) H'):Bh K te σ Q (Itz K a b) H:=by
 have or:(qm f xs ys).length=xs.length:=by rw[sw,<- he,Nat.min_self]
 intro D hD;refine⟨λi m zs H2=>m=xs.length-i∧i<=xs.length∧zs=(qm f xs ys).take i∧aL H H2∧H2 D=some (.lst zs),⟨xs.length,rfl,cc _,rfl,λb o e=>?_,aC⟩,?_⟩
 ·rw[aG (aI e hD)]
  exact e
 ·rintro i m zs H2 ⟨rfl,hi,rfl,s2,hd⟩
  by_cases hlt:i<xs.length
  ·have h1:xs[i]?=some xs[i]:=aa hlt
   have h2:ys[i]?=some (ys[i]'(by omega)):=aa (by omega);refine .inr ⟨⟨xs,ys,_,_,s2.seq hx,s2.seq hy,h1,h2⟩,by rw[cj];omega,λv H'=>v=f xs[i] (ys[i]'(by omega))∧aL H2 H',λv H' ⟨ev,hs'⟩=>⟨hs' D _ hd,xs.length-(i+1),by omega,rfl,hlt,?app,λb o e=>?kp,aC⟩,λy H' mp=>?stp⟩
   case app=>rw[ev,cn,ml,h1,h2];rfl
   case kp =>
    rw[aG (aI e hD)];exact hs' b o (s2 b o e)
   case stp =>
    obtain⟨T,u,v,rfl,hT,rfl,y1,y3⟩:=mp;have t2:aL H2 (upd H2 T (.tup [u,v])):=λb o e=>by rw[aG (aI e hT)];exact e
    obtain rfl:=av ((y1 xs (s2.seq hx)).symm.trans h1);obtain rfl:=av ((y3 ys (s2.seq hy)).symm.trans h2);exact⟨T,_,_,rfl,SqT.of aC,hs i _ _ _ h1 h2 (s2.trans t2) _ λZ gV=>⟨rfl,t2.trans gV⟩⟩
  ·have e:i=xs.length:=by omega
   subst e;rw[b9 (by omega)] at hd;exact .inl ⟨⟨xs,ys,s2.seq hx,s2.seq hy,.inl (af _)⟩,hq D H2 hD s2 hd⟩
def aX {α:Type}:Sem α->Prop
 | .pure _=>True
 | .raise _=>True
 | .unsupported _=>True
 | .finish _=>True
 | .rule _ k=>aX (k ())
 | .at _ k=>aX (k ())
 | .load _ _ k=>∀ o,aX (k o)
 | .update _ _ f k=>(∀ o:Obj,(f o).dict=o.dict)∧aX (k ())
 | .alloc _ k=>∀ a,aX (k a)
 | .loadIfAlive _ k=>∀ o,aX (k o)
 | .point _ k=>aX (k ())
 | .fresh k=>∀ t,aX (k t)
 | .ask k=>∀ x,aX (k x)
 | .handled _ k=>∀ x,aX (k x)
 | .stack k=>∀ x,aX (k x)
 | .thread k=>∀ x,aX (k x)
 | _=>False
def iC (h₀ h:Heap):Prop:=∀ (b:Addr) (o:Obj),h₀.objs[b]?=some o->∃ o':Obj,h.objs[b]?=some o'∧o'.dict=o.dict
theorem iC.refl (h:Heap):iC h h:=λ_ o e=>⟨o,e,rfl⟩
theorem iC.push {h₀ h:Heap}{x:Obj}(k:iC h₀ h):iC h₀ (h.push x):=λb o e=>by
 obtain⟨o',Z,d⟩:=k b o e;refine⟨o',?_,d⟩;have hb:=(ox.mp Z).1;show (h.objs.push x)[b]?=some o';rw[Array.getElem?_push_lt hb,<- Z,lc hb]
theorem iC.update {h₀ h:Heap}{a:Addr}{f:Obj->Obj}(k:iC h₀ h)(Z:∀ o:Obj,(f o).dict=o.dict):iC h₀ (h.update a f):=λb o e=>by
 obtain⟨o',e',d⟩:=k b o e;show ∃ o':Obj,(h.objs.modify a f)[b]?=some o'∧o'.dict=o.dict;rw[Array.getElem?_modify,e'];by_cases hab:a=b
 ·rw[AD hab]
  exact⟨f o',rfl,(Z o').trans d⟩
 ·rw[AC hab]
  exact⟨o',rfl,d⟩
theorem iC.dict {h₀ h:Heap}{b:Addr}{o o':Obj}(k:iC h₀ h)(e:h₀.get? b=some o)(e':h.get? b=some o'):o'.dict=o.dict:=by
 obtain⟨o1,Z,d⟩:=k b o (Heap.get?_some_iff.mp e).1;rw[(Heap.get?_some_iff.mp e').1] at Z;cases Z;exact d
theorem aX.wp {α:Type}{M:Model}{Γ:PySem.Ctx}{m:Sem α}:∀ {Q:α->Pos->kw->Prop} {E:Value->Pos->kw->Prop} {p:Pos} {s:kw} {h₀:Heap},aX m->iC h₀ s.heap->Sem.wp M Γ m Q E p s->Sem.wp M Γ m (λa Z s'=>Q a Z s'∧iC h₀ s'.heap) E p s:=by
 induction m with
 | pure a=>exact λ_ k h=>⟨h,k⟩
 | raise e=>exact λ_ _ h=>h
 | unsupported w=>exact λ_ _ h=>h
 | finish e=>exact λ_ _ h=>h
 | rule t k ih=>exact λd kp h=>ih () d kp h
 | «at» p k ih=>exact λd kp h=>ih () d kp h
 | load a pt k ih=>exact λd kp ⟨o,h1,h2⟩=>⟨o,h1,ih o (d o) kp h2⟩
 | update a pt f k ih=>exact λd kp ⟨h1,h2⟩=>⟨h1,ih () d.2 (kp.update d.1) h2⟩
 | alloc o k ih=>exact λd kp h=>ih _ (d _) kp.push h
 | loadIfAlive a k ih=>exact λd kp h=>ih _ (d _) kp h
 | point l k ih=>exact λd kp h=>ih () d kp h
 | fresh k ih=>exact λd kp h=>ih _ (d _) kp h
 | ask k ih=>exact λd kp h=>ih _ (d _) kp h
 | handled o k ih=>exact λd kp h=>ih _ (d _) kp h
 | stack k ih=>exact λd kp h=>ih _ (d _) kp h
 | thread k ih=>exact λd kp h=>ih _ (d _) kp h
 | register a k ih=>exact λd=>d.elim
 | choose a b k ih=>exact λd=>d.elim
 | os a b k ih=>exact λd=>d.elim
 | call a b c d k ih=>exact λd=>d.elim
 | newGen a k ih=>exact λd=>d.elim
 | genState a k ih=>exact λd=>d.elim
 | resume a b c k ih=>exact λd=>d.elim
 | «yield» a b c k ih=>exact λd=>d.elim
 | fork a k ih=>exact λd=>d.elim
 | await a b c d k ih=>exact λd=>d.elim
theorem aX.any {α:Type}{M:Model}{A:Around}{m:Sem α}{Q:α->kw->Prop}{E:Value->kw->Prop}{s:kw}(d:aX m)(h:wpAny M A m Q E s):wpAny M A m (λa s'=>Q a s'∧iC s.heap s'.heap) E s :=
 λΓ p hΓ=>d.wp (iC.refl _) (h Γ p hΓ)
theorem aX.bind {α β:Type}{m:Sem α}:∀ {f:α->Sem β},aX m->(∀ a,aX (f a))->aX (m >>= f):=by
 show ∀ {f:α->Sem β},aX m->(∀ a,aX (f a))->aX (m.bind f)
 induction m with
 | pure a=>exact λ_ h=>h a
 | raise e=>exact λ_ _=>trivial
 | unsupported w=>exact λ_ _=>trivial
 | finish e=>exact λ_ _=>trivial
 | rule t k ih=>exact λd h=>ih () d h
 | «at» p k ih=>exact λd h=>ih () d h
 | load a pt k ih=>exact λd h o=>ih o (d o) h
 | update a pt f k ih=>exact λd h=>⟨d.1,ih () d.2 h⟩
 | alloc o k ih=>exact λd h a=>ih a (d a) h
 | loadIfAlive a k ih=>exact λd h o=>ih o (d o) h
 | point l k ih=>exact λd h=>ih () d h
 | fresh k ih=>exact λd h o=>ih o (d o) h
 | ask k ih=>exact λd h o=>ih o (d o) h
 | handled o k ih=>exact λd h o=>ih o (d o) h
 | stack k ih=>exact λd h o=>ih o (d o) h
 | thread k ih=>exact λd h o=>ih o (d o) h
 | register a k ih=>exact λd=>d.elim
 | choose a b k ih=>exact λd=>d.elim
 | os a b k ih=>exact λd=>d.elim
 | call a b c d k ih=>exact λd=>d.elim
 | newGen a k ih=>exact λd=>d.elim
 | genState a k ih=>exact λd=>d.elim
 | resume a b c k ih=>exact λd=>d.elim
 | «yield» a b c k ih=>exact λd=>d.elim
 | fork a k ih=>exact λd=>d.elim
 | await a b c d k ih=>exact λd=>d.elim
theorem oS (v:Value)(i:Nat):aX (field v i):=by
 unfold field fieldsOf;refine aX.bind ?_ λa=>?_
 ·split
  ·refine aX.bind (λo=>trivial) λo=>?_
   split <;> trivial
  ·trivial
 ·split <;> trivial
theorem Lp (f:Array Value->Array Value)(o:Obj):(Obj.mapFields f o).dict=o.dict:=by
 unfold Obj.mapFields;split <;> rfl
theorem iO (v:Value)(i:Nat)(x:Value):aX (setField v i x):=by
 unfold setField;split
 ·unfold updateField
  refine aX.bind (λo=>trivial) λo=>?_
  split
  ·split
   ·exact⟨λo=>Lp _ o,trivial⟩
   ·trivial
  ·trivial
 ·trivial
theorem kJ (e:Value)(fr:Option Addr):aX (setFlight e fr):=by
 unfold setFlight;refine aX.bind (oS _ _) λtb=>?_
 split
 ·exact iO _ _ _
 ·trivial
theorem vX:aX stack:=λ_=>trivial
theorem Bm:aX frameEnvs:=by
 unfold frameEnvs;exact aX.bind vX λ_=>trivial
theorem Kd (env:Env)(outer:List Env):aX (behindIsImport env outer):=by
 unfold behindIsImport;split
 ·trivial
 ·split
  ·trivial
  ·exact aX.bind (oS _ _) λ_=>trivial
theorem Dk (env:Env)(b:Bool):∀ outer,aX (keptBack env b outer)
 | []=>by
  show aX (if (env.scope.isGenerator||env.scope.isCoroutine)=true then pure Value.none else _);split
  ·trivial
  ·exact aX.bind (aX.bind vX λ_=>trivial) λ_=>trivial
 | _::_=>trivial
theorem Cn:∀ l,aX (readyFrames l)
 | []=>trivial
 | env::outer=>by
  unfold readyFrames;split
  ·refine aX.bind (λ_=>trivial) λ_=>?_
   split
   ·trivial
   ·exact aX.bind (Kd _ _) λ_=>aX.bind (Dk _ _ _) λ_=>aX.bind (show aX (update _ _) from ⟨λ_=>rfl,trivial⟩) λ_=>Cn outer
  ·trivial
theorem vK (env:Env):aX (wk env):=by
 unfold wk;refine aX.bind Bm λl=>aX.bind ?_ λo=>?_
 ·unfold frameObject
  split
  ·trivial
  ·exact aX.bind (Cn _) λ_=>trivial
 ·split <;> trivial
theorem kK (f:Addr)(b:Bool):aX (entryPlaceOf f b):=by
 unfold entryPlaceOf;refine aX.bind vX λl=>?_
 split <;> trivial
theorem rM (a b c d e:Value)(l:List Value):aX (EntryCells.newEntry a b c d e l):=by
 unfold EntryCells.newEntry newFields newObj;have h:∀ d:Data,aX (newObjAsIs (Value.type "traceback") d):=λd=>aX.bind (λ_=>trivial) λ_=>trivial
 dsimp only
 generalize ([a,b,c,d,e]++if l.isEmpty=true then cp 6 Value.none else l).toArray=vs;split
 ·trivial
 ·exact h _
theorem pD (e:Value)(env:Env):aX (noteFrame e env):=by
 unfold noteFrame;split
 ·refine aX.bind (oS _ _) λhd=>?_
  split
  ·refine aX.bind (oS _ _) λx=>?_
   split
   ·trivial
   ·exact aX.bind (iO _ _ _) λ_=>aX.bind (vK _) λ_=>aX.bind (kK _ _) λ_=>aX.bind (rM _ _ _ _ _ _) λ_=>iO _ _ _
  ·exact aX.bind (vK _) λ_=>aX.bind (kK _ _) λ_=>aX.bind (rM _ _ _ _ _ _) λ_=>iO _ _ _
 ·trivial
theorem vV (env:Env)(e:Value):aX (leaving env e):=by
 unfold leaving;exact aX.bind (pD _ _) λ_=>kJ _ _
def dC (h:Heap)(a:Addr):Option Addr->Prop
 | none=>True
 | some dx=>∃ o,h.get? a=some o∧o.dict=some dx
theorem dC.keep {h h':Heap}{a:Addr}{od:Option Addr}(d:dC h a od)(k:iC h h')(t:∃ o,h'.get? a=some o):dC h' a od:=by
 cases od with
 | none=>trivial
 | some dx =>
  obtain⟨o,e,q⟩:=d;obtain⟨o',Z⟩:=t;exact⟨o',Z,(k.dict e Z).trans q⟩
def CX2 (P:xv)(w:World):CXT:=λouter H s E e s'=>∃ a cls od H',e = .ref a∧Fly P w outer H s a cls H' s'∧dC s'.heap a od∧E cls od H'
section
variable {X:Cx}{pins:List (Addr×Obj)}{σ:St}{H H':Hp}{s s':kw}{a:Addr}{cls:Value}{E:Value->kw->Prop}
theorem Fly.here {P:xv}{w:World}{outer:List Env}(Y:Fly P w outer H s a cls H' s'):∃ o,s'.heap.get? a=some o:=by
 obtain⟨B,t,gV,_⟩:=Y.ex;obtain⟨ob,Z,_⟩:=gV.there;exact⟨ob,Z⟩
theorem Fly.on2 {od:Option Addr}(I:Inv X pins σ H s)(O:Own X)(Y:Fly X.prog X.w X.stack H s a cls H' s')(d:dC s'.heap a od) :
  wpAny (model X.prog X.w) X.A (leaving X.env (.ref a)) (λ_ Z=>Fly X.prog X.w X.outer X.H₀ X.s₀ a cls H' Z∧dC Z.heap a od) E s' :=
 AJ ((vV _ _).any (Fly.on I O Y)) (λ_ _ z=>⟨z.1,d.keep z.2 z.1.here⟩) λ_ _ z=>z
theorem Fly.again2 {od:Option Addr}{A:Around}{Q:Unit->kw->Prop}(I:Inv X pins σ H s)(Y:Fly X.prog X.w X.stack H s a cls H' s')(d:dC s'.heap a od)
  (h:∀ h',Fly X.prog X.w X.stack H s a cls H' { s' with heap:=h' }->dC h' a od->Q () { s' with heap:=h' }):wpAny (model X.prog X.w) A (setFlight (.ref a) none) Q E s' :=
 AJ ((kJ _ _).any (Fly.again (Q:=λ_ s2=>∃ h',s2 = { s' with heap:=h' }∧Fly X.prog X.w X.stack H s a cls H' { s' with heap:=h' }) I Y λh' Z=>⟨h',rfl,Z⟩))
  (λ_ _ z=>by obtain⟨⟨h',rfl,Z⟩,k⟩:=z;exact h h' Z (d.keep k Z.here)) λ_ _ z=>z
theorem Fly.look2 {od:Option Addr}{Q:Unit->kw->Prop}(I:Inv X pins σ H s)(O:Own X)(Y:Fly X.prog X.w X.stack H s a cls H' s')(d:dC s'.heap a od)
  (h:∀ h',Fly X.prog X.w X.stack H s a cls H' { s' with heap:=h' }->dC h' a od->Q () { s' with heap:=h' }) :
  wpAny (model X.prog X.w) X.A (noteFrame (.ref a) X.env) (λ_ s2=>wpAny (model X.prog X.w) X.A (setFlight (.ref a) none) Q E s2) E s':=by
 have z:=Fly.look (E:=E) (Q:=λ_ s2=>∃ h',s2 = { s' with heap:=h' }∧Fly X.prog X.w X.stack H s a cls H' { s' with heap:=h' }) I O Y λh' Z=>⟨h',rfl,Z⟩
 refine AJ ((pD _ _).any z) (λ_ s2 z2=>?_) λ_ _ z=>z
 refine AJ ((kJ _ _).any z2.1) (λ_ _ z3=>?_) λ_ _ z=>z
 obtain⟨⟨h',rfl,Z⟩,k⟩:=z3;refine h h' Z ?_
 cases od with
 | none=>trivial
 | some dx =>
  obtain⟨o,e,q⟩:=d;obtain⟨o2,e2,q2⟩:=z2.2 a o (Heap.get?_some_iff.mp e).1;obtain⟨o3,e3,q3⟩:=k a o2 e2;obtain⟨o',e'⟩:=Z.here;have gV:h'.objs[a]?=some o3:=e3;rw[(Heap.get?_some_iff.mp e').1] at gV;cases gV;exact⟨_,e',q3.trans (q2.trans q)⟩
end
def ExD (a:Addr)(cls:Value)(od:Option Addr):HO:=.ext λh=>(∃ o,h.get? a=some o∧o.cls=cls∧∃ vs,o.data = .fields vs)∧dC h a od
theorem Wn {P:xv}{w:World}{H:Hp}{h:Heap}{a:Addr}{cls:Value}{od:Option Addr}(h1:∃ o,h.get? a=some o∧o.cls=cls∧∃ vs,o.data = .fields vs)(h2:dC h a od):cF P w H h a (ExD a cls od):=by
 refine⟨⟨h1,h2⟩,let ⟨o,e,_⟩:=h1;⟨o,e⟩,λh3 h4 ⟨⟨o,e,c⟩,d⟩ k=>⟨⟨o,k o e,c⟩,?_⟩⟩
 cases od with
 | none=>trivial
 | some dx=>obtain⟨o',Z,q⟩:=d;exact⟨o',k o' Z,q⟩
section
variable {X:Cx}{pins:List (Addr×Obj)}{σ:St}{H H':Hp}{s s':kw}{a:Addr}{cls:Value}
theorem Fly.track2 {od:Option Addr}(I:Inv X pins σ H s)(Y:Fly X.prog X.w X.stack H s a cls H' s')(d:dC s'.heap a od):H' a=none∧Inv X pins σ (upd H' a (ExD a cls od)) s':=by
 obtain⟨na,J⟩:=Y.track I;refine⟨na,?_⟩;have hf:∃ o,s'.heap.get? a=some o∧o.cls=cls∧∃ vs,o.data = .fields vs:=by
  obtain⟨B,t,Z,_⟩:=Y.ex;obtain⟨oe,vs,h1,h2,h3,_⟩:=Z.first;exact⟨oe,h1,h2,vs,h3⟩
 have hx:cF X.prog X.w (upd H' a (.ext λh=>∃ o,h.get? a=some o∧o.cls=cls)) s'.heap a (.ext λh=>∃ o,h.get? a=some o∧o.cls=cls):=J.hok a _ aC;have K:=J.write (x:=a) (e:=a) (o:=ExD a cls od) (t':=s'.toks) (h':=s'.heap) (by rw[aC];exact True.intro) (.inl rfl) (λ_ _ _ q=>q) hx.2.1 (Wn hf d);rw[zH] at K;exact K
end
section
variable {P:xv}{w:World}{K:ac}{mg:Str->Option Value}{base:Heap}{N:List Str}{qual:Str}{scope:Scope}{f:Addr}{cdv:Value}{A:Around}{outer:List Env}{s:kw}{H:Hp}{E:XK}
theorem mW:gA (CX2 P w) (mE (CX2 P w) P w K mg base N qual scope f cdv A outer s H E) E:=λpins σ H1 s1 e s' I h=>by
 obtain⟨a,cls,od,H',rfl,Y,d,q⟩:=h;exact thn (Fly.on2 I Qb Y d) λ_ gV Z=>⟨a,cls,od,H',rfl,Z.1,Z.2,q⟩
theorem fG {C:Addr}{pins:List (Addr×Obj)}{σ:St}{H1:Hp}{s1:kw}{h:Heap}{a:Addr}{args:List Value}(I:Inv (mE (CX2 P w) P w K mg base N qual scope f cdv A outer s H E) pins σ H1 s1)(hx:Heap.MadeExcOf s1.heap h a (.ref C) args)(q:E (.ref C) none H1) :
 (mE (CX2 P w) P w K mg base N qual scope f cdv A outer s H E).xe (.ref a) { s1 with heap:=h }:=thn (Fly.raised I Qb hx) λ_ gV Z=>⟨a,.ref C,none,H1,rfl,Z,trivial,q⟩
theorem aS {X:Cx}:gA (CX2 P w) X E0:=λ_ _ _ _ _ _ _ h=>by
 obtain⟨_,_,_,_,_,_,_,q⟩:=h;exact q.elim
theorem Fun.okX2 {x qual:Str}{st:Stmt}{f:Addr}{fd:wh}{N ps:List Str}{k:Nat}{sp:Sp}(F:Fun K x qual st f fd)(S:aO N ps (aF st))(len:∀ vs H Q E,sp vs H Q E->vs.length=ps.length)
  (Z:∀ (cdv:Value) (A:Around) (outer:List Env) (s:kw) (H:Hp) (vs:List V) (Q:VK) (E:XK),eF k (A.deeper (envOfC qual (aF st) s.heap.objs.size f cdv))->sp vs H Q E ->
   ∃ t,PSs (mE (CX2 P w) P w K mg base N qual (aF st) f cdv A outer s H E) (dL st) t∧t { nx:=λ_ H'=>Q .non H',rt:=Q } (oT N vs) H):bI P w K mg base (CX2 P w) (k+1) f fd ps sp:=by
 obtain⟨oc,od,kV,doc,pm,an,cdv,ct,osl,rfl,lk,gV⟩:=F.ex;exact Vl lk gV S len λA outer s H vs Q E hr mp=>Z cdv A outer s H vs Q E hr mp
theorem Fun.okN2 {x qual:Str}{st:Stmt}{f:Addr}{fd:wh}{N ps:List Str}{k:Nat}{sp:Sp}(F:Fun K x qual st f fd)(S:aO N ps (aF st))(len:∀ vs H Q E,sp vs H Q E->vs.length=ps.length)
  (Z:∀ (cdv:Value) (A:Around) (outer:List Env) (s:kw) (H:Hp) (vs:List V) (Q:VK) (E:XK),eF k (A.deeper (envOfC qual (aF st) s.heap.objs.size f cdv))->sp vs H Q E ->
   ∃ t,PSs (mE (CX2 P w) P w K mg base N qual (aF st) f cdv A outer s H E).nox (dL st) t∧t { nx:=λ_ H'=>Q .non H',rt:=Q } (oT N vs) H):bI P w K mg base (CX2 P w) (k+1) f fd ps sp:=by
 obtain⟨oc,od,kV,doc,pm,an,cdv,ct,osl,rfl,lk,gV⟩:=F.ex;refine Vl lk gV S len λA outer s H vs Q E hr mp=>?_
 obtain⟨t,h,q⟩:=Z cdv A outer s H vs Q E hr mp;exact⟨t,h.nox,q⟩
end
def XP2 (X:Cx)(pins:List (Addr×Obj))(R:St->Value->Option Addr->Hp->Prop)(e:Value)(s':kw):Prop :=
 ∃ a cls od σ' H s1 H',e = .ref a∧Inv X pins σ' H s1∧Fly X.prog X.w X.stack H s1 a cls H' s'∧dC s'.heap a od∧R σ' cls od H'
abbrev Fu:=jJ->(St->Value->Option Addr->Hp->Prop)->St->Hp->Prop
def Pt (X:Cx)(st:List Stmt)(t:Fu):Prop :=
 ∀ (pins:List (Addr×Obj)) (s:kw) (σ:St) (H:Hp) (D:jJ) (R:St->Value->Option Addr->Hp->Prop),Inv X pins σ H s->t D R σ H->wpAny (model X.prog X.w) X.A (execs st X.env) (SP X pins D) (XP2 X pins R) s
abbrev TH2:=jJ->St->Value->Option Addr->Hp->Prop
def PH2 (X:Cx)(Z:List ExceptHandler)(t:TH2):Prop :=
 ∀ (pins:List (Addr×Obj)) (σ:St) (H:Hp) (s:kw) (a:Addr) (cls:Value) (od:Option Addr) (H':Hp) (s':kw) (D:jJ),Inv X pins σ H s->Fly X.prog X.w X.stack H s a cls H' s'->dC s'.heap a od->t D σ cls od H' ->
  wpAny (model X.prog X.w) X.A (handleBy (.ref a) X.env Z) (SP X pins D) X.xe s'
section
variable {X:Cx}
def Ts:TH2:=λ_ _ _ _ _=>False
theorem Iq:PH2 X [] Ts:=λ_ _ _ _ _ _ _ _ _ _ _ _ _ h=>False.elim h
def aAG (K:ac)(c:Value)(i:Nat)(ts:TS)(tr:TH2):TH2:=λD σ cls od H' =>
 (jd K cls c=some true∧∀ a,H' a=none->ts { nx:=λσ2 H2=>D.nx (σ2.set i none) H2,rt:=D.rt } (σ.set i (some (.ref a))) (upd H' a (ExD a cls od)))∨(jd K cls c=some false∧tr D σ cls od H')
theorem Na {x n:Str}{c:Value}{np pos:Pos}{b₀:Stmt}{gV:List Stmt}{rest:List ExceptHandler}{ts:TS}{tr:TH2}{i:Nat}(hm:X.mg x=some c)(hN:X.N.Nodup)(hi:X.N[i]?=some n)(Z:X.env.scope.names.lookup n=some .local)
  (wx:∀ a,PSs (tY X a) (b₀::gV) ts) (hr:PH2 X rest tr) (hg:Gl X x:=by rfl) (hd:(x==("__debug__" : Str))=false:=by decide) :
  PH2 X (.ExceptHandler (some (.Name x np)) (some n) (b₀::gV) pos::rest) (aAG X.K c i ts tr):=by
 intro pins σ H s a cls od H' s' D I Y d h;have I1:=Y.inv I;have or:(X.env.scope.kind == .class||(X.env.scope.kind == .module&&X.env.locals != X.env.globals))=false:=by rw[I.ok.kind];rfl
 refine wpAny_handleBy_cons (codeAny_handlers_test (iL (X:=tY X a) (I1.mark a) hg hm ?_ hd)) (by intro q;cases q);rcases h with ⟨e,h⟩ | ⟨e,h⟩
 ·refine (vj I1.kIn Y.looks e).here ?_
  refine codeAny_handlers_suite_as (Y.again2 I d λh6 Y6 d6=>?_);obtain⟨na,I7⟩:=Y6.track2 I d6;refine lC (X:=tY X a) (i:=i) (v:=.ref a) (I7.mark a) hN hi (.inl Z) rfl (λs8 I8=>?_) (.inr Z);have mp:∀ (σ2:St) (H2:Hp) (s2:kw) (Q:kw->Prop),Inv X pins σ2 H2 s2->(∀ s3,Inv X pins (σ2.set i none) H2 s3->Q s3) ->
    wpAny (model X.prog X.w) X.A (do bindName X.env n .none;unbindBehindTheSuite X.env n pos) (λ_ s3=>Q s3) X.xe s2:=λσ2 H2 s2 Q I2 hQ=>by
   refine AA (wpAny_bindName (lC (v:=.non) I2 hN hi (.inl Z) rfl (λs3 I3=>?_) (.inr Z)));have hi2:i<(σ2.set i (some V.non)).length:=by rw[I3.len];exact (ao.mp hi).1
   obtain⟨m,hn,hl⟩:=id I3.loc;obtain⟨u,r,l⟩:=hl i n .non hi (by rw[j3 (by rw[j9] at hi2;exact hi2)]) (.inl Z);have hv:m n=some u:=by
    rcases l with ⟨_,z⟩ | ⟨k,_⟩
    ·exact z
    ·have k':X.env.scope.names.lookup n=some .cell∨X.env.scope.names.lookup n=some .free:=k
     rw[Z] at k';rcases k' with z | z <;> cases z
   unfold unbindBehindTheSuite;refine wpAny_onRaise (wpAny_unbindName_local Z hn hv or λh' u' ww wp=>?_);refine hQ { s3 with heap:=h' } ?_;have J:=I3.turnFrame (σ':=σ2.set i none) ww wp (by rw[j9,j9]) (λj y v e1 e2=>?_)
   ·exact J
   ·by_cases hj:j=i
    ·subst hj
     rw[j3 (by rw[j9] at hi2;exact hi2)] at e2;cases e2
    ·rw[kr (Ne.symm hj)] at e2
     refine⟨by rw[kr (Ne.symm hj)];exact e2,λm2 wz=>?_⟩
     have:y≠n:=λz=>hj (uU hN e1 (z▸hi))
     show (if y=n then u' else m y)=m2 y;rw[AC this];exact Zk hn wz y
  have hq:=h a na;refine AJ (wx a pins s8 _ _ _ I8 hq) (λf s9 z=>?_) λ_ _ z=>False.elim z
  cases f with
  | next =>
   obtain⟨σ9,H9,I9,q9⟩:=z;exact mp σ9 H9 s9 _ (I9.unmark I.ok) λs3 I3=>⟨_,H9,I3,q9⟩
  | ret u =>
   obtain⟨v,σ9,H9,I9,r9,q9⟩:=z;exact mp σ9 H9 s9 _ (I9.unmark I.ok) λs3 I3=>⟨v,_,H9,I3,r9,q9⟩
  | brk =>
   obtain⟨_,_,_,q9⟩:=z;exact False.elim q9
  | cont =>
   obtain⟨_,_,_,q9⟩:=z;exact False.elim q9
 ·refine (vj I1.kIn Y.looks e).here ?_
  exact hr pins σ H s a cls od H' s' D I Y d h
def aAB (tb:Fu)(th:TH2):TS:=λD σ H=>tb D (λσ' cls od H'=>th D σ' cls od H') σ H
theorem Iz {Z:List Stmt}{h₀:ExceptHandler}{hs:List ExceptHandler}{pos:Pos}{tb:Fu}{th:TH2}(O:Own X)(hb:Pt X Z tb)(hh:PH2 X (h₀::hs) th):PS X (.Try Z (h₀::hs) [] [] pos) (aAB tb th):=by
 intro pins s σ H D I q;refine wpAny_Try_except (AJ (hb pins s σ H D _ I q) (λf s1 z=>?_) λe s1 z=>?_)
 ·cases f with
  | next=>exact A0 z
  | ret v=>exact z
  | brk=>exact z
  | cont=>exact z
 ·obtain⟨a,cls,od,σ',H1,s2,H',rfl,I2,Y,d,q2⟩:=z
  exact Y.look2 I2 O d λh' Y' d'=>hh pins σ' H1 s2 a cls od H' _ D I2 Y' d' q2
end
def hZ (h:Heap)(Cl:Addr)(us:List Value):Heap :=
 (h.push { cls:=.type "tuple",data:=.seq us.toArray }).push { cls:=.ref Cl,data:=.fields #[.ref h.objs.size,.none,.none,.none,.bool false,.none] }
theorem gO {h:Heap}{Cl:Addr}{us:List Value}{b:Addr}{o:Obj}(e:h.get? b=some o):(hZ h Cl us).get? b=some o:=AT _ (AT _ e)
theorem xS (h:Heap)(Cl:Addr)(us:List Value):(hZ h Cl us).get? (h.objs.size+1)=some { cls:=.ref Cl,data:=.fields #[.ref h.objs.size,.none,.none,.none,.bool false,.none] }:=by
 unfold hZ
 heap_get
section
variable {prog:xv}{w:World}{A:Around}{E:Value->kw->Prop}{h:Heap}{g:Array GenState}{d:Drawn}{t:Nat}{os:OsState}
variable {nm q:Str}{Cl Ns:Addr}{bs tl:List Value}{hdct:Bool}{sn:List Str}{sub:List Value}{ab:Bool}{col:Option Bool}{dd:Option Addr}{k0 k1 k2 k3 k5:Option Value}
theorem Pw {mN:Str->Option Value}{us:List Value}{fI:Addr}{oI:Obj}{Q:Fin->kw->Prop}(T:OwnTail h sP tl)
  (Z:h.get? Cl=some (excClassObj nm q Cl Ns bs tl hdct sn sub ab col dd k0 k1 k2 k3 k5 "ValueError.__new__")) (n0:h.Ns Ns mN) (i0:mN "__init__" = some (.ref fI))
  (f0:h.get? fI=some oI) (f1:oI.cls = .type "function") (hl:us.length<=sizeLine)
  (hq:wpAny (model prog w) A (call (.ref fI) (.ref (h.objs.size+1)::us)) (λr s'=>r = .none∧Q (.done (.ret (.ref (h.objs.size+1)))) s') E ⟨hZ h Cl us,g,d,t,os⟩) :
  wpAny (model prog w) A (Builtin.«type.__call__» ⟨.ref Cl::us,[]⟩) Q E ⟨h,g,d,t,os⟩:=by
 have F:=k6
 repeat (first | with_reducible refine wpAny_loadPart_at Z ?_ | with_reducible refine wpAny_madeBy_exc Z ?_ | wp_step)
 refine codeAny_call_builtin_code (Code.quiet_builtin _ F.quiet) (wpAny_check_new_subT F T Z ?_);refine codeAny_exc_new_subT F T Z ?_ hl;show wpAny (model prog w) A _ _ _ ⟨hZ h Cl us,g,d,t,os⟩;have c1:(hZ h Cl us).get? Cl=some _:=gO Z;have f2:(hZ h Cl us).get? fI=some oI:=gO f0;have n1:(hZ h Cl us).Ns Ns mN:=n0.keeps λ_ _=>gO
 have T1:=T.keeps (h':=hZ h Cl us) λ_ _=>gO
 have e1:=xS h Cl us;have m1:(Value.ref Cl::tl).contains (.ref Cl)=true:=by simp
 unfold isInstance
 repeat (first | with_reducible refine wpAny_loadPart_at e1 ?_ | (with_reducible refine wpAny_isSubtype_exc c1 ?_;rw[m1]) | wp_step)
 show wpAny _ _ (typeLookup (.ref Cl) _) _ _ _;refine wpAny_typeLookup_tail c1 n1 T1 F.mroIs F.init.lookup ?_;rw[i0];refine AM (AA ?_);unfold bindSpecial;refine AA (wpAny_typeOf (T := "function") ⟨_,f2,f1⟩ ?_)
 rw[AD (by decide)];refine AB (AA (AJ hq (λr s' hr=>?_) λ_ _ x=>x));obtain⟨rfl,z⟩:=hr
 wp_walk
 exact z
theorem Nd {mN:Str->Option Value}{us:List Value}{fI:Addr}{oI:Obj}{Q:Value->kw->Prop}(T:OwnTail h sP tl)
  (Z:h.get? Cl=some (excClassObj nm q Cl Ns bs tl hdct sn sub ab col dd k0 k1 k2 k3 k5 "ValueError.__new__")) (n0:h.Ns Ns mN) (i0:mN "__init__" = some (.ref fI))
  (f0:h.get? fI=some oI) (f1:oI.cls = .type "function") (hl:us.length<=sizeLine)
  (hq:wpAny (model prog w) (A.under (.builtin "type.__call__" ⟨.ref Cl::us,[]⟩)) (call (.ref fI) (.ref (h.objs.size+1)::us)) (λr s'=>r = .none∧Q (.ref (h.objs.size+1)) s') E ⟨hZ h Cl us,g,d,t,os⟩) :
  wpAny (model prog w) A (call (.ref Cl) us) Q E ⟨h,g,d,t,os⟩:=by
 have l1:=tc_lookup;have l2:=tc_bind (.ref Cl);have l3:(⟨h,g,d,t,os⟩:kw).TypeIs (.ref Cl) "type" := ⟨_,Z,rfl⟩
 refine AZ (codeAny_of_tree ?_);show wpAny _ _ (callAny (.ref Cl) _) _ _ _
 repeat (any_goals (first | assumption | with_reducible refine wpAny_loadPart_at Z ?_ | wp_step))
 refine⟨rfl,?_⟩;refine codeAny_call_builtin_at (Code.quiet_builtin _ (by decide +kernel)) entry_typeCall (wpAny_check_type_call_sub Z (Pw T Z n0 i0 f0 f1 hl ?_));exact hq
end
section
variable {M:Model}{A:Around}{E:Value->kw->Prop}{s:kw}{env:Env}
variable {nm q:Str}{Cl Ns:Addr}{bs tl:List Value}{hdct:Bool}{sn:List Str}{sub:List Value}{ab:Bool}{col:Option Bool}{dd:Option Addr}{k0 k1 k2 k3 k5:Option Value}{ni:String}
theorem Kh {x:Sem Value}{Q:Flow->kw->Prop}(hb:tl.contains (.type "BaseException")=true)(hh:A.handled=none)
  (h:wpAny M A x (λv s₁=>∃ e Z vs,v = .ref e∧s₁.heap.get? Cl=some (excClassObj nm q Cl Ns bs tl hdct sn sub ab col dd k0 k1 k2 k3 k5 ni)∧s₁.heap.get? e=some Z∧Z.cls = .ref Cl∧Z.data = .fields vs∧vs[1]?=some .none∧E (.ref e) s₁) E s) :
  wpAny M A (raiseStmt env (some x) none) Q E s:=by
 have m1:(Value.ref Cl::tl).contains (.type "BaseException")=true:=by rw[ug,hb,qh]
 unfold raiseStmt;refine AA (AJ h (λv s₁ z=>?_) λ_ _ x=>x);obtain⟨e,Z,vs,rfl,c1,e1,ec,en,ev,hE⟩:=z;obtain⟨hp,g,d,tk,os⟩:=s₁;obtain⟨oc,mp,gV,osl⟩:=Z
 dsimp only at ec en
 subst ec en
 repeat (first | with_reducible refine wpAny_loadPart_at e1 ?_ | with_reducible refine wpAny_loadPart_at c1 ?_ | (with_reducible refine wpAny_isSubtype_exc c1 ?_;rw[m1]) | wp_step)
 rw[ev];refine AB ?_;rw[AC (by decide)];exact AB (wpAny_raiseNew_none hh hE)
end
def Fe (K:ac)(C f:Addr):Bool:=match K.lookup C with
 | some ⟨.type "type",_,.cls cd,sl⟩=>(match cd.mro,sl.toList with
  | .ref C2::tl,[_,_,_,_,some (.builtin n),_]=>C2==C&&n == "ValueError.__new__" && cd.hasDict && !cd.hasDel&&PySem.W.tailIn K sP tl&&vt K cd.ns&&bo K cd.ns "__init__" == some (some (.ref f))
  | _,_=>false)
 | _=>false
structure Dg (K:ac)(C f:Addr):Prop where
 is:Fe K C f=true
 fn:lw K (.ref f)=true
 sa:bx K (.ref C) "__setattr__" = some (some (.builtin "object.__setattr__"))
structure Vm (h:Heap)(C f:Addr):Prop where
 ex:∃ (nm q:Str) (Ns:Addr) (bs tl:List Value) (sn:List Str) (sub:List Value) (ab:Bool) (col:Option Bool) (dd:Option Addr) (k0 k1 k2 k3 k5:Option Value) (mN:Str->Option Value) (oI:Obj),
  h.get? C=some (excClassObj nm q C Ns bs tl true sn sub ab col dd k0 k1 k2 k3 k5 "ValueError.__new__")∧h.Ns Ns mN∧mN "__init__" = some (.ref f)∧OwnTail h sP tl∧h.get? f=some oI∧oI.cls = .type "function"
theorem Hd {K:ac}{h:Heap}{N:Addr}{x:Str}{v:Value}(X:K.In h)(q:bo K N x=some (some v))(e:vt K N=true):h.nsMap N x=some v:=by
 have hn:h.Ns N (h.nsMap N):=.of_isNs (om X e);obtain⟨o,es,ep,ho,hd,_,hm⟩:=hn;unfold bo at q;split at q
 ·rename_i c d es2 ep2 sl hk
  have Z:=X _ _ hk;rw[ho] at Z;cases Z;cases hd;rw[<- hm x];unfold nsFind findBy;rw[<- tj];split at q
  ·rename_i en he
   rw[he];exact av q
  ·split at q <;> cases q
 ·cases q
theorem Dg.cls {K:ac}{C f:Addr}{h:Heap}(c:Dg K C f)(X:K.In h):Vm h C f:=by
 have hf:∃ oI,h.get? f=some oI∧oI.cls = .type "function" := by
  have z:rn K (.ref f)=some (.type "function"):=AK.mp c.fn
  unfold rn at z;obtain⟨o,ho,hc⟩:=bz.mp z;exact⟨o,X _ _ ho,hc⟩
 obtain⟨oI,f0,f1⟩:=hf;have q:=c.is;unfold Fe at q;split at q
 ·rename_i dd cd sl ho
  split at q
  ·rename_i C2 tl k0 k1 k2 k3 n k5 hm hs
   simp only [AK,o9,cz] at q;obtain⟨⟨⟨⟨⟨⟨g1,g2⟩,gd⟩,g3⟩,g4⟩,g5⟩,g6⟩:=q;subst g1 g2;obtain⟨nm,bs,mro,ns,qn,hd,sn,sub,ab,col,del⟩:=cd;have Z:sl = #[k0,k1,k2,k3,some (.builtin "ValueError.__new__"),k5]:=by
    cases sl with
    | mk l =>
     have mp:l=_:=hs;rw[mp]
   have wp:mro=_:=hm;have or:del=false:=g3;have gV:hd=true:=gd;subst Z wp or gV;exact⟨nm,qn,ns,bs,tl,sn,sub,ab,col,dd,k0,k1,k2,k3,k5,h.nsMap ns,oI,X _ _ ho,.of_isNs (om X g5),Hd X g6 g5,t8 X g4,f0,f1⟩
  ·cases q
 ·cases q
def ExB (a C:Addr)(od:Option Addr):HO:=.ext λh=>∃ x0:Addr,h.get? a=some { cls:=.ref C,dict:=od,data:=.fields #[.ref x0,.none,.none,.none,.bool false,.none] }
theorem Hh {P:xv}{w:World}{H:Hp}{h:Heap}{a C:Addr}{od:Option Addr}{x0:Addr}(e:h.get? a=some { cls:=.ref C,dict:=od,data:=.fields #[.ref x0,.none,.none,.none,.bool false,.none] }):cF P w H h a (ExB a C od) :=
 ⟨⟨x0,e⟩,⟨_,e⟩,λ_ _ ⟨x,q⟩ k=>⟨x,k _ q⟩⟩
theorem Bw {h:Heap}{tl:List Value}(self:Value)(T:OwnTail h sP tl):refuseLoop self "__setattr__" tl=pure ():=by
 induction T with
 | base=>exact PySem.F.store_ValueError.passes self
 | own _ _ _ _ ih=>rw[refuseLoop_ref];exact ih
structure Vp (K:ac)(mg:Str->Option Value)(x:Str)(O:Addr):Prop where
 mg:mg x=some (.ref O)
 ga:ko K (.ref O) "__getattribute__" = some (some (.builtin "type.__getattribute__"))
 rd:vk K O (.type "type")=true
 fc:vn K (.ref O) (.type "type") "__init__" = some (.val (.builtin "ValueError.__init__"))
section
variable {X:Cx}
theorem Nu {A:Around}{prog:xv}{w:World}{E:Value->kw->Prop}{C f a:Addr}{x0:Addr}{u:Value}{s:kw}{Q:Value->kw->Prop}(T:Vm s.heap C f)
  (Z:s.heap.get? a=some { cls:=.ref C,data:=.fields #[.ref x0,.none,.none,.none,.bool false,.none] })
  (hq:∀ h' x1,h'.get? a=some { cls:=.ref C,data:=.fields #[.ref x1,.none,.none,.none,.bool false,.none] }->(∀ b o,b≠a->s.heap.get? b=some o->h'.get? b=some o)->Q .none { s with heap:=h' }) :
  wpAny (model prog w) A (call (.builtin "ValueError.__init__") [.ref a,u]) Q E s:=by
 have F:=k6;obtain⟨nm,q,Ns,bs,tl,sn,sub,ab,col,dd,k0,k1,k2,k3,k5,mN,oI,c0,n0,i0,T0,f0,f1⟩:=T.ex;obtain⟨h,g,d,t,os⟩:=s;refine AZ (AR F.init.plain F.initEntry (wpAny_check_init_subT F T0 c0 Z rfl ?_))
 wp_walk
 have gV:h.objs.size≠a:=gn (AV Z);refine hq _ h.objs.size ?_ λb o hb e=>?_
 ·rw[AW _ (AT _ Z) rfl]
  rfl
 ·rw[AX _ _ (Ne.symm hb)]
  exact AT _ e
def Xf (C:Addr)(t:TA):TE:=λσ H Q=>t σ H λvs H1=>∃ a v,vs=[.ref a,v]∧H1 a=some (ExB a C none)∧Q .non (upd H1 a (ExB a C none))
theorem Oe {pl:Sem Bool}{x:Str}{O C f:Addr}{e:Expr}{es:List Expr}{t:TA}{p1 p2 p3:Pos}(b:Vp X.K X.mg x O)(c:Dg X.K C f)(ha:PA X (e::es) t)(hg:Gl X x:=by rfl)(hd:(x==("__debug__" : Str))=false:=by decide)
  (gV:starEach (e::es) X.env=(false,eval e X.env)::starEach es X.env:=by rfl) (mp:(backTo p3 (starEach es X.env)).any (·.1)=false:=by rfl)
  (ht:eval (.Call (.Attribute (.Name x p1) "__init__" p2) (e::es) [] p3) X.env=(do
   let ov <- eval (.Name x p1) X.env
   standAt p2.atName
   let (f,first) <- holding [ov] (getMethod ov "__init__" pl)
   callWith p3 f first (backTo p3 (starEach (e::es) X.env)) (backToKw p3 (keywordEach [] X.env))):=by rfl) :
  PE X (.Call (.Attribute (.Name x p1) "__init__" p2) (e::es) [] p3) (Xf C t):=by
 intro pins s σ H Q I h;refine je (pl:=pl) (iL I hg b.mg ?_ hd) ht;refine PySem.W.method_cls I.kIn b.ga (PySem.W.cls_value I.kIn b.rd b.fc rfl ?_);have I1:=I.tok (s.toks+1);have hA:=ha p3 pins _ σ H _ I1 h;rw[gV] at hA ⊢;refine Calls.callWith_builtin (by show (false||(backTo p3 (starEach es X.env)).any (·.1))=false;rw[mp];rfl) (Calls.evalArgs_plain ?_);refine thn hA λus s2 ⟨vs,H2,I2,r2,a,v,hv,hx,q2⟩=>?_
 subst hv;obtain⟨⟨x0,e0⟩,_,_⟩:=I2.hok a _ hx;obtain⟨u1,Z,rfl,or,r3⟩:∃ u1 Z,us=u1::Z∧bE (.ref a) u1∧aZ [v] Z:=by
  cases r2 with
  | cons h1 h2=>exact⟨_,_,rfl,h1,h2⟩
 obtain⟨u2,rfl⟩:∃ u2,Z=[u2]:=by
  cases r3 with
  | cons h1 h2=>cases h2;exact⟨_,rfl⟩
 obtain rfl:u1=Value.ref a:=or;refine Nu (c.cls I2.kIn) e0 λh' x1 e1 k=>?_
 exact⟨.non,_,I2.write (x:=a) (e:=a) (o:=ExB a C none) (t':=s2.toks) (by rw[hx];exact True.intro) (.inl rfl) k ⟨_,e1⟩ (Hh e1),rfl,q2⟩
end
open PySem.Builtin PySem.Builtin.ObjectAttr
section
variable {prog:xv}{w:World}{A:Around}{E:Value->kw->Prop}{K:ac}{C f a x0:Addr}{F:Str}{v:Value}{s:kw}
theorem Mj {Q:Unit->kw->Prop}(X:K.In s.heap)(c:Dg K C f)(n:fF K C F)
  (e0:s.heap.get? a=some { cls:=.ref C,data:=.fields #[.ref x0,.none,.none,.none,.bool false,.none] })
  (hq:∀ h' or,h'.get? a=some { cls:=.ref C,dict:=some s.heap.objs.size,data:=.fields #[.ref x0,.none,.none,.none,.bool false,.none] }->h'.Ns1 s.heap.objs.size (λy=>if y=F then some v else none) ->
   (∀ b o,b≠a->s.heap.get? b=some o->h'.get? b=some o)->Q () { s with heap:=h',toks:=or }) :
  wpAny (model prog w) A (setAttr (.ref a) F v) Q E s:=by
 obtain⟨nm,q,Ns,bs,tl,sn,sub,ab,col,dd,k0,k1,k2,k3,k5,mN,oI,c0,n0,i0,T0,f0,f1⟩:=(c.cls X).ex;have J:rl s.heap a { cls:=.ref C,data:=.fields #[.ref x0,.none,.none,.none,.bool false,.none] } C none:=⟨e0,rfl,rfl,trivial⟩;have SF:=PySem.F.store_object;have m1:(Value.ref C::tl).contains (.type "object")=true:=by rw[ug,T0.hasType (X := "object") (b:=true) (by decide +kernel),qh]
 refine uk X J c.sa ?_;have sb:sy (model prog w) s.heap (isInstance (.ref a) (.type "object")) true:=J.type.andThen λA' Q' E' s' k z=>by
  obtain⟨h1,g1,d1,t1,o1⟩:=s';exact wpAny_isSubtype_exc (k _ _ c0) (by rw[m1];exact z)
 have mo:sy (model prog w) s.heap (mroOf (.ref C)) (.ref C::tl):=λA' Q' E' s' k z=>by
  obtain⟨h1,g1,d1,t1,o1⟩:=s';exact wpAny_mroOf_exc (k _ _ c0) z
 refine AR SF.slot.plain SF.entry (@PySem.W.check_slot (model prog w) _ _ { s with toks:=s.toks+1 } "object.__setattr__" "object" "__setattr__" (.ref a) [.str F s.toks,v] [] _ SF.kind SF.split sb (SF.args (.ref a) (.str F s.toks) v) ?_)
 rw[PySem.W.osa_eq,refuse_eq];refine AA (AA (J.type.here (s:={ s with toks:=s.toks+1 }) (AA (mo.here (s:={ s with toks:=s.toks+1 }) ?_))));rw[refuseLoop_ref,Bw _ T0];refine AB (AA (J.type.here (s:={ s with toks:=s.toks+1 }) (AA ((rq (M:=model prog w) X n).here (s:={ s with toks:=s.toks+1 }) (AA (AB ?_))))));show wpAny (model prog w) A.in1 (storeInOwnDict (.ref a) (.ref C) (.str F s.toks) F v false) _ _ _;obtain⟨h,g,d,t,os⟩:=s;have hc:h.get? C=some (excClassObj nm q C Ns bs tl true sn sub ab col dd k0 k1 k2 k3 k5 "ValueError.__new__"):=c0
 have he:h.get? a=some { cls:=.ref C,data:=.fields #[.ref x0,.none,.none,.none,.bool false,.none] }:=e0;have ha:a≠h.objs.size:=az (AV he);have mp:(h.push { cls:=.type "dict",data:=.dict #[] }).get? a=some { cls:=.ref C,data:=.fields #[.ref x0,.none,.none,.none,.bool false,.none] }:=AT _ he
 unfold storeInOwnDict;refine AA (AB ?_);show wpAny (model prog w) A.in1 (instanceDict a true >>= _) _ _ _;unfold instanceDict;refine AA (AA (wpAny_loadPart_at he ?_));refine AA ?_;unfold classData;refine AA (wpAny_load hc (AB ?_));refine AA (wpAny_alloc' ?_);refine AA (wpAny_update' mp ?_);refine AB ?_;have g0:((h.push { cls:=.type "dict",data:=.dict #[] }).update a λo=>{ cls:=o.cls,dict:=some h.objs.size,data:=o.data,slots:=o.slots }).get? h.objs.size=some { cls:=.type "dict",data:=.dict #[] } :=
  (Heap.get?_update_ne _ _ _ _ ha.symm).trans (Heap.get?_push_at rfl rfl)
 have g1:((h.push { cls:=.type "dict",data:=.dict #[] }).update a λo=>{ cls:=o.cls,dict:=some h.objs.size,data:=o.data,slots:=o.slots }).Ns h.objs.size (λ_=>none):=⟨_,#[],_,g0,rfl,λe z=>absurd z (by simp),λ_=>rfl⟩
 show wpAny (model prog w) A.in1 (storeInDict h.objs.size (.str F t) F v) _ _ _;unfold storeInDict newKeyGuard;refine AA (AB (AA (wpAny_nsSet1 (Heap.Ns1.of_empty g1) λh' gV Z=>?_)));obtain⟨oD,ww,wp,o1,o2,o3⟩:=gV.count (Within.cons F v Within.nil);refine AA (wpAny_lookBehind o1 (by rw[o2];exact pastItsLine_dict (a5 o3 (by rw[ar,lm,AG];omega))) ?_)
 wp_walk
 refine hq h' _ ?_ gV λb o hb e=>?_
 ·refine (Z.2 a ha).trans (AW _ mp rfl)
 ·exact (Z.2 b (az (AV e))).trans ((Heap.get?_update_ne _ _ _ _ hb).trans (AT _ e))
end
section
variable {X:Cx}
def Ww (C:Addr)(F:Str)(ta tv:TE):TS:=λD σ H=>tv σ H λy H1=>ta σ H1 λx H2=>∃ a,x = .ref a∧H2 a=some (ExB a C none)∧∀ dx,H2 dx=none->D.nx σ (upd (upd H2 dx (.xd [(F,y)])) a (ExB a C (some dx)))
theorem Nq {C f:Addr}{F:Str}{o value:Expr}{ta tv:TE}{pos pos':Pos}(c:Dg X.K C f)(n:fF X.K C F)(ha:PE X o ta)(hv:PE X value tv)(hs:swapsWith value (some (.Attribute o F pos')) pos.line X.env=pure false:=by rfl):PS X (.Assign [.Attribute o F pos'] value pos) (Ww C F ta tv):=by
 intro pins s σ H D I h;refine plainObj_wpAny_Assign_Attribute (thn (hv pins s σ H _ I h) λu s1 ⟨y,H1,I1,ry,q⟩=>thn (ha pins s1 σ H1 _ I1 q) λov s2 ⟨x,H2,I2,rx,a,ex,ea,q2⟩=>?_) hs;subst ex;obtain rfl:ov=Value.ref a:=rx;obtain⟨⟨x0,e0⟩,_,_⟩:=I2.hok a _ ea;refine Mj I2.kIn c n e0 λh' mp e1 hn k=>?_
 have or:H2 s2.heap.objs.size=none:=I2.hok.fresh (af _);obtain⟨oD,es,ep,gV,r⟩:=id hn;have ne:a≠s2.heap.objs.size:=az (AV e0);have Z:oD.isFreed=false:=(Heap.get?_some_iff.mp gV).2;have hp:(s2.heap.push oD).get? s2.heap.objs.size=some oD:=AU s2.heap Z;have J:=I2.laid (a:=s2.heap.objs.size) (o:=.xd [(F,y)]) (h':=s2.heap.push oD) (t':=mp) (λb u z=>AT _ z) (af _) ⟨_,⟨oD,es,ep,hp,r⟩,λg=>?_⟩
 ·have J2:=J.write (x:=a) (e:=a) (o:=ExB a C (some s2.heap.objs.size)) (t':=mp) (h':=h') (by rw[aG ne,ea];exact True.intro) (.inl rfl) (λb o hb z=>?_) ⟨_,e1⟩ (Hh e1)
  ·exact⟨σ,_,J2,q2 _ or⟩
  ·by_cases hbs:b=s2.heap.objs.size
   ·subst hbs
    rw[hp] at z;cases z;exact gV
   ·refine k b o hb ?_
    rw[<- z];exact (Heap.get?_push_ne _ _ _ hbs).symm
 ·show iE (gu g [(F,y)]) (if g=F then some u else none)
  by_cases hg:g=F
  ·have hb:(g==F)=true:=AK.mpr hg
   simp only [gu,hb,AD hg];exact ry
  ·have hb:(g==F)=false:=beq_eq_false_iff_ne.mpr hg
   simp only [gu,hb,AC hg]
   trivial
end
end L2
namespace L2
open PySem PySem.Spec PyProof.Rows
section
variable {X:Cx}{pins:List (Addr×Obj)}{σ:St}{H:Hp}{s:kw}{a C x0:Addr}{E:Value->kw->Prop}{od:Option Addr}
theorem Fly.raisedI (I:Inv X pins σ H s)(O:Own X)(na:H a=none)(wz:X.s₀.heap.objs.size<=a)
  (e0:s.heap.get? a=some { cls:=.ref C,dict:=od,data:=.fields #[.ref x0,.none,.none,.none,.bool false,.none] }) :
  wpAny (model X.prog X.w) X.A (leaving X.env (.ref a)) (λ_ mp=>Fly X.prog X.w X.outer X.H₀ X.s₀ a (.ref C) H mp∧dC mp.heap a od) E s:=by
 have d0:dC s.heap a od:=by
  cases od with
  | none=>trivial
  | some dx=>exact⟨_,e0,rfl⟩
 suffices hw:wpAny (model X.prog X.w) X.A (leaving X.env (.ref a)) (λ_ mp=>Fly X.prog X.w X.outer X.H₀ X.s₀ a (.ref C) H mp) E s from
  AJ ((vV _ _).any hw) (λ_ _ z=>⟨z.1,d0.keep z.2 z.1.here⟩) λ_ _ z=>z
 have wx:=I.stack;have ww:∀ env∈X.stack,∀ b,env.frame=some b->b∈a::L2.frs X.stack:=λenv he b hb=>al _ (ln.mpr ⟨env,he,hb⟩)
 have hl:=qk wx ww;have wp:=I.ok.frames;rw[O.stk] at hl wp;have Z:∀ b,b∉X.ex:=λb z=>by
  rw[O.ex] at z;cases z
 have w4:∀ b o,X.s₀.heap.get? b=some o->b≠a:=λb o e=>az (bi (AV e) wz)
 have or:HOk X.prog X.w H (qp s.heap (a::L2.frs X.stack)):=λb u e =>
  (I.hok b u e).stay (λc v hc q=>gs _ q λhm=>by
   rcases au.mp hm with rfl | hm
   ·rcases hc with z | z
    ·rw[z,e] at na
     cases na
    ·rw[z] at na
     cases na
   ·have n:=I.stkFree c hm
    rcases hc with z | z
    ·rw[z,e] at n
     cases n
    ·rw[z] at n
     cases n) (λ_ q=>q) λ_ _ q=>q
 rw[O.stk] at or;have gV:∀ b o,X.s₀.heap.get? b=some o->b∉L2.frs X.outer->b∉a::L2.frs (X.env::X.outer):=λb o e nb z=>by
  rcases au.mp z with z | z
  ·exact w4 b o e z
  ·rw[<- O.stk] at z
   rcases O.frs.mp z with q | q
   ·exact I.oldNe e q
   ·exact nb q
 refine PySem.wpAny_leaving_firstW (a0:=.ref x0) wp hl O.fr e0 (λb o q=>nz _ q) (my _ (aq ..)) rfl rfl rfl λh' hL=>?_
 obtain⟨k1,⟨_,_,k2⟩,k3,k4⟩:=hL;refine⟨I.os,I.bare,⟨_,x0,⟨k1,my _ (aq ..),k2,k3⟩,or,λb o e n nb=>?_,λb o e nb=>?_⟩,λb o e n hb=>?_,λb o e n=>I.base.free b o e n (Z b),I.base.tups,I.base.frzs,I.base.tbls⟩
 ·exact gs _ (I.base.keep b o e n nb (Z b)) (gV b o e nb)
 ·obtain⟨o',e'⟩:=I.base.there b o e (Z b)
  exact⟨o',gs _ e' (gV b o e nb)⟩
 ·obtain⟨sl,e1⟩:=I.base.slot b o e n hb (Z b)
  obtain⟨_,o2,e2,hd⟩:=I.funs.mem hb;rw[e1] at e2;cases e2;obtain⟨w6,e3⟩:=k4 b _ e1 hd;exact⟨w6,e3⟩
def drp (H:Hp)(a:Addr):Hp:=λb=>if b=a then none else H b
theorem Inv.drp (I:Inv X pins σ H s)(gV:X.s₀.heap.objs.size<=a)(Z:H a=some (ExB a C od)):Inv X pins σ (L2.drp H a) s:=by
 have mp:∀ b o,X.s₀.heap.get? b=some o->b≠a:=λb o e=>az (bi (AV e) gV)
 have ne:∀ {b},b≠a->L2.drp H a b=H b:=λhb=>AC hb
 have nn:∀ {b},H b=none->L2.drp H a b=none:=λ{b} hb=>by
  unfold L2.drp;split
  ·rfl
  ·exact hb
 refine⟨I.ok,I.os,I.bare,⟨I.base.keep,I.base.slot,λb o e n hx=>nn (I.base.free b o e n hx),I.base.there,λb xs q=>?_,λb o u q=>?_,λb ps q=>?_⟩,I.loc,I.cell,nn I.free,λx c e=>nn (I.freeC x c e),λp hp=>?_,λb u q=>?_,I.len⟩
 ·have z:=I.base.tups b xs q
  rw[ne (λe=>by rw[e,Z] at z;cases z)];exact z
 ·have z:=I.base.frzs b o u q
  rw[ne (λe=>by rw[e,Z] at z;cases z)];exact z
 ·obtain⟨m,z⟩:=I.base.tbls b ps q
  exact⟨m,by rw[ne (λe=>by rw[e,Z] at z;cases z)];exact z⟩
 ·obtain⟨e,n,r⟩:=I.pin p hp
  exact⟨e,nn n,r⟩
 ·have hb:b≠a:=λz=>by
   unfold L2.drp at q;rw[AD z] at q;cases q
  rw[ne hb] at q;refine (I.hok b u q).stay (λ_ _ _ z=>z) (λc z=>?_) λc xs z=>?_
  ·rw[ne (λe=>by rw[e,Z] at z;cases z)];exact z
  ·rw[ne (λe=>by rw[e,Z] at z;cases z)];exact z
theorem Inv.size₀ (I:Inv X pins σ H s):X.s₀.heap.objs.size<=s.heap.objs.size:=by
 obtain⟨m,⟨oL,_,_,Z,_⟩,_⟩:=I.loc;exact iw (fk I.ok.above (AV Z))
end
def Ic (E:XK)(C:Addr)(F:Str)(t:TA):TS:=λ_ σ H=>t σ H λvs H1=>∃ Z v,vs=[Z,v]∧∀ dx,H1 dx=none->E (.ref C) (some dx) (upd H1 dx (.xd [(F,v)]))
def sZ (C:Addr)(F:Str):Sp:=λvs H Q _=>∃ a Z v,vs=[.ref a,Z,v]∧H a=some (ExB a C none)∧∀ dx,H dx=none->Q .non (upd (upd H dx (.xd [(F,v)])) a (ExB a C (some dx)))
section
variable {X:Cx}
theorem Kb {CX:CXT}{x F:Str}{C f:Addr}{fd:wh}{k j:Nat}{ps:List Str}{e₀:Expr}{rest:List Expr}{np cpos pos:Pos}{t:TA}{E:XK}(hm:X.mg x=some (.ref C))(c:Dg X.K C f)(kp:dl X.K (.ref C)=true)(O:Own X)(hc:X.calm=true)
  (Fn:bI X.prog X.w X.K X.mg X.base CX j f fd ps (sZ C F)) (w8:gA CX X E0) (hr:eF k X.A) (hb:fD X.K fd ps [])
  (hE:∀ (pins:List (Addr×Obj)) (σ:St) (H:Hp) (s:kw) (a dx:Addr),Inv X pins σ H s->(∀ E':Value->kw->Prop,wpAny (model X.prog X.w) X.A (leaving X.env (.ref a)) (λ_ wp=>Fly X.prog X.w X.outer X.H₀ X.s₀ a (.ref C) H wp∧dC wp.heap a (some dx)) E' s)->E (.ref C) (some dx) H->X.xe (.ref a) s)
  (ha:PA X (e₀::rest) t) (w6:j+1<=k:=by decide) (hg:Gl X x:=by rfl) (hd:(x==("__debug__" : Str))=false:=by decide)
  (he:starEach (e₀::rest) X.env=(false,eval e₀ X.env)::starEach rest X.env:=by rfl) (wz:(backTo cpos (starEach rest X.env)).any (·.1)=false:=by rfl) :
  PS X (.Raise (some (.Call (.Name x np) (e₀::rest) [] cpos)) none pos) (Ic E C F t):=by
 intro pins s σ H D I h;rw[arm_exec_Raise];simp only [evalOpt,ud];obtain⟨nm,q,Ns,bs,tl,sn,sub,ab,col,dd,k0,k1,k2,k3,k5,mN,oI,c0,n0,i0,T0,f0,f1⟩:=(c.cls I.mod.kin).ex;refine AA (wpAny_standAt (Kh (Cl:=C) (nm:=nm) (q:=q) (Ns:=Ns) (bs:=bs) (tl:=tl) (hdct:=true) (sn:=sn) (sub:=sub) (ab:=ab) (col:=col) (dd:=dd) (k0:=k0) (k1:=k1) (k2:=k2) (k3:=k3) (k5:=k5) (ni := "ValueError.__new__") (T0.hasType (by decide +kernel)) (I.ok.hd hc) ?_))
 refine AA (AJ ?_ (λv s₃ z=>AA (wpAny_standAt (AB z))) λ_ _ z=>z);refine wpAny_Call_Name_kw (iL I hg hm ?_ hd);refine i9 (h₀:=X.base) I.ok.mod.kin kp (thn (ha cpos pins s σ H _ I h) λus s1 ⟨vs,H1,I1,r,v1,v,hv,q1⟩=>⟨I1.kIn,?_⟩) he wz;subst hv;rw[qy];have w4:us.length=2:=r.length.symm;have wx:H1 (s1.heap.objs.size+1)=none:=I1.hok.fresh (gv _);have I2:Inv X pins σ (upd H1 (s1.heap.objs.size+1) (ExB (s1.heap.objs.size+1) C none)) { s1 with heap:=hZ s1.heap C us } :=
  I1.laid (t':=s1.toks) (λb u z=>gO z) (gv _) (Hh (xS s1.heap C us))
 have r2:aZ (V.ref (s1.heap.objs.size+1)::[v1,v]) (Value.ref (s1.heap.objs.size+1)::us):=.cons rfl r;have hq:sZ C F (V.ref (s1.heap.objs.size+1)::[v1,v]) (upd H1 (s1.heap.objs.size+1) (ExB (s1.heap.objs.size+1) C none))
   (λu H2=>u = .non∧∃ dx,upd H1 (s1.heap.objs.size+1) (ExB (s1.heap.objs.size+1) C none) dx=none∧H2=upd (upd (upd H1 (s1.heap.objs.size+1) (ExB (s1.heap.objs.size+1) C none)) dx (.xd [(F,v)])) (s1.heap.objs.size+1) (ExB (s1.heap.objs.size+1) C (some dx))) E0 :=
  ⟨_,v1,v,rfl,aC,λdx Z=>⟨rfl,dx,Z,rfl⟩⟩
 have hl:(Value.ref (s1.heap.objs.size+1)::us++[]).length=ps.length:=by
  rw[da,<- r2.length];exact Fn.len _ _ _ _ hq
 have ww:=hb _ (Value.ref (s1.heap.objs.size+1)::us) I2.kIn hl;rw[da] at ww;have or:X.s₀.heap.objs.size<=s1.heap.objs.size+1:=Nat.le_succ_of_le I1.size₀;refine Nd (h:=s1.heap) (g:=s1.gens) (d:=s1.drawn) (t:=s1.toks) (os:=s1.os) (T0.keeps I1.bk) (I1.bk _ _ c0) (n0.keeps I1.bk) i0 (I1.bk _ _ f0) f1 (by rw[w4,AG];omega) ?_;refine AZ (AQ (Fn.run _ X.stack _ _ ⟨Value.ref (s1.heap.objs.size+1)::us,[]⟩ (Value.ref (s1.heap.objs.size+1)::us) _ _ E0 ((hr.mono w6).make C us []) (I2.env0.make C us []) ww r2 hq) λres s' gV=>?_)
 cases res with
 | error x'=>exact w8 pins σ _ _ x' s' I2 gV
 | ok fl =>
  cases fl with
  | ret u =>
   obtain⟨v',H',I3,rv,rfl,dx,Z,rfl⟩:=I2.after gV;refine⟨rv,?_⟩;have mp:dx≠s1.heap.objs.size+1:=λz=>by rw[z,aC] at Z;cases Z
   rw[aG mp] at Z;obtain⟨⟨x0,e0⟩,_,_⟩:=I3.hok (s1.heap.objs.size+1) _ aC;have I4:=I3.drp (C:=C) (od:=some dx) or aC;have hD:drp (upd (upd (upd H1 (s1.heap.objs.size+1) (ExB (s1.heap.objs.size+1) C none)) dx (.xd [(F,v)])) (s1.heap.objs.size+1) (ExB (s1.heap.objs.size+1) C (some dx))) (s1.heap.objs.size+1)=upd H1 dx (.xd [(F,v)]):=by
    funext b
    unfold drp;by_cases hb:b=s1.heap.objs.size+1
    ·rw[AD hb,hb,aG mp.symm,wx]
    ·rw[AC hb,aG hb]
     by_cases hb2:b=dx
     ·rw[hb2,aC,aC]
     ·rw[aG hb2,aG hb,aG hb2]
   rw[hD] at I4;refine⟨s1.heap.objs.size+1,_,_,rfl,I3.bk _ _ c0,e0,rfl,rfl,rfl,?_⟩;exact hE pins σ _ s' _ dx I4 (λ_=>Fly.raisedI I4 O (by rw[aG mp.symm];exact wx) or e0) (q1 dx Z)
  | next=>exact False.elim gV
  | brk=>exact False.elim gV
  | cont=>exact False.elim gV
end
theorem Ug {P:xv}{w:World}{K:ac}{mg:Str->Option Value}{base:Heap}{N:List Str}{qual:Str}{scope:Scope}{f:Addr}{cdv:Value}{A:Around}{outer:List Env}{s:kw}{H:Hp}{E:XK}{C:Addr}
 (pins:List (Addr×Obj)) (σ:St) (H1:Hp) (s1:kw) (a dx:Addr) (I:Inv (mE (CX2 P w) P w K mg base N qual scope f cdv A outer s H E) pins σ H1 s1)
 (hx:∀ E':Value->kw->Prop,wpAny (model P w) (mE (CX2 P w) P w K mg base N qual scope f cdv A outer s H E).A (leaving (mE (CX2 P w) P w K mg base N qual scope f cdv A outer s H E).env (.ref a)) (λ_ gV=>Fly P w outer H s a (.ref C) H1 gV∧dC gV.heap a (some dx)) E' s1)
 (q:E (.ref C) (some dx) H1):(mE (CX2 P w) P w K mg base N qual scope f cdv A outer s H E).xe (.ref a) s1:=thn (hx _) λ_ gV Z=>⟨a,.ref C,some dx,H1,rfl,Z.1,Z.2,q⟩
section
variable {X:Cx}
theorem fQ (K:ac)(hK:X.K=K):dR X (.builtin "isinstance") (λxs H Q=>∃ (a C:Addr) (od:Option Addr) (c:Value) (v:V) (b:Bool),xs=[.ref a,v]∧Zn c=some v∧H a=some (ExD a (.ref C) od)∧Knd K C∧gg K (.ref C) c=some b∧Q (.bl b) H):=by
 subst hK;intro pins s σ H xs us Q I r h;obtain⟨a,C,od,c,v,b,rfl,hv,ha,k,e,q⟩:=h;obtain⟨u,w',rfl,ru,Z⟩:=zF r;cases ru;obtain rfl:=Np hv Z;obtain⟨p,_⟩:=(show cF X.prog X.w H s.heap a (ExD a (.ref C) od) from I.hok a _ ha);exact PySem.W.kia_one (EX.kit k) I.kIn (let ⟨o,h1,h2,_⟩:=p.1;⟨o,h1,h2⟩) e (λz=>nomatch z) λtk=>⟨.bl b,H,I.tok tk,rfl,q⟩
theorem xI (K:ac)(hK:X.K=K):dR X (.builtin "isinstance") (λxs H Q=>∃ (a C tp:Addr) (od:Option Addr) (Z:List Addr) (b:Bool),xs=[.ref a,.ref tp]∧H tp=some (.tup (Z.map V.ref))∧H a=some (ExD a (.ref C) od)∧Knd K C∧sj K (.ref C) (Z.map Value.ref)=some b∧Q (.bl b) H):=by
 subst hK;intro pins s σ H xs us Q I r h;obtain⟨a,C,tp,od,Z,b,rfl,ht,ha,k,e,q⟩:=h;obtain⟨u,w',rfl,ru,gV⟩:=zF r;cases ru;cases gV;obtain⟨p,_⟩:=(show cF X.prog X.w H s.heap a (ExD a (.ref C) od) from I.hok a _ ha);obtain⟨_,mp,rv,⟨⟨oc,or,wp,osl⟩,ho,hc,n,hd⟩⟩:=(show cF X.prog X.w H s.heap tp (.tup (Z.map V.ref)) from I.hok tp _ ht);obtain rfl:=xV rv;simp only at hc hd;subst hc hd;exact PySem.W.kia_tup (EX.kit k) I.kIn (let ⟨o,h1,h2,_⟩:=p.1;⟨o,h1,h2⟩) ho e (λz=>nomatch z) λtk=>⟨.bl b,H,I.tok tk,rfl,q⟩
end
namespace EX
open PySem.W PySem.Calls PySem.Builtin PySem.Builtin.ObjectAttr PySem.Builtin.Getset_descriptor
variable {prog:xv}{w:World}{A:Around}{E:Value->kw->Prop}{s:kw}{K:ac}{a C:Addr}
theorem fld {name:Str}{Z:Bool}{oa od:Obj}{v:Value}{Q:Value->kw->Prop}(X:K.In s.heap)(k:Knd K C)(hn:findIn K (.ref C) name=some none)(hh:hasDictIn K C=true)(I:rl s.heap a oa C (some od))
  (hl:lookIn name od=some (some v)) (hv:handedIn v=true) (h:Q v { s with toks:=s.toks+1 }):wpAny (model prog w) A (getAttr (.ref a) name Z) Q E s:=by
 have p:∃ o,s.heap.get? a=some o∧o.cls = .ref C:=⟨oa,I.at_,I.cls⟩;have L3:=looks_find (M:=model prog w) X I (findObj_own hh hn rfl hl);obtain⟨h1,g,d,t,os⟩:=s;have L0:=ty (M:=model prog w) p;have L1:=looks_findIn (M:=model prog w) X k.ga;have L2:=looks_findIn (M:=model prog w) X k.hk;have L4:=looks_mroIn (M:=model prog w) X k.hb;unfold getAttr getAttrBy;refine AA (wpAny_mkText (AM (AA (L0.at (AA (L1.at ?_))))))
 dsimp only
 have x0:(Value.builtin "BaseException.__getattribute__" == Value.builtin "object.__getattribute__")=false:=by decide +kernel
 rw[AC (by rw[x0,ij];exact ag)];unfold getAttrByItsOwn hookBefore;refine AA (L2.at (AA (wpAny_attempt (AM ?_))));unfold callGetattribute boundAndCalled;rw[AC (show ¬ (Z&&onTheHeap (Value.builtin "BaseException.__getattribute__"))=true by rw[show onTheHeap (Value.builtin "BaseException.__getattribute__")=false from rfl,ij];exact ag)]
 refine AA (AY (F.attr_ValueError.ga.bind (.ref a)) ?_);have b1:builtinKind "BaseException.__getattribute__" = some .slot:=by decide +kernel
 have b2:splitId "BaseException.__getattribute__" = some ("BaseException", "__getattribute__"):=by decide +kernel
 have b3:=F.args_bexc_ga (.ref a) (.str name t);refine AZ (AR F.attr_ValueError.ga.plain F.entry_bexc_ga ?_);simp only [checkBuiltinCall,b1,b2];unfold isInstance;refine AA (AA (L0.at (L4.at ?_)));rw[AC (by decide)];refine AY b3 ?_;show wpAny _ A.in1 («object.__getattribute__» ⟨[.ref a,.str name t],[]⟩) _ _ _;unfold «object.__getattribute__» slotArgs attrName
 iterate 8 lk
 refine AA (AB (AA (L0.at (AA (L3.at ?_)))));refine AB ?_;show wpAny _ _ (handedOut v) _ _ _;exact handed_on hv h
end EX
section
variable {X:Cx}
def aAW (K:ac)(f:Str)(ta:TE):TE:=λσ H Q=>ta σ H λx H1=>∃ (a C dx:Addr) (fs:List (Str×V)) (v:V),x = .ref a∧H1 a=some (ExD a (.ref C) (some dx))∧H1 dx=some (.xd fs)∧Knd K C∧fF K C f∧gq K C=true∧fs.lookup f=some v∧Q v H1
theorem Su (K:ac)(hK:X.K=K){e:Expr}{f:Str}{ta:TE}{pos:Pos}(he:PE X e ta)(hb:attributeBase e f X.env (eval e X.env)=eval e X.env:=by rfl):PE X (.Attribute e f pos) (aAW K f ta):=by
 subst hK;intro pins s σ H Q I h;refine Ip hb (thn (he pins s σ H _ I h) λu s1 ⟨x,H1,I1,rx,a,C,dx,fs,v,ex,ea,ed,k,n,hh,l,q⟩=>?_);subst ex;obtain rfl:u=Value.ref a:=rx;obtain⟨p,_⟩:=(show cF X.prog X.w H1 s1.heap a (ExD a (.ref C) (some dx)) from I1.hok a _ ea);obtain⟨⟨oa,e1,c1,vs,f1⟩,⟨gV,e2,d2⟩⟩:=p;rw[e1] at e2;cases e2;obtain⟨mA,hn,r⟩:=(show cF X.prog X.w H1 s1.heap dx (.xd fs) from I1.hok dx _ ed);obtain⟨od,ho,hl⟩:=zE hn;obtain⟨u,hu,ru⟩:=iE.some_of (v:=v) (o:=mA f) (by rw[<- l];exact r f);have Z:vv oa=true:=by
  unfold vv;rw[f1]
 exact EX.fld I1.kIn k n hh ⟨e1,c1,Z,by rw[d2];exact ho⟩ (by rw[hl,hu]) (xL ru) ⟨v,H1,I1.tok _,ru,q⟩
theorem Tg (K:ac)(hK:X.K=K)(hu:X.A.units+1<cLine):OpR X (compareOp .Eq) (λx y H Q=>∃ (p b D F:Addr) (kd:List Nat) (ls:List (List Nat)),x = .ref p∧y = .ref b∧SqT K H p [T kd,.ref D]∧SqT K H b [T kd,.ref F]∧SqT K H D (ls.map T)∧SqT K H F (ls.map T)∧Q (.bl true) H):=by
 subst hK;intro pins s σ H x y v u Q I rx ry h;obtain⟨p,b,D,F,kd,ls,rfl,rfl,h1,h2,h3,h4,q⟩:=h;cases rx;cases ry;obtain⟨mp,r,pl,_⟩:=I.tuple h1;obtain⟨gV,r2,Z,_⟩:=I.tuple h2;obtain⟨u1,w1,rfl,k1,rfl⟩:=zF r;obtain⟨u2,w2,rfl,k2,rfl⟩:=zF r2;refine SeqAt.RcAt.tuples (e:=λ_=>true) pl Z (ge hu) (λj g1 g2=>?_) _ _ _ _ ⟨.bl true,H,I,rfl,q⟩
 match j,g1 with
 | 0,_ =>
  have e:=iY (A:=X.A.in1) (s:=s) k1 k2 rfl rfl;rw[show eqV (T kd) (T kd)=true from by show (tx kd==tx kd)=true;rw[AK]] at e;exact e
 | 1,_=>exact Fr I hu h3 h4
 | j+2,g=>exact absurd g (by simp)
end
structure Cxi (P:xv)(w:World)(K:ac)(mg:Str->Option Value)(base:Heap)(x:Str)(C:Addr)(F:Str)(j:Nat)(ps:List Str):Prop where
 ex:∃ f fd,bI P w K mg base (CX2 P w) j f fd ps (sZ C F)∧Dg K C f∧mg x=some (.ref C)∧dl K (.ref C)=true∧fD K fd ps []
theorem Xg {X:Cx}{x F:Str}{C:Addr}{k j:Nat}{ps:List Str}{e₀:Expr}{rest:List Expr}{np cpos pos:Pos}{t:TA}{E:XK}(c:Cxi X.prog X.w X.K X.mg X.base x C F j ps)(O:Own X)(hc:X.calm=true)(hr:eF k X.A)
  (hE:∀ (pins:List (Addr×Obj)) (σ:St) (H:Hp) (s:kw) (a dx:Addr),Inv X pins σ H s->(∀ E':Value->kw->Prop,wpAny (model X.prog X.w) X.A (leaving X.env (.ref a)) (λ_ Z=>Fly X.prog X.w X.outer X.H₀ X.s₀ a (.ref C) H Z∧dC Z.heap a (some dx)) E' s)->E (.ref C) (some dx) H->X.xe (.ref a) s)
  (ha:PA X (e₀::rest) t) (mp:j+1<=k:=by decide) (hg:Gl X x:=by rfl) (hd:(x==("__debug__" : Str))=false:=by decide)
  (he:starEach (e₀::rest) X.env=(false,eval e₀ X.env)::starEach rest X.env:=by rfl) (gV:(backTo cpos (starEach rest X.env)).any (·.1)=false:=by rfl) :
  PS X (.Raise (some (.Call (.Name x np) (e₀::rest) [] cpos)) none pos) (Ic E C F t):=by
 obtain⟨f,fd,Fn,ci,hm,kp,hb⟩:=c.ex;exact Kb hm ci kp O hc Fn aS hr hb hE ha mp hg hd he gV
def Ite (K:ac)(a:Addr):It :=
 ⟨λi H=>∃ xs x,SqL K H a xs∧xs[i]?=some x,
  λi H x H'=>∃ (T:Addr) (u:V),x = .ref T∧H T=none∧H'=upd H T (.tup [.int (i:Nat),u])∧∀ xs,SqL K H a xs->xs[i]?=some u,
  λi H=>∃ xs,SqL K H a xs∧xs.length<=i⟩
theorem Kc {P:xv}{w:World}{K:ac}{wp:List Expr}{x1}{pos:Pos}{a e it:Addr}(or:e≠it) :
  wQ P w K (.Tuple wp x1 pos) (Ite K a) [e,it] e (λi h=>(∃ gV,IsEnum h e it i gV)∧h.IsListIter it a i) where
 mem:=by simp
 obj:=λi h st c Z=>by
  obtain⟨⟨gV,h1⟩,⟨o4,e4,c4,d4⟩⟩:=st;simp only [au,fz,or_false] at Z;rcases Z with rfl | rfl
  ·exact⟨_,h1,λv z=>by cases z⟩
  ·exact⟨_,e4,λv z=>by rw[d4] at z;cases z⟩
 keep:=λi h h' st k=>by
  obtain⟨⟨gV,h1⟩,h4⟩:=st;exact⟨⟨gV,k e (by simp) _ h1⟩,h4.at λo e=>k it (by simp) o e⟩
 item:=by
  intro X hP hw hK Z i pins s σ H E I hf st hg;subst hP hw hK;obtain⟨xs,x,mp,hx⟩:=hg;obtain⟨wz,rv,p,hz⟩:=I.list mp;obtain⟨u,hu,ru⟩:=rv.get hx;obtain⟨⟨gV,h1⟩,h4⟩:=st;refine wpAny_pyNext_enum_item h1 h4 p.isList (x:=u) (by simpa using hu) or λh' z1 z2 z3 z4 z5=>?_
  refine⟨_,rfl,wpAny_letOwnedTupleGo_enum (s:={ s with heap:=h',toks:=s.toks+1 }) z1 λwx y1 y2=>?_⟩;have hT:H s.heap.objs.size=none:=I.hok.fresh (af _);have I1:Inv X pins σ (upd H s.heap.objs.size (.tup [.int (i:Nat),x])) { s with heap:=s.heap.push { cls:=.type "tuple",data:=.seq #[.int i s.toks,u] },toks:=s.toks+1 } :=
   I.laid (t':=s.toks+1) (λb u e=>AT _ e) (af _) ⟨(by show 2<=sizeLine;rw[AG];decide),[.int i s.toks,u],.cons ⟨_,rfl⟩ (.cons ru .nil),⟨_,AU _ rfl,rfl,_,rfl⟩⟩
  have nf:∀ c∈[e,it],c≠s.heap.objs.size:=λc Z e=>by
   have lt:∃ o,s.heap.get? c=some o:=by
    obtain⟨o4,e4,_⟩:=id h4;simp only [au,fz,or_false] at Z;rcases Z with rfl | rfl
    ·exact⟨_,h1⟩
    ·exact⟨_,e4⟩
   obtain⟨o,ho⟩:=lt
   have:=AV ho
   rw[e] at this;exact e9 _ this
  have ww:∀ c∈[e,it],mT X pins (upd H s.heap.objs.size (.tup [.int (i:Nat),x])) c:=λc Z=>by
   obtain⟨f0,f⟩:=hf c Z;exact⟨by rw[aG (nf c Z)];exact f0,f⟩
  have I2:Inv X pins σ (upd H s.heap.objs.size (.tup [.int (i:Nat),x])) { s with heap:=wx,toks:=s.toks+1 } :=
   Inv.turnedL (s:={ s with heap:=s.heap.push { cls:=.type "tuple",data:=.seq #[.int i s.toks,u] },toks:=s.toks+1 }) (t':=s.toks+1) (ch:=[e,it]) I1 (λb o hb e=>by
    simp only [au,fz,or_false,not_or] at hb;obtain⟨b1,b2⟩:=hb;refine (y2.2 b b1).trans ?_;rcases Heap.get?_push_cases e with ⟨rfl,rfl⟩ | e
    ·exact z3
    ·exact z5 b o b1 b2 e) ww
  refine⟨.ref s.heap.objs.size,_,I2,rfl,⟨s.heap.objs.size,x,rfl,hT,rfl,λzs w4=>by rw[I.list_inj w4 mp];exact hx⟩,⟨⟨_,by exact_mod_cast y1⟩,?_⟩,λc Z=>(ww c Z).1⟩;exact z2.at λo e=>(y2.2 it (Ne.symm or)).trans e
 done:=by
  intro X hP hw hK Z i pins s σ H E I hf st hg;subst hP hw hK;obtain⟨xs,mp,hl⟩:=hg;obtain⟨wz,rv,p,hz⟩:=I.list mp;obtain⟨⟨gV,h1⟩,h4⟩:=st;have l1:=rv.length;refine wpAny_pyNext_enum_end (I.ok.hd Z) h1 h4 p.isList (by simp;omega) λh' kk=>⟨rfl,?_⟩
  exact I.turnedL (t':=s.toks) (ch:=[e,it]) (λb o hb e=>by
   simp only [au,fz,or_false,not_or] at hb;exact kk b o hb.2 e) hf
 self:=λA i s Q E st h=>wpAny_pyIter_enum st.1.choose_spec h
section
variable {X:Cx}
def Zf (K:ac)(ta:TA):TI:=λσ H R=>ta σ H λxs H1=>∃ a:Addr,xs=[.ref a]∧(∃ us,SqL K H1 a us)∧R (Ite K a) H1
theorem Ud {a:Expr}{ta:TA}{p pos pos':Pos}{Z:List Expr}{x1}(hg:Gl X "enumerate")(hm:X.mg "enumerate" = none)(ha:PA X [a] ta)(hs:starEach [a] X.env=[(false,eval a X.env)]:=by rfl) :
  PI X (.Tuple Z x1 pos') (.Call (.Name "enumerate" p) [a] [] pos) (Zf X.K ta):=by
 intro pins s σ H R I h;refine Call_ (rG I hg hm boot_enumerate (gl (thn (ha pos pins s σ H _ I h) λus s1 ⟨vs,H1,I1,r1,q1⟩=>?_) (by rw[hs];rfl) (by rfl)));obtain⟨l1,e,⟨or,gV⟩,q⟩:=q1;subst e
 cases r1 with
 | cons r rr =>
  cases rr;cases r;obtain⟨mp,rv,p,hz⟩:=I1.list gV;refine call_enumerate_list p.isList λh' z1 z2 z3 z4=>?_
  refine wpAny_pyIter_enum (s:={ s1 with heap:=h' }) z1 ?_;have fr:∀ c,s1.heap.objs.size<=c->mT X pins H1 c:=λc hc=>I1.fpOk hc (I1.hok.fresh hc)
  refine⟨s1.heap.objs.size+1,[s1.heap.objs.size+1,s1.heap.objs.size],_,_,H1,rfl,I1.kept (t':=s1.toks) z4,Kc (Nat.succ_ne_self _),⟨⟨_,z1⟩,z2⟩,λc hc=>fr c ?_,q⟩;simp only [au,fz,or_false] at hc;rcases hc with rfl | rfl
  ·exact jy _ _
  ·exact af _
theorem Sg {K:ac}{a:Addr}{xs:List V}{g:TG}{tb:TS}{D:jJ}{σ:St}{H:Hp}(Z:Nat->St->Hp->Prop)(h0:Z 0 σ H)(hl:∀ i σ H,i<=xs.length->Z i σ H->SqL K H a xs)
  (hs:∀ i x T σ H,xs[i]?=some x->H T=none->Z i σ H->g (.ref T) σ (upd H T (.tup [.int (i:Nat),x])) λσ2 H2=>tb { D with nx:=Z (i+1),ct:=Z (i+1),bk:=D.nx } σ2 H2) (hd:∀ σ H,Z xs.length σ H->D.nx σ H) :
  ∃ W:Nat->Nat->St->Hp->Prop,(∃ m,W 0 m σ H)∧∀ i m σ H,W i m σ H ->
   ((Ite K a).stop i H∧D.nx σ H)∨((Ite K a).go i H∧∃ N:St->Hp->Prop,(∀ σ' H',N σ' H'->∃ m',m'<m∧W (i+1) m' σ' H')∧∀ x H',(Ite K a).yld i H x H'->g x σ H' λσ2 H2=>tb { D with nx:=N,ct:=N,bk:=D.nx } σ2 H2):=by
 refine⟨λi m σ H=>m=xs.length-i∧i<=xs.length∧Z i σ H,⟨xs.length,by simp,cc _,h0⟩,?_⟩;rintro i m σ H ⟨rfl,hi,p⟩;have q1:=hl i σ H hi p;by_cases hlt:i<xs.length
 ·refine .inr ⟨⟨xs,xs[i],q1,by simp[hlt]⟩,Z (i+1),λσ' H' p'=>⟨xs.length-(i+1),by omega,rfl,hlt,p'⟩,λx H' y=>?_⟩
  obtain⟨T,u,rfl,hT,rfl,y1⟩:=y;exact hs i u T σ _ (y1 xs q1) hT p
 ·have e:i=xs.length:=by omega
  subst e;exact .inl ⟨⟨xs,q1,af _⟩,hd σ H p⟩
end
def Bg (i:Int):Prop:=i.natAbs<2 ^ 8000
theorem Bg.bits {i:Int}(h:Bg i):Builtin.Int.intBits i<=8000:=by
 unfold Builtin.Int.intBits;split
 ·exact cc _
 ·rename_i hn
  have Z:i.natAbs≠0:=λz=>hn (by rw[uh.mp z];rfl)
  exact (Nat.log2_lt Z).mpr h
theorem Bg.mulOk {i j:Int}(hi:Bg i)(hj:Bg j):IntMulOk i j:=by
 unfold IntMulOk Builtin.Int.intTooBig;have h1:=hi.bits;have h2:=hj.bits;have h3:(16000:Int)<=bitsLine:=by decide +kernel
 have Z:decide (((Builtin.Int.intBits i:Nat):Int)+((Builtin.Int.intBits j:Nat):Int)>(bitsLine:Int))=false:=AH (by omega);rw[Z,ij];exact ag
theorem Bg.noPylong {i j:Int}(Z:Bg j):Builtin.divisionGoesByPylong i j=false:=by
 unfold Builtin.divisionGoesByPylong
 have:¬ ((if (j==0)=true then 0 else j.natAbs.log2/30+1)>300):=by
  split
  ·decide
  ·rename_i hn
   have h0:j.natAbs≠0:=λz=>hn (by rw[uh.mp z];rfl)
   have:=(Nat.log2_lt h0).mpr Z
   omega
 dsimp only
 rw[AH this];rfl
section
variable {X:Cx}
theorem eQ:OpR X (binaryOp .Mult) (rI (λi j=>Bg i∧Bg j) λi j=>.int (i*j)):=opI λ_ _ _ _ _ _ _ Z q=>mul_int q (Z.1.mulOk Z.2)
theorem Nw:OpR X (binaryOp .FloorDiv) (rI (λ_ j=>0<j∧Bg j) λi j=>.int (i/j)):=opI λi j _ _ _ _ _ Z q=>by
 have h1:(0:Int)<j:=Z.1;exact floordiv_int (by omega) (by rw[n8 i (by omega)];exact q) (.inl Z.2.noPylong)
end
section
variable {X:Cx}{N':List Str}{scope:Scope}{x y2:Str}{px py py2 pt:Pos}{elt iter:Expr}{pos:Pos}{te:TE}{wi:TI}
theorem Sc (S:Ar X.N N' X.env.scope scope x y2)(hc:X.calm=true)(hi:PI X (.Tuple [.Name x px,.Name y2 py2] 0 pt) iter wi)(he:∀ cl C s H fp,PE (bX X N' scope cl C s H fp) elt te)
  (hs:∀ x,foldedSetIterable iter X.env x=pure x:=by intro _;rfl):PE X (.ListComp elt [⟨.Tuple [.Name x px,.Name y2 py2] 0 pt,iter,[],0⟩] scope pos) (Xa X.K wi te):=by
 intro pins s σ H Q I h;rw[eval_ListComp];have Z:∀ z∈scope.names,z.2 = .free->∃ c,X.env.cells.lookup z.1=some c:=λz hz hk=>by
  rcases S.ok z hz hk with q | q
  ·exact I.ok.has z.1 (.inl q)
  ·exact I.ok.has z.1 (.inr q)
 refine wpAny_comprehension_free (use:=none) rfl hs (iS Z) S.kind S.names (thn (hi pins s σ H _ I h) λxv s1 h1=>thn h1 λw4 s2 h2=>?_);obtain⟨it,fp,tn,J,H2,e,I2,T,ww,f2,hw⟩:=h2;subst e;obtain⟨cl,wp,gV⟩:=Gi (py:=py2) (pt:=pt) (elt:=elt) (iter:=iter) (pos:=pos) (px:=px) (E:=X.xe) (RR:=λwz C=>compPost (model X.prog X.w) X.A X.xe none (EP X pins σ Q) wz C) S hc he I2 T ww f2 hw (λD C s' H' I' ⟨m,hm⟩ n1 n2 n3 n4 n5 q =>
  ⟨m,hm,λh' or=>⟨.ref D,H',I'.turned (it:=C) (t':=s'.toks) (λb o hb e=>(or.2 b hb).trans e) n3 n1 (.inr n4) n2 n5,rfl,q⟩⟩)
 have wx:(pure (dQ X.env.cells scope.names []):Sem (List (Str×Addr)))=pure cl:=(iS Z).symm.trans wp;have mp:dQ X.env.cells scope.names []=cl:=by
  injection wx
 rw[mp];exact gV
end
end L2
namespace L2
open PySem PyProof.Rows PySem.Spec
def tupIs (K:ac)(a:Addr)(ns:List Int):Bool :=
 match K.lookup a with
 | some o=>match o.cls,o.data with
  | .type "tuple",.seq its _=>decide (its.size<=1000)&&(its.toList.map λv=>match v with | .int i _=>some i | _=>none)==ns.map some
  | _,_=>false
 | none=>false
theorem SqT.tupIs {K:ac}{a:Addr}{ns:List Int}{H:Hp}(h:tupIs K a ns=true):SqT K H a (ns.map V.int):=by
 unfold L2.tupIs at h
 cases hk:K.lookup a with
 | none=>rw[hk] at h;cases h
 | some o =>
  rw[hk] at h
  dsimp only at h
  split at h
  ·rename_i its n hc hd
   rw[cz,AI,AK] at h;refine .inr ⟨o,its,n,hk,hc,hd,a5 h.1 (by rw[AG];decide),?_⟩;have gV:∀ (ns:List Int) (us:List Value),(us.map λv=>match v with | .int i _=>some i | _=>none)=ns.map some->aZ (ns.map V.int) us:=λns=>by
    induction ns with
    | nil =>
     intro us Z
     cases us with
     | nil=>exact .nil
     | cons u us=>cases Z
    | cons i ns ih =>
     intro us Z
     cases us with
     | nil=>cases Z
     | cons u us =>
      rw[ap,ap] at Z;obtain⟨h1,h2⟩:=wl Z;refine .cons ?_ (ih us h2);split at h1
      ·rename_i j t
       obtain rfl:=av h1;exact⟨_,rfl⟩
      ·cases h1
   exact gV ns _ h.2
  ·cases h
def dX (K:ac)(H:Hp)(as:List Addr)(M:List (List Int)):Prop:=as.length=M.length∧∀ (i:Nat) (a:Addr) (r:List Int),as[i]?=some a->M[i]?=some r->SqL K H a (r.map V.int)
section
variable {K:ac}{H G:Hp}{as:List Addr}{M:List (List Int)}
theorem dX.on (h:dX K H as M)(s:aL H G):dX K G as M:=⟨h.1,λi a r e1 Z=>s.seq (h.2 i a r e1 Z)⟩
theorem dX.at (h:dX K H as M){i:Nat}{v:V}(Z:(as.map V.ref)[i]?=some v):∃ (a:Addr) (r:List Int),v = .ref a∧M[i]?=some r∧SqL K H a (r.map V.int):=by
 rw[ah] at Z;obtain⟨a,ha,rfl⟩:=bz.mp Z;have hi:=(ao.mp ha).1;obtain⟨r,hr⟩:∃ r,M[i]?=some r:=⟨_,aa (by rw[<- h.1];exact hi)⟩;exact⟨a,r,rfl,hr,h.2 i a r ha hr⟩
theorem dX.sub (h:dX K H as M)(f:Nat->Nat)(bs:List Addr)(N:List (List Int))(hl:bs.length=N.length)(h1:∀ i b,bs[i]?=some b->as[f i]?=some b)(h2:∀ i r,N[i]?=some r->M[f i]?=some r):dX K H bs N:=⟨hl,λi a r e1 Z=>h.2 (f i) a r (h1 i a e1) (h2 i r Z)⟩
theorem dX.erase (h:dX K H as M)(p:Nat):dX K H (as.eraseIdx p) (M.eraseIdx p) :=
 h.sub (λi=>if i<p then i else i+1) _ _ (by rw[ig,ig,h.1]) (λi b e=>by rw[l8] at e;split <;> simp_all) (λi b e=>by rw[l8] at e;split <;> simp_all)
end
theorem aAD {K:ac}{J:It}{as:List Addr}{M:List (List Int)}{te:TE}{σ:St}{H:Hp}{Q:VK}(g:List Int->List Int)(rd:pB J H (as.map V.ref))(hR:dX K H as M)(hn:as.length<=sizeLine)
  (he:∀ a r H',r∈M->SqL K H' a (r.map V.int)->aL H H'->∀ N:V->Hp->Prop,(∀ c Z,aL H' Z->(H' c=none)->Z c=some (.lst ((g r).map V.int))->N (.ref c) Z)->te (some (.ref a)::σ) H' N)
  (hq:∀ D bs H',H D=none->aL H H'->H' D=some (.lst (bs.map V.ref))->(∀ b∈bs,b≠D)->dX K H' bs (M.map g)->Q (.ref D) H'):jB te σ Q J H:=by
 intro D hD;refine⟨λi m ys H2=>m=as.length-i∧i<=as.length∧aL H H2∧H2 D=some (.lst ys)∧∃ bs:List Addr,ys=bs.map V.ref∧bs.length=i∧∀ (j:Nat) (b:Addr) (r:List Int),bs[j]?=some b->M[j]?=some r->b≠D∧H2 b=some (.lst ((g r).map V.int)),⟨as.length,rfl,cc _,λb o e=>?_,aC,[],rfl,rfl,λj b r e=>by simp at e⟩,?_⟩
 ·rw[aG (aI e hD)]
  exact e
 ·rintro i m ys H2 ⟨rfl,hi,hs,hd,bs,rfl,hl,hb⟩
  by_cases hlt:i<as.length
  ·have gV:i<(as.map V.ref).length:=by rw[aR];exact hlt
   obtain⟨a,r,ha,hr,_⟩:=hR.at (i:=i) (v:=(as.map V.ref)[i]) (aa gV);refine .inr ⟨rd.go i H2 hs gV,by rw[aR];omega,λv H'=>aL H2 H'∧∃ c,v = .ref c∧c≠D∧H' c=some (.lst ((g r).map V.int)),λv H' ⟨mp,c,ev,hcD,hc⟩=>⟨mp D _ hd,as.length-(i+1),by omega,rfl,hlt,λb o e=>?kp,aC,bs++[c],?app,by rw[ai,hl];rfl,λj b r' e1 e2=>?la⟩,λy H' hy=>?stp⟩
   case app =>
    rw[ev,a7];rfl
   case kp =>
    rw[aG (aI e hD)];exact mp b o (hs b o e)
   case la =>
    by_cases hj:j<bs.length
    ·rw[eh hj] at e1
     obtain⟨h1,h2⟩:=hb j b r' e1 e2;exact⟨h1,by rw[aG h1];exact mp b _ h2⟩
    ·have wx:j=bs.length:=by
      have:=(ao.mp e1).1
      rw[ai,cm] at this;omega
     subst wx;rw[dw (af _),qi] at e1;obtain rfl:c=b:=av e1;rw[hl,hr] at e2;obtain rfl:=av e2;exact⟨hcD,by rw[aG hcD];exact hc⟩
   case stp =>
    obtain⟨rfl,e2⟩:=rd.yl i H2 y H' hs hy;obtain⟨a2,r2,rfl,wp,w4⟩:=(hR.on hs).at e2;rw[hr] at wp;obtain rfl:=av wp;exact he a2 r _ (ay hr) w4 hs _ λc Z wz hc w6=>⟨wz,c,rfl,λz=>(by rw[z,hd] at hc;cases hc),w6⟩
  ·have e:i=as.length:=by omega
   have or:=rd.st H2 hs;rw[aR] at or;subst e;have w8:=hR.1;refine .inl ⟨or,hq D bs H2 hD hs hd (λb ww=>?_) ⟨by rw[hl,aR,w8],λj b r e1 e2=>?_⟩⟩
   ·obtain⟨j,hj⟩:=ii ww
    have xb:=(ao.mp hj).1;exact (hb j b _ hj (aa (show j<M.length by omega))).1
   ·rw[ah] at e2
    obtain⟨r',xa,rfl⟩:=bz.mp e2;exact SqL.of (hb j b r' e1 xa).2
theorem Zg {K:ac}{J:It}{as:List Addr}{M:List (List Int)}{te:TE}{σ:St}{H:Hp}{Q:VK}(g:List Int->Int)(rd:pB J H (as.map V.ref))(hR:dX K H as M)(hn:as.length<=sizeLine)
  (he:∀ a r H',r∈M->SqL K H' a (r.map V.int)->aL H H'->∀ N:V->Hp->Prop,(∀ Z,aL H' Z->N (.int (g r)) Z)->te (some (.ref a)::σ) H' N)
  (hq:∀ D H',H D=none->aL H H'->H' D=some (.lst ((M.map g).map V.int))->Q (.ref D) H'):jB te σ Q J H:=by
 intro D hD;have wx:=hR.1;refine⟨λi m ys H2=>m=as.length-i∧i<=as.length∧aL H H2∧H2 D=some (.lst ys)∧ys=((M.take i).map g).map V.int,⟨as.length,rfl,cc _,λb o e=>?_,aC,rfl⟩,?_⟩
 ·rw[aG (aI e hD)]
  exact e
 ·rintro i m ys H2 ⟨rfl,hi,hs,hd,rfl⟩
  by_cases hlt:i<as.length
  ·have mp:i<(as.map V.ref).length:=by rw[aR];exact hlt
   have hr:M[i]?=some (M[i]'(by omega)):=aa (by omega);refine .inr ⟨rd.go i H2 hs mp,by rw[aR,aR,cj];omega,λv H'=>v = .int (g (M[i]'(by omega)))∧aL H2 H',λv H' ⟨ev,hs'⟩=>⟨hs' D _ hd,as.length-(i+1),by omega,rfl,hlt,λb o e=>?kp,aC,?app⟩,λy H' hy=>?stp⟩
   case app =>
    rw[ev,cn,hr,a7,a7];rfl
   case kp =>
    rw[aG (aI e hD)];exact hs' b o (hs b o e)
   case stp =>
    obtain⟨rfl,e2⟩:=rd.yl i H2 y H' hs hy;obtain⟨a2,r2,rfl,or,ww⟩:=(hR.on hs).at e2;obtain rfl:=av (or.symm.trans hr);exact he a2 _ _ (ay hr) ww hs _ λZ wp=>⟨rfl,wp⟩
  ·have e:i=as.length:=by omega
   have gV:=rd.st H2 hs;rw[aR] at gV;subst e;rw[b9 (by omega)] at hd;exact .inl ⟨gV,hq D H2 hD hs hd⟩
section
variable {X:Cx}{pins:List (Addr×Obj)}{σ:St}{H:Hp}{s:kw}{a:Addr}{kvs:List (Key×V)}{k:Key}{A:Around}{E:Value->kw->Prop}
theorem Qj {v:V}{u r:Value}{Q:Value->kw->Prop}(I:Inv X pins σ H s)(e:H a=some (.dK kvs))(ry:bE (kV k) u)(rv:bE v r)(hz:kvs.length<sizeLine)
  (h1:∀ x,dF kvs k=some x->∀ w' s',Inv X pins σ H s'->bE x w'->Q w' s') (h2:dF kvs k=none->∀ s',Inv X pins σ (upd H a (.dK (fE kvs k v))) s'->Q r s') :
  wpAny (model X.prog X.w) A (call (.builtin "dict.setdefault") [.ref a,u,r]) Q E s:=by
 obtain⟨z,hd,vs,Z,dd⟩:=oV I.hok e;refine call_meetsIn nh dd.typeIs PySem.F.entry_dict_setdefault (PySem.F.args_dict_setdefault_3 _ _ _) (kt_meets_setdefault (bF X.prog X.w) a (nU ry) hd r)
  ⟨vs,dd,by rw[<- Z.length];exact z,λw' hw=>?_,λhn h' mp hs=>?_⟩
 ·cases l:dF kvs k with
  | none =>
   have:=iE.none_of (o:=valueAt vs k) (by rw[<- l];exact Z.val k)
   rw[this] at hw;cases hw
  | some x =>
   obtain⟨w2,gV,or⟩:=iE.some_of (v:=x) (o:=valueAt vs k) (by rw[<- l];exact Z.val k);rw[hw] at gV;obtain rfl:=av gV;exact h1 x l w' _ (I.tok _) or
 ·have l:dF kvs k=none:=by
   cases l:dF kvs k with
   | none=>rfl
   | some x =>
    obtain⟨w2,gV,_⟩:=iE.some_of (v:=x) (o:=valueAt vs k) (by rw[<- l];exact Z.val k);rw[hn] at gV;cases gV
  have he:∃ q,h'.get? a=some q:=let ⟨q,_,_,hq,_⟩:=mp;⟨q,hq⟩
  have hl:(fE kvs k v).length<=sizeLine:=by have:=iP kvs k v;omega
  exact h2 l _ (nV I (by rw[e];exact True.intro) hs he (Bt hl hd (Z.put k rv) mp))
end
def aAm (td ty tx:TE):TE:=λσ H Q=>td σ H λx H1=>∃ a,x = .ref a∧(∃ kvs,H1 a=some (.dK kvs))∧ty σ H1 λy H2=>tx σ H2 λz Z=>∃ kvs k,Z a=some (.dK kvs)∧y=kV k∧kvs.length<sizeLine∧(∀ v,dF kvs k=some v->Q v Z)∧(dF kvs k=none->Q z (upd Z a (.dK (fE kvs k z))))
section
variable {X:Cx}{o e f:Expr}{apos cpos:Pos}{td ty tx:TE}
theorem Gr (ho:PE X o td)(he:PE X e ty)(hf:PE X f tx)(m:M2 X o "setdefault" apos e f cpos):PE X (.Call (.Attribute o "setdefault" apos) [e,f] [] cpos) (aAm td ty tx):=by
 intro pins s σ H Q I h;refine wpAny_Call_method m.base m.few m.line qa nh PySem.F.type_dict_setdefault (thn (ho pins s σ H _ I h) λu s1 ⟨x,H1,I1,rx,a,ex,⟨kvs0,d⟩,q1⟩=>?_);subst ex;obtain rfl:u=Value.ref a:=rx;obtain⟨z0,or,wp,mp,Z⟩:=oV I1.hok d;refine⟨Z.typeIs,λb q=>?_,?_⟩
 ·cases q
  obtain⟨ob,_,_,g1,g2,_⟩:=Z;exact⟨ob,g1,g2.2.1⟩
 rw[m.trees];refine Calls.callWith_builtin rfl (Calls.evalArgs_plain (Calls.spliced_cons (thn (he pins s1 σ H1 _ I1 q1) λiv s2 ⟨y,H2,I2,ry,q2⟩ =>
  Calls.spliced_cons (thn (hf pins s2 σ H2 _ I2 q2) λfv s3 ⟨z,H3,I3,rz,kvs,k,ea,ey,hz,q3,q4⟩=>Calls.spliced_nil ?_))))
 subst ey;exact Qj I3 ea ry rz hz (λv l w' s4 I4 gV=>⟨v,H3,I4,gV,q3 v l⟩) λl s4 I4=>⟨z,_,I4,rz,q4 l⟩
end
end L2
namespace SS
open PySem PyProof.Rows L2
section
variable {prog:xv}{w:World}{A:Around}{E:Value->kw->Prop}{s:kw}
theorem Kt {a:Addr}{vs:List (Key×Value)}{ep:Nat}{R:Result->kw->Prop}(hh:A.handled=none)(hd:(a==sysModules)=false)(hD:Heap.DictAt (bF prog w) s.heap a vs ep)(hz:vs.length<=sizeLine)(S:Addr)(h1:S≠a)(hS:s.heap.get? S=some { cls:=.type "list",data:=.seq #[] })
  (hR:∀ s' Z c',(∀ b o,b≠S->s.heap.get? b=some o->s'.heap.get? b=some o)->s'.gens=s.gens->s'.os=s.os->s'.heap.get? S=some { cls:=.type "list",dict:=none,data:=.seq Z c',slots:=#[] }->ItemsOf (yX vs) Z vs.length->R (.ok (.ret .none)) s') :
  wpAny (model prog w) A.in1 (Builtin.«list.__init__» ⟨[.ref S,.ref a],[]⟩)
   (λfin s'=>match fin with | .done f=>R (.ok f) s' | .again c'=>c'.quiet=true∧codeAny (model prog w) A c' R s') (λe s'=>R (.error e) s') s:=by
 show wpAny _ _ (do let old <- Builtin.List.listItems (.ref S);Builtin.List.listUpdate (.ref S) (λ_=>#[]);letGo old.toList.reverse;Builtin.List.listExtendWith (.ref S) (.ref a) .none) _ _ s;refine AA ?_;unfold Builtin.List.listItems;refine AA (wpAny_seqItems hS rfl (AB ?_));show wpAny _ _ (updateSeq S (λ_=>#[]) >>= λ_=>letGo (#[]:Array Value).toList.reverse >>= λ_=>Builtin.List.listExtendWith (.ref S) (.ref a) .none) _ _ s;refine AA (wpAny_updateSeq hS rfl ?_);have hS₂:=AW (Obj.mapSeq (λ_=>(#[]:Array Value))) hS rfl;have gV:∀ b o,b≠S->s.heap.get? b=some o->(s.heap.update S (Obj.mapSeq (λ_=>(#[]:Array Value)))).get? b=some o :=
  λb o hb e=>(AX _ _ (Ne.symm hb)).trans e
 refine AA (wpAny_letGo ?_);have mp:Heap.DictAt (bF prog w) (s.heap.update S (Obj.mapSeq (λ_=>(#[]:Array Value)))) a vs ep:=by
  obtain⟨o,es,g,r⟩:=hD;exact⟨o,es,gV a o (Ne.symm h1) g,r⟩
 refine tT (A:=A) (s:={ s with heap:=s.heap.update S (Obj.mapSeq (λ_=>(#[]:Array Value))) }) hh hd mp hz S .none h1 hS₂ λs' Z c' kp g1 g2 e1 e2=>?_
 exact hR s' Z c' (λb o hb e=>kp b o hb (gV b o hb e)) g1 g2 e1 e2
theorem uJ {a:Addr}{vs:List (Key×Value)}{ep:Nat}{Q:Value->kw->Prop}(hh:A.handled=none)(hd:(a==sysModules)=false)(hD:Heap.DictAt (bF prog w) s.heap a vs ep)(hz:vs.length<=sizeLine)
  (hQ:∀ (s':kw) (gV:Array Value) (c':Nat),(∀ b o,s.heap.get? b=some o->s'.heap.get? b=some o)->s'.gens=s.gens->s'.os=s.os->s'.heap.get? s.heap.objs.size=some { cls:=.type "list",dict:=none,data:=.seq gV c',slots:=#[] }->ItemsOf (yX vs) gV vs.length->Q (.ref s.heap.objs.size) s') :
  wpAny (model prog w) A (call (.type "list") [.ref a]) Q E s:=by
 have mp:a<s.heap.objs.size:=by obtain⟨o,es,g,r⟩:=hD;exact AV g
 refine callType_codes (Q₁:=λobj s₁=>obj = .ref s.heap.objs.size∧s₁ = { s with heap:=s.heap.push { cls:=.type "list",data:=.seq #[] } }) F.called_list (F.typeCall_list_1 _) F.entry_list_init
  (code_list_new _ ⟨rfl,rfl⟩) λobj s₁ h₁=>?_
 obtain⟨rfl,rfl⟩:=h₁;have hS:(s.heap.push { cls:=.type "list",data:=.seq #[] }).get? s.heap.objs.size=some { cls:=.type "list",data:=.seq #[] }:=AU _ rfl
 refine⟨⟨_,hS,rfl⟩,F.args_list_init_2 _ _,Kt (A:=A.in1) (s:={ s with heap:=s.heap.push { cls:=.type "list",data:=.seq #[] } }) hh hd (wB hD) hz _ (gn mp) hS λs' Z c' kp g1 g2 e1 e2=>?_⟩
 exact⟨rfl,hQ s' Z c' (λb o e=>kp b o (az (AV e)) (AT _ e)) g1 g2 e1 e2⟩
end
end SS
namespace L2
open PySem PyProof.Rows
section
variable {X:Cx}
theorem yV:∀ {us:List Value} {ls:List (List Nat)},StrsAre us (ls.map tx)->aZ (ls.map T) us
 | [],[],_=>.nil
 | u::us,l::ls,h=>by
  cases h with
  | cons x t r=>exact .cons ⟨_,rfl⟩ (yV r)
theorem Fa (hc:X.calm=true):dR X (.type "list") (λxs H Q=>∃ (p:Addr) (ls:List (List Nat)) (kvs:List (Key×V)),xs=[.ref p]∧H p=some (.dK kvs)∧kvs.map (·.1)=ls.map (λt=>cf (tx t))∧∀ (D:Addr),H D=none->Q (.ref D) (upd H D (.lst (ls.map T)))):=by
 intro pins s σ H xs us Q I r h;obtain⟨p,ls,kvs,rfl,hq,hk,q⟩:=h;obtain⟨u,rfl,ru⟩:=fV r;cases ru;obtain⟨z,hd,vs,Z,dd⟩:=oV I.hok hq;obtain⟨o,es,ep,rest⟩:=dd;have hl:ls.length=kvs.length:=by have:=congrArg i6 hk;simpa using this.symm
 refine SS.uJ (vs:=vs) (ep:=ep) (I.ok.hd hc) hd ⟨o,es,rest⟩ (by rw[<- Z.length];exact z) λs' mp c' kp g1 g2 e1 e2=>?_
 have hv:=yV (xO hk Z e2);have hg:AllBare s'.gens:=by rw[g1];exact I.bare
 have hf:H s.heap.objs.size=none:=I.hok.fresh (af _);have gV:cF X.prog X.w (upd H s.heap.objs.size (.lst (ls.map T))) s'.heap s.heap.objs.size (.lst (ls.map T)):=⟨by rw[aR,hl];exact z,mp.toList,c',hv,by simpa using e1⟩;exact⟨.ref s.heap.objs.size,_,I.call' (ch:=[]) g2 (Un.laid kp (af _) hf) (I.hok.laid kp (af _) gV) hg (λ_ z=>nomatch z),rfl,q _ hf⟩
end
theorem Wv {K:ac}{J:It}{vs:List V}{te:TE}{σ:St}{H:Hp}{Q:VK}(g:V->List Int)(rd:pB J H vs)(hn:vs.length<=sizeLine)
  (he:∀ v H',v∈vs->aL H H'->∀ N:V->Hp->Prop,(∀ c Z,aL H' Z->H' c=none->Z c=some (.lst ((g v).map V.int))->N (.ref c) Z)->te (some v::σ) H' N)
  (hq:∀ D bs H',H D=none->aL H H'->H' D=some (.lst (bs.map V.ref))->(∀ b∈bs,b≠D)->dX K H' bs (vs.map g)->Q (.ref D) H'):jB te σ Q J H:=by
 intro D hD;refine⟨λi m ys H2=>m=vs.length-i∧i<=vs.length∧aL H H2∧H2 D=some (.lst ys)∧∃ bs:List Addr,ys=bs.map V.ref∧bs.length=i∧∀ (j:Nat) (b:Addr) (v:V),bs[j]?=some b->vs[j]?=some v->b≠D∧H2 b=some (.lst ((g v).map V.int)),⟨vs.length,rfl,cc _,λb o e=>?_,aC,[],rfl,rfl,λj b r e=>by simp at e⟩,?_⟩
 ·rw[aG (aI e hD)]
  exact e
 ·rintro i m ys H2 ⟨rfl,hi,hs,hd,bs,rfl,hl,hb⟩
  by_cases hlt:i<vs.length
  ·obtain⟨r,hr⟩:∃ r,vs[i]?=some r:=⟨_,aa hlt⟩
   refine .inr ⟨rd.go i H2 hs hlt,by rw[aR];omega,λv H'=>aL H2 H'∧∃ c,v = .ref c∧c≠D∧H' c=some (.lst ((g r).map V.int)),λv H' ⟨gV,c,ev,hcD,hc⟩=>⟨gV D _ hd,vs.length-(i+1),by omega,rfl,hlt,λb o e=>?kp,aC,bs++[c],?app,by rw[ai,hl];rfl,λj b r' e1 e2=>?la⟩,λy H' hy=>?stp⟩
   case app =>
    rw[ev,a7];rfl
   case kp =>
    rw[aG (aI e hD)];exact gV b o (hs b o e)
   case la =>
    by_cases hj:j<bs.length
    ·rw[eh hj] at e1
     obtain⟨h1,h2⟩:=hb j b r' e1 e2;exact⟨h1,by rw[aG h1];exact gV b _ h2⟩
    ·have wp:j=bs.length:=by
      have:=(ao.mp e1).1
      rw[ai,cm] at this;omega
     subst wp;rw[dw (af _),qi] at e1;obtain rfl:c=b:=av e1;rw[hl,hr] at e2;obtain rfl:=av e2;exact⟨hcD,by rw[aG hcD];exact hc⟩
   case stp =>
    obtain⟨rfl,e2⟩:=rd.yl i H2 y H' hs hy;rw[hr] at e2;obtain rfl:=av e2;exact he r _ (ay hr) hs _ λc Z ww hc wx=>⟨ww,c,rfl,λz=>(by rw[z,hd] at hc;cases hc),wx⟩
  ·have e:i=vs.length:=by omega
   have mp:=rd.st H2 hs;subst e;refine .inl ⟨mp,hq D bs H2 hD hs hd (λb or=>?_) ⟨by rw[hl,aR],λj b r e1 e2=>?_⟩⟩
   ·obtain⟨j,hj⟩:=ii or
    have w4:=(ao.mp hj).1;exact (hb j b _ hj (aa (show j<vs.length by omega))).1
   ·rw[ah] at e2
    obtain⟨r',wz,rfl⟩:=bz.mp e2;exact SqL.of (hb j b r' e1 wz).2
section
variable {X:Cx}{pins:List (Addr×Obj)}{σ:List (Option V)}{H H':Hp}{s:kw}
theorem Inv.reH (I:Inv X pins σ H s)(free:∀ b,H b=none->H' b=none)(tups:∀ b xs,X.H₀ b=some (.tup xs)->H' b=some (.tup xs))(frzs:∀ b o u,X.H₀ b=some (.frz o u)->H' b=some (.frz o u))(tbls:∀ b ps,X.H₀ b=some (.tbl ps)->∃ more,H' b=some (.tbl (ps++more)))
  (hok:HOk X.prog X.w H' s.heap):Inv X pins σ H' s :=
 ⟨I.ok,I.os,I.bare,⟨I.base.keep,I.base.slot,λb o e n hx=>free b (I.base.free b o e n hx),I.base.there,tups,frzs,tbls⟩,I.loc,I.cell,free _ I.free,λx c e=>free _ (I.freeC x c e),λp Z=>⟨(I.pin p Z).1,free _ (I.pin p Z).2.1,(I.pin p Z).2.2⟩,hok,I.len⟩
theorem Jf {P:xv}{w:World}{h:Heap}{a:Addr}{u v:HO}(x:HOk P w H h)(ha:H a=some u)(h1:∀ y,u≠.own y)(h2:∀ xs,u≠.tup xs)(ok:cF P w H h a v):HOk P w (upd H a v) h:=by
 have ho:∀ y b,H b=some (.own y)->upd H a v b=some (.own y):=λy b e=>by
  rw[aG (λz=>by rw[z,ha] at e;exact h1 y (av e))];exact e
 have Z:∀ b xs,H b=some (.tup xs)->upd H a v b=some (.tup xs):=λb xs e=>by
  rw[aG (λz=>by rw[z,ha] at e;exact h2 xs (av e))];exact e
 intro b o e;by_cases c:b=a
 ·subst c
  rw[aC] at e;cases e;exact ok.stay (λ_ _ _ e=>e) (λc=>ho b c) Z
 ·rw[aG c] at e
  exact (x b o e).stay (λ_ _ _ e=>e) (λc=>ho b c) Z
theorem Inv.freeze {a:Addr}{kvs:List (Key×V)}(I:Inv X pins σ H s)(e:H a=some (.dK kvs)):∃ o,s.heap.get? a=some o∧Inv X pins σ (upd H a (.frz o (.dK kvs))) s:=by
 have hx:cF X.prog X.w H s.heap a (.dK kvs):=I.hok a _ e;obtain⟨o,ho⟩:∃ o,s.heap.get? a=some o:=by
  obtain⟨_,_,_,_,o,_,_,q,_⟩:=hx;exact⟨o,q⟩
 have ne:∀ b u,X.H₀ b=some u->H b=some u->(∀ k,u≠.dK k)->upd H a (.frz o (.dK kvs)) b=some u:=λb u _ q n=>by
  rw[aG (λz=>by rw[z,e] at q;exact n _ (av q).symm)];exact q
 refine⟨o,ho,I.reH (λb n=>?_) (λb xs q=>ne b _ q (I.base.tups b xs q) (λk z=>nomatch z)) (λb o' u q=>ne b _ q (I.base.frzs b o' u q) (λk z=>nomatch z)) (λb ps q=>?_) (Jf I.hok e (λy z=>nomatch z) (λxs z=>nomatch z) ⟨ho,hx⟩)⟩
 ·rw[aG (λz=>by rw[z,e] at n;cases n)];exact n
 ·obtain⟨m,Z⟩:=I.base.tbls b ps q
  exact⟨m,by rw[aG (λz=>by rw[z,e] at Z;cases Z)];exact Z⟩
theorem Inv.thaw {a:Addr}{o:Obj}{kvs:List (Key×V)}(I:Inv X pins σ H s)(e:H a=some (.frz o (.dK kvs)))(Z:X.H₀ a=none):Inv X pins σ (upd H a (.dK kvs)) s:=by
 obtain⟨_,hx⟩:cF X.prog X.w H s.heap a (.frz o (.dK kvs)):=I.hok a _ e;refine I.reH (λb n=>?_) (λb xs q=>?_) (λb o' u q=>?_) (λb ps q=>?_) (Jf I.hok e (λy z=>nomatch z) (λxs z=>nomatch z) hx)
 ·rw[aG (λz=>by rw[z,e] at n;cases n)];exact n
 ·rw[aG (λz=>by rw[z,Z] at q;cases q)];exact I.base.tups b xs q
 ·rw[aG (λz=>by rw[z,Z] at q;cases q)];exact I.base.frzs b o' u q
 ·rw[aG (λz=>by rw[z,Z] at q;cases q)];exact I.base.tbls b ps q
end
def Itk (a:Addr)(o:Obj)(kvs:List (Key×V)):It :=
 ⟨λi H=>H a=some (.frz o (.dK kvs))∧i<kvs.length,λi H x H'=>H'=H∧∃ Z,kvs[i]?=some Z∧x=kV Z.1,λi H=>H a=some (.frz o (.dK kvs))∧kvs.length<=i⟩
theorem Oa {P:xv}{w:World}{k:Key}{u:Value}(h:(bF P w).is k u=true):bE (kV k) u:=by
 cases k with
 | inl i =>
  have h:Value.isInt i u=true:=h
  have:∃ t,u = .int i t:=by cases u <;> simp_all [Value.isInt]
  obtain⟨t,rfl⟩:=this;exact⟨t,rfl⟩
 | inr x =>
  obtain⟨t,rfl⟩:=Value.isStrOf_shape (show Value.isStrOf x u=true from h);exact⟨t,rfl⟩
theorem Mp {P:xv}{w:World}{K:ac}{tg:Expr}{a it:Addr}{o:Obj}{kvs:List (Key×V)}{vs:List (Key×Value)}{ep:Nat}(hK:KV kvs vs)(hd:∀ h:Heap,h.get? a=some o->h.DictAt (bF P w) a vs ep) :
  wQ P w K tg (Itk a o kvs) [it] it (λi h=>h.IsKeyIter it a i vs.length ep) where
 mem:=by simp
 obj:=λi h st b hb=>by
  have e:b=it:=by simpa using hb
  subst e;obtain⟨o,e,c,d⟩:=st;exact⟨o,e,λv z=>by rw[d] at z;cases z⟩
 keep:=λi h h' st k=>st.at λo e=>k it (by simp) o e
 item:=by
  intro X hP hw Z hc i pins s σ H E I hf st hg;subst hP hw Z;obtain⟨ha,hi⟩:=hg;obtain⟨ho,_⟩:cF X.prog X.w H s.heap a (.frz o (.dK kvs)):=I.hok a _ ha;have hl:=hK.length;obtain⟨f0,f1,f2,f3,f4,f5⟩:=hf it (by simp);have gV:vs[i]?=some vs[i]:=aa (by omega);have mp:kvs[i]?=some kvs[i]:=aa hi;have wp:kvs[i].1=vs[i].1:=by
   have:=hK.keys
   have h1:(kvs.map (·.1))[i]?=(vs.map (·.1))[i]?:=by rw[this]
   rw[ah,ah,mp,gV] at h1;exact av h1
  refine wpAny_pyNext_dict_item (k:=vs[i].1) (v:=vs[i].2) st (hd _ ho) gV λww h' or st' sb=>?_
  have I1:Inv X pins σ H { s with heap:=h' }:=I.turned (t':=s.toks) (λb o hb e=>(sb.2 b hb).trans e) f0 f1 f3 f4 f5;exact⟨ww,rfl,letGo_keyiter (s':={ s with heap:=h' }) st' ⟨kV kvs[i].1,H,I1,by rw[wp];exact Oa or,⟨rfl,_,mp,rfl⟩,st',λb hb=>(hf b hb).1⟩⟩
 done:=by
  intro X hP hw Z hc i pins s σ H E I hf st hg;subst hP hw Z;obtain⟨ha,hi⟩:=hg;obtain⟨ho,_⟩:cF X.prog X.w H s.heap a (.frz o (.dK kvs)):=I.hok a _ ha;have hl:=hK.length;obtain⟨f0,f1,f2,f3,f4,f5⟩:=hf it (by simp);exact wpAny_pyNext_dict_end (I.ok.hd hc) st (hd _ ho) (c8 (by omega)) λh' eb=>⟨rfl,I.turned (t':=s.toks) (λb o hb e=>eb b o hb e) f0 f1 f3 f4 f5⟩
 self:=λ_ _ _ _ _ st h=>wpAny_pyIter_keyiter st h
def aAS (td:TE):TI:=λσ H R=>td σ H λx H1=>∃ a kvs,x = .ref a∧H1 a=some (.dK kvs)∧∀ o,R (Itk a o kvs) (upd H1 a (.frz o (.dK kvs)))
section
variable {X:Cx}{tg:Expr}
theorem Uh {l:Expr}{tl:TE}(hl:PE X l tl):PI X tg l (aAS tl):=by
 intro pins s σ H R I h;refine thn (hl pins s σ H _ I h) λv s1 ⟨x,H1,I1,r1,q1⟩=>?_
 obtain⟨a,kvs,e,ha,q⟩:=q1;subst e;cases r1;obtain⟨z,mp,vs,gV,dd⟩:=oV I1.hok ha;obtain⟨ep,Z⟩:=dd.dictAt;obtain⟨o,ho,I2⟩:=I1.freeze ha;refine wpAny_pyIter_dict mp Z ?_;refine⟨s1.heap.objs.size,[s1.heap.objs.size],_,_,_,rfl,I2.kept (t':=s1.toks) λb o e=>AT _ e,Mp gV (λh e=>Z.at' λo' e'=>by rw[ho] at e';rw[<- e'];exact e),⟨_,AU _ rfl,rfl,rfl⟩,λb hb=>?_,q o⟩;have e:b=s1.heap.objs.size:=by simpa using hb
 subst e;exact I2.fpOk (af _) (I2.hok.fresh (af _))
def aAC (H₀:Hp)(t:TE):TE:=λσ H Q=>t σ H λv H'=>∃ a o kvs,H' a=some (.frz o (.dK kvs))∧H₀ a=none∧Q v (upd H' a (.dK kvs))
theorem Ue {e:Expr}{t:TE}(h:PE X e t):PE X e (aAC X.H₀ t):=by
 intro pins s σ H Q I hw;refine thn (h pins s σ H _ I hw) λv s1 ⟨x,H1,I1,r1,a,o,kvs,ha,h0,q⟩=>?_
 exact⟨x,_,I1.thaw ha h0,r1,q⟩
end
open PySem.Spec
end L2
namespace L2
open PySem PyProof.Rows
theorem Pp {a:Addr}{o:Obj}{kvs:List (Key×V)}{g:TG}{tb:TS}{D:jJ}{σ:St}{H:Hp}(Z:Nat->St->Hp->Prop)(h0:Z 0 σ H)(hl:∀ i σ H,i<=kvs.length->Z i σ H->H a=some (.frz o (.dK kvs)))
  (hs:∀ i kv σ H,kvs[i]?=some kv->Z i σ H->g (kV kv.1) σ H λσ2 H2=>tb { D with nx:=Z (i+1),ct:=Z (i+1),bk:=D.nx } σ2 H2) (hd:∀ σ H,Z kvs.length σ H->D.nx σ H) :
  ∃ W:Nat->Nat->St->Hp->Prop,(∃ m,W 0 m σ H)∧∀ i m σ H,W i m σ H ->
   ((Itk a o kvs).stop i H∧D.nx σ H)∨((Itk a o kvs).go i H∧∃ N:St->Hp->Prop,(∀ σ' H',N σ' H'->∃ m',m'<m∧W (i+1) m' σ' H')∧∀ x H',(Itk a o kvs).yld i H x H'->g x σ H' λσ2 H2=>tb { D with nx:=N,ct:=N,bk:=D.nx } σ2 H2):=by
 refine⟨λi m σ H=>m=kvs.length-i∧i<=kvs.length∧Z i σ H,⟨kvs.length,by simp,cc _,h0⟩,?_⟩;rintro i m σ H ⟨rfl,hi,p⟩;have hA:=hl i σ H hi p;by_cases hlt:i<kvs.length
 ·refine .inr ⟨⟨hA,hlt⟩,Z (i+1),λσ' H' p'=>⟨kvs.length-(i+1),by omega,rfl,hlt,p'⟩,λx H' hy=>?_⟩
  obtain⟨rfl,kv,e,rfl⟩:=hy;exact hs i kv σ _ e p
 ·have e:i=kvs.length:=by omega
  subst e;exact .inl ⟨⟨hA,af _⟩,hd σ H p⟩
open PySem.Spec
section
variable {X:Cx}
theorem Kl {pins:List (Addr×Obj)}{σ:St}{H:Hp}{s:kw}{A:Around}(I:Inv X pins σ H s)(hu:A.units<cLine){D F:Addr}{ls:List (List Nat)}(h1:SqL X.K H D (ls.map T))(h2:SqL X.K H F (ls.map T)):SeqAt.EqAt A s (.ref D) (.ref F) true:=by
 by_cases hne:D=F
 ·subst hne
  exact SeqAt.EqAt.same _
 obtain⟨Z,r,pl,_⟩:=I.list h1;obtain⟨gV,r2,mp,_⟩:=I.list h2;have l1:=r.length;have l2:=r2.length;have z:=SeqAt.EqAt.of_refs hne (SeqAt.RcAt.lists (A:=A) (s:=s) (e:=λ_=>true) pl.isList mp.isList (by rw[aj,aj];omega) hu λj g1 g2=>?_)
 ·rw[show (bt Z.toArray.size).all (λ_=>true)=true by simp] at z
  exact z
 ·have hj:j<ls.length:=by
   rw[aR] at l1;rw[aj] at g1;omega
  obtain⟨u',e1,q1⟩:=r.get (i:=j) (x:=T ls[j]) (by rw[ah,aa hj];rfl);obtain⟨w',e2,q2⟩:=r2.get (i:=j) (x:=T ls[j]) (by rw[ah,aa hj];rfl);have e:=iY (A:=A.in1) (s:=s) q1 q2 rfl rfl;rw[show eqV (T ls[j]) (T ls[j])=true from by show (tx ls[j]==tx ls[j])=true;rw[AK]] at e;have a1:Z.toArray[j]=u':=by
   rw[k7];exact (ao.mp e1).2
  have a2:gV.toArray[j]=w':=by
   rw[k7];exact (ao.mp e2).2
  rw[a1,a2];exact e
end
end L2
namespace L2
open PySem PyProof.Rows
def SqA (K:ac)(H:Hp)(a:Addr)(xs:List V):Prop:=SqL K H a xs∨SqT K H a xs
theorem SqA.on {K:ac}{H H':Hp}{a:Addr}{xs:List V}(h:SqA K H a xs)(s:aL H H'):SqA K H' a xs:=h.elim (λh=>.inl (s.seq h)) λh=>.inr (xZ s h)
def iSq (K:ac)(tl:TE):TI:=λσ H R=>tl σ H λx H1=>∃ a xs Z,x = .ref a∧SqA K Z a xs∧aL Z H1∧∀ J,pB J Z xs->R J H1
section
variable {X:Cx}{tg:Expr}
theorem Xm {l:Expr}{tl:TE}(hl:PE X l tl):PI X tg l (iSq X.K tl):=by
 intro pins s σ H R I h;refine thn (hl pins s σ H _ I h) λv s1 ⟨x,H1,I1,r1,q1⟩=>?_
 obtain⟨a,xs,H0,e,hq0 | hq0,s0,q0⟩:=q1
 ·have hq:=s0.seq hq0
  have q:=q0 _ (cJ hq0);subst e;cases r1;obtain⟨Z,rv,p,hz⟩:=I1.list hq;refine wpAny_pyIter_list p.isList ?_;refine⟨s1.heap.objs.size,[s1.heap.objs.size],_,_,H1,rfl,I1.kept (t':=s1.toks) λb o e=>AT _ e,yY a _,⟨_,AU _ rfl,rfl,rfl⟩,λb hb=>?_,q⟩;have e:b=s1.heap.objs.size:=by simpa using hb
  subst e;exact I1.fpOk (af _) (I1.hok.fresh (af _))
 ·have hq:=xZ s0 hq0
  have q:=q0 _ (hG hq0);subst e;cases r1;obtain⟨Z,rv,p,hz⟩:=I1.tuple hq;refine wpAny_pyIter_tuple (show s1.heap.IsTuple a Z.toArray from p) ?_;refine⟨s1.heap.objs.size,[s1.heap.objs.size],_,_,H1,rfl,I1.kept (t':=s1.toks) λb o e=>AT _ e,vR a _,⟨_,AU _ rfl,rfl,rfl⟩,λb hb=>?_,q⟩;have e:b=s1.heap.objs.size:=by simpa using hb
  subst e;exact I1.fpOk (af _) (I1.hok.fresh (af _))
theorem oO (K:ac)(Z:X.K=K){l:Expr}{tl:TE}(hl:PE X l tl):PI X tg l (iSq K tl):=by
 subst Z;exact Xm hl
end
theorem qR {J:It}{H0:Hp}{vs:List V}{g:TG}{tb:TS}{D:jJ}{σ:St}{H:Hp}(rd:pB J H0 vs)(Z:Nat->St->Hp->Prop)(h0:Z 0 σ H)(hl:∀ i σ H,i<=vs.length->Z i σ H->aL H0 H)
  (hs:∀ i x σ H,vs[i]?=some x->Z i σ H->g x σ H λσ2 H2=>tb { D with nx:=Z (i+1),ct:=Z (i+1),bk:=D.nx } σ2 H2) (hd:∀ σ H,Z vs.length σ H->D.nx σ H) :
  ∃ W:Nat->Nat->St->Hp->Prop,(∃ m,W 0 m σ H)∧∀ i m σ H,W i m σ H ->
   (J.stop i H∧D.nx σ H)∨(J.go i H∧∃ N:St->Hp->Prop,(∀ σ' H',N σ' H'->∃ m',m'<m∧W (i+1) m' σ' H')∧∀ x H',J.yld i H x H'->g x σ H' λσ2 H2=>tb { D with nx:=N,ct:=N,bk:=D.nx } σ2 H2):=by
 refine⟨λi m σ H=>m=vs.length-i∧i<=vs.length∧Z i σ H,⟨vs.length,by simp,cc _,h0⟩,?_⟩;rintro i m σ H ⟨rfl,hi,p⟩;have hA:=hl i σ H hi p;by_cases hlt:i<vs.length
 ·refine .inr ⟨rd.go i H hA hlt,Z (i+1),λσ' H' p'=>⟨vs.length-(i+1),by omega,rfl,hlt,p'⟩,λx H' hy=>?_⟩
  obtain⟨rfl,e⟩:=rd.yl i H x H' hA hy;exact hs i x σ _ e p
 ·have e:i=vs.length:=by omega
  subst e;exact .inl ⟨rd.st H hA,hd σ H p⟩
open PySem.Spec
section
variable {X:Cx}
theorem Rt (K:ac)(hK:X.K=K)(hu:X.A.units<cLine):OpR X (compareOp .NotEq) (λx y H Q=>∃ (p b:Addr) (ys:List V),x = .ref p∧y = .ref b∧SqL K H p ys∧SqL K H b []∧Q (.bl (!ys.isEmpty)) H):=by
 subst hK;intro pins s σ H x y v u Q I rx ry h;obtain⟨p,b,ys,rfl,rfl,h1,h2,q⟩:=h;cases rx;cases ry;obtain⟨mp,r,pl,_⟩:=I.list h1;obtain⟨gV,r2,Z,_⟩:=I.list h2;have l1:=r.length;have l2:=r2.length
 cases ys with
 | nil =>
  have e1:mp=[]:=a8.mp l1.symm;have e2:gV=[]:=a8.mp l2.symm;subst e1 e2;refine SeqAt.RcNeAt.lists (e:=λ_=>true) pl.isList Z.isList rfl hu (λj g1 g2=>absurd g1 (by simp)) _ _ _ _ ?_;exact⟨.bl _,H,I,rfl,q⟩
 | cons y ys =>
  refine SeqAt.RcNeAt.lists_lengths pl.isList Z.isList (by rw[aj,aj,bne_iff_ne];simp only [ar,lm] at l1 l2;omega) hu _ _ _ _ ?_;exact⟨.bl _,H,I,rfl,q⟩
end
end L2
namespace L2
open PySem
open PyProof.Rows PySem.Spec
section
variable {X:Cx}
theorem mQ {pins:List (Addr×Obj)}{σ:St}{H:Hp}{s:kw}{v:Value}{ls:List (List Nat)}{Q:VK}(wx:ls.length<64)
  (hc:∀ (A':Around) (Q':List Value->kw->Prop),A'.handled=X.A.handled->(∀ (vs:List Value) (ss:List Str) (s1:kw),StrsAre vs ss->ss.Perm (ls.map tx)->Inv X pins σ H s1->Q' vs s1)->wpAny (model X.prog X.w) A' (collect v) Q' X.xe s)
  (q:∀ (ms:List (List Nat)) (D:Addr),H D=none->ms.Perm ls->ms.Pairwise (λa b=>¬ b<a)->Q (.ref D) (upd H D (.lst (ms.map T)))) :
  wpAny (model X.prog X.w) X.A (call (.builtin "sorted") [v]) (EP X pins σ Q) X.xe s:=by
 have hz:ls.length<=sizeLine:=by rw[AG];omega
 refine Calls.call_function_entry kind_sorted plain_sorted entry_sorted (args_sorted1 _) ?_;unfold Builtin.«sorted»;refine AA (m:=checkCount "sorted" 1 1 _) (AB (AA (hc _ _ (by simp) λvs ss s1 hS hp I1=>AA (wpAny_newList ?_ (by rw[hS.length,hp.length_eq,aR];exact hz)))))
 have e2:(s1.heap.push (seqObj "list" vs.toArray 0)).get? s1.heap.objs.size=some (seqObj "list" vs.toArray 0):=AU _ rfl
 have ww:vs.length=ls.length:=by rw[hS.length,hp.length_eq,aR]
 show wpAny _ _ _ _ _ { s1 with heap:=s1.heap.push (seqObj "list" vs.toArray 0) }
 have wp:∀ (out:Array Value) (Z:List Str),StrsAre out.toList Z->Z.Perm ss->sortedS Z=true->EP X pins σ Q (.ref s1.heap.objs.size) { s1 with heap:=sortedHeap (s1.heap.push (seqObj "list" vs.toArray 0)) s1.heap.objs.size vs out }:=λout Z b1 b2 b3=>by
  obtain⟨e,he⟩:=sortedHeap_at (out:=out) e2;have em:(Z.map λx=>x.cps.toList).map tx=Z:=by
   rw[bv]
   conv=>rhs;rw[<- lu Z]
   exact b8 λx _=>kD x
  have mp:(Z.map λx=>x.cps.toList).Perm ls:=by
   have y:=(b2.trans hp).map λx=>x.cps.toList
   rw[bv,show (λx=>x.cps.toList)∘tx=id from funext dZ,lu] at y;exact y
  refine⟨.ref _,_,I1.laid (t':=s1.toks) (λb o eo=>?_) (af _) (o:=.lst ((Z.map λx=>x.cps.toList).map T)) ⟨?_,out.toList,e,rH b1,by simpa using he⟩,rfl,q _ _ (I1.hok.fresh (af _)) mp (yG _ (by rw[em];exact b3))⟩
  ·have or:=AV eo
   rw[sortedHeap_old (az or) (by rw[size_push'];exact fj or)];exact AT _ eo
  ·rw[aR,mp.length_eq]
   exact hz
 refine AA (AM (AS slot_list_sort ⟨_,e2,rfl⟩ entry_list_sort (list_sort_treeK strKind_oneLt e2 hS.keysOf (λv1 v2 r e=>?_) (by omega) λst' a1 a2=>⟨_,rfl,AB ⟨_,rfl,?_⟩⟩) (args_list_sort _)))
 ·have gV:=hS
  rw[e] at gV;exact keyKind_strs gV
 ·obtain⟨Z,b1,b2,b3⟩:=sorted_out_str hS a1 a2
  exact wp _ Z b1 b2 b3
theorem wN (hc:X.calm=true):dR X (.builtin "sorted") (λxs H Q=>∃ (p:Addr) (ls:List (List Nat)),xs=[.ref p]∧H p=some (nS X.w p ls)∧ls.length<64∧∀ (ms:List (List Nat)) (D:Addr),H D=none->ms.Perm ls->ms.Pairwise (λa b=>¬ b<a)->Q (.ref D) (upd H D (.lst (ms.map T)))):=by
 intro pins s σ H xs us Q I r h;obtain⟨p,ls,rfl,hq,hz,q⟩:=h;obtain⟨u,rfl,ru⟩:=fV r;cases ru;have hs:=AG;refine mQ hz (λA' Q' hA hQ=>SS.Gk (by rw[hA];exact I.ok.hd hc) (Ae I hq) (by rw[aR];omega) λs' vs ss kp g1 g2 e1 e2=>hQ vs ss s' e1 e2 ?_) q;have Z:AllBare s'.gens:=by rw[g1];exact I.bare
 exact I.call' (ch:=[]) g2 (Un.kept kp) (I.hok.kept kp) Z λ_ z=>nomatch z
theorem xB (hc:X.calm=true):dR X (.builtin "sorted") (λxs H Q=>∃ (p:Addr) (ls:List (List Nat)) (kvs:List (Key×V)),xs=[.ref p]∧H p=some (.dK kvs)∧kvs.map (·.1)=ls.map (λt=>cf (tx t))∧ls.length<64∧∀ (ms:List (List Nat)) (D:Addr),H D=none->ms.Perm ls->ms.Pairwise (λa b=>¬ b<a)->Q (.ref D) (upd H D (.lst (ms.map T)))):=by
 intro pins s σ H xs us Q I r h;obtain⟨p,ls,kvs,rfl,hq,hk,gV,q⟩:=h;obtain⟨u,rfl,ru⟩:=fV r;cases ru;obtain⟨z,hd,vs,Z,dd⟩:=oV I.hok hq;obtain⟨o,es,ep,rest⟩:=dd;have hl:ls.length=kvs.length:=by have:=congrArg i6 hk;simpa using this.symm
 refine mQ gV (λA' Q' hA hQ=>SS.Et (vs:=vs) (ep:=ep) (by rw[hA];exact I.ok.hd hc) hd ⟨o,es,rest⟩ (by rw[<- Z.length];exact z) λs' mp kp g1 g2 e1=>hQ _ (ls.map tx) s' (xO hk Z e1) (ej _) ?_) q;have hg:AllBare s'.gens:=by rw[g1];exact I.bare
 exact I.call' (ch:=[]) g2 (Un.kept kp) (I.hok.kept kp) hg λ_ z=>nomatch z
end
end L2
namespace SN
open PySem PyProof.Rows SS
def nB:Value->Int
 | .int x _=>x
 | _=>0
def El (w:World)(e:Int×Value):Prop:=e.1=hashInt (nB e.2)∧∃ t,e.2 = .int (nB e.2) t
def Els (w:World)(es:List (Int×Value))(ms:List Int):Prop:=(∀ e∈es,El w e)∧(es.map λe=>nB e.2).Perm ms
def Rs (t:SetTable):Prop:=(∀ i j,i<j->j<t.place.size->t.place.getD i 0<t.place.getD j 0)∧t.dummies = #[]
def Is (w:World)(h:Heap)(a:Addr)(ms:List Int):Prop :=
 ∃ o es ep t,h.get? a=some o∧o.ExactSet∧o.data = .set es ep t∧Els w es.toList ms∧ms.Nodup∧es.size<scanBound∧t.fits es.size=true∧(byT w=true∨t.led=true)∧Rs t
end SN
namespace L2
open PySem PySem.Spec PyProof.Rows
namespace SEN
def Of (w:World)(h:Heap)(D:Addr)(ls:List Int)(i:Nat):Prop:=∃ ms,SN.Is w h D ms∧(∀ x,x∈ms↔x∈ls.take i)∧ms.length<=i
end SEN
end L2
namespace L2
open PySem PySem.W PyProof.Rows
section
variable {X:Cx}
theorem uZ:dR X (.builtin "sorted") (λxs H Q=>∃ (p:Addr) (ls:List (List Nat)),xs=[.ref p]∧SqT X.K H p (ls.map T)∧ls.length<64∧∀ (ms:List (List Nat)) (D:Addr),H D=none->ms.Perm ls->ms.Pairwise (λa b=>¬ b<a)->Q (.ref D) (upd H D (.lst (ms.map T)))):=by
 intro pins s σ H xs us Q I r h;obtain⟨p,ls,rfl,hq,gV,q⟩:=h;obtain⟨u,rfl,ru⟩:=fV r;cases ru;obtain⟨mp,rv,⟨o,ho,hc,n,hd⟩,hz⟩:=I.tuple hq;have Z:=rv.length;rw[aR] at Z hz;exact mQ gV (λA' Q' _ hQ=>wpAny_collect_seq p (.inr rfl) ho hc hd (λh' kp=>hQ _ _ _ (qZ rv) (ej _) (I.kept (t':=s.toks) kp)) (by rw[aj];omega)) q
theorem wU:dR X (.builtin "sorted") (λxs H Q=>∃ (p:Addr) (ls:List (List Nat)),xs=[.ref p]∧SqA X.K H p (ls.map T)∧ls.length<64∧∀ (ms:List (List Nat)) (D:Addr),H D=none->ms.Perm ls->ms.Pairwise (λa b=>¬ b<a)->Q (.ref D) (upd H D (.lst (ms.map T)))) :=
 λpins s σ H xs us Q I r ⟨p,ls,e,h,k⟩=>h.elim (λh=>fP pins s σ H xs us Q I r ⟨p,ls,e,h,k⟩) λh=>uZ pins s σ H xs us Q I r ⟨p,ls,e,h,k⟩
theorem Ka (Z:X.calm=true):dR X (.type "set") (λxs H Q=>∃ (p:Addr) (ls:List (List Nat)),xs=[.ref p]∧SqA X.K H p (ls.map T)∧ls.length+1<4096∧∀ D,H D=none->Q (.ref D) (upd H D (By X.prog X.w D (uniq ls)))) :=
 λpins s σ H xs us Q I r ⟨p,ls,e,h,k⟩=>h.elim (λh=>Kz Z pins s σ H xs us Q I r ⟨p,ls,e,h,k⟩) λh=>Hk Z pins s σ H xs us Q I r ⟨p,ls,e,h,k⟩
theorem aAj:IxR X (λx y H Q=>∃ (p:Addr) (xs:List V) (i:Int) (v:V),x = .ref p∧y = .int i∧SqA X.K H p xs∧atI xs i=some v∧Q v H) :=
 λvalue Z pins s σ H x y v u Q I rx ry ⟨p,xs,i,z,e1,e2,h,k⟩ hs=>h.elim (λh=>bW value Z pins s σ H x y v u Q I rx ry ⟨p,xs,i,z,e1,e2,h,k⟩ hs) λh=>lO value Z pins s σ H x y v u Q I rx ry ⟨p,xs,i,z,e1,e2,h,k⟩ hs
end
end L2
namespace L2
open PySem PyProof.Rows
open PySem.Spec
section
variable {X:Cx}
theorem Ll (hc:X.calm=true):dR X (.builtin "all") (λxs H Q=>∃ (p:Addr) (bs:List Bool),xs=[.ref p]∧SqL X.K H p (bs.map V.bl)∧Q (.bl (bs.all id)) H):=by
 intro pins s σ H xs us Q I r h;obtain⟨p,bs,rfl,hq,q⟩:=h;obtain⟨u,rfl,ru⟩:=fV r;cases ru;obtain⟨Z,rv,pl,_⟩:=I.list hq;have mp:=rv.length;rw[aR] at mp;have wp:∀ (i:Nat) (v:Value),Z.toArray[i]?=some v->v = .bool (bs.getD i false):=λi v e=>by
  have hi:i<bs.length:=by
   have:=(ox.mp e).1
   rw[aj] at this;omega
  obtain⟨w',e1,q1⟩:=rv.get (i:=i) (x:=.bl bs[i]) (by rw[ah,aa hi];rfl);rw[mj,e1] at e;obtain rfl:=av e;rw[ak,aa hi];exact q1
 have or:(bt Z.toArray.size).all (λi=>bs.getD i false)=bs.all id:=by
  rw[aj,<- mp,cu,dz,dz];constructor
  ·intro h b hb
   obtain⟨i,hi⟩:=ii hb;have gV:=(ao.mp hi).1
   have:=h i (ck.mpr gV)
   rw[ak,hi] at this;exact this
  ·intro h i hi
   have gV:=ck.mp hi;rw[ak,aa gV];exact h _ (dk gV)
 have ww:p≠s.heap.objs.size:=by
  obtain⟨o,ho,_⟩:=id pl.isList;exact az (AV ho)
 refine call_all_walk (wpAny_pyIter_list pl.isList ⟨s.heap.objs.size,[s.heap.objs.size,p],[s.heap.objs.size],Z.toArray.size,_,_,λi=>bs.getD i false,rfl,Walks.list (A:=X.A.in1) (show X.A.in1.handled=none from I.ok.hd hc) s.heap.objs.size p ww Z.toArray,⟨⟨_,AU _ rfl,rfl,rfl⟩,pl.isList.at λo e=>AT _ e⟩,?_,λh' tk hk=>?_⟩)
 ·intro i v s' Q' E' hP hQ
  rw[wp i v hP];exact A1 hQ
 ·rw[or]
  exact⟨.bl _,H,I.kept (λb o e=>hk b o (by simp;exact az (AV e)) (AT _ e)),rfl,q⟩
end
end L2
namespace L2
open PySem
section
variable {X:Cx}
theorem Vi {st:Stmt}{t t':TS}(h:PS X st t)(hw:∀ (D:jJ) (σ:St) (H:Hp),t' D σ H->t D σ H):PS X st t':=λpins s σ H D I q=>h pins s σ H D I (hw D σ H q)
end
open PyProof.Rows
open PySem.Spec
end L2
namespace L2
open PySem PyProof.Rows PySem.Spec
structure Cmt (P:xv)(w:World)(K:ac)(mg:Str->Option Value)(base:Heap)(CX:CXT)(C:Addr)(m:Str)(k:Nat)(ps:List Str)(sp:Sp):Prop where
 ex:∃ (f:Addr) (fd:wh),bI P w K mg base CX k f fd ps sp∧Pf K C m f∧Cls K C∧fD K fd ps []
section
variable {X:Cx}
theorem Wy {CX:CXT}{C:Addr}{m:Str}{j k:Nat}{ps:List Str}{sp:Sp}{E:XK}{o e:Expr}{es:List Expr}{ta:TE}{t:TA}{apos pos:Pos}{pl:Sem Bool}(c:Cmt X.prog X.w X.K X.mg X.base CX C m j ps sp)(hr:eF k X.A)(hx:gA CX X E)(he:PE X o ta)(ha:PA X (e::es) t)
  (gV:j<=k:=by decide) (Z:starEach (e::es) X.env=(false,eval e X.env)::starEach es X.env:=by rfl) (mp:(backTo pos (starEach es X.env)).any (·.1)=false:=by rfl)
  (ht:eval (.Call (.Attribute o m apos) (e::es) [] pos) X.env=(do
   let ov <- eval o X.env
   standAt apos.atName
   let (f,first) <- holding [ov] (getMethod ov m pl)
   callWith pos f first (backTo pos (starEach (e::es) X.env)) (backToKw pos (keywordEach [] X.env))):=by rfl) :
  PE X (.Call (.Attribute o m apos) (e::es) [] pos) (Jv C m sp [] E ta t):=by
 obtain⟨f,fd,F,hm,cl,hb⟩:=c.ex;exact Tx he cl hm F (hr.mono gV) hb .nil hx ha Z mp ht
theorem dJ {CX:CXT}{C:Addr}{m:Str}{j k:Nat}{ps:List Str}{sp:Sp}{E:XK}{o:Expr}{ta:TE}{apos pos:Pos}{pl:Sem Bool}(c:Cmt X.prog X.w X.K X.mg X.base CX C m j ps sp)(hr:eF k X.A)(hx:gA CX X E)(he:PE X o ta)
  (Z:j<=k:=by decide)
  (ht:eval (.Call (.Attribute o m apos) [] [] pos) X.env=(do
   let ov <- eval o X.env
   standAt apos.atName
   let (f,first) <- holding [ov] (getMethod ov m pl)
   callWith pos f first (backTo pos (starEach [] X.env)) (backToKw pos (keywordEach [] X.env))):=by rfl) :
  PE X (.Call (.Attribute o m apos) [] [] pos) (Jv C m sp [] E ta Rq):=by
 obtain⟨f,fd,F,hm,cl,hb⟩:=c.ex;exact Ob he cl hm F (hr.mono Z) hb .nil hx ht
def Zc (X:Cx)(pins:List (Addr×Obj))(σ:St)(R:Value->Option Addr->Hp->Prop)(e:Value)(s':kw):Prop :=
 ∃ a cls od H s1 H',e = .ref a∧Inv X pins σ H s1∧Fly X.prog X.w X.stack H s1 a cls H' s'∧dC s'.heap a od∧R cls od H'
abbrev Sb:=St->Hp->VK->(Value->Option Addr->Hp->Prop)->Prop
def Uu (X:Cx)(e:Expr)(t:Sb):Prop :=
 ∀ (pins:List (Addr×Obj)) (s:kw) (σ:St) (H:Hp) (Q:VK) (R:Value->Option Addr->Hp->Prop),Inv X pins σ H s->t σ H Q R->wpAny (model X.prog X.w) X.A (eval e X.env) (EP X pins σ Q) (Zc X pins σ R) s
def So (C:Addr)(sp:Sp)(t:TA):Sb:=λσ H Q R=>t σ H λvs H1=>∀ x dx,H1 x=none->H1 dx=none->dx≠x ->
 sp (.ref x::(vs++[])) (upd (upd H1 dx (.own x)) x (.ins C dx [])) (λv H2=>v = .non∧Q (.ref x) H2) λcls od H2=>R cls od H2
theorem Nz {x:Str}{C:Addr}{j k:Nat}{ps:List Str}{sp:Sp}{e:Expr}{es:List Expr}{t:TA}{p pos:Pos}(c:Cam X.prog X.w X.K X.mg X.base (CX2 X.prog X.w) x C j ps sp)(hr:eF k X.A)(ha:PA X.nox (e::es) t)
  (mp:j+1<=k:=by decide) (hg:Gl X x:=by rfl) (b1:(x==("__debug__" : Str))=false:=by decide) (b2:starEach (e::es) X.env=(false,eval e X.env)::starEach es X.env:=by rfl) (b3:(backTo pos (starEach es X.env)).any (·.1)=false:=by rfl) :
  Uu X (.Call (.Name x p) (e::es) [] pos) (So C sp t):=by
 intro pins s σ H Q R I h;obtain⟨f,fd,F,M,hm,hb⟩:=c.ex;refine wpAny_Call_Name_kw (iL I hg hm ?_ b1);refine i9 (h₀:=X.base) I.ok.mod.kin M.kp (AJ (ha pos pins s σ H _ (I.wish _) h) (λus s1 z=>?_) λ_ _ z=>False.elim z) b2 b3;obtain⟨vs,H1,I0,r,q1⟩:=z;have I1:Inv X pins σ H1 s1:=I0.unwish;refine⟨I1.kIn,?_⟩;have hq:=q1 (s1.heap.objs.size+1) s1.heap.objs.size (I1.hok.fresh (gv _)) (I1.hok.fresh (af _)) (az (gx _));have I2:=Inv.made (C:=C) I1;have r2:aZ (V.ref (s1.heap.objs.size+1)::(vs++[])) (Value.ref (s1.heap.objs.size+1)::us):=.cons rfl (by rw[da];exact r);have hl:(Value.ref (s1.heap.objs.size+1)::us++[]).length=ps.length:=by
  rw[da,<- r2.length];exact F.len _ _ _ _ hq
 have gV:=hb _ (Value.ref (s1.heap.objs.size+1)::us) I2.kIn hl;rw[da] at gV;have or:=hr.mono mp;rw[qy];refine AZ (Er (f:=f) I1.kIn M.makes M.init (AK.mp M.fn) (AQ (F.run _ X.stack _ _ ⟨Value.ref (s1.heap.objs.size+1)::us,[]⟩ (Value.ref (s1.heap.objs.size+1)::us) _ _ _ (or.make C us [])
  (I2.env0.make C us []) gV r2 hq) λres s' Z=>?_))
 cases res with
 | error x' =>
  obtain⟨a,cls,od,H',rfl,Y,d,q2⟩:=Z;exact⟨a,cls,od,_,_,H',rfl,I2,Y,d,q2⟩
 | ok fl =>
  cases fl with
  | ret u =>
   obtain⟨v,H',I3,rv,rfl,q3⟩:=I2.after Z;exact⟨rv,⟨V.ref (s1.heap.objs.size+1),H',I3,rfl,q3⟩⟩
  | next=>exact False.elim Z
  | brk=>exact False.elim Z
  | cont=>exact False.elim Z
def Rb (C:Addr)(m:Str)(sp:Sp)(ta:TE)(t:TA):Sb:=λσ H Q R=>ta σ H λx H1=>∃ (a dx:Addr) (fs:List (Str×V)),x = .ref a∧H1 a=some (.ins C dx fs)∧fs.lookup m=none∧t σ H1 λvs H2=>sp (.ref a::vs) H2 Q λcls od Z=>R cls od Z
theorem Eu {pins:List (Addr×Obj)}{σ:St}{H:Hp}{s:kw}{Q:VK}{R:Value->Option Addr->Hp->Prop}{us:List Value}{vs:List V}{f:Addr}{fd:wh}{j k:Nat}{ps:List Str}{sp:Sp}(F:bI X.prog X.w X.K X.mg X.base (CX2 X.prog X.w) j f fd ps sp)(hr:eF k X.A)(mp:j<=k)(hb:fD X.K fd ps [])(I:Inv X pins σ H s)(r:aZ vs us)(q:sp vs H Q λcls od H3=>R cls od H3) :
  wpAny (model X.prog X.w) X.A (call (.ref f) us) (EP X pins σ Q) (Zc X pins σ R) s:=by
 have hl:us.length=ps.length:=by rw[<- r.length];exact F.len _ _ _ _ q
 have gV:=hb s us I.kIn (by rw[da];exact hl);rw[da] at gV;refine AZ (AQ (F.run X.A X.stack s H ⟨us,[]⟩ us vs _ _ (hr.mono mp) I.env0 gV r q) λr' s' Z=>?_)
 cases r' with
 | error x' =>
  obtain⟨a,cls,od,H',rfl,Y,d,q2⟩:=Z;exact⟨a,cls,od,H,s,H',rfl,I,Y,d,q2⟩
 | ok fl =>
  cases fl with
  | ret u=>exact I.after Z
  | next=>exact False.elim Z
  | brk=>exact False.elim Z
  | cont=>exact False.elim Z
theorem Os {C:Addr}{m:Str}{j k:Nat}{ps:List Str}{sp:Sp}{o e:Expr}{es:List Expr}{ta:TE}{t:TA}{apos pos:Pos}{pl:Sem Bool}(c:Cmt X.prog X.w X.K X.mg X.base (CX2 X.prog X.w) C m j ps sp)(hr:eF k X.A)(he:PE X.nox o ta)(ha:PA X.nox (e::es) t)
  (or:j<=k:=by decide) (Z:starEach (e::es) X.env=(false,eval e X.env)::starEach es X.env:=by rfl) (gV:(backTo pos (starEach es X.env)).any (·.1)=false:=by rfl)
  (ht:eval (.Call (.Attribute o m apos) (e::es) [] pos) X.env=(do
   let ov <- eval o X.env
   standAt apos.atName
   let (f,first) <- holding [ov] (getMethod ov m pl)
   callWith pos f first (backTo pos (starEach (e::es) X.env)) (backToKw pos (keywordEach [] X.env))):=by rfl) :
  Uu X (.Call (.Attribute o m apos) (e::es) [] pos) (Rb C m sp ta t):=by
 intro pins s σ H Q R I h;obtain⟨f,fd,F,hm,cl,hb⟩:=c.ex;refine je (pl:=pl) (AJ (he pins s σ H _ (I.wish _) h) (λu s1 z=>?_) λ_ _ z=>False.elim z) ht;obtain⟨x,H1,I0,rx,a,dx,fs,ex,ea,l,q⟩:=z;have I1:Inv X pins σ H1 s1:=I0.unwish;subst ex;obtain rfl:u=Value.ref a:=rx;refine jZ I1 ea cl hm l ?_;refine i9 (first:=[.ref a]) (h₀:=X.base) I.ok.mod.kin hm.kp (AJ (ha pos pins s1 σ H1 _ (I1.wish _) q) (λus s2 z=>?_) λ_ _ z=>False.elim z) Z gV;obtain⟨vs,H2,mp,r,q2⟩:=z;have I2:Inv X pins σ H2 s2:=mp.unwish;exact⟨I2.kIn,Eu (us:=.ref a::us) (vs:=.ref a::vs) F hr or hb I2 (.cons rfl r) q2⟩
theorem Ld {C:Addr}{m:Str}{j k:Nat}{ps:List Str}{sp:Sp}{o:Expr}{ta:TE}{apos pos:Pos}{pl:Sem Bool}(c:Cmt X.prog X.w X.K X.mg X.base (CX2 X.prog X.w) C m j ps sp)(hr:eF k X.A)(he:PE X.nox o ta)
  (gV:j<=k:=by decide)
  (ht:eval (.Call (.Attribute o m apos) [] [] pos) X.env=(do
   let ov <- eval o X.env
   standAt apos.atName
   let (f,first) <- holding [ov] (getMethod ov m pl)
   callWith pos f first (backTo pos (starEach [] X.env)) (backToKw pos (keywordEach [] X.env))):=by rfl) :
  Uu X (.Call (.Attribute o m apos) [] [] pos) (Rb C m sp ta Rq):=by
 intro pins s σ H Q R I h;obtain⟨f,fd,F,hm,cl,hb⟩:=c.ex;refine je (pl:=pl) (AJ (he pins s σ H _ (I.wish _) h) (λu s1 z=>?_) λ_ _ z=>False.elim z) ht;obtain⟨x,H1,I0,rx,a,dx,fs,ex,ea,l,q⟩:=z;have Z:Inv X pins σ H1 s1:=I0.unwish;subst ex;obtain rfl:u=Value.ref a:=rx;refine jZ Z ea cl hm l ?_;exact sr (first:=[.ref a]) Z.kIn hm.kp (Eu (us:=[.ref a]) (vs:=[.ref a]) F hr gV hb Z (.cons rfl .nil) q)
def Ti (t:Sb):Fu:=λD R σ H=>t σ H (λ_ H1=>D.nx σ H1) λcls od H1=>R σ cls od H1
theorem tQ {e:Expr}{t:Sb}{pos:Pos}(he:Uu X e t)(hs:swapsWith e none pos.line X.env=pure false:=by rfl):Pt X [.Expr e pos] (Ti t):=by
 intro pins s σ H D R I q;refine wpAny_execs_cons (wpAny_Expr_any (AJ (he pins s σ H _ _ I q) (λv s1 ⟨y,H1,I1,r1,q1⟩=>?_) λe' s1 z=>?_) I.quiet hs)
 ·exact A0 ⟨_,H1,I1,q1⟩
 ·obtain⟨a,cls,od,H1,s2,H',rfl,I2,Y,d,Z⟩:=z
  exact⟨a,cls,od,σ,H1,s2,H',rfl,I2,Y,d,Z⟩
def aAe (c:TT)(t u:Fu):Fu:=λD R σ H=>c σ H λb H1=>if b=true then t D R σ H1 else u D R σ H1
theorem Xi {c:Expr}{a b:List Stmt}{tc:TT}{t u:Fu}{pos:Pos}(hc:PT X.nox c tc)(ha:Pt X a t)(hb:Pt X b u):Pt X [.If c a b pos] (aAe tc t u):=by
 intro pins s σ H D R I q;refine wpAny_execs_cons (wpAny_If (AJ (hc pins s σ H _ (I.wish _) q) (λd s1 z=>?_) λ_ _ z=>False.elim z));obtain⟨H1,I0,Z⟩:=z;have I1:Inv X pins σ H1 s1:=I0.unwish;have fin:∀ (f:Flow) (s2:kw),SP X pins D f s2->(match f with | .next=>wpAny (model X.prog X.w) X.A (execs [] X.env) (SP X pins D) (XP2 X pins R) s2 | f=>SP X pins D f s2):=λf s2 z=>by
  cases f with
  | next=>exact A0 z
  | ret v=>exact z
  | brk=>exact z
  | cont=>exact z
 cases d with
 | true=>exact AJ (ha pins s1 σ H1 D R I1 Z) (λf s2 z=>fin f s2 z) λ_ _ z=>z
 | false=>exact AJ (hb pins s1 σ H1 D R I1 Z) (λf s2 z=>fin f s2 z) λ_ _ z=>z
theorem uO (hu:X.A.units+1<cLine):OpR X (compareOp .Eq) (λx y H Q=>∃ (p b D F:Addr) (t:List Nat) (i j:Int) (v:V) (ls:List (List Nat)),x = .ref p∧y = .ref b∧SqT X.K H p [T t,.ref D,.int i,.int j,v]∧SqT X.K H b [T t,.ref F,.int i,.int j,v]∧SqL X.K H D (ls.map T)∧SqL X.K H F (ls.map T)∧(v = .non∨∃ r,v=T r)∧Q (.bl true) H):=by
 intro pins s σ H x y v' u' Q I rx ry h;obtain⟨p,b,D,F,t,i,j,v,ls,rfl,rfl,h1,h2,h3,h4,hv,q⟩:=h;cases rx;cases ry;obtain⟨mp,r,pl,_⟩:=I.tuple h1;obtain⟨gV,r2,Z,_⟩:=I.tuple h2;rcases r with _ | ⟨k0,r⟩
 rcases r with _ | ⟨k1,r⟩
 rcases r with _ | ⟨k2,r⟩
 rcases r with _ | ⟨k3,r⟩
 rcases r with _ | ⟨k4,r⟩
 cases r;rcases r2 with _ | ⟨l0,r2⟩
 rcases r2 with _ | ⟨l1,r2⟩
 rcases r2 with _ | ⟨l2,r2⟩
 rcases r2 with _ | ⟨l3,r2⟩
 rcases r2 with _ | ⟨l4,r2⟩
 cases r2;cases k1;cases l1;refine SeqAt.RcAt.tuples (e:=λ_=>true) pl Z (ge hu) (λj' g1 g2=>?_) _ _ _ _ ⟨.bl true,H,I,rfl,q⟩;have tr:∀ t:List Nat,eqV (T t) (T t)=true:=λt=>by show (tx t==tx t)=true;rw[AK]
 have ti:∀ z:Int,eqV (.int z) (.int z)=true:=λz=>by show (z==z)=true;rw[AK]
 match j',g1 with
 | 0,_ =>
  have e:=iY (A:=X.A.in1) (s:=s) k0 l0 rfl rfl;rw[tr] at e;exact e
 | 1,_=>exact Kl I hu h3 h4
 | 2,_ =>
  have e:=iY (A:=X.A.in1) (s:=s) k2 l2 rfl rfl;rw[ti] at e;exact e
 | 3,_ =>
  have e:=iY (A:=X.A.in1) (s:=s) k3 l3 rfl rfl;rw[ti] at e;exact e
 | 4,_ =>
  rcases hv with rfl | ⟨r,rfl⟩
  ·have e:=iY (A:=X.A.in1) (s:=s) k4 l4 rfl rfl
   exact e
  ·have e:=iY (A:=X.A.in1) (s:=s) k4 l4 rfl rfl
   rw[tr] at e;exact e
 | j'+5,g=>exact absurd g (by simp)
end
end L2
namespace K75
open PySem L2
seal L2.PSs L2.PS L2.PE L2.PA L2.PT L2.PW L2.PI L2.PG L2.PGs L2.PO L2.PTy L2.PH L2.OpR L2.dR L2.IxR L2.SlR L2.UnR L2.Xh
def top (i:Nat):Stmt:=pj.main.body.getD i (.Pass ⟨0,0,0,0⟩)
abbrev gQ:Stmt:=top 41
abbrev rJ:Stmt:=top 42
abbrev mB:Stmt:=top 43
abbrev cZ:Stmt:=top 44
abbrev cI:Stmt:=top 45
abbrev gK:Stmt:=top 46
abbrev jC:Stmt:=top 47
abbrev iF:Stmt:=top 11
abbrev gU:Stmt:=top 12
abbrev qG:Stmt:=top 13
abbrev uY:Stmt:=top 14
abbrev gI:Stmt:=top 15
abbrev fH:Stmt:=top 16
abbrev pY:Stmt:=top 17
abbrev jR:Stmt:=top 21
abbrev mS:Stmt:=eT (top 22) 0
abbrev jD:Stmt:=eT (top 7) 0
abbrev nA:Stmt:=top 23
abbrev vA:Stmt:=top 24
abbrev kZ:Stmt:=top 25
abbrev lB:Stmt:=top 26
abbrev jS:Stmt:=top 27
abbrev qN:Stmt:=top 28
abbrev lH:Stmt:=top 30
abbrev jE:Stmt:=top 31
abbrev lX:Stmt:=top 33
abbrev iQ:Stmt:=top 34
abbrev fS:Stmt:=top 49
abbrev eB:Stmt:=top 50
abbrev jI:Stmt:=top 52
abbrev mU:Stmt:=top 53
abbrev gS:Stmt:=top 54
abbrev qX:Stmt:=top 55
abbrev jY:Stmt:=top 56
abbrev iB:Stmt:=eT (top 58) 1
abbrev kR:Stmt:=eT (top 58) 5
abbrev lE:Stmt:=eT (top 58) 3
abbrev iW:Stmt:=eT (top 58) 4
abbrev lL:Stmt:=eT (top 58) 2
abbrev fN:Stmt:=eT (top 58) 6
abbrev kW:Stmt:=eT (top 58) 7
abbrev kI:Stmt:=eT (top 58) 8
abbrev jP:Stmt:=eT (top 58) 9
abbrev lD:Stmt:=eT (top 58) 10
abbrev lG:Stmt:=eT (top 58) 0
abbrev kE:Stmt:=top 60
abbrev kT:Stmt:=top 61
abbrev iZ:Stmt:=top 62
abbrev kA:Stmt:=top 63
abbrev jA:Stmt:=top 64
abbrev fY:Stmt:=top 65
abbrev fM:Stmt:=top 66
abbrev kU:Stmt:=top 67
abbrev gF:Stmt:=top 68
abbrev hJ:Stmt:=top 69
abbrev jV:Stmt:=top 70
abbrev iG:Stmt:=top 71
abbrev lP:Stmt:=top 72
abbrev nZ:Stmt:=top 73
theorem pW:aO ["place", "last", "times"] ["place", "last"] (aF gQ):=⟨rfl,rfl,rfl,by decide +kernel,rfl,by decide +kernel,by decide +kernel⟩
theorem cO:aO ["number", "prime", "last", "rest", "last_times", "times", "quotient", "next_rest", "more_times"] ["number", "prime"] (aF rJ):=⟨rfl,rfl,rfl,by decide +kernel,rfl,by decide +kernel,by decide +kernel⟩
theorem uX:aO ["row", "top", "back", "prime", "times"] ["row", "top", "back", "prime"] (aF mB):=⟨rfl,rfl,rfl,by decide +kernel,rfl,by decide +kernel,by decide +kernel⟩
def xH:Scope:={ kind:=a6,names:=[ (ae ".0",am),(ae "number",am),(ae "above",am),(ae "times",bn)],isGenerator:=false,isCoroutine:=false,more:=[]:di }
theorem Ad:Ar ["row", "top", "back", "prime", "times"] ["number", "above", "row", "top", "back", "prime", "times"] (aF mB) xH "number" "above" := ⟨rfl,by decide +kernel,by decide +kernel,rfl,rfl,by decide +kernel,rfl,rfl,rfl,by decide +kernel,rfl,by decide +kernel,by decide +kernel⟩
theorem cU:aO ["numbers", "place", "number"] ["numbers"] (aF cZ):=⟨rfl,rfl,rfl,by decide +kernel,rfl,by decide +kernel,by decide +kernel⟩
theorem bD:aO ["square", "prime", "rows", "rest", "place", "top", "back"] ["square", "prime"] (aF cI):=⟨rfl,rfl,rfl,by decide +kernel,rfl,by decide +kernel,by decide +kernel⟩
def jX:Scope:={ kind:=a6,names:=[ (ae ".0",am),(ae "row",am),(ae "prime",bn)],isGenerator:=false,isCoroutine:=false,more:=[]:di }
theorem kP:cG ["square", "prime", "rows", "rest", "place", "top", "back"] ["row", "square", "prime", "rows", "rest", "place", "top", "back"] (aF cI) jX "row" := ⟨rfl,by decide +kernel,by decide +kernel,rfl,by decide +kernel,rfl,rfl,by decide +kernel,rfl,by decide +kernel,by decide +kernel⟩
def jU:Scope:={ kind:=a6,names:=[ (ae ".0",am),(ae "number",am),(ae "prime",bn)],isGenerator:=false,isCoroutine:=false,more:=[]:di }
theorem kN:cG ["square", "prime", "rows", "rest", "place", "top", "back"] ["number", "square", "prime", "rows", "rest", "place", "top", "back"] (aF cI) jU "number" := ⟨rfl,by decide +kernel,by decide +kernel,rfl,by decide +kernel,rfl,rfl,by decide +kernel,rfl,by decide +kernel,by decide +kernel⟩
def kH:Scope:={ kind:=a6,names:=[ (ae ".0",am),(ae "row",am),(ae "lowered",a9),(ae "back",bn),(ae "prime",bn),(ae "top",bn)],isGenerator:=false,isCoroutine:=false,more:=[]:di }
theorem kO:cG ["square", "prime", "rows", "rest", "place", "top", "back"] ["row", "square", "prime", "rows", "rest", "place", "top", "back"] (aF cI) kH "row" := ⟨rfl,by decide +kernel,by decide +kernel,rfl,by decide +kernel,rfl,rfl,by decide +kernel,rfl,by decide +kernel,by decide +kernel⟩
theorem fT:aO ["square", "bound", "row"] ["square"] (aF gK):=⟨rfl,rfl,rfl,by decide +kernel,rfl,by decide +kernel,by decide +kernel⟩
def oR:Scope:={ kind:=a6,names:=[ (ae ".0",am),(ae "number",am),(ae "abs",a9)],isGenerator:=false,isCoroutine:=false,more:=[]:di }
theorem pQ:cG ["square", "bound", "row"] ["number", "square", "bound", "row"] (aF gK) oR "number" := ⟨rfl,by decide +kernel,by decide +kernel,rfl,by decide +kernel,rfl,rfl,by decide +kernel,rfl,by decide +kernel,by decide +kernel⟩
theorem bJ:aO ["square", "bound", "result", "modulus", "place", "times", "prime", "lacking"] ["square"] (aF jC):=⟨rfl,rfl,rfl,by decide +kernel,rfl,by decide +kernel,by decide +kernel⟩
theorem sH:aO ["kinds"] ["kinds"] (aF iF):=⟨rfl,rfl,rfl,by decide +kernel,rfl,by decide +kernel,by decide +kernel⟩
theorem pT:aO ["length", "kinds"] ["length", "kinds"] (aF gU):=⟨rfl,rfl,rfl,by decide +kernel,rfl,by decide +kernel,by decide +kernel⟩
theorem Fq:aO ["kinds"] ["kinds"] (aF qG):=⟨rfl,rfl,rfl,by decide +kernel,rfl,by decide +kernel,by decide +kernel⟩
theorem rE:aO ["word", "kinds", "known", "sign"] ["word", "kinds"] (aF uY):=⟨rfl,rfl,rfl,by decide +kernel,rfl,by decide +kernel,by decide +kernel⟩
theorem uP:aO ["text", "length"] ["text", "length"] (aF gI):=⟨rfl,rfl,rfl,by decide +kernel,rfl,by decide +kernel,by decide +kernel⟩
def nO:Scope:={ kind:=a6,names:=[ (ae ".0",am),(ae "place",am),(ae "length",bn),(ae "text",bn)],isGenerator:=false,isCoroutine:=false,more:=[]:di }
theorem qC:cG ["text", "length"] ["place", "text", "length"] (aF gI) nO "place" := ⟨rfl,by decide +kernel,by decide +kernel,rfl,by decide +kernel,rfl,rfl,by decide +kernel,rfl,by decide +kernel,by decide +kernel⟩
theorem gR:aO ["text", "length", "size", "around"] ["text", "length"] (aF fH):=⟨rfl,rfl,rfl,by decide +kernel,rfl,by decide +kernel,by decide +kernel⟩
def mV:Scope:={ kind:=a6,names:=[ (ae ".0",am),(ae "place",am),(ae "around",bn),(ae "length",bn)],isGenerator:=false,isCoroutine:=false,more:=[]:di }
theorem pE:cG ["text", "length", "size", "around"] ["place", "text", "length", "size", "around"] (aF fH) mV "place" := ⟨rfl,by decide +kernel,by decide +kernel,rfl,by decide +kernel,rfl,rfl,by decide +kernel,rfl,by decide +kernel,by decide +kernel⟩
theorem Gn:aO ["text", "length", "ring"] ["text", "length", "ring"] (aF pY):=⟨rfl,rfl,rfl,by decide +kernel,rfl,by decide +kernel,by decide +kernel⟩
theorem mI:aO ["words", "word"] ["words"] (aF jR):=⟨rfl,rfl,rfl,by decide +kernel,rfl,by decide +kernel,by decide +kernel⟩
theorem Dj:aO ["self", "words"] ["self", "words"] (aF mS):=⟨rfl,rfl,rfl,by decide +kernel,rfl,by decide +kernel,by decide +kernel⟩
theorem uQ:aO ["self", "words", "paper"] ["self", "words", "paper"] (aF jD):=⟨rfl,rfl,rfl,by decide +kernel,rfl,by decide +kernel,by decide +kernel⟩
theorem Dh:aO ["word"] ["word"] (aF nA):=⟨rfl,rfl,rfl,by decide +kernel,rfl,by decide +kernel,by decide +kernel⟩
theorem Mn:aO ["word"] ["word"] (aF vA):=⟨rfl,rfl,rfl,by decide +kernel,rfl,by decide +kernel,by decide +kernel⟩
theorem Ma:aO ["web"] ["web"] (aF kZ):=⟨rfl,rfl,rfl,by decide +kernel,rfl,by decide +kernel,by decide +kernel⟩
def zI:Scope:={ kind:=a6,names:=[ (ae ".0",am),(ae "word",am),(ae "begin_of",a9)],isGenerator:=false,isCoroutine:=false,more:=[]:di }
theorem Dx:cG ["web"] ["word", "web"] (aF kZ) zI "word" := ⟨rfl,by decide +kernel,by decide +kernel,rfl,by decide +kernel,rfl,rfl,by decide +kernel,rfl,by decide +kernel,by decide +kernel⟩
def Am:Scope:={ kind:=a6,names:=[ (ae ".0",am),(ae "word",am),(ae "end_of",a9)],isGenerator:=false,isCoroutine:=false,more:=[]:di }
theorem Dd:cG ["web"] ["word", "web"] (aF kZ) Am "word" := ⟨rfl,by decide +kernel,by decide +kernel,rfl,by decide +kernel,rfl,rfl,by decide +kernel,rfl,by decide +kernel,by decide +kernel⟩
theorem qO:aO ["web", "some", "going", "coming"] ["web", "some"] (aF lB):=⟨rfl,rfl,rfl,by decide +kernel,rfl,by decide +kernel,by decide +kernel⟩
def zK:Scope:={ kind:=a6,names:=[ (ae ".0",am),(ae "word",am),(ae "begin_of",a9),(ae "some",bn)],isGenerator:=false,isCoroutine:=false,more:=[]:di }
theorem Db:cG ["web", "some", "going", "coming"] ["word", "web", "some", "going", "coming"] (aF lB) zK "word" := ⟨rfl,by decide +kernel,by decide +kernel,rfl,by decide +kernel,rfl,rfl,by decide +kernel,rfl,by decide +kernel,by decide +kernel⟩
def zL:Scope:={ kind:=a6,names:=[ (ae ".0",am),(ae "word",am),(ae "end_of",a9),(ae "some",bn)],isGenerator:=false,isCoroutine:=false,more:=[]:di }
theorem Dw:cG ["web", "some", "going", "coming"] ["word", "web", "some", "going", "coming"] (aF lB) zL "word" := ⟨rfl,by decide +kernel,by decide +kernel,rfl,by decide +kernel,rfl,rfl,by decide +kernel,rfl,by decide +kernel,by decide +kernel⟩
theorem eX:aO ["words", "piece", "found", "known", "word"] ["words", "piece"] (aF jS):=⟨rfl,rfl,rfl,by decide +kernel,rfl,by decide +kernel,by decide +kernel⟩
theorem Gd:aO ["web", "piece"] ["web", "piece"] (aF qN):=⟨rfl,rfl,rfl,by decide +kernel,rfl,by decide +kernel,by decide +kernel⟩
theorem kC:aO ["web", "every", "together"] ["web"] (aF lH):=⟨rfl,rfl,rfl,by decide +kernel,rfl,by decide +kernel,by decide +kernel⟩
theorem kY:aO ["web", "piece"] ["web"] (aF jE):=⟨rfl,rfl,rfl,by decide +kernel,rfl,by decide +kernel,by decide +kernel⟩
theorem Gs:aO ["words", "word"] ["words", "word"] (aF lX):=⟨rfl,rfl,rfl,by decide +kernel,rfl,by decide +kernel,by decide +kernel⟩
def wW:Scope:={ kind:=a6,names:=[ (ae ".0",am),(ae "other",am),(ae "word",bn)],isGenerator:=false,isCoroutine:=false,more:=[]:di }
theorem zP:cG ["words", "word"] ["other", "words", "word"] (aF lX) wW "other" := ⟨rfl,by decide +kernel,by decide +kernel,rfl,by decide +kernel,rfl,rfl,by decide +kernel,rfl,by decide +kernel,by decide +kernel⟩
theorem pO:aO ["left", "piece", "reached"] ["left", "piece"] (aF iQ):=⟨rfl,rfl,rfl,by decide +kernel,rfl,by decide +kernel,by decide +kernel⟩
def sM:Scope:={ kind:=a6,names:=[ (ae ".0",am),(ae "word",am),(ae "begin_of",a9),(ae "reached",bn)],isGenerator:=false,isCoroutine:=false,more:=[]:di }
theorem uF:cG ["left", "piece", "reached"] ["word", "left", "piece", "reached"] (aF iQ) sM "word" := ⟨rfl,by decide +kernel,by decide +kernel,rfl,by decide +kernel,rfl,rfl,by decide +kernel,rfl,by decide +kernel,by decide +kernel⟩
theorem mP:aO ["texts", "text", "words", "ends"] ["texts", "text", "words"] (aF fS):=⟨rfl,rfl,rfl,by decide +kernel,rfl,by decide +kernel,by decide +kernel⟩
def qF:Scope:={ kind:=a6,names:=[ (ae ".0",am),(ae "word",am),(ae "end_of",a9)],isGenerator:=false,isCoroutine:=false,more:=[]:di }
theorem sW:cG ["texts", "text", "words", "ends"] ["word", "texts", "text", "words", "ends"] (aF fS) qF "word" := ⟨rfl,by decide +kernel,by decide +kernel,rfl,by decide +kernel,rfl,rfl,by decide +kernel,rfl,by decide +kernel,by decide +kernel⟩
def qD:Scope:={ kind:=a6,names:=[ (ae ".0",am),(ae "other",am),(ae "len",a9),(ae "ends",bn),(ae "text",bn)],isGenerator:=false,isCoroutine:=false,more:=[]:di }
theorem sK:cG ["texts", "text", "words", "ends"] ["other", "texts", "text", "words", "ends"] (aF fS) qD "other" := ⟨rfl,by decide +kernel,by decide +kernel,rfl,by decide +kernel,rfl,rfl,by decide +kernel,rfl,by decide +kernel,by decide +kernel⟩
theorem hX:aO ["ways", "texts"] ["ways"] (aF eB):=⟨rfl,rfl,rfl,by decide +kernel,rfl,by decide +kernel,by decide +kernel⟩
def kQ:Scope:={ kind:=a6,names:=[ (ae ".0",am),(ae "text",am),(ae "choice_row",a9),(ae "texts",bn),(ae "ways",bn)],isGenerator:=false,isCoroutine:=false,more:=[]:di }
theorem lK:cG ["ways", "texts"] ["text", "ways", "texts"] (aF eB) kQ "text" := ⟨rfl,by decide +kernel,by decide +kernel,rfl,by decide +kernel,rfl,rfl,by decide +kernel,rfl,by decide +kernel,by decide +kernel⟩
theorem mX:aO ["words", "one", "other", "begins", "ends"] ["words", "one", "other"] (aF jI):=⟨rfl,rfl,rfl,by decide +kernel,rfl,by decide +kernel,by decide +kernel⟩
def wV:Scope:={ kind:=a6,names:=[ (ae ".0",am),(ae "word",am),(ae "begin_of",a9)],isGenerator:=false,isCoroutine:=false,more:=[]:di }
theorem Al:cG ["words", "one", "other", "begins", "ends"] ["word", "words", "one", "other", "begins", "ends"] (aF jI) wV "word" := ⟨rfl,by decide +kernel,by decide +kernel,rfl,by decide +kernel,rfl,rfl,by decide +kernel,rfl,by decide +kernel,by decide +kernel⟩
def wJ:Scope:={ kind:=a6,names:=[ (ae ".0",am),(ae "word",am),(ae "end_of",a9)],isGenerator:=false,isCoroutine:=false,more:=[]:di }
theorem Aa:cG ["words", "one", "other", "begins", "ends"] ["word", "words", "one", "other", "begins", "ends"] (aF jI) wJ "word" := ⟨rfl,by decide +kernel,by decide +kernel,rfl,by decide +kernel,rfl,rfl,by decide +kernel,rfl,by decide +kernel,by decide +kernel⟩
theorem lJ:aO ["words", "ways", "word"] ["words"] (aF mU):=⟨rfl,rfl,rfl,by decide +kernel,rfl,by decide +kernel,by decide +kernel⟩
theorem eS:aO ["many", "product", "factor"] ["many"] (aF gS):=⟨rfl,rfl,rfl,by decide +kernel,rfl,by decide +kernel,by decide +kernel⟩
theorem iH:aO ["words", "one", "other", "ways", "orders", "text"] ["words", "one", "other"] (aF qX):=⟨rfl,rfl,rfl,by decide +kernel,rfl,by decide +kernel,by decide +kernel⟩
theorem dD:aO ["words", "order", "other", "number", "left", "word", "lesser"] ["words", "order", "other"] (aF jY):=⟨rfl,rfl,rfl,by decide +kernel,rfl,by decide +kernel,by decide +kernel⟩
theorem sL:aO ["self"] ["self"] (aF iB):=⟨rfl,rfl,rfl,by decide +kernel,rfl,by decide +kernel,by decide +kernel⟩
theorem Ao:aO ["self"] ["self"] (aF kR):=⟨rfl,rfl,rfl,by decide +kernel,rfl,by decide +kernel,by decide +kernel⟩
theorem At:aO ["self"] ["self"] (aF lE):=⟨rfl,rfl,rfl,by decide +kernel,rfl,by decide +kernel,by decide +kernel⟩
theorem nT:aO ["self", "met"] ["self"] (aF iW):=⟨rfl,rfl,rfl,by decide +kernel,rfl,by decide +kernel,by decide +kernel⟩
def sR:Scope:={ kind:=a6,names:=[ (ae ".0",am),(ae "word",am),(ae "met",bn)],isGenerator:=false,isCoroutine:=false,more:=[]:di }
theorem vO:cG ["self", "met"] ["word", "self", "met"] (aF iW) sR "word" := ⟨rfl,by decide +kernel,by decide +kernel,rfl,by decide +kernel,rfl,rfl,by decide +kernel,rfl,by decide +kernel,by decide +kernel⟩
theorem Bq:aO ["self"] ["self"] (aF lL):=⟨rfl,rfl,rfl,by decide +kernel,rfl,by decide +kernel,by decide +kernel⟩
theorem gJ:aO ["self", "left", "at", "behind"] ["self"] (aF fN):=⟨rfl,rfl,rfl,by decide +kernel,rfl,by decide +kernel,by decide +kernel⟩
def qY:Scope:={ kind:=a6,names:=[ (ae ".0",am),(ae "word",am),(ae "begin_of",a9),(ae "at",bn)],isGenerator:=false,isCoroutine:=false,more:=[]:di }
theorem sI:cG ["self", "left", "at", "behind"] ["word", "self", "left", "at", "behind"] (aF fN) qY "word" := ⟨rfl,by decide +kernel,by decide +kernel,rfl,by decide +kernel,rfl,rfl,by decide +kernel,rfl,by decide +kernel,by decide +kernel⟩
def qL:Scope:={ kind:=a6,names:=[ (ae ".0",am),(ae "word",am),(ae "can_go_on",a9),(ae "without",a9),(ae "end_of",a9),(ae "left",bn)],isGenerator:=false,isCoroutine:=false,more:=[]:di }
theorem sF:cG ["self", "left", "at", "behind"] ["word", "self", "left", "at", "behind"] (aF fN) qL "word" := ⟨rfl,by decide +kernel,by decide +kernel,rfl,by decide +kernel,rfl,rfl,by decide +kernel,rfl,by decide +kernel,by decide +kernel⟩
theorem Af:aO ["self"] ["self"] (aF kW):=⟨rfl,rfl,rfl,by decide +kernel,rfl,by decide +kernel,by decide +kernel⟩
theorem wL:aO ["self"] ["self"] (aF kI):=⟨rfl,rfl,rfl,by decide +kernel,rfl,by decide +kernel,by decide +kernel⟩
theorem xE:aO ["self", "letter"] ["self", "letter"] (aF jP):=⟨rfl,rfl,rfl,by decide +kernel,rfl,by decide +kernel,by decide +kernel⟩
theorem oH:aO ["self", "letter"] ["self"] (aF lD):=⟨rfl,rfl,rfl,by decide +kernel,rfl,by decide +kernel,by decide +kernel⟩
theorem nR:aO ["self", "web", "paper"] ["self", "web"] (aF lG):=⟨rfl,rfl,rfl,by decide +kernel,rfl,by decide +kernel,by decide +kernel⟩
theorem gG:aO ["base", "many", "made", "k"] ["base", "many"] (aF kE):=⟨rfl,rfl,rfl,by decide +kernel,rfl,by decide +kernel,by decide +kernel⟩
theorem nM:aO ["cell", "k", "m"] ["cell", "k"] (aF kT):=⟨rfl,rfl,rfl,by decide +kernel,rfl,by decide +kernel,by decide +kernel⟩
theorem fJ:aO ["script", "many", "found", "k", "cell"] ["script", "many"] (aF iZ):=⟨rfl,rfl,rfl,by decide +kernel,rfl,by decide +kernel,by decide +kernel⟩
theorem dE:aO ["length", "kinds", "words", "k", "longer", "word", "letter"] ["length", "kinds"] (aF kA):=⟨rfl,rfl,rfl,by decide +kernel,rfl,by decide +kernel,by decide +kernel⟩
theorem bN:aO ["script", "words", "length", "kinds", "ends", "cells", "behind", "j", "order", "part", "c", "word"] ["script", "words", "length", "kinds"] (aF jA):=⟨rfl,rfl,rfl,by decide +kernel,rfl,by decide +kernel,by decide +kernel⟩
theorem eC:aO ["words", "part", "some", "word"] ["words", "part"] (aF fY):=⟨rfl,rfl,rfl,by decide +kernel,rfl,by decide +kernel,by decide +kernel⟩
theorem bC:aO ["script", "n", "length", "kinds", "words", "behind", "kept", "met", "part", "word", "keep"] ["script", "n", "length", "kinds"] (aF fM):=⟨rfl,rfl,rfl,by decide +kernel,rfl,by decide +kernel,by decide +kernel⟩
theorem oX:aO ["n", "sizes"] ["n"] (aF kU):=⟨rfl,rfl,rfl,by decide +kernel,rfl,by decide +kernel,by decide +kernel⟩
theorem fO:aO ["script", "n", "length", "kinds", "words", "more"] ["script", "n", "length", "kinds"] (aF gF):=⟨rfl,rfl,rfl,by decide +kernel,rfl,by decide +kernel,by decide +kernel⟩
def oB:Scope:={ kind:=a6,names:=[ (ae ".0",am),(ae "word",am),(ae "words",bn)],isGenerator:=false,isCoroutine:=false,more:=[]:di }
theorem qU:cG ["script", "n", "length", "kinds", "words", "more"] ["word", "script", "n", "length", "kinds", "words", "more"] (aF gF) oB "word" := ⟨rfl,by decide +kernel,by decide +kernel,rfl,by decide +kernel,rfl,rfl,by decide +kernel,rfl,by decide +kernel,by decide +kernel⟩
theorem eZ:aO ["web", "paper", "caught", "e"] ["web", "paper"] (aF hJ):=⟨rfl,rfl,rfl,by decide +kernel,rfl,by decide +kernel,by decide +kernel⟩
theorem wR:aO ["desk"] ["desk"] (aF jV):=⟨rfl,rfl,rfl,by decide +kernel,rfl,by decide +kernel,by decide +kernel⟩
theorem eY:aO ["way", "desk", "letter", "caught", "e"] ["way", "desk", "letter"] (aF iG):=⟨rfl,rfl,rfl,by decide +kernel,rfl,by decide +kernel,by decide +kernel⟩
theorem dW:aO ["desk", "states", "cell", "n", "some", "letter", "nexts"] ["desk", "states", "cell"] (aF lP):=⟨rfl,rfl,rfl,by decide +kernel,rfl,by decide +kernel,by decide +kernel⟩
theorem hV:aO ["script", "n", "length", "kinds", "web", "paper", "desk", "other", "states", "first", "cell"] ["script"] (aF nZ):=⟨rfl,rfl,rfl,by decide +kernel,rfl,by decide +kernel,by decide +kernel⟩
structure Adr where
 BadKinds:Addr
 BadWord:Addr
 TooMany:Addr
 NoSuch:Addr
 BadDeed:Addr
 NoRing:Addr
 OnceError:Addr
 Web:Addr
 Desk:Addr
 KNOWN_TIMES:Addr
 u_FIRST_PRIME:Value
 u_STEP:Value
 u_LETTERS:Value
 u_LONGEST:Value
 u_MOST_OF_A_WEB:Value
 u_LONGEST_OF_A_WEB:Value
structure Txt (K:ac)(mg:Str->Option Value)(ad:Adr):Prop where
 b_abs:mg "abs" = none
 b_all:mg "all" = none
 b_enumerate:mg "enumerate" = none
 b_isinstance:mg "isinstance" = none
 b_len:mg "len" = none
 b_list:mg "list" = none
 b_max:mg "max" = none
 b_range:mg "range" = none
 b_set:mg "set" = none
 b_sorted:mg "sorted" = none
 b_sum:mg "sum" = none
 b_tuple:mg "tuple" = none
 b_zip:mg "zip" = none
 m_BadKinds:mg "BadKinds" = some (.ref ad.BadKinds)
 m_BadWord:mg "BadWord" = some (.ref ad.BadWord)
 m_TooMany:mg "TooMany" = some (.ref ad.TooMany)
 m_NoSuch:mg "NoSuch" = some (.ref ad.NoSuch)
 m_BadDeed:mg "BadDeed" = some (.ref ad.BadDeed)
 m_NoRing:mg "NoRing" = some (.ref ad.NoRing)
 m_OnceError:mg "OnceError" = some (.ref ad.OnceError)
 m_Web:mg "Web" = some (.ref ad.Web)
 m_Desk:mg "Desk" = some (.ref ad.Desk)
 m_KNOWN_TIMES:mg "KNOWN_TIMES" = some (.ref ad.KNOWN_TIMES)
 x_BadKinds:Exc K mg "BadKinds" ad.BadKinds
 x_BadWord:Exc K mg "BadWord" ad.BadWord
 x_TooMany:Exc K mg "TooMany" ad.TooMany
 x_NoSuch:Exc K mg "NoSuch" ad.NoSuch
 x_BadDeed:Exc K mg "BadDeed" ad.BadDeed
 n_NoRing:Knd K ad.NoRing
 n_NoSuch:Knd K ad.NoSuch
 n_BadDeed:Knd K ad.BadDeed
 g_FIRST_PRIME:mg "FIRST_PRIME" = some ad.u_FIRST_PRIME
 r_FIRST_PRIME:bE (.int 2305843009213693951) ad.u_FIRST_PRIME
 g_STEP:mg "STEP" = some ad.u_STEP
 r_STEP:bE (.int 6277101735386680763835789423207666416102355444464034512896) ad.u_STEP
 g_LETTERS:mg "LETTERS" = some ad.u_LETTERS
 r_LETTERS:bE (T [97,98,99,100,101,102]) ad.u_LETTERS
 g_LONGEST:mg "LONGEST" = some ad.u_LONGEST
 r_LONGEST:bE (.int 24) ad.u_LONGEST
 g_MOST_OF_A_WEB:mg "MOST_OF_A_WEB" = some ad.u_MOST_OF_A_WEB
 r_MOST_OF_A_WEB:bE (.int 64) ad.u_MOST_OF_A_WEB
 g_LONGEST_OF_A_WEB:mg "LONGEST_OF_A_WEB" = some ad.u_LONGEST_OF_A_WEB
 r_LONGEST_OF_A_WEB:bE (.int 8) ad.u_LONGEST_OF_A_WEB
 q_o:jd K (.ref ad.NoRing) (.ref ad.OnceError)=some true
 q_n:gg K (.ref ad.NoRing) (.ref ad.NoRing)=some true
 q_a:sj K (.ref ad.NoRing) [.ref ad.NoSuch,.ref ad.BadDeed]=some false
 q_do:jd K (.ref ad.BadDeed) (.ref ad.OnceError)=some true
 q_so:jd K (.ref ad.NoSuch) (.ref ad.OnceError)=some true
 q_dd:gg K (.ref ad.BadDeed) (.ref ad.BadDeed)=some true
 q_ds:gg K (.ref ad.BadDeed) (.ref ad.NoSuch)=some false
 q_sd:gg K (.ref ad.NoSuch) (.ref ad.BadDeed)=some false
 q_ss:gg K (.ref ad.NoSuch) (.ref ad.NoSuch)=some true
 kt:tupIs K ad.KNOWN_TIMES [133,211,598,652,721,850,1282,1417,1582,1681,1726,1837,1885,2017,2377,2383,2452,2476,2530,2611,2662,2698,2773,2878,2917,2980,2998,3082,3238,3250,3343,3421,3427,3670,3817,4162,4252,4447,4468,4621,4630,4747,4867,4891,4915,5128,5143,5236,5401,5587,5650,5803,5833,5923,5986,6202,6235,6286,6496,6526,6736,7093,7561,7696,7831,7855,7882,7927,8143,8248]=true
 cl_Web:Cls K ad.Web
 na_Web_words:fF K ad.Web "words"
 na_Web_length:fF K ad.Web "length"
 cl_Desk:Cls K ad.Desk
 na_Desk_web:fF K ad.Desk "web"
 na_Desk_text:fF K ad.Desk "text"
 xi_NoRing:∃ f,Dg K ad.NoRing f
 hd_NoRing:gq K ad.NoRing=true
 na_NoRing_paper:fF K ad.NoRing "paper"
 bi_OnceError:Vp K mg "OnceError" ad.OnceError
theorem bZ {CX:CXT}{P:xv}{w:World}{K:ac}{mg:Str->Option Value}{base:Heap}{N:List Str}{q:Str}{sc:Scope}{f:Addr}{cdv:Value}{A:Around}{outer:List Env}{s:kw}{H:Hp}{E:XK}:(mE CX P w K mg base N q sc f cdv A outer s H E).nox.K=K:=rfl
section
variable {P:xv}{w:World}{K:ac}{mg:Str->Option Value}{base:Heap}{ad:Adr}
theorem aBY {m:Nat}(h:m<6):([97,98,99,100,101,102]:List Nat)[m]?=some (97+m):=by
 have Z:∀ m:Nat,m<6->([97,98,99,100,101,102]:List Nat)[m]?=some (97+m):=by decide
 exact Z m h
theorem Jj {k c:Nat}(hk:k<=6):c∈([97,98,99,100,101,102]:List Nat).take k↔97<=c∧c<97+k:=by
 have Z:∀ k:Nat,k<7->([97,98,99,100,101,102]:List Nat).take k=(bt k).map (97 + ·):=by decide
 rw[Z k (Nat.lt_succ_of_le hk),aw];exact⟨λ⟨i,h,e⟩=>e▸⟨jy _ _,Nat.add_lt_add_left (ck.mp h) _⟩,λ⟨h1,h2⟩=>⟨c-97,ck.mpr (Nat.sub_lt_left_of_lt_add h1 h2),Nat.add_sub_cancel' h1⟩⟩
def uE (ad:Adr):Sp:=λvs H Q E=>∃ k:Int,vs=[.int k]∧((1<=k∧k<=6)->Q .non H)∧(¬ (1<=k∧k<=6)->E (.ref ad.BadKinds) none H)
theorem sQ {f:Addr}{fd:wh}(F:Fun K "looked_kinds" "looked_kinds" iF f fd)(Z:Txt K mg ad):bI P w K mg base (CX2 P w) 1 f fd ["kinds"] (uE ad):=by
 refine F.okX2 sH (λvs H Q E h=>?_) (λcdv A outer s H vs Q E hr h=>?_)
 ·obtain⟨k,rfl,_⟩:=h
  rfl
 ·obtain⟨k,rfl,q,x⟩:=h
  have hs:=AG;refine⟨_,(aE (bR (PW.pt (Nv (aU Jd (pv 0) aH (aY _)) (Hm (aU pP (pv 0) (aP dG (by rfl) Z.b_len bc (aA (cX (by rfl) Z.g_LETTERS Z.r_LETTERS) aD)) (aY _))))) (aE (eJ (E:=λcls H'=>E cls none H') Z.x_BadKinds rfl (λ_ _ _ _ _ _ _ I hx q=>fG I hx q) (aA gD aD))) aV)),?_⟩
  (try rw[bZ]);(try rw[cxK1])
  refine⟨_,rfl,_,_,rfl,rfl,_,rfl,?_⟩;refine oW (λh0=>oQ ?_) (λh0=>?_)
  ·have h1:k<1:=AF h0
   exact⟨(by show 1<=sizeLine;omega),x λz=>by omega⟩
  ·have h1:¬ k<1:=λz=>h0 (AE z)
   refine⟨_,rfl,_,rfl,(by show 6<=sizeLine;omega),_,_,rfl,rfl,_,rfl,?_⟩;refine oW (λh2=>?_) (λh2=>?_)
   ·have h3:(6:Int)<k:=AF h2
    exact⟨(by show 1<=sizeLine;omega),x λz=>by omega⟩
   ·have h3:¬ (6:Int)<k:=λz=>h2 (AE z)
    exact q ⟨by omega,by omega⟩
def Pr (ad:Adr):Sp:=λvs H Q E=>∃ n k:Int,vs=[.int n,.int k]∧((1<=k∧k<=6)->(1<=n∧n<=24)->Q .non H)∧(¬ (1<=k∧k<=6)->E (.ref ad.BadKinds) none H)∧((1<=k∧k<=6)->¬ (1<=n∧n<=24)->E (.ref ad.BadWord) none H)
theorem qI {f:Addr}{fd:wh}(F:Fun K "looked_length" "looked_length" gU f fd)(tt:Txt K mg ad)(Z:Cal P w K mg base (CX2 P w) "looked_kinds" 1 ["kinds"] (uE ad)) :
  bI P w K mg base (CX2 P w) 2 f fd ["length", "kinds"] (Pr ad):=by
 refine F.okX2 pT (λvs H Q E h=>?_) (λcdv A outer s H vs Q E hr h=>?_)
 ·obtain⟨n,k,rfl,_⟩:=h
  rfl
 ·obtain⟨n,k,rfl,q,x1,x2⟩:=h
  have hs:=AG;refine⟨_,(aB (eU (aM Z hr mW (aA (pv 1) aD)))
   (aE (bR (PW.pt (Nv (aU Jd (pv 0) aH (aY _)) (Hm (aU pP (pv 0) (cX (by rfl) tt.g_LONGEST tt.r_LONGEST) (aY _))))) (aE (eJ (E:=λcls H'=>E cls none H') tt.x_BadWord rfl (λ_ _ _ _ _ _ _ I hx q=>fG I hx q) (aA gD aD))) aV))),?_⟩
  (try rw[bZ]);(try rw[cxK1])
  refine⟨_,rfl,k,rfl,λhk=>?_,x1⟩;refine⟨_,rfl,_,_,rfl,rfl,_,rfl,?_⟩;refine oW (λh0=>oQ ?_) (λh0=>?_)
  ·have h1:n<1:=AF h0
   exact⟨(by show 1<=sizeLine;omega),x2 hk λz=>by omega⟩
  ·have h1:¬ n<1:=λz=>h0 (AE z)
   refine⟨_,rfl,_,_,rfl,rfl,_,rfl,?_⟩;refine oW (λh2=>?_) (λh2=>?_)
   ·have h3:(24:Int)<n:=AF h2
    exact⟨(by show 1<=sizeLine;omega),x2 hk λz=>by omega⟩
   ·have h3:¬ (24:Int)<n:=λz=>h2 (AE z)
    exact q hk ⟨by omega,by omega⟩
def vG (ad:Adr):Sp:=λvs H Q E=>∃ k:Int,vs=[.int k]∧(∀ kn:Nat,k=(kn:Nat)->(1<=kn∧kn<=6)->Q (T (([97,98,99,100,101,102]:List Nat).take kn)) H)∧(¬ (1<=k∧k<=6)->E (.ref ad.BadKinds) none H)
theorem Gh {f:Addr}{fd:wh}(F:Fun K "letters" "letters" qG f fd)(tt:Txt K mg ad)(Z:Cal P w K mg base (CX2 P w) "looked_kinds" 1 ["kinds"] (uE ad)):bI P w K mg base (CX2 P w) 2 f fd ["kinds"] (vG ad):=by
 refine F.okX2 Fq (λvs H Q E h=>?_) (λcdv A outer s H vs Q E hr h=>?_)
 ·obtain⟨k,rfl,_⟩:=h
  rfl
 ·obtain⟨k,rfl,q,x⟩:=h
  have hs:=AG;refine⟨_,(aB (eU (aM Z hr mW (aA (pv 0) aD)))
   (aE (aQ (cD zS (cX (by rfl) tt.g_LETTERS tt.r_LETTERS) dA (cK (pv 0)))))),?_⟩
  (try rw[bZ]);(try rw[cxK1])
  refine⟨_,rfl,k,rfl,λhk=>?_,x⟩;obtain⟨kn,rfl⟩:∃ kn:Nat,k=(kn:Nat):=⟨k.toNat,by omega⟩;refine⟨_,rfl,_,rfl,_,rfl,(by show 6<=sizeLine;omega),?_⟩;rw[Tv (by show kn<=6;omega)];exact q kn rfl ⟨by omega,by omega⟩
def zQ (w:List Nat)(kn:Nat):Prop:=(1<=w.length∧w.length<=24)∧∀ c∈w,97<=c∧c<97+kn
def xU (ad:Adr):Sp:=λvs H Q E=>∃ (w:List Nat) (k:Int),vs=[T w,.int k]∧w.length<=100000∧(¬ (1<=k∧k<=6)->E (.ref ad.BadKinds) none H) ∧
 ∀ kn:Nat,k=(kn:Nat)->(1<=kn∧kn<=6)->(zQ w kn->Q .non H)∧(¬ zQ w kn->E (.ref ad.BadWord) none H)
theorem Mq {f:Addr}{fd:wh}(F:Fun K "looked" "looked" uY f fd)(tt:Txt K mg ad)(Z:Cal P w K mg base (CX2 P w) "looked_length" 2 ["length", "kinds"] (Pr ad))
  (gV:Cal P w K mg base (CX2 P w) "letters" 2 ["kinds"] (vG ad)):bI P w K mg base (CX2 P w) 3 f fd ["word", "kinds"] (xU ad):=by
 refine F.okX2 rE (λvs H Q E h=>?_) (λcdv A outer s H vs Q E hr h=>?_)
 ·obtain⟨w,k,rfl,_⟩:=h
  rfl
 ·obtain⟨w,k,rfl,hw,x1,q⟩:=h
  have hs:=AG;refine⟨_,(aB (eU (aM Z hr mW (aA (aP dG (by rfl) tt.b_len bc (aA (pv 0) aD)) (aA (pv 1) aD))))
   (aB (aJ (i:=2) rE.nd rfl (Or.inl rfl) (aM gV hr mW (aA (pv 1) aD)))
   (aE (cY PassesOwn.leaving rfl (Mw (pv 0)) (bO (i:=3) rE.nd rfl (Or.inl rfl)) (aE (bR (aU Es (pv 3) (pv 2) (by with_unfolding_all rfl)) (aE (eJ (E:=λcls H'=>E cls none H') tt.x_BadWord rfl (λ_ _ _ _ _ _ _ I hx q=>fG I hx q) (aA gD aD))) aV)))))),?_⟩
  (try rw[bZ]);(try rw[cxK1])
  refine⟨_,rfl,_,rfl,(by omega),_,rfl,_,k,rfl,λhk hn=>?_,x1,λhk hn=>?_⟩
  rotate_left
  ·obtain⟨kn,rfl⟩:∃ kn:Nat,k=(kn:Nat):=⟨k.toNat,by omega⟩
   exact (q kn rfl ⟨by omega,by omega⟩).2 λz=>hn ⟨by have:=z.1;omega,by have:=z.1;omega⟩
  obtain⟨kn,rfl⟩:∃ kn:Nat,k=(kn:Nat):=⟨k.toNat,by omega⟩;obtain⟨q1,q2⟩:=q kn rfl ⟨by omega,by omega⟩;refine⟨_,rfl,_,rfl,λor ek wp=>?_,λz=>absurd hk z⟩;obtain rfl:kn=or:=by omega
  refine⟨_,rfl,_,rfl,?_⟩;refine Ew (l:=w) (λi σ H2=>H=H2∧(∀ c∈w.take i,97<=c∧c<97+kn)∧∃ v,σ=[some (T w),some (.int (kn:Nat)),some (T (([97,98,99,100,101,102]:List Nat).take kn)),v]) ⟨rfl,λc hc=>(by simp at hc),none,rfl⟩ ?_ ?_
  ·rintro i c σ H2 hi ⟨rfl,mp,v,rfl⟩
   refine⟨_,rfl,_,rfl,_,rfl,_,rfl,_,rfl,?_⟩;refine oW (λh0=>?_) (λh0=>?_)
   ·have h1:¬ c∈([97,98,99,100,101,102]:List Nat).take kn:=λz=>by
     rw[AE z] at h0;cases h0
    refine⟨(by show 1<=sizeLine;omega),q2 λz=>h1 ?_⟩;exact (Jj (by omega)).mpr (z.2 c (ay hi))
   ·have h1:c∈([97,98,99,100,101,102]:List Nat).take kn:=by
     apply ba;intro z;rw[AH z] at h0;exact h0 rfl
    refine⟨rfl,λd hd=>?_,_,rfl⟩;have ww:=(ao.mp hi).1;rw[cn,hi] at hd;rcases br.mp hd with z | z
    ·exact mp d z
    ·have:d=c:=by simpa using z
     subst this;exact (Jj (by omega)).mp h1
  ·rintro σ H2 ⟨rfl,mp,v,rfl⟩
   rw[cr] at mp;exact q1 ⟨⟨by omega,by omega⟩,mp⟩
def Rf:Sp:=λvs H Q _=>∃ (t:List Nat) (n:Nat),vs=[T t,.int (n:Nat)]∧(t.length<=5000∧1<=n∧n<=5000)∧∀ D H',H D=none->aL H H'->H' D=some (.lst ((Wd.bV t n).map T))->Q (.ref D) H'
theorem wC {f:Addr}{fd:wh}(F:Fun K "row_windows" "row_windows" gI f fd)(tt:Txt K mg ad):bI P w K mg base (CX2 P w) 1 f fd ["text", "length"] Rf:=by
 refine F.okN2 uP (λvs H Q E h=>?_) (λcdv A outer s H vs Q E hr h=>?_)
 ·obtain⟨t,n,rfl,_⟩:=h
  rfl
 ·obtain⟨t,n,rfl,hn,q⟩:=h
  have hs:=AG;refine⟨_,(aE (aQ (eR qC rfl (fB (by rfl) tt.b_range (aA (aN eA (aN iA (aP dG (by rfl) tt.b_len bc (aA (pv 0) aD)) (pv 1)) aH) aD)) (λcl C s' H' fp=>(cD zS (pv 1) (cK (pv 0)) (cK (aN eA (pv 0) (pv 2)))))))),?_⟩
  (try rw[bZ]);(try rw[cxK1])
  refine⟨_,rfl,_,rfl,(by omega),_,rfl,_,_,rfl,rfl,_,_,rfl,rfl,_,rfl,by omega,by omega,?_⟩;have en:(((t.length:Nat):Int)-((n:Nat):Int)+1).toNat=t.length+1-n:=by omega
  rw[en];refine vD (lo:=0) (n:=t.length+1-n) (λi=>T (Wd.gC t n i)) (by omega) (λi H4 hi s4 N hN=>?_) λD H4 hD s4 Z=>?_
  ·refine⟨_,rfl,_,rfl,_,rfl,_,rfl,_,rfl,_,_,rfl,rfl,_,rfl,_,rfl,by omega,?_⟩
   have e:gX t (some (0+(i:Int))) (some (0+(i:Int)+((n:Nat):Int)))=Wd.gC t n i:=by
    rw[iz,<- kc,Eh (by omega) (by omega),Nat.add_sub_cancel_left];exact Wd.zO (by omega)
   rw[e];exact hN H4 (aL.refl _)
  ·exact q D H4 hD s4 (by rw[Z,Wd.bV,bv];rfl)
def Jl:Sp:=λvs H Q _=>∃ (t:List Nat) (n:Nat),vs=[T t,.int (n:Nat)]∧(t.length<=5000∧1<=n∧n<=5000)∧∀ D H',H D=none->aL H H'->H' D=some (.lst ((Wd.Rr t n).map T))->Q (.ref D) H'
theorem sV {f:Addr}{fd:wh}(F:Fun K "ring_windows" "ring_windows" fH f fd)(tt:Txt K mg ad):bI P w K mg base (CX2 P w) 1 f fd ["text", "length"] Jl:=by
 refine F.okN2 gR (λvs H Q E h=>?_) (λcdv A outer s H vs Q E hr h=>?_)
 ·obtain⟨t,n,rfl,_⟩:=h
  rfl
 ·obtain⟨t,n,rfl,hn,q⟩:=h
  have hs:=AG;refine⟨_,(aB (bR (aU nI (pv 0) (cW [] (by decide +kernel)) (aY _)) (aE (aQ (dB aD))) aV)
   (aB (aJ (i:=2) gR.nd rfl (Or.inl rfl) (aP dG (by rfl) tt.b_len bc (aA (pv 0) aD)))
   (aB (aJ (i:=3) gR.nd rfl (Or.inr rfl) (aN Pn (pv 0) (aN eA (aN dI (pv 1) (pv 2)) aH)))
   (aE (aQ (eR pE rfl (fB (by rfl) tt.b_range (aA (pv 2) aD)) (λcl C s' H' fp=>(cD zS (pv 4) (cK (pv 0)) (cK (aN eA (pv 0) (pv 2))))))))))),?_⟩
  (try rw[bZ]);(try rw[cxK1])
  refine⟨_,rfl,_,rfl,_,rfl,_,rfl,?_⟩;refine oW (λh0=>?_) (λh0=>?_)
  ·have e:t=[]:=AF h0
   subst e;exact⟨(by show 0<=sizeLine;omega),λD Z=>q D _ Z (λb o e=>by rw[aG (aI e Z)];exact e) aC⟩
  ·have or:t≠[]:=λz=>h0 (AE z)
   have hp:0<t.length:=dt.mpr or;have gV:((n:Nat):Int)/((t.length:Nat):Int)+2=((n/t.length+2:Nat):Int):=by rw[<- Int.natCast_ediv];rfl
   have wx:n/t.length*t.length+n % t.length=n:=by rw[c7];exact ke n t.length
   have wp:=jn n hp;have wz:n/t.length<=n:=qv _ _;have ww:(n/t.length+2)*t.length=n/t.length*t.length+2*t.length:=by rw[ib]
   refine⟨_,rfl,_,rfl,(by omega),?_⟩;refine⟨_,rfl,_,rfl,_,rfl,_,_,rfl,rfl,⟨by omega,by omega⟩,_,_,rfl,rfl,_,rfl,n/t.length+2,congrArg V.int gV,⟨by omega,by omega⟩,?_⟩;refine⟨_,rfl,_,rfl,by omega,by omega,?_⟩;rw[bj];refine vD (lo:=0) (n:=t.length) (λi=>T (Wd.gC t n i)) (by omega) (λi H4 hi s4 N hN=>?_) λD H4 Z s4 mp=>?_
   ·refine⟨_,rfl,_,rfl,_,rfl,_,rfl,_,rfl,_,_,rfl,rfl,_,rfl,_,rfl,(by rw[Wd.nP];omega),?_⟩
    have e:gX (Wd.rep (n/t.length+2) t) (some (0+(i:Int))) (some (0+(i:Int)+((n:Nat):Int)))=Wd.gC t n i:=by
     rw[show 0+(i:Int)+((n:Nat):Int)=((i+n:Nat):Int) by omega,iz,Eh (by rw[Wd.nP];omega) (by omega),show i+n-i=n by omega];exact Wd.Uk (by omega) hp
    rw[e];exact hN H4 (aL.refl _)
   ·exact q D H4 Z s4 (by rw[mp,Wd.Rr,bv];rfl)
def Vh:Sp:=λvs H Q _=>∃ (t:List Nat) (n:Nat) (b:Bool),vs=[T t,.int (n:Nat),.bl b]∧(t.length<=5000∧1<=n∧n<=5000)∧∀ D H',H D=none->aL H H'->H' D=some (.lst ((Wd.win t n b).map T))->Q (.ref D) H'
theorem Hb {f:Addr}{fd:wh}(F:Fun K "windows" "windows" pY f fd)(tt:Txt K mg ad)(gV:Cal P w K mg base (CX2 P w) "row_windows" 1 ["text", "length"] Rf)(Z:Cal P w K mg base (CX2 P w) "ring_windows" 1 ["text", "length"] Jl) :
  bI P w K mg base (CX2 P w) 2 f fd ["text", "length", "ring"] Vh:=by
 refine F.okN2 Gn (λvs H Q E h=>?_) (λcdv A outer s H vs Q E hr h=>?_)
 ·obtain⟨t,n,b,rfl,_⟩:=h
  rfl
 ·obtain⟨t,n,b,rfl,hn,q⟩:=h
  refine⟨_,(aB (bR (qK (pv 2)) (aE (aQ (aM Z hr aS (aA (pv 0) (aA (pv 1) aD))))) aV)
   (aE (aQ (aM gV hr aS (aA (pv 0) (aA (pv 1) aD)))))),?_⟩
  (try rw[bZ]);(try rw[cxK1])
  refine⟨_,rfl,_,rfl,?_⟩;refine oW (λh0=>?_) (λh0=>?_)
  ·rw[Wd.win,AD h0] at q
   exact⟨_,rfl,_,rfl,t,n,rfl,hn,q⟩
  ·rw[Wd.win,AC h0] at q
   exact⟨_,rfl,_,rfl,t,n,rfl,hn,q⟩
def Px (k:Nat)(ls:List (List Nat)):Prop:=∃ ps:List (List Nat),ps.length<=k∧∀ w∈ls,w.take (w.length-1)∈ps∧w.drop 1∈ps
def Few (ls:List (List Nat)):Prop:=Px 61 ls
theorem Px.len {k:Nat}{ls:List (List Nat)}(h:2*ls.length<=k):Px k ls:=⟨ls.map (λw=>w.take (w.length-1))++ls.map (λw=>w.drop 1),by rw[ai,aR,aR];omega,λw hw=>⟨br.mpr (.inl (aw.mpr ⟨w,hw,rfl⟩)),br.mpr (.inr (aw.mpr ⟨w,hw,rfl⟩))⟩⟩
theorem Qn {ls:List (List Nat)}(h:ls.Nodup):(uniq ls).length=ls.length:=((d7 (uV ls) h).mpr λx=>iD ls x).length_eq
theorem Xs {H:Hp}{p x C dx:Addr}{fs:List (Str×V)}{xs:List V}{o:HO}(h:SqA K H p xs)(Z:H x=some (.ins C dx fs)):SqA K (upd H x o) p xs:=by
 have k:∀ {o'},H p=some o'->(∀ C d f,o'≠.ins C d f)->upd H x o p=some o':=λ{o'} e n=>by rw[aG (λz=>by rw[z,Z] at e;exact n _ _ _ (av e).symm)];exact e
 rcases h with ((h | ⟨q,h⟩) | h) | ((h | ⟨q,h⟩) | h)
 ·exact .inl (.inl (.inl (k h (λ_ _ _ z=>by cases z))))
 ·exact .inl (.inl (.inr ⟨q,k h (λ_ _ _ z=>by cases z)⟩))
 ·exact .inl (.inr h)
 ·exact .inr (.inl (.inl (k h (λ_ _ _ z=>by cases z))))
 ·exact .inr (.inl (.inr ⟨q,k h (λ_ _ _ z=>by cases z)⟩))
 ·exact .inr (.inr h)
def mO (ls:List (List Nat))(n:Nat):Prop:=ls≠[]∧ls.length<=60∧((1<=n∧n<=8)∧Few ls)∧(∀ x∈ls,x.length=n∧∀ c∈x,97<=c∧c<103)∧ls.Nodup
def Ra (K:ac):Sp:=λvs H Q _=>∃ (p:Addr) (ls:List (List Nat)) (n:Nat),vs=[.ref p]∧SqA K H p (ls.map T)∧mO ls n∧∀ H',aL H H'->Q .non H'
theorem xF {f:Addr}{fd:wh}(F:Fun K "looked_web" "looked_web" jR f fd)(Z:Txt K mg ad)(gV:Cal P w K mg base (CX2 P w) "looked" 3 ["word", "kinds"] (xU ad)) :
  bI P w K mg base (CX2 P w) 4 f fd ["words"] (Ra K):=by
 refine F.okX2 mI (λvs H Q E h=>?_) (λcdv A outer s H vs Q E hr h=>?_)
 ·obtain⟨p,ls,n,rfl,_⟩:=h
  rfl
 ·obtain⟨p,ls,n,rfl,hS,⟨w4,w8,hn,hx,wp⟩,q⟩:=h
  have hs:=AG;have wz:0<ls.length:=dt.mpr w4;obtain⟨x0,or⟩:∃ x0,ls[0]?=some x0:=⟨_,aa wz⟩;have mp:=(hx x0 (ay or)).1;refine⟨_,(aB (bR (aU pP (aP aW (by rfl) Z.b_len bc (aA (pv 0) aD)) (cX (by rfl) Z.g_MOST_OF_A_WEB Z.r_MOST_OF_A_WEB) (aY _)) (aE (eJ (E:=λcls H'=>E cls none H') Z.x_TooMany rfl (λ_ _ _ _ _ _ _ I hx q=>fG I hx q) (aA gD aD))) aV)
   (aB (bR (aU eP (aP aW (by rfl) Z.b_len bc (aA (pv 0) aD)) aH (aY _)) (aE (eJ (E:=λcls H'=>E cls none H') Z.x_BadWord rfl (λ_ _ _ _ _ _ _ I hx q=>fG I hx q) (aA gD aD))) aV)
   (aB (cY PassesOwn.leaving rfl (oO K rfl (pv 0)) (bO (i:=1) mI.nd rfl (Or.inl rfl)) (aB (eU (aM gV hr mW (aA (pv 1) (aA (aP dG (by rfl) Z.b_len bc (aA (cX (by rfl) Z.g_LETTERS Z.r_LETTERS) aD)) aD))))
   (aB (bR (aU pP (aP dG (by rfl) Z.b_len bc (aA (pv 1) aD)) (cX (by rfl) Z.g_LONGEST_OF_A_WEB Z.r_LONGEST_OF_A_WEB) (aY _)) (aE (eJ (E:=λcls H'=>E cls none H') Z.x_BadWord rfl (λ_ _ _ _ _ _ _ I hx q=>fG I hx q) (aA gD aD))) aV)
   (aE (bR (aU nK (aP dG (by rfl) Z.b_len bc (aA (pv 1) aD)) (aP dG (by rfl) Z.b_len bc (aA (cH aAj (pv 0) aH (λ_ _=>rfl)) aD)) (aY _)) (aE (eJ (E:=λcls H'=>E cls none H') Z.x_BadWord rfl (λ_ _ _ _ _ _ _ I hx q=>fG I hx q) (aA gD aD))) aV)))))
   (aE (bR (aU nK (aP Me (by rfl) Z.b_len bc (aA (fA (Ka rfl) (by rfl) Z.b_set (by decide +kernel) (aA (pv 0) aD)) aD)) (aP aW (by rfl) Z.b_len bc (aA (pv 0) aD)) (aY _)) (aE (eJ (E:=λcls H'=>E cls none H') Z.x_BadWord rfl (λ_ _ _ _ _ _ _ I hx q=>fG I hx q) (aA gD aD))) aV))))),?_⟩
  (try rw[bZ]);(try rw[cxK1])
  refine⟨_,rfl,p,_,rfl,hS,_,_,rfl,rfl,_,rfl,?_⟩;rw[aR];refine oW (λh0=>absurd (AF h0) (by omega)) (λ_=>?_);refine⟨_,rfl,p,_,rfl,hS,_,rfl,_,rfl,_,rfl,?_⟩;rw[aR];refine oW (λh0=>absurd (AF h0) (by omega)) (λ_=>?_);refine⟨_,rfl,p,ls.map T,_,rfl,hS,aL.refl _,λJ rd=>?_⟩;refine qR rd (λi σ H2=>H2=H∧∃ v,σ=[some (.ref p),v]) ⟨rfl,none,rfl⟩ (λi σ H2 _ h=>by rw[h.1];exact aL.refl _) ?_ ?_
  ·rintro i y σ H2 hi ⟨rfl,v,rfl⟩
   obtain⟨x,wx,rfl⟩:∃ x,ls[i]?=some x∧y=T x:=by
    rw[ah] at hi;obtain⟨x,h1,h2⟩:=bz.mp hi;exact⟨x,h1,h2.symm⟩
   obtain⟨w6,ww⟩:=hx x (ay wx);have hg:∀ kn:Nat,(6:Int)=(kn:Nat)->zQ x kn:=λkn e=>⟨⟨by omega,by omega⟩,λc hc=>by have:=ww c hc;omega⟩
   refine⟨_,rfl,_,rfl,(by show 6<=sizeLine;omega),x,6,rfl,(by omega),λz=>absurd ⟨by decide,by decide⟩ z,λkn ek hk=>⟨λ_=>?_,λz=>absurd (hg kn ek) z⟩⟩;refine⟨_,rfl,_,rfl,(by omega),_,_,rfl,rfl,_,rfl,?_⟩;refine oW (λh0=>absurd (AF h0) (by omega)) (λ_=>?_);refine⟨_,rfl,_,rfl,(by omega),_,rfl,p,_,_,_,rfl,rfl,hS,bL (j:=0) (by rw[ah,or];rfl),_,rfl,(by omega),_,rfl,_,rfl,_,rfl,?_⟩;refine Vr (by rw[w6,mp]) ?_;exact⟨rfl,_,rfl⟩
  ·rintro σ H2 ⟨rfl,v,rfl⟩
   refine⟨_,rfl,p,ls,rfl,hS,(by omega),λD hD=>?_⟩;have sD:aL H2 (upd H2 D (By P w D (uniq ls))):=λb o e=>by rw[aG (aI e hD)];exact e
   refine⟨D,_,rfl,aC,_,rfl,p,_,rfl,hS.on sD,_,rfl,_,rfl,_,rfl,?_⟩;refine Vr (by rw[aR,Qn wp]) ?_;exact q _ sD
def wZ (tp:Addr)(n:Int):List (Str×V):=dY "length" (.int n) (dY "words" (.ref tp) [])
theorem fK (tp:Addr)(n:Int):(wZ tp n).lookup ("words" : Str)=some (.ref tp):=by
 unfold wZ;rw[cR,AC (by decide +kernel),cR,AD rfl]
theorem Re (tp:Addr)(n:Int):(wZ tp n).lookup ("length" : Str)=some (.int n):=by
 unfold wZ;rw[cR,AD rfl]
def zV (K:ac)(C:Addr):Sp:=λvs H Q _=>∃ (x dx p:Addr) (ls:List (List Nat)) (n:Nat),vs=[.ref x,.ref p]∧H x=some (.ins C dx [])∧SqA K H p (ls.map T)∧mO ls n ∧
 ∀ (tp:Addr) (ms:List (List Nat)) (H':Hp),ms.Perm ls->ms.Pairwise (λa b=>¬ b<a)->(∀ b o,H b=some o->b≠x->H' b=some o)->H' x=some (.ins C dx (wZ tp (n:Nat)))->H' tp=some (.tup (ms.map T))->Q .non H'
theorem Cr {f:Addr}{fd:wh}(F:Fun K "__init__" "Web.__init__" mS f fd)(tt:Txt K mg ad)(Z:Cal P w K mg base (CX2 P w) "looked_web" 4 ["words"] (Ra K)) :
  bI P w K mg base (CX2 P w) 5 f fd ["self", "words"] (zV K ad.Web):=by
 refine F.okX2 Dj (λvs H Q E h=>?_) (λcdv A outer s H vs Q E hr h=>?_)
 ·obtain⟨x,dx,p,ls,n,rfl,_⟩:=h
  rfl
 ·obtain⟨x,dx,p,ls,n,rfl,hx,hS,hok,q⟩:=h
  have hs:=AG;obtain⟨xb,xh,hn,w4,xg⟩:=id hok;have w6:0<ls.length:=dt.mpr xb;obtain⟨x0,wz⟩:∃ x0,ls[0]?=some x0:=⟨_,aa w6⟩;have wx:=(w4 x0 (ay wz)).1;refine⟨_,(aB (eU (aM Z hr mW (aA (pv 1) aD)))
   (aB (pU (pv 0) (fA mG (by rfl) tt.b_tuple (by decide +kernel) (aA (aP wU (by rfl) tt.b_sorted fb (aA (pv 1) aD)) aD)) rfl)
   (aE (pU (pv 0) (aP dG (by rfl) tt.b_len bc (aA (cH aAj (pv 1) aH (λ_ _=>rfl)) aD)) rfl)))),?_⟩
  (try rw[bZ]);(try rw[cxK1])
  refine⟨_,rfl,p,ls,n,rfl,hS,hok,λH1 s1=>?_⟩;refine⟨_,rfl,p,ls,rfl,hS.on s1,(by omega),λms D hD wp xf=>?_⟩;have s2:aL H1 (upd H1 D (.lst (ms.map T))):=λb o e=>by rw[aG (aI e hD)];exact e
  refine⟨D,_,rfl,.inl ⟨SqL.of aC,λtp w8=>?_⟩⟩;have s3:aL (upd H1 D (.lst (ms.map T))) (upd (upd H1 D (.lst (ms.map T))) tp (.tup (ms.map T))):=λb o e=>by rw[aG (aI e w8)];exact e
  generalize xc:upd (upd H1 D (.lst (ms.map T))) tp (.tup (ms.map T))=H3 at s3;have mp:H3 tp=some (.tup (ms.map T)):=by rw[<- xc];exact aC
  have or:aL H H3:=s1.trans (s2.trans s3);have gV:=or x _ hx;have ww:tp≠x:=λz=>by subst z;rw[mp] at gV;cases gV
  refine⟨_,rfl,x,ad.Web,dx,[],rfl,gV,tt.cl_Web,tt.na_Web_words,(by show 0<1000;decide),?_⟩;have xa:SqA K (upd H3 x (.ins ad.Web dx (dY "words" (.ref tp) []))) p (ls.map T):=Xs (hS.on or) gV
  refine⟨_,rfl,p,_,_,_,rfl,rfl,xa,bL (j:=0) (by rw[ah,wz];rfl),_,rfl,(by omega),_,rfl,x,ad.Web,dx,_,rfl,aC,tt.cl_Web,tt.na_Web_length,(by show 1<1000;decide),?_⟩;refine q tp ms _ wp xf (λb o e hb=>?_) ?_ ?_
  ·rw[aG hb,aG hb]
   exact or b o e
  ·rw[aC,wx]
   rfl
  ·rw[aG ww,aG ww]
   exact mp
def kM (C:Addr)(H:Hp)(x tp:Addr)(n:Nat)(ms:List (List Nat)):Prop:=(∃ dx,H x=some (.ins C dx (wZ tp (n:Nat))))∧H tp=some (.tup (ms.map T))
theorem kM.on {C:Addr}{H H':Hp}{x tp:Addr}{n:Nat}{ms:List (List Nat)}(h:kM C H x tp n ms)(s:aL H H'):kM C H' x tp n ms:=let ⟨⟨dx,e⟩,t⟩:=h;⟨⟨dx,s _ _ e⟩,s _ _ t⟩
def gH:Sp:=λvs H Q _=>∃ t:List Nat,vs=[T t]∧(1<=t.length∧t.length<=1000)∧Q (T (t.take (t.length-1))) H
theorem xR {t:List Nat}(h:1<=t.length):gX t none (some (-1))=t.take (t.length-1):=by
 unfold gX;rw[HT.iI,kz,qj];show t.take (if (-1:Int)<0 then ((-1:Int)+(t.length:Int)).toNat else min (-1:Int).toNat t.length)=_;rw[AD (by decide),show ((-1:Int)+(t.length:Int)).toNat=t.length-1 by omega]
theorem Ed {f:Addr}{fd:wh}(F:Fun K "begin_of" "begin_of" nA f fd)(tt:Txt K mg ad):bI P w K mg base (CX2 P w) 1 f fd ["word"] gH:=by
 refine F.okN2 Dh (λvs H Q E h=>?_) (λcdv A outer s H vs Q E hr h=>?_)
 ·obtain⟨t,rfl,_⟩:=h
  rfl
 ·obtain⟨t,rfl,hl,q⟩:=h
  have Z:=AG;refine⟨_,(aE (aQ (cD zS (pv 0) dA (cK (jF gB aH))))),?_⟩
  (try rw[bZ]);(try rw[cxK1])
  refine⟨_,rfl,_,rfl,_,rfl,_,rfl,(by omega),?_⟩;rw[show -(1:Int) = -1 from rfl,xR hl.1];exact q
def nJ:Sp:=λvs H Q _=>∃ t:List Nat,vs=[T t]∧(1<=t.length∧t.length<=1000)∧Q (T (t.drop 1)) H
theorem Jy {f:Addr}{fd:wh}(F:Fun K "end_of" "end_of" vA f fd)(tt:Txt K mg ad):bI P w K mg base (CX2 P w) 1 f fd ["word"] nJ:=by
 refine F.okN2 Mn (λvs H Q E h=>?_) (λcdv A outer s H vs Q E hr h=>?_)
 ·obtain⟨t,rfl,_⟩:=h
  rfl
 ·obtain⟨t,rfl,hl,q⟩:=h
  have Z:=AG;refine⟨_,(aE (aQ (cD zS (pv 0) (cK aH) dA))),?_⟩
  (try rw[bZ]);(try rw[cxK1])
  refine⟨_,rfl,_,rfl,_,rfl,(by omega),?_⟩;have e:gX t (some 1) none=t.drop 1:=xP (k:=1) hl.1;rw[e];exact q
theorem aK {H:Hp}{D:Addr}{o:HO}(h:H D=none):aL H (upd H D o):=λb u e=>by rw[aG (aI e h)];exact e
theorem Yh {H G:Hp}{D:Addr}{o:HO}(s:aL H (upd G D o)):∃ H',H'=upd G D o∧aL H H'∧H' D=some o:=⟨_,rfl,s,aC⟩
def Sq (K:ac)(H:Hp)(p:Addr)(xs:List V):Prop:=SqL K H p xs∨SqT K H p xs
theorem Sq.on {K:ac}{H H':Hp}{p:Addr}{xs:List V}(h:Sq K H p xs)(s:aL H H'):Sq K H' p xs:=h.elim (λz=>.inl (s.seq z)) λz=>.inr (xZ s z)
def beg (l:List Nat):List Nat:=l.take (l.length-1)
theorem mH {t:List Nat}:∀ {ls:List (List Nat)},inV (T t) (ls.map T)=decide (t∈ls)
 | []=>by simp[inV]
 | l::ls=>by
  have Z:=@mH t ls;have e:inV (T t) ((l::ls).map T)=(eqV (T l) (T t)||inV (T t) (ls.map T)):=rfl;have e2:eqV (T l) (T t)=decide (t=l):=by
   show (tx l==tx t)=decide (t=l);rw[cu,AK,AI];exact⟨λh=>(gP h).symm,λh=>by rw[h]⟩
  rw[e,Z,e2,cu,kf,AI,AI,AI,au]
theorem Ca (ls:List (List Nat)):(ls.map T).map (λv=>v)=ls.map T:=lu _
theorem itP {c A B:Prop}[Decidable c](Z:c)(h:A):if c then A else B:=by rw[AD Z];exact h
theorem itN {c A B:Prop}[Decidable c](Z:¬ c)(h:B):if c then A else B:=by rw[AC Z];exact h
theorem wA {f:Addr}{fd:wh}(F:Fun K "__init__" "NoRing.__init__" jD f fd)(tt:Txt K mg ad):bI P w K mg base (CX2 P w) 1 f fd ["self", "words", "paper"] (sZ ad.NoRing "paper"):=by
 refine F.okN2 uQ (λvs H Q E h=>?_) (λcdv A outer s H vs Q E hr h=>?_)
 ·obtain⟨a,v1,v,rfl,_⟩:=h
  rfl
 ·obtain⟨a,v1,v,rfl,ha,q⟩:=h
  refine⟨_,(aB (eU (Oe tt.bi_OnceError tt.xi_NoRing.choose_spec (aA (pv 0) (aA (pv 1) aD))))
   (aE (Nq tt.xi_NoRing.choose_spec tt.na_NoRing_paper (pv 0) (pv 2)))),?_⟩
  (try rw[bZ]);(try rw[cxK1])
  refine⟨_,rfl,_,rfl,a,v1,rfl,ha,?_⟩;refine⟨_,rfl,_,rfl,a,rfl,aC,λdx Z=>?_⟩;have gV:dx≠a:=λz=>by rw[z,aC] at Z;cases Z
  rw[aG gV] at Z;have e:upd (upd (upd H a (ExB a ad.NoRing none)) dx (.xd [("paper",v)])) a (ExB a ad.NoRing (some dx))=upd (upd H dx (.xd [("paper",v)])) a (ExB a ad.NoRing (some dx)):=by
   funext b
   by_cases hb:b=a
   ·rw[hb,aC,aC]
   ·rw[aG hb,aG hb]
    by_cases hb2:b=dx
    ·rw[hb2,aC,aC]
    ·rw[aG hb2,aG hb2,aG hb]
  show Q .non (upd (upd (upd H a (ExB a ad.NoRing none)) dx (.xd [("paper",v)])) a (ExB a ad.NoRing (some dx)))
  rw[e];exact q dx Z
theorem tO {xs:List V}{k:Nat}(h:k<=xs.length):iX xs (some (k:Int)) none=xs.drop k:=by
 unfold iX;rw[HT.iI,show HT.sIx xs.length 0 (some (k:Int))=min k xs.length from HT.fR _ _ k,er h,b9 (by rw[bu];exact af _)]
theorem Yo {xs:List V}{k:Nat}(h:k<=xs.length):iX xs none (some (k:Int))=xs.take k:=by
 unfold iX;rw[HT.iI,kz,qj,HT.fR,er h]
theorem fC {i:Int}{n:Nat}(h:i.natAbs<=n)(hn:n<2 ^ 8000):Bg i:=fk h hn
theorem jW {n k:Nat}(h:n<2 ^ k)(hk:k<=8000):n<2 ^ 8000:=bi h (dj (by decide) hk)
theorem lT {ns:List Int}{j:Nat}(h:j<ns.length):(ns.map V.int)[j]?=some (.int (ns.getD j 0)):=by
 rw[ah,ak,aa h];rfl
def Gb:Sp:=λvs H Q _=>∃ (num:Int) (pr:Nat),vs=[.int num,.int (pr:Nat)]∧Dt.dP pr∧pr<2 ^ 1000∧num % (pr:Int)≠0∧∀ inv:Int,Dt.Cg pr (inv*num) 1->0<=inv∧inv<pr->Q (.int inv) H
theorem Fd {f:Addr}{fd:wh}(F:Fun K "inverse" "inverse" rJ f fd)(tt:Txt K mg ad):bI P w K mg base (CX2 P w) 1 f fd ["number", "prime"] Gb:=by
 refine F.okN2 cO (λvs H Q E h=>?_) (λcdv A outer s H vs Q E hr h=>?_)
 ·obtain⟨num,pr,rfl,_⟩:=h
  rfl
 ·obtain⟨num,pr,rfl,hp,wp,h0,q⟩:=h
  have w6:=hp.1;have Z:(0:Int)<(pr:Int):=by omega
  have h8:=jW wp (by decide);obtain⟨r,gV⟩:∃ r:Nat,num % (pr:Int)=r:=⟨(num % pr).toNat,by have:=du num (show (pr:Int)≠0 by omega);omega⟩;have ww:r<pr:=by have:=c9 num Z;omega
  refine⟨_,(aB (aJ (i:=2) cO.nd rfl (Or.inl rfl) (pv 1))
   (aB (aJ (i:=3) cO.nd rfl (Or.inl rfl) (aN bY (pv 0) (pv 1)))
   (aB (aJ (i:=4) cO.nd rfl (Or.inl rfl) aH)
   (aB (aJ (i:=5) cO.nd rfl (Or.inl rfl) aH)
   (aB (lI PassesOwn.never (aU nK (pv 3) aH (aY _)) (aB (aJ (i:=6) cO.nd rfl (Or.inl rfl) (aN Nw (pv 2) (pv 3)))
   (aB (aJ (i:=7) cO.nd rfl (Or.inl rfl) (aN iA (pv 2) (aN eQ (pv 6) (pv 3))))
   (aB (aJ (i:=2) cO.nd rfl (Or.inl rfl) (pv 3))
   (aB (aJ (i:=3) cO.nd rfl (Or.inl rfl) (pv 7))
   (aB (aJ (i:=8) cO.nd rfl (Or.inl rfl) (aN iA (pv 4) (aN eQ (pv 6) (pv 5))))
   (aB (aJ (i:=4) cO.nd rfl (Or.inl rfl) (pv 5))
   (aE (aJ (i:=5) cO.nd rfl (Or.inl rfl) (pv 8))))))))))
   (aE (aQ (aN bY (pv 5) (pv 1))))))))),?_⟩
  (try rw[bZ]);(try rw[cxK1])
  refine⟨_,rfl,?_⟩;refine⟨_,rfl,_,rfl,_,_,rfl,rfl,Z,?_⟩;refine⟨λm σ H2=>H2=H∧∃ (last rest:Nat) (lt t:Int) (v6 v7 v8:Option V),m=rest∧Dt.Euc pr num last rest lt t∧(last<=pr∧rest<=pr)∧σ=[some (.int num),some (.int (pr:Nat)),some (.int (last:Nat)),some (.int (rest:Nat)),some (.int lt),some (.int t),v6,v7,v8],
   ⟨_,rfl,pr,r,0,1,none,none,none,rfl,Dt.Euc.init hp gV (by omega),⟨af _,by omega⟩,by rw[<- gV];rfl⟩,?_⟩
  rintro m σ H2 ⟨rfl,last,rest,lt,t,v6,v7,v8,rfl,he,⟨hl,mp⟩,rfl⟩;have wx:=he.pos;obtain⟨ht,wz⟩:=he.tle;refine⟨_,rfl,_,rfl,_,rfl,_,rfl,?_⟩;by_cases h1:m=1
  ·refine itN (by rw[AE (by omega)];exact ag) ?_
   exact⟨_,rfl,_,rfl,_,_,rfl,rfl,Z,q _ (he.fin h1) ⟨du _ (by omega),c9 _ Z⟩⟩
  ·refine itP (by rw[AH (by omega)];rfl) ?_
   refine⟨_,λσ' H' z=>z,?_⟩;have w4:=qv last m;have bm:Bg ((m:Nat):Int):=fC (n:=pr) (by rw[fm];exact mp) h8;have bq:Bg ((last/m:Nat):Int):=fC (n:=pr) (by rw[fm];omega) h8;refine⟨_,rfl,_,rfl,_,_,rfl,rfl,⟨by show (0:Int)<(m:Int);omega,bm⟩,?_⟩;refine⟨_,rfl,_,rfl,_,rfl,_,_,rfl,rfl,⟨bq,bm⟩,_,_,rfl,rfl,?_⟩;have e1:((last:Nat):Int)-((last/m:Nat):Int)*((m:Nat):Int)=((last % m:Nat):Int):=by
    have h:=congrArg (λn:Nat=>(n:Int)) (ke last m);simp only [kc,fo] at h;rw[g8] at h;omega
   refine⟨_,rfl,?_⟩;refine⟨_,rfl,?_⟩;refine⟨_,rfl,_,rfl,_,rfl,_,_,rfl,rfl,⟨bq,fC ht h8⟩,_,_,rfl,rfl,?_⟩;refine⟨_,rfl,?_⟩;refine⟨_,rfl,?_⟩;have or:=jn last (show m>0 by omega);exact⟨last % m,or,rfl,m,last % m,t,_,_,_,_,rfl,he.step h1,⟨mp,by omega⟩,by rw[<- e1];rfl⟩
def low (back:Int)(pr:Nat)(top row:List Int):List Int:=qm (λx y=>x-row.getD 0 0*back % (pr:Int)*y) (row.drop 1) (top.drop 1)
structure Ek (back:Int)(pr n:Nat)(top row:List Int):Prop where
 l1:row.length=n+1
 l2:top.length=n+1
 sz:n<=1000
 pos:0<pr
 ps:pr<2 ^ 1000
 b0:Bg (row.getD 0 0)
 bk:back.natAbs<=pr
 tp:∀ y∈top,y.natAbs<=pr
def Vv (K:ac):Sp:=λvs H Q _=>∃ (a b:Addr) (back:Int) (pr n:Nat) (row top:List Int),vs=[.ref a,.ref b,.int back,.int (pr:Nat)]∧SqL K H a (row.map V.int)∧SqL K H b (top.map V.int)∧Ek back pr n top row∧∀ D H',H D=none->aL H H'->H' D=some (.lst ((low back pr top row).map V.int))->Q (.ref D) H'
theorem Ft {f:Addr}{fd:wh}(F:Fun K "lowered" "lowered" mB f fd)(tt:Txt K mg ad):bI P w K mg base (CX2 P w) 1 f fd ["row", "top", "back", "prime"] (Vv K):=by
 refine F.okN2 uX (λvs H Q E h=>?_) (λcdv A outer s H vs Q E hr h=>?_)
 ·obtain⟨a,b,back,pr,n,row,top,rfl,_⟩:=h
  rfl
 ·obtain⟨a,b,back,pr,n,row,top,rfl,hA,hB,ok,q⟩:=h
  have hs:=AG;obtain⟨l1,l2,sz,pos,ps,b0,bk,tp⟩:=ok;have gV:(0:Int)<(pr:Int):=by omega
  have h8:=jW ps (by decide);have t0:=du (row.getD 0 0*back) (show (pr:Int)≠0 by omega);have t1:=c9 (row.getD 0 0*back) gV;refine⟨_,(aB (aJ (i:=4) uX.nd rfl (Or.inr rfl) (aN bY (aN eQ (cH bW (pv 0) aH (λ_ _=>rfl)) (pv 2)) (pv 3)))
   (aB (bR (aU eP (pv 4) aH (aY _)) (aE (aQ (cD gZ (pv 0) (cK aH) dA))) aV)
   (aE (aQ (Sc Ad rfl (Wk (by rfl) tt.b_zip (aA (cD gZ (pv 0) (cK aH) dA) (aA (cD gZ (pv 1) (cK aH) dA) aD))) (λcl C s' H' fp=>(aN iA (pv 0) (aN eQ (pv 6) (pv 1))))))))),?_⟩
  (try rw[bZ]);(try rw[cxK1])
  refine⟨_,rfl,a,_,_,_,rfl,rfl,hA,bL (j:=0) (lT (by omega)),_,rfl,_,_,rfl,rfl,⟨b0,fC bk h8⟩,_,rfl,_,_,rfl,rfl,gV,?_⟩;refine⟨_,rfl,_,rfl,_,rfl,_,rfl,?_⟩;have cA:iX (row.map V.int) (some (1:Int)) none=(row.drop 1).map V.int:=by rw[i7];exact tO (k:=1) (by rw[aR];omega)
  have cB:iX (top.map V.int) (some (1:Int)) none=(top.drop 1).map V.int:=by rw[i7];exact tO (k:=1) (by rw[aR];omega)
  by_cases hz:row.getD 0 0*back % (pr:Int)=0
  ·refine itP (AE hz) ?_
   refine⟨_,rfl,_,rfl,a,_,rfl,hA,λp hp=>?_⟩;rw[cA];refine q p _ hp (aK hp) ?_;rw[aC]
   congr 3
   unfold low;rw[hz];refine l7 λi=>?_
   rw[ml];by_cases hi:i<n
   ·rw[aa (l:=row.drop 1) (by rw[bu];omega),aa (l:=top.drop 1) (by rw[bu];omega)]
    show some _=some _;rw[qf,nu]
   ·rw[c8 (by rw[bu];omega)]
  ·refine itN (λz=>hz (AF z)) ?_
   refine⟨_,rfl,_,rfl,a,_,rfl,hA,λp1 wz=>?_⟩;rw[cA];have mp:=aK (o:=.lst ((row.drop 1).map V.int)) wz;refine⟨_,rfl,_,rfl,b,_,rfl,mp.seq hB,λp2 or=>?_⟩;rw[cB];have Z:=aK (o:=.lst ((top.drop 1).map V.int)) or;refine⟨p1,p2,rfl,⟨_,SqL.of (Z p1 _ aC)⟩,⟨_,SqL.of aC⟩,?_⟩;refine Qs (λx y=>match x,y with | .int i,.int j=>.int (i-row.getD 0 0*back % (pr:Int)*j) | _,_=>.non) (SqL.of (Z p1 _ aC)) (SqL.of aC) (by rw[aR,aR,bu,bu,l1,l2]) (by rw[aR,bu];omega) (λi x y H' hx hy s' N hN=>?_) λD H' hD s' hd=>?_
   ·rw[ah] at hx hy
    obtain⟨i1,w4,rfl⟩:=bz.mp hx;obtain⟨j1,wx,rfl⟩:=bz.mp hy;have wp:=tp j1 (m9 (ay wx));exact⟨_,rfl,_,rfl,_,rfl,_,_,rfl,rfl,⟨fC (n:=pr) (by omega) h8,fC wp h8⟩,_,_,rfl,rfl,hN H' (aL.refl _)⟩
   ·have ww:H D=none:=by
     cases e:H D with
     | none=>rfl
     | some o=>have:=(mp.trans Z) D o e;rw[hD] at this;cases this
    refine q D H' ww (mp.trans (Z.trans s')) ?_;rw[hd]
    congr 3
    unfold low;rw[List.zipWith_map,List.map_zipWith]
def Jk (K:ac):Sp:=λvs H Q _=>∃ (a:Addr) (ns:List Int),vs=[.ref a]∧SqL K H a (ns.map V.int)∧(∀ H',aL H H'->(∀ x∈ns,x=0)->Q .non H')∧∀ (p:Nat) (H':Hp),aL H H'->p<ns.length->ns.getD p 0≠0->Q (.int (p:Nat)) H'
theorem iK {f:Addr}{fd:wh}(F:Fun K "first_other_than_nought" "first_other_than_nought" cZ f fd)(tt:Txt K mg ad):bI P w K mg base (CX2 P w) 1 f fd ["numbers"] (Jk K):=by
 refine F.okN2 cU (λvs H Q E h=>?_) (λcdv A outer s H vs Q E hr h=>?_)
 ·obtain⟨a,ns,rfl,_⟩:=h
  rfl
 ·obtain⟨a,ns,rfl,hA,q0,q1⟩:=h
  refine⟨_,(aB (cY PassesOwn.never rfl (Ud (by rfl) tt.b_enumerate (aA (pv 0) aD)) (Ff rfl (jK (bO (i:=1) cU.nd rfl (Or.inl rfl)) (jK (bO (i:=2) cU.nd rfl (Or.inl rfl)) Ay))) (aE (bR (aU nK (pv 2) aH (aY _)) (aE (aQ (pv 1))) aV)))
   (aE (aQ vF))),?_⟩
  (try rw[bZ]);(try rw[cxK1])
  refine⟨_,rfl,a,rfl,⟨_,hA⟩,?_⟩;refine Sg (K:=K) (a:=a) (xs:=ns.map V.int) (λi σ H2=>aL H H2∧(∀ j,j<i->ns.getD j 0=0)∧∃ v1 v2:Option V,σ=[some (.ref a),v1,v2]) ⟨aL.refl _,λj hj=>absurd hj (Nat.not_lt_zero j),none,none,rfl⟩ (λi σ H2 _ h=>h.1.seq hA) ?_ ?_
  ·rintro i x p σ H2 Z hp ⟨s2,hz,v1,v2,rfl⟩
   have hi:i<ns.length:=by have:=(ao.mp Z).1;rwa [aR] at this
   rw[lT hi] at Z;obtain rfl:=av Z;have t2:=aK (o:=.tup [.int (i:Nat),.int (ns.getD i 0)]) hp;refine⟨p,_,rfl,SqT.of aC,rfl,_,_,rfl,_,_,rfl,rfl,?_⟩;refine⟨_,rfl,_,rfl,_,rfl,_,rfl,?_⟩;by_cases h0:ns.getD i 0=0
   ·refine itN (by rw[AE h0];exact ag) ?_
    exact⟨s2.trans t2,λj hj=>by
     rcases fh j i with z | z
     ·exact hz j z
     ·rw[show j=i by omega];exact h0,_,_,rfl⟩
   ·refine itP (by rw[AH h0];rfl) ?_
    exact⟨_,rfl,q1 i _ (s2.trans t2) hi h0⟩
  ·rintro σ H2 ⟨s2,hz,v1,v2,rfl⟩
   rw[aR] at hz;exact q0 H2 s2 λx Z=>by
    obtain⟨j,hj⟩:=ii Z;have gV:=(ao.mp hj).1
    have:=hz j gV
    rwa [ak,hj] at this
structure Ow (M:List (List Int))(n pr E:Nat):Prop where
 len:M.length=n
 row:∀ r∈M,r.length=n
 sz:n<=100
 pm:Dt.dP pr
 ps:pr<2 ^ 1000
 be:∀ r∈M,∀ x∈r,x.natAbs<=E
 bd:E+n*(pr*pr)<2 ^ 8000
def Oy (K:ac):Sp:=λvs H Q _=>∃ (a:Addr) (as:List Addr) (M:List (List Int)) (n pr E:Nat),vs=[.ref a,.int (pr:Nat)]∧SqL K H a (as.map V.ref)∧dX K H as M∧Ow M n pr E∧∀ (r:Int) (H':Hp),aL H H'->0<=r∧r<pr->Dt.Cg pr r (Dt.det n (Dt.ent M))->Q (.int r) H'
theorem oP {ns:List Int}{j:Nat}(h:j<ns.length):ns.getD j 0∈ns:=by
 rw[ak,aa h];exact dk h
theorem Hr {back:Int}{pr n:Nat}{top row:List Int}(h:Ek back pr n top row):(low back pr top row).length=n:=by
 unfold low
 have:=h.l1
 have:=h.l2
 rw[sw,bu,bu];omega
theorem Hs {back:Int}{pr n:Nat}{top row:List Int}(h:Ek back pr n top row){k:Nat}(hk:k<n):(low back pr top row).getD k 0=row.getD (k+1) 0-row.getD 0 0*back % (pr:Int)*top.getD (k+1) 0:=by
 have h1:=h.l1;have h2:=h.l2;unfold low;rw[ak,ml,lq,lq,j4 1 k,aa (show k+1<row.length by omega),aa (show k+1<top.length by omega),ak (l:=row) (i:=k+1),aa (show k+1<row.length by omega),ak (l:=top),aa (show k+1<top.length by omega)];rfl
theorem Uy {back:Int}{pr n E:Nat}{top row:List Int}(h:Ek back pr n top row)(hE:∀ x∈row,x.natAbs<=E):∀ x∈low back pr top row,x.natAbs<=E+pr*pr:=λx hx=>by
 obtain⟨k,hk⟩:=ii hx;have Z:=(ao.mp hk).1;rw[Hr h] at Z;have h1:=h.l1;have h2:=h.l2;have e:=Hs h Z;rw[ak,hk] at e;have e:x=_:=e;have b1:=hE _ (oP (ns:=row) (j:=k+1) (by omega));have b2:=h.tp _ (oP (ns:=top) (j:=k+1) (by omega));have hp:=h.pos;have t0:=du (row.getD 0 0*back) (show (pr:Int)≠0 by omega);have t1:=c9 (row.getD 0 0*back) (show (0:Int)<pr by omega);have b3:=ur (row.getD (k+1) 0) (row.getD 0 0*back % (pr:Int)*top.getD (k+1) 0);rw[oh] at b3;have b4:(row.getD 0 0*back % (pr:Int)).natAbs*(top.getD (k+1) 0).natAbs<=pr*pr:=ic (by omega) b2;rw[e];omega
theorem mF {f:Addr}{fd:wh}(F:Fun K "determinant_rest" "determinant_rest" cI f fd)(tt:Txt K mg ad)(Z:Cal P w K mg base (CX2 P w) "first_other_than_nought" 1 ["numbers"] (Jk K))(wp:Cal P w K mg base (CX2 P w) "inverse" 1 ["number", "prime"] Gb)(or:Cal P w K mg base (CX2 P w) "lowered" 1 ["row", "top", "back", "prime"] (Vv K)):bI P w K mg base (CX2 P w) 2 f fd ["square", "prime"] (Oy K):=by
 refine F.okN2 bD (λvs H Q E h=>?_) (λcdv A outer s H vs Q E hr h=>?_)
 ·obtain⟨a,as,M,n,pr,E0,rfl,_⟩:=h
  rfl
 ·obtain⟨a,as,M,n,pr,B,rfl,hA,hR,ok,q⟩:=h
  have hs:=AG;have hu:=ge (eD hr);obtain⟨len,row,sz,pm,ps,be,bd⟩:=ok;have x9:=pm.1;have mp:(0:Int)<(pr:Int):=by omega
  have h8:=jW ps (by decide);refine⟨_,(aB (aJ (i:=2) bD.nd rfl (Or.inl rfl) (fA pM (by rfl) tt.b_list (by decide +kernel) (aA (pv 0) aD)))
   (aB (aJ (i:=3) bD.nd rfl (Or.inl rfl) aH)
   (aB (lI PassesOwn.never (aU (Rt K rfl hu) (pv 2) (dB aD) (aY _)) (aB (aJ (i:=4) bD.nd rfl (Or.inl rfl) (aM Z hr aS (aA (eR kP rfl (cN (pv 2)) (λcl C s' H' fp=>(aN bY (cH (Li K rfl) (pv 0) aH (λ_ _=>rfl)) (pv 2)))) aD)))
   (aB (bR (kX (Gm (pv 4))) (aE (aQ aH)) aV)
   (aB (aJ (i:=5) bD.nd rfl (Or.inr rfl) (eR kN rfl (cN (cH bW (pv 2) (pv 4) (λ_ _=>rfl))) (λcl C s' H' fp=>(aN bY (pv 0) (pv 2)))))
   (aB (aJ (i:=6) bD.nd rfl (Or.inr rfl) (aM wp hr aS (aA (cH bW (pv 5) aH (λ_ _=>rfl)) (aA (pv 1) aD))))
   (aB (aJ (i:=3) bD.nd rfl (Or.inl rfl) (aN bY (aN eQ (pv 3) (cH bW (pv 5) aH (λ_ _=>rfl))) (pv 1)))
   (aB (Vi (t':=(λD σ H=>∃ (x0 x2:V) (pr:Nat) (xi:Int) (p:Nat) (v5 v6:Option V),σ=[some x0,some (.int (pr:Nat)),some x2,some (.int xi),some (.int (p:Nat)),v5,v6]∧D.nx [some x0,some (.int (pr:Nat)),some x2,some (.int (if p % 2=1 then (pr:Int)-xi else xi)),some (.int (p:Nat)),v5,v6] H)) (bR (aU eP (aN bY (pv 4) aH) aH (aY _)) (aE (aJ (i:=3) bD.nd rfl (Or.inl rfl) (aN iA (pv 1) (pv 3)))) aV) ?rA)
   (aE (Fj (i:=2) kO rfl (cN (aN lY (cD gZ (pv 2) dA (cK (pv 4))) (cD gZ (pv 2) (cK (aN eA (pv 4) aH)) dA))) (λcl C s' H' fp=>(aM or hr aS (aA (pv 0) (aA (pv 6) (aA (pv 7) (aA (pv 2) aD)))))) bD.nd rfl rfl)))))))))
   (aE (aQ (pv 3)))))),?_⟩
  (try rw[bZ]);(try rw[cxK1])
  case rA =>
   rintro D σ H ⟨x0,x2,pr,xi,p,v5,v6,rfl,xc⟩;refine⟨_,rfl,_,_,rfl,rfl,(by show (0:Int)<2;decide),_,rfl,_,rfl,_,rfl,?_⟩;by_cases h2:p % 2=1
   ·refine itP (AE (by omega)) ?_
    refine⟨_,rfl,_,rfl,_,_,rfl,rfl,?_⟩;rw[AD h2] at xc;exact xc
   ·refine itN (λz=>h2 (by have:=AF z;omega)) ?_
    rw[AC h2] at xc;exact xc
  refine⟨_,rfl,a,_,rfl,.inl hA,λL0 yo=>?_⟩;have t0:=aK (o:=.lst (as.map V.ref)) yo;refine⟨λm σ G=>∃ (Lr:Addr) (bs:List Addr) (N:List (List Int)) (k:Nat) (rest:Int) (v4 v5 v6:Option V),aL H G∧G Lr=some (.lst (bs.map V.ref))∧dX K G bs N∧N.length=m∧(∀ r∈N,r.length=m)∧m+k=n∧(∀ r∈N,∀ x∈r,x.natAbs<=B+k*(pr*pr))∧(0<rest∧rest<pr)∧Dt.Cg pr (rest*Dt.det m (Dt.ent N)) (Dt.det n (Dt.ent M))∧σ=[some (.ref a),some (.int (pr:Nat)),some (.ref Lr),some (.int rest),v4,v5,v6],
   ⟨n,L0,as,M,0,1,none,none,none,t0,aC,hR.on t0,len,row,by omega,λr hr x hx=>by rw[ul];exact be r hr x hx,⟨by decide,by omega⟩,by rw[jz];exact Dt.Cg.refl _,rfl⟩,?_⟩
  rintro m σ G ⟨Lr,bs,N,k,rest,v4,v5,v6,sG,hL,hN,ya,xf,yz,x6,xa,xb,rfl⟩;have yg:=hN.1;refine⟨_,rfl,(by show 0<=sizeLine;omega),λE1 yq=>?_⟩;have tE:=aK (o:=.lst []) yq;refine⟨Lr,E1,_,rfl,rfl,SqL.of (tE Lr _ hL),SqL.of aC,_,rfl,?_⟩
  cases m with
  | zero =>
   obtain rfl:bs=[]:=a8.mp (by omega);refine oE ?_;refine⟨_,rfl,q rest _ (sG.trans tE) ⟨by omega,xa.2⟩ ?_⟩;have e:rest*Dt.det 0 (Dt.ent N)=rest:=mz rest;rw[e] at xb;exact xb
  | succ m =>
   refine itP (by cases bs with | nil=>rw[lm] at yg;omega | cons y r=>rfl) ?_;refine⟨_,λσ' H' z=>z,?_⟩;have xg:=tE Lr _ hL;have xm:=hN.on tE;generalize upd G E1 (.lst [])=G2 at tE xg xm;refine⟨_,rfl,Lr,rfl,⟨_,SqL.of xg⟩,?_⟩;refine Zg (λr=>r.getD 0 0 % (pr:Int)) (cJ (SqL.of xg)) xm (by omega) (λa' r G' gV hS s' N' w4=>?_) λD1 G3 yy s3 yk=>?_
   ·exact⟨_,rfl,a',_,_,_,rfl,rfl,hS,bL (j:=0) (lT (by rw[xf r gV];omega)),_,rfl,_,_,rfl,rfl,mp,w4 G' (aL.refl _)⟩
   have yn:=s3 Lr _ xg;have yv:=xm.on s3;have xr:=sG.trans (tE.trans s3);refine⟨D1,_,rfl,SqL.of yk,λG4 s4 xo=>?_,λp G4 s4 hp yc=>?_⟩
   ·refine⟨_,rfl,_,rfl,oQ ?_⟩
    refine q 0 G4 (xr.trans s4) ⟨Int.le_refl _,mp⟩ ?_;have h0:=Dt.Zy (m:=pr) (M:=N) (n:=m) (λr gV=>Int.dvd_of_emod_eq_zero (xo _ (aw.mpr ⟨r,gV,rfl⟩))) ya;have h1:=(Dt.Cg.refl (m:=pr) rest).mul h0;rw[g9] at h1;exact h1.symm.trans xb
   ·rw[aR] at hp
    obtain⟨rp,xh⟩:∃ rp,N[p]?=some rp:=⟨_,aa hp⟩;obtain⟨bp,xp⟩:∃ bp,bs[p]?=some bp:=⟨_,aa (by omega)⟩;have x8:=ay xh;have yu:=xf rp x8;have xu:rp.getD 0 0 % (pr:Int)≠0:=by
     rw[ak,ah,xh] at yc;exact yc
    refine⟨_,rfl,_,rfl,oE ?_⟩;have xw:=s4 Lr _ yn;have yb:=yv.on s4;have xz:=yb.2 p bp rp xp xh;refine⟨_,rfl,_,rfl,Lr,_,_,_,rfl,rfl,SqL.of xw,bL (j:=p) (by rw[ah,xp];rfl),bp,rfl,⟨_,xz⟩,?_⟩;refine pG (λv=>match v with | .int i=>.int (i % (pr:Int)) | _=>.non) (cJ xz) (by rw[aR];omega) (λv G' hv s' N' w4=>?_) λD2 G5 y6 s5 wz=>?_
    ·obtain⟨i,hi,rfl⟩:=aw.mp hv
     exact⟨_,rfl,_,rfl,_,_,rfl,rfl,mp,w4 G' (aL.refl _)⟩
    have wz:G5 D2=some (.lst ((rp.map λi=>i % (pr:Int)).map V.int)):=by rw[wz,bv,bv];rfl
    have yd:(rp.map λi=>i % (pr:Int)).length=m+1:=by rw[aR,yu]
    have w6:∀ k,k<m+1->(rp.map λi=>i % (pr:Int)).getD k 0=rp.getD k 0 % (pr:Int):=λk hk=>by
     rw[ak,ah,ak,aa (by omega)];rfl
    have xl:∀ y∈rp.map (λi=>i % (pr:Int)),y.natAbs<=pr:=λy hy=>by
     obtain⟨i,_,rfl⟩:=aw.mp hy
     have:=du i (show (pr:Int)≠0 by omega)
     have:=c9 i mp
     omega
    have xx:(rp.map λi=>i % (pr:Int)).getD 0 0 % (pr:Int)≠0:=by rw[w6 0 (by omega),Int.emod_emod];exact xu
    have xt:∀ k,k<m+1->Dt.Cg pr ((rp.map λi=>i % (pr:Int)).getD k 0) ((N.getD p []).getD k 0):=λk hk=>by
     rw[w6 k hk,ak (l:=N),xh];exact Dt.qA _
    generalize rp.map (λi=>i % (pr:Int))=top at wz yd w6 xl xx xt;have yp:=xr.trans (s4.trans s5);have xy:=s5 Lr _ xw;have yt:=yb.on s5;refine⟨_,rfl,D2,_,_,_,rfl,rfl,SqL.of wz,bL (j:=0) (lT (by omega)),_,rfl,top.getD 0 0,pr,rfl,pm,ps,xx,λinv xk y0=>?_⟩;have xq:=xl _ (oP (ns:=top) (j:=0) (by omega));refine⟨_,rfl,_,rfl,D2,_,_,_,rfl,rfl,SqL.of wz,bL (j:=0) (lT (by omega)),_,_,rfl,rfl,⟨fC (n:=pr) (by omega) h8,fC xq h8⟩,_,rfl,_,_,rfl,rfl,mp,?_⟩;refine⟨_,_,pr,_,p,_,_,rfl,?_⟩;have yw:p<=bs.length:=by omega
    have c1:iX (bs.map V.ref) none (some ((p:Nat):Int))=(bs.take p).map V.ref:=by rw[jq];exact Yo (by rw[aR];omega)
    have c2:iX (bs.map V.ref) (some ((p:Nat)+1:Int)) none=(bs.drop (p+1)).map V.ref:=by rw[i7];exact tO (k:=p+1) (by rw[aR];omega)
    refine⟨_,rfl,_,rfl,_,rfl,Lr,_,rfl,SqL.of xy,λp1 x9=>?_⟩;rw[c1];have u1:=aK (o:=.lst ((bs.take p).map V.ref)) x9;refine⟨_,rfl,_,rfl,_,_,rfl,rfl,_,rfl,Lr,_,rfl,SqL.of (u1 Lr _ xy),λp2 yh=>?_⟩;rw[c2];have u2:=aK (o:=.lst ((bs.drop (p+1)).map V.ref)) yh;refine⟨p1,p2,_,_,rfl,rfl,SqL.of (u2 p1 _ aC),SqL.of aC,(by rw[aR,aR,cj,bu];omega),λp3 yr=>?_⟩;rw[show (bs.take p).map V.ref++(bs.drop (p+1)).map V.ref=(bs.eraseIdx p).map V.ref by rw[<- a7,js]];have u3:=aK (o:=.lst ((bs.eraseIdx p).map V.ref)) yr;have w8:=u1.trans (u2.trans u3);refine⟨p3,rfl,⟨_,SqL.of aC⟩,?_⟩;have ww:∀ r∈N,Ek inv pr m top r:=λr gV=>⟨xf r gV,yd,by omega,by omega,ps,fC (x6 r gV _ (oP (by rw[xf r gV];omega))) (fk (le (gk _ (show k<=n by omega)) B) bd),by omega,xl⟩
    have wx:∀ r∈N.eraseIdx p,r∈N:=λr hr=>List.mem_of_mem_eraseIdx hr
    refine aAD (low inv pr top) (cJ (SqL.of aC)) ((yt.erase p).on w8) (by rw[ig];split <;> omega) (λa' r G' gV hS s' N' w4=>?_) λD4 cs G6 yx s6 yf _ ym=>?_
    ·exact⟨_,rfl,_,rfl,_,rfl,_,rfl,a',D2,inv,pr,m,r,top,rfl,hS,SqL.of (s' D2 _ (w8 D2 _ wz)),ww r (wx r gV),λD yj hD yi hd=>w4 D yj yi hD hd⟩
    ·have ye:=Dt.elim (m:=pr) (n:=m) (p:=p) (M:=N) (top:=top) (back:=inv) (t:=λr=>r.getD 0 0*inv % (pr:Int)) (low:=low inv pr top) (by omega) ya xt (by rw[g8];exact xk) (λr _=>Dt.qA _) λr gV k hk=>Hs (ww r gV) hk
     obtain⟨r1,r2⟩:=Dt.Kr xa xk ye xb;refine⟨m,gx m,D4,cs,(N.eraseIdx p).map (low inv pr top),k+1,_,_,_,_,yp.trans (w8.trans s6),yf,ym,by rw[aR,ig,AD (by omega)];omega,λr hr=>?_,by omega,λr hr=>?_,r1,r2,rfl⟩
     ·obtain⟨r',xj,rfl⟩:=aw.mp hr
      exact Hr (ww r' (wx r' xj))
     ·obtain⟨r',xj,rfl⟩:=aw.mp hr
      rw[ib,ie,<- ph];exact Uy (ww r' (wx r' xj)) (x6 r' (wx r' xj))
structure Dp (M:List (List Int))(n:Nat):Prop where
 len:M.length=n
 row:∀ r∈M,r.length=n
 sz:n<=64
 sm:∀ r∈M,Dt.rs n r<=2 ^ 110
theorem Dp.part {M:List (List Int)}{n:Nat}(h:Dp M n)(i:Nat):Dt.pL ((M.take i).map (Dt.rs n))<2 ^ 8000:=by
 have h1:=Dt.Oo (R:=2 ^ 110) (l:=(M.take i).map (Dt.rs n)) λx hx=>by
  obtain⟨r,Z,rfl⟩:=aw.mp hx;exact h.sm r (List.mem_of_mem_take Z)
 rw[aR,cj,<- kx] at h1
 have:=h.len
 have:=h.sz
 exact fk h1 (m6 (by decide) (by omega))
def Ji (K:ac):Sp:=λvs H Q _=>∃ (a:Addr) (as:List Addr) (M:List (List Int)) (n:Nat),vs=[.ref a]∧SqL K H a (as.map V.ref)∧dX K H as M∧Dp M n∧∀ H',aL H H'->Q (.int (Dt.pL (M.map (Dt.rs n)):Nat)) H'
theorem uN {f:Addr}{fd:wh}(F:Fun K "greatest_of" "greatest_of" gK f fd)(tt:Txt K mg ad):bI P w K mg base (CX2 P w) 1 f fd ["square"] (Ji K):=by
 refine F.okN2 fT (λvs H Q E h=>?_) (λcdv A outer s H vs Q E hr h=>?_)
 ·obtain⟨a,as,M,n,rfl,_⟩:=h
  rfl
 ·obtain⟨a,as,M,n,rfl,hA,hR,ok,q⟩:=h
  have hs:=AG;have wz:=hR.1;have ww:=ok.len;have hsz:=ok.sz;refine⟨_,(aB (aJ (i:=1) fT.nd rfl (Or.inl rfl) aH)
   (aB (cY PassesOwn.never rfl (cN (pv 0)) (bO (i:=2) fT.nd rfl (Or.inl rfl)) (aE (aJ (i:=1) fT.nd rfl (Or.inl rfl) (aN eQ (pv 1) (aP (yR rfl) (by rfl) tt.b_sum re (aA (eR pQ rfl (cN (pv 2)) (λcl C s' H' fp=>(aP Og (by rfl) tt.b_abs PyProof.Rows.boot_abs (aA (pv 0) aD)))) aD))))))
   (aE (aQ (pv 1))))),?_⟩
  (try rw[bZ]);(try rw[cxK1])
  refine⟨_,rfl,a,rfl,⟨_,hA⟩,?_⟩;refine gN (K:=K) (a:=a) (xs:=as.map V.ref) (λi σ G=>aL H G∧∃ v2:Option V,σ=[some (.ref a),some (.int (Dt.pL ((M.take i).map (Dt.rs n)):Nat)),v2]) ⟨aL.refl _,none,rfl⟩ (λi σ G _ h=>h.1.seq hA) ?_ ?_
  ·rintro i v σ G hi ⟨sG,v2,rfl⟩
   obtain⟨a',r,rfl,mp,hS⟩:=(hR.on sG).at hi;have or:=ay mp;have gV:=ok.row r or;refine⟨_,rfl,_,rfl,a',rfl,⟨_,hS⟩,?_⟩;refine pG (λv=>match v with | .int i=>.int (if i<0 then -i else i) | _=>.non) (cJ hS) (by rw[aR];omega) (λv G' hv s' N' wp=>?_) λD2 G5 wx s5 Z=>?_
   ·obtain⟨i,hi,rfl⟩:=aw.mp hv
    exact⟨_,rfl,_,rfl,wp G' (aL.refl _)⟩
   have Z:G5 D2=some (.lst ((r.map λi=>if i<0 then -i else i).map V.int)):=by rw[Z,bv,bv];rfl
   refine⟨D2,_,rfl,SqL.of Z,?_⟩;rw[Dt.Uw gV];have e:Dt.pL ((M.take (i+1)).map (Dt.rs n))=Dt.pL ((M.take i).map (Dt.rs n))*Dt.rs n r:=by rw[cn,mp,a7];exact Dt.Iy _ _
   refine⟨_,_,rfl,rfl,⟨fC (by rw[fm];exact af _) (ok.part i),fC (n:=2 ^ 110) (by rw[fm];exact ok.sm r or) (jW (k:=111) (by decide +kernel) (by decide))⟩,?_⟩;refine⟨sG.trans s5,some (.ref a'),?_⟩;rw[e,fo];rfl
  ·rintro σ G ⟨sG,v2,rfl⟩
   rw[aR,b9 (by omega)];exact⟨_,rfl,q G sG⟩
def kts:List Int:=[133,211,598,652,721,850,1282,1417,1582,1681,1726,1837,1885,2017,2377,2383,2452,2476,2530,2611,2662,2698,2773,2878,2917,2980,2998,3082,3238,3250,3343,3421,3427,3670,3817,4162,4252,4447,4468,4621,4630,4747,4867,4891,4915,5128,5143,5236,5401,5587,5650,5803,5833,5923,5986,6202,6235,6286,6496,6526,6736,7093,7561,7696,7831,7855,7882,7927,8143,8248]
def Ht:Sp:=λvs H Q _=>∃ (j:Nat) (last:Int),vs=[.int (j:Nat),.int last]∧j<7∧Q (.int (kts.getD j 0)) H
theorem rF {f:Addr}{fd:wh}(F:Fun K "further_times" "further_times" gQ f fd)(tt:Txt K mg ad):bI P w K mg base (CX2 P w) 1 f fd ["place", "last"] Ht:=by
 refine F.okN2 pW (λvs H Q E h=>?_) (λcdv A outer s H vs Q E hr h=>?_)
 ·obtain⟨j,last,rfl,_⟩:=h
  rfl
 ·obtain⟨j,last,rfl,hj,q⟩:=h
  have Z:SqT K H ad.KNOWN_TIMES (kts.map V.int):=SqT.tupIs tt.kt;have gV:(kts.map V.int).length=70:=rfl;refine⟨_,(aB (bR (aU Jd (pv 0) (aP aW (by rfl) tt.b_len bc (aA (cX (v:=.ref ad.KNOWN_TIMES) (by rfl) tt.m_KNOWN_TIMES rfl) aD)) (aY _)) (aE (aQ (cH lO (cX (v:=.ref ad.KNOWN_TIMES) (by rfl) tt.m_KNOWN_TIMES rfl) (pv 0) (λ_ _=>rfl)))) aV)
   Rk),?_⟩
  (try rw[bZ]);(try rw[cxK1])
  refine⟨_,rfl,ad.KNOWN_TIMES,_,rfl,.inr Z,_,_,rfl,rfl,_,rfl,?_⟩;rw[gV];refine itP (AE (by omega)) ?_;exact⟨_,rfl,ad.KNOWN_TIMES,_,_,_,rfl,rfl,Z,bL (j:=j) (lT (by show j<70;omega)),q⟩
theorem Yz:∀ j,j<7->kts.getD j 0*6277101735386680763835789423207666416102355444464034512896+1=((Dt.pr j:Nat):Int):=by decide +kernel
theorem Wj:∀ j,j<7->(kts.getD j 0).natAbs<2 ^ 20:=by decide +kernel
def Vw (K:ac):Sp:=λvs H Q _=>∃ (a:Addr) (as:List Addr) (M:List (List Int)) (n:Nat),vs=[.ref a]∧SqL K H a (as.map V.ref)∧dX K H as M∧Dp M n∧2*Dt.pL (M.map (Dt.rs n))<Dt.md 7∧∀ H',aL H H'->Q (.int (Dt.det n (Dt.ent M))) H'
theorem Wm {n p:Nat}(hn:n<=64)(Z:p<2 ^ 250):2 ^ 110+n*(p*p)<2 ^ 8000:=by
 have h1:n*(p*p)<=64*(2 ^ 250*2 ^ 250):=ic hn (ic (iw Z) (iw Z));exact fk (le h1 _) (by decide +kernel)
theorem Dp.rest {M:List (List Int)}{n p:Nat}(h:Dp M n)(hp:Dt.dP p)(hl:p<2 ^ 250):Ow M n p (2 ^ 110) :=
 ⟨h.len,h.row,a5 h.sz (by decide),hp,bi hl (dj (by decide) (by decide)),λr Z x hx=>a5 (Dt.Wl (h.row r Z) hx) (h.sm r Z),Wm h.sz hl⟩
theorem tV {f:Addr}{fd:wh}(F:Fun K "determinant" "determinant" jC f fd)(tt:Txt K mg ad)(mp:Cal P w K mg base (CX2 P w) "greatest_of" 1 ["square"] (Ji K))(Z:Cal P w K mg base (CX2 P w) "determinant_rest" 2 ["square", "prime"] (Oy K))(gV:Cal P w K mg base (CX2 P w) "further_times" 1 ["place", "last"] Ht)(ww:Cal P w K mg base (CX2 P w) "inverse" 1 ["number", "prime"] Gb) :
  bI P w K mg base (CX2 P w) 3 f fd ["square"] (Vw K):=by
 refine F.okN2 bJ (λvs H Q E h=>?_) (λcdv A outer s H vs Q E hr h=>?_)
 ·obtain⟨a,as,M,n,rfl,_⟩:=h
  rfl
 ·obtain⟨a,as,M,n,rfl,hA,hR,ok,xg,q⟩:=h
  have hs:=AG;have xa:=Dt.Xp (M:=M) ok.len;have w4:=ok.part n;rw[b9 (by rw[ok.len];exact af _)] at w4;generalize hB:Dt.pL (M.map (Dt.rs n))=B at xg xa w4;generalize xc:Dt.det n (Dt.ent M)=DD at q xa;have bB:Bg ((B:Nat):Int):=fC (by rw[fm];exact af _) w4;refine⟨_,(aB (aJ (i:=1) bJ.nd rfl (Or.inl rfl) (aM mp hr aS (aA (pv 0) aD)))
   (aB (aJ (i:=2) bJ.nd rfl (Or.inl rfl) (aM Z hr aS (aA (pv 0) (aA (cX (by rfl) tt.g_FIRST_PRIME tt.r_FIRST_PRIME) aD))))
   (aB (aJ (i:=3) bJ.nd rfl (Or.inl rfl) (cX (by rfl) tt.g_FIRST_PRIME tt.r_FIRST_PRIME))
   (aB (aJ (i:=4) bJ.nd rfl (Or.inl rfl) aH)
   (aB (aJ (i:=5) bJ.nd rfl (Or.inl rfl) aH)
   (aB (lI PassesOwn.never (aU aAM (pv 3) (aN eQ aH (pv 1)) (aY _)) (aB (aJ (i:=5) bJ.nd rfl (Or.inl rfl) (aM gV hr aS (aA (pv 4) (aA (pv 5) aD))))
   (aB (aJ (i:=4) bJ.nd rfl (Or.inl rfl) (aN eA (pv 4) aH))
   (aB (aJ (i:=6) bJ.nd rfl (Or.inl rfl) (aN eA (aN eQ (pv 5) (cX (by rfl) tt.g_STEP tt.r_STEP)) aH))
   (aB (aJ (i:=7) bJ.nd rfl (Or.inl rfl) (aN iA (aM Z hr aS (aA (pv 0) (aA (pv 6) aD))) (pv 2)))
   (aB (aJ (i:=2) bJ.nd rfl (Or.inl rfl) (aN eA (pv 2) (aN eQ (aN bY (aN eQ (pv 7) (aM ww hr aS (aA (pv 3) (aA (pv 6) aD)))) (pv 6)) (pv 3))))
   (aE (aJ (i:=3) bJ.nd rfl (Or.inl rfl) (aN eQ (pv 3) (pv 6))))))))))
   (aB (bR (aU pP (pv 2) (pv 1) (aY _)) (aE (aQ (aN iA (pv 2) (pv 3)))) aV)
   (aE (aQ (pv 2)))))))))),?_⟩
  (try rw[bZ]);(try rw[cxK1])
  refine⟨_,rfl,a,as,M,n,rfl,hA,hR,ok,λG1 s1=>?_⟩;rw[hB];refine⟨_,rfl,a,as,M,n,2305843009213693951,2 ^ 110,rfl,s1.seq hA,hR.on s1,ok.rest Dt.aBM (by decide +kernel),λres G2 s2 wx w6=>?_⟩;rw[xc] at w6;refine⟨λm σ G=>∃ (j:Nat) (res or:Int) (v6 v7:Option V),m=7-j∧j<=7∧aL H G∧(0<=res∧res<(Dt.md j:Nat))∧Dt.Cg (Dt.md j:Nat) res DD∧σ=[some (.ref a),some (.int (B:Nat)),some (.int res),some (.int (Dt.md j:Nat)),some (.int (j:Nat)),some (.int or),v6,v7],
   ⟨_,0,res,0,none,none,rfl,by omega,s1.trans s2,wx,w6,rfl⟩,?_⟩
  rintro m σ G ⟨j,res,or,v6,v7,rfl,hj,sG,wx,w6,rfl⟩;refine⟨_,rfl,_,rfl,_,_,rfl,rfl,⟨fC (n:=2) (by decide) (by decide +kernel),bB⟩,_,_,rfl,rfl,_,rfl,?_⟩;by_cases hle:Dt.md j<=2*B
  ·refine itP (AE (by omega)) ?_
   have wz:j<7:=by
    rcases fh j 7 with z | z
    ·exact z
    ·rw[show j=7 by omega] at hle
     omega
   obtain⟨k1,k2,k3,k4⟩:=Dt.aAH j wz;have wp:=Yz j wz;have xb:=Dt.Mr wz;have xi:=xb.1;have l1:=jW k1 (by decide);have l3:=jW k3 (by decide);have l4:=jW k4 (by decide);have bP:Bg ((Dt.pr j:Nat):Int):=fC (by rw[fm];exact af _) l1;have bM:Bg ((Dt.md j:Nat):Int):=fC (by rw[fm];exact af _) l3;refine⟨_,λσ' H' z=>z,?_⟩;refine⟨_,rfl,_,rfl,j,or,rfl,wz,?_⟩;refine⟨_,rfl,_,_,rfl,rfl,?_⟩;refine⟨_,rfl,_,_,rfl,rfl,⟨fC (iw (Wj j wz)) (jW (k:=21) (by decide +kernel) (by decide)),fC (n:=2 ^ 200) (by decide +kernel) (jW (k:=201) (by decide +kernel) (by decide))⟩,_,_,rfl,rfl,?_⟩;refine⟨_,rfl,_,rfl,a,as,M,n,Dt.pr j,2 ^ 110,congrArg (λz=>[V.ref a,V.int z]) wp,sG.seq hA,hR.on sG,ok.rest xb k1,λr2 G3 s3 xh xf=>?_⟩;rw[xc] at xf;refine⟨_,rfl,_,_,rfl,rfl,?_⟩;refine⟨_,rfl,_,rfl,_,rfl,_,rfl,((Dt.md j:Nat):Int),Dt.pr j,congrArg (λz=>[V.int ((Dt.md j:Nat):Int),V.int z]) wp,xb,bi k1 (dj (by decide) (by decide)),(λz=>k2 (by exact_mod_cast z)),λinv hi xj=>?_⟩;have q1:=du ((r2-res)*inv) (show ((Dt.pr j:Nat):Int)≠0 by omega);have q2:=c9 ((r2-res)*inv) (show (0:Int)<((Dt.pr j:Nat):Int) by omega);obtain⟨c1,c2,c3⟩:=Dt.crt (M1:=Dt.md j) (pr:=Dt.pr j) (D:=DD) (res:=res) (r2:=r2) (inv:=inv) (by omega) (by omega) w6 xf hi wx;refine⟨_,_,rfl,rfl,⟨fC (n:=Dt.md j+Dt.pr j) (by omega) (bi (Nat.add_lt_add k3 k1) (by decide +kernel)),fC (n:=Dt.pr j) (by omega) l1⟩,_,rfl,_,_,rfl,rfl,(by show (0:Int)<_;rw[wp];omega),_,rfl,_,_,rfl,rfl,⟨?_,bM⟩,_,_,rfl,rfl,?_⟩
   ·show Bg ((r2-res)*inv % _)
    rw[wp];exact fC (n:=Dt.pr j) (by omega) l1
   refine⟨_,rfl,_,rfl,_,_,rfl,rfl,⟨bM,by rw[wp];exact bP⟩,?_⟩;refine⟨7-(j+1),by omega,j+1,res+(r2-res)*inv % (Dt.pr j:Nat)*(Dt.md j:Nat),kts.getD j 0,some (.int (kts.getD j 0*6277101735386680763835789423207666416102355444464034512896+1)),some (.int (r2-res)),rfl,by omega,sG.trans s3,⟨c2,c3⟩,c1,?_⟩;rw[<- wp,show ((Dt.md (j+1):Nat):Int)=(Dt.md j:Nat)*(kts.getD j 0*6277101735386680763835789423207666416102355444464034512896+1) by rw[wp];exact fo ..];rfl
  ·refine itN (λz=>hle (by have:=AF z;omega)) ?_
   have w8:=Dt.Kn (M:=Dt.md j) (D:=DD) (res:=res) (bd:=(B:Nat)) (by omega) (by omega) w6 wx;refine⟨_,rfl,_,rfl,_,_,rfl,rfl,_,rfl,?_⟩;by_cases hgt:((B:Nat):Int)<res
   ·rw[AD hgt] at w8
    refine itP (AE hgt) ?_;refine⟨_,rfl,_,rfl,_,_,rfl,rfl,?_⟩;rw[<- w8] at q;exact q G sG
   ·rw[AC hgt] at w8
    refine itN (λz=>hgt (AF z)) ?_;rw[<- w8] at q;exact⟨_,rfl,q G sG⟩
def tW (words:List (List Nat))(o:List Nat):Int:=((words.countP λw=>decide (w.drop 1=o):Nat):Int)
def wH (Z:List (List Nat))(t:List Nat)(words:List (List Nat)):List Int:=Z.map λo=>if o=t then ((words.length:Nat):Int)-tW words t else-tW words o
theorem Jm {words:List (List Nat)}{o:List Nat}:((((words.map λw=>w.drop 1).map T).countP λy=>eqV y (T o):Nat):Int)=tW words o:=by
 unfold tW;rw[bv,List.countP_map]
 congr 2
 funext w
 show (tx (w.drop 1)==tx o)=decide (w.drop 1=o);rw[cu,AK,AI];exact⟨λh=>gP h,λh=>by rw[h]⟩
def Qk (K:ac):Sp:=λvs H Q _=>∃ (a b:Addr) (Z words:List (List Nat)) (t:List Nat),vs=[.ref a,T t,.ref b]∧SqL K H a (Z.map T)∧SqL K H b (words.map T)∧(Z.length<=200∧words.length<=200∧∀ x∈words,1<=x.length∧x.length<=1000)∧∀ D H',H D=none->aL H H'->H' D=some (.lst ((wH Z t words).map V.int))->Q (.ref D) H'
theorem wI {f:Addr}{fd:wh}(F:Fun K "choice_row" "choice_row" fS f fd)(tt:Txt K mg ad)(Z:Cal P w K mg base (CX2 P w) "end_of" 1 ["word"] nJ):bI P w K mg base (CX2 P w) 2 f fd ["texts", "text", "words"] (Qk K):=by
 refine F.okN2 mP (λvs H Q E h=>?_) (λcdv A outer s H vs Q E hr h=>?_)
 ·obtain⟨a,b,or,words,t,rfl,_⟩:=h
  rfl
 ·obtain⟨a,b,or,words,t,rfl,hA,hB,⟨h1,h2,h3⟩,q⟩:=h
  have hs:=AG;refine⟨_,(aB (aJ (i:=3) mP.nd rfl (Or.inr rfl) (eR sW rfl (cN (pv 2)) (λcl C s' H' fp=>(aM Z hr aS (aA (pv 0) aD)))))
   (aE (aQ (eR sK rfl (cN (pv 0)) (λcl C s' H' fp=>(Ps (aU nI (pv 0) (pv 2) (aY _)) (aN iA (aP (Ey K rfl) (by rfl) tt.b_len bc (aA (pv 4) aD)) (Ng K rfl de lv qb (zD K rfl) (pv 4) (aA (pv 2) aD))) (jF gB (Ng K rfl de lv qb (zD K rfl) (pv 4) (aA (pv 0) aD))))))))),?_⟩
  (try rw[bZ]);(try rw[cxK1])
  refine⟨_,rfl,b,rfl,⟨_,hB⟩,?_⟩;refine pG (λv=>T ((unT v).drop 1)) (cJ hB) (by rw[aR];omega) (λv G hv sg N hN=>?_) λD1 G1 wx s1 mp=>?_
  ·obtain⟨l,hl,rfl⟩:=aw.mp hv
   have z:=hN G (aL.refl _);rw[eW] at z;have hx:=h3 l hl;exact⟨_,rfl,l,rfl,⟨by omega,by omega⟩,z⟩
  have mp:G1 D1=some (.lst ((words.map λw=>w.drop 1).map T)):=by
   rw[mp,bv,bv];refine congrArg (λl=>some (HO.lst l)) (b8 λm _=>?_);show T ((unT (T m)).drop 1)=T (m.drop 1);rw[eW]
  refine⟨_,rfl,a,rfl,⟨_,s1.seq hA⟩,?_⟩;refine pG (λv=>.int (if unT v=t then ((words.length:Nat):Int)-tW words t else-tW words (unT v))) (cJ (s1.seq hA)) (by rw[aR];omega) (λv G hv sg N hN=>?_) λD2 G2 ww s2 hd2=>?_
  ·obtain⟨o,ho,rfl⟩:=aw.mp hv
   have z:=hN G (aL.refl _);rw[eW] at z;have gV:=sg D1 _ mp;refine⟨_,rfl,_,rfl,_,rfl,_,rfl,_,rfl,?_⟩;by_cases hot:o=t
   ·rw[AD hot] at z
    refine itP (AE hot) ?_;refine⟨_,rfl,D1,_,rfl,.inl (SqL.of gV),_,rfl,.inl ⟨rfl,_,SqL.of gV⟩,_,rfl,D1,_,_,rfl,rfl,SqL.of gV,fL _,rfl,_,_,rfl,rfl,?_⟩;rw[Jm,aR,aR];exact z
   ·rw[AC hot] at z
    refine itN (λy=>hot (AF y)) ?_;refine⟨_,rfl,.inl ⟨rfl,_,SqL.of gV⟩,_,rfl,D1,_,_,rfl,rfl,SqL.of gV,fL _,rfl,_,rfl,?_⟩;rw[Jm];exact z
  have wp:H D2=none:=by
   cases e:H D2 with
   | none=>rfl
   | some o=>have:=s1 D2 o e;rw[ww] at this;cases this
  refine q D2 G2 wp (s1.trans s2) ?_;rw[hd2];unfold wH;rw[bv,bv];refine congrArg (λl=>some (HO.lst l)) (b8 λm _=>?_);show V.int (if unT (T m)=t then _ else _)=V.int (if m=t then _ else _);rw[eW]
inductive bH (H:Hp)(g:List Nat->List (List Nat)):List (List Nat)->List (Key×V)->Prop
 | nil:bH H g [] []
 | cons {o:List Nat} {a:Addr} {ls:List (List Nat)} {kvs:List (Key×V)}:H a=some (.lst ((g o).map T))->bH H g ls kvs->bH H g (o::ls) ((cf (tx o),.ref a)::kvs)
theorem bH.keys {H:Hp}{g:List Nat->List (List Nat)}{ls:List (List Nat)}{kvs:List (Key×V)}(h:bH H g ls kvs):kvs.map (·.1)=ls.map λt=>cf (tx t):=by
 induction h with
 | nil=>rfl
 | cons _ _ ih=>rw[ap,ap,ih]
theorem bH.len {H:Hp}{g:List Nat->List (List Nat)}{ls:List (List Nat)}{kvs:List (Key×V)}(h:bH H g ls kvs):kvs.length=ls.length:=by
 have:=congrArg i6 h.keys
 rwa [aR,aR] at this
theorem bH.mono {H H':Hp}{g:List Nat->List (List Nat)}{ls:List (List Nat)}{kvs:List (Key×V)}(s:aL H H')(h:bH H g ls kvs):bH H' g ls kvs:=by
 induction h with
 | nil=>exact .nil
 | cons e _ ih=>exact .cons (s _ _ e) ih
theorem bH.updD {H:Hp}{g:List Nat->List (List Nat)}{ls:List (List Nat)}{kvs k:List (Key×V)}{D:Addr}{o:HO}(hd:H D=some (.dK k))(h:bH H g ls kvs):bH (upd H D o) g ls kvs:=by
 induction h with
 | nil=>exact .nil
 | @cons _ a _ _ e _ ih =>
  have Z:a≠D:=λz=>by rw[z,hd] at e;cases e
  exact .cons (by rw[aG Z];exact e) ih
theorem bH.snoc {H:Hp}{g:List Nat->List (List Nat)}{ls:List (List Nat)}{kvs:List (Key×V)}{o:List Nat}{a:Addr}(h:bH H g ls kvs)(e:H a=some (.lst ((g o).map T))):bH H g (ls++[o]) (kvs++[(cf (tx o),.ref a)]):=by
 induction h with
 | nil=>exact .cons e .nil
 | cons e1 _ ih=>exact .cons e1 ih
theorem bH.get {H:Hp}{g:List Nat->List (List Nat)}{ls:List (List Nat)}{kvs:List (Key×V)}{o:List Nat}(h:bH H g ls kvs)(Z:o∈ls):∃ a,dF kvs (cf (tx o))=some (.ref a)∧H a=some (.lst ((g o).map T)):=by
 induction h with
 | nil=>cases Z
 | @cons o' a _ _ e _ ih =>
  by_cases hoo:o'=o
  ·subst hoo
   exact⟨a,cV rfl,e⟩
  ·obtain⟨b,h1,h2⟩:=ih ((au.mp Z).resolve_left (Ne.symm hoo))
   exact⟨b,by rw[cP (λz=>hoo (gP (kq z)))];exact h1,h2⟩
theorem rV {H G:Hp}{D:Addr}(s:aL H G)(h:G D=none):H D=none:=by
 cases e:H D with
 | none=>rfl
 | some o=>exact absurd ((s D o e).symm.trans h) (λz=>nomatch z)
def kL (ls:List (List Nat))(g:List Nat->List (List Nat)):List (List Int):=ls.map λt=>wH ls t (g t)
def yI (K:ac):Sp:=λvs H Q _=>∃ (a:Addr) (ls:List (List Nat)) (kvs:List (Key×V)) (g:List Nat->List (List Nat)),vs=[.ref a]∧H a=some (.dK kvs)∧bH H g ls kvs∧(ls.length<=64∧∀ o∈ls,(g o).length<=200∧∀ x∈g o,1<=x.length∧x.length<=1000) ∧
 Dp (kL ls g) ls.length∧2*Dt.pL ((kL ls g).map (Dt.rs ls.length))<Dt.md 7∧∀ H',aL H H'->Q (.int (Dt.det ls.length (Dt.ent (kL ls g)))) H'
theorem nE {f:Addr}{fd:wh}(F:Fun K "choices_counted" "choices_counted" eB f fd)(tt:Txt K mg ad)(Z:Cal P w K mg base (CX2 P w) "determinant" 3 ["square"] (Vw K))(gV:Cal P w K mg base (CX2 P w) "choice_row" 2 ["texts", "text", "words"] (Qk K)) :
  bI P w K mg base (CX2 P w) 4 f fd ["ways"] (yI K):=by
 refine F.okN2 hX (λvs H Q E h=>?_) (λcdv A outer s H vs Q E hr h=>?_)
 ·obtain⟨a,ls,kvs,g,rfl,_⟩:=h
  rfl
 ·obtain⟨a,ls,kvs,g,rfl,hd,mp,⟨xc,hg⟩,xa,wx,q⟩:=h
  have hs:=AG;refine⟨_,(aB (aJ (i:=1) hX.nd rfl (Or.inr rfl) (fA (Fa rfl) (by rfl) tt.b_list (by decide +kernel) (aA (pv 0) aD)))
   (aE (aQ (aM Z hr aS (aA (eR lK rfl (cN (pv 1)) (λcl C s' H' fp=>(aM gV hr aS (aA (pv 2) (aA (pv 0) (aA (tK (eD hr) (pv 1) (pv 0) (λ_ _=>rfl)) aD)))))) aD))))),?_⟩
  (try rw[bZ]);(try rw[cxK1])
  refine⟨_,rfl,a,ls,kvs,rfl,hd,mp.keys,λD1 w8=>?_⟩;have s1:=aK (o:=.lst (ls.map T)) w8;refine⟨_,rfl,D1,rfl,⟨_,SqL.of aC⟩,?_⟩;refine Wv (K:=K) (λv=>wH ls (unT v) (g (unT v))) (cJ (SqL.of aC)) (by rw[aR];omega) (λv G hv sg N hN=>?_) λD2 bs G2 xf s2 hd2 xb or=>?_
  ·obtain⟨t,ht,rfl⟩:=aw.mp hv
   rw[eW] at hN;obtain⟨b,wz,w6⟩:=((mp.mono s1).mono sg).get ht;have ww:jO G a (T t) (some (.ref b)):=by rw[<- wz];exact jO.k (k:=cf (tx t)) (sg a _ (s1 a _ hd))
   have wp:=hg t ht;exact⟨_,rfl,_,rfl,_,rfl,_,rfl,a,_,rfl,ww,D1,b,ls,g t,t,rfl,SqL.of (sg D1 _ aC),SqL.of w6,⟨by omega,wp.1,wp.2⟩,λD H' hD s' w4=>hN D H' s' hD w4⟩
  rw[show (ls.map T).map (λv=>wH ls (unT v) (g (unT v)))=kL ls g from by
   unfold kL;rw[bv];refine b8 λm _=>?_
   show wH ls (unT (T m)) (g (unT (T m)))=_;rw[eW]] at or
  exact⟨D2,bs,kL ls g,ls.length,rfl,SqL.of hd2,or,xa,wx,λH' s'=>q H' ((s1.trans s2).trans s')⟩
def Kp (D:Addr)(H H':Hp):Prop:=∀ b o,b≠D->H b=some o->H' b=some o
theorem yF {H:Hp}{g:List Nat->List (List Nat)}{ls:List (List Nat)}{kvs:List (Key×V)}(h:bH H g ls kvs){o:List Nat}(Z:o∉ls):dF kvs (cf (tx o))=none:=by
 induction h with
 | nil=>rfl
 | @cons o' a _ _ e _ ih =>
  rw[cP (λz=>Z (by rw[gP (kq z)];exact aq ..))];exact ih λz=>Z (al _ z)
theorem bH.cong {H:Hp}{g g':List Nat->List (List Nat)}{ls:List (List Nat)}{kvs:List (Key×V)}(h:bH H g ls kvs)(e:∀ t∈ls,g t=g' t):bH H g' ls kvs:=by
 induction h with
 | nil=>exact .nil
 | @cons o a _ _ e1 _ ih=>exact .cons (by rw[<- e o (aq ..)];exact e1) (ih λt Z=>e t (al _ Z))
theorem Ju {words:List (List Nat)}{o:List Nat}:(tW words o).natAbs<=words.length:=by
 unfold tW
 have:=List.countP_le_length (p:=λw=>decide (w.drop 1=o)) (l:=words)
 omega
theorem Qc {Z words:List (List Nat)}{t:List Nat}{x:Int}(hx:x∈wH Z t words):x.natAbs<=words.length:=by
 obtain⟨o,_,rfl⟩:=aw.mp hx;have h1:=Ju (words:=words) (o:=t);have h2:=Ju (words:=words) (o:=o);have h3:0<=tW words t:=uf _;show (if o=t then ((words.length:Nat):Int)-tW words t else-tW words o).natAbs<=_;split <;> omega
theorem Qo {f:Nat->Nat}{c:Nat}:∀ {n:Nat},(∀ j,j<n->f j<=c)->Dt.sN n f<=n*c:=λ{n} h=>by
 have h1:Dt.sN n f<=Dt.sN n λ_=>1*c:=Dt.Mv λj Z=>by rw[ie];exact h j Z
 have h2:∀ n:Nat,Dt.sN n (λ_=>1)=n:=λn=>by
  induction n with
  | zero=>rfl
  | succ n ih=>show Dt.sN n (λ_=>1)+1=n+1;rw[ih]
 rw[Dt.Ez,h2] at h1;exact h1
theorem Mz {ls:List (List Nat)}{g:List Nat->List (List Nat)}(mp:ls.length<=64)(hg:∀ o∈ls,(g o).length<=64):Dp (kL ls g) ls.length∧2*Dt.pL ((kL ls g).map (Dt.rs ls.length))<Dt.md 7:=by
 have Z:∀ r∈kL ls g,Dt.rs ls.length r<=4096:=λr hr=>by
  obtain⟨t,ht,rfl⟩:=aw.mp hr;have h1:Dt.rs ls.length (wH ls t (g t))<=ls.length*64:=Qo λj hj=>by
   have hl:j<(wH ls t (g t)).length:=by unfold wH;rw[aR];exact hj
   rw[ak,aa hl];exact a5 (Qc (dk hl)) (hg t ht)
  omega
 have gV:(kL ls g).length=ls.length:=aR ..;refine⟨⟨gV,λr hr=>?_,mp,λr hr=>a5 (Z r hr) (by decide)⟩,?_⟩
 ·obtain⟨t,_,rfl⟩:=aw.mp hr
  exact aR ..
 ·have h1:=Dt.Oo (R:=4096) (l:=(kL ls g).map (Dt.rs ls.length)) λx hx=>by
   obtain⟨r,hr,rfl⟩:=aw.mp hx;exact Z r hr
  rw[aR,gV] at h1;have h2:4096 ^ ls.length<=4096 ^ 64:=dj (by decide) mp;have h3:2*4096 ^ 64<Dt.md 7:=by decide +kernel
  exact fk (jt 2 (a5 h1 h2)) h3
theorem Yk {ts:List (List Nat)}(nd:ts.Nodup)(g:List Nat->List (List Nat)):Dt.det ts.length (Dt.ent (kL ts g))=((Dt.nC ts g:Nat):Int):=Dt.Xu nd g
def Pi (K:ac):Sp:=λvs H Q _=>∃ (a:Addr) (ms:List (List Nat)) (one Z:List Nat),vs=[.ref a,T one,T Z]∧SqA K H a (ms.map T)∧(ms.length<=60∧∀ x∈ms,1<=x.length∧x.length<=1000)∧∀ (b:Bool) (H':Hp),aL H H'->(b=true↔Wd.Bal ms one Z)->Q (.bl b) H'
theorem Fb {f:Addr}{fd:wh}(F:Fun K "is_even" "is_even" jI f fd)(tt:Txt K mg ad)(gV:Cal P w K mg base (CX2 P w) "begin_of" 1 ["word"] gH)(mp:Cal P w K mg base (CX2 P w) "end_of" 1 ["word"] nJ):bI P w K mg base (CX2 P w) 2 f fd ["words", "one", "other"] (Pi K):=by
 refine F.okN2 mX (λvs H Q E h=>?_) (λcdv A outer s H vs Q E hr h=>?_)
 ·obtain⟨a,ms,one,Z,rfl,_⟩:=h
  rfl
 ·obtain⟨a,ms,one,Z,rfl,hS,⟨hl,hx⟩,q⟩:=h
  have hs:=AG;have hu:=ge (eD hr);refine⟨_,(aB (aJ (i:=3) mX.nd rfl (Or.inl rfl) (aN lY (eR Al rfl (oO K rfl (pv 0)) (λcl C s' H' fp=>(aM gV hr aS (aA (pv 0) aD)))) (dB (aA (pv 2) aD))))
   (aB (aJ (i:=4) mX.nd rfl (Or.inl rfl) (aN lY (eR Aa rfl (oO K rfl (pv 0)) (λcl C s' H' fp=>(aM mp hr aS (aA (pv 0) aD)))) (dB (aA (pv 1) aD))))
   (aE (aQ (iM (vT hu) (aP fP (by rfl) tt.b_sorted fb (aA (pv 3) aD)) (aP fP (by rfl) tt.b_sorted fb (aA (pv 4) aD)) (aY _)))))),?_⟩
  (try rw[bZ]);(try rw[cxK1])
  refine⟨_,rfl,a,ms.map T,_,rfl,hS,aL.refl _,λJ rd=>?_⟩;refine pG (λv=>T (beg (unT v))) rd (by rw[aR];omega) (λv G hv sg N hN=>?_) λD1 H1 xj s1 wx=>?_
  ·obtain⟨l,hl,rfl⟩:=aw.mp hv
   have z:=hN G (aL.refl _);rw[eW] at z;have hx:=hx l hl;exact⟨_,rfl,l,rfl,⟨by omega,by omega⟩,z⟩
  rw[oU (f:=λl=>T (beg l)),show ms.map (λl=>T (beg l))=(ms.map beg).map T by rw[bv];rfl] at wx;refine⟨_,rfl,(by show 1<=sizeLine;omega),λe1 xi=>?_⟩;have t1:=aK (o:=.lst [T Z]) xi;refine⟨D1,e1,_,_,rfl,rfl,SqL.of (t1 D1 _ wx),SqL.of aC,(by rw[aR,aR];show _+1<=sizeLine;omega),λD2 xc=>?_⟩;have t2:=s1.trans (t1.trans (aK (o:=.lst ((ms.map beg).map T++[T Z])) xc));have hd2:upd (upd H1 e1 (.lst [T Z])) D2 (.lst ((ms.map beg).map T++[T Z])) D2=some (.lst ((ms.map beg++[Z]).map T)):=by rw[aC,a7];rfl
  generalize upd (upd H1 e1 (.lst [T Z])) D2 (.lst ((ms.map beg).map T++[T Z]))=H2 at t2 hd2;refine⟨_,rfl,a,ms.map T,_,rfl,hS.on t2,aL.refl _,λJ rd=>?_⟩;refine pG (λv=>T ((unT v).drop 1)) rd (by rw[aR];omega) (λv G hv sg N hN=>?_) λD3 H3 xk s3 w6=>?_
  ·obtain⟨l,hl,rfl⟩:=aw.mp hv
   have z:=hN G (aL.refl _);rw[eW] at z;have hx:=hx l hl;exact⟨_,rfl,l,rfl,⟨by omega,by omega⟩,z⟩
  rw[oU (f:=λl=>T (l.drop 1)),show ms.map (λl=>T (l.drop 1))=(ms.map λl=>l.drop 1).map T by rw[bv];rfl] at w6;refine⟨_,rfl,(by show 1<=sizeLine;omega),λe2 xb=>?_⟩;have t3:=aK (o:=.lst [T one]) xb;refine⟨D3,e2,_,_,rfl,rfl,SqL.of (t3 D3 _ w6),SqL.of aC,(by rw[aR,aR];show _+1<=sizeLine;omega),λD4 xg=>?_⟩;have t4:=s3.trans (t3.trans (aK (o:=.lst ((ms.map λl=>l.drop 1).map T++[T one])) xg));have wp:upd (upd H3 e2 (.lst [T one])) D4 (.lst ((ms.map λl=>l.drop 1).map T++[T one])) D4=some (.lst (((ms.map λl=>l.drop 1)++[one]).map T)):=by rw[aC,a7];rfl
  generalize upd (upd H3 e2 (.lst [T one])) D4 (.lst ((ms.map λl=>l.drop 1).map T++[T one]))=H4 at t4 wp;refine⟨_,rfl,D2,ms.map beg++[Z],rfl,SqL.of (t4 D2 _ hd2),(by rw[ai,aR];show _+1<64;omega),λw4 E1 xa ww xf=>?_⟩;have t5:=aK (o:=.lst (w4.map T)) xa;refine⟨_,rfl,D4,(ms.map λl=>l.drop 1)++[one],rfl,SqL.of (t5 D4 _ wp),(by rw[ai,aR];show _+1<64;omega),λor E2 w8 wz xh=>?_⟩;have t6:=aK (o:=.lst (or.map T)) w8;refine⟨E1,E2,w4,or,rfl,rfl,SqL.of (t6 E1 _ aC),SqL.of aC,?_⟩;refine q _ _ (t2.trans (t4.trans (t5.trans t6))) ?_;rw[AI,<- Dt.Tj];constructor
  ·intro e
   subst e;exact ww.symm.trans wz
  ·intro h
   exact Wd.gL (ww.trans (qw h wz.symm)) xf xh
theorem bH.app {G:Hp}{g:List Nat->List (List Nat)}{ts:List (List Nat)}{kvs:List (Key×V)}{t x:List Nat}{b:Addr}(h:bH G g ts kvs):ts.Nodup->(kvs.map (·.2)).Nodup->t∈ts->dF kvs (cf (tx t))=some (.ref b)->bH (upd G b (.lst ((g t++[x]).map T))) (λu=>if u=t then g t++[x] else g u) ts kvs:=by
 have vm:∀ {kvs:List (Key×V)} {k:Key} {v:V},dF kvs k=some v->v∈kvs.map (·.2):=λ{kvs k v}=>by
  induction kvs with
  | nil=>intro e;cases e
  | cons kv kvs ih =>
   intro e;obtain⟨k',v'⟩:=kv;by_cases hk:k'=k
   ·rw[cV hk] at e
    cases e;exact aq ..
   ·rw[cP hk] at e
    exact al _ (ih e)
 have no:∀ {ts:List (List Nat)} {kvs:List (Key×V)},bH G g ts kvs->t∉ts->V.ref b∉kvs.map (·.2)->bH (upd G b (.lst ((g t++[x]).map T))) (λu=>if u=t then g t++[x] else g u) ts kvs:=λ{ts kvs} h=>by
  induction h with
  | nil=>intro _ _;exact .nil
  | @cons o a _ _ e _ ih =>
   intro h1 h2;have gV:o≠t:=λz=>h1 (z▸aq ..)
   have Z:a≠b:=λz=>h2 (z▸aq ..)
   exact .cons (by rw[aG Z,AC gV];exact e) (ih (λz=>h1 (al _ z)) λz=>h2 (al _ z))
 induction h with
 | nil=>intro _ _ h;cases h
 | @cons o a _ _ e hr ih =>
  intro nd nv ht hv;rw[cx] at nd;rw[ap,cx] at nv;by_cases hot:o=t
  ·subst hot
   rw[cV rfl] at hv;cases hv;exact .cons (by rw[aC,AD rfl]) (no hr nd.1 nv.1)
  ·rw[cP (λz=>hot (gP (kq z)))] at hv
   have Z:a≠b:=λz=>nv.1 (z▸vm hv)
   exact .cons (by rw[aG Z,AC hot];exact e) (ih nd.2 nv.2 ((au.mp ht).resolve_left (Ne.symm hot)) hv)
theorem Jq {us:List (List Nat)}{x t:List Nat}:Dt.og (us++[x]) t=if t=beg x then Dt.og us t++[x] else Dt.og us t:=by
 unfold Dt.og;rw[j8];by_cases h:t=beg x
 ·rw[AD h,dq (p:=λw=>decide (Wd.beg w=t)) (AE h.symm),nj]
 ·rw[AC h,db (p:=λw=>decide (Wd.beg w=t)) (λz=>h (AF z).symm),nj,da]
def Sh (K:ac):Sp:=λvs H Q _=>∃ (a:Addr) (ms:List (List Nat)),vs=[.ref a]∧SqA K H a (ms.map T)∧(ms.length<=1000∧∀ x∈ms,1<=x.length∧x.length<=1000)∧∀ (D:Addr) (kvs:List (Key×V)) (ts:List (List Nat)) (H':Hp),H D=none->aL H H'->H' D=some (.dK kvs)->bH H' (Dt.og ms) ts kvs->ts.Nodup->(∀ t,t∈ts↔∃ x∈ms,beg x=t)->Q (.ref D) H'
theorem De {f:Addr}{fd:wh}(F:Fun K "by_begin" "by_begin" mU f fd)(tt:Txt K mg ad)(mp:Cal P w K mg base (CX2 P w) "begin_of" 1 ["word"] gH):bI P w K mg base (CX2 P w) 2 f fd ["words"] (Sh K):=by
 refine F.okN2 lJ (λvs H Q E h=>?_) (λcdv A outer s H vs Q E hr h=>?_)
 ·obtain⟨a,ms,rfl,_⟩:=h
  rfl
 ·obtain⟨a,ms,rfl,hS,⟨hl,hx⟩,q⟩:=h
  have hs:=AG;refine⟨_,(aB (aJ (i:=1) lJ.nd rfl (Or.inl rfl) vN)
   (aB (cY PassesOwn.never rfl (oO K rfl (pv 0)) (bO (i:=2) lJ.nd rfl (Or.inl rfl)) (aE (eU (rS de h9 ia gE (Gr (pv 1) (aM mp hr aS (aA (pv 2) aD)) (dB aD) ⟨rfl,rfl,rfl,rfl⟩) (aA (pv 2) aD)))))
   (aE (aQ (pv 1))))),?_⟩
  (try rw[bZ]);(try rw[cxK1])
  refine λD hD=>?_
  have sD:=aK (o:=.dK []) hD;refine⟨_,rfl,a,ms.map T,_,rfl,hS,sD,λJ rd=>?_⟩;refine qR rd (λi σ G=>aL H G∧∃ (kvs:List (Key×V)) (ts:List (List Nat)) (v2:Option V),G D=some (.dK kvs)∧bH G (Dt.og (ms.take i)) ts kvs∧ts.Nodup∧(kvs.map (·.2)).Nodup∧(∀ b,V.ref b∈kvs.map (·.2)->H b=none)∧ts.length<=i∧(∀ t,t∈ts↔∃ x∈ms.take i,beg x=t)∧σ=[some (.ref a),some (.ref D),v2])
   ⟨sD,[],[],none,aC,.nil,il,il,λb h=>(nomatch h),af _,λt=>⟨λh=>(nomatch h),λ⟨x,h,_⟩=>by rw[jc] at h;cases h⟩,rfl⟩ (λi σ G _ h=>h.1) ?_ ?_
  ·rintro i y σ G hi ⟨sG,kvs,ts,v2,hd,gV,nd,nv,hf,xp,hm,rfl⟩
   obtain⟨x,w8,rfl⟩:∃ x,ms[i]?=some x∧T x=y:=by rw[ah] at hi;exact bz.mp hi
   have xr:=(ao.mp w8).1;have xh:=hx x (ay w8);have htk:ms.take (i+1)=ms.take i++[x]:=by rw[cn,w8];rfl
   have xi:∀ t,(∃ y∈ms.take (i+1),beg y=t)↔(∃ y∈ms.take i,beg y=t)∨t=beg x:=λt=>by
    rw[htk];constructor
    ·rintro⟨y,h1,h2⟩
     rcases br.mp h1 with z | z
     ·exact .inl ⟨y,z,h2⟩
     ·rw[ax.mp z] at h2
      exact .inr h2.symm
    ·rintro (⟨y,h1,h2⟩ | h)
     ·exact⟨y,gj _ h1,h2⟩
     ·exact⟨x,bf _ (ax.mpr rfl),h.symm⟩
   have xm:∀ t,(Dt.og (ms.take i) t).length<=1000:=λt=>a5 (df ..) (by rw[cj];omega)
   refine⟨_,rfl,D,rfl,⟨_,hd⟩,_,rfl,x,rfl,⟨xh.1,xh.2⟩,(by show 0<=sizeLine;omega),λe he=>?_⟩;have s1:=aK (o:=.lst []) he;have h1:upd G e (.lst []) e=some (.lst []):=aC;have xb:H e=none:=rV sG he;have xg:e≠D:=λz=>by rw[z,hd] at he;cases he
   have wp:=s1 D _ hd;have or:=gV.mono s1;have w4:=sG.trans s1;have xa:V.ref e∉kvs.map (·.2):=λz=>by
    have w6:∀ {ts:List (List Nat)} {kvs:List (Key×V)},bH G (Dt.og (ms.take i)) ts kvs->V.ref e∉kvs.map (·.2):=λ{ts kvs} h=>by
     induction h with
     | nil=>intro z;cases z
     | @cons o a' _ _ e1 _ ih =>
      intro z;rcases au.mp z with z | z
      ·cases z;rw[he] at e1;cases e1
      ·exact ih z
    exact w6 gV z
   generalize upd G e (.lst [])=G1 at s1 h1 wp or w4;refine⟨kvs,cf (tx (beg x)),wp,rfl,by rw[gV.len];omega,λv hv=>?_,λhn=>?_⟩
   ·have Z:beg x∈ts:=Decidable.byContradiction λz=>by rw[yF gV z] at hv;cases hv
    obtain⟨b,xj,wx⟩:=or.get Z;obtain rfl:v = .ref b:=by rw[xj] at hv;exact (av hv).symm
    have xq:=hf b (by
     have vm:∀ {kvs:List (Key×V)} {k:Key} {v:V},dF kvs k=some v->v∈kvs.map (·.2):=λ{kvs k v}=>by
      induction kvs with
      | nil=>intro e;cases e
      | cons kv kvs ih =>
       intro e;obtain⟨k',v'⟩:=kv;by_cases hk:k'=k
       ·rw[cV hk] at e;cases e;exact aq ..
       ·rw[cP hk] at e;exact al _ (ih e)
     exact vm hv)
    have xo:b≠D:=λz=>by rw[z,wp] at wx;cases wx
    refine⟨.inl ⟨rfl,_,SqL.of wx⟩,_,rfl,b,_,_,rfl,rfl,wx,(by rw[aR];have:=xm (beg x);omega),?_⟩;have ww:=or.app (x:=x) nd nv Z xj;refine⟨λb' o e'=>by rw[aG (λz=>by rw[z,xq] at e';cases e')];exact w4 b' o e',kvs,ts,_,by rw[aG xo.symm];exact wp,?_,nd,nv,hf,by omega,λt=>?_,rfl⟩
    ·rw[a7] at ww
     refine ww.cong λt _=>?_
     rw[htk,Jq];by_cases z:t=beg x
     ·rw[AD z,AD z,z]
     ·rw[AC z,AC z]
    ·rw[xi,hm]
     exact⟨.inl,λh=>h.elim id λz=>z▸(hm _).mp Z⟩
   ·have Z:beg x∉ts:=λz=>by obtain⟨a,h1,_⟩:=or.get z;rw[h1] at hn;cases hn
    have xf:upd G1 D (.dK (fE kvs (cf (tx (beg x))) (.ref e))) e=some (.lst []):=by rw[aG xg];exact h1
    refine⟨.inl ⟨rfl,_,SqL.of xf⟩,_,rfl,e,_,_,rfl,rfl,xf,(by show 0<sizeLine;omega),?_⟩;have wz:fE kvs (cf (tx (beg x))) (.ref e)=kvs++[(cf (tx (beg x)),.ref e)]:=by
     unfold fE;rw[AC];intro z;obtain⟨kv,z1,z2⟩:=u7.mp z;have h3:kv.1∈kvs.map (·.1):=gt z1;rw[gV.keys,AF z2] at h3;obtain⟨t,h4,h5⟩:=aw.mp h3;exact Z (gP (kq h5)▸h4)
    have xl:Dt.og (ms.take i) (beg x)=[]:=iy.mpr λu hu z=>Z ((hm _).mpr ⟨u,hu,AF z⟩)
    have xc:∀ b' o,H b'=some o->b'≠e∧b'≠D:=λb' o e'=>⟨λz=>(by rw[z,xb] at e';cases e'),λz=>(by rw[z,hD] at e';cases e')⟩
    refine⟨λb' o e'=>by rw[aG (xc b' o e').1,aG (xc b' o e').2];exact w4 b' o e',_,ts++[beg x],_,by rw[aG xg.symm];exact aC,?_,?_,?_,?_,by rw[ai];show _+1<=_;omega,λt=>?_,rfl⟩
    ·have ww:bH (upd (upd G1 D (.dK (fE kvs (cf (tx (beg x))) (.ref e)))) e (.lst ([]++[T x]))) (λt=>if t=beg x then [x] else Dt.og (ms.take i) t) ts kvs:=by
      have xk:=or.updD (o:=.dK (fE kvs (cf (tx (beg x))) (.ref e))) wp;have w6:∀ {G':Hp} {ts:List (List Nat)} {kvs:List (Key×V)},bH G' (Dt.og (ms.take i)) ts kvs->V.ref e∉kvs.map (·.2)->beg x∉ts->bH (upd G' e (.lst ([]++[T x]))) (λt=>if t=beg x then [x] else Dt.og (ms.take i) t) ts kvs:=λ{G' ts kvs} h=>by
       induction h with
       | nil=>intro _ _;exact .nil
       | @cons o a' _ _ e1 _ ih =>
        intro z1 z2;have n1:a'≠e:=λz=>z1 (z▸aq ..)
        have n2:o≠beg x:=λz=>z2 (z▸aq ..)
        exact .cons (by rw[aG n1,AC n2];exact e1) (ih (λz=>z1 (al _ z)) λz=>z2 (al _ z))
      exact w6 xk xa Z
     rw[wz];rw[wz] at ww;refine (ww.snoc (a:=e) (by rw[aC,AD rfl];rfl)).cong λt _=>?_
     rw[htk,Jq];by_cases z:t=beg x
     ·rw[AD z,AD z,z,xl];rfl
     ·rw[AC z,AC z]
    ·exact fg.mpr ⟨nd,by simp,λa' ha c hc z=>Z (by rw[<- ax.mp hc,<- z];exact ha)⟩
    ·rw[wz,a7]
     exact fg.mpr ⟨nv,by simp,λa' ha c hc z=>xa (by have hc:c=V.ref e:=ax.mp hc;rw[<- hc,<- z];exact ha)⟩
    ·intro b hb
     rw[wz,a7] at hb;rcases br.mp hb with z | z
     ·exact hf b z
     ·have z:V.ref b=V.ref e:=ax.mp z
      cases z;exact xb
    ·rw[xi,br,hm,ax]
  ·rintro σ G ⟨sG,kvs,ts,v2,hd,gV,nd,nv,hf,xp,hm,rfl⟩
   rw[aR,cr] at gV;rw[aR,cr] at hm;exact⟨_,rfl,q D kvs ts G hD sG hd gV nd hm⟩
def Pk:Sp:=λvs H Q _=>∃ (k:Nat),vs=[.int (k:Nat)]∧k<=1000∧Q (.int (Dt.fct k:Nat)) H
theorem qS {f:Addr}{fd:wh}(F:Fun K "product_up_to" "product_up_to" gS f fd)(tt:Txt K mg ad):bI P w K mg base (CX2 P w) 1 f fd ["many"] Pk:=by
 refine F.okN2 eS (λvs H Q E h=>?_) (λcdv A outer s H vs Q E hr h=>?_)
 ·obtain⟨k,rfl,_⟩:=h
  rfl
 ·obtain⟨k,rfl,hk,q⟩:=h
  refine⟨_,(aB (aJ (i:=1) eS.nd rfl (Or.inl rfl) aH)
   (aB (cY PassesOwn.never rfl (Lw (by rfl) tt.b_range (aA aH (aA (aN eA (pv 0) aH) aD))) (bO (i:=2) eS.nd rfl (Or.inl rfl)) (aE (aJ (i:=1) eS.nd rfl (Or.inl rfl) (aN kF (pv 1) (pv 2)))))
   (aE (aQ (pv 1))))),?_⟩
  (try rw[bZ]);(try rw[cxK1])
  refine⟨_,rfl,_,_,rfl,rfl,_,_,rfl,⟨by decide,by decide,by omega,by omega⟩,?_⟩;rw[show (((k:Nat):Int)+1-1).toNat=k by omega];refine fW (λj σ G=>G=H∧∃ Z:Option V,σ=[some (.int (k:Nat)),some (.int (Dt.fct j:Nat)),Z]) ⟨rfl,none,rfl⟩ ?_ ?_
  ·rintro j σ G hj ⟨rfl,Z,rfl⟩
   refine⟨_,rfl,_,rfl,_,_,rfl,rfl,.inr ⟨by omega,by omega⟩,rfl,some (.int (1+(j:Int))),?_⟩;show [_,some (V.int (((Dt.fct j:Nat):Int)*(1+(j:Int)))),_]=[_,some (V.int (((j+1)*Dt.fct j:Nat):Int)),_];rw[show (((j+1)*Dt.fct j:Nat):Int)=((Dt.fct j:Nat):Int)*(1+(j:Int)) by rw[fo,g8,kc,Int.add_comm];rfl]
  ·rintro σ G ⟨rfl,Z,rfl⟩
   exact⟨_,rfl,q⟩
theorem bH.drop {H:Hp}{g:List Nat->List (List Nat)}{ts:List (List Nat)}{kvs:List (Key×V)}{o:List Nat}(h:bH H g ts kvs):bH H g (ts.filter λt=>decide (t≠o)) (uI kvs (cf (tx o))):=by
 unfold uI
 induction h with
 | nil=>exact .nil
 | @cons o' a _ _ e _ ih =>
  by_cases z:o'=o
  ·subst z
   rw[db (by simp),db (by simp)];exact ih
  ·rw[dq (by simp[z]),dq (by
    have:(cf (tx o'):Key)≠cf (tx o):=λy=>z (gP (kq y))
    simp[this])]
   exact .cons e ih
theorem Pz {n:Nat}(h:n<=64 ^ 200):Bg ((n:Nat):Int):=by
 show ((n:Nat):Int).natAbs<2 ^ 8000;rw[fm];exact fk h (by
  rw[show (64:Nat)=2 ^ 6 from rfl,<- kx];exact m6 (by decide) (by decide))
def uK (K:ac):Sp:=λvs H Q _=>∃ (a:Addr) (ms:List (List Nat)) (one Z:List Nat),vs=[.ref a,T one,T Z]∧SqA K H a (ms.map T)∧(ms.Nodup∧ms.length<=60∧∀ x∈ms,1<=x.length∧x.length<=1000)∧∀ (H':Hp),aL H H'->Q (.int (Dt.eN ms one Z:Nat)) H'
theorem Fg {f:Addr}{fd:wh}(F:Fun K "ways_on" "ways_on" qX f fd)(tt:Txt K mg ad)(ww:Cal P w K mg base (CX2 P w) "is_even" 2 ["words", "one", "other"] (Pi K))(or:Cal P w K mg base (CX2 P w) "by_begin" 2 ["words"] (Sh K))(gV:Cal P w K mg base (CX2 P w) "product_up_to" 1 ["many"] Pk)(mp:Cal P w K mg base (CX2 P w) "choices_counted" 4 ["ways"] (yI K)) :
  bI P w K mg base (CX2 P w) 5 f fd ["words", "one", "other"] (uK K):=by
 refine F.okN2 iH (λvs H Q E h=>?_) (λcdv A outer s H vs Q E hr h=>?_)
 ·obtain⟨a,ms,one,Z,rfl,_⟩:=h
  rfl
 ·obtain⟨a,ms,one,Z,rfl,hS,⟨xk,hl,hx⟩,q⟩:=h
  have hs:=AG;refine⟨_,(aB (bR (Gy (qK (aM ww hr aS (aA (pv 0) (aA (pv 1) (aA (pv 2) aD)))))) (aE (aQ aH)) aV)
   (aB (aJ (i:=3) iH.nd rfl (Or.inl rfl) (aM or hr aS (aA (pv 0) aD)))
   (aB (Vi (t':=(λD σ H=>∃ (a d:Addr) (one Z:List Nat) (ms ts:List (List Nat)) (kvs:List (Key×V)),σ=[some (.ref a),some (T one),some (T Z),some (.ref d),none,none]∧H d=some (.dK kvs)∧bH H (Dt.og ms) ts kvs∧(∀ t,t∈ts↔∃ x∈ms,beg x=t)∧ms.length<=60∧∀ (H3:Hp) (k3:List (Key×V)),(∀ b o,b≠d->H b=some o->H3 b=some o)->H3 d=some (.dK k3)->bH H3 (Dt.og ms) (ts.filter λt=>decide (t≠Z)) k3->D.nx [some (.ref a),some (T one),some (T Z),some (.ref d),some (.int (Dt.fct (Wd.cnt Wd.beg ms Z):Nat)),none] H3)) (aJ (i:=4) iH.nd rfl (Or.inl rfl) (aM gV hr aS (aA (aP aW (by rfl) tt.b_len bc (aA (Ri (pv 3) (pv 2) (dB aD) ⟨rfl,rfl,rfl,rfl⟩) aD)) aD))) ?rA)
   (aB (cY PassesOwn.never rfl (Uh (pv 3)) (bO (i:=5) iH.nd rfl (Or.inl rfl)) (aE (aJ (i:=4) iH.nd rfl (Or.inl rfl) (aN eQ (pv 4) (aM gV hr aS (aA (aN iA (aP aW (by rfl) tt.b_len bc (aA (tK (eD hr) (pv 3) (pv 5) (λ_ _=>rfl)) aD)) aH) aD))))))
   (aE (aQ (aN eQ (Ue (pv 4)) (aM mp hr aS (aA (pv 3) aD))))))))),?_⟩
  (try rw[bZ]);(try rw[cxK1])
  case rA =>
   rintro D0 σ G ⟨a,d,one,Z,ms,ts,kvs,rfl,hd,wz,hm,hl,xc⟩;have wx:(Dt.og ms Z).length<=60:=a5 (df ..) hl;refine⟨_,rfl,d,rfl,.inl ⟨_,.inl hd⟩,_,rfl,(by show 0<=sizeLine;omega),λe he=>?_⟩;have s1:=aK (o:=.lst []) he;have h1:upd G e (.lst []) e=some (.lst []):=aC;have yf:e≠d:=λz=>by rw[z,hd] at he;cases he
   generalize upd G e (.lst [])=G1 at s1 h1;have x6:=(wz.mono s1).drop (o:=Z);refine⟨kvs,cf (tx Z),s1 d _ hd,rfl,λv hv=>?_,λhn=>?_⟩
   ·have xa:Z∈ts:=Decidable.byContradiction λz=>by rw[yF wz z] at hv;cases hv
    obtain⟨b,xi,w4⟩:=(wz.mono s1).get xa;obtain rfl:v = .ref b:=by rw[xi] at hv;exact (av hv).symm
    have xu:b≠d:=λz=>by rw[z,s1 d _ hd] at w4;cases w4
    refine⟨b,_,rfl,.inl (SqL.of (by rw[aG xu];exact w4)),(Dt.og ms Z).length,congrArg (λz=>[V.int z]) (by rw[aR]),by omega,?_⟩;exact xc _ _ (λb' o xx e'=>by rw[aG xx];exact s1 b' o e') aC (x6.updD (s1 d _ hd))
   ·have xa:Z∉ts:=λz=>by obtain⟨b,h1,_⟩:=wz.get z;rw[h1] at hn;cases hn
    have e0:Dt.og ms Z=[]:=iy.mpr λu hu z=>xa ((hm _).mpr ⟨u,hu,AF z⟩)
    have e1:Wd.cnt Wd.beg ms Z=0:=congrArg i6 e0;refine⟨e,_,rfl,.inl (SqL.of h1),0,rfl,by omega,?_⟩;rw[e1] at xc;have ef:ts.filter (λt=>decide (t≠Z))=ts:=jv.mpr λt ht=>AE λz=>xa (z▸ht)
    exact xc G1 kvs (λb' o _ e'=>s1 b' o e') (s1 d _ hd) (by rw[ef];exact wz.mono s1)
  refine⟨_,rfl,_,rfl,_,rfl,a,ms,one,Z,rfl,hS,⟨hl,hx⟩,λb H1 s1 hb=>⟨_,rfl,?_⟩⟩;by_cases hbal:Wd.Bal ms one Z
  ·obtain rfl:=hb.mpr hbal
   refine oE ?_;refine⟨_,rfl,a,ms,rfl,hS.on s1,⟨by omega,hx⟩,λD kvs ts H2 hD s2 hd wz nd hm=>?_⟩;have xo:H D=none:=rV s1 hD;have wx:∀ t,(Dt.og ms t).length<=60:=λt=>a5 (df ..) hl
   have x8:ts.length<=60:=by
    have z:ts.length<=(ms.map beg).length:=nd.length_le_of_subset λz hz=>by
     obtain⟨w,hw,h⟩:=(hm z).mp hz;exact h▸gt hw
    rw[aR] at z;omega
   refine⟨a,D,one,Z,ms,ts,kvs,rfl,hd,wz,hm,hl,λH3 k3 x9 xb wp=>?_⟩;have s3:aL H H3:=λb o e=>x9 b o (aI e xo) (s2 b o (s1 b o e))
   obtain⟨us,w8⟩:∃ us,us=ts.filter λt=>decide (t≠Z):=⟨_,rfl⟩
   rw[<- w8] at wp;have w6:us.Nodup:=w8▸nd.sublist ff;have yd:us.length<=60:=a5 (w8▸df ..) x8;have xp:∀ t,t∈us↔t≠Z∧∃ x∈ms,beg x=t:=λt=>by rw[w8,cb,hm,AI];exact⟨λh=>⟨h.2,h.1⟩,λh=>⟨h.2,h.1⟩⟩
   have xz:Dt.fct (Wd.cnt Wd.beg ms Z)<=64 ^ 60:=a5 (Dt.Ba (a5 (wx Z) (by decide))) (dj (by decide) (wx Z));have xw:∀ l:List (List Nat),l.Nodup->Dt.pF (Wd.cnt Wd.beg ms) l<=64 ^ 60:=λl xf=>a5 (Dt.Wh λt _=>a5 (wx t) (by decide)) (dj (by decide) (a5 (Dt.Au xf) hl))
   have xj:∀ l:List (List Nat),l.Nodup->Bg ((Dt.fct (Wd.cnt Wd.beg ms Z)*Dt.pF (Wd.cnt Wd.beg ms) l:Nat):Int):=λl xf=>Pz (a5 (ic xz (xw l xf)) (by rw[<- j2];exact dj (by decide) (by decide)))
   have xh:=wp.len;refine⟨_,rfl,D,k3,rfl,xb,λo=>?_⟩;have xg:upd H3 D (.frz o (.dK k3)) D=some (.frz o (.dK k3)):=aC;have xy:bH (upd H3 D (.frz o (.dK k3))) (Dt.og ms) us k3:=wp.updD xb;refine Pp (λi σ G=>G=upd H3 D (.frz o (.dK k3))∧∃ v5:Option V,σ=[some (.ref a),some (T one),some (T Z),some (.ref D),some (.int (Dt.fct (Wd.cnt Wd.beg ms Z)*Dt.pF (Wd.cnt Wd.beg ms) (us.take i):Nat)),v5]) ⟨rfl,none,by rw[jc];show _=[_,_,_,_,some (V.int ((Dt.fct (Wd.cnt Wd.beg ms Z)*1:Nat):Int)),_];rw[sf]⟩ (λi σ G _ h=>by rw[h.1];exact xg) ?_ ?_
   ·rintro i kv σ G hi ⟨rfl,v5,rfl⟩
    have xl:(k3.map (·.1))[i]?=some kv.1:=by rw[ah,hi];rfl
    rw[wp.keys,ah] at xl;obtain⟨t,xm,yb⟩:=bz.mp xl;rw[show kV kv.1=T t by rw[<- yb];rfl];have htk:us.take (i+1)=us.take i++[t]:=by rw[cn,xm];rfl
    have xq:=ay xm;obtain⟨b,xi,w4⟩:=xy.get xq;have yc:0<(Dt.og ms t).length:=by
     obtain⟨_,x,h1,h2⟩:=(xp t).mp xq;exact ft (Dt.dU.mpr ⟨h1,h2⟩)
    have ye:=wx t;refine⟨_,rfl,_,rfl,_,rfl,D,_,rfl,.inl ⟨k3,cf (tx t),.inr ⟨o,xg⟩,rfl,xi.symm⟩,b,_,rfl,.inl (SqL.of w4),_,_,rfl,rfl,(Dt.og ms t).length-1,congrArg (λz=>[V.int z]) (by rw[aR];omega),by omega,_,_,rfl,rfl,⟨xj _ (w6.sublist (ly i us)),Pz (a5 (Dt.Ba (by omega)) (dj (by decide) (by omega)))⟩,?_⟩;refine⟨rfl,some (T t),?_⟩;rw[htk,Dt.Je,<- d9,fo];rfl
   ·rintro σ G ⟨rfl,v5,rfl⟩
    rw[xh,cr];refine⟨_,rfl,D,o,k3,xg,xo,?_⟩;have back:upd (upd H3 D (.frz o (.dK k3))) D (.dK k3)=H3:=by
     rw[zH]
     funext b
     by_cases hb:b=D
     ·subst hb
      rw[aC,xb]
     ·rw[aG hb]
    rw[back];obtain⟨ya,xr⟩:=Mz (ls:=us) (g:=Dt.og ms) (by omega) λt _=>a5 (wx t) (by decide)
    refine⟨_,rfl,D,us,k3,Dt.og ms,rfl,xb,wp,⟨by omega,λt _=>⟨a5 (wx t) (by decide),λy hy=>hx y (cb.mp hy).1⟩⟩,ya,xr,λH4 s4=>?_⟩;rw[Yk w6];have xt:Dt.nC us (Dt.og ms)<=64 ^ 60:=a5 Dt.Zu (a5 (dj (by decide) (a5 (Dt.Au w6) hl)) (Nat.pow_le_pow_left (by decide) 60));refine⟨_,_,rfl,rfl,⟨xj us w6,Pz (a5 xt (dj (by decide) (by decide)))⟩,?_⟩;have e:=Dt.Uj ms.length rfl xk hbal (ts:=us) ⟨w6,xp⟩;have z:=q H4 (s3.trans s4);rw[e] at z;unfold Dt.bst at z;rw[fo] at z;exact z
  ·cases b with
   | true=>exact absurd (hb.mp rfl) hbal
   | false =>
    refine oQ ?_
    have:=q H1 s1
    rw[Dt.Lg xk hbal] at this;exact this
def qW (K:ac):Sp:=λvs H Q _=>∃ (a:Addr) (ls:List (List Nat)) (w:List Nat),vs=[.ref a,T w]∧SqL K H a (ls.map T)∧ls.length<=1000∧∀ (D:Addr) (H':Hp),H D=none->aL H H'->H' D=some (.lst ((Dt.rm ls w).map T))->Q (.ref D) H'
theorem Go {f:Addr}{fd:wh}(F:Fun K "without" "without" lX f fd)(tt:Txt K mg ad):bI P w K mg base (CX2 P w) 1 f fd ["words", "word"] (qW K):=by
 refine F.okN2 Gs (λvs H Q E h=>?_) (λcdv A outer s H vs Q E hr h=>?_)
 ·obtain⟨a,ls,Z,rfl,_⟩:=h
  rfl
 ·obtain⟨a,ls,Z,rfl,hS,hl,q⟩:=h
  have hs:=AG;refine⟨_,(aE (aQ (vW zP rfl (cN (pv 0)) (λcl C s' H' fp=>(aU Tp (pv 0) (pv 2) (aY _))) (λcl C s' H' fp=>(pv 0))))),?_⟩
  (try rw[bZ]);(try rw[cxK1])
  refine⟨_,rfl,a,rfl,⟨_,hS⟩,?_⟩;refine nG (λv=>!decide (unT v=Z)) (λv=>v) (cJ hS) (by rw[aR];omega) (λv G5 hv s5 N hN=>?_) (λv G5 hv hp s5 N hN=>?_) λD5 G5 mp s5 gV=>?_
  ·obtain⟨l,hl,rfl⟩:=aw.mp hv
   have z:=hN G5 (aL.refl _);rw[eW] at z;exact⟨_,rfl,_,rfl,_,rfl,_,rfl,_,rfl,z⟩
  ·exact⟨_,rfl,hN G5 (aL.refl _)⟩
  ·refine q D5 G5 mp s5 ?_
   rw[gV,show (ls.map T).filter (λv=>!decide (unT v=Z))=(ls.filter λo=>!decide (o=Z)).map T from eM (p:=λo=>!decide (o=Z)) ls,qo];rfl
theorem zW {w:List Nat}(h:1<=w.length):atI w (-1)=some (Wd.bU w):=by
 show (ixN w.length (-1)).bind _=_;unfold ixN;rw[AC (by decide),AD (by omega),show ((-1:Int)+((w.length:Nat):Int)).toNat=w.length-1 by omega];show w[w.length-1]?=_;unfold Wd.bU;rw[ak,aa (by omega)];rfl
def IsP (ms:List (List Nat))(z:List Nat):Prop:=∃ w∈ms,z=beg w∨z=w.drop 1
theorem Si {k:Nat}{ls ps:List (List Nat)}{p:List Nat}(h:Px k ls)(hn:ps.Nodup)(hm:∀ z∈ps,z=p∨IsP ls z):ps.length<=k+1:=by
 obtain⟨Z,h1,h2⟩:=h
 have:=Hg.pV (ms:=p::Z) hn λz hz=>by
  rcases hm z hz with rfl | ⟨w,hw,rfl | rfl⟩
  ·exact aq ..
  ·exact al _ (h2 w hw).1
  ·exact al _ (h2 w hw).2
 rw[ar] at this;omega
theorem Vn {ls ps:List (List Nat)}{p:List Nat}(h:Few ls)(hn:ps.Nodup)(hm:∀ z∈ps,z=p∨IsP ls z):ps.length<64:=by
 have:=Si h hn hm
 omega
def oF (C:Addr):Sp:=λvs H Q _=>∃ (x tp:Addr) (n:Nat) (ms:List (List Nat)),vs=[.ref x]∧kM C H x tp n ms∧mO ms n ∧
 ∀ (D:Addr) (ps:List (List Nat)) (H':Hp),H D=none->aL H H'->H' D=some (.lst (ps.map T))->ps.Pairwise (λa b=>¬ b<a)->ps.Nodup->(∀ z,z∈ps↔IsP ms z)->Q (.ref D) H'
theorem Mm {f:Addr}{fd:wh}(F:Fun K "pieces" "pieces" kZ f fd)(tt:Txt K mg ad)(Z:Cal P w K mg base (CX2 P w) "begin_of" 1 ["word"] gH)(gV:Cal P w K mg base (CX2 P w) "end_of" 1 ["word"] nJ) :
  bI P w K mg base (CX2 P w) 2 f fd ["web"] (oF ad.Web):=by
 refine F.okN2 Ma (λvs H Q E h=>?_) (λcdv A outer s H vs Q E hr h=>?_)
 ·obtain⟨x,tp,n,ms,rfl,_⟩:=h
  rfl
 ·obtain⟨x,tp,n,ms,rfl,hW,hok,q⟩:=h
  have hs:=AG;obtain⟨⟨dx,hx⟩,mp⟩:=id hW;obtain⟨xk,xp,hn,w8,xo⟩:=id hok;have or:∀ ls:List (List Nat),(uniq ls).length<=ls.length:=λls=>qQ ls _
  refine⟨_,(aE (aQ (aP (wN rfl) (by rfl) tt.b_sorted fb (aA (aN Xl (fA (yB rfl) (by rfl) tt.b_set (by decide +kernel) (aA (eR Dx rfl (tS (cM (pv 0) rfl)) (λcl C s' H' fp=>(aM Z hr aS (aA (pv 0) aD)))) aD)) (fA (yB rfl) (by rfl) tt.b_set (by decide +kernel) (aA (eR Dd rfl (tS (cM (pv 0) rfl)) (λcl C s' H' fp=>(aM gV hr aS (aA (pv 0) aD)))) aD))) aD)))),?_⟩
  (try rw[bZ]);(try rw[cxK1])
  refine⟨_,rfl,x,ad.Web,dx,_,_,rfl,hx,tt.cl_Web,tt.na_Web_words,fK _ _,tp,rfl,⟨_,SqT.of mp⟩,?_⟩;refine pG (λv=>T (beg (unT v))) (hG (SqT.of mp)) (by rw[aR];omega) (λv H2 hv s2 N hN=>?_) λD1 H2 xq s2 hd2=>?_
  ·obtain⟨l,hl,rfl⟩:=aw.mp hv
   have xi:=(w8 l hl).1;have z:=hN H2 (aL.refl _);rw[eW] at z;exact⟨_,rfl,l,rfl,⟨by omega,by omega⟩,z⟩
  rw[oU (f:=λl=>T (beg l)),show ms.map (λl=>T (beg l))=(ms.map beg).map T by rw[bv];rfl] at hd2;refine⟨D1,ms.map beg,rfl,SqL.of hd2,(by rw[aR];omega),λS1 xh=>?_⟩;have s3:=s2.trans (aK (o:=nS w S1 (uniq (ms.map beg))) xh);have xc:upd H2 S1 (nS w S1 (uniq (ms.map beg))) S1=some (nS w S1 (uniq (ms.map beg))):=aC;refine⟨_,rfl,x,ad.Web,dx,_,_,rfl,s3 x _ hx,tt.cl_Web,tt.na_Web_words,fK _ _,tp,rfl,⟨_,SqT.of (s3 tp _ mp)⟩,?_⟩;refine pG (λv=>T ((unT v).drop 1)) (hG (SqT.of (s3 tp _ mp))) (by rw[aR];omega) (λv H4 hv s4 N hN=>?_) λD2 H4 xt s4 ww=>?_
  ·obtain⟨l,hl,rfl⟩:=aw.mp hv
   have xi:=(w8 l hl).1;have z:=hN H4 (aL.refl _);rw[eW] at z;exact⟨_,rfl,l,rfl,⟨by omega,by omega⟩,z⟩
  rw[oU (f:=λl=>T (l.drop 1)),show ms.map (λl=>T (l.drop 1))=(ms.map λl=>l.drop 1).map T by rw[bv];rfl] at ww;refine⟨D2,ms.map (λl=>l.drop 1),rfl,SqL.of ww,(by rw[aR];omega),λS2 w6=>?_⟩;have s5:=aK (o:=nS w S2 (uniq (ms.map λl=>l.drop 1))) w6;have l1:=or (ms.map beg);have l2:=or (ms.map λl=>l.drop 1);rw[aR] at l1 l2;have wp:=s5 S1 _ (s4 S1 _ xc);have xf:S1≠S2:=λz=>by
   have g:=s4 S1 _ xc;rw[z,w6] at g;cases g
  refine⟨S1,S2,_,_,rfl,rfl,xf,wp,aC,(λz=>?_),(by omega),λD5 qs xl xa xr wz=>?_⟩
  ·obtain⟨m0,xm⟩:∃ m0,m0∈ms:=jg _ xk
   have:beg m0∈uniq (ms.map beg):=(iD _ _).mpr (gt xm)
   rw[z] at this;cases this
  have s6:=aK (o:=nS w D5 qs) xl;refine⟨D5,qs,rfl,aC,(Vn (p:=[]) hok.2.2.1.2 xa λz hz=>.inr ?few),λps D6 xb w4 xj=>?_⟩
  case few =>
   rw[wz,iD,iD,aw,aw] at hz;rcases hz with ⟨l,hl,rfl⟩ | ⟨l,hl,rfl⟩
   ·exact⟨l,hl,.inl rfl⟩
   ·exact⟨l,hl,.inr rfl⟩
  have s7:=aK (o:=.lst (ps.map T)) xb;have wx:=s3.trans (s4.trans (s5.trans (s6.trans s7)));have xg:H D6=none:=by
   cases e:H D6 with
   | none=>rfl
   | some o =>
    have g:=(s3.trans (s4.trans (s5.trans s6))) D6 o e;exact absurd (g.symm.trans xb) (λz=>nomatch z)
  refine q D6 ps _ xg wx aC xj (w4.nodup_iff.mpr xa) λz=>?_
  rw[w4.mem_iff,wz,iD,iD,aw,aw];constructor
  ·rintro (⟨l,hl,rfl⟩ | ⟨l,hl,rfl⟩)
   ·exact⟨l,hl,.inl rfl⟩
   ·exact⟨l,hl,.inr rfl⟩
  ·rintro⟨l,hl,rfl | rfl⟩
   ·exact .inl ⟨l,hl,rfl⟩
   ·exact .inr ⟨l,hl,rfl⟩
def exc (ms so:List (List Nat)):Int:=((ms.filter λl=>decide (beg l∈so)).length:Int)-((ms.filter λl=>decide (l.drop 1∈so)).length:Int)
def Cj (K:ac)(C:Addr):Sp:=λvs H Q _=>∃ (x tp b:Addr) (n:Nat) (ms so:List (List Nat)),vs=[.ref x,.ref b]∧kM C H x tp n ms∧mO ms n∧Sq K H b (so.map T)∧∀ (H':Hp),aL H H'->Q (.int (exc ms so)) H'
theorem Ko {f:Addr}{fd:wh}(F:Fun K "excess" "excess" lB f fd)(tt:Txt K mg ad)(Z:Cal P w K mg base (CX2 P w) "begin_of" 1 ["word"] gH)(gV:Cal P w K mg base (CX2 P w) "end_of" 1 ["word"] nJ) :
  bI P w K mg base (CX2 P w) 2 f fd ["web", "some"] (Cj K ad.Web):=by
 refine F.okN2 qO (λvs H Q E h=>?_) (λcdv A outer s H vs Q E hr h=>?_)
 ·obtain⟨x,tp,b,n,ms,so,rfl,_⟩:=h
  rfl
 ·obtain⟨x,tp,b,n,ms,so,rfl,hW,hok,hB,q⟩:=h
  have hs:=AG;obtain⟨⟨dx,hx⟩,mp⟩:=id hW;obtain⟨w8,wz,hn,or,wx⟩:=id hok;refine⟨_,(aB (iR (i:=2) Db rfl (tS (cM (pv 0) rfl)) (λcl C s' H' fp=>(aU (uD K rfl) (aM Z hr aS (aA (pv 0) aD)) (pv 2) (by with_unfolding_all rfl))) (λcl C s' H' fp=>(pv 0)) qO.nd rfl rfl)
   (aB (iR (i:=3) Dw rfl (tS (cM (pv 0) rfl)) (λcl C s' H' fp=>(aU (uD K rfl) (aM gV hr aS (aA (pv 0) aD)) (pv 2) (by with_unfolding_all rfl))) (λcl C s' H' fp=>(pv 0)) qO.nd rfl rfl)
   (aE (aQ (aN iA (aP aW (by rfl) tt.b_len bc (aA (pv 2) aD)) (aP aW (by rfl) tt.b_len bc (aA (pv 3) aD))))))),?_⟩
  (try rw[bZ]);(try rw[cxK1])
  refine⟨_,rfl,x,ad.Web,dx,_,_,rfl,hx,tt.cl_Web,tt.na_Web_words,fK _ _,tp,rfl,⟨_,SqT.of mp⟩,?_⟩;refine nG (λv=>decide (beg (unT v)∈so)) (λv=>v) (hG (SqT.of mp)) (by rw[aR];omega) (λv H2 hv s2 N hN=>?_) (λv H2 hv hp s2 N hN=>?_) λD1 H2 w4 s2 hd2=>?_
  ·obtain⟨l,hl,rfl⟩:=aw.mp hv
   have ww:=(or l hl).1;have z:=hN H2 (aL.refl _);rw[eW] at z;refine⟨_,rfl,l,rfl,⟨by omega,by omega⟩,_,rfl,b,_,rfl,hB.on s2,rfl,fL so,_,rfl,?_⟩;show N (inV (T (beg l)) (so.map T)) H2;rw[mH];exact z
  ·exact⟨_,rfl,hN H2 (aL.refl _)⟩
  rw[show (ms.map T).filter (λv=>decide (beg (unT v)∈so))=(ms.filter λl=>decide (beg l∈so)).map T from eM (p:=λl=>decide (beg l∈so)) ms,Ca] at hd2;refine⟨_,rfl,x,ad.Web,dx,_,_,rfl,s2 x _ hx,tt.cl_Web,tt.na_Web_words,fK _ _,tp,rfl,⟨_,SqT.of (s2 tp _ mp)⟩,?_⟩;refine nG (λv=>decide ((unT v).drop 1∈so)) (λv=>v) (hG (SqT.of (s2 tp _ mp))) (by rw[aR];omega) (λv H3 hv s3 N hN=>?_) (λv H3 hv hp s3 N hN=>?_) λD2 H3 w6 s3 wp=>?_
  ·obtain⟨l,hl,rfl⟩:=aw.mp hv
   have ww:=(or l hl).1;have z:=hN H3 (aL.refl _);rw[eW] at z;refine⟨_,rfl,l,rfl,⟨by omega,by omega⟩,_,rfl,b,_,rfl,(hB.on s2).on s3,rfl,fL so,_,rfl,?_⟩;show N (inV (T (l.drop 1)) (so.map T)) H3;rw[mH];exact z
  ·exact⟨_,rfl,hN H3 (aL.refl _)⟩
  rw[show (ms.map T).filter (λv=>decide ((unT v).drop 1∈so))=(ms.filter λl=>decide (l.drop 1∈so)).map T from eM (p:=λl=>decide (l.drop 1∈so)) ms,Ca] at wp;refine⟨_,rfl,D1,_,rfl,.inl (SqL.of (s3 D1 _ hd2)),_,rfl,D2,_,rfl,.inl (SqL.of wp),_,_,rfl,rfl,?_⟩;rw[aR,aR];exact q H3 (s2.trans s3)
abbrev En (l:List Nat):List Nat:=l.drop 1
abbrev Rc (ms:List (List Nat))(p z:List Nat):Prop:=Hg.Rch beg En ms p z
theorem pC {t:List Nat}{v:V}:∀ {ls:List (List Nat)},dF (tKs ls v) (cf (tx t))=if t∈ls then some v else none
 | []=>by simp[tKs,dF]
 | l::ls=>by
  have Z:=@pC t v ls;unfold tKs dF at Z ⊢;rw[ap,jh];by_cases e:l=t
  ·subst e
   simp
  ·have e2:¬ (cf (tx l):Key)=cf (tx t):=λz=>e (gP (kq z))
   have e3:¬ t=l:=λz=>e z.symm
   simp only [e2,decide_false,au,e3,false_or];exact Z
theorem nY {t:List Nat}{v:V}{ls:List (List Nat)}:fE (tKs ls v) (cf (tx t)) v=tKs (Hg.nN ls t) v:=by
 have e:((tKs ls v).any λkv=>decide (kv.1=cf (tx t)))=decide (t∈ls):=by
  rw[cu,u7,AI];constructor
  ·rintro⟨kv,h1,h2⟩
   obtain⟨l,hl,rfl⟩:=aw.mp h1
   have:=gP (kq (AF h2))
   exact this▸hl
  ·exact λh=>⟨_,gt h,AE rfl⟩
 unfold fE Hg.nN;rw[e];by_cases h:t∈ls
 ·rw[AD (AE h),AD h]
  conv=>rhs;rw[<- lu (tKs ls v)]
  refine b8 λkv Z=>?_
  obtain⟨l,_,rfl⟩:=aw.mp Z;split
  ·rfl
  ·rfl
 ·rw[AC (by rw[AH h];exact ag),AC h]
  unfold tKs;rw[a7];rfl
theorem Pl (ls:List (List Nat))(v:V):(tKs ls v).map (·.1)=ls.map λt=>cf (tx t):=by
 unfold tKs;rw[bv];rfl
theorem kB (ls:List (List Nat))(v:V):(tKs ls v).length=ls.length:=by unfold tKs;rw[aR]
theorem Zi {ms:List (List Nat)}{p z:List Nat}(h:Rc ms p z):z=p∨IsP ms z:=by
 rcases Hg.Fw h with rfl | g
 ·exact .inl rfl
 ·rcases br.mp g with g | g
  ·obtain⟨l,hl,e⟩:=aw.mp g
   exact .inr ⟨l,hl,.inl e.symm⟩
  ·obtain⟨l,hl,e⟩:=aw.mp g
   exact .inr ⟨l,hl,.inr e.symm⟩
def Nk (K:ac):Sp:=λvs H Q _=>∃ (a:Addr) (ms:List (List Nat)) (p:List Nat),vs=[.ref a,T p]∧SqA K H a (ms.map T)∧(ms.length<=64∧∀ x∈ms,1<=x.length∧x.length<=1000) ∧
 ∀ (D:Addr) (H':Hp) (ls:List (List Nat)),H D=none->aL H H'->H' D=some (.dK (tKs ls (.bl true)))->ls.Nodup->(∀ z,z∈ls↔Rc ms p z)->Q (.ref D) H'
theorem wY {f:Addr}{fd:wh}(F:Fun K "hanging_by" "hanging_by" jS f fd)(tt:Txt K mg ad)(Z:Cal P w K mg base (CX2 P w) "begin_of" 1 ["word"] gH)(mp:Cal P w K mg base (CX2 P w) "end_of" 1 ["word"] nJ) :
  bI P w K mg base (CX2 P w) 2 f fd ["words", "piece"] (Nk K):=by
 refine F.okN2 eX (λvs H Q E h=>?_) (λcdv A outer s H vs Q E hr h=>?_)
 ·obtain⟨a,ms,p,rfl,_⟩:=h
  rfl
 ·obtain⟨a,ms,p,rfl,hS,⟨xb,w8⟩,q⟩:=h
  have hs:=AG;refine⟨_,(aB (aJ (i:=2) eX.nd rfl (Or.inl rfl) (Sr (Ny (pv 1) lM Sn) rfl rfl (λz=>nomatch z) (by decide)))
   (aB (aJ (i:=3) eX.nd rfl (Or.inl rfl) aH)
   (aB (lI PassesOwn.never (aU Jd (pv 3) (aP xT (by rfl) tt.b_len bc (aA (pv 2) aD)) (aY _)) (aB (aJ (i:=3) eX.nd rfl (Or.inl rfl) (aP xT (by rfl) tt.b_len bc (aA (pv 2) aD)))
   (aE (cY PassesOwn.never rfl (oO K rfl (pv 0)) (bO (i:=4) eX.nd rfl (Or.inl rfl)) (aE (bR (PW.pt (Nv (kX (Fy (eD hr) (aM Z hr aS (aA (pv 4) aD)) (pv 2))) (Hm (kX (Fy (eD hr) (aM mp hr aS (aA (pv 4) aD)) (pv 2)))))) (aB (tI (eD hr) (pv 2) (aM Z hr aS (aA (pv 4) aD)) lM rfl)
   (aE (tI (eD hr) (pv 2) (aM mp hr aS (aA (pv 4) aD)) lM rfl))) aV))))))
   (aE (aQ (pv 2)))))),?_⟩
  (try rw[bZ]);(try rw[cxK1])
  intro D hD;refine⟨_,rfl,aC,[(cf (tx p),.bl true)],rfl,(by show 1<=15;decide),?_⟩;have sD:aL H (upd H D (.dK (tKs [p] (.bl true)))):=aK hD;have e1:upd (upd H D (.dK [])) D (.dK (qB [] [(cf (tx p),.bl true)]))=upd H D (.dK (tKs [p] (.bl true))):=by
   rw[zH];rfl
  rw[e1];refine⟨λm σ H2=>∃ (fs:List (List Nat)) (kn:Nat) (v4:Option V),m=2*ms.length+2-kn∧aL H H2∧H2 D=some (.dK (tKs fs (.bl true)))∧fs.Nodup∧p∈fs∧(∀ z∈fs,Rc ms p z)∧kn<=fs.length∧(kn=fs.length->∀ x∈ms,Hg.Cl beg En fs x)∧σ=[some (.ref a),some (T p),some (.ref D),some (.int (kn:Nat)),v4],
   ⟨_,[p],0,none,rfl,sD,aC,by simp,by simp,(λz hz=>by rw[ax.mp hz];exact .self),cc _,(λz=>nomatch z),rfl⟩,?_⟩
  rintro m σ H2 ⟨fs,kn,v4,hm,s2,hd2,wx,hp,wz,xf,xa,rfl⟩;have xc:=Hg.Qi wx wz;refine⟨_,rfl,_,rfl,D,_,rfl,hd2,_,_,rfl,rfl,_,rfl,?_⟩;rw[kB];refine oW (λh0=>?_) (λh0=>?_)
  ·have w6:kn<fs.length:=by have:=AF h0;omega
   refine⟨λσ' H'=>∃ m'<m,∃ (fs:List (List Nat)) (kn:Nat) (v4:Option V),m'=2*ms.length+2-kn∧aL H H'∧H' D=some (.dK (tKs fs (.bl true)))∧fs.Nodup∧p∈fs∧(∀ z∈fs,Rc ms p z)∧kn<=fs.length∧(kn=fs.length->∀ x∈ms,Hg.Cl beg En fs x)∧σ'=[some (.ref a),some (T p),some (.ref D),some (.int (kn:Nat)),v4],λσ' H' z=>z,?_⟩;refine⟨_,rfl,D,_,rfl,hd2,?_⟩;rw[kB];refine⟨_,rfl,a,ms.map T,_,rfl,hS,s2,λJ rd=>?_⟩;refine qR rd (λi σ H3=>aL H H3∧∃ (ls:List (List Nat)) (v4:Option V),H3 D=some (.dK (tKs ls (.bl true)))∧Hg.Pass beg En ms p fs i ls∧σ=[some (.ref a),some (T p),some (.ref D),some (.int (fs.length:Nat)),v4]) ⟨s2,fs,v4,hd2,.zero wx wz,rfl⟩ (λi σ H3 _ h=>h.1) ?_ ?_
   ·rintro i y σ H3 hi ⟨s3,ls,v4,wp,gV,rfl⟩
    obtain⟨x,hx,rfl⟩:∃ x,ms[i]?=some x∧T x=y:=by rw[ah] at hi;exact bz.mp hi
    have or:=w8 x (ay hx);have w4:∀ t:List Nat,jO H3 D (T t) (if t∈ls then some (.bl true) else none):=λt=>by have g:=jO.k (k:=cf (tx t)) wp;rwa [pC] at g
    have l3:=Hg.Qi gV.nd gV.rch;have ww:∀ {G:Hp} {o1 o2:HO},aL H G->aL H (upd (upd G D o1) D o2):=λsg b o e=>by
     rw[aG (aI e hD),aG (aI e hD)];exact sg b o e
    refine⟨_,rfl,x,rfl,or,_,rfl,D,_,rfl,w4 _,_,rfl,?_⟩;by_cases hb:beg x∈ls
    ·refine itP (by show (if beg x∈ls then some (V.bl true) else none).isSome=true;rw[AD hb];rfl) ?_
     refine⟨_,rfl,_,rfl,x,rfl,or,D,_,rfl,wM.k (k:=cf (tx (beg x))) wp (by rw[kB];omega),?_⟩;rw[nY];refine⟨_,rfl,_,rfl,x,rfl,or,D,_,rfl,wM.k (k:=cf (tx (En x))) aC (by rw[kB];have:=Hg.Df ls (beg x);omega),?_⟩;rw[nY];exact⟨ww s3,_,some (T x),aC,gV.yes hx (.inl hb),rfl⟩
    ·refine itN (by show ¬ (if beg x∈ls then some (V.bl true) else none).isSome=true;rw[AC hb];exact ag) ?_
     refine⟨_,rfl,x,rfl,or,_,rfl,D,_,rfl,w4 _,_,rfl,?_⟩;by_cases he:En x∈ls
     ·refine itP (by show (if En x∈ls then some (V.bl true) else none).isSome=true;rw[AD he];rfl) ?_
      refine⟨_,rfl,_,rfl,x,rfl,or,D,_,rfl,wM.k (k:=cf (tx (beg x))) wp (by rw[kB];omega),?_⟩;rw[nY];refine⟨_,rfl,_,rfl,x,rfl,or,D,_,rfl,wM.k (k:=cf (tx (En x))) aC (by rw[kB];have:=Hg.Df ls (beg x);omega),?_⟩;rw[nY];exact⟨ww s3,_,some (T x),aC,gV.yes hx (.inr he),rfl⟩
     ·refine itN (by show ¬ (if En x∈ls then some (V.bl true) else none).isSome=true;rw[AC he];exact ag) ?_
      exact⟨s3,ls,some (T x),wp,gV.no hx hb he,rfl⟩
   ·rintro σ H3 ⟨s3,ls,v4,wp,gV,rfl⟩
    have l1:=gV.pre.length_le;refine⟨_,?_,ls,fs.length,v4,rfl,s3,wp,gV.nd,gV.pre.subset hp,gV.rch,l1,(λe x hx=>?_),rfl⟩
    ·omega
    ·have hc:=gV.cl e.symm x (by rw[aR,cr];exact hx)
     rwa [gV.pre.eq_of_length e] at hc
  ·have w6:kn=fs.length:=by have z:¬ ((kn:Int)<(fs.length:Int)):=λz=>h0 (AE z);omega
   exact⟨_,rfl,q D H2 fs hD s2 hd2 wx λz=>⟨wz z,λhz=>hz.inside hp (xa w6)⟩⟩
def Nx (C:Addr)(ad:Adr):Sp:=λvs H Q E=>∃ (x tp:Addr) (n:Nat) (ms:List (List Nat)) (p:List Nat),vs=[.ref x,T p]∧kM C H x tp n ms∧mO ms n∧(¬ IsP ms p->∀ H',aL H H'->E (.ref ad.NoSuch) none H') ∧
 (IsP ms p->∀ (D:Addr) (ps:List (List Nat)) (H':Hp),H D=none->aL H H'->H' D=some (.lst (ps.map T))->ps.Pairwise (λa b=>¬ b<a)->ps.Nodup->(∀ z,z∈ps↔Rc ms p z)->Q (.ref D) H')
theorem fZ {H G:Hp}{D:Addr}(s:aL H G)(h:G D=none):H D=none:=by
 cases e:H D with
 | none=>rfl
 | some o=>exact absurd ((s D o e).symm.trans h) (λz=>nomatch z)
theorem Hl {f:Addr}{fd:wh}(F:Fun K "hanging" "hanging" qN f fd)(tt:Txt K mg ad)(gV:Cal P w K mg base (CX2 P w) "pieces" 2 ["web"] (oF ad.Web))(Z:Cal P w K mg base (CX2 P w) "hanging_by" 2 ["words", "piece"] (Nk K)) :
  bI P w K mg base (CX2 P w) 3 f fd ["web", "piece"] (Nx ad.Web ad):=by
 refine F.okX2 Gd (λvs H Q E h=>?_) (λcdv A outer s H vs Q E hr h=>?_)
 ·obtain⟨x,tp,n,ms,p,rfl,_⟩:=h
  rfl
 ·obtain⟨x,tp,n,ms,p,rfl,hW,hok,xn,q⟩:=h
  have hs:=AG;obtain⟨⟨dx,hx⟩,w8⟩:=id hW;obtain⟨xh,xb,hn,w4,xa⟩:=id hok;refine⟨_,(aB (bR (aU gW (pv 1) (aM gV hr aS (aA (pv 0) aD)) (by with_unfolding_all rfl)) (aE (eJ (E:=λcls H'=>E cls none H') tt.x_NoSuch rfl (λ_ _ _ _ _ _ _ I hx q=>fG I hx q) (aA gD aD))) aV)
   (aE (aQ (aP (xB rfl) (by rfl) tt.b_sorted fb (aA (aM Z hr aS (aA (cM (pv 0) rfl) (aA (pv 1) aD))) aD))))),?_⟩
  (try rw[bZ]);(try rw[cxK1])
  refine⟨_,rfl,_,rfl,x,tp,n,ms,rfl,hW,hok,λD1 ps H1 xc s1 wz xi xf wp=>?_⟩;refine⟨D1,_,rfl,.inl (SqL.of wz),rfl,fL ps,_,rfl,?_⟩;by_cases hp:p∈ps
  ·refine itN (by rw[mH,AE hp];exact ag) ?_
   refine⟨_,rfl,x,ad.Web,dx,_,_,rfl,s1 x _ hx,tt.cl_Web,tt.na_Web_words,fK _ _,_,rfl,tp,ms,p,rfl,.inr (SqT.of (s1 tp _ w8)),⟨by omega,λy hy=>by have:=(w4 y hy).1;omega⟩,λD2 H2 ls xg s2 hd2 mp ww=>?_⟩;refine⟨D2,ls,_,rfl,hd2,Pl _ _,Vn hok.2.2.1.2 mp (λz hz=>Zi ((ww z).mp hz)),λqs D3 wx or w6=>?_⟩;exact q ((wp p).mp hp) D3 qs _ (fZ (s1.trans s2) wx) (s1.trans (s2.trans (aK wx))) aC w6 (or.nodup_iff.mpr mp) λz=>by rw[or.mem_iff,ww]
  ·refine itP (by rw[mH,AH hp];rfl) ?_
   exact⟨(by show 1<=sizeLine;omega),xn (λz=>hp ((wp p).mpr z)) H1 s1⟩
def aAR:List Nat:=[117,110,101,118,101,110]
def Yt:List Nat:=[97,112,97,114,116]
theorem Ea {ls ms so:List (List Nat)}(p:ms.Perm ls):exc ms so=exc ls so:=by
 unfold exc;rw[(p.filter λl=>decide (beg l∈so)).length_eq,(p.filter λl=>decide (l.drop 1∈so)).length_eq]
abbrev Pap:=Option (List Nat×List (List Nat))
def uM (H:Hp)(v:V):Pap->Prop
 | none=>v = .non
 | some (kd,so)=>∃ p b:Addr,v = .ref p∧H p=some (.tup [T kd,.ref b])∧H b=some (.tup (so.map T))
theorem uM.on {H G:Hp}{v:V}{r:Pap}(s:aL H G)(h:uM H v r):uM G v r:=by
 cases r with
 | none=>exact h
 | some y =>
  obtain⟨p,b,h1,h2,Z⟩:=h;exact⟨p,b,h1,s p _ h2,s b _ Z⟩
def Pcs (ms Z:List (List Nat)):Prop:=Z.Pairwise (λa b=>¬ b<a)∧Z.Nodup∧∀ z,z∈Z↔IsP ms z
theorem Pcs.uniq {ms ls Z eu:List (List Nat)}(h:Pcs ms Z)(g:Pcs ls eu)(p:ms.Perm ls):Z=eu:=Wd.gL ((d7 h.2.1 g.2.1).mpr λz=>by rw[h.2.2,g.2.2];exact⟨λ⟨w,h1,h2⟩=>⟨w,p.mem_iff.mp h1,h2⟩,λ⟨w,h1,h2⟩=>⟨w,p.mem_iff.mpr h1,h2⟩⟩) h.1 g.1
def Bx (ms Z:List (List Nat))(r:Pap):Prop:=∃ (z0:List Nat) (so:List (List Nat)),Z[0]?=some z0∧so.Pairwise (λa b=>¬ b<a)∧so.Nodup∧(∀ z,z∈so↔Rc ms z0 z)∧r=if so.length=Z.length then none else some (Yt,so)
theorem Bx.uniq {ms ls Z:List (List Nat)}{r t:Pap}(h:Bx ms Z r)(g:Bx ls Z t)(p:ms.Perm ls):r=t:=by
 obtain⟨z0,so,a1,a2,a3,a4,rfl⟩:=h;obtain⟨z1,su,b1,b2,b3,b4,rfl⟩:=g;obtain rfl:z0=z1:=av (a1.symm.trans b1);obtain rfl:so=su:=Wd.gL ((d7 a3 b3).mpr λz=>by rw[a4,b4];exact Hg.Rch.perm p) a2 b2;rfl
def On (C:Addr):Sp:=λvs H Q _=>∃ (x tp:Addr) (n:Nat) (ms:List (List Nat)),vs=[.ref x]∧kM C H x tp n ms∧mO ms n ∧
 ∀ (Z:List (List Nat)) (r:Pap) (v:V) (H':Hp),Pcs ms Z->Bx ms Z r->uM H' v r->aL H H'->Q v H'
theorem Wr {ms ev:List (List Nat)}(h:Pcs ms ev)(Z:ms≠[]):∃ z0,ev[0]?=some z0∧IsP ms z0:=by
 obtain⟨l,hl⟩:=jg _ Z;have hm:=(h.2.2 (beg l)).mpr ⟨l,hl,.inl rfl⟩;have h0:=ft hm;exact⟨_,aa h0,(h.2.2 _).mp (dk h0)⟩
theorem Be {f:Addr}{fd:wh}(F:Fun K "why_apart" "why_apart" lH f fd)(tt:Txt K mg ad)(gV:Cal P w K mg base (CX2 P w) "pieces" 2 ["web"] (oF ad.Web))(Z:Cal P w K mg base (CX2 P w) "hanging" 3 ["web", "piece"] (Nx ad.Web ad)) :
  bI P w K mg base (CX2 P w) 4 f fd ["web"] (On ad.Web):=by
 refine F.okN2 kC (λvs H Q E h=>?_) (λcdv A outer s H vs Q E hr h=>?_)
 ·obtain⟨x,tp,n,ms,rfl,_⟩:=h
  rfl
 ·obtain⟨x,tp,n,ms,rfl,hW,hok,q⟩:=h
  have hs:=AG;refine⟨_,(aB (aJ (i:=1) kC.nd rfl (Or.inl rfl) (aM gV hr aS (aA (pv 0) aD)))
   (aB (aJ (i:=2) kC.nd rfl (Or.inl rfl) (aM Z hr aS (aA (pv 0) (aA (cH bW (pv 1) aH (λ_ _=>rfl)) aD))))
   (aB (bR (aU eP (aP aW (by rfl) tt.b_len bc (aA (pv 2) aD)) (aP aW (by rfl) tt.b_len bc (aA (pv 1) aD)) (aY _)) (aE (aQ vF)) aV)
   (aE (aQ (qM (aA (cW [97,112,97,114,116] (by decide +kernel)) (aA (fA mG (by rfl) tt.b_tuple (by decide +kernel) (aA (pv 2) aD)) aD)))))))),?_⟩
  (try rw[bZ]);(try rw[cxK1])
  refine⟨_,rfl,x,tp,n,ms,rfl,hW,hok,λD1 ev H1 xg s1 wp xf xb xa=>?_⟩;have or:Pcs ms ev:=⟨xf,xb,xa⟩;obtain⟨z0,wx,ww⟩:=Wr or hok.1;refine⟨_,rfl,_,rfl,D1,_,_,_,rfl,rfl,SqL.of wp,bL (j:=0) (by rw[ah,wx];rfl),x,tp,n,ms,z0,rfl,hW.on s1,hok,λz=>absurd ww z,λ_ D2 so H2 xh s2 hd2 w6 w8 xc=>?_⟩;have mp:Bx ms ev (if so.length=ev.length then none else some (Yt,so)):=⟨z0,so,wx,w6,w8,xc,rfl⟩;have wz:=s1.trans s2;refine⟨_,rfl,D2,_,rfl,.inl (SqL.of hd2),_,rfl,D1,_,rfl,.inl (SqL.of (s2 D1 _ wp)),_,rfl,_,rfl,_,rfl,?_⟩;rw[aR,aR];by_cases he:so.length=ev.length
  ·refine itP (AE (by rw[he])) ?_
   rw[AD he] at mp;exact q ev none .non H2 or mp rfl wz
  ·refine itN (λz=>he (by have:=AF z;omega)) ?_
   rw[AC he] at mp;refine⟨_,rfl,D2,_,rfl,.inl ⟨SqL.of hd2,λb hb=>?_⟩⟩;have t3:=aK (o:=.tup (so.map T)) hb;refine⟨(by show 2<=sizeLine;omega),λpp w4=>?_⟩;have t4:=aK (o:=.tup [T Yt,.ref b]) w4;exact q ev _ _ _ or mp ⟨pp,b,rfl,aC,t4 b _ aC⟩ (wz.trans (t3.trans t4))
def wG (ms Z:List (List Nat))(r:Pap):Prop:=(∃ z,Z.find? (λz=>!decide (exc ms [z]=0))=some z∧r=some (aAR,[z]))∨(Z.find? (λz=>!decide (exc ms [z]=0))=none∧Bx ms Z r)
def Gu (C:Addr):Sp:=λvs H Q _=>∃ (x tp:Addr) (n:Nat) (ms:List (List Nat)),vs=[.ref x]∧kM C H x tp n ms∧mO ms n ∧
 ∀ (Z:List (List Nat)) (r:Pap) (v:V) (H':Hp),Pcs ms Z->wG ms Z r->uM H' v r->aL H H'->Q v H'
theorem vH {p:List Nat->Bool}{Z:List (List Nat)}{i:Nat}{z:List Nat}(h:(Z.take i).find? p=none)(hz:Z[i]?=some z):(p z=false->(Z.take (i+1)).find? p=none)∧(p z=true->Z.find? p=some z):=by
 constructor
 ·intro hp
  rw[cn,hz,uw,h];simp[hp]
 ·intro hp
  have e:Z=Z.take i++z::Z.drop (i+1):=by
   have g:=(ao.mp hz);rw[<- g.2,<- lb g.1,ki]
  rw[e,uw,h];simp[hp]
theorem vL {f:Addr}{fd:wh}(F:Fun K "why_no_ring" "why_no_ring" jE f fd)(tt:Txt K mg ad)(gV:Cal P w K mg base (CX2 P w) "pieces" 2 ["web"] (oF ad.Web))(mp:Cal P w K mg base (CX2 P w) "excess" 2 ["web", "some"] (Cj K ad.Web))(Z:Cal P w K mg base (CX2 P w) "why_apart" 4 ["web"] (On ad.Web)) :
  bI P w K mg base (CX2 P w) 5 f fd ["web"] (Gu ad.Web):=by
 refine F.okN2 kY (λvs H Q E h=>?_) (λcdv A outer s H vs Q E hr h=>?_)
 ·obtain⟨x,tp,n,ms,rfl,_⟩:=h
  rfl
 ·obtain⟨x,tp,n,ms,rfl,hW,hok,q⟩:=h
  have hs:=AG;refine⟨_,(aB (cY PassesOwn.never rfl (cN (aM gV hr aS (aA (pv 0) aD))) (bO (i:=1) kY.nd rfl (Or.inl rfl)) (aE (bR (aU nK (aM mp hr aS (aA (pv 0) (aA (dB (aA (pv 1) aD)) aD))) aH (aY _)) (aE (aQ (qM (aA (cW [117,110,101,118,101,110] (by decide +kernel)) (aA (qM (aA (pv 1) aD)) aD))))) aV)))
   (aE (aQ (aM Z hr aS (aA (pv 0) aD))))),?_⟩
  (try rw[bZ]);(try rw[cxK1])
  refine⟨_,rfl,x,tp,n,ms,rfl,hW,hok,λD1 ev H1 xf s1 ww xc xa w6=>?_⟩;have wp:Pcs ms ev:=⟨xc,xa,w6⟩;refine⟨D1,rfl,⟨_,SqL.of ww⟩,?_⟩;refine gN (K:=K) (a:=D1) (xs:=ev.map T) (λi σ H2=>aL H1 H2∧(ev.take i).find? (λz=>!decide (exc ms [z]=0))=none∧∃ v1:Option V,σ=[some (.ref x),v1]) ⟨aL.refl _,rfl,none,rfl⟩ (λi σ H2 _ h=>SqL.of (h.1 D1 _ ww)) ?_ ?_
  ·rintro i y σ H2 hi ⟨s2,or,v1,rfl⟩
   obtain⟨pc,wx,rfl⟩:∃ pc,ev[i]?=some pc∧T pc=y:=by rw[ah] at hi;exact bz.mp hi
   obtain⟨fn,fy⟩:=vH or wx;refine⟨_,rfl,_,rfl,(by show 1<=sizeLine;omega),λp3 w4=>?_⟩;have t3:=aK (o:=.lst ([pc].map T)) w4;refine⟨x,tp,p3,n,ms,[pc],rfl,hW.on (s1.trans (s2.trans t3)),hok,.inl (SqL.of aC),λH4 s4=>?_⟩;refine⟨_,rfl,_,rfl,_,rfl,?_⟩;by_cases h0:exc ms [pc]=0
   ·refine itN (by rw[AE h0];exact ag) ?_
    exact⟨s2.trans (t3.trans s4),fn (by rw[AE h0];rfl),some (T pc),rfl⟩
   ·refine itP (by rw[AH h0];rfl) ?_
    refine⟨_,rfl,(by show 1<=sizeLine;omega),λb hb=>?_⟩;have t5:=aK (o:=.tup ([pc].map T)) hb;refine⟨(by show 2<=sizeLine;omega),λpp wz=>?_⟩;have t6:=aK (o:=.tup [T aAR,.ref b]) wz;exact q ev _ _ _ wp (.inl ⟨pc,fy (by rw[AH h0];rfl),rfl⟩) ⟨pp,b,rfl,aC,t6 b _ aC⟩ (s1.trans (s2.trans (t3.trans (s4.trans (t5.trans t6)))))
  ·rintro σ H2 ⟨s2,or,v1,rfl⟩
   rw[aR,cr] at or;refine⟨_,rfl,x,tp,n,ms,rfl,hW.on (s1.trans s2),hok,λeu r v H3 xb w8 hv s3=>?_⟩;obtain rfl:=xb.uniq wp (ej ms);exact q eu r v H3 wp (.inr ⟨or,w8⟩) hv (s1.trans (s2.trans s3))
theorem wG.uniq {ms ls ev:List (List Nat)}{r t:Pap}(h:wG ms ev r)(g:wG ls ev t)(p:ms.Perm ls):r=t:=by
 have e:(λz=>!decide (exc ms [z]=0))=λz=>!decide (exc ls [z]=0):=by
  funext z
  rw[Ea p]
 unfold wG at h;rw[e] at h;rcases h with ⟨z,h1,rfl⟩ | ⟨h1,h2⟩
 ·rcases g with ⟨y,Z,rfl⟩ | ⟨Z,_⟩
  ·rw[av (h1.symm.trans Z)]
  ·exact nomatch h1.symm.trans Z
 ·rcases g with ⟨y,Z,rfl⟩ | ⟨_,g2⟩
  ·exact nomatch h1.symm.trans Z
  ·exact h2.uniq g2 p
abbrev Tr (p:List Nat)(ls:List (List Nat))(q:List Nat):Prop:=Hg.Tr beg En p ls q
theorem Yf {p q:List Nat}{ls ms so:List (List Nat)}(h:Tr p ls q)(Z:ms.Perm ls):exc ms so=(if p∈so then 1 else 0)-(if q∈so then 1 else 0):=by
 rw[Ea Z]
 have:=Hg.Tr.exc (λz=>decide (z∈so)) h
 unfold exc
 simpa using this
theorem Wu {p q:List Nat}{ls ms:List (List Nat)}(h:Tr p ls q)(hp:ms.Perm ls){z0 z:List Nat}(h0:IsP ms z0)(h1:IsP ms z):Rc ms z0 z:=by
 have Z:∀ z,IsP ms z->Rc ms p z:=λz hz=>by
  obtain⟨l,hl,g⟩:=hz
  have:=Hg.Tr.rch (ms:=ms) (p:=p) h (λw hw=>hp.mem_iff.mpr hw) .self l (hp.mem_iff.mp hl)
  rcases g with rfl | rfl
  ·exact this.1
  ·exact this.2
 exact (Z z0 h0).symm.trans (Z z h1)
theorem Oq {ms:List (List Nat)}{p z:List Nat}(Z:IsP ms p)(h:Rc ms p z):IsP ms z:=by
 rcases Hg.Fw h with rfl | g
 ·exact Z
 ·rcases br.mp g with g | g
  ·obtain⟨l,hl,e⟩:=aw.mp g
   exact⟨l,hl,.inl e.symm⟩
  ·obtain⟨l,hl,e⟩:=aw.mp g
   exact⟨l,hl,.inr e.symm⟩
theorem Lm {p q:List Nat}{ls ms ev:List (List Nat)}{r:Pap}(h:Tr p ls q)(hp:ms.Perm ls)(hc:Pcs ms ev)(hw:Bx ms ev r):r=none:=by
 obtain⟨z0,so,a1,a2,a3,a4,rfl⟩:=hw;have Z:=(hc.2.2 z0).mp (ay a1);rw[AD];refine ((d7 a3 hc.2.1).mpr λz=>?_).length_eq;rw[a4,hc.2.2];exact⟨λg=>Oq Z g,λg=>Wu h hp Z g⟩
theorem Le {p:List Nat}{ls ms Z:List (List Nat)}{r:Pap}(h:Tr p ls p)(hp:ms.Perm ls)(hc:Pcs ms Z)(hw:wG ms Z r):r=none:=by
 rcases hw with ⟨z,hz,_⟩ | ⟨_,hw⟩
 ·have:=vh hz
  rw[Yf h hp,Int.sub_self] at this;exact absurd this (by decide)
 ·exact Lm h hp hc hw
theorem Ia {ms:List (List Nat)}{p:List Nat}:(∀ e∈ms,Rc ms p (beg e))↔Wd.gY ms p:=by
 constructor
 ·intro h χ hp hc e Z
  have gV:∀ {z},Rc ms p z->χ z:=λ{z} hz=>by
   induction hz with
   | self=>exact hp
   | fw hw _ ih=>exact (hc _ hw).mp ih
   | bw hw _ ih=>exact (hc _ hw).mpr ih
  exact gV (h e Z)
 ·intro h e Z
  exact h (λz=>Rc ms p z) .self (λe Z=>⟨λz=>.fw Z z,λz=>.bw Z z⟩) e Z
def Hw (K:ac):Sp:=λvs H Q _=>∃ (a:Addr) (ms:List (List Nat)) (p:List Nat),vs=[.ref a,T p]∧SqL K H a (ms.map T)∧(ms.length<=64∧∀ x∈ms,1<=x.length∧x.length<=1000)∧∀ (b:Bool) (H':Hp),aL H H'->(b=true↔Wd.gY ms p)->Q (.bl b) H'
theorem An {f:Addr}{fd:wh}(F:Fun K "can_go_on" "can_go_on" iQ f fd)(tt:Txt K mg ad)(Z:Cal P w K mg base (CX2 P w) "hanging_by" 2 ["words", "piece"] (Nk K))(gV:Cal P w K mg base (CX2 P w) "begin_of" 1 ["word"] gH):bI P w K mg base (CX2 P w) 3 f fd ["left", "piece"] (Hw K):=by
 refine F.okN2 pO (λvs H Q E h=>?_) (λcdv A outer s H vs Q E hr h=>?_)
 ·obtain⟨a,ms,p,rfl,_⟩:=h
  rfl
 ·obtain⟨a,ms,p,rfl,hS,⟨wz,wp⟩,q⟩:=h
  have hs:=AG;refine⟨_,(aB (aJ (i:=2) pO.nd rfl (Or.inr rfl) (aM Z hr aS (aA (pv 0) (aA (pv 1) aD))))
   (aE (aQ (aP (Ll rfl) (by rfl) tt.b_all PyProof.Rows.boot_all (aA (eR uF rfl (cN (pv 0)) (λcl C s' H' fp=>(Ru (Fy (eD hr) (aM gV hr aS (aA (pv 0) aD)) (pv 3))))) aD))))),?_⟩
  (try rw[bZ]);(try rw[cxK1])
  refine⟨_,rfl,_,rfl,a,ms,p,rfl,.inl hS,⟨wz,wp⟩,λD H1 ls hD s1 ww w6 or=>?_⟩;refine⟨_,rfl,a,rfl,⟨_,s1.seq hS⟩,?_⟩;refine pG (λv=>V.bl (decide (beg (unT v)∈ls))) (cJ (s1.seq hS)) (by rw[aR];omega) (λv G5 hv s5 N hN=>?_) λD5 G5 w8 s5 mp=>?_
  ·obtain⟨wd,w4,rfl⟩:=aw.mp hv
   have g:=hN G5 (aL.refl _);rw[eW] at g;have wx:jO G5 D (T (beg wd)) (if beg wd∈ls then some (.bl true) else none):=by have g:=jO.k (k:=cf (tx (beg wd))) (s5 D _ ww);rwa [pC] at g
   refine⟨_,rfl,wd,rfl,wp wd w4,_,rfl,D,_,rfl,wx,?_⟩;rw[show (if beg wd∈ls then some (V.bl true) else none).isSome=decide (beg wd∈ls) by by_cases h:beg wd∈ls <;> simp[h]];exact g
  ·have mp:G5 D5=some (.lst ((ms.map λw=>decide (beg w∈ls)).map V.bl)):=by
    rw[mp,bv,bv];refine congrArg (λl=>some (HO.lst l)) (b8 λm _=>?_);show V.bl (decide (beg (unT (T m))∈ls))=_;rw[eW];rfl
   refine⟨D5,_,rfl,SqL.of mp,?_⟩;refine q _ _ (s1.trans s5) ?_;rw[wo,dz,<- Ia];exact⟨λh e he=>(or _).mp (AF (h e he)),λh e he=>AE ((or _).mpr (h e he))⟩
def Nh (us ms:List (List Nat))(p q:List Nat):Prop:=Hg.Tr Wd.beg Wd.fin p us q∧us.Perm ms
theorem Us {ms:List (List Nat)}{v:List Nat}:exc ms [v]=((Wd.cnt Wd.beg ms v:Nat):Int)-((Wd.cnt Wd.fin ms v:Nat):Int):=by
 unfold exc Wd.cnt;simp only [ax];rfl
theorem Qx {ms:List (List Nat)}{v:List Nat}{g:List Nat->List Nat}(h:∀ l∈ms,g l≠v):Wd.cnt g ms v=0:=by
 unfold Wd.cnt;rw[a8,iy];exact λl hl z=>h l hl (AF z)
theorem Kx {ms ev:List (List Nat)}(hc:Pcs ms ev)(hw:Bx ms ev none):∃ Z,IsP ms Z∧Wd.gY ms Z:=by
 obtain⟨Z,so,h0,_,or,mp,e⟩:=hw;have gV:=(hc.2.2 Z).mp (ay h0);have hl:so.length=ev.length:=ba λz=>by rw[AC z] at e;cases e
 refine⟨Z,gV,Ia.mp λl wp=>(mp _).mp ?_⟩;exact Wd.full or (λx hx=>(hc.2.2 x).mpr (Oq gV ((mp x).mp hx))) (by omega) ((hc.2.2 _).mpr ⟨l,wp,.inl rfl⟩)
theorem Ck {ms ev:List (List Nat)}(hc:Pcs ms ev)(hw:wG ms ev none):∃ us p,Nh us ms p p:=by
 rcases hw with ⟨z,_,e⟩ | ⟨hf,hA⟩
 ·cases e
 obtain⟨z0,mp,Z⟩:=Kx hc hA;have hb:Wd.Bal ms z0 z0:=λv=>by
  have gV:Wd.cnt Wd.beg ms v=Wd.cnt Wd.fin ms v:=by
   by_cases hv:IsP ms v
   ·have:=uc.mp hf v ((hc.2.2 v).mpr hv)
    have h0:exc ms [v]=0:=ba λz=>this (by rw[AH z];rfl)
    rw[Us] at h0;omega
   ·rw[Qx (g:=Wd.beg) λl hl z=>hv ⟨l,hl,.inl z.symm⟩,Qx (g:=Wd.fin) λl hl z=>hv ⟨l,hl,.inr z.symm⟩]
  rw[gV]
 obtain⟨us,h1,h2⟩:=Wd.aAU hb Z;exact⟨us,z0,h2,h1⟩
theorem tL {α β:Type}(f:α->β):∀ (l:List α) (i:Nat) (a:α),(l.map f).set i (f a)=(l.set i a).map f
 | [],_,_=>rfl
 | _::_,0,_=>rfl
 | _::l,i+1,a=>by
  rw[ap,ui,tL f l i a,ui,ap]
theorem Tc {n i:Nat}(h:i<n):ixN n (i:Int)=some i:=by
 unfold ixN;rw[AD (by omega),AD (by omega),bj]
def Wf:Sp:=λvs H Q _=>∃ k n:Nat,vs=[.int (k:Nat),.int (n:Nat)]∧(k<=1000∧n<=1000)∧Q (.int ((k ^ n:Nat):Int)) H
theorem wP {f:Addr}{fd:wh}(F:Fun K "_law_power" "_law_power" kE f fd)(Z:Txt K mg ad):bI P w K mg base (CX2 P w) 1 f fd ["base", "many"] Wf:=by
 refine F.okN2 gG (λvs H Q E h=>?_) (λcdv A outer s H vs Q E hr h=>?_)
 ·obtain⟨k,n,rfl,_⟩:=h
  rfl
 ·obtain⟨k,n,rfl,hn,q⟩:=h
  refine⟨_,(aB (aJ (i:=2) gG.nd rfl (Or.inl rfl) aH)
   (aB (cY PassesOwn.never rfl (fB (by rfl) Z.b_range (aA (pv 1) aD)) (bO (i:=3) gG.nd rfl (Or.inl rfl)) (aE (aJ (i:=2) gG.nd rfl (Or.inl rfl) (aN kF (pv 2) (pv 0)))))
   (aE (aQ (pv 2))))),?_⟩
  (try rw[bZ]);(try rw[cxK1])
  refine⟨_,rfl,_,rfl,by omega,by omega,?_⟩;rw[bj];refine fW (λi σ H2=>H2=H∧∃ v,σ=[some (.int (k:Nat)),some (.int (n:Nat)),some (.int ((k ^ i:Nat):Int)),v]) ⟨rfl,none,rfl⟩ ?_ ?_
  ·rintro i σ H2 hi ⟨rfl,v,rfl⟩
   refine⟨_,rfl,_,rfl,_,_,rfl,rfl,.inr ⟨by omega,by omega⟩,?_⟩;refine⟨rfl,some (.int (0+(i:Int))),?_⟩;rw[gr,fo];rfl
  ·rintro σ H2 ⟨rfl,v,rfl⟩
   exact⟨_,rfl,q⟩
def Ef (c k:Int):Int:=(c % 1000000007*48271+(k+1)*(k+1)*69621) % 2147483647*((c % 1000000007*48271+(k+1)*(k+1)*69621) % 2147483647) % 2147483629
def Bj:Sp:=λvs H Q _=>∃ (c k:Int),vs=[.int c,.int k]∧(0<=k∧k<=1000)∧Q (.int (Ef c k)) H
theorem Bp {f:Addr}{fd:wh}(F:Fun K "_law_stir" "_law_stir" kT f fd)(tt:Txt K mg ad):bI P w K mg base (CX2 P w) 1 f fd ["cell", "k"] Bj:=by
 refine F.okN2 nM (λvs H Q E h=>?_) (λcdv A outer s H vs Q E Z h=>?_)
 ·obtain⟨c,k,rfl,_⟩:=h
  rfl
 ·obtain⟨c,k,rfl,hk,q⟩:=h
  refine⟨_,(aB (aJ (i:=2) nM.nd rfl (Or.inl rfl) (aN bY (aN eA (aN kF (aN bY (pv 0) aH) aH) (aN kF (aN kF (aN eA (pv 1) aH) (aN eA (pv 1) aH)) aH)) aH))
   (aE (aQ (aN bY (aN kF (pv 2) (pv 2)) aH)))),?_⟩
  (try rw[bZ]);(try rw[cxK1])
  refine⟨_,rfl,_,_,rfl,rfl,(by show (0:Int)<1000000007;decide),_,_,rfl,rfl,.inr ⟨by decide,by decide⟩,_,rfl,_,_,rfl,rfl,_,rfl,_,_,rfl,rfl,_,_,rfl,rfl,.inl ⟨by omega,by omega⟩,_,_,rfl,rfl,.inr ⟨by decide,by decide⟩,_,_,rfl,rfl,_,_,rfl,rfl,(by show (0:Int)<2147483647;decide),?_⟩
  dsimp only
  have h1:=du (c % 1000000007*48271+(k+1)*(k+1)*69621) (show (2147483647:Int)≠0 by decide);have h2:=c9 (c % 1000000007*48271+(k+1)*(k+1)*69621) (show (0:Int)<2147483647 by decide);unfold Ef at q;exact⟨_,rfl,_,rfl,_,_,rfl,rfl,.inl ⟨by omega,by omega⟩,_,_,rfl,rfl,(by show (0:Int)<2147483629;decide),q⟩
theorem Ky {k:Nat}(h:k<=6):([97,98,99,100,101,102]:List Nat).take k=(bt k).map (97 + ·):=by
 have Z:∀ k:Nat,k<7->([97,98,99,100,101,102]:List Nat).take k=(bt k).map (97 + ·):=by decide
 exact Z k (by omega)
theorem Xj {k:Nat}(l:List (List Nat)):(l.flatMap λw=>(bt k).map λc=>w++[97+c]).length=l.length*k:=by
 induction l with
 | nil=>simp
 | cons a l ih=>rw[fi,ai,ih,aR,cq,ar,ib];omega
def vI:Sp:=λvs H Q _=>∃ Z kn:Nat,vs=[.int (Z:Nat),.int (kn:Nat)]∧((1<=kn∧kn<=6)∧Z<=24∧kn ^ Z<=4096)∧∀ D H',H D=none->aL H H'->H' D=some (.lst ((Wd.cQ kn Z).map T))->Q (.ref D) H'
theorem wK {f:Addr}{fd:wh}(F:Fun K "_law_words" "_law_words" kA f fd)(tt:Txt K mg ad):bI P w K mg base (CX2 P w) 1 f fd ["length", "kinds"] vI:=by
 refine F.okN2 dE (λvs H Q E h=>?_) (λcdv A outer s H vs Q E hr h=>?_)
 ·obtain⟨nn,kn,rfl,_⟩:=h
  rfl
 ·obtain⟨n,k,rfl,⟨hk,hn,wx⟩,q⟩:=h
  have hs:=AG;refine⟨_,(aB (aJ (i:=2) dE.nd rfl (Or.inl rfl) (dB (aA (cW [] (by decide +kernel)) aD)))
   (aB (cY PassesOwn.never rfl (fB (by rfl) tt.b_range (aA (pv 0) aD)) (bO (i:=3) dE.nd rfl (Or.inl rfl)) (aB (aJ (i:=4) dE.nd rfl (Or.inl rfl) (dB aD))
   (aB (cY PassesOwn.never rfl (cN (pv 2)) (bO (i:=5) dE.nd rfl (Or.inl rfl)) (aE (cY PassesOwn.never rfl (Mw (cD zS (cW [97,98,99,100,101,102] (by decide +kernel)) dA (cK (pv 1)))) (bO (i:=6) dE.nd rfl (Or.inl rfl)) (aE (eU (rS de h9 ia gE (pv 4) (aA (aN pJ (pv 5) (pv 6)) aD)))))))
   (aE (aJ (i:=2) dE.nd rfl (Or.inl rfl) (pv 4))))))
   (aE (aQ (pv 2))))),?_⟩
  (try rw[bZ]);(try rw[cxK1])
  refine⟨(by show 1<=sizeLine;omega),λp hp=>?_⟩;refine⟨_,rfl,_,rfl,by omega,by omega,?_⟩;rw[bj];refine fW (λi σ H2=>aL H H2∧∃ (D:Addr) (v1 v2 v3 Z:Option V),H D=none∧H2 D=some (.lst ((Wd.cQ k i).map T))∧σ=[some (.int (n:Nat)),some (.int (k:Nat)),some (.ref D),v1,v2,v3,Z])
   ⟨(λb o e=>by rw[aG (aI e hp)];exact e),p,none,none,none,none,hp,aC,rfl⟩ ?_ ?_
  ·rintro i σ H2 hi ⟨s2,D,v1,v2,v3,Z,hD,hd,rfl⟩
   have w4:k ^ i*k<=4096:=by
    rw[<- gr];exact a5 (dj (by omega) (by omega)) wx
   refine⟨(by show 0<=sizeLine;omega),λL hL=>?_⟩;have sA:aL H2 (upd H2 L (.lst [])):=aK hL;refine⟨_,rfl,D,rfl,⟨_,SqL.of (sA D _ hd)⟩,?_⟩;refine gN (K:=K) (a:=D) (xs:=(Wd.cQ k i).map T) (λj σ H3=>aL H2 H3∧∃ (v3 Z:Option V),H3 L=some (.lst ((((Wd.cQ k i).take j).flatMap λw=>(bt k).map λc=>w++[97+c]).map T))∧σ=[some (.int (n:Nat)),some (.int (k:Nat)),some (.ref D),some (.int (0+(i:Int))),some (.ref L),v3,Z])
    ⟨sA,_,_,aC,rfl⟩ (λj σ H3 _ h=>SqL.of (h.1 D _ hd)) ?_ ?_
   ·rintro j y σ H3 hj ⟨s3,v3,Z,mp,rfl⟩
    have or:j<(Wd.cQ k i).length:=by
     have:=(ao.mp hj).1
     rw[aR] at this;exact this
    have wp:(Wd.cQ k i)[j]?=some (Wd.cQ k i)[j]:=aa or;obtain rfl:y=T (Wd.cQ k i)[j]:=by
     rw[ah,wp] at hj;exact (av hj).symm
    have ww:((Wd.cQ k i)[j]).length=i:=((Wd.oN (by omega)).mp (dk or)).1;generalize (Wd.cQ k i)[j]=wd at wp ww hj;rw[Wd.jM] at or;refine⟨_,rfl,_,rfl,_,rfl,(by show 6<=sizeLine;omega),?_⟩;rw[Mf,Ky hk.2];refine⟨_,rfl,?_⟩;refine Ew (l:=(bt k).map (97 + ·)) (λm σ H4=>aL H2 H4∧∃ (Z:Option V),H4 L=some (.lst (((((Wd.cQ k i).take j).flatMap λw=>(bt k).map λc=>w++[97+c])++((((bt k).map (97 + ·)).take m).map λc=>wd++[c])).map T))∧σ=[some (.int (n:Nat)),some (.int (k:Nat)),some (.ref D),some (.int (0+(i:Int))),some (.ref L),some (T wd),Z])
     ⟨s3,Z,by rw[jc,lz,da];exact mp,rfl⟩ ?_ ?_
    ·rintro m c σ H4 hm ⟨s4,Z,gV,rfl⟩
     have wz:m<k:=by
      have:=(ao.mp hm).1
      rw[aR,cq] at this;exact this
     refine⟨_,rfl,.inl ⟨rfl,_,SqL.of gV⟩,_,rfl,_,rfl,_,rfl,_,rfl,(by show wd.length+1<=sizeLine;omega),L,_,_,rfl,rfl,gV,?_,?_⟩
     ·rw[aR,ai,Xj,aR,cj,cj,Wd.jM,aR,cq]
      have:min j (k ^ i)*k<=k ^ i*k:=gk _ (u4 _ _)
      omega
     ·refine⟨λb o e=>by rw[aG (aI e hL)];exact s4 b o e,some (T [c]),?_,rfl⟩
      rw[cn,hm];refine aC.trans ?_;simp
    ·rintro σ H4 ⟨s4,Z,gV,rfl⟩
     refine⟨s4,_,_,?_,rfl⟩;rw[gV,cr,cn,wp,sv,bv];simp
   ·rintro σ H3 ⟨s3,v3,Z,mp,rfl⟩
    rw[aR,cr,<- Wd.Mo k i (by omega)] at mp;refine⟨_,rfl,s2.trans s3,L,_,_,_,_,?_,mp,rfl⟩
    cases hq:H L with
    | none=>rfl
    | some o=>have:=s2 _ _ hq;rw[hL] at this;cases this
  ·rintro σ H2 ⟨s2,D,v1,v2,v3,Z,hD,hd,rfl⟩
   exact⟨_,rfl,q D H2 hD s2 hd⟩
def Co (K:ac):Sp:=λvs H Q _=>∃ (a:Addr) (ns:List Int) (m:Nat),vs=[.ref a,.int (m:Nat)]∧SqL K H a (ns.map V.int)∧(ns.length<=63∧1<=m∧m<=1000)∧∀ (D:Addr) (zs:List Int) (H':Hp),aL H H'->H' D=some (.lst (zs.map V.int))->zs.length=m->Q (.ref D) H'
theorem uT {f:Addr}{fd:wh}(F:Fun K "_law_folded" "_law_folded" iZ f fd)(tt:Txt K mg ad):bI P w K mg base (CX2 P w) 1 f fd ["script", "many"] (Co K):=by
 refine F.okN2 fJ (λvs H Q E h=>?_) (λcdv A outer s H vs Q E hr h=>?_)
 ·obtain⟨a,ns,m,rfl,_⟩:=h
  rfl
 ·obtain⟨a,ns,m,rfl,hS,⟨xa,w8,xb⟩,q⟩:=h
  have hs:=AG;refine⟨_,(aB (aJ (i:=2) fJ.nd rfl (Or.inl rfl) (aN Sy (dB (aA aH aD)) (pv 1)))
   (aB (cY PassesOwn.never rfl (fB (by rfl) tt.b_range (aA (aP aW (by rfl) tt.b_len bc (aA (pv 0) aD)) aD)) (bO (i:=3) fJ.nd rfl (Or.inl rfl)) (aB (aJ (i:=4) fJ.nd rfl (Or.inl rfl) (aN bY (cH bW (pv 0) (pv 3) (λ_ _=>rfl)) aH))
   (aE (Rx (aN bY (aN eA (aN eA (aN kF (cH bW (pv 2) (aN bY (pv 3) (pv 1)) (λ_ _=>rfl)) aH) (pv 4)) aH) aH) (Yj (pv 2) (aN bY (pv 3) (pv 1)) Rw)))))
   (aE (aQ (pv 2))))),?_⟩
  (try rw[bZ]);(try rw[cxK1])
  refine⟨(by show 1<=sizeLine;omega),λp1 w4=>?_⟩;have t1:=aK (o:=.lst [.int 0]) w4;refine⟨_,rfl,p1,m,_,rfl,rfl,SqL.of aC,⟨by omega,by show 1*m<=sizeLine;omega⟩,λD hD=>?_⟩;have t2:=t1.trans (aK (o:=.lst (cp m [V.int 0]).flatten) hD);have mp:∀ m:Nat,(cp m [V.int 0]).flatten=(cp m (0:Int)).map V.int:=λm=>by
   induction m with
   | zero=>rfl
   | succ m ih=>rw[fe,ji,ih,fe,ap];rfl
  rw[mp] at t2 ⊢;obtain⟨H2,wp,s2,hd2⟩:=Yh t2;rw[<- wp];refine⟨_,rfl,a,_,rfl,.inl (s2.seq hS),_,rfl,by omega,(by rw[aR];omega),?_⟩;rw[aR,bj];refine fW (λi σ H3=>aL H H3∧∃ (zs:List Int) (v3 v4:Option V),H3 D=some (.lst (zs.map V.int))∧zs.length=m∧σ=[some (.ref a),some (.int (m:Nat)),some (.ref D),v3,v4]) ⟨s2,_,none,none,hd2,ra ..,rfl⟩ ?_ ?_
  ·rintro i σ H3 hi ⟨s3,zs,v3,v4,Z,gV,rfl⟩
   obtain⟨w1,wx⟩:∃ w1,ns[i]?=some w1:=⟨_,aa hi⟩;have z0:=du ((i:Nat):Int) (show ((m:Nat):Int)≠0 by omega);have z1:=c9 ((i:Nat):Int) (show (0:Int)<((m:Nat):Int) by omega);obtain⟨j,hj⟩:∃ j:Nat,(0+((i:Nat):Int)) % ((m:Nat):Int)=(j:Int):=⟨((0+((i:Nat):Int)) % ((m:Nat):Int)).toNat,by rw[iz];omega⟩;have w6:j<m:=by rw[iz] at hj;omega
   obtain⟨w2,ww⟩:∃ w2,zs[j]?=some w2:=⟨_,aa (by omega)⟩;have wz:H D=none:=by
    cases e:H D with
    | none=>rfl
    | some o=>exact absurd ((t1 D o e).symm.trans hD) (λz=>nomatch z)
   have or:(0:Int)<((m:Nat):Int):=by omega
   refine⟨_,rfl,_,rfl,a,_,_,_,rfl,rfl,s3.seq hS,(by rw[iz];exact bL (by rw[ah,wx];rfl)),_,_,rfl,rfl,(by show (0:Int)<1000000007;decide),?_⟩;refine⟨_,rfl,_,rfl,_,rfl,_,_,rfl,rfl,or,D,_,_,_,rfl,rfl,SqL.of Z,(show atI _ ((0+((i:Nat):Int)) % ((m:Nat):Int))=_ by rw[hj];exact bL (by rw[ah,ww];rfl)),_,_,rfl,rfl,.inr ⟨by decide,by decide⟩,_,rfl,_,_,rfl,rfl,_,_,rfl,rfl,_,_,rfl,rfl,(by show (0:Int)<1000000007;decide),?_⟩;refine⟨_,rfl,_,rfl,_,rfl,_,_,rfl,rfl,or,D,_,_,j,rfl,rfl,Z,(show ixN _ ((0+((i:Nat):Int)) % ((m:Nat):Int))=_ by rw[hj];exact Tc (by rw[aR];omega)),?_⟩;rw[tL V.int];exact⟨λb o e=>by rw[aG (aI e wz)];exact s3 b o e,_,_,_,aC,by rw[j9];exact gV,rfl⟩
  ·rintro σ H3 ⟨s3,zs,v3,v4,Z,gV,rfl⟩
   exact⟨_,rfl,q D zs H3 s3 Z gV⟩
def Jp (K:ac):Sp:=λvs H Q _=>∃ (b:Addr) (Z:List (List Nat)) (c:Int),vs=[.ref b,.int c]∧H b=some (.lst (Z.map T))∧Z.length<=1000∧∀ (D:Addr) (us:List (List Nat)) (H':Hp),aL H H'->(D=b∨H D=none)->H' D=some (.lst (us.map T))->us.Sublist Z->(Z≠[]->us≠[])->Q (.ref D) H'
theorem nQ {f:Addr}{fd:wh}(F:Fun K "_law_by_digits" "_law_by_digits" fY f fd)(tt:Txt K mg ad):bI P w K mg base (CX2 P w) 1 f fd ["words", "part"] (Jp K):=by
 refine F.okN2 eC (λvs H Q E h=>?_) (λcdv A outer s H vs Q E hr h=>?_)
 ·obtain⟨b,ws,c,rfl,_⟩:=h
  rfl
 ·obtain⟨b,ws,c,rfl,mp,wx,q⟩:=h
  have hB:SqL K H b (ws.map T):=SqL.of mp;have hs:=AG;have hu:=ge (eD hr);refine⟨_,(aB (aJ (i:=2) eC.nd rfl (Or.inl rfl) (dB aD))
   (aB (cY PassesOwn.never rfl (cN (pv 0)) (bO (i:=3) eC.nd rfl (Or.inl rfl)) (aB (bR (aU eP (aN bY (pv 1) aH) aH (aY _)) (aE (eU (rS de h9 ia gE (pv 2) (aA (pv 3) aD)))) aV)
   (aE (aJ (i:=1) eC.nd rfl (Or.inl rfl) (aN dI (pv 1) aH)))))
   (aB (bR (aU (vT hu) (pv 2) (dB aD) (aY _)) (aE (aQ (pv 0))) aV)
   (aE (aQ (pv 2)))))),?_⟩
  (try rw[bZ]);(try rw[cxK1])
  refine⟨(by show 0<=sizeLine;omega),λD hD=>?_⟩;have sD:=aK (o:=.lst []) hD;refine⟨_,rfl,b,rfl,⟨_,sD.seq hB⟩,?_⟩;refine gN (K:=K) (a:=b) (xs:=ws.map T) (λi σ G=>aL H G∧∃ (us:List (List Nat)) (c':Int) (v3:Option V),G D=some (.lst (us.map T))∧us.Sublist (ws.take i)∧σ=[some (.ref b),some (.int c'),some (.ref D),v3])
   ⟨sD,[],c,none,aC,List.nil_sublist _,rfl⟩ (λi σ G _ h=>h.1.seq hB) ?_ ?_
  ·rintro i y σ G hi ⟨sG,us,c',v3,gV,Z,rfl⟩
   obtain⟨wd,wp,rfl⟩:∃ wd,ws[i]?=some wd∧T wd=y:=by rw[ah] at hi;exact bz.mp hi
   have htk:ws.take (i+1)=ws.take i++[wd]:=by rw[cn,wp];rfl
   have ww:us.length<=1000:=by have:=Z.length_le;rw[cj] at this;omega
   refine⟨_,rfl,_,_,rfl,rfl,(by show (0:Int)<2;decide),_,rfl,_,rfl,_,rfl,?_⟩;refine oW (λh1=>?_) (λh1=>?_)
   ·refine⟨_,rfl,.inl ⟨rfl,_,SqL.of gV⟩,_,rfl,D,_,_,rfl,rfl,gV,(by rw[aR];omega),?_⟩
    refine⟨_,rfl,_,_,rfl,rfl,⟨by decide,by decide⟩,?_⟩;refine⟨λb' o' e'=>by rw[aG (aI e' hD)];exact sG b' o' e',us++[wd],_,_,by rw[aC,a7];rfl,?_,rfl⟩;rw[htk];exact Z.append (ux _)
   ·refine⟨_,rfl,_,_,rfl,rfl,⟨by decide,by decide⟩,?_⟩
    refine⟨sG,us,_,_,gV,?_,rfl⟩;rw[htk];exact Z.trans (List.sublist_append_left ..)
  ·rintro σ G ⟨sG,us,c',v3,gV,Z,rfl⟩
   rw[aR,cr] at Z;refine⟨_,rfl,(by show 0<=sizeLine;omega),λE0 or=>?_⟩;have tE:=aK (o:=.lst []) or;refine⟨D,E0,us,[],rfl,rfl,SqL.of (tE D _ gV),SqL.of aC,_,rfl,?_⟩;by_cases he:us=[]
   ·refine itP (AE he) ?_
    exact⟨_,rfl,q b ws _ (sG.trans tE) (.inl rfl) ((sG.trans tE) b _ mp) (ux _) id⟩
   ·refine itN (λz=>he (AF z)) ?_
    exact⟨_,rfl,q D us _ (sG.trans tE) (.inr hD) (tE D _ gV) Z λ_=>he⟩
theorem Lo (c:Nat):Wd.Cc (c+1)=Wd.Cc c++[97+c]:=by
 unfold Wd.Cc;rw[ll,a7];rfl
theorem Rm {os:List Nat}{c m:Nat}(h:os.Perm (Wd.Cc c)):(os.take m++(97+c)::os.drop m).Perm (Wd.Cc (c+1)):=by
 rw[Lo];refine List.perm_middle.trans ?_;rw[ki];exact (h.cons _).trans (oo _ _).symm
theorem Sl {os:List Nat}{x m:Nat}:((os.map λc=>[c]).map T).take m++T [x]::((os.map λc=>[c]).map T).drop m=(((os.take m++x::os.drop m).map λc=>[c]).map T):=by
 rw[a7,a7,ap,ap,jq,jq,i7,i7]
theorem aAT {E kn c j:Nat}(Z:c<kn)(hj:j<E):c*E+j<E*kn:=by
 have:(c+1)*E<=kn*E:=gk _ Z
 rw[l6] at this;rw[c7 E kn];omega
theorem Ep (k:Nat):(Wd.Cc k).length=k:=by rw[Wd.Cc,aR,cq]
def Beh (kn Z:Nat)(kvs:List (Key×V))(S:List Nat->Prop):Prop:=(∀ x v,dF kvs (cf (tx x))=some v->∃ y∈Wd.cQ kn Z,v=T y)∧∀ x∈Wd.cQ kn Z,S x->(dF kvs (cf (tx x))).isSome=true
theorem Beh.put {kn nn:Nat}{kvs:List (Key×V)}{S:List Nat->Prop}{x y:List Nat}(h:Beh kn nn kvs S)(hy:y∈Wd.cQ kn nn):Beh kn nn (fE kvs (cf (tx x)) (T y)) λz=>S z∨z=x:=by
 refine⟨λz v Z=>?_,λz hz hs=>?_⟩
 ·rw[Eb] at Z
  by_cases e:(cf (tx z):Key)=cf (tx x)
  ·rw[AD e] at Z
   exact⟨y,hy,(av Z).symm⟩
  ·rw[AC e] at Z
   exact h.1 z v Z
 ·rw[Eb]
  by_cases e:(cf (tx z):Key)=cf (tx x)
  ·rw[AD e]
   rfl
  ·rw[AC e]
   rcases hs with hs | hs
   ·exact h.2 z hz hs
   ·exact absurd (by rw[hs]) e
theorem Tb {kvs:List (Key×V)}{k:Key}{v:V}:(fE kvs k v).length<=kvs.length+1:=by
 unfold fE;split
 ·rw[aR];omega
 ·rw[ai];exact af _
def Vk (K:ac):Sp:=λvs H Q _=>∃ (a b:Addr) (ns:List Int) (Z kn:Nat),vs=[.ref a,.ref b,.int (Z:Nat),.int (kn:Nat)]∧SqL K H a (ns.map V.int)∧ns.length<=63∧SqL K H b ((Wd.cQ kn Z).map T)∧((1<=kn∧kn<=6)∧1<=Z∧Z<=8∧kn ^ Z<=64) ∧
 ∀ (D:Addr) (kvs:List (Key×V)) (H':Hp),aL H H'->H' D=some (.dK kvs)->(∀ x∈Wd.cQ kn Z,∃ y∈Wd.cQ kn Z,dF kvs (cf (tx x))=some (T y))->Q (.ref D) H'
theorem vJ {f:Addr}{fd:wh}(F:Fun K "_law_behind" "_law_behind" jA f fd)(tt:Txt K mg ad)(or:Cal P w K mg base (CX2 P w) "_law_power" 1 ["base", "many"] Wf)(gV:Cal P w K mg base (CX2 P w) "_law_folded" 1 ["script", "many"] (Co K))(ww:Cal P w K mg base (CX2 P w) "_law_stir" 1 ["cell", "k"] Bj) :
  bI P w K mg base (CX2 P w) 2 f fd ["script", "words", "length", "kinds"] (Vk K):=by
 refine F.okN2 bN (λvs H Q E h=>?_) (λcdv A outer s H vs Q E hr h=>?_)
 ·obtain⟨a,b,ns,nn,kn,rfl,_⟩:=h
  rfl
 ·obtain⟨a,b,ns,nn,kn,rfl,hS,xf,hB,⟨hk,x8,yd,yb⟩,q⟩:=h
  have hs:=AG;have hE:kn ^ (nn-1)*kn=kn ^ nn:=by rw[<- gr,show (nn-1).succ=nn by omega]
  have xb:0<kn ^ (nn-1):=lr (by omega);have ya:(Wd.cQ kn nn).length=kn ^ nn:=Wd.jM ..;refine⟨_,(aB (aJ (i:=4) bN.nd rfl (Or.inl rfl) (aM or hr aS (aA (pv 3) (aA (aN iA (pv 2) aH) aD))))
   (aB (aJ (i:=5) bN.nd rfl (Or.inl rfl) (aM gV hr aS (aA (pv 0) (aA (pv 4) aD))))
   (aB (aJ (i:=6) bN.nd rfl (Or.inl rfl) vN)
   (aB (cY PassesOwn.never rfl (fB (by rfl) tt.b_range (aA (pv 4) aD)) (bO (i:=7) bN.nd rfl (Or.inl rfl)) (aB (aJ (i:=8) bN.nd rfl (Or.inl rfl) (dB aD))
   (aB (aJ (i:=9) bN.nd rfl (Or.inl rfl) (aM ww hr aS (aA (cH bW (pv 5) (pv 7) (λ_ _=>rfl)) (aA (pv 7) aD))))
   (aB (cY PassesOwn.never rfl (fB (by rfl) tt.b_range (aA (pv 3) aD)) (bO (i:=10) bN.nd rfl (Or.inl rfl)) (aB (eU (rS de PySem.F.slot_list_insert PySem.F.type_list_insert Kw (pv 8) (aA (aN bY (aN dI (pv 9) aH) (aN eA (pv 10) aH)) (aA (cH Ty (cW [97,98,99,100,101,102] (by decide +kernel)) (pv 10) (λ_ _=>rfl)) aD))))
   (aE (aJ (i:=9) bN.nd rfl (Or.inl rfl) (aN dI (aN dI (pv 9) aH) (aN eA (pv 10) aH))))))
   (aE (cY PassesOwn.never rfl (fB (by rfl) tt.b_range (aA (pv 3) aD)) (bO (i:=10) bN.nd rfl (Or.inl rfl)) (aB (aJ (i:=11) bN.nd rfl (Or.inl rfl) (cH bW (pv 1) (aN eA (aN kF (pv 10) (pv 4)) (pv 7)) (λ_ _=>rfl)))
   (aE (tI (eD hr) (pv 6) (pv 11) (aN pJ (cD zS (pv 11) (cK aH) dA) (cH bW (pv 8) (pv 10) (λ_ _=>rfl))) rfl)))))))))
   (aE (aQ (pv 6))))))),?_⟩
  (try rw[bZ]);(try rw[cxK1])
  refine⟨_,rfl,_,rfl,_,_,rfl,rfl,kn,nn-1,(by show [V.int (kn:Nat),V.int (((nn:Nat):Int)-1)]=_;rw[show ((nn:Nat):Int)-1=((nn-1:Nat):Int) by omega]),⟨by omega,by omega⟩,?_⟩
  dsimp only
  generalize kn ^ (nn-1)=E at hE xb ⊢;have xx:E<=64:=a5 (Nat.le_mul_of_pos_right E hk.1) (by omega);refine⟨_,rfl,_,rfl,a,ns,E,rfl,hS,⟨xf,by omega,by omega⟩,λC zs H1 s1 xi x9=>?_⟩;refine λD hD=>?_
  have t1:=aK (o:=.dK []) hD;have xt:H D=none:=fZ s1 hD;refine⟨_,rfl,_,rfl,by omega,by omega,?_⟩;rw[bj];refine fW (λj σ H3=>aL H H3∧H3 C=some (.lst (zs.map V.int))∧∃ (kvs:List (Key×V)) (v7 v8 v9 Z wp:Option V),H3 D=some (.dK kvs)∧kvs.length<=j*kn∧Beh kn nn kvs (λx=>∃ c i,c<kn∧i<j∧(Wd.cQ kn nn)[c*E+i]?=some x)∧σ=[some (.ref a),some (.ref b),some (.int (nn:Nat)),some (.int (kn:Nat)),some (.int (E:Nat)),some (.ref C),some (.ref D),v7,v8,v9,Z,wp])
   ⟨s1.trans t1,t1 C _ xi,[],none,none,none,none,none,aC,cc _,⟨(λx v hv=>by cases hv),λx _ ⟨c,i,_,h,_⟩=>absurd h (by omega)⟩,rfl⟩ ?_ ?_
  ·rintro j σ H3 hj ⟨s3,c3,kvs,v7,v8,v9,Z,wp,d3,xr,wz,rfl⟩
   refine⟨(by show 0<=sizeLine;omega),λO hO=>?_⟩;have t5:=aK (o:=.lst []) hO;have xg:O≠D:=λz=>by rw[z,d3] at hO;cases hO
   obtain⟨zj,xh⟩:∃ zj,zs[j]?=some zj:=⟨_,aa (by omega)⟩;refine⟨_,rfl,_,rfl,C,_,_,_,rfl,rfl,SqL.of (t5 C _ c3),(by rw[iz];exact bL (by rw[ah,xh];rfl)),_,rfl,_,_,rfl,⟨by omega,by omega⟩,?_⟩;generalize Ef zj (0+((j:Nat):Int))=pt;refine⟨_,rfl,_,rfl,by omega,by omega,?_⟩;rw[bj];have o7:upd H3 O (.lst []) O=some (.lst []):=aC;generalize upd H3 O (.lst [])=H4 at t5 o7;refine fW (λc σ H5=>(∀ b o,b≠O->H4 b=some o->H5 b=some o)∧∃ (os:List Nat) (pt:Int) (Z:Option V),os.Perm (Wd.Cc c)∧H5 O=some (.lst ((os.map λc=>[c]).map T))∧σ=[some (.ref a),some (.ref b),some (.int (nn:Nat)),some (.int (kn:Nat)),some (.int (E:Nat)),some (.ref C),some (.ref D),some (.int (0+((j:Nat):Int))),some (.ref O),some (.int pt),Z,wp])
    ⟨λb o _ e=>e,[],pt,_,ej _,o7,rfl⟩ ?_ ?_
   ·rintro c σ H5 hc ⟨k5,os,pt,Z,mp,o5,rfl⟩
    have xc:os.length=c:=by rw[mp.length_eq,Ep]
    obtain⟨m,hm,xl⟩:∃ m:Nat,pt/7 % (0+((c:Nat):Int)+1)=(m:Int)∧m<=c:=⟨(pt/7 % (0+((c:Nat):Int)+1)).toNat,by have:=du (pt/7) (show 0+((c:Nat):Int)+1≠0 by omega);omega,by have:=du (pt/7) (show 0+((c:Nat):Int)+1≠0 by omega);have:=c9 (pt/7) (show 0<0+((c:Nat):Int)+1 by omega);omega⟩;have xq:atI [97,98,99,100,101,102] (0+((c:Nat):Int))=some (97+c):=by
     have:∀ k:Nat,k<6->([97,98,99,100,101,102]:List Nat)[k]?=some (97+k):=by decide
     rw[iz];exact bL (this c (by omega))
    refine⟨_,rfl,.inl ⟨rfl,_,SqL.of o5⟩,_,rfl,_,_,rfl,rfl,⟨by decide,by decide⟩,_,rfl,_,_,rfl,rfl,_,_,rfl,rfl,(by show (0:Int)<0+((c:Nat):Int)+1;omega),_,rfl,_,rfl,_,rfl,(by show 6<=sizeLine;omega),_,xq,O,_,m,T [97+c],rfl,(by show [V.int (pt/7 % (0+((c:Nat):Int)+1)),T [97+c]]=_;rw[hm]),o5,(by rw[aR,aR,xc];exact xl),(by rw[aR,aR];omega),?_⟩;rw[Sl];refine⟨_,rfl,_,_,rfl,rfl,⟨by decide,by decide⟩,_,rfl,_,_,rfl,rfl,_,_,rfl,rfl,⟨by show (0:Int)<0+((c:Nat):Int)+1;omega,by show 0+((c:Nat):Int)+1<_;omega⟩,?_⟩;exact⟨λb o hb e=>by rw[aG hb];exact k5 b o hb e,_,_,_,Rm mp,aC,rfl⟩
   ·rintro σ H5 ⟨k5,os,pt,Z,mp,o5,rfl⟩
    have xc:os.length=kn:=by rw[mp.length_eq,Ep]
    have xk:∀ b o,H3 b=some o->b≠O:=λb o e z=>by rw[z,hO] at e;cases e
    have w8:aL H3 H5:=λb o e=>k5 b o (xk b o e) (t5 b o e)
    refine⟨_,rfl,_,rfl,by omega,by omega,?_⟩;rw[bj];refine fW (λc σ H6=>aL H H6∧H6 C=some (.lst (zs.map V.int))∧H6 O=some (.lst ((os.map λc=>[c]).map T))∧∃ (kvs:List (Key×V)) (Z wp:Option V),H6 D=some (.dK kvs)∧kvs.length<=j*kn+c∧Beh kn nn kvs (λx=>(∃ c i,c<kn∧i<j∧(Wd.cQ kn nn)[c*E+i]?=some x)∨∃ c',c'<c∧(Wd.cQ kn nn)[c'*E+j]?=some x)∧σ=[some (.ref a),some (.ref b),some (.int (nn:Nat)),some (.int (kn:Nat)),some (.int (E:Nat)),some (.ref C),some (.ref D),some (.int (0+((j:Nat):Int))),some (.ref O),some (.int pt),Z,wp])
     ⟨s3.trans w8,w8 C _ c3,o5,kvs,Z,wp,w8 D _ d3,by omega,⟨wz.1,λx hx h=>h.elim (wz.2 x hx) λ⟨c',h,_⟩=>absurd h (by omega)⟩,rfl⟩ ?_ ?_
    ·rintro c σ H6 hc ⟨s6,c6,o6,kvs,Z,wp,d6,w4,wx,rfl⟩
     obtain⟨x,hx⟩:∃ x,os[c]?=some x:=⟨_,aa (by omega)⟩;have yc:=aAT (E:=E) hc hj;have xy:c*E<=64:=by omega
     obtain⟨wd,xa⟩:∃ wd,(Wd.cQ kn nn)[c*E+j]?=some wd:=⟨_,aa (by omega)⟩;have xu:=ay xa;obtain⟨xz,xw⟩:=(Wd.oN (by omega)).mp xu;have xj:97<=x∧x<97+kn:=by
      have h1:=mp.mem_iff.mp (ay hx);obtain⟨r,h2,h3⟩:=aw.mp h1
      have:=ck.mp h2
      omega
     have w6:wd.drop 1++[x]∈Wd.cQ kn nn:=(Wd.oN (by omega)).mpr ⟨by rw[ai,bu];show _+1=nn;omega,λd hd=>(br.mp hd).elim (λh=>xw d (m9 h)) λh=>by rw[ax.mp h];exact xj⟩;refine⟨_,rfl,_,rfl,_,rfl,_,_,rfl,rfl,.inl ⟨by omega,by omega⟩,_,rfl,_,_,rfl,rfl,b,_,_,_,rfl,rfl,s6.seq hB,(show atI _ ((0+((c:Nat):Int))*((E:Nat):Int)+(0+((j:Nat):Int)))=some (T wd) by rw[iz,iz,<- fo,<- kc];exact bL (by rw[ah,xa];rfl)),?_⟩;have ce:gX wd (some 1) none=wd.drop 1:=xP (k:=1) (by omega);refine⟨_,rfl,_,rfl,_,rfl,(by omega),?_⟩;rw[ce];refine⟨_,rfl,_,rfl,O,_,_,_,rfl,rfl,SqL.of o6,(by rw[iz];exact bL (by rw[ah,ah,hx];rfl)),_,rfl,_,rfl,(by rw[bu];show _+1<=sizeLine;omega),?_⟩;have x6:j*kn<=E*kn:=gk _ (iw hj);refine⟨_,rfl,_,rfl,D,_,rfl,wM.k (k:=cf (tx wd)) d6 (by omega),?_⟩;have xp:C≠D:=λz=>by rw[z,d6] at c6;cases c6
     refine⟨λb' o' e'=>by rw[aG (aI e' xt)];exact s6 b' o' e',by rw[aG xp];exact c6,by rw[aG xg];exact o6,_,_,_,aC,a5 Tb (by omega),⟨(wx.put w6).1,λz hz h=>(wx.put (x:=wd) w6).2 z hz ?_⟩,rfl⟩;rcases h with h | ⟨c',h1,h2⟩
     ·exact .inl (.inl h)
     ·rcases fh c' c with h3 | h3
      ·exact .inl (.inr ⟨c',h3,h2⟩)
      ·obtain rfl:c'=c:=by omega
       rw[xa] at h2;exact .inr (av h2).symm
    ·rintro σ H6 ⟨s6,c6,o6,kvs,Z,wp,d6,w4,wx,rfl⟩
     refine⟨s6,c6,kvs,_,_,_,_,_,d6,by rw[ib,ie];exact w4,⟨wx.1,λx hx ⟨c,i,hc,hi,e⟩=>wx.2 x hx ?_⟩,rfl⟩;rcases fh i j with h | h
     ·exact .inl ⟨c,i,hc,h,e⟩
     ·obtain rfl:i=j:=by omega
      exact .inr ⟨c,hc,e⟩
  ·rintro σ H3 ⟨s3,c3,kvs,v7,v8,v9,Z,wp,d3,xr,wz,rfl⟩
   refine⟨_,rfl,q D kvs H3 s3 d3 λx hx=>?_⟩;obtain⟨m,xo,xm⟩:=List.mem_iff_getElem.mp hx;have h1:=wz.2 x hx ⟨m/E,m % E,sh (by omega),jn _ xb,by rw[Nat.div_add_mod' m E,aa xo,xm]⟩;obtain⟨v,hv⟩:=g7.mp h1;obtain⟨y,hy,rfl⟩:=wz.1 x v hv;exact⟨y,hy,hv⟩
def Jx (K:ac):Sp:=λvs H Q _=>∃ (a:Addr) (ns:List Int) (c:Int) (Z kn:Nat),vs=[.ref a,.int c,.int (Z:Nat),.int (kn:Nat)]∧SqL K H a (ns.map V.int)∧ns.length<=63∧((1<=kn∧kn<=6)∧1<=Z∧Z<=8∧kn ^ Z<64) ∧
 ∀ (D:Addr) (us:List (List Nat)) (H':Hp),aL H H'->H D=none->H' D=some (.lst (us.map T))->us≠[]->us.Pairwise (· < ·)->(∀ x∈us,x∈Wd.cQ kn Z)->Q (.ref D) H'
theorem mZ {f:Addr}{fd:wh}(F:Fun K "_law_even_words" "_law_even_words" fM f fd)(tt:Txt K mg ad)(or:Cal P w K mg base (CX2 P w) "_law_words" 1 ["length", "kinds"] vI)(gV:Cal P w K mg base (CX2 P w) "_law_by_digits" 1 ["words", "part"] (Jp K))(mp:Cal P w K mg base (CX2 P w) "_law_behind" 2 ["script", "words", "length", "kinds"] (Vk K))(wp:Cal P w K mg base (CX2 P w) "_law_stir" 1 ["cell", "k"] Bj) :
  bI P w K mg base (CX2 P w) 3 f fd ["script", "n", "length", "kinds"] (Jx K):=by
 refine F.okN2 bC (λvs H Q E h=>?_) (λcdv A outer s H vs Q E hr h=>?_)
 ·obtain⟨a,ns,c,nn,kn,rfl,_⟩:=h
  rfl
 ·obtain⟨a,ns,c,nn,kn,rfl,hS,xz,⟨hk,ye,yk,yt⟩,q⟩:=h
  have hs:=AG;have hu:=ge (eD hr);have xj:(Wd.cQ kn nn).length=kn ^ nn:=Wd.jM ..;have w8:=Wd.rR (k:=kn) (n:=nn) (by omega);have yp:(Wd.cQ kn nn).Nodup:=w8.imp λh e=>absurd (e▸h) (gf _)
  have xc:Wd.cQ kn nn≠[]:=λz=>by
   rw[z] at xj
   have:0<kn ^ nn:=lr (by omega)
   rw[<- xj] at this;exact absurd this (by decide)
  refine⟨_,(aB (aJ (i:=4) bC.nd rfl (Or.inl rfl) (aM or hr aS (aA (pv 2) (aA (pv 3) aD))))
   (aB (bR (aU eP (aN bY (cH bW (aN lY (pv 0) (dB (aA aH aD))) aH (λ_ _=>rfl)) aH) aH (aY _)) (aE (aQ (aM gV hr aS (aA (pv 4) (aA (aN dI (cH bW (pv 0) aH (λ_ _=>rfl)) aH) aD))))) aV)
   (aB (aJ (i:=5) bC.nd rfl (Or.inl rfl) (aM mp hr aS (aA (pv 0) (aA (pv 4) (aA (pv 2) (aA (pv 3) aD))))))
   (aB (aJ (i:=6) bC.nd rfl (Or.inl rfl) (dB aD))
   (aB (aJ (i:=7) bC.nd rfl (Or.inl rfl) vN)
   (aB (aJ (i:=8) bC.nd rfl (Or.inl rfl) (aN dI (aM wp hr aS (aA (pv 1) (aA aH aD))) aH))
   (aB (cY PassesOwn.never rfl (cN (pv 4)) (bO (i:=9) bC.nd rfl (Or.inl rfl)) (aB (aJ (i:=10) bC.nd rfl (Or.inl rfl) (iM pP (aN bY (pv 8) aH) aH (aY _)))
   (aB (bR (kX (yU (eD hr) (pv 9) (pv 7))) (aE (aJ (i:=8) bC.nd rfl (Or.inl rfl) (aN dI (pv 8) aH))) aV)
   (aE (lI PassesOwn.never (kX (yU (eD hr) (pv 9) (pv 7))) (aB (tI (eD hr) (pv 7) (pv 9) lM rfl)
   (aB (bR (qK (pv 10)) (aE (eU (rS de h9 ia gE (pv 6) (aA (pv 9) aD)))) aV)
   (aE (aJ (i:=9) bC.nd rfl (Or.inl rfl) (tK (eD hr) (pv 5) (pv 9) (λ_ _=>rfl)))))))))))
   (aB (bR (aU (vT hu) (pv 6) (dB aD) (aY _)) (aE (aQ (pv 4))) aV)
   (aE (aQ (aP fP (by rfl) tt.b_sorted fb (aA (pv 6) aD)))))))))))),?_⟩
  (try rw[bZ]);(try rw[cxK1])
  refine⟨_,rfl,_,rfl,nn,kn,rfl,⟨hk,by omega,by omega⟩,λW H1 hW s1 x8=>?_⟩;obtain⟨z0,yo,yd⟩:∃ z0:Int,atI (ns.map V.int++[V.int 0]) 0=some (V.int z0)∧(z0 % 2=1->atI (ns.map V.int) 0=some (V.int z0)):=by
   cases ns with
   | nil=>exact⟨0,bL (j:=0) rfl,λz=>absurd z (by decide)⟩
   | cons n ns=>exact⟨n,bL (j:=0) rfl,λ_=>bL (j:=0) rfl⟩
  refine⟨_,rfl,(by show 1<=sizeLine;omega),λp2 ya=>?_⟩;have t2:=aK (o:=.lst [.int 0]) ya;refine⟨a,p2,_,_,rfl,rfl,(s1.trans t2).seq hS,SqL.of aC,(by rw[aR];show ns.length+1<=sizeLine;omega),λp3 yh=>⟨p3,_,_,_,rfl,rfl,SqL.of aC,yo,?_⟩⟩;have t3:=t2.trans (aK (o:=.lst (ns.map V.int++[V.int 0])) yh);generalize upd (upd H1 p2 (.lst [.int 0])) p3 (.lst (ns.map V.int++[V.int 0]))=H3 at t3 ⊢;have wz:=s1.trans t3;have xm:=t3 W _ x8;refine⟨_,_,rfl,rfl,(by show (0:Int)<2;decide),_,rfl,_,rfl,_,rfl,?_⟩;refine oW (λh=>?_) (λh=>?_)
  ·refine⟨_,rfl,_,rfl,a,_,_,_,rfl,rfl,wz.seq hS,yd (AF h),_,_,rfl,rfl,⟨by decide,by decide⟩,W,_,_,rfl,xm,(by omega),λD us H4 s4 x9 ww xb yf=>?_⟩
   exact q D us H4 (wz.trans s4) (x9.elim (λz=>z▸hW) λz=>fZ wz z) ww (yf xc) (w8.sublist xb) λx hx=>xb.subset hx
  refine⟨_,rfl,_,rfl,_,rfl,_,rfl,a,W,ns,nn,kn,rfl,wz.seq hS,xz,SqL.of xm,⟨hk,ye,yk,by omega⟩,λB kvs H4 s4 ww xr=>?_⟩;refine⟨(by show 0<=sizeLine;omega),λKp x6=>?_⟩;have t5:=aK (o:=.lst []) x6;refine λM hM=>?_
  have t6:=aK (o:=.dK []) hM;have xu:upd (upd H4 Kp (.lst [])) M (.dK []) Kp=some (.lst []):=t6 Kp _ aC;have xo:upd (upd H4 Kp (.lst [])) M (.dK []) M=some (.dK []):=aC;have xi:=t5.trans t6;have xy:H4 Kp=none:=x6;have yn:H4 M=none:=fZ t5 hM;have xw:Kp≠M:=λz=>by rw[<- z,aC] at hM;cases hM
  generalize upd (upd H4 Kp (.lst [])) M (.dK [])=H6 at xu xo xi
  let Ev:Hp->List (List Nat)->List (List Nat)->Prop:=λG ks us=>aL H4 G∧G M=some (.dK (tKs ks (.bl true)))∧ks.Nodup∧(∀ x∈ks,x∈Wd.cQ kn nn)∧G Kp=some (.lst (us.map T))∧us.Nodup∧∀ x∈us,x∈ks
  have xl:∀ {ks:List (List Nat)},ks.Nodup->(∀ x∈ks,x∈Wd.cQ kn nn)->ks.length<=kn ^ nn:=λh1 h2=>by rw[<- xj];exact h1.length_le_of_subset h2
  refine⟨_,rfl,_,_,rfl,⟨by decide,by decide⟩,_,_,rfl,rfl,⟨by decide,by decide⟩,?_⟩;generalize Ef c 50=pt;have xk:=s4 W _ xm;refine⟨_,rfl,W,rfl,⟨_,SqL.of (xi W _ xk)⟩,?_⟩;refine gN (K:=K) (a:=W) (xs:=(Wd.cQ kn nn).map T) (λi σ G=>∃ (ks us:List (List Nat)) (pt:Int) (v9 xf:Option V),Ev G ks us∧σ=[some (.ref a),some (.int c),some (.int (nn:Nat)),some (.int (kn:Nat)),some (.ref W),some (.ref B),some (.ref Kp),some (.ref M),some (.int pt),v9,xf])
   ⟨[],[],_,none,none,⟨xi,xo,il,(λx hx=>by cases hx),xu,il,λx hx=>by cases hx⟩,rfl⟩ (λi σ G _ ⟨_,_,_,_,_,h,_⟩=>SqL.of (h.1 W _ xk)) ?_ ?_
  ·rintro i y σ G hi ⟨ks,us,pt,v9,xf,xa,rfl⟩
   obtain⟨x,yj,rfl⟩:∃ x,(Wd.cQ kn nn)[i]?=some x∧T x=y:=by rw[ah] at hi;exact bz.mp hi
   have yg:=ay yj;refine⟨_,rfl,_,_,rfl,rfl,(by show (0:Int)<4;decide),_,_,rfl,rfl,?_⟩;have yu:=xl xa.2.2.1 xa.2.2.2.1;refine⟨_,rfl,_,rfl,M,_,rfl,jO.k (k:=cf (tx x)) xa.2.1,_,rfl,?_⟩;rw[pC];by_cases hx:x∈ks;rw[AD hx];refine oE ?_
   rotate_left
   rw[AC hx];refine oQ ?_;refine⟨_,rfl,_,_,rfl,rfl,⟨by decide,by decide⟩,?_⟩
   all_goals
    refine⟨λm σ G2=>∃ (ks us:List (List Nat)) (w6:Int) (x2:List Nat),m+ks.length=kn ^ nn∧Ev G2 ks us∧x2∈Wd.cQ kn nn∧σ=[some (.ref a),some (.int c),some (.int (nn:Nat)),some (.int (kn:Nat)),some (.ref W),some (.ref B),some (.ref Kp),some (.ref M),some (.int w6),some (T x2),some (.bl (decide ((0:Int)<pt % 4)))],
     ⟨kn ^ nn-ks.length,ks,us,_,x,by omega,xa,yg,rfl⟩,?_⟩
    rintro m σ G2 ⟨Z,wx,w6,x2,hm,w4,xt,rfl⟩;refine⟨_,rfl,_,rfl,M,_,rfl,jO.k (k:=cf (tx x2)) w4.2.1,_,rfl,?_⟩;rw[pC];by_cases hx3:x2∈Z
    ·rw[AD hx3]
     refine oE ?_;exact⟨Z,wx,w6,_,_,w4,rfl⟩
    rw[AC hx3];refine oQ ?_;refine⟨_,λσ' H' z=>z,?_⟩;obtain⟨e1,e2,e3,e4,e5,e6,e7⟩:=w4;have xg:(Z++[x2]).Nodup:=fg.mpr ⟨e3,by simp,λa' ha d hd e=>hx3 (by rw[<- ax.mp hd,<- e];exact ha)⟩;have xh:∀ z∈Z++[x2],z∈Wd.cQ kn nn:=λz hz=>(br.mp hz).elim (e4 z) λh=>by rw[ax.mp h];exact xt
    have xp:=xl xg xh;rw[ai] at xp;have yr:Z.length+1<=kn ^ nn:=xp;have yi:wx.length<=Z.length:=e6.length_le_of_subset e7;refine⟨_,rfl,_,rfl,M,_,rfl,wM.k (k:=cf (tx x2)) e2 (by rw[kB];omega),?_⟩;rw[nY,show Hg.nN Z x2=Z++[x2] from AC hx3];have g1:aL H4 (upd G2 M (.dK (tKs (Z++[x2]) (.bl true)))):=λb' o' e'=>by rw[aG (aI e' yn)];exact e1 b' o' e'
    have g2:upd G2 M (.dK (tKs (Z++[x2]) (.bl true))) M=some (.dK (tKs (Z++[x2]) (.bl true))):=aC;have g3:upd G2 M (.dK (tKs (Z++[x2]) (.bl true))) Kp=some (.lst (wx.map T)):=by rw[aG xw];exact e5
    generalize upd G2 M (.dK (tKs (Z++[x2]) (.bl true)))=G3 at g1 g2 g3;obtain⟨y2,xx,xq⟩:=xr x2 xt;refine⟨_,rfl,_,rfl,?_⟩;refine oW (λym=>?_) (λym=>?_)
    ·refine⟨_,rfl,.inl ⟨rfl,_,SqL.of g3⟩,_,rfl,Kp,_,_,rfl,rfl,g3,(by rw[aR];omega),?_⟩
     have yc:upd G3 Kp (.lst (wx.map T++[T x2])) B=some (.dK kvs):=by rw[aG (λz=>by rw[z,xy] at ww;cases ww)];exact g1 B _ ww
     refine⟨_,rfl,_,rfl,B,_,rfl,(by have y:=jO.k (k:=cf (tx x2)) yc;rw[xq] at y;exact y),?_⟩;refine⟨m-1,by omega,Z++[x2],wx++[x2],w6,y2,by rw[ai];show m-1+(Z.length+1)=_;omega,⟨λb' o' e'=>by rw[aG (aI e' xy)];exact g1 b' o' e',by rw[aG xw.symm];exact g2,xg,xh,by rw[aC,a7];rfl,fg.mpr ⟨e6,by simp,λa' ha d hd e=>hx3 (by rw[<- ax.mp hd,<- e];exact e7 a' ha)⟩,λz hz=>(br.mp hz).elim (λh=>gj _ (e7 z h)) λh=>bf _ h⟩,xx,rfl⟩
    ·refine⟨_,rfl,_,rfl,B,_,rfl,(by have y:=jO.k (k:=cf (tx x2)) (g1 B _ ww);rw[xq] at y;exact y),?_⟩
     exact⟨m-1,by omega,Z++[x2],wx,w6,y2,by rw[ai];show m-1+(Z.length+1)=_;omega,⟨g1,g2,xg,xh,g3,e6,λz hz=>gj _ (e7 z hz)⟩,xx,rfl⟩
  ·rintro σ G ⟨ks,us,pt,v9,xf,⟨e1,e2,e3,e4,e5,e6,e7⟩,rfl⟩
   have s0:=wz.trans (s4.trans e1);refine⟨_,rfl,(by show 0<=sizeLine;omega),λE0 yb=>?_⟩;have tE:=aK (o:=.lst []) yb;refine⟨Kp,E0,us,[],rfl,rfl,SqL.of (tE Kp _ e5),SqL.of aC,_,rfl,?_⟩;by_cases he:us=[]
   ·refine itP (AE he) ?_
    exact⟨_,rfl,q W _ _ (s0.trans tE) hW (tE W _ (e1 W _ xk)) xc w8 λx hx=>hx⟩
   ·refine itN (λz=>he (AF z)) ?_
    have yi:us.length<=ks.length:=e6.length_le_of_subset e7;have yq:=xl e3 e4;refine⟨_,rfl,Kp,us,rfl,SqL.of (tE Kp _ e5),(by omega),λms D hD hp hw=>?_⟩;exact q D ms _ (s0.trans (tE.trans (aK hD))) (fZ (s0.trans tE) hD) aC (λz=>he (a8.mp (by rw[<- hp.length_eq,z];rfl))) (Dt.Ro (hp.nodup_iff.mpr e6) hw) λx hx=>e4 x (e7 x (hp.mem_iff.mp hx))
def gM (x:Addr)(t:List Nat):List (Str×V):=dY "text" (T t) (dY "web" (.ref x) [])
theorem lW (x:Addr)(t:List Nat):(gM x t).lookup ("web" : Str)=some (.ref x):=by
 unfold gM;rw[cR,AC (by decide +kernel),cR,AD rfl]
theorem jT (x:Addr)(t:List Nat):(gM x t).lookup ("text" : Str)=some (T t):=by
 unfold gM;rw[cR,AD rfl]
theorem bT (x:Addr)(t:List Nat){m:Str}(h1:¬ m=("web" : Str):=by decide +kernel)(h2:¬ m=("text" : Str):=by decide +kernel):(gM x t).lookup m=none:=by
 unfold gM;rw[cR,AC h2,cR,AC h1];rfl
def bS (C W:Addr)(H:Hp)(y x tp:Addr)(n:Nat)(ms:List (List Nat))(t:List Nat):Prop:=(∃ Z,H y=some (.ins C Z (gM x t)))∧kM W H x tp n ms
theorem bS.on {C W:Addr}{H H':Hp}{y x tp:Addr}{n:Nat}{ms:List (List Nat)}{t:List Nat}(h:bS C W H y x tp n ms t)(s:aL H H'):bS C W H' y x tp n ms t:=let ⟨⟨dy,e⟩,w⟩:=h;⟨⟨dy,s _ _ e⟩,w.on s⟩
def eG (ms:List (List Nat))(n:Nat)(t:List Nat):Prop:=(1<=n∧n<=8)∧n<=t.length∧t.length<=1000∧ms≠[]∧ms.length<=60∧∀ w∈ms,w.length=n
def qP (C W:Addr):Sp:=λvs H Q _=>∃ (y x tp:Addr) (n:Nat) (ms:List (List Nat)) (t:List Nat),vs=[.ref y]∧bS C W H y x tp n ms t∧Q (T t) H
theorem sO {f:Addr}{fd:wh}(F:Fun K "written" "Desk.written" iB f fd)(Z:Txt K mg ad):bI P w K mg base (CX2 P w) 1 f fd ["self"] (qP ad.Desk ad.Web):=by
 refine F.okN2 sL (λvs H Q E h=>?_) (λcdv A outer s H vs Q E hr h=>?_)
 ·obtain⟨y,x,tp,n,ms,t,rfl,_⟩:=h
  rfl
 ·obtain⟨y,x,tp,n,ms,t,rfl,⟨⟨dy,hy⟩,hW⟩,q⟩:=h
  refine⟨_,(aE (aQ (cM (pv 0) rfl))),?_⟩
  (try rw[bZ]);(try rw[cxK1])
  exact⟨_,rfl,y,ad.Desk,dy,_,_,rfl,hy,Z.cl_Desk,Z.na_Desk_text,jT _ _,q⟩
def zM (C W:Addr):Sp:=λvs H Q _=>∃ (y x tp:Addr) (n:Nat) (ms:List (List Nat)) (t m0:List Nat),vs=[.ref y]∧bS C W H y x tp n ms t∧ms[0]?=some m0∧(1<=m0.length∧m0.length<=1000)∧Q (T (beg m0)) H
theorem zX {f:Addr}{fd:wh}(F:Fun K "home" "Desk.home" kR f fd)(tt:Txt K mg ad)(Z:Cal P w K mg base (CX2 P w) "begin_of" 1 ["word"] gH):bI P w K mg base (CX2 P w) 2 f fd ["self"] (zM ad.Desk ad.Web):=by
 refine F.okN2 Ao (λvs H Q E h=>?_) (λcdv A outer s H vs Q E hr h=>?_)
 ·obtain⟨y,x,tp,n,ms,t,m0,rfl,_⟩:=h
  rfl
 ·obtain⟨y,x,tp,n,ms,t,m0,rfl,⟨⟨dy,hy⟩,⟨⟨dx,hx⟩,gV⟩⟩,h0,hl,q⟩:=h
  refine⟨_,(aE (aQ (aM Z hr aS (aA (cH lO (cM (cM (pv 0) rfl) rfl) aH (λ_ _=>rfl)) aD)))),?_⟩
  (try rw[bZ]);(try rw[cxK1])
  exact⟨_,rfl,y,ad.Desk,dy,_,_,rfl,hy,tt.cl_Desk,tt.na_Desk_web,lW _ _,x,ad.Web,dx,_,_,rfl,hx,tt.cl_Web,tt.na_Web_words,fK _ _,tp,_,_,_,rfl,rfl,SqT.of gV,bL (j:=0) (by rw[ah,h0];rfl),m0,rfl,hl,q⟩
def rD (C W:Addr):Sp:=λvs H Q _=>∃ (y x tp:Addr) (n:Nat) (ms:List (List Nat)) (t:List Nat),vs=[.ref y]∧bS C W H y x tp n ms t∧eG ms n t∧∀ (D:Addr) (H':Hp),H D=none->aL H H'->H' D=some (.lst ((Wd.bV t n).map T))->Q (.ref D) H'
theorem Ac {f:Addr}{fd:wh}(F:Fun K "gone" "Desk.gone" lE f fd)(tt:Txt K mg ad)(Z:Cal P w K mg base (CX2 P w) "windows" 2 ["text", "length", "ring"] Vh):bI P w K mg base (CX2 P w) 3 f fd ["self"] (rD ad.Desk ad.Web):=by
 refine F.okN2 At (λvs H Q E h=>?_) (λcdv A outer s H vs Q E hr h=>?_)
 ·obtain⟨y,x,tp,n,ms,t,rfl,_⟩:=h
  rfl
 ·obtain⟨y,x,tp,n,ms,t,rfl,⟨⟨dy,hy⟩,⟨⟨dx,hx⟩,gV⟩⟩,⟨hn,h1,h2,_⟩,q⟩:=h
  refine⟨_,(aE (aQ (aM Z hr aS (aA (cM (pv 0) rfl) (aA (cM (cM (pv 0) rfl) rfl) (aA lM aD)))))),?_⟩
  (try rw[bZ]);(try rw[cxK1])
  refine⟨_,rfl,y,ad.Desk,dy,_,_,rfl,hy,tt.cl_Desk,tt.na_Desk_text,jT _ _,_,rfl,y,ad.Desk,dy,_,_,rfl,hy,tt.cl_Desk,tt.na_Desk_web,lW _ _,x,ad.Web,dx,_,_,rfl,hx,tt.cl_Web,tt.na_Web_length,Re _ _,t,n,false,rfl,⟨by omega,by omega,by omega⟩,λD H' hD s' hd=>q D H' hD s' ?_⟩;rw[hd,Wd.win,AC ag]
def bA (ms:List (List Nat))(t:List Nat)(n:Nat):List (List Nat):=ms.filter λl=>!decide (l∈Wd.bV t n)
def uG (C W:Addr):Sp:=λvs H Q _=>∃ (y x tp:Addr) (n:Nat) (ms:List (List Nat)) (t:List Nat),vs=[.ref y]∧bS C W H y x tp n ms t∧eG ms n t∧∀ (D:Addr) (H':Hp),H D=none->aL H H'->H' D=some (.lst ((bA ms t n).map T))->Q (.ref D) H'
theorem zY {f:Addr}{fd:wh}(F:Fun K "left" "Desk.left" iW f fd)(tt:Txt K mg ad)(Z:Cmt P w K mg base (CX2 P w) ad.Desk "gone" 3 ["self"] (rD ad.Desk ad.Web)):bI P w K mg base (CX2 P w) 4 f fd ["self"] (uG ad.Desk ad.Web):=by
 refine F.okN2 nT (λvs H Q E h=>?_) (λcdv A outer s H vs Q E hr h=>?_)
 ·obtain⟨y,x,tp,n,ms,t,rfl,_⟩:=h
  rfl
 ·obtain⟨y,x,tp,n,ms,t,rfl,hD,hok,q⟩:=h
  have hs:=AG;obtain⟨⟨dy,hy⟩,⟨⟨dx,hx⟩,gV⟩⟩:=id hD;refine⟨_,(aB (aJ (i:=1) nT.nd rfl (Or.inr rfl) (dJ Z hr aS (pv 0)))
   (aE (aQ (vW vO rfl (tS (cM (cM (pv 0) rfl) rfl)) (λcl C s' H' fp=>(aU (mM K rfl) (pv 0) (pv 2) (by with_unfolding_all rfl))) (λcl C s' H' fp=>(pv 0)))))),?_⟩
  (try rw[bZ]);(try rw[cxK1])
  refine⟨_,rfl,y,dy,_,rfl,hy,bT _ _,y,x,tp,n,ms,t,rfl,hD,hok,λD1 H1 wp s1 mp=>?_⟩;refine⟨_,rfl,y,ad.Desk,dy,_,_,rfl,s1 y _ hy,tt.cl_Desk,tt.na_Desk_web,lW _ _,x,ad.Web,dx,_,_,rfl,s1 x _ hx,tt.cl_Web,tt.na_Web_words,fK _ _,tp,rfl,⟨_,SqT.of (s1 tp _ gV)⟩,?_⟩;refine nG (λv=>!decide (unT v∈Wd.bV t n)) (λv=>v) (hG (SqT.of (s1 tp _ gV))) (by rw[aR];have:=hok.2.2.2.2.1;omega) (λv G hv sg N hN=>?_) (λv G hv hp sg N hN=>?_) λD2 G2 or s2 hd2=>?_
  ·obtain⟨l,hl,rfl⟩:=aw.mp hv
   have z:=hN G (aL.refl _);rw[eW,<- mH] at z;exact⟨_,rfl,_,rfl,D1,_,rfl,.inl (SqL.of (sg D1 _ mp)),rfl,fL _,_,rfl,z⟩
  ·exact⟨_,rfl,hN G (aL.refl _)⟩
  rw[show (ms.map T).filter (λv=>!decide (unT v∈Wd.bV t n))=(ms.filter λl=>!decide (l∈Wd.bV t n)).map T from eM (p:=λl=>!decide (l∈Wd.bV t n)) ms,qo] at hd2;exact q D2 G2 (fZ s1 or) (s1.trans s2) hd2
theorem Jw (xs:List V)(y:V):atI (xs++[y]) (-1)=some y:=by
 show (ixN (xs++[y]).length (-1)).bind _=_;rw[show (xs++[y]).length=xs.length+1 by simp];unfold ixN;rw[AC (by decide),AD (by omega),show ((-1:Int)+((xs.length+1:Nat):Int)).toNat=xs.length by omega];show (xs++[y])[xs.length]?=_;simp
def cS (t:List Nat)(n:Nat):List Nat:=(Wd.bV t n).getLastD []
theorem nX {t:List Nat}{n:Nat}(hn:1<=n)(h:n<=t.length):(∃ xs,Wd.bV t n=xs++[cS t n])∧(cS t n).length=n:=by
 have hl:(Wd.bV t n).length=t.length+1-n:=by unfold Wd.bV;rw[aR,cq]
 have Z:Wd.bV t n≠[]:=λz=>by rw[z] at hl;have:(0:Nat)=t.length+1-n:=hl;omega
 have e:cS t n=(Wd.bV t n).getLast Z:=by
  unfold cS;rw[List.getLastD_eq_getLast?,List.getLast?_eq_some_getLast Z];rfl
 refine⟨⟨(Wd.bV t n).dropLast,by rw[e];exact (gh Z).symm⟩,?_⟩;have hm:=List.getLast_mem Z;rw[<- e] at hm;unfold Wd.bV at hm;obtain⟨i,hi,h2⟩:=aw.mp hm;rw[<- h2];exact Wd.nD ..
open Classical in
def nxL (ms:List (List Nat))(t:List Nat)(n:Nat):List (List Nat):=((bA ms t n).filter λl=>decide (beg l=(cS t n).drop 1)).filter λl=>decide (Wd.gY (Dt.rm (bA ms t n) l) (l.drop 1))
def Hf (C W:Addr):Sp:=λvs H Q _=>∃ (y x tp:Addr) (n:Nat) (ms:List (List Nat)) (t:List Nat),vs=[.ref y]∧bS C W H y x tp n ms t∧eG ms n t∧∀ H',aL H H'->(bA ms t n≠[]->Q .non H')∧(bA ms t n=[]->Q (T (gX t none (some ((ms.length:Nat):Int)))) H')
theorem Ag {f:Addr}{fd:wh}(F:Fun K "done" "Desk.done" lL f fd)(tt:Txt K mg ad)(Z:Cmt P w K mg base (CX2 P w) ad.Desk "left" 4 ["self"] (uG ad.Desk ad.Web)):bI P w K mg base (CX2 P w) 5 f fd ["self"] (Hf ad.Desk ad.Web):=by
 refine F.okN2 Bq (λvs H Q E h=>?_) (λcdv A outer s H vs Q E hr h=>?_)
 ·obtain⟨y,x,tp,n,ms,t,rfl,_⟩:=h
  rfl
 ·obtain⟨y,x,tp,n,ms,t,rfl,hD,hok,q⟩:=h
  have hs:=AG;have hu:=ge (eD hr);obtain⟨⟨dy,hy⟩,⟨⟨dx,hx⟩,wp⟩⟩:=id hD;refine⟨_,(aB (bR (aU (Nj hu) (dJ Z hr aS (pv 0)) (dB aD) (aY _)) (aE (aQ vF)) aV)
   (aE (aQ (cD zS (cM (pv 0) rfl) dA (cK (aP aW (by rfl) tt.b_len bc (aA (cM (cM (pv 0) rfl) rfl) aD))))))),?_⟩
  (try rw[bZ]);(try rw[cxK1])
  refine⟨_,rfl,y,dy,_,rfl,hy,bT _ _,y,x,tp,n,ms,t,rfl,hD,hok,λD1 H1 ww s1 mp=>?_⟩;refine⟨(by show 0<=sizeLine;omega),λE0 or=>?_⟩;have tE:=aK (o:=.lst []) or;refine⟨D1,E0,_,[],rfl,rfl,SqL.of (tE D1 _ mp),SqL.of aC,_,rfl,?_⟩;have gV:=s1.trans tE;by_cases he:bA ms t n=[]
  ·refine itN (by rw[AE he];exact ag) ?_
   exact⟨_,rfl,y,ad.Desk,dy,_,_,rfl,gV y _ hy,tt.cl_Desk,tt.na_Desk_text,jT _ _,_,rfl,y,ad.Desk,dy,_,_,rfl,gV y _ hy,tt.cl_Desk,tt.na_Desk_web,lW _ _,x,ad.Web,dx,_,_,rfl,gV x _ hx,tt.cl_Web,tt.na_Web_words,fK _ _,tp,_,rfl,.inr (SqT.of (gV tp _ wp)),_,rfl,_,rfl,(by have:=hok.2.2.1;omega),by rw[aR];exact (q _ gV).2 he⟩
  ·refine itP (by rw[AH he];rfl) ?_
   exact (q _ gV).1 he
def tF (C W:Addr):Sp:=λvs H Q _=>∃ (y x tp:Addr) (n:Nat) (ms:List (List Nat)) (t:List Nat),vs=[.ref y]∧bS C W H y x tp n ms t∧eG ms n t∧∀ (D:Addr) (H':Hp),H D=none->aL H H'->H' D=some (.lst (((nxL ms t n).map λl=>[Wd.bU l]).map T))->Q (.ref D) H'
open Classical in
theorem wT {f:Addr}{fd:wh}(F:Fun K "nexts" "Desk.nexts" fN f fd)(tt:Txt K mg ad)(mp:Cmt P w K mg base (CX2 P w) ad.Desk "left" 4 ["self"] (uG ad.Desk ad.Web))(or:Cmt P w K mg base (CX2 P w) ad.Desk "gone" 3 ["self"] (rD ad.Desk ad.Web))(Z:Cal P w K mg base (CX2 P w) "end_of" 1 ["word"] nJ)(wp:Cal P w K mg base (CX2 P w) "begin_of" 1 ["word"] gH)(gV:Cal P w K mg base (CX2 P w) "can_go_on" 3 ["left", "piece"] (Hw K))(ww:Cal P w K mg base (CX2 P w) "without" 1 ["words", "word"] (qW K)):bI P w K mg base (CX2 P w) 5 f fd ["self"] (tF ad.Desk ad.Web):=by
 refine F.okN2 gJ (λvs H Q E h=>?_) (λcdv A outer s H vs Q E hr h=>?_)
 ·obtain⟨y,x,tp,n,ms,t,rfl,_⟩:=h
  rfl
 ·obtain⟨y,x,tp,n,ms,t,rfl,hD,hok,q⟩:=h
  have hs:=AG;obtain⟨⟨dy,hy⟩,hW⟩:=id hD;obtain⟨hn,h1,h2,h3,h4,h5⟩:=id hok;obtain⟨⟨xs,w6⟩,xq⟩:=nX hn.1 h1;have wz:∀ l∈bA ms t n,l.length=n:=λl hl=>h5 l (cb.mp hl).1
  have xm:(bA ms t n).length<=60:=a5 (df ..) h4;refine⟨_,(aB (aJ (i:=1) gJ.nd rfl (Or.inr rfl) (dJ mp hr aS (pv 0)))
   (aB (aJ (i:=2) gJ.nd rfl (Or.inr rfl) (aM Z hr aS (aA (cH bW (dJ or hr aS (pv 0)) (jF gB aH) (λ_ _=>rfl)) aD)))
   (aB (iR (i:=3) sI rfl (cN (pv 1)) (λcl C s' H' fp=>(aU nI (aM wp hr aS (aA (pv 0) aD)) (pv 3) (aY _))) (λcl C s' H' fp=>(pv 0)) gJ.nd rfl rfl)
   (aE (aQ (vW sF rfl (cN (pv 3)) (λcl C s' H' fp=>(qK (aM gV hr aS (aA (aM ww hr aS (aA (pv 2) (aA (pv 0) aD))) (aA (aM Z hr aS (aA (pv 0) aD)) aD))))) (λcl C s' H' fp=>(cH Ty (pv 0) (jF gB aH) (λ_ _=>rfl))))))))),?_⟩
  (try rw[bZ]);(try rw[cxK1])
  refine⟨_,rfl,y,dy,_,rfl,hy,bT _ _,y,x,tp,n,ms,t,rfl,hD,hok,λD1 H1 xk s1 xc=>?_⟩;refine⟨_,rfl,y,dy,_,rfl,s1 y _ hy,bT _ _,y,x,tp,n,ms,t,rfl,hD.on s1,hok,λD2 H2 xo s2 hd2=>?_⟩;refine⟨_,rfl,D2,_,_,_,rfl,rfl,SqL.of hd2,(by rw[w6,a7];exact Jw _ _),cS t n,rfl,⟨by omega,by omega⟩,?_⟩;have xj:=s1.trans s2;have wx:=s2 D1 _ xc;refine⟨_,rfl,D1,rfl,⟨_,SqL.of wx⟩,?_⟩;refine nG (λv=>decide (beg (unT v)=(cS t n).drop 1)) (λv=>v) (cJ (SqL.of wx)) (by rw[aR];omega) (λv G hv sg N hN=>?_) (λv G hv hp sg N hN=>?_) λD3 H3 xl s3 w4=>?_
  ·obtain⟨l,hl,rfl⟩:=aw.mp hv
   have xb:=wz l hl;have z:=hN G (aL.refl _);rw[eW] at z;exact⟨_,rfl,l,rfl,⟨by omega,by omega⟩,_,rfl,_,rfl,_,rfl,_,rfl,z⟩
  ·exact⟨_,rfl,hN G (aL.refl _)⟩
  rw[show ((bA ms t n).map T).filter (λv=>decide (beg (unT v)=(cS t n).drop 1))=((bA ms t n).filter λl=>decide (beg l=(cS t n).drop 1)).map T from eM (p:=λl=>decide (beg l=(cS t n).drop 1)) _,qo] at w4;have w8:=xj.trans s3;have xa:=s3 D1 _ wx;refine⟨_,rfl,D3,rfl,⟨_,SqL.of w4⟩,?_⟩;refine nG (λv=>decide (Wd.gY (Dt.rm (bA ms t n) (unT v)) ((unT v).drop 1))) (λv=>T [Wd.bU (unT v)]) (cJ (SqL.of w4)) (by rw[aR];have:=df (λl=>decide (beg l=(cS t n).drop 1)) (bA ms t n);omega) (λv G hv sg N hN=>?_) (λv G hv hp sg N hN=>?_) λD4 H4 xg s4 xi=>?_
  ·obtain⟨l,hl,rfl⟩:=aw.mp hv
   have xf:=(cb.mp hl).1;have xb:=wz l xf;rw[eW] at hN;refine⟨_,rfl,_,rfl,D1,bA ms t n,l,rfl,SqL.of (sg D1 _ xa),(by omega),λD5 H5 xp s5 xh=>?_⟩;refine⟨_,rfl,l,rfl,⟨by omega,by omega⟩,D5,Dt.rm (bA ms t n) l,l.drop 1,rfl,SqL.of xh,⟨a5 (df ..) (by omega),λz hz=>by have:=wz z (cb.mp hz).1;omega⟩,λb H6 s6 hb=>⟨_,rfl,?_⟩⟩;rw[show b=decide (Wd.gY (Dt.rm (bA ms t n) l) (l.drop 1)) from cu.mpr (hb.trans AI.symm)];exact hN H6 (s5.trans s6)
  ·obtain⟨l,hl,rfl⟩:=aw.mp hv
   have xb:=wz l (cb.mp hl).1;rw[eW] at hN;exact⟨_,rfl,_,rfl,l,rfl,_,rfl,(by omega),_,zW (by omega),hN G (aL.refl _)⟩
  refine q D4 H4 (fZ w8 xg) (w8.trans s4) ?_;rw[xi];refine congrArg (λz=>some (HO.lst z)) ?_;unfold nxL;rw[show ((((bA ms t n).filter λl=>decide (beg l=(cS t n).drop 1)).map T).filter λv=>decide (Wd.gY (Dt.rm (bA ms t n) (unT v)) ((unT v).drop 1)))=(((bA ms t n).filter λl=>decide (beg l=(cS t n).drop 1)).filter λl=>decide (Wd.gY (Dt.rm (bA ms t n) l) (l.drop 1))).map T from eM (p:=λl=>decide (Wd.gY (Dt.rm (bA ms t n) l) (l.drop 1))) _,oU (f:=λl=>T [Wd.bU l]),bv];rfl
theorem vZ {f:Str}{u v:V}:∀ fs:List (Str×V),dY f v (dY f u fs)=dY f v fs
 | []=>by show (if f=f then _ else _)=_;rw[AD rfl];rfl
 | (g,x)::r=>by
  by_cases e:g=f
  ·show dY f v (if g=f then (g,u)::r else _)=(if g=f then (g,v)::r else _)
   rw[AD e,AD e];show (if g=f then (g,v)::r else _)=_;rw[AD e]
  ·show dY f v (if g=f then _ else (g,x)::dY f u r)=(if g=f then _ else (g,x)::dY f v r)
   rw[AC e,AC e];show (if g=f then _ else (g,x)::dY f v (dY f u r))=_;rw[AC e,vZ r]
theorem xM (x:Addr)(t t':List Nat):dY "text" (T t') (gM x t)=gM x t':=vZ _
theorem yM (x:Addr)(t:List Nat):(gM x t).length<1000:=by
 have h:∀ (f:Str) (v:V) (fs:List (Str×V)),(dY f v fs).length<=fs.length+1:=λf v fs=>by
  induction fs with
  | nil=>exact af _
  | cons p r ih =>
   obtain⟨g,z⟩:=p;show (if g=f then (g,v)::r else (g,z)::dY f v r).length<=_;split
   ·show r.length+1<=r.length+1+1;omega
   ·show (dY f v r).length+1<=r.length+1+1;omega
 have h1:=h "text" (T t) (dY "web" (.ref x) [])
 have h2:=h "web" (.ref x) []
 unfold gM;have Z:([]:List (Str×V)).length=0:=rfl;omega
def But (y:Addr)(H G:Hp):Prop:=∀ b o,b≠y->H b=some o->G b=some o
theorem bS.put {C W:Addr}{H:Hp}{y x tp:Addr}{n:Nat}{ms:List (List Nat)}{t t':List Nat}{Z:Addr}(h:bS C W H y x tp n ms t)(hy:H y=some (.ins C Z (gM x t))):bS C W (upd H y (.ins C Z (gM x t'))) y x tp n ms t'∨x=y∨tp=y:=by
 by_cases e1:x=y
 ·exact .inr (.inl e1)
 by_cases e2:tp=y
 ·exact .inr (.inr e2)
 obtain⟨_,⟨dx,hx⟩,ht⟩:=h;exact .inl ⟨⟨Z,aC⟩,⟨dx,by rw[aG e1];exact hx⟩,by rw[aG e2];exact ht⟩
theorem bS.apart {C W:Addr}{H:Hp}{y x tp:Addr}{n:Nat}{ms:List (List Nat)}{t:List Nat}(h:bS C W H y x tp n ms t):x≠y∧tp≠y:=by
 obtain⟨⟨dy,Z⟩,⟨dx,hx⟩,ht⟩:=h;refine⟨λe=>?_,λe=>by rw[e,Z] at ht;cases ht⟩;rw[e,Z] at hx;have h1:gM x t=wZ tp (n:Nat):=by injection (av hx)
 have h2:=fK tp (n:Nat);rw[<- h1,bT _ _] at h2;cases h2
def tM (C W:Addr)(ad:Adr):Sp:=λvs H Q E=>∃ (y x tp:Addr) (n:Nat) (ms:List (List Nat)) (t c:List Nat),vs=[.ref y,T c]∧bS C W H y x tp n ms t∧eG ms n t∧c.length<=1000∧(c∉(nxL ms t n).map (λl=>[Wd.bU l])->∀ H',aL H H'->E (.ref ad.BadDeed) none H') ∧
 (c∈(nxL ms t n).map (λl=>[Wd.bU l])->∀ H',But y H H'->bS C W H' y x tp n ms (t++c)->Q (.bl true) H')
theorem xA {f:Addr}{fd:wh}(F:Fun K "write" "Desk.write" jP f fd)(tt:Txt K mg ad)(Z:Cmt P w K mg base (CX2 P w) ad.Desk "nexts" 5 ["self"] (tF ad.Desk ad.Web)):bI P w K mg base (CX2 P w) 6 f fd ["self", "letter"] (tM ad.Desk ad.Web ad):=by
 refine F.okX2 xE (λvs H Q E h=>?_) (λcdv A outer s H vs Q E hr h=>?_)
 ·obtain⟨y,x,tp,n,ms,t,c,rfl,_⟩:=h
  rfl
 ·obtain⟨y,x,tp,n,ms,t,c,rfl,hD,hok,or,qx,q⟩:=h
  have hs:=AG;obtain⟨⟨dy,hy⟩,hW⟩:=id hD;have mp:=hok.2.2.1;refine⟨_,(aB (bR (aU gW (pv 1) (dJ Z hr aS (pv 0)) (by with_unfolding_all rfl)) (aE (eJ (E:=λcls H'=>E cls none H') tt.x_BadDeed rfl (λ_ _ _ _ _ _ _ I hx q=>fG I hx q) (aA gD aD))) aV)
   (aB (pU (pv 0) (aN pJ (cM (pv 0) rfl) (pv 1)) rfl)
   (aE (aQ lM)))),?_⟩
  (try rw[bZ]);(try rw[cxK1])
  refine⟨_,rfl,_,rfl,y,dy,_,rfl,hy,bT _ _,y,x,tp,n,ms,t,rfl,hD,hok,λD1 H1 wp s1 gV=>?_⟩;refine⟨D1,_,rfl,.inl (SqL.of gV),rfl,fL _,_,rfl,?_⟩;by_cases hc:c∈(nxL ms t n).map λl=>[Wd.bU l]
  ·refine itN (by rw[mH,AE hc];exact ag) ?_
   refine⟨_,rfl,y,ad.Desk,dy,_,_,rfl,s1 y _ hy,tt.cl_Desk,tt.na_Desk_text,jT _ _,_,rfl,_,rfl,_,rfl,(by omega),_,rfl,y,ad.Desk,dy,_,rfl,s1 y _ hy,tt.cl_Desk,tt.na_Desk_text,yM _ _,?_⟩;rw[xM];obtain⟨a1,a2⟩:=hD.apart;refine q hc _ (λb o hb e=>by rw[aG hb];exact s1 b o e) ?_;exact ((hD.on s1).put (s1 y _ hy)).resolve_right λz=>z.elim a1 a2
  ·refine itP (by rw[mH,AH hc];rfl) ?_
   exact⟨(by show 1<=sizeLine;omega),qx hc H1 s1⟩
def Aj (C W:Addr)(ad:Adr):Sp:=λvs H Q E=>∃ (y x tp:Addr) (n:Nat) (ms:List (List Nat)) (t:List Nat),vs=[.ref y]∧bS C W H y x tp n ms t∧eG ms n t∧(t.length=n->∀ H',aL H H'->E (.ref ad.NoSuch) none H')∧(t.length≠n->∀ H',But y H H'->bS C W H' y x tp n ms (beg t)->Q (T [Wd.bU t]) H')
theorem Br {f:Addr}{fd:wh}(F:Fun K "back" "Desk.back" lD f fd)(Z:Txt K mg ad):bI P w K mg base (CX2 P w) 1 f fd ["self"] (Aj ad.Desk ad.Web ad):=by
 refine F.okX2 oH (λvs H Q E h=>?_) (λcdv A outer s H vs Q E hr h=>?_)
 ·obtain⟨y,x,tp,n,ms,t,rfl,_⟩:=h
  rfl
 ·obtain⟨y,x,tp,n,ms,t,rfl,hD,hok,qx,q⟩:=h
  have hs:=AG;obtain⟨⟨dy,hy⟩,⟨⟨dx,hx⟩,or⟩⟩:=id hD;obtain⟨hn,h1,mp,_⟩:=id hok;refine⟨_,(aB (bR (aU eP (aP dG (by rfl) Z.b_len bc (aA (cM (pv 0) rfl) aD)) (cM (cM (pv 0) rfl) rfl) (aY _)) (aE (eJ (E:=λcls H'=>E cls none H') Z.x_NoSuch rfl (λ_ _ _ _ _ _ _ I hx q=>fG I hx q) (aA gD aD))) aV)
   (aB (aJ (i:=1) oH.nd rfl (Or.inl rfl) (cH Ty (cM (pv 0) rfl) (jF gB aH) (λ_ _=>rfl)))
   (aB (pU (pv 0) (cD zS (cM (pv 0) rfl) dA (cK (jF gB aH))) rfl)
   (aE (aQ (pv 1)))))),?_⟩
  (try rw[bZ]);(try rw[cxK1])
  refine⟨_,rfl,y,ad.Desk,dy,_,_,rfl,hy,Z.cl_Desk,Z.na_Desk_text,jT _ _,t,rfl,(by omega),_,rfl,y,ad.Desk,dy,_,_,rfl,hy,Z.cl_Desk,Z.na_Desk_web,lW _ _,x,ad.Web,dx,_,_,rfl,hx,Z.cl_Web,Z.na_Web_length,Re _ _,_,rfl,_,rfl,_,rfl,?_⟩;by_cases hl:t.length=n
  ·refine itP (AE (by omega)) ?_
   exact⟨(by show 1<=sizeLine;omega),qx hl H (aL.refl _)⟩
  refine itN (λz=>hl (by have:=AF z;omega)) ?_;refine⟨_,rfl,y,ad.Desk,dy,_,_,rfl,hy,Z.cl_Desk,Z.na_Desk_text,jT _ _,_,rfl,t,rfl,_,rfl,(by omega),_,zW (by omega),?_⟩;refine⟨_,rfl,y,ad.Desk,dy,_,_,rfl,hy,Z.cl_Desk,Z.na_Desk_text,jT _ _,_,rfl,_,rfl,t,rfl,(by omega),_,rfl,y,ad.Desk,dy,_,rfl,hy,Z.cl_Desk,Z.na_Desk_text,yM _ _,?_⟩;have gV:gX t none (some (-(1:Int)))=beg t:=xR (by omega);rw[gV,xM];obtain⟨a1,a2⟩:=hD.apart;refine⟨_,rfl,q hl _ (λb o hb e=>by rw[aG hb];exact e) ?_⟩;exact (hD.put hy).resolve_right λz=>z.elim a1 a2
def zT (C W:Addr):Sp:=λvs H Q _=>∃ (y x tp:Addr) (n:Nat) (ms:List (List Nat)) (t m0:List Nat),vs=[.ref y]∧bS C W H y x tp n ms t∧eG ms n t∧ms[0]?=some m0∧ms.Nodup∧∀ H',aL H H'->Q (.int (Dt.eN (bA ms t n) ((cS t n).drop 1) (beg m0):Nat)) H'
theorem Bl {f:Addr}{fd:wh}(F:Fun K "ways" "Desk.ways" kW f fd)(tt:Txt K mg ad)(gV:Cmt P w K mg base (CX2 P w) ad.Desk "left" 4 ["self"] (uG ad.Desk ad.Web))(mp:Cmt P w K mg base (CX2 P w) ad.Desk "gone" 3 ["self"] (rD ad.Desk ad.Web))(Z:Cmt P w K mg base (CX2 P w) ad.Desk "home" 2 ["self"] (zM ad.Desk ad.Web))(wp:Cal P w K mg base (CX2 P w) "end_of" 1 ["word"] nJ)(or:Cal P w K mg base (CX2 P w) "ways_on" 5 ["words", "one", "other"] (uK K)):bI P w K mg base (CX2 P w) 7 f fd ["self"] (zT ad.Desk ad.Web):=by
 refine F.okN2 Af (λvs H Q E h=>?_) (λcdv A outer s H vs Q E hr h=>?_)
 ·obtain⟨y,x,tp,n,ms,t,m0,rfl,_⟩:=h
  rfl
 ·obtain⟨y,x,tp,n,ms,t,m0,rfl,hD,hok,h0,w4,q⟩:=h
  have hs:=AG;obtain⟨⟨dy,hy⟩,hW⟩:=id hD;obtain⟨hn,h1,h2,h3,h4,h5⟩:=id hok;obtain⟨⟨xs,wx⟩,w8⟩:=nX hn.1 h1;have xb:=h5 m0 (ay h0);have w6:(bA ms t n).length<=60:=a5 (df ..) h4;refine⟨_,(aE (aQ (aM or hr aS (aA (dJ gV hr aS (pv 0)) (aA (aM wp hr aS (aA (cH bW (dJ mp hr aS (pv 0)) (jF gB aH) (λ_ _=>rfl)) aD)) (aA (dJ Z hr aS (pv 0)) aD)))))),?_⟩
  (try rw[bZ]);(try rw[cxK1])
  refine⟨_,rfl,y,dy,_,rfl,hy,bT _ _,y,x,tp,n,ms,t,rfl,hD,hok,λD1 H1 xa s1 wz=>?_⟩;refine⟨_,rfl,y,dy,_,rfl,s1 y _ hy,bT _ _,y,x,tp,n,ms,t,rfl,hD.on s1,hok,λD2 H2 xc s2 hd2=>?_⟩;have ww:=s1.trans s2;refine⟨_,rfl,D2,_,_,_,rfl,rfl,SqL.of hd2,(by rw[wx,a7];exact Jw _ _),cS t n,rfl,⟨by omega,by omega⟩,?_⟩;refine⟨_,rfl,y,dy,_,rfl,ww y _ hy,bT _ _,y,x,tp,n,ms,t,m0,rfl,hD.on ww,h0,⟨by omega,by omega⟩,?_⟩;exact⟨D1,bA ms t n,_,_,rfl,.inl (SqL.of (s2 D1 _ wz)),⟨w4.sublist ff,w6,λz hz=>by have:=h5 z (cb.mp hz).1;omega⟩,λH' s'=>q H' (ww.trans s')⟩
def Dn (K:ac):Sp:=λvs H Q _=>∃ (a b:Addr) (ms us:List (List Nat)) (Z:List Nat),vs=[.ref a,.ref b,T Z]∧SqA K H a (ms.map T)∧SqL K H b (us.map T)∧(ms.Nodup∧ms.length<=60∧∀ x∈ms,1<=x.length∧x.length<=1000)∧(us.Nodup∧∀ y∈us,y∈ms)∧∀ (H':Hp),aL H H'->Q (.int (Dt.rk Z ms us:Nat)) H'
theorem xC {f:Addr}{fd:wh}(F:Fun K "way_number" "way_number" jY f fd)(tt:Txt K mg ad)(wp:Cal P w K mg base (CX2 P w) "by_begin" 2 ["words"] (Sh K))(wx:Cal P w K mg base (CX2 P w) "begin_of" 1 ["word"] gH)(wz:Cal P w K mg base (CX2 P w) "ways_on" 5 ["words", "one", "other"] (uK K))(gV:Cal P w K mg base (CX2 P w) "without" 1 ["words", "word"] (qW K))(w8:Cal P w K mg base (CX2 P w) "end_of" 1 ["word"] nJ) :
  bI P w K mg base (CX2 P w) 6 f fd ["words", "order", "other"] (Dn K):=by
 refine F.okN2 dD (λvs H Q E h=>?_) (λcdv A outer s H vs Q E hr h=>?_)
 ·obtain⟨a,b,ms,us,Z,rfl,_⟩:=h
  rfl
 ·obtain⟨a,b,ms,us,Z,rfl,hS,hB,⟨xm,hl,hx⟩,hp,q⟩:=h
  have hs:=AG;refine⟨_,(aB (aJ (i:=3) dD.nd rfl (Or.inl rfl) aH)
   (aB (aJ (i:=4) dD.nd rfl (Or.inl rfl) (fA pM (by rfl) tt.b_list (by decide +kernel) (aA (pv 0) aD)))
   (aB (cY PassesOwn.never rfl (cN (pv 1)) (bO (i:=5) dD.nd rfl (Or.inl rfl)) (aB (cY PassesOwn.never rfl (cN (tK (eD hr) (aM wp hr aS (aA (pv 4) aD)) (aM wx hr aS (aA (pv 5) aD)) (λ_ _=>rfl))) (bO (i:=6) dD.nd rfl (Or.inl rfl)) (aE (bR (aU Tu (pv 6) (pv 5) (aY _)) (aE (aJ (i:=3) dD.nd rfl (Or.inl rfl) (aN eA (pv 3) (aM wz hr aS (aA (aM gV hr aS (aA (pv 4) (aA (pv 6) aD))) (aA (aM w8 hr aS (aA (pv 6) aD)) (aA (pv 2) aD))))))) aV)))
   (aE (aJ (i:=4) dD.nd rfl (Or.inl rfl) (aM gV hr aS (aA (pv 4) (aA (pv 5) aD)))))))
   (aE (aQ (pv 3)))))),?_⟩
  (try rw[bZ]);(try rw[cxK1])
  refine⟨_,rfl,a,_,rfl,hS,λL0 xo=>?_⟩;have t0:=aK (o:=.lst (ms.map T)) xo;refine⟨_,rfl,b,rfl,⟨_,t0.seq hB⟩,?_⟩;refine gN (K:=K) (a:=b) (xs:=us.map T) (λi σ G=>aL H G∧∃ (Lf:Addr) (lf:List (List Nat)) (mp:Nat) (v5 v6:Option V),G Lf=some (.lst (lf.map T))∧lf.Nodup∧((us.drop i).Nodup∧∀ y∈us.drop i,y∈lf)∧(∀ y∈lf,y∈ms)∧lf.length<=60∧mp+Dt.rk Z lf (us.drop i)=Dt.rk Z ms us∧σ=[some (.ref a),some (.ref b),some (T Z),some (.int (mp:Nat)),some (.ref Lf),v5,v6])
   ⟨t0,L0,ms,0,none,none,aC,xm,by rw[kz];exact hp,λy hy=>hy,hl,by rw[kz,ix],rfl⟩ (λi σ G _ h=>h.1.seq hB) ?_ ?_
  ·rintro i y σ G hi ⟨sG,Lf,lf,mp,v5,v6,hL,ww,w4,xb,xr,or,rfl⟩
   obtain⟨wd,xx,rfl⟩:∃ wd,us[i]?=some wd∧T wd=y:=by rw[ah] at hi;exact bz.mp hi
   have xp:us.drop i=wd::us.drop (i+1):=by
    obtain⟨xw,hi2⟩:=ao.mp xx;rw[lb xw,hi2]
   rw[xp] at w4 or;have xf:wd∈lf:=w4.2 wd (aq ..);have xc:∀ y∈lf,1<=y.length∧y.length<=1000:=λy hy=>hx y (xb y hy)
   have xk:=xc wd xf;refine⟨_,rfl,Lf,lf,rfl,.inl (SqL.of hL),⟨by omega,xc⟩,λD kvs ts G1 hD s1 hd xu nd xq=>?_⟩;have xy:Wd.beg wd∈ts:=(xq _).mpr ⟨wd,xf,rfl⟩;obtain⟨c,xz,xh⟩:=xu.get xy;have xj:=s1 Lf _ hL;refine⟨_,rfl,wd,rfl,⟨xk.1,xk.2⟩,D,_,rfl,(by have z:=jO.k (k:=cf (tx (Wd.beg wd))) hd;rw[xz] at z;exact z),c,rfl,⟨_,SqL.of xh⟩,?_⟩;have xa:∀ (l:List (List Nat)) (x:List Nat),((((l++[x]).filter λx=>decide (x<wd)).map λx=>Dt.eN (Dt.rm lf x) (Wd.fin x) Z).sum:Nat)=((l.filter λx=>decide (x<wd)).map λx=>Dt.eN (Dt.rm lf x) (Wd.fin x) Z).sum+if x<wd then Dt.eN (Dt.rm lf x) (Wd.fin x) Z else 0:=λl x=>by
    rw[j8];by_cases h:x<wd
    ·rw[AD h,dq (p:=λx=>decide (x<wd)) (AE h),nj,a7,ng]
     show _+(Dt.eN (Dt.rm lf x) (Wd.fin x) Z+0)=_;omega
    ·rw[AC h,db (p:=λx=>decide (x<wd)) (λz=>h (AF z)),nj,da,k9]
   refine gN (K:=K) (a:=c) (xs:=(Dt.og lf (Wd.beg wd)).map T) (λj σ G'=>aL G1 G'∧∃ (v6:Option V),σ=[some (.ref a),some (.ref b),some (T Z),some (.int ((mp+((((Dt.og lf (Wd.beg wd)).take j).filter λx=>decide (x<wd)).map λx=>Dt.eN (Dt.rm lf x) (Wd.fin x) Z).sum:Nat):Int)),some (.ref Lf),some (T wd),v6])
    ⟨aL.refl _,v6,rfl⟩ (λj σ G' _ h=>SqL.of (h.1 c _ xh)) ?_ ?_
   ·rintro j y σ G' hj ⟨w6,v6,rfl⟩
    obtain⟨x,xg,rfl⟩:∃ x,(Dt.og lf (Wd.beg wd))[j]?=some x∧T x=y:=by rw[ah] at hj;exact bz.mp hj
    obtain⟨xi,ya⟩:=Dt.dU.mp (ay xg);have xl:=xc x xi;have htk:(Dt.og lf (Wd.beg wd)).take (j+1)=(Dt.og lf (Wd.beg wd)).take j++[x]:=by rw[cn,xg];rfl
    refine⟨_,rfl,_,rfl,_,rfl,_,rfl,_,rfl,?_⟩;by_cases hlt:x<wd
    ·refine itP (AE hlt) ?_
     refine⟨_,rfl,_,rfl,_,rfl,Lf,lf,x,rfl,SqL.of (w6 Lf _ xj),by omega,λD2 G2 x9 s2 hd2=>?_⟩;have x6:=Dt.mY ww xi;refine⟨_,rfl,x,rfl,⟨xl.1,xl.2⟩,_,rfl,D2,Dt.rm lf x,Wd.fin x,Z,rfl,.inl (SqL.of hd2),⟨Dt.pA ww,by omega,λy hy=>xc y (Dt.iJ.mp hy).1⟩,λG3 s3=>?_⟩;refine⟨_,_,rfl,rfl,w6.trans (s2.trans s3),some (T x),?_⟩;rw[htk,xa,AD hlt,<- ph,kc (mp+_)];rfl
    ·refine itN (λz=>hlt (AF z)) ?_
     refine⟨w6,some (T x),?_⟩;rw[htk,xa,AC hlt,k9];rfl
   ·rintro σ G' ⟨w6,v6,rfl⟩
    rw[aR,cr];refine⟨_,rfl,_,rfl,Lf,lf,wd,rfl,SqL.of (w6 Lf _ xj),by omega,λD4 G4 x8 s4 xt=>?_⟩;have x6:=Dt.mY ww xf;refine⟨sG.trans (s1.trans (w6.trans s4)),D4,Dt.rm lf wd,_,_,_,xt,Dt.pA ww,⟨(cx.mp w4.1).2,λy hy=>Dt.iJ.mpr ⟨w4.2 y (al _ hy),λe=>(cx.mp w4.1).1 (e▸hy)⟩⟩,λy hy=>xb y (Dt.iJ.mp hy).1,by omega,?_,rfl⟩;rw[<- or];exact ph _ _ _
  ·rintro σ G ⟨sG,Lf,lf,mp,v5,v6,hL,ww,w4,xb,xr,or,rfl⟩
   rw[aR,List.drop_length] at or;have e:mp=Dt.rk Z ms us:=by
    rw[<- or];show mp=mp+0;omega
   rw[e];exact⟨_,rfl,q G sG⟩
theorem Ej {ls:List (List Nat)}{k:Nat}(h:k<=ls.length):iX (ls.map T) (some (k:Int)) none=(ls.drop k).map T:=by
 unfold iX;rw[HT.fR,HT.iI,aR,er h,<- i7,<- jq,b9 (by rw[bu];omega)]
theorem Ij (ls:List (List Nat)):iX (ls.map T) (some (1:Int)) none=(ls.drop 1).map T:=by
 cases ls with
 | nil=>rfl
 | cons x r=>exact Ej (k:=1) (by simp)
def Bc (C W:Addr):Sp:=λvs H Q _=>∃ (y x tp:Addr) (n:Nat) (ms:List (List Nat)) (t m0:List Nat),vs=[.ref y]∧bS C W H y x tp n ms t∧eG ms n t∧ms[0]?=some m0∧ms.Nodup∧(((Wd.bV t n).drop 1).Nodup∧∀ z∈(Wd.bV t n).drop 1,z∈ms.drop 1)∧∀ H',aL H H'->Q (.int (Dt.rk (beg m0) (ms.drop 1) ((Wd.bV t n).drop 1):Nat)) H'
theorem wO {f:Addr}{fd:wh}(F:Fun K "ahead" "Desk.ahead" kI f fd)(tt:Txt K mg ad)(mp:Cmt P w K mg base (CX2 P w) ad.Desk "gone" 3 ["self"] (rD ad.Desk ad.Web))(gV:Cmt P w K mg base (CX2 P w) ad.Desk "home" 2 ["self"] (zM ad.Desk ad.Web))(Z:Cal P w K mg base (CX2 P w) "way_number" 6 ["words", "order", "other"] (Dn K)):bI P w K mg base (CX2 P w) 7 f fd ["self"] (Bc ad.Desk ad.Web):=by
 refine F.okN2 wL (λvs H Q E h=>?_) (λcdv A outer s H vs Q E hr h=>?_)
 ·obtain⟨y,x,tp,n,ms,t,m0,rfl,_⟩:=h
  rfl
 ·obtain⟨y,x,tp,n,ms,t,m0,rfl,hD,hok,h0,wp,wz,q⟩:=h
  have hs:=AG;obtain⟨⟨dy,hy⟩,⟨⟨dx,hx⟩,wx⟩⟩:=id hD;obtain⟨hn,h1,h2,h3,h4,h5⟩:=id hok;have w6:=h5 m0 (ay h0);refine⟨_,(aE (aQ (aM Z hr aS (aA (cD Yi (cM (cM (pv 0) rfl) rfl) (cK aH) dA) (aA (cD gZ (dJ mp hr aS (pv 0)) (cK aH) dA) (aA (dJ gV hr aS (pv 0)) aD)))))),?_⟩
  (try rw[bZ]);(try rw[cxK1])
  refine⟨_,rfl,y,ad.Desk,dy,_,_,rfl,hy,tt.cl_Desk,tt.na_Desk_web,lW _ _,x,ad.Web,dx,_,_,rfl,hx,tt.cl_Web,tt.na_Web_words,fK _ _,_,rfl,tp,_,rfl,SqT.of wx,?_,λp1 w4=>?_⟩
  ·rintro⟨z,_⟩
   cases ms with
   | nil=>exact h3 rfl
   | cons m ms =>
    rw[aR,ar] at z;simp[HT.sIx] at z
  rw[Ij];have t1:=aK (o:=.tup ((ms.drop 1).map T)) w4;refine⟨_,rfl,y,dy,_,rfl,t1 y _ hy,bT _ _,y,x,tp,n,ms,t,rfl,hD.on t1,hok,λD2 H2 w8 s2 hd2=>?_⟩;refine⟨_,rfl,D2,_,rfl,SqL.of hd2,λp3 ww=>?_⟩;rw[Ij];have t3:=aK (o:=.lst (((Wd.bV t n).drop 1).map T)) ww;have or:=t1.trans (s2.trans t3);refine⟨_,rfl,y,dy,_,rfl,or y _ hy,bT _ _,y,x,tp,n,ms,t,m0,rfl,hD.on or,h0,⟨by omega,by omega⟩,?_⟩;exact⟨p1,p3,ms.drop 1,(Wd.bV t n).drop 1,_,rfl,.inr (SqT.of ((s2.trans t3) p1 _ aC)),SqL.of aC,⟨wp.sublist (uy ..),by rw[bu];omega,λz hz=>by have:=h5 z (m9 hz);omega⟩,wz,λH' s'=>q H' (or.trans s')⟩
def sX (C W:Addr)(ad:Adr):Sp:=λvs H Q E=>∃ (y dy x0 Z:Addr) (n:Nat) (ms:List (List Nat)) (m0:List Nat),vs=[.ref y,.ref x0]∧H y=some (.ins C dy [])∧kM W H x0 Z n ms∧mO ms n∧ms.Pairwise (λa b=>¬ b<a)∧ms[0]?=some m0 ∧
 (∀ us p,Nh us ms p p->∀ (x tp:Addr) (H':Hp),But y H H'->bS C W H' y x tp n ms m0->Q .non H') ∧
 (∀ ev r v dx H',Pcs ms ev->wG ms ev r->r≠none->aL H H'->uM H' v r->H' dx=some (.xd [("paper",v)])->E (.ref ad.NoRing) (some dx) H')
theorem Bn {f:Addr}{fd:wh}(F:Fun K "__init__" "Desk.__init__" lG f fd)(tt:Txt K mg ad)(gV:Cxi P w K mg base "NoRing" ad.NoRing "paper" 1 ["self", "words", "paper"])(Z:Cal P w K mg base (CX2 P w) "why_no_ring" 5 ["web"] (Gu ad.Web))(or:Cam P w K mg base (CX2 P w) "Web" ad.Web 5 ["self", "words"] (zV K ad.Web)):bI P w K mg base (CX2 P w) 7 f fd ["self", "web"] (sX ad.Desk ad.Web ad):=by
 refine F.okX2 nR (λvs H Q E h=>?_) (λcdv A outer s H vs Q E hr h=>?_)
 ·obtain⟨y,dy,x0,mp,n,ms,m0,rfl,_⟩:=h
  rfl
 ·obtain⟨y,dy,x0,mp,n,ms,m0,rfl,hy,hW,hok,xk,h0,q,qe⟩:=h
  have hs:=AG;refine⟨_,(aB (aJ (i:=2) nR.nd rfl (Or.inl rfl) (aM Z hr aS (aA (pv 1) aD)))
   (aB (bR (kX (Ii (pv 2))) (aE (Xg gV Qb rfl hr (λpins σ H s a dx I hx q=>Ug pins σ H s a dx I hx q) (aA gD (aA (pv 2) aD)))) aV)
   (aB (pU (pv 0) (Ap or hr mW (aA (cM (pv 1) rfl) aD)) rfl)
   (aE (pU (pv 0) (cH lO (cM (pv 1) rfl) aH (λ_ _=>rfl)) rfl))))),?_⟩
  (try rw[bZ]);(try rw[cxK1])
  refine⟨_,rfl,x0,mp,n,ms,rfl,hW,hok,λev r v H1 xi xc hv s1=>?_⟩;obtain⟨pr,rfl⟩ | rfl:(∃ pr,r=some pr)∨r=none:=by
   cases r with
   | none=>exact .inr rfl
   | some pr=>exact .inl ⟨pr,rfl⟩
  ·obtain⟨kd,so⟩:=pr
   have xp:v≠.non:=λz=>by
    obtain⟨p1,b1,e1,_⟩:=hv;rw[z] at e1;cases e1
   refine⟨_,rfl,_,rfl,itP (by rw[AH xp];rfl) ?_⟩;refine⟨_,rfl,_,_,rfl,λd hd=>?_⟩;exact qe ev _ v d _ xi xc (λz=>by cases z) (s1.trans (aK hd)) (hv.on (aK hd)) aC
  obtain⟨us,p,w8⟩:=Ck xi xc;obtain rfl:v = .non:=hv;refine⟨_,rfl,_,rfl,oE ?_⟩;obtain⟨⟨w4,xf⟩,wz⟩:=hW.on s1;have xg:=s1 y _ hy;refine⟨_,rfl,x0,ad.Web,w4,_,_,rfl,xf,tt.cl_Web,tt.na_Web_words,fK _ _,?_⟩;intro x dx nx xq xr;have s2:aL H1 (upd (upd H1 dx (.own x)) x (.ins ad.Web dx [])):=λb o e=>by
   rw[aG (aI e nx),aG (aI e xq)];exact e
  refine⟨x,dx,mp,ms,n,rfl,aC,.inr (SqT.of (s2 mp _ wz)),hok,λtp xh H2 xj xo k2 xl w6=>⟨rfl,?_⟩⟩;obtain rfl:xh=ms:=Wd.gL xj xo xk;have ww:aL H1 H2:=λb o e=>k2 b o (s2 b o e) (aI e nx)
  have wp:=ww y _ xg;have xb:x≠y:=λz=>by rw[z,xg] at nx;cases nx
  have wx:tp≠y:=λz=>by rw[z,wp] at w6;cases w6
  refine⟨_,rfl,y,ad.Desk,dy,_,rfl,wp,tt.cl_Desk,tt.na_Desk_web,(by show 0<1000;decide),?_⟩;have xa:upd H2 y (.ins ad.Desk dy (dY "web" (.ref x) [])) mp=some (.tup (xh.map T)):=by
   have e1:=ww mp _ wz;rw[aG (λz=>by rw[z,wp] at e1;cases e1)];exact e1
  have xm:upd H2 y (.ins ad.Desk dy (dY "web" (.ref x) [])) x0=some (.ins ad.Web w4 (wZ mp (n:Nat))):=by
   have e1:=ww x0 _ xf;rw[aG (λz=>by
    rw[z,wp] at e1;have h1:([]:List (Str×V))=wZ mp (n:Nat):=by injection (av e1)
    have h2:=fK mp (n:Nat);rw[<- h1] at h2;cases h2)]
   exact e1
  refine⟨_,rfl,x0,ad.Web,w4,_,_,rfl,xm,tt.cl_Web,tt.na_Web_words,fK _ _,mp,_,_,_,rfl,rfl,SqT.of xa,bL (j:=0) (by rw[ah,h0];rfl),_,rfl,y,ad.Desk,dy,_,rfl,aC,tt.cl_Desk,tt.na_Desk_text,(by show 1<1000;decide),?_⟩;refine q us p w8 x tp _ (λb o hb e=>?_) ⟨⟨dy,aC⟩,⟨dx,?_⟩,?_⟩
  ·rw[aG hb,aG hb]
   exact ww b o (s1 b o e)
  ·rw[aG xb,aG xb]
   exact xl
  ·rw[aG wx,aG wx]
   exact w6
theorem lR {t:List Nat}{n:Nat}{e:List Nat}{xs:List (List Nat)}(h:Wd.bV t n=xs++[e]):cS t n=e:=by
 unfold cS;rw[h];simp
theorem Pg {t:List Nat}{n:Nat}(hn:1<=n)(h:n<=t.length):cS t n=t.drop (t.length-n):=by
 obtain⟨r,c,rfl⟩:∃ r c,t=r++[c]:=⟨t.dropLast,t.getLast (λz=>by rw[z] at h;have:n<=0:=h;omega),(gh _).symm⟩;rw[ai,cm] at h ⊢;rw[lR (Wd.lQ hn h),ik (by omega)]
theorem Jz {t:List Nat}{n:Nat}(hn:1<=n)(h:n<=t.length):(cS t n).drop 1=t.drop (t.length+1-n):=by
 rw[Pg hn h,List.drop_drop]
 congr 1
 omega
theorem qJ {t e:List Nat}{n:Nat}(hn:1<=n)(h:n<=t.length)(hl:e.length=n)(hb:Wd.beg e=(cS t n).drop 1):Wd.bV (t++[Wd.bU e]) n=Wd.bV t n++[e]:=by
 rw[Wd.lQ hn (by omega),<- Jz hn h,<- hb,<- Wd.Sx (by omega)]
theorem uA {t e:List Nat}{n:Nat}(hn:1<=n)(h:n<=t.length)(hl:e.length=n)(hb:Wd.beg e=(cS t n).drop 1):cS (t++[Wd.bU e]) n=e:=lR (qJ hn h hl hb)
theorem wD {ms:List (List Nat)}{t e:List Nat}{n:Nat}(hn:1<=n)(h:n<=t.length)(hl:e.length=n)(hb:Wd.beg e=(cS t n).drop 1):bA ms (t++[Wd.bU e]) n=Dt.rm (bA ms t n) e:=by
 unfold bA Dt.rm;rw[qJ hn h hl hb,gi];refine im λx _=>?_
 by_cases e1:x=e <;> by_cases e2:x∈Wd.bV t n <;> simp[e1,e2]
theorem Cy {e:List Nat}:∀ {l:List (List Nat)} {i:Nat},l.Pairwise (· < ·)->l[i]?=some e->l.filter (λx=>decide (x<e))=l.take i
 | [],i,_,h=>by simp at h
 | a::l,0,hp,h=>by
  obtain rfl:a=e:=by simpa using h
  rw[jc,iy];intro x hx z;have z:=AF z;rcases au.mp hx with rfl | hx
  ·exact gf _ z
  ·exact gf _ (wm z ((gz.mp hp).1 x hx))
 | a::l,i+1,hp,h=>by
  have h':l[i]?=some e:=by simpa using h
  have Z:a<e:=(gz.mp hp).1 e (ay h');rw[dq (p:=λx=>decide (x<e)) (AE Z),List.take_succ_cons,Cy (gz.mp hp).2 h']
def eO (ms:List (List Nat))(t:List Nat)(n:Nat)(m0:List Nat):Prop:=ms[0]?=some m0∧ms.Pairwise (· < ·)∧bA ms t n≠[]∧Wd.Bal (bA ms t n) ((cS t n).drop 1) (beg m0)∧Wd.gY (bA ms t n) ((cS t n).drop 1)∧(((Wd.bV t n).drop 1).Nodup∧∀ z∈(Wd.bV t n).drop 1,z∈ms.drop 1)∧((Wd.bV t n).drop 1).foldl Dt.rm (ms.drop 1)=bA ms t n
def sE (ms:List (List Nat))(t:List Nat)(n:Nat)(m0:List Nat)(l:List (List Nat)):Nat:=(l.map λx=>Dt.eN (Dt.rm (bA ms t n) x) (Wd.fin x) (beg m0)).sum
theorem eO.nd {ms:List (List Nat)}{t m0:List Nat}{n:Nat}(h:eO ms t n m0):ms.Nodup:=h.2.1.imp λz e=>absurd (e▸z) (gf _)
open Classical in
theorem vY {ms:List (List Nat)}{t e:List Nat}{n:Nat}(h:e∈nxL ms t n):e∈bA ms t n∧Wd.beg e=(cS t n).drop 1∧Wd.gY (Dt.rm (bA ms t n) e) (Wd.fin e):=by
 obtain⟨h1,h2⟩:=cb.mp h;obtain⟨h3,Z⟩:=cb.mp h1;exact⟨h3,AF Z,AF h2⟩
theorem Xv {ms:List (List Nat)}{t m0:List Nat}{n:Nat}(h:eO ms t n m0):(nxL ms t n).Pairwise (· < ·):=((h.2.1.filter _).filter _).filter _
theorem Zs {ms:List (List Nat)}{t m0 e:List Nat}{n i:Nat}(h:eO ms t n m0)(he:(nxL ms t n)[i]?=some e):Dt.rk (beg m0) (ms.drop 1) ((Wd.bV t n).drop 1++[e])=Dt.rk (beg m0) (ms.drop 1) ((Wd.bV t n).drop 1)+sE ms t n m0 ((nxL ms t n).take i):=by
 have Z:(bA ms t n).Nodup:=h.nd.sublist ff;obtain⟨h1,h2,h3⟩:=vY (ay he);rw[Dt.Ig,h.2.2.2.2.2.2,h2,Dt.tN Z];unfold sE;rw[<- Cy (Xv h) he];unfold nxL;refine congrArg (λl:List (List Nat)=>Dt.rk (beg m0) (ms.drop 1) ((Wd.bV t n).drop 1)+(l.map λx=>Dt.eN (Dt.rm (bA ms t n) x) (Wd.fin x) (beg m0)).sum) ?_;rw[gi,gi];refine im λx _=>?_
 rw[wj];rfl
theorem Xd {ms:List (List Nat)}{t m0:List Nat}{n:Nat}(h:eO ms t n m0):Dt.eN (bA ms t n) ((cS t n).drop 1) (beg m0)=sE ms t n m0 (nxL ms t n):=by
 have Z:(bA ms t n).Nodup:=h.nd.sublist ff;rw[Dt.Js Z h.2.2.1,Dt.tN Z];rfl
theorem Fz {ms:List (List Nat)}{n c:Nat}{t:List Nat}(h:eG ms n t)(hl:t.length<=900):eG ms n (t++[c]):=⟨h.1,by rw[ai];have:=h.2.1;omega,by rw[ai];show _+1<=1000;omega,h.2.2.2⟩
theorem Ds {ms:List (List Nat)}{t m0 e:List Nat}{n:Nat}(hok:eG ms n t)(h:eO ms t n m0)(he:e∈nxL ms t n):(Wd.bV (t++[Wd.bU e]) n).drop 1=(Wd.bV t n).drop 1++[e]∧(((Wd.bV (t++[Wd.bU e]) n).drop 1).Nodup∧∀ z∈(Wd.bV (t++[Wd.bU e]) n).drop 1,z∈ms.drop 1):=by
 obtain⟨h1,h2,_⟩:=vY he;obtain⟨⟨xs,hx⟩,_⟩:=nX hok.1.1 hok.2.1;have hl:e.length=n:=hok.2.2.2.2.2 e (cb.mp h1).1;have Z:(Wd.bV (t++[Wd.bU e]) n).drop 1=(Wd.bV t n).drop 1++[e]:=by
  rw[qJ hok.1.1 hok.2.1 hl h2,ik (by rw[hx,ai];show 1<=_+1;omega)]
 refine⟨Z,?_⟩;rw[Z];have h3:=h.2.2.2.2.2.2;rw[Dt.Sk] at h3;rw[<- h3] at h1;obtain⟨h4,h5⟩:=cb.mp h1;have h6:e∉(Wd.bV t n).drop 1:=λz=>by rw[AE z] at h5;cases h5
 refine⟨fg.mpr ⟨h.2.2.2.2.2.1.1,by simp,λa' ha d hd q=>h6 (by rw[<- ax.mp hd,<- q];exact ha)⟩,λz hz=>?_⟩;rcases br.mp hz with hz | hz
 ·exact h.2.2.2.2.2.1.2 z hz
 ·rw[ax.mp hz];exact h4
theorem Ln {ms:List (List Nat)}{t m0 e:List Nat}{n i:Nat}(Z:(nxL ms t n)[i]?=some e):sE ms t n m0 ((nxL ms t n).take (i+1))=sE ms t n m0 ((nxL ms t n).take i)+Dt.eN (Dt.rm (bA ms t n) e) (Wd.fin e) (beg m0):=by
 unfold sE;rw[cn,Z,a7,ng];rfl
def szL:List (Int×Int):=[(4,2),(3,2),(2,3),(2,4),(1,5),(2,2),(1,6),(1,1),(3,1)]
def Hu (Z kn:Nat):Prop:=(1<=kn∧kn<=6)∧1<=Z∧Z<=8∧kn ^ Z<=30
theorem Yb:∀ z∈szL,∃ nn kn:Nat,z=(((nn:Nat):Int),((kn:Nat):Int))∧Hu nn kn:=by
 intro z hz;have Z:∀ z∈szL,0<=z.1∧0<=z.2∧(1<=z.2.toNat∧z.2.toNat<=6)∧1<=z.1.toNat∧z.1.toNat<=8∧z.2.toNat ^ z.1.toNat<=30:=by decide
 obtain⟨h1,h2,h3⟩:=Z z hz;exact⟨z.1.toNat,z.2.toNat,by rw[nq h1,nq h2],h3⟩
def Hz:Sp:=λvs H Q _=>∃ c:Int,vs=[.int c]∧∀ (tp:Addr) (Z kn:Nat) (H':Hp),aL H H'->H' tp=some (.tup [.int (Z:Nat),.int (kn:Nat)])->Hu Z kn->Q (.ref tp) H'
theorem Aq {f:Addr}{fd:wh}(F:Fun K "_law_size" "_law_size" kU f fd)(tt:Txt K mg ad):bI P w K mg base (CX2 P w) 1 f fd ["n"] Hz:=by
 refine F.okN2 oX (λvs H Q E h=>?_) (λcdv A outer s H vs Q E hr h=>?_)
 ·obtain⟨c,rfl,_⟩:=h
  rfl
 ·obtain⟨c,rfl,q⟩:=h
  have hs:=AG;refine⟨_,(aB (aJ (i:=1) oX.nd rfl (Or.inl rfl) (dB (Dv [((_,_,_),(_,_,_),_,_),((_,_,_),(_,_,_),_,_),((_,_,_),(_,_,_),_,_),((_,_,_),(_,_,_),_,_),((_,_,_),(_,_,_),_,_),((_,_,_),(_,_,_),_,_),((_,_,_),(_,_,_),_,_),((_,_,_),(_,_,_),_,_),((_,_,_),(_,_,_),_,_)])))
   (aE (aQ (cH bW (pv 1) (aN bY (pv 0) (aP aW (by rfl) tt.b_len bc (aAA (pv 1) aD))) (λ_ _=>rfl))))),?_⟩
  (try rw[bZ]);(try rw[cxK1])
  refine yP _ λvs H1 Z s1 mp=>?_
  have Z:vs.length=9:=Z;refine⟨(by rw[Z,hs];decide),λD hD=>?_⟩;have t1:=aK (o:=.lst vs) hD;obtain⟨i,hi,gV⟩:∃ i:Nat,c % 9=(i:Int)∧i<9:=⟨(c % 9).toNat,by omega,by omega⟩;obtain⟨z,hz⟩:∃ z,szL[i]?=some z:=⟨_,aa (show i<szL.length from gV)⟩;obtain⟨tp,e1,e2⟩:=mp i z (show szL[i]?=some z from hz);obtain⟨nn,kn,rfl,hok⟩:=Yb z (ay hz);exact⟨_,rfl,_,rfl,_,rfl,D,_,rfl,.inl (SqL.of aC),_,_,rfl,rfl,(by rw[Z];show (0:Int)<9;decide),D,_,_,_,rfl,rfl,SqL.of aC,(show atI vs (c % ((vs.length:Nat):Int))=some (.ref tp) by rw[Z];show atI vs (c % 9)=_;rw[hi];exact bL e1),q tp nn kn _ (s1.trans t1) (t1 _ _ e2) hok⟩
theorem eO.next {ms:List (List Nat)}{t m0 e:List Nat}{n:Nat}(hok:eG ms n t)(h:eO ms t n m0)(he:e∈nxL ms t n)(wp:Dt.rm (bA ms t n) e≠[]):eO ms (t++[Wd.bU e]) n m0:=by
 obtain⟨h0,Z,_,gV,_,ww,or⟩:=id h;obtain⟨h1,h2,h3⟩:=vY he;have hl:e.length=n:=hok.2.2.2.2.2 e (cb.mp h1).1;have mp:(bA ms t n).Nodup:=h.nd.sublist ff;have e1:=wD (ms:=ms) hok.1.1 hok.2.1 hl h2;have e2:=uA hok.1.1 hok.2.1 hl h2;obtain⟨g1,g2⟩:=Ds hok h he;refine⟨h0,Z,by rw[e1];exact wp,?_,?_,g2,?_⟩
 ·rw[e1,e2]
  exact (gV.step h1 h2).perm ((jk h1).symm.trans (Dt.mC mp h1)).cons_inv
 ·rw[e1,e2]
  exact h3
 ·rw[g1,o8,or,e1]
  rfl
theorem eO.first {ms:List (List Nat)}{m0:List Nat}{n:Nat}(hn:1<=n)(hl:m0.length=n)(h0:ms[0]?=some m0)(Z:ms.Pairwise (· < ·))(gV:ms.drop 1≠[])(hb:Wd.Bal (ms.drop 1) (Wd.fin m0) (beg m0))(hc:Wd.gY (ms.drop 1) (Wd.fin m0)):eO ms m0 n m0∧bA ms m0 n=ms.drop 1:=by
 obtain⟨rs,rfl⟩:∃ rs,ms=m0::rs:=by
  cases ms with
  | nil=>cases h0
  | cons a rs=>exact⟨rs,by cases h0;rfl⟩
 have e0:Wd.bV m0 n=[m0]:=by
  obtain⟨r,c,rfl⟩:∃ r c,m0=r++[c]:=⟨m0.dropLast,m0.getLast (λz=>by rw[z] at hl;have:(0:Nat)=n:=hl;omega),(gh _).symm⟩;rw[ai] at hl;have hl:r.length+1=n:=hl;rw[Wd.lQ hn (by omega)];have e1:Wd.bV r n=[]:=by
   unfold Wd.bV;rw[show r.length+1-n=0 by omega];rfl
  rw[e1,show r.length+1-n=0 by omega];rfl
 have e2:cS m0 n=m0:=lR (xs:=[]) e0;have e3:bA (m0::rs) m0 n=rs:=by
  unfold bA;rw[e0,db (by simp),jv.mpr];intro x hx;have mp:=(gz.mp Z).1 x hx;have gV:x≠m0:=λz=>gf _ (z▸mp)
  simp[gV]
 refine⟨⟨rfl,Z,by rw[e3];exact gV,by rw[e3,e2];exact hb,by rw[e3,e2];exact hc,?_,?_⟩,e3⟩
 ·rw[e0]
  exact⟨il,λz hz=>by cases hz⟩
 ·rw[e0,e3]
  rfl
def Hn (K:ac):Sp:=λvs H Q _=>∃ (a:Addr) (ns:List Int),vs=[.ref a]∧SqL K H a (ns.map V.int)∧ns.length<=63∧∀ H',Q (.bl true) H'
theorem Hj {us:List (List Nat)}{kn Z:Nat}(hp:kn ^ Z<=30)(hn:us.Nodup)(hm:∀ x∈us,x∈Wd.cQ kn Z):us.length<=30:=by
 have:=hn.length_le_of_subset hm
 rw[Wd.jM] at this;omega
theorem Xc {us:List (List Nat)}{kn nn:Nat}(Z:Hu nn kn)(mp:us≠[])(ha:us.Pairwise (· < ·))(hm:∀ x∈us,x∈Wd.cQ kn nn):mO us nn∧us.length<=30:=by
 have gV:us.Nodup:=ha.imp λz e=>absurd (e▸z) (gf _)
 have hl:=Hj Z.2.2.2 gV hm;refine⟨⟨mp,by omega,⟨⟨Z.2.1,Z.2.2.1⟩,Px.len (by omega)⟩,λx hx=>?_,gV⟩,hl⟩;obtain⟨h1,h2⟩:=(Wd.oN (by have:=Z.1;omega)).mp (hm x hx);exact⟨h1,λc hc=>by have:=h2 c hc;have:=Z.1;omega⟩
theorem Dy {so:List (List Nat)}{lo hi:Option Int}:∃ Z:List (List Nat),iX (so.map T) lo hi=Z.map T∧Z.Sublist so:=by
 refine⟨_,by rw[iX,aR,<- i7,<- jq],(ly ..).trans (uy ..)⟩
theorem Ke {us:List (List Nat)}{k:Nat}(h:us.Pairwise (· < ·)):(us.eraseIdx k).Pairwise (· < ·):=h.sublist (rf ..)
def Pe (K:ac):Sp:=λvs H Q _=>∃ (a:Addr) (ns:List Int) (c:Int) (Z kn:Nat),vs=[.ref a,.int c,.int (Z:Nat),.int (kn:Nat)]∧SqL K H a (ns.map V.int)∧ns.length<=63∧Hu Z kn ∧
 ∀ (D:Addr) (us:List (List Nat)) (H':Hp),aL H H'->H' D=some (.lst (us.map T))->us≠[]->us.Pairwise (· < ·)->(∀ x∈us,x∈Wd.cQ kn Z)->Q (.ref D) H'
theorem vU {f:Addr}{fd:wh}(F:Fun K "_law_uneven" "_law_uneven" gF f fd)(tt:Txt K mg ad)(Z:Cal P w K mg base (CX2 P w) "_law_even_words" 3 ["script", "n", "length", "kinds"] (Jx K))(gV:Cal P w K mg base (CX2 P w) "_law_words" 1 ["length", "kinds"] vI):bI P w K mg base (CX2 P w) 4 f fd ["script", "n", "length", "kinds"] (Pe K):=by
 refine F.okN2 fO (λvs H Q E h=>?_) (λcdv A outer s H vs Q E hr h=>?_)
 ·obtain⟨a,ns,c,nn,kn,rfl,_⟩:=h
  rfl
 ·obtain⟨a,ns,c,nn,kn,rfl,hS,xh,hz,q⟩:=h
  have hs:=AG;have xc:kn ^ nn<64:=by have:=hz.2.2.2;omega
  refine⟨_,(aB (aJ (i:=4) fO.nd rfl (Or.inr rfl) (aM Z hr aS (aA (pv 0) (aA (pv 1) (aA (pv 2) (aA (pv 3) aD))))))
   (aB (bR (PW.pt (Po (aU eP (aN bY (aN dI (pv 1) aH) aH) aH (aY _)) (Ih (aU pP (aP aW (by rfl) tt.b_len bc (aA (pv 4) aD)) aH (aY _))))) (aE (eU (rS de rg rh Rh (pv 4) (aA (aN bY (aN dI (pv 1) aH) (aP aW (by rfl) tt.b_len bc (aA (pv 4) aD))) aD)))) aV)
   (aB (bR (aU eP (aN bY (aN dI (pv 1) aH) aH) aH (aY _)) (aB (iR (i:=5) qU rfl (cN (aM gV hr aS (aA (pv 2) (aA (pv 3) aD)))) (λcl C s' H' fp=>(aU (mM K rfl) (pv 0) (pv 5) (by with_unfolding_all rfl))) (λcl C s' H' fp=>(pv 0)) fO.nd rfl rfl)
   (aE (aJ (i:=4) fO.nd rfl (Or.inr rfl) (aP fP (by rfl) tt.b_sorted fb (aA (aN lY (pv 4) (cD gZ (cD gZ (pv 5) (cK (aN bY (aN dI (pv 1) aH) (aP (Lv rfl) (by rfl) tt.b_max PyProof.Rows.boot_max (aA aH (aA (aP aW (by rfl) tt.b_len bc (aA (pv 5) aD)) aD))))) dA) dA (cK aH))) aD))))) aV)
   (aE (aQ (pv 4)))))),?_⟩
  (try rw[bZ]);(try rw[cxK1])
  refine⟨_,rfl,_,rfl,_,rfl,_,rfl,a,ns,c,nn,kn,rfl,hS,xh,⟨hz.1,hz.2.1,hz.2.2.1,xc⟩,λD us H1 s1 xy or wz ww wp=>?_⟩;have xb:us.Nodup:=ww.imp λz e=>absurd (e▸z) (gf _)
  have yb:=Hj hz.2.2.2 xb wp;have x6:=dt.mpr wz;have w4:(us.map T).length=us.length:=aR ..;refine⟨_,rfl,_,_,rfl,rfl,⟨by decide,by decide⟩,_,_,rfl,rfl,(by show (0:Int)<4;decide),_,rfl,_,rfl,_,rfl,?_⟩;by_cases h1:c/300 % 4=1
  ·refine itP (AE h1) ?_
   refine⟨_,rfl,D,_,rfl,.inl (SqL.of or),_,_,rfl,rfl,_,rfl,?_⟩;rw[w4];by_cases h2:1<us.length
   ·refine itP (AE (by omega)) ?_
    have z0:=du (c/1200) (show ((us.length:Nat):Int)≠0 by omega);have z1:=c9 (c/1200) (show (0:Int)<((us.length:Nat):Int) by omega);obtain⟨r,xr⟩:∃ r:Nat,c/1200 % ((us.length:Nat):Int)=(r:Int):=⟨_,(nq z0).symm⟩;have xi:r<us.length:=by omega
    refine⟨_,rfl,.inl ⟨rfl,_,SqL.of or⟩,_,rfl,_,_,rfl,rfl,⟨by decide,by decide⟩,_,rfl,D,_,rfl,.inl (SqL.of or),_,_,rfl,rfl,(by rw[w4];omega),D,us.map T,(r:Int),r,T us[r],rfl,(by rw[w4];show [V.int (c/1200 % ((us.length:Nat):Int))]=_;rw[xr]),or,by omega,by omega,(by rw[w4];have z9:=ve (n:=us.length) (i:=(r:Int)) (by omega) (by omega);rwa [bj] at z9),(by rw[ah,aa xi];rfl),?_⟩;refine⟨_,rfl,_,_,rfl,rfl,⟨by decide,by decide⟩,_,_,rfl,rfl,(by show (0:Int)<4;decide),_,rfl,_,rfl,_,rfl,?_⟩;refine itN (by rw[AH (by omega)];exact ag) ?_;refine⟨_,rfl,q D (us.eraseIdx r) _ (λb o e=>by rw[aG (aI e xy)];exact s1 b o e) ?_ ?_ (Ke ww) λx hx=>wp x ((rf ..).subset hx)⟩
    ·rw[aC,show (us.map T).eraseIdx r=(us.eraseIdx r).map T by rw[js,js,a7,jq,i7]]
    ·intro z
     have:=congrArg i6 z
     rw[ig,AD xi] at this;simp at this;omega
   ·refine itN (by rw[AH (by omega)];exact ag) ?_
    refine⟨_,rfl,_,_,rfl,rfl,⟨by decide,by decide⟩,_,_,rfl,rfl,(by show (0:Int)<4;decide),_,rfl,_,rfl,_,rfl,?_⟩;refine itN (by rw[AH (by omega)];exact ag) ?_;exact⟨_,rfl,q D us _ s1 or wz ww wp⟩
  refine itN (by rw[AH h1];exact ag) ?_;refine oE ?_;refine⟨_,rfl,_,_,rfl,rfl,⟨by decide,by decide⟩,_,_,rfl,rfl,(by show (0:Int)<4;decide),_,rfl,_,rfl,_,rfl,?_⟩;by_cases h2:c/300 % 4=2
  ·refine itP (AE h2) ?_
   refine⟨_,rfl,_,rfl,nn,kn,rfl,⟨hz.1,by have:=hz.2.2.1;omega,by omega⟩,λW H2 x9 s2 hd2=>?_⟩;refine⟨W,rfl,⟨_,SqL.of hd2⟩,?_⟩;have ya:(Wd.cQ kn nn).length=kn ^ nn:=Wd.jM ..;refine nG (λv=>!decide (unT v∈us)) (λv=>v) (cJ (SqL.of hd2)) (by rw[aR];omega) (λv G hv sg N hN=>?_) (λv G hv hp sg N hN=>?_) λD3 H3 x8 s3 w6=>?_
   ·obtain⟨l,hl,rfl⟩:=aw.mp hv
    have z:=hN G (aL.refl _);rw[eW,<- mH] at z;exact⟨_,rfl,_,rfl,D,_,rfl,.inl (SqL.of ((s2.trans sg) D _ or)),rfl,fL _,_,rfl,z⟩
   ·exact⟨_,rfl,hN G (aL.refl _)⟩
   rw[show ((Wd.cQ kn nn).map T).filter (λv=>!decide (unT v∈us))=((Wd.cQ kn nn).filter λl=>!decide (l∈us)).map T from eM (p:=λl=>!decide (l∈us)) _,qo] at w6;generalize xg:(Wd.cQ kn nn).filter (λl=>!decide (l∈us))=mo at w6;have xa:∀ x∈mo,x∈Wd.cQ kn nn∧x∉us:=λx hx=>by
    rw[<- xg] at hx;obtain⟨g1,g2⟩:=cb.mp hx;exact⟨g1,λz=>by rw[AE z] at g2;cases g2⟩
   have xj:mo.Nodup:=by
    rw[<- xg];exact ((Wd.rR (k:=kn) (n:=nn) (by have:=hz.1;omega)).imp λz e=>absurd (e▸z) (gf _)).sublist ff
   have xm:=s1.trans (s2.trans s3);have xf:=(s2.trans s3) D _ or;have yd:0<kn ^ nn:=lr (by have:=hz.1;omega);have xt:mo.length<=30:=Hj hz.2.2.2 xj λx hx=>(xa x hx).1
   have xq:(0:Int)<(if (((mo.map T).length:Nat):Int)>1 then (((mo.map T).length:Nat):Int) else 1):=by split <;> omega
   refine⟨_,rfl,_,rfl,_,rfl,_,_,rfl,rfl,⟨by decide,by decide⟩,_,rfl,D3,_,rfl,.inl (SqL.of w6),_,_,rfl,_,_,rfl,rfl,xq,_,rfl,D3,_,rfl,SqL.of w6,λp4 xu=>?_⟩;obtain⟨cs,xl,wx⟩:=Dy (so:=mo) (lo:=some (c/1200 % (if (((mo.map T).length:Nat):Int)>1 then (((mo.map T).length:Nat):Int) else 1))) (hi:=none);rw[xl];have t4:=aK (o:=.lst (cs.map T)) xu;refine⟨_,rfl,p4,_,rfl,SqL.of aC,λp5 xx=>?_⟩;obtain⟨ds,xk,mp⟩:=Dy (so:=cs) (lo:=none) (hi:=some 1);rw[xk];have t5:=aK (o:=.lst (ds.map T)) xx;have yc:ds.length<=30:=a5 (mp.trans wx).length_le xt;refine⟨D,p5,_,_,rfl,rfl,SqL.of ((t4.trans t5) D _ xf),SqL.of aC,(by rw[aR,aR];omega),λp6 xw=>?_⟩;rw[<- a7];have t6:=aK (o:=.lst ((us++ds).map T)) xw;refine⟨p6,us++ds,rfl,SqL.of aC,(by rw[ai];omega),λms D7 xo w8 xp=>?_⟩;have xz:(us++ds).Nodup:=fg.mpr ⟨xb,(mp.trans wx).nodup xj,λx hx y hy e=>(xa y ((mp.trans wx).subset hy)).2 (e▸hx)⟩;refine⟨_,rfl,q D7 ms _ (xm.trans (t4.trans (t5.trans (t6.trans (aK xo))))) aC (λz=>wz ?_) (Dt.Ro (w8.nodup_iff.mpr xz) xp) λx hx=>?_⟩
   ·have:=w8.length_eq
    rw[z,ai] at this;exact a8.mp (by simp at this;omega)
   ·rcases br.mp (w8.mem_iff.mp hx) with g | g
    ·exact wp x g
    ·exact (xa x ((mp.trans wx).subset g)).1
  ·refine itN (by rw[AH h2];exact ag) ?_
   exact⟨_,rfl,q D us _ s1 or wz ww wp⟩
theorem No (F:Str)(v:V):gu F [(F,v)]=some v:=by
 have h:(F==F)=true:=AK.mpr rfl;simp only [gu,h]
def Wb (C W:Addr):Sp:=λvs H Q _=>∃ (x tp:Addr) (n:Nat) (ms Z:List (List Nat)) (m0:List Nat) (r:Pap) (v:V),vs=[.ref x,v]∧kM W H x tp n ms∧mO ms n∧ms.Pairwise (λa b=>¬ b<a)∧ms[0]?=some m0∧Pcs ms Z∧wG ms Z r∧uM H v r∧∀ H',aL H H'->Q (.bl true) H'
theorem sU {f:Addr}{fd:wh}(F:Fun K "_law_no_ring" "_law_no_ring" hJ f fd)(tt:Txt K mg ad)(Z:Cam P w K mg base (CX2 P w) "Desk" ad.Desk 7 ["self", "web"] (sX ad.Desk ad.Web ad)):bI P w K mg base (CX2 P w) 9 f fd ["web", "paper"] (Wb ad.Desk ad.Web):=by
 refine F.okX2 eZ (λvs H Q E h=>?_) (λcdv A outer s H vs Q E hr h=>?_)
 ·obtain⟨x,tp,n,ms,ev,m0,r,v,rfl,_⟩:=h
  rfl
 ·obtain⟨x0,xc,n,ms,ev,m0,r,v,rfl,hW,hok,xb,h0,wx,ww,hv,q⟩:=h
  have hs:=AG;refine⟨_,(aB (aJ (i:=2) eZ.nd rfl (Or.inl rfl) vF)
   (aB (Iz Qb (tQ (Nz Z hr (aA (pv 0) aD))) (Na (i:=3) tt.m_OnceError eZ.nd rfl rfl (λa=>(aE (aJ (i:=2) eZ.nd rfl (Or.inl rfl) (pv 3)))) Iq))
   (aB (bR (kX (Gm (pv 1))) (aE (aQ (Ru (Gm (pv 2))))) aV)
   (aE (aQ (qV (aP (fQ K rfl) (by rfl) tt.b_isinstance et (aA (pv 2) (aA (cX (v:=.ref ad.NoRing) (by rfl) tt.m_NoRing rfl) aD))) (qV (Gx (aP (xI K rfl) (by rfl) tt.b_isinstance et (aA (pv 2) (aA (qM (aA (cX (v:=.ref ad.NoSuch) (by rfl) tt.m_NoSuch rfl) (aA (cX (v:=.ref ad.BadDeed) (by rfl) tt.m_BadDeed rfl) aD))) aD)))) (uR (iM (Tg K rfl (eD hr)) (Su K rfl (pv 2)) (pv 1) (aY _)))))))))),?_⟩
  (try rw[bZ]);(try rw[cxK1])
  refine⟨_,rfl,?_⟩;intro y dy ny xa xl;have s1:aL H (upd (upd H dy (.own y)) y (.ins ad.Desk dy [])):=λb o e=>by
   rw[aG (aI e ny),aG (aI e xa)];exact e
  refine⟨y,dy,x0,xc,n,ms,m0,rfl,aC,hW.on s1,hok,xb,h0,λus p gV x tp H1 b1 xk=>⟨rfl,?_⟩,λxj r' v' dx H1 w4 or xh s2 xg w6=>?_⟩
  ·obtain rfl:=Le (show Tr p us p from gV.1) gV.2.symm wx ww
   obtain rfl:v = .non:=hv;refine⟨_,rfl,_,rfl,oQ ?_⟩;refine⟨_,rfl,?_⟩;exact q H1 λb o e=>b1 b o (aI e ny) (s1 b o e)
  ·refine .inl ⟨tt.q_o,λa xf=>?_⟩
   refine⟨_,rfl,?_⟩;have t1:=aK (o:=ExD a (.ref ad.NoRing) (some dx)) xf;have sA:=s1.trans (s2.trans t1);obtain rfl:=w4.uniq wx (ej ms);obtain rfl:=or.uniq ww (ej ms);obtain⟨pr,rfl⟩:∃ pr,r'=some pr:=by
    cases r' with
    | none=>exact absurd rfl xh
    | some pr=>exact⟨pr,rfl⟩
   obtain⟨kd,so⟩:=pr;obtain⟨p1,b1,rfl,w8,xi⟩:=id hv;obtain⟨p2,b2,rfl,wz,wp⟩:=id (xg.on t1);refine⟨_,rfl,_,rfl,oE ?_⟩;have hA:upd H1 a (ExD a (.ref ad.NoRing) (some dx)) a=some (ExD a (.ref ad.NoRing) (some dx)):=aC;have mp:=t1 dx _ w6;generalize upd H1 a (ExD a (.ref ad.NoRing) (some dx))=H2 at t1 sA hA mp wz wp;refine⟨_,rfl,a,ad.NoRing,some dx,.ref ad.NoRing,.ref ad.NoRing,true,rfl,rfl,hA,tt.n_NoRing,tt.q_n,_,rfl,oQ ?_⟩;refine⟨_,rfl,(by show 2<=sizeLine;omega),λt ht=>?_⟩;have t2:=aK (o:=.tup [.ref ad.NoSuch,.ref ad.BadDeed]) ht;refine⟨a,ad.NoRing,t,some dx,[ad.NoSuch,ad.BadDeed],false,rfl,aC,t2 a _ hA,tt.n_NoRing,tt.q_a,_,rfl,_,rfl,oQ ?_⟩;refine⟨_,rfl,a,ad.NoRing,dx,_,.ref p2,rfl,t2 a _ hA,t2 dx _ mp,tt.n_NoRing,tt.na_NoRing_paper,tt.hd_NoRing,No _ _,?_⟩;refine⟨_,rfl,p2,p1,b2,b1,kd,so,rfl,rfl,SqT.of (t2 p2 _ wz),SqT.of ((sA.trans t2) p1 _ w8),SqT.of (t2 b2 _ wp),SqT.of ((sA.trans t2) b1 _ xi),?_⟩;exact q _ (sA.trans t2)
def Vx (ms:List (List Nat))(t:List Nat)(n:Nat)(m0:List Nat):Prop:=eO ms t n m0∨(bA ms t n=[]∧(cS t n).drop 1=beg m0)
theorem Hx {a b:List Nat}(h:Wd.Bal [] a b):a=b:=by
 have:=h b
 simp[Wd.cnt] at this;exact this.symm
theorem eO.go {ms:List (List Nat)}{t m0 e:List Nat}{n:Nat}(hok:eG ms n t)(h:eO ms t n m0)(he:e∈nxL ms t n):Vx ms (t++[Wd.bU e]) n m0∧bA ms (t++[Wd.bU e]) n=Dt.rm (bA ms t n) e∧(bA ms (t++[Wd.bU e]) n).length+1=(bA ms t n).length∧cS (t++[Wd.bU e]) n=e:=by
 obtain⟨h0,mp,_,gV,_,wp,or⟩:=id h;obtain⟨h1,h2,h3⟩:=vY he;have hl:e.length=n:=hok.2.2.2.2.2 e (cb.mp h1).1;have Z:(bA ms t n).Nodup:=h.nd.sublist ff;have e1:=wD (ms:=ms) hok.1.1 hok.2.1 hl h2;have e2:=uA hok.1.1 hok.2.1 hl h2;refine⟨?_,e1,by rw[e1];exact Dt.mY Z h1,e2⟩;by_cases hne:Dt.rm (bA ms t n) e=[]
 ·refine .inr ⟨by rw[e1,hne],?_⟩
  rw[e2];have hb:=Dt.Pq Z h1 (by rw[h2];exact gV);rw[hne] at hb;exact Hx hb
 ·exact .inl (h.next hok he hne)
theorem Rv {ms:List (List Nat)}{m0:List Nat}{n:Nat}(hn:1<=n)(hl:m0.length=n)(h0:ms[0]?=some m0)(Z:ms.Pairwise (· < ·)):cS m0 n=m0∧bA ms m0 n=ms.drop 1:=by
 obtain⟨rs,rfl⟩:∃ rs,ms=m0::rs:=by
  cases ms with
  | nil=>cases h0
  | cons a rs=>exact⟨rs,by cases h0;rfl⟩
 have e0:Wd.bV m0 n=[m0]:=by
  obtain⟨r,c,rfl⟩:∃ r c,m0=r++[c]:=⟨m0.dropLast,m0.getLast (λz=>by rw[z] at hl;have:(0:Nat)=n:=hl;omega),(gh _).symm⟩;rw[ai] at hl;have hl:r.length+1=n:=hl;rw[Wd.lQ hn (by omega)];have e1:Wd.bV r n=[]:=by
   unfold Wd.bV;rw[show r.length+1-n=0 by omega];rfl
  rw[e1,show r.length+1-n=0 by omega];rfl
 refine⟨lR (xs:=[]) e0,?_⟩;unfold bA;rw[e0,db (by simp),jv.mpr]
 ·rfl
 intro x hx;have gV:=(gz.mp Z).1 x hx;have mp:x≠m0:=λz=>gf _ (z▸gV)
 simp[mp]
def Std (ms:List (List Nat))(t:List Nat)(n:Nat)(m0:List Nat):Prop:=eG ms n t∧Vx ms t n m0∧(((Wd.bV t n).drop 1).Nodup∧∀ z∈(Wd.bV t n).drop 1,z∈ms.drop 1)∧((Wd.bV t n).drop 1).foldl Dt.rm (ms.drop 1)=bA ms t n∧∃ r,t=m0++r
def lN (ms:List (List Nat))(t:List Nat)(n:Nat)(m0:List Nat):Nat:=Dt.rk (beg m0) (ms.drop 1) ((Wd.bV t n).drop 1)
def rC (ms:List (List Nat))(t:List Nat)(n:Nat)(m0:List Nat):Nat:=Dt.eN (bA ms t n) ((cS t n).drop 1) (beg m0)
theorem Std.first {ms us:List (List Nat)}{m0 p:List Nat}{n:Nat}(hok:eG ms n m0)(hl:m0.length=n)(h0:ms[0]?=some m0)(gV:ms.Pairwise (· < ·))(hw:Nh us ms p p):Std ms m0 n m0∧bA ms m0 n=ms.drop 1∧lN ms m0 n m0=0∧rC ms m0 n m0=Dt.eN (ms.drop 1) (Wd.fin m0) (beg m0):=by
 have wx:=ay h0;obtain⟨ws,mp,wz⟩:=Wd.Ss hw.1 hw.2 wx;have w4:ms=m0::ms.drop 1:=by
  cases ms with
  | nil=>cases h0
  | cons m r=>cases h0;rfl
 have or:ws.Perm (ms.drop 1):=by
  have z:=wz;rw[w4] at z;exact z.cons_inv
 have Z:Wd.Bal (ms.drop 1) (Wd.fin m0) (beg m0):=(Wd.Ak mp.2).perm or;have wp:Wd.gY (ms.drop 1) (Wd.fin m0):=(Wd.Ax mp.2).perm or;obtain⟨g1,g2⟩:=Rv hok.1.1 hl h0 gV;have e0:(Wd.bV m0 n).drop 1=[]:=by
  obtain⟨⟨xs,hx⟩,_⟩:=nX hok.1.1 hok.2.1;have ww:=Wd.Qh m0 n;rw[hx,ai] at ww
  have:xs.length+1=m0.length+1-n:=ww
  obtain rfl:xs=[]:=a8.mp (by omega);rw[hx];rfl
 refine⟨⟨hok,?_,?_,?_,[],by rw[da]⟩,g2,?_,?_⟩
 ·by_cases hz0:ms.drop 1=[]
  ·refine .inr ⟨by rw[g2,hz0],?_⟩
   rw[g1];rw[hz0] at Z;exact Hx Z
  ·exact .inl (eO.first hok.1.1 hl h0 gV hz0 Z wp).1
 ·rw[e0]
  exact⟨il,λz hz=>by cases hz⟩
 ·rw[e0,g2]
  rfl
 ·unfold lN
  rw[e0];rfl
 ·unfold rC
  rw[g1,g2];rfl
theorem Std.go {ms:List (List Nat)}{t m0 e:List Nat}{n j:Nat}(h:Std ms t n m0)(hs:eO ms t n m0)(hl:t.length<=900)(he:(nxL ms t n)[j]?=some e):Std ms (t++[Wd.bU e]) n m0∧(bA ms (t++[Wd.bU e]) n).length+1=(bA ms t n).length∧lN ms t n m0<=lN ms (t++[Wd.bU e]) n m0 ∧
  lN ms (t++[Wd.bU e]) n m0+rC ms (t++[Wd.bU e]) n m0<=lN ms t n m0+rC ms t n m0∧(j=0->lN ms (t++[Wd.bU e]) n m0=lN ms t n m0)∧(j+1=(nxL ms t n).length->lN ms (t++[Wd.bU e]) n m0+rC ms (t++[Wd.bU e]) n m0=lN ms t n m0+rC ms t n m0):=by
 obtain⟨hok,hA,mp,gV,r,hr⟩:=id h;have Z:=ay he;obtain⟨g1,g2,g3,g4⟩:=hs.go hok Z;obtain⟨k1,k2⟩:=Ds hok hs Z;have e1:lN ms (t++[Wd.bU e]) n m0=lN ms t n m0+sE ms t n m0 ((nxL ms t n).take j):=by
  unfold lN;rw[k1];exact Zs hs he
 have e2:rC ms (t++[Wd.bU e]) n m0=Dt.eN (Dt.rm (bA ms t n) e) (Wd.fin e) (beg m0):=by
  unfold rC;rw[g2,g4];rfl
 have e3:rC ms t n m0=sE ms t n m0 (nxL ms t n):=Xd hs;have e4:=Ln (m0:=m0) he;have e5:sE ms t n m0 (nxL ms t n)=sE ms t n m0 ((nxL ms t n).take (j+1))+sE ms t n m0 ((nxL ms t n).drop (j+1)):=by
  unfold sE;rw[<- ng,<- a7,ki]
 refine⟨⟨Fz hok hl,g1,k2,?_,r++[Wd.bU e],by rw[hr,d8]⟩,g3,by omega,by omega,λhj=>?_,λhj=>?_⟩
 ·rw[k1,o8,gV,g2]
  rfl
 ·rw[e1,hj,jc]
  rfl
 ·rw[b9 (by omega)] at e4
  omega
def qH (G:Hp)(a:Addr)(ms:List (List Nat))(n:Nat)(m0 t:List Nat):Prop:=∃ (F:Addr) (v:V),G a=some (.tup [T t,.ref F,.int (rC ms t n m0:Nat),.int (lN ms t n m0:Nat),v])∧G F=some (.lst (((nxL ms t n).map λl=>[Wd.bU l]).map T))∧((bA ms t n≠[]∧v = .non)∨(bA ms t n=[]∧v=T (gX t none (some ((ms.length:Nat):Int)))))
theorem aAw {x:List Nat}{a:Addr}:T x≠V.ref a:=λh=>by cases h
theorem Mu {ls:List (List Nat)}{as:List Addr}(Z:as≠[]):ls.map T≠as.map V.ref:=λh=>by
 cases as with
 | nil=>exact Z rfl
 | cons a as =>
  cases ls with
  | nil=>cases h
  | cons l ls=>exact aAw (wl h).1
theorem qH.to {G G':Hp}{a:Addr}{ms:List (List Nat)}{n:Nat}{m0 t:List Nat}{y S C dy:Addr}{fs:List (Str×V)}{as:List Addr}(h:qH G a ms n m0 t)(hy:G y=some (.ins C dy fs))(hS:G S=some (.lst (as.map V.ref)))(Z:as≠[])(s:∀ b o,b≠y->b≠S->G b=some o->G' b=some o):qH G' a ms n m0 t:=by
 obtain⟨F,v,h1,h2,h3⟩:=h;refine⟨F,v,s a _ (λz=>?_) (λz=>?_) h1,s F _ (λz=>?_) (λz=>?_) h2,h3⟩
 ·rw[z,hy] at h1;cases h1
 ·rw[z,hS] at h1;cases h1
 ·rw[z,hy] at h2;cases h2
 ·rw[z,hS] at h2
  exact Mu Z (show _=_ by injection (av h2)).symm
theorem qH.on {G G':Hp}{a:Addr}{ms:List (List Nat)}{n:Nat}{m0 t:List Nat}(h:qH G a ms n m0 t)(s:aL G G'):qH G' a ms n m0 t:=let ⟨F,v,h1,h2,h3⟩:=h;⟨F,v,s _ _ h1,s _ _ h2,h3⟩
def Bi (C W:Addr):Sp:=λvs H Q _=>∃ (y x tp:Addr) (n:Nat) (ms:List (List Nat)) (m0 t:List Nat),vs=[.ref y]∧bS C W H y x tp n ms t∧Std ms t n m0∧ms[0]?=some m0∧ms.Nodup∧∀ (p:Addr) (H':Hp),aL H H'->qH H' p ms n m0 t->Q (.ref p) H'
theorem wX {f:Addr}{fd:wh}(F:Fun K "_law_state" "_law_state" jV f fd)(tt:Txt K mg ad)(Z:Cmt P w K mg base (CX2 P w) ad.Desk "written" 1 ["self"] (qP ad.Desk ad.Web))(mp:Cmt P w K mg base (CX2 P w) ad.Desk "nexts" 5 ["self"] (tF ad.Desk ad.Web))(wp:Cmt P w K mg base (CX2 P w) ad.Desk "ways" 7 ["self"] (zT ad.Desk ad.Web))(gV:Cmt P w K mg base (CX2 P w) ad.Desk "ahead" 7 ["self"] (Bc ad.Desk ad.Web))(or:Cmt P w K mg base (CX2 P w) ad.Desk "done" 5 ["self"] (Hf ad.Desk ad.Web)):bI P w K mg base (CX2 P w) 8 f fd ["desk"] (Bi ad.Desk ad.Web):=by
 refine F.okN2 wR (λvs H Q E h=>?_) (λcdv A outer s H vs Q E hr h=>?_)
 ·obtain⟨y,x,tp,n,ms,m0,t,rfl,_⟩:=h
  rfl
 ·obtain⟨y,x,tp,n,ms,m0,t,rfl,hD,wz,h0,w6,q⟩:=h
  have hs:=AG;obtain⟨⟨dy,hy⟩,_⟩:=id hD;have hok:=wz.1;refine⟨_,(aE (aQ (qM (aA (dJ Z hr aS (pv 0)) (aA (dJ mp hr aS (pv 0)) (aA (dJ wp hr aS (pv 0)) (aA (dJ gV hr aS (pv 0)) (aA (dJ or hr aS (pv 0)) aD)))))))),?_⟩
  (try rw[bZ]);(try rw[cxK1])
  refine⟨_,rfl,y,dy,_,rfl,hy,bT _ _,y,x,tp,n,ms,t,rfl,hD,?_⟩;refine⟨_,rfl,y,dy,_,rfl,hy,bT _ _,y,x,tp,n,ms,t,rfl,hD,hok,λF0 H1 hF s1 w4=>?_⟩;refine⟨_,rfl,y,dy,_,rfl,s1 y _ hy,bT _ _,y,x,tp,n,ms,t,m0,rfl,hD.on s1,hok,h0,w6,λH2 s2=>?_⟩;have wx:=s1.trans s2;refine⟨_,rfl,y,dy,_,rfl,wx y _ hy,bT _ _,y,x,tp,n,ms,t,m0,rfl,hD.on wx,hok,h0,w6,wz.2.2.1,λH3 s3=>?_⟩;have ww:=wx.trans s3;refine⟨_,rfl,y,dy,_,rfl,ww y _ hy,bT _ _,y,x,tp,n,ms,t,rfl,hD.on ww,hok,λH4 s4=>⟨λhl=>?_,λhl=>?_⟩⟩
  ·refine⟨(by show 5<=sizeLine;omega),λp hp=>?_⟩
   have t5:=aK (o:=.tup [T t,.ref F0,.int (rC ms t n m0:Nat),.int (lN ms t n m0:Nat),.non]) hp;exact q p _ (ww.trans (s4.trans t5)) ⟨F0,.non,aC,t5 F0 _ ((s2.trans (s3.trans s4)) F0 _ w4),.inl ⟨hl,rfl⟩⟩
  ·refine⟨(by show 5<=sizeLine;omega),λp hp=>?_⟩
   have t5:=aK (o:=.tup [T t,.ref F0,.int (rC ms t n m0:Nat),.int (lN ms t n m0:Nat),T (gX t none (some ((ms.length:Nat):Int)))]) hp;exact q p _ (ww.trans (s4.trans t5)) ⟨F0,_,aC,t5 F0 _ ((s2.trans (s3.trans s4)) F0 _ w4),.inr ⟨hl,rfl⟩⟩
theorem qH.same {G:Hp}{a b:Addr}{ms:List (List Nat)}{n:Nat}{m0 t:List Nat}(h:qH G a ms n m0 t)(g:qH G b ms n m0 t):∃ (D F:Addr) (i j:Int) (v:V) (ls:List (List Nat)),SqT K G a [T t,.ref D,.int i,.int j,v]∧SqT K G b [T t,.ref F,.int i,.int j,v]∧SqL K G D (ls.map T)∧SqL K G F (ls.map T)∧(v = .non∨∃ r,v=T r):=by
 obtain⟨D,v,h1,h2,h3⟩:=h;obtain⟨F,u,g1,g2,g3⟩:=g;have gV:v=u∧(v = .non∨∃ r,v=T r):=by
  rcases h3 with ⟨a1,rfl⟩ | ⟨a1,rfl⟩
  ·rcases g3 with ⟨_,rfl⟩ | ⟨Z,_⟩
   ·exact⟨rfl,.inl rfl⟩
   ·exact absurd Z a1
  ·rcases g3 with ⟨Z,_⟩ | ⟨_,rfl⟩
   ·exact absurd a1 Z
   ·exact⟨rfl,.inr ⟨_,rfl⟩⟩
 obtain⟨rfl,hv⟩:=gV;exact⟨D,F,_,_,v,_,SqT.of h1,SqT.of g1,SqL.of h2,SqL.of g2,hv⟩
def Sf (C W:Addr):Sp:=λvs H Q _=>∃ (Z:Int) (y x tp:Addr) (n:Nat) (ms:List (List Nat)) (t c:List Nat),vs=[.int Z,.ref y,T c]∧bS C W H y x tp n ms t∧eG ms n t∧c.length<=1000∧(Z=0->c∉(nxL ms t n).map (λl=>[Wd.bU l]))∧(Z≠0->t.length=n)∧∀ H',aL H H'->Q (.bl true) H'
theorem sS {f:Addr}{fd:wh}(F:Fun K "_law_refused" "_law_refused" iG f fd)(tt:Txt K mg ad)(Z:Cmt P w K mg base (CX2 P w) ad.Desk "write" 6 ["self", "letter"] (tM ad.Desk ad.Web ad))(gV:Cmt P w K mg base (CX2 P w) ad.Desk "back" 1 ["self"] (Aj ad.Desk ad.Web ad)):bI P w K mg base (CX2 P w) 7 f fd ["way", "desk", "letter"] (Sf ad.Desk ad.Web):=by
 refine F.okX2 eY (λvs H Q E h=>?_) (λcdv A outer s H vs Q E hr h=>?_)
 ·obtain⟨wy,y,x,tp,n,ms,t,c,rfl,_⟩:=h
  rfl
 ·obtain⟨wy,y,x,tp,n,ms,t,c,rfl,hD,hok,or,wp,ww,q⟩:=h
  have hs:=AG;obtain⟨⟨dy,hy⟩,_⟩:=id hD;refine⟨_,(aB (aJ (i:=3) eY.nd rfl (Or.inl rfl) vF)
   (aB (Iz Qb (Xi (aU eP (pv 0) aH (aY _)) (tQ (Os Z hr (pv 1) (aA (pv 2) aD))) (tQ (Ld gV hr (pv 1)))) (Na (i:=4) tt.m_OnceError eY.nd rfl rfl (λa=>(aE (aJ (i:=3) eY.nd rfl (Or.inl rfl) (pv 4)))) Iq))
   (aB (bR (aU eP (pv 0) aH (aY _)) (aE (aQ (qV (aP (fQ K rfl) (by rfl) tt.b_isinstance et (aA (pv 3) (aA (cX (v:=.ref ad.BadDeed) (by rfl) tt.m_BadDeed rfl) aD))) (uR (Gx (aP (fQ K rfl) (by rfl) tt.b_isinstance et (aA (pv 3) (aA (cX (v:=.ref ad.NoSuch) (by rfl) tt.m_NoSuch rfl) aD)))))))) aV)
   (aE (aQ (qV (aP (fQ K rfl) (by rfl) tt.b_isinstance et (aA (pv 3) (aA (cX (v:=.ref ad.NoSuch) (by rfl) tt.m_NoSuch rfl) aD))) (uR (Gx (aP (fQ K rfl) (by rfl) tt.b_isinstance et (aA (pv 3) (aA (cX (v:=.ref ad.BadDeed) (by rfl) tt.m_BadDeed rfl) aD))))))))))),?_⟩
  (try rw[bZ]);(try rw[cxK1])
  refine⟨_,rfl,_,rfl,_,rfl,_,rfl,?_⟩;by_cases hz:wy=0
  ·refine itP (AE hz) ?_
   refine⟨_,rfl,y,dy,_,rfl,hy,bT _ _,_,rfl,y,x,tp,n,ms,t,c,rfl,hD,hok,or,λ_ H1 s1=>?_,λz=>absurd z (wp hz)⟩;refine .inl ⟨tt.q_do,λa mp=>?_⟩;have t1:=aK (o:=ExD a (.ref ad.BadDeed) none) mp;refine⟨_,rfl,?_⟩;refine⟨_,rfl,_,rfl,_,rfl,_,rfl,?_⟩;refine itP (AE hz) ?_;refine⟨_,rfl,a,ad.BadDeed,none,.ref ad.BadDeed,.ref ad.BadDeed,true,rfl,rfl,aC,tt.n_BadDeed,tt.q_dd,_,rfl,oQ ?_⟩;refine⟨_,rfl,a,ad.BadDeed,none,.ref ad.NoSuch,.ref ad.NoSuch,false,rfl,rfl,aC,tt.n_BadDeed,tt.q_ds,_,rfl,?_⟩;exact q _ (s1.trans t1)
  ·refine itN (λz=>hz (AF z)) ?_
   refine⟨_,rfl,y,dy,_,rfl,hy,bT _ _,y,x,tp,n,ms,t,rfl,hD,hok,λ_ H1 s1=>?_,λz=>absurd (ww hz) z⟩;refine .inl ⟨tt.q_so,λa mp=>?_⟩;have t1:=aK (o:=ExD a (.ref ad.NoSuch) none) mp;refine⟨_,rfl,?_⟩;refine⟨_,rfl,_,rfl,_,rfl,_,rfl,?_⟩;refine itN (λz=>hz (AF z)) ?_;refine⟨_,rfl,a,ad.NoSuch,none,.ref ad.NoSuch,.ref ad.NoSuch,true,rfl,rfl,aC,tt.n_NoSuch,tt.q_ss,_,rfl,oQ ?_⟩;refine⟨_,rfl,a,ad.NoSuch,none,.ref ad.BadDeed,.ref ad.BadDeed,false,rfl,rfl,aC,tt.n_NoSuch,tt.q_sd,_,rfl,?_⟩;exact q _ (s1.trans t1)
theorem bS.putL {C W:Addr}{H:Hp}{y x tp S:Addr}{n:Nat}{ms:List (List Nat)}{t:List Nat}{l l':List V}(h:bS C W H y x tp n ms t)(hS:H S=some (.lst l)):bS C W (upd H S (.lst l')) y x tp n ms t:=by
 obtain⟨⟨dy,hy⟩,⟨dx,hx⟩,ht⟩:=h;have Z:∀ {b o},H b=some o->(∀ l,o≠.lst l)->b≠S:=λ{b o} e1 e2 e3=>by rw[e3,hS] at e1;exact e2 _ (av e1).symm
 exact⟨⟨dy,by rw[aG (Z hy (λl z=>by cases z))];exact hy⟩,⟨dx,by rw[aG (Z hx (λl z=>by cases z))];exact hx⟩,by rw[aG (Z ht (λl z=>by cases z))];exact ht⟩
def Stk (G:Hp)(as:List Addr)(ms:List (List Nat))(n:Nat)(m0 t:List Nat):Prop:=n<=t.length∧as.length+n=t.length+1∧(∀ i a,as[i]?=some a->qH G a ms n m0 (t.take (n+i)))∧∀ i,n<=i->i<=t.length->Std ms (t.take i) n m0
def Eo (y S:Addr)(H G:Hp):Prop:=∀ b o,b≠y->b≠S->H b=some o->G b=some o
theorem Stk.std {G:Hp}{as:List Addr}{ms:List (List Nat)}{n:Nat}{m0 t:List Nat}(h:Stk G as ms n m0 t):Std ms t n m0:=by
 have:=h.2.2.2 t.length h.1 (af _)
 rwa [cr] at this
theorem Stk.last {G:Hp}{as:List Addr}{ms:List (List Nat)}{n:Nat}{m0 t:List Nat}(h:Stk G as ms n m0 t):as≠[]∧∃ a,as[as.length-1]?=some a∧qH G a ms n m0 t:=by
 obtain⟨h1,h2,h3,h4⟩:=h;have Z:0<as.length:=by omega
 refine⟨dt.mp Z,as[as.length-1],aa (by omega),?_⟩
 have:=h3 (as.length-1) _ (aa (by omega))
 rwa [show n+(as.length-1)=t.length by omega,cr] at this
theorem Stk.to {G G':Hp}{as bs:List Addr}{ms:List (List Nat)}{n:Nat}{m0 t:List Nat}{y S C dy:Addr}{fs:List (Str×V)}(h:Stk G as ms n m0 t)(hy:G y=some (.ins C dy fs))(hS:G S=some (.lst (bs.map V.ref)))(Z:bs≠[])(s:Eo y S G G'):Stk G' as ms n m0 t:=⟨h.1,h.2.1,λi a ha=>(h.2.2.1 i a ha).to hy hS Z s,h.2.2.2⟩
theorem Stk.on {G G':Hp}{as:List Addr}{ms:List (List Nat)}{n:Nat}{m0 t:List Nat}(h:Stk G as ms n m0 t)(s:aL G G'):Stk G' as ms n m0 t:=⟨h.1,h.2.1,λi a ha=>(h.2.2.1 i a ha).on s,h.2.2.2⟩
theorem Stk.pop {G:Hp}{as:List Addr}{ms:List (List Nat)}{n:Nat}{m0 t:List Nat}(h:Stk G as ms n m0 t)(hl:as.length≠1):Stk G as.dropLast ms n m0 (beg t):=by
 obtain⟨h1,h2,h3,h4⟩:=h;have hb:(beg t).length=t.length-1:=by show (t.take (t.length-1)).length=_;rw[cj];omega
 have htk:∀ i,i<=t.length-1->(beg t).take i=t.take i:=λi hi=>by show (t.take (t.length-1)).take i=_;rw[List.take_take,er hi]
 refine⟨by omega,by rw[ku,hb];omega,λi a ha=>?_,λi Z hi2=>?_⟩
 ·have hi:i<as.dropLast.length:=(ao.mp ha).1
  rw[ku] at hi;rw[htk _ (by omega)];refine h3 i a ?_;rw[mm,jl (by omega)] at ha;exact ha
 ·rw[htk _ (by omega)]
  exact h4 i Z (by omega)
theorem Stk.push {G:Hp}{as:List Addr}{ms:List (List Nat)}{n:Nat}{m0 t:List Nat}{p:Addr}{c:Nat}(h:Stk G as ms n m0 t)(hp:qH G p ms n m0 (t++[c]))(hs:Std ms (t++[c]) n m0):Stk G (as++[p]) ms n m0 (t++[c]):=by
 obtain⟨h1,h2,h3,h4⟩:=h;have hl:(t++[c]).length=t.length+1:=by rw[ai];rfl
 have htk:∀ i,i<=t.length->(t++[c]).take i=t.take i:=λi hi=>m8 hi
 refine⟨by omega,by rw[ai,hl];show as.length+1+n=_;omega,λi a ha=>?_,λi gV hi2=>?_⟩
 ·rcases fh i as.length with hi | hi
  ·rw[htk _ (by omega)]
   rw[eh hi] at ha;exact h3 i a ha
  ·rw[dw hi] at ha
   have Z:i-as.length=0:=by
    have:=(ao.mp ha).1
    rw[cm] at this;omega
   rw[Z] at ha;cases ha;rw[b9 (by omega)];exact hp
 ·rcases fh t.length i with hi | hi
  ·rw[b9 (by omega)]
   exact hs
  ·rw[htk _ hi]
   exact h4 i gV hi
theorem Bf {xs:List V}{k:Nat}{v:V}(h:xs[xs.length-k]?=some v)(h1:1<=k)(h2:k<=xs.length):atI xs (-(k:Int))=some v:=by
 show (ixN xs.length (-(k:Int))).bind _=_;unfold ixN;rw[AC (by omega),AD (by omega),show ((-(k:Int))+((xs.length:Nat):Int)).toNat=xs.length-k by omega];exact h
theorem pZ {as:List Addr}{a:Addr}(h:as[as.length-1]?=some a)(Z:as≠[]):atI (as.map V.ref) (-1)=some (.ref a):=by
 have hp:=dt.mpr Z;exact Bf (k:=1) (by rw[aR,ah,h];rfl) (by omega) (by rw[aR];omega)
def smL:List (List Nat):=[[97],[98],[99],[100],[101],[102],[],[97,98],[65],[32],[103]]
theorem Sv:∀ x∈smL,x.length<=2:=by decide
def Rp (K:ac)(C W:Addr):Sp:=λvs H Q _=>∃ (y S x tp:Addr) (c:Int) (n:Nat) (ms:List (List Nat)) (m0 t:List Nat) (as:List Addr),vs=[.ref y,.ref S,.int c]∧bS C W H y x tp n ms t∧ms[0]?=some m0∧ms.Nodup∧H S=some (.lst (as.map V.ref))∧Stk H as ms n m0 t∧t.length<=500 ∧
 ∀ (t':List Nat) (Z:List Addr) (H':Hp),Eo y S H H'->bS C W H' y x tp n ms t'->H' S=some (.lst (Z.map V.ref))->Stk H' Z ms n m0 t'->t'.length<=t.length+1->Q (.bl true) H'
theorem zG {f:Addr}{fd:wh}(F:Fun K "_law_deed" "_law_deed" lP f fd)(tt:Txt K mg ad)(wp:Cal P w K mg base (CX2 P w) "_law_stir" 1 ["cell", "k"] Bj)(gV:Cal P w K mg base (CX2 P w) "_law_refused" 7 ["way", "desk", "letter"] (Sf ad.Desk ad.Web))(ww:Cmt P w K mg base (CX2 P w) ad.Desk "back" 1 ["self"] (Aj ad.Desk ad.Web ad))(Z:Cal P w K mg base (CX2 P w) "_law_state" 8 ["desk"] (Bi ad.Desk ad.Web))(or:Cmt P w K mg base (CX2 P w) ad.Desk "write" 6 ["self", "letter"] (tM ad.Desk ad.Web ad)):bI P w K mg base (CX2 P w) 9 f fd ["desk", "states", "cell"] (Rp K ad.Desk ad.Web):=by
 refine F.okN2 dW (λvs H Q E h=>?_) (λcdv A outer s H vs Q E hr h=>?_)
 ·obtain⟨y,S,x,tp,c,n,ms,m0,t,as,rfl,_⟩:=h
  rfl
 ·obtain⟨y,S,x,tp,c,n,ms,m0,t,as,rfl,hD,h0,x6,hS,hk,y9,q⟩:=h
  have hs:=AG;have hu:=ge (eD hr);have xm:=hk.std;have hok:=xm.1;obtain⟨wx,a,ha,yz⟩:=hk.last;have y0:=dt.mpr wx;obtain⟨⟨dy,hy⟩,_⟩:=id hD;have xu:S≠y:=λz=>by rw[z,hy] at hS;cases hS
  have xw:(as.map V.ref).length=as.length:=aR ..;refine⟨_,(aB (aJ (i:=3) dW.nd rfl (Or.inl rfl) (aN dI (aM wp hr aS (aA (pv 2) (aA aH aD))) aH))
   (aB (aJ (i:=4) dW.nd rfl (Or.inl rfl) (dB (aA (cW [97] (by decide +kernel)) (aA (cW [98] (by decide +kernel)) (aA (cW [99] (by decide +kernel)) (aA (cW [100] (by decide +kernel)) (aA (cW [101] (by decide +kernel)) (aA (cW [102] (by decide +kernel)) (aA (cW [] (by decide +kernel)) (aA (cW [97,98] (by decide +kernel)) (aA (cW [65] (by decide +kernel)) (aA (cW [32] (by decide +kernel)) (aA (cW [103] (by decide +kernel)) aD)))))))))))))
   (aB (bR (aU eP (aN bY (pv 3) aH) aH (aY _)) (aB (bR (aU eP (aP aW (by rfl) tt.b_len bc (aA (pv 1) aD)) aH (aY _)) (aE (aQ (aM gV hr aS (aA aH (aA (pv 0) (aA (cW [] (by decide +kernel)) aD)))))) aV)
   (aB (aJ (i:=5) dW.nd rfl (Or.inl rfl) (cH Ty (cH lO (Xk de rg rh Xo (pv 1)) aH (λ_ _=>rfl)) (jF gB aH) (λ_ _=>rfl)))
   (aE (aQ (qV (iM nI (dJ ww hr aS (pv 0)) (pv 5) (aY _)) (uR (iM (uO (eD hr)) (aM Z hr aS (aA (pv 0) aD)) (cH bW (pv 1) (jF gB aH) (λ_ _=>rfl)) (aY _)))))))) aV)
   (aB (aJ (i:=5) dW.nd rfl (Or.inl rfl) (cH bW (pv 4) (aN bY (aN dI (pv 3) aH) (aP aW (by rfl) tt.b_len bc (aA (pv 4) aD))) (λ_ _=>rfl)))
   (aB (aJ (i:=6) dW.nd rfl (Or.inl rfl) (cH lO (cH bW (pv 1) (jF gB aH) (λ_ _=>rfl)) aH (λ_ _=>rfl)))
   (aB (bR (PW.pt (Po (aU pP (aN bY (pv 3) aH) aH (aY _)) (Ih (aU pP (aP aW (by rfl) tt.b_len bc (aA (pv 6) aD)) aH (aY _))))) (aE (aJ (i:=5) dW.nd rfl (Or.inl rfl) (cH bW (pv 6) (aN bY (aN dI (pv 3) aH) (aP aW (by rfl) tt.b_len bc (aA (pv 6) aD))) (λ_ _=>rfl)))) aV)
   (aB (bR (aU gW (pv 5) (pv 6) (by with_unfolding_all rfl)) (aE (aQ (qV (aM gV hr aS (aA aH (aA (pv 0) (aA (pv 5) aD)))) (uR (iM (uO (eD hr)) (aM Z hr aS (aA (pv 0) aD)) (cH bW (pv 1) (jF gB aH) (λ_ _=>rfl)) (aY _)))))) aV)
   (aB (bR (aU Vb (Wy or hr aS (pv 0) (aA (pv 5) aD)) lM (aY _)) (aE (aQ lM)) aV)
   (aB (eU (rS de h9 ia gE (pv 1) (aA (aM Z hr aS (aA (pv 0) aD)) aD)))
   (aE (aQ (iM nI (cH lO (cH bW (pv 1) (jF gB aH) (λ_ _=>rfl)) aH (λ_ _=>rfl)) (aN pJ (cH lO (cH bW (pv 1) (jF gB aH) (λ_ _=>rfl)) aH (λ_ _=>rfl)) (pv 5)) (aY _))))))))))))),?_⟩
  (try rw[bZ]);(try rw[cxK1])
  refine⟨_,rfl,_,_,rfl,⟨by decide,by decide⟩,_,_,rfl,rfl,⟨by decide,by decide⟩,?_⟩
  dsimp only
  generalize Ef c 11/7=z;refine⟨(by show 11<=sizeLine;omega),λL hL=>?_⟩;have t1:=aK (o:=.lst (smL.map T)) hL;have xy:upd H L (.lst (smL.map T)) L=some (.lst (smL.map T)):=aC;have w4:=hD.on t1;have mp:=t1 S _ hS;have xc:=hk.on t1;have w8:=t1 y _ hy;have w6:=yz.on t1;have b1:Eo y S H (upd H L (.lst (smL.map T))):=λb o _ _ e=>t1 b o e
  show (λH1=>_) (upd H L (.lst (smL.map T)));generalize upd H L (.lst (smL.map T))=H1 at t1 xy w4 mp xc w8 w6 b1;refine⟨_,rfl,_,_,rfl,rfl,(by show (0:Int)<4;decide),_,rfl,_,rfl,_,rfl,?_⟩;by_cases h3:z % 4=3
  ·refine itP (AE h3) ?_
   refine⟨_,rfl,S,_,rfl,.inl (SqL.of mp),_,rfl,_,rfl,_,rfl,?_⟩;rw[xw];by_cases hl1:as.length=1
   ·refine itP (AE (by omega)) ?_
    refine⟨_,rfl,1,y,x,tp,n,ms,t,[],rfl,w4,hok,(by show 0<=1000;decide),λz=>absurd z (by decide),λ_=>by have:=hk.2.1;omega,λH2 s2=>?_⟩;exact q t as H2 (λb o h1 h2 e=>s2 b o (b1 b o h1 h2 e)) (w4.on s2) (s2 S _ mp) (xc.on s2) (by omega)
   refine itN (λz=>hl1 (by have:=AF z;omega)) ?_;obtain⟨F0,v0,xj,xg,_⟩:=id w6;have za:n<t.length:=by have:=hk.2.1;omega
   refine⟨_,rfl,.inl ⟨rfl,_,SqL.of mp⟩,S,as.map V.ref,.ref a,rfl,rfl,mp,(by rw[xw,ah,ha];rfl),?_⟩;have yt:a≠S:=λz=>by rw[z,mp] at xj;cases xj
   have yu:(as.map V.ref).dropLast=as.dropLast.map V.ref:=by rw[mm,mm,aR,jq]
   rw[yu];have yc:upd H1 S (.lst (as.dropLast.map V.ref)) a=some (.tup [T t,.ref F0,.int (rC ms t n m0:Nat),.int (lN ms t n m0:Nat),v0]):=by rw[aG yt];exact xj
   refine⟨a,_,_,_,rfl,rfl,SqT.of yc,bL (j:=0) rfl,_,rfl,t,rfl,_,rfl,(by omega),_,zW (by omega),?_⟩;have xh:=w4.putL (l':=as.dropLast.map V.ref) mp;have xb:upd H1 S (.lst (as.dropLast.map V.ref)) S=some (.lst (as.dropLast.map V.ref)):=aC;have xl:=(xc.to w8 mp wx (G':=upd H1 S (.lst (as.dropLast.map V.ref))) λb o _ h2 e=>by rw[aG h2];exact e).pop hl1;have x9:upd H1 S (.lst (as.dropLast.map V.ref)) y=some (.ins ad.Desk dy (gM x t)):=by rw[aG xu.symm];exact w8
   have b2:Eo y S H (upd H1 S (.lst (as.dropLast.map V.ref))):=λb o h1 h2 e=>by rw[aG h2];exact b1 b o h1 h2 e
   have xo:as.dropLast≠[]:=λz=>by have:=congrArg i6 z;rw[ku] at this;simp at this;omega
   generalize upd H1 S (.lst (as.dropLast.map V.ref))=H2 at yc xh xb xl x9 b2;refine⟨_,rfl,y,dy,_,rfl,x9,bT _ _,y,x,tp,n,ms,t,rfl,xh,hok,λz=>absurd z (by omega),λ_ H3 b3 yj=>?_⟩;refine⟨_,rfl,_,rfl,_,rfl,_,rfl,itP (AE rfl) ?_⟩;have yg:=b3 S _ xu xb;have xt:=xl.to (G':=H3) x9 xb xo λb o h1 _ e=>b3 b o h1 e
   refine⟨_,rfl,y,x,tp,n,ms,m0,beg t,rfl,yj,xt.std,h0,x6,λp H4 s4 xf=>?_⟩;obtain⟨_,a4,yw,ya⟩:=xt.last;refine⟨_,rfl,_,rfl,S,_,_,_,rfl,rfl,SqL.of (s4 S _ yg),pZ yw xo,?_⟩;obtain⟨D5,F5,i5,j5,v5,l5,g1,g2,g3,g4,g5⟩:=xf.same (K:=K) (ya.on s4);refine⟨p,a4,D5,F5,beg t,i5,j5,v5,l5,rfl,rfl,g1,g2,g3,g4,g5,?_⟩;have y8:(beg t).length<=t.length:=by show (t.take _).length<=_;rw[cj];omega
   exact q (beg t) as.dropLast H4 (λb o h1 h2 e=>s4 b o (b3 b o h1 (b2 b o h1 h2 e))) (yj.on s4) (s4 S _ yg) (xt.on s4) (by omega)
  refine itN (λz=>h3 (AF z)) ?_;obtain⟨r,yy,ym⟩:∃ r:Nat,z/4 % 11=(r:Int)∧r<11:=⟨(z/4 % 11).toNat,by omega,by omega⟩;obtain⟨c0,yd⟩:∃ c0,smL[r]?=some c0:=⟨_,aa (show r<smL.length from ym)⟩;have xq:=Sv c0 (ay yd);refine⟨_,rfl,_,rfl,_,_,rfl,rfl,⟨by decide,by decide⟩,_,rfl,L,_,rfl,.inl (SqL.of xy),_,_,rfl,rfl,(by show (0:Int)<11;decide),L,_,_,_,rfl,rfl,SqL.of xy,(show atI (smL.map T) (z/4 % 11)=some (T c0) by rw[yy];exact bL (by rw[ah,yd];rfl)),?_⟩;obtain⟨F0,v0,xj,xg,_⟩:=id w6;refine⟨_,rfl,_,rfl,S,_,_,_,rfl,rfl,SqL.of mp,pZ ha wx,a,_,_,_,rfl,rfl,SqT.of xj,bL (j:=1) rfl,?_⟩;have x8:(((nxL ms t n).map λl=>[Wd.bU l]).map T).length=(nxL ms t n).length:=by rw[aR,aR]
  refine⟨_,rfl,_,_,rfl,rfl,(by show (0:Int)<4;decide),_,_,rfl,rfl,_,rfl,?_⟩;by_cases hz4:0<z % 4;refine itP (AE hz4) ?_;refine⟨_,rfl,F0,_,rfl,.inl (SqL.of xg),_,_,rfl,rfl,_,rfl,?_⟩;rw[x8];by_cases hnp:0<(nxL ms t n).length;refine itP (AE (by omega)) ?_;obtain⟨r2,yo,yq⟩:∃ r2:Nat,z/4 % (((nxL ms t n).length:Nat):Int)=(r2:Int)∧r2<(nxL ms t n).length:=by
   have z0:=du (z/4) (show (((nxL ms t n).length:Nat):Int)≠0 by omega);have z1:=c9 (z/4) (show (0:Int)<(((nxL ms t n).length:Nat):Int) by omega);exact⟨(z/4 % (((nxL ms t n).length:Nat):Int)).toNat,by omega,by omega⟩
  refine⟨_,rfl,_,rfl,_,_,rfl,rfl,⟨by decide,by decide⟩,_,rfl,F0,_,rfl,.inl (SqL.of xg),_,_,rfl,rfl,(by rw[x8];omega),F0,_,_,T [Wd.bU ((nxL ms t n)[r2])],rfl,rfl,SqL.of xg,(by rw[x8];show atI _ (z/4 % (((nxL ms t n).length:Nat):Int))=_;rw[yo];exact bL (by rw[ah,ah,aa yq];rfl)),?_⟩;obtain⟨c1,wz,yh⟩:∃ c1,[Wd.bU ((nxL ms t n)[r2])]=c1∧c1.length<=2:=⟨_,rfl,by show 1<=2;decide⟩;rw[wz];clear wz
  rotate_left
  refine itN (λz=>hnp (by have:=AF z;omega)) ?_;obtain⟨c1,wz,yh⟩:∃ c1,c0=c1∧c1.length<=2:=⟨_,rfl,xq⟩;rw[wz];clear wz
  rotate_left
  refine itN (λz=>hz4 (AF z)) ?_;refine oE ?_;obtain⟨c1,wz,yh⟩:∃ c1,c0=c1∧c1.length<=2:=⟨_,rfl,xq⟩;rw[wz];clear wz
  all_goals
   refine⟨_,rfl,_,rfl,F0,_,rfl,.inl (SqL.of xg),rfl,fL _,_,rfl,?_⟩;rw[mH];by_cases hc:c1∈(nxL ms t n).map λl=>[Wd.bU l]
   rotate_left
   refine itP (by rw[AH hc];rfl) ?_;refine⟨_,rfl,_,rfl,0,y,x,tp,n,ms,t,c1,rfl,w4,hok,by omega,λ_=>hc,λz=>absurd rfl z,λH2 s2=>?_⟩;refine⟨_,rfl,oQ ?_⟩;refine⟨_,rfl,y,x,tp,n,ms,m0,t,rfl,w4.on s2,xm,h0,x6,λp H4 s4 xf=>?_⟩;have xa:=s2.trans s4;refine⟨_,rfl,_,rfl,S,_,_,_,rfl,rfl,SqL.of (xa S _ mp),pZ ha wx,?_⟩;obtain⟨D5,F5,i5,j5,v5,l5,g1,g2,g3,g4,g5⟩:=xf.same (K:=K) (w6.on xa);refine⟨p,a,D5,F5,t,i5,j5,v5,l5,rfl,rfl,g1,g2,g3,g4,g5,?_⟩;exact q t as H4 (λb o h1 h2 e=>xa b o (b1 b o h1 h2 e)) (w4.on xa) (xa S _ mp) (xc.on xa) (by omega);refine itN (by rw[AE hc];exact ag) ?_;obtain⟨e,he,rfl⟩:=aw.mp hc;obtain⟨j,hj⟩:=mh.mp he;refine⟨_,rfl,y,dy,_,rfl,w8,bT _ _,_,rfl,y,x,tp,n,ms,t,[Wd.bU e],rfl,w4,hok,(by show 1<=1000;decide),λz=>absurd hc z,λ_ H2 b2 xh=>?_⟩;refine⟨_,rfl,_,rfl,_,rfl,?_⟩;refine oE ?_;have yv:eO ms t n m0:=xm.2.1.resolve_right λz=>by
    have:=(vY he).1
    rw[z.1] at this;cases this
   obtain⟨xr,_⟩:=xm.go yv (by omega) hj;have xb:=b2 S _ xu mp;have xl:=xc.to (G':=H2) w8 mp wx λb o h1 _ e=>b2 b o h1 e
   refine⟨_,rfl,.inl ⟨rfl,_,SqL.of xb⟩,_,rfl,y,x,tp,n,ms,m0,t++[Wd.bU e],rfl,xh,xr,h0,x6,λp H4 s4 xf=>?_⟩;have xi:=s4 S _ xb;refine⟨S,_,_,rfl,rfl,xi,(by rw[xw];have:=hk.2.1;omega),?_⟩;have yp:as.map V.ref++[V.ref p]=(as++[p]).map V.ref:=by rw[a7];rfl
   rw[yp];have ye:=xh.on s4;have yr:=xl.on s4;obtain⟨⟨y6,xz⟩,_⟩:=id ye;have bb:Eo y S H4 (upd H4 S (.lst ((as++[p]).map V.ref))):=λb o _ h2 e=>by rw[aG h2];exact e
   have yi:=yr.to xz xi wx bb;have xx:=xf.to xz xi wx bb;have yf:=yi.push xx xr;have yk:=ye.putL (l':=(as++[p]).map V.ref) xi;have xk:upd H4 S (.lst ((as++[p]).map V.ref)) S=some (.lst ((as++[p]).map V.ref)):=aC;have b5:Eo y S H (upd H4 S (.lst ((as++[p]).map V.ref))):=λb o h1 h2 e=>bb b o h1 h2 (s4 b o (b2 b o h1 (b1 b o h1 h2 e)))
   have xp:=((w6.to (G':=H2) w8 mp wx λb o h1 _ e=>b2 b o h1 e).on s4).to xz xi wx bb;generalize upd H4 S (.lst ((as++[p]).map V.ref))=H5 at bb yi xx yf yk xk b5 xp;have yb:((as++[p]).map V.ref).length=as.length+1:=by rw[aR,ai];rfl
   obtain⟨F6,v6,yx,_⟩:=id xx;obtain⟨F7,v7,yn,_⟩:=id xp;refine⟨_,rfl,_,rfl,S,_,_,.ref p,rfl,rfl,SqL.of xk,?_,p,_,_,_,rfl,rfl,SqT.of yx,bL (j:=0) rfl,_,rfl,_,rfl,S,_,_,.ref a,rfl,rfl,SqL.of xk,?_,a,_,_,_,rfl,rfl,SqT.of yn,bL (j:=0) rfl,_,rfl,_,rfl,_,rfl,(by show _+1<=sizeLine;omega),_,rfl,_,rfl,?_⟩
   ·exact Bf (k:=1) (by rw[yb,ah,show as.length+1-1=as.length from rfl,dw (af _),qi];rfl) (by omega) (by omega)
   ·exact Bf (k:=2) (by rw[yb,ah,show as.length+1-2=as.length-1 by omega,eh (by omega),ha];rfl) (by omega) (by omega)
   rw[AE rfl];exact q (t++[Wd.bU e]) (as++[p]) H5 b5 yk xk yf (by rw[ai];exact af _)
theorem bS.to2 {C W:Addr}{H G:Hp}{y y2 x x2 Z S dy:Addr}{n:Nat}{ms:List (List Nat)}{t t2:List Nat}{l:List V}(h:bS C W H y2 x2 Z n ms t2)(hy:H y=some (.ins C dy (gM x t)))(hS:H S=some (.lst l))(or:y2≠y)(b:Eo y S H G):bS C W G y2 x2 Z n ms t2:=by
 obtain⟨⟨mp,gV⟩,⟨dx,hx⟩,ht⟩:=h;have hl:∀ {b o},H b=some o->(∀ l,o≠.lst l)->b≠S:=λ{b o} e1 e2 e3=>by rw[e3,hS] at e1;exact e2 _ (av e1).symm
 refine⟨⟨mp,b _ _ or (hl gV λl z=>by cases z) gV⟩,⟨dx,b _ _ (λe=>?_) (hl hx λl z=>by cases z) hx⟩,b _ _ (λe=>by rw[e,hy] at ht;cases ht) (hl ht λl z=>by cases z) ht⟩;rw[e,hy] at hx;have h1:gM x t=wZ Z (n:Nat):=by injection (av hx)
 have h2:=fK Z (n:Nat);rw[<- h1,bT _ _] at h2;cases h2
theorem aAg {ns:List Int}:∃ ds:List Int,iX (ns.map V.int) none (some (40:Int))=ds.map V.int∧ds.length<=40:=by
 refine⟨_,by rw[iX,aR,<- i7,<- jq],?_⟩;rw[show HT.sIx ns.length ns.length (some (40:Int))=min 40 ns.length from HT.fR _ _ 40,cj];omega
theorem Xq {f:Addr}{fd:wh}(F:Fun K "law" "law" nZ f fd)(tt:Txt K mg ad)(ww:Cal P w K mg base (CX2 P w) "_law_size" 1 ["n"] Hz)(or:Cal P w K mg base (CX2 P w) "_law_uneven" 4 ["script", "n", "length", "kinds"] (Pe K))(wz:Cam P w K mg base (CX2 P w) "Web" ad.Web 5 ["self", "words"] (zV K ad.Web))(wp:Cal P w K mg base (CX2 P w) "why_no_ring" 5 ["web"] (Gu ad.Web))
  (mp:Cal P w K mg base (CX2 P w) "_law_no_ring" 9 ["web", "paper"] (Wb ad.Desk ad.Web)) (gV:Cam P w K mg base (CX2 P w) "Desk" ad.Desk 7 ["self", "web"] (sX ad.Desk ad.Web ad)) (Z:Cal P w K mg base (CX2 P w) "_law_state" 8 ["desk"] (Bi ad.Desk ad.Web)) (wx:Cal P w K mg base (CX2 P w) "_law_deed" 9 ["desk", "states", "cell"] (Rp K ad.Desk ad.Web)):bI P w K mg base (CX2 P w) 10 f fd ["script"] (Hn K):=by
 refine F.okN2 hV (λvs H Q E h=>?_) (λcdv A outer s H vs Q E hr h=>?_)
 ·obtain⟨a,ns,rfl,_⟩:=h
  rfl
 ·obtain⟨a,ns,rfl,hS,yx,q⟩:=h
  have hs:=AG;have hu:=ge (eD hr);refine⟨_,(aB (aJ (i:=1) hV.nd rfl (Or.inl rfl) (aN bY (aN kF (aP (yR rfl) (by rfl) tt.b_sum re (aA (pv 0) aD)) aH) aH))
   (aB (Rx (aM ww hr aS (aA (aN dI (pv 1) aH) aD)) (Ff rfl (jK (bO (i:=2) hV.nd rfl (Or.inl rfl)) (jK (bO (i:=3) hV.nd rfl (Or.inl rfl)) Ay))))
   (aB (aJ (i:=4) hV.nd rfl (Or.inl rfl) (Ap wz hr aS (aA (aM or hr aS (aA (pv 0) (aA (pv 1) (aA (pv 2) (aA (pv 3) aD))))) aD)))
   (aB (aJ (i:=5) hV.nd rfl (Or.inl rfl) (aM wp hr aS (aA (pv 4) aD)))
   (aB (bR (Gy (qK (aM mp hr aS (aA (pv 4) (aA (pv 5) aD))))) (aE (aQ lM)) aV)
   (aB (bR (kX (Ii (pv 5))) (aE (aQ lM)) aV)
   (aB (aJ (i:=6) hV.nd rfl (Or.inl rfl) (Ap gV hr aS (aA (pv 4) aD)))
   (aB (aJ (i:=7) hV.nd rfl (Or.inl rfl) (Ap gV hr aS (aA (pv 4) aD)))
   (aB (aJ (i:=8) hV.nd rfl (Or.inl rfl) (dB (aA (aM Z hr aS (aA (pv 6) aD)) aD)))
   (aB (aJ (i:=9) hV.nd rfl (Or.inl rfl) (cH bW (pv 8) aH (λ_ _=>rfl)))
   (aB (cY PassesOwn.never rfl (cN (aN lY (cD gZ (pv 0) dA (cK aH)) (dB (aA aH aD)))) (bO (i:=10) hV.nd rfl (Or.inl rfl)) (aE (bR (Gy (qK (aM wx hr aS (aA (pv 6) (aA (pv 8) (aA (pv 10) aD)))))) (aE (aQ lM)) aV)))
   (aE (aQ (iM (uO (eD hr)) (aM Z hr aS (aA (pv 7) aD)) (pv 9) (aY _))))))))))))))),?_⟩
  (try rw[bZ]);(try rw[cxK1])
  refine⟨_,rfl,a,ns,rfl,hS,_,_,rfl,rfl,.inr ⟨by decide,by decide⟩,_,_,rfl,rfl,(by show (0:Int)<2147483647;decide),?_⟩
  dsimp only
  generalize ns.sum*69621 % 2147483647=z;refine⟨_,rfl,_,_,rfl,rfl,⟨by decide,by decide⟩,_,rfl,λtq nn kn H1 s1 zt hz=>?_⟩;refine⟨tq,_,rfl,SqT.of zt,rfl,_,_,rfl,_,_,rfl,rfl,?_⟩;refine⟨_,rfl,_,rfl,_,rfl,_,rfl,a,ns,z,nn,kn,rfl,s1.seq hS,yx,hz,λD us H2 s2 hd2 xz xa yc=>?_⟩;obtain⟨hok,A5⟩:=Xc hz xz xa yc;have yt:us.Pairwise (λa b=>¬ b<a):=xa.imp λh g=>gf _ (wm h g)
  have xx:=hok.2.2.2.2;intro x0 xk nx zi A8;have s3:aL H2 (upd (upd H2 xk (.own x0)) x0 (.ins ad.Web xk [])):=λb o e=>by
   rw[aG (aI e nx),aG (aI e zi)];exact e
  refine⟨x0,xk,D,us,nn,rfl,aC,.inl (SqL.of (s3 D _ hd2)),hok,λxb ms H3 zk xl k2 zo z8=>⟨rfl,?_⟩⟩;obtain rfl:ms=us:=Wd.gL zk xl yt;have s3:aL H2 H3:=λb o e=>k2 b o (s3 b o e) (aI e nx)
  have xy:kM ad.Web H3 x0 xb nn ms:=⟨⟨xk,zo⟩,z8⟩;obtain⟨m0,h0⟩:∃ m0,ms[0]?=some m0:=⟨_,aa (dt.mpr xz)⟩;have zh:=ay h0;have yh:=(hok.2.2.2.1 m0 zh).1;have hn:=hok.2.2.1.1;refine⟨_,rfl,x0,xb,nn,ms,rfl,xy,hok,λev r v H4 xu xr hv s4=>?_⟩;refine⟨_,rfl,_,rfl,x0,xb,nn,ms,ev,m0,r,v,rfl,xy.on s4,hok,xl,h0,xu,xr,hv,λH5 s5=>⟨_,rfl,oE ?_⟩⟩;obtain⟨pr,rfl⟩ | rfl:(∃ pr,r=some pr)∨r=none:=by
   cases r with
   | none=>exact .inr rfl
   | some pr=>exact .inl ⟨pr,rfl⟩
  ·obtain⟨kd,so⟩:=pr
   obtain⟨pp,bb,rfl,_,_⟩:=hv;refine⟨_,rfl,_,rfl,oQ ?_⟩;exact q _
  obtain rfl:v = .non:=hv;refine⟨_,rfl,_,rfl,oE ?_⟩;obtain⟨vs,pz,yo⟩:=Ck xu xr;have yr:∀ w4 r',Pcs ms w4->wG ms w4 r'->r'≠none->False:=λw4 r' h1 h2 h3=>by
   obtain rfl:=h1.uniq xu (ej ms);exact h3 (h2.uniq xr (ej ms))
  have yw:=xy.on (s4.trans s5);have zu:aL H H5:=s1.trans (s2.trans (s3.trans (s4.trans s5)));refine⟨_,rfl,?_⟩;intro y dy ny zd BA;have s6:aL H5 (upd (upd H5 dy (.own y)) y (.ins ad.Desk dy [])):=λb o e=>by
   rw[aG (aI e ny),aG (aI e zd)];exact e
  refine⟨y,dy,x0,xb,nn,ms,m0,rfl,aC,yw.on s6,hok,xl,h0,λBC p1 zn x tp H6 b6 yv=>⟨rfl,?_⟩,λw4 r' v' dx H6 xf w6 x8 s6 A2 y0=>(yr w4 r' xf w6 x8).elim⟩;have s6:aL H5 H6:=λb o e=>b6 b o (aI e ny) (s6 b o e)
  refine⟨_,rfl,?_⟩;intro y2 x9 xg yd A3;have s7:aL H6 (upd (upd H6 x9 (.own y2)) y2 (.ins ad.Desk x9 [])):=λb o e=>by
   rw[aG (aI e xg),aG (aI e yd)];exact e
  refine⟨y2,x9,x0,xb,nn,ms,m0,rfl,aC,(yw.on s6).on s7,hok,xl,h0,λBB p2 zp x2 zf H7 b7 zm=>⟨rfl,?_⟩,λw4 r' v' dx H7 xf w6 x8 s7 A2 y0=>(yr w4 r' xf w6 x8).elim⟩;have s7:aL H6 H7:=λb o e=>b7 b o (aI e xg) (s7 b o e)
  have y8:y2≠y:=λz=>by
   obtain⟨⟨d0,e0⟩,_⟩:=yv;rw[z,e0] at xg;cases xg
  have yy:eG ms nn m0:=⟨hn,by omega,by omega,xz,by omega,λw hw=>(hok.2.2.2.1 w hw).1⟩;obtain⟨x6,_⟩:=Std.first yy yh h0 xa yo;have yq:=yv.on s7;refine⟨_,rfl,y,x,tp,nn,ms,m0,m0,rfl,yq,x6,h0,xx,λp H8 s8 zq=>?_⟩;refine⟨(by show 1<=sizeLine;omega),λS zw=>?_⟩;have t9:=aK (o:=.lst ([p].map V.ref)) zw;have xi:upd H8 S (.lst ([p].map V.ref)) S=some (.lst ([p].map V.ref)):=aC;have ym:=s6.trans (s7.trans (s8.trans t9));have xm:=yq.on (s8.trans t9);have xo:=zm.on (s8.trans t9);have yf:=zq.on t9;show (λH1=>_) (upd H8 S (.lst ([p].map V.ref)));generalize upd H8 S (.lst ([p].map V.ref))=H9 at t9 xi ym xm xo yf;refine⟨_,rfl,S,_,_,_,rfl,rfl,SqL.of xi,bL (j:=0) rfl,?_⟩;have zr:=zu.trans ym;refine⟨_,rfl,_,rfl,a,_,rfl,zr.seq hS,λp1 zb=>?_⟩;obtain⟨ds,yz,A6⟩:=aAg (ns:=ns);rw[yz];have yj:=aK (o:=.lst (ds.map V.int)) zb;refine⟨(by show 1<=sizeLine;omega),λp2 yn=>?_⟩;have xq:=aK (o:=.lst [.int 3]) yn;refine⟨p1,p2,_,_,rfl,rfl,SqL.of (xq p1 _ aC),SqL.of aC,(by rw[aR];show ds.length+1<=sizeLine;omega),λp3 xj=>?_⟩;rw[show ds.map V.int++[V.int 3]=(ds++[3]).map V.int by rw[a7];rfl];have zl:=aK (o:=.lst ((ds++[3]).map V.int)) xj;have sB:=yj.trans (xq.trans zl);have yu:p3≠S:=λz=>by rw[z] at xj;rw[(yj.trans xq) S _ xi] at xj;cases xj
  have w8:upd (upd (upd H9 p1 (.lst (ds.map V.int))) p2 (.lst [.int 3])) p3 (.lst ((ds++[3]).map V.int)) p3=some (.lst ((ds++[3]).map V.int)):=aC;have xh:=sB S _ xi;have xc:=xm.on sB;have xp:=xo.on sB;have xt:=yf.on sB;generalize upd (upd (upd H9 p1 (.lst (ds.map V.int))) p2 (.lst [.int 3])) p3 (.lst ((ds++[3]).map V.int))=HB at sB w8 xh xc xp xt;obtain⟨⟨A7,yb⟩,_⟩:=id xc;have yp:p3≠y:=λz=>by rw[z,yb] at w8;cases w8
  have zy:Stk HB [p] ms nn m0 m0:=by
   refine⟨by omega,by show 1+nn=_;omega,λi a' ha=>?_,λi A9 hi2=>?_⟩
   ·have hi:i=0:=by
     have:=(ao.mp ha).1
     rw[cm] at this;omega
    subst hi;cases ha;rw[b9 (by omega)];exact xt
   ·rw[b9 (by omega)]
    exact x6
  refine⟨p3,rfl,⟨_,SqL.of w8⟩,?_⟩;refine gN (K:=K) (a:=p3) (xs:=(ds++[3]).map V.int) (λi σ G=>∃ (t:List Nat) (as:List Addr) (xw:Option V),Eo y S HB G∧bS ad.Desk ad.Web G y x tp nn ms t∧G S=some (.lst (as.map V.ref))∧Stk G as ms nn m0 t∧t.length<=nn+i∧σ=[some (.ref a),some (.int z),some (.int (nn:Nat)),some (.int (kn:Nat)),some (.ref x0),some .non,some (.ref y),some (.ref y2),some (.ref S),some (.ref p),xw])
   ⟨m0,[p],none,λb o _ _ e=>e,xc,xh,zy,by omega,rfl⟩ (λi σ G _ ⟨_,_,_,b,_⟩=>SqL.of (b p3 _ yp yu w8)) ?_ ?_
  ·rintro i v σ G hi ⟨t,as,xw,bG,yg,ye,yi,zz,rfl⟩
   obtain⟨zc,za,rfl⟩:∃ zc,(ds++[3])[i]?=some zc∧V.int zc=v:=by rw[ah] at hi;exact bz.mp hi
   have ya:=(ao.mp za).1;rw[ai] at ya;have ya:i<ds.length+1:=ya;refine⟨_,rfl,_,rfl,_,rfl,y,S,x,tp,zc,nn,ms,m0,t,as,rfl,yg,h0,xx,ye,yi,by omega,λt' y9 G' b' zg zv zx A4=>⟨_,rfl,oE ?_⟩⟩;exact⟨t',y9,_,λb o h1 h2 e=>b' b o h1 h2 (bG b o h1 h2 e),zg,zv,zx,by omega,rfl⟩
  ·rintro σ G ⟨t,as,xw,bG,yg,ye,yi,zz,rfl⟩
   have y6:=xp.to2 yb xh y8 bG;have ze:=xt.to yb xh (by simp) bG;refine⟨_,rfl,y2,x2,zf,nn,ms,m0,m0,rfl,y6,x6,h0,xx,λp9 G9 s9 yk=>?_⟩;obtain⟨D5,F5,i5,j5,v5,l5,g1,g2,g3,g4,g5⟩:=yk.same (K:=K) (ze.on s9);exact⟨_,rfl,p9,p,D5,F5,m0,i5,j5,v5,l5,rfl,rfl,g1,g2,g3,g4,g5,q _⟩
end
def HF (K:ac)(f:Addr)(nm:Str)(st:Stmt):Prop:=∃ (oc:Value) (od:Option Addr) (kV Z pm:Value) (an:Option Addr) (cd ct:Value) (sl:Array (Option Value)),bo K mainGlobals nm=some (some (.ref f))∧K.lookup f=some ⟨oc,od,.func (ei nm nm (eE st) (dL st) (aF st) .none kV Z pm an cd ct),sl⟩∧ja K cd nm=true∧dl K (.ref f)=true
theorem HF.go {K:ac}{f:Addr}{nm:Str}{st:Stmt}(h:HF K f nm st):∃ fd,Fun K nm nm st f fd∧bo K mainGlobals nm=some (some (.ref f)):=by
 obtain⟨oc,od,kV,Z,pm,an,cd,ct,sl,a,l,c,k⟩:=h;exact⟨_,Gg (st:=st) l c k,a⟩
theorem hf_mk {K:ac}{f:Addr}{nm:Str}{st:Stmt}{oc:Value}{od:Option Addr}{kV dc pm:Value}{an:Option Addr}{cd ct:Value}{sl:Array (Option Value)}(a:bo K mainGlobals nm=some (some (.ref f)))(l:K.lookup f=some ⟨oc,od,.func (ei nm nm (eE st) (dL st) (aF st) .none kV dc pm an cd ct),sl⟩)(c:ja K cd nm=true)(k:dl K (.ref f)=true):HF K f nm st:=⟨oc,od,kV,dc,pm,an,cd,ct,sl,a,l,c,k⟩
theorem mkC (P:xv)(w:World){K:ac}{mg:Str->Option Value}{h:Heap}(base:Heap)(X:K.In h)(G:h.Ns mainGlobals mg){nm:Str}{st:Stmt}{f:Addr}{fd:wh}{k:Nat}{ps:List Str}{sp:Sp}(a:bo K mainGlobals nm=some (some (.ref f)))(F:Fun K nm nm st f fd)(ok:bI P w K mg base (CX2 P w) k f fd ps sp)(b:fD K fd ps []):Cal P w K mg base (CX2 P w) nm k ps sp:=⟨⟨_,_,ok,cg X G a,F.kp,b⟩⟩
def HM (K:ac)(C f:Addr)(nm qual:Str)(st:Stmt):Prop:=∃ (oc:Value) (od:Option Addr) (kV Z pm:Value) (an:Option Addr) (cd ct:Value) (sl:Array (Option Value)),bx K (.ref C) nm=some (some (.ref f))∧K.lookup f=some ⟨oc,od,.func (ei nm qual (eE st) (dL st) (aF st) .none kV Z pm an cd ct),sl⟩∧ja K cd qual=true∧dl K (.ref f)=true∧lw K (.ref f)=true
theorem HM.go {K:ac}{C f:Addr}{nm qual:Str}{st:Stmt}(h:HM K C f nm qual st):∃ fd,Fun K nm qual st f fd∧Pf K C nm f:=by
 obtain⟨oc,od,kV,Z,pm,an,cd,ct,sl,a,l,c,k,i⟩:=h;exact⟨_,Gg (st:=st) l c k,⟨a,i,k⟩⟩
theorem jN {K:ac}{C f:Addr}{nm qual:Str}{st:Stmt}{oc:Value}{od:Option Addr}{kV Z pm:Value}{an:Option Addr}{cd ct:Value}{sl:Array (Option Value)}(a:bx K (.ref C) nm=some (some (.ref f)))(l:K.lookup f=some ⟨oc,od,.func (ei nm qual (eE st) (dL st) (aF st) .none kV Z pm an cd ct),sl⟩)(c:ja K cd qual=true)(k:dl K (.ref f)=true)(i:lw K (.ref f)=true):HM K C f nm qual st:=⟨oc,od,kV,Z,pm,an,cd,ct,sl,a,l,c,k,i⟩
theorem bd1 {K:ac}{x qual:Str}{S:Stmt}{f:Addr}{fd:wh}{p:Str}(F:Fun K x qual S f fd)(h:∀ (v w z:Value) (n:Option Addr) (g i a:Value),bindArgs (ei x qual (eE S) (dL S) (aF S) .none v w z n g i) ⟨[a],[]⟩=pure (oy [p] [a]):=by intros;rfl):fD K fd [p] []:=F.binds λv w z n g i us hl=>L2.on1 (C:=λus=>bindArgs _ ⟨us,[]⟩=pure (oy _ us)) hl (h v w z n g i)
theorem bd2 {K:ac}{x qual:Str}{S:Stmt}{f:Addr}{fd:wh}{p q:Str}(F:Fun K x qual S f fd)(h:∀ (v w z:Value) (n:Option Addr) (g i a b:Value),bindArgs (ei x qual (eE S) (dL S) (aF S) .none v w z n g i) ⟨[a,b],[]⟩=pure (oy [p,q] [a,b]):=by intros;rfl):fD K fd [p,q] []:=F.binds λv w z n g i us hl=>L2.on2 (C:=λus=>bindArgs _ ⟨us,[]⟩=pure (oy _ us)) hl (h v w z n g i)
theorem bd3 {K:ac}{x qual:Str}{S:Stmt}{f:Addr}{fd:wh}{p q r:Str}(F:Fun K x qual S f fd)(h:∀ (v w z:Value) (n:Option Addr) (g i a b c:Value),bindArgs (ei x qual (eE S) (dL S) (aF S) .none v w z n g i) ⟨[a,b,c],[]⟩=pure (oy [p,q,r] [a,b,c]):=by intros;rfl):fD K fd [p,q,r] []:=F.binds λv w z n g i us hl=>L2.on3 (C:=λus=>bindArgs _ ⟨us,[]⟩=pure (oy _ us)) hl (h v w z n g i)
theorem bd4 {K:ac}{x qual:Str}{S:Stmt}{f:Addr}{fd:wh}{p q r s:Str}(F:Fun K x qual S f fd)(h:∀ (v w z:Value) (n:Option Addr) (g i a b c d:Value),bindArgs (ei x qual (eE S) (dL S) (aF S) .none v w z n g i) ⟨[a,b,c,d],[]⟩=pure (oy [p,q,r,s] [a,b,c,d]):=by intros;rfl):fD K fd [p,q,r,s] []:=F.binds λv w z n g i us hl=>L2.on4 (C:=λus=>bindArgs _ ⟨us,[]⟩=pure (oy _ us)) hl (h v w z n g i)
theorem all_mk {l:qu}{w:World}{K:ac}{h:Heap}{mg:Str->Option Value}{fa:Addr}(X:K.In h)(G:h.Ns mainGlobals mg)(hfa:mg "law" = some (.ref fa))
  {f_0 f_1 f_2 f_3 f_4 f_5 f_6 f_7 f_8 f_9 f_10 f_11 f_12 f_13 f_14 f_15 f_16 f_17 f_18 f_19 f_20 f_21 f_22 f_23 f_24 f_25 f_26 f_27 f_28 f_29 f_30 f_31 f_32 f_33 f_34 f_35 f_36 f_37 f_38 f_39 f_40 f_41 f_42 f_43 f_44 f_45 f_46 f_47 f_48 f_49 f_50 f_51 f_52 f_53 f_54 f_55 f_56 f_57:Addr}
  {f_58:Addr} {od_58 an_58:Option Addr} {sl_58:Array (Option Value)} {oc_58 kV_58 dc_58 pm_58 cd_58 ct_58:Value}
  {c_BadKinds c_BadWord c_TooMany c_NoSuch c_BadDeed c_NoRing c_OnceError c_Web c_Desk c_KNOWN_TIMES:Addr} {u_FIRST_PRIME u_STEP u_LETTERS u_LONGEST u_MOST_OF_A_WEB u_LONGEST_OF_A_WEB:Value}
  (h_0:HF K f_0 "further_times" gQ)
  (h_1:HF K f_1 "inverse" rJ)
  (h_2:HF K f_2 "lowered" mB)
  (h_3:HF K f_3 "first_other_than_nought" cZ)
  (h_4:HF K f_4 "determinant_rest" cI)
  (h_5:HF K f_5 "greatest_of" gK)
  (h_6:HF K f_6 "determinant" jC)
  (h_7:HF K f_7 "looked_kinds" iF)
  (h_8:HF K f_8 "looked_length" gU)
  (h_9:HF K f_9 "letters" qG)
  (h_10:HF K f_10 "looked" uY)
  (h_11:HF K f_11 "row_windows" gI)
  (h_12:HF K f_12 "ring_windows" fH)
  (h_13:HF K f_13 "windows" pY)
  (h_14:HF K f_14 "looked_web" jR)
  (h_15:HM K c_Web f_15 "__init__" "Web.__init__" mS)
  (h_16:HM K c_NoRing f_16 "__init__" "NoRing.__init__" jD)
  (h_17:HF K f_17 "begin_of" nA)
  (h_18:HF K f_18 "end_of" vA)
  (h_19:HF K f_19 "pieces" kZ)
  (h_20:HF K f_20 "excess" lB)
  (h_21:HF K f_21 "hanging_by" jS)
  (h_22:HF K f_22 "hanging" qN)
  (h_23:HF K f_23 "why_apart" lH)
  (h_24:HF K f_24 "why_no_ring" jE)
  (h_25:HF K f_25 "without" lX)
  (h_26:HF K f_26 "can_go_on" iQ)
  (h_27:HF K f_27 "choice_row" fS)
  (h_28:HF K f_28 "choices_counted" eB)
  (h_29:HF K f_29 "is_even" jI)
  (h_30:HF K f_30 "by_begin" mU)
  (h_31:HF K f_31 "product_up_to" gS)
  (h_32:HF K f_32 "ways_on" qX)
  (h_33:HF K f_33 "way_number" jY)
  (h_34:HM K c_Desk f_34 "written" "Desk.written" iB)
  (h_35:HM K c_Desk f_35 "home" "Desk.home" kR)
  (h_36:HM K c_Desk f_36 "gone" "Desk.gone" lE)
  (h_37:HM K c_Desk f_37 "left" "Desk.left" iW)
  (h_38:HM K c_Desk f_38 "done" "Desk.done" lL)
  (h_39:HM K c_Desk f_39 "nexts" "Desk.nexts" fN)
  (h_40:HM K c_Desk f_40 "ways" "Desk.ways" kW)
  (h_41:HM K c_Desk f_41 "ahead" "Desk.ahead" kI)
  (h_42:HM K c_Desk f_42 "write" "Desk.write" jP)
  (h_43:HM K c_Desk f_43 "back" "Desk.back" lD)
  (h_44:HM K c_Desk f_44 "__init__" "Desk.__init__" lG)
  (h_45:HF K f_45 "_law_power" kE)
  (h_46:HF K f_46 "_law_stir" kT)
  (h_47:HF K f_47 "_law_folded" iZ)
  (h_48:HF K f_48 "_law_words" kA)
  (h_49:HF K f_49 "_law_behind" jA)
  (h_50:HF K f_50 "_law_by_digits" fY)
  (h_51:HF K f_51 "_law_even_words" fM)
  (h_52:HF K f_52 "_law_size" kU)
  (h_53:HF K f_53 "_law_uneven" gF)
  (h_54:HF K f_54 "_law_no_ring" hJ)
  (h_55:HF K f_55 "_law_state" jV)
  (h_56:HF K f_56 "_law_refused" iG)
  (h_57:HF K f_57 "_law_deed" lP)
  (a_58:bo K mainGlobals "law" = some (some (.ref f_58))) (l_58:K.lookup f_58=some ⟨oc_58,od_58,.func (ei "law" "law" (eE nZ) (dL nZ) (aF nZ) .none kV_58 dc_58 pm_58 an_58 cd_58 ct_58),sl_58⟩) (c_58:ja K cd_58 "law" = true) (k_58:dl K (.ref f_58)=true)
  (z_abs:bo K mainGlobals "abs" = some none)
  (z_all:bo K mainGlobals "all" = some none)
  (z_enumerate:bo K mainGlobals "enumerate" = some none)
  (z_isinstance:bo K mainGlobals "isinstance" = some none)
  (z_len:bo K mainGlobals "len" = some none)
  (z_list:bo K mainGlobals "list" = some none)
  (z_max:bo K mainGlobals "max" = some none)
  (z_range:bo K mainGlobals "range" = some none)
  (z_set:bo K mainGlobals "set" = some none)
  (z_sorted:bo K mainGlobals "sorted" = some none)
  (z_sum:bo K mainGlobals "sum" = some none)
  (z_tuple:bo K mainGlobals "tuple" = some none)
  (z_zip:bo K mainGlobals "zip" = some none)
  (y_BadKinds:bo K mainGlobals "BadKinds" = some (some (.ref c_BadKinds)))
  (y_BadWord:bo K mainGlobals "BadWord" = some (some (.ref c_BadWord)))
  (y_TooMany:bo K mainGlobals "TooMany" = some (some (.ref c_TooMany)))
  (y_NoSuch:bo K mainGlobals "NoSuch" = some (some (.ref c_NoSuch)))
  (y_BadDeed:bo K mainGlobals "BadDeed" = some (some (.ref c_BadDeed)))
  (y_NoRing:bo K mainGlobals "NoRing" = some (some (.ref c_NoRing)))
  (y_OnceError:bo K mainGlobals "OnceError" = some (some (.ref c_OnceError)))
  (y_Web:bo K mainGlobals "Web" = some (some (.ref c_Web)))
  (y_Desk:bo K mainGlobals "Desk" = some (some (.ref c_Desk)))
  (y_KNOWN_TIMES:bo K mainGlobals "KNOWN_TIMES" = some (some (.ref c_KNOWN_TIMES)))
  (e_BadKinds:kg K c_BadKinds sP "ValueError.__new__" = true)
  (e_BadWord:kg K c_BadWord sP "ValueError.__new__" = true)
  (e_TooMany:kg K c_TooMany sP "ValueError.__new__" = true)
  (e_NoSuch:kg K c_NoSuch sP "ValueError.__new__" = true)
  (e_BadDeed:kg K c_BadDeed sP "ValueError.__new__" = true)
  (n1_NoRing:bx K (.ref c_NoRing) "__getattribute__" = some (some (.builtin "BaseException.__getattribute__")))
  (n2_NoRing:bx K (.ref c_NoRing) "__getattr__" = some none)
  (n3_NoRing:bx K (.ref c_NoRing) "__class__" = some (some (.builtin "object.__class__")))
  (n4_NoRing:ko K (.builtin "object.__class__") "__get__" = some (some (.builtin "getset_descriptor.__get__")))
  (n5_NoRing:q5 K (.builtin "object.__class__")=some true)
  (n6_NoRing:lj K c_NoRing (.type "object")=some true)
  (n7_NoRing:lj K c_NoRing (.type "BaseException")=some true)
  (n8_NoRing:(tf K c_NoRing).isSome=true)
  (n1_NoSuch:bx K (.ref c_NoSuch) "__getattribute__" = some (some (.builtin "BaseException.__getattribute__")))
  (n2_NoSuch:bx K (.ref c_NoSuch) "__getattr__" = some none)
  (n3_NoSuch:bx K (.ref c_NoSuch) "__class__" = some (some (.builtin "object.__class__")))
  (n4_NoSuch:ko K (.builtin "object.__class__") "__get__" = some (some (.builtin "getset_descriptor.__get__")))
  (n5_NoSuch:q5 K (.builtin "object.__class__")=some true)
  (n6_NoSuch:lj K c_NoSuch (.type "object")=some true)
  (n7_NoSuch:lj K c_NoSuch (.type "BaseException")=some true)
  (n8_NoSuch:(tf K c_NoSuch).isSome=true)
  (n1_BadDeed:bx K (.ref c_BadDeed) "__getattribute__" = some (some (.builtin "BaseException.__getattribute__")))
  (n2_BadDeed:bx K (.ref c_BadDeed) "__getattr__" = some none)
  (n3_BadDeed:bx K (.ref c_BadDeed) "__class__" = some (some (.builtin "object.__class__")))
  (n4_BadDeed:ko K (.builtin "object.__class__") "__get__" = some (some (.builtin "getset_descriptor.__get__")))
  (n5_BadDeed:q5 K (.builtin "object.__class__")=some true)
  (n6_BadDeed:lj K c_BadDeed (.type "object")=some true)
  (n7_BadDeed:lj K c_BadDeed (.type "BaseException")=some true)
  (n8_BadDeed:(tf K c_BadDeed).isSome=true)
  (g_FIRST_PRIME:bo K mainGlobals "FIRST_PRIME" = some (some u_FIRST_PRIME)) (r_FIRST_PRIME:bE (.int 2305843009213693951) u_FIRST_PRIME)
  (g_STEP:bo K mainGlobals "STEP" = some (some u_STEP)) (r_STEP:bE (.int 6277101735386680763835789423207666416102355444464034512896) u_STEP)
  (g_LETTERS:bo K mainGlobals "LETTERS" = some (some u_LETTERS)) (r_LETTERS:bE (T [97,98,99,100,101,102]) u_LETTERS)
  (g_LONGEST:bo K mainGlobals "LONGEST" = some (some u_LONGEST)) (r_LONGEST:bE (.int 24) u_LONGEST)
  (g_MOST_OF_A_WEB:bo K mainGlobals "MOST_OF_A_WEB" = some (some u_MOST_OF_A_WEB)) (r_MOST_OF_A_WEB:bE (.int 64) u_MOST_OF_A_WEB)
  (g_LONGEST_OF_A_WEB:bo K mainGlobals "LONGEST_OF_A_WEB" = some (some u_LONGEST_OF_A_WEB)) (r_LONGEST_OF_A_WEB:bE (.int 8) u_LONGEST_OF_A_WEB)
  (q_o:jd K (.ref c_NoRing) (.ref c_OnceError)=some true)
  (q_n:gg K (.ref c_NoRing) (.ref c_NoRing)=some true)
  (q_a:sj K (.ref c_NoRing) [.ref c_NoSuch,.ref c_BadDeed]=some false)
  (q_do:jd K (.ref c_BadDeed) (.ref c_OnceError)=some true)
  (q_so:jd K (.ref c_NoSuch) (.ref c_OnceError)=some true)
  (q_dd:gg K (.ref c_BadDeed) (.ref c_BadDeed)=some true)
  (q_ds:gg K (.ref c_BadDeed) (.ref c_NoSuch)=some false)
  (q_sd:gg K (.ref c_NoSuch) (.ref c_BadDeed)=some false)
  (q_ss:gg K (.ref c_NoSuch) (.ref c_NoSuch)=some true)
  (kt:tupIs K c_KNOWN_TIMES [133,211,598,652,721,850,1282,1417,1582,1681,1726,1837,1885,2017,2377,2383,2452,2476,2530,2611,2662,2698,2773,2878,2917,2980,2998,3082,3238,3250,3343,3421,3427,3670,3817,4162,4252,4447,4468,4621,4630,4747,4867,4891,4915,5128,5143,5236,5401,5587,5650,5803,5833,5923,5986,6202,6235,6286,6496,6526,6736,7093,7561,7696,7831,7855,7882,7927,8143,8248]=true)
  (pg_Web:jw K c_Web Str.empty=true) (hd_Web:gq K c_Web=true) (po_Web:lx K c_Web=true) (sa_Web:bx K (.ref c_Web) "__setattr__" = some (some (.builtin "object.__setattr__"))) (mk_Web:nc K c_Web=true) (kc_Web:dl K (.ref c_Web)=true)
  (na_Web_words:bx K (.ref c_Web) "words" = some none)
  (na_Web_length:bx K (.ref c_Web) "length" = some none)
  (pg_Desk:jw K c_Desk Str.empty=true) (hd_Desk:gq K c_Desk=true) (po_Desk:lx K c_Desk=true) (sa_Desk:bx K (.ref c_Desk) "__setattr__" = some (some (.builtin "object.__setattr__"))) (mk_Desk:nc K c_Desk=true) (kc_Desk:dl K (.ref c_Desk)=true)
  (na_Desk_web:bx K (.ref c_Desk) "web" = some none)
  (na_Desk_text:bx K (.ref c_Desk) "text" = some none)
  (ei_NoRing:Fe K c_NoRing f_16=true) (sa_NoRing:bx K (.ref c_NoRing) "__setattr__" = some (some (.builtin "object.__setattr__"))) (kc_NoRing:dl K (.ref c_NoRing)=true) (hd_NoRing:gq K c_NoRing=true) (na_NoRing_paper:bx K (.ref c_NoRing) "paper" = some none)
  (bg_OnceError:ko K (.ref c_OnceError) "__getattribute__" = some (some (.builtin "type.__getattribute__"))) (br_OnceError:vk K c_OnceError (.type "type")=true) (bf_OnceError:vn K (.ref c_OnceError) (.type "type") "__init__" = some (.val (.builtin "ValueError.__init__"))) :
  ∃ fd:FuncData,(∀ (s:Shared) (v:Value),BindsTo s fd ⟨[v],[]⟩ [("script",v)])∧∀ base:Heap,K.In base->base.Ns mainGlobals mg->bI l.prog w K mg base (CX2 l.prog w) 10 fa fd ["script"] (Hn K):=by
 have e:=hfa.symm.trans (cg X G a_58);cases e;obtain⟨_,F_15,M_Web_init⟩:=h_15.go;obtain⟨_,F_16,M_NoRing_init⟩:=h_16.go;obtain⟨_,F_34,M_Desk_written⟩:=h_34.go;obtain⟨_,F_35,M_Desk_home⟩:=h_35.go;obtain⟨_,F_36,M_Desk_gone⟩:=h_36.go;obtain⟨_,F_37,M_Desk_left⟩:=h_37.go;obtain⟨_,F_38,M_Desk_done⟩:=h_38.go;obtain⟨_,F_39,M_Desk_nexts⟩:=h_39.go;obtain⟨_,F_40,M_Desk_ways⟩:=h_40.go;obtain⟨_,F_41,M_Desk_ahead⟩:=h_41.go;obtain⟨_,F_42,M_Desk_write⟩:=h_42.go;obtain⟨_,F_43,M_Desk_back⟩:=h_43.go;obtain⟨_,F_44,M_Desk_init⟩:=h_44.go;have tt:Txt K mg ⟨c_BadKinds,c_BadWord,c_TooMany,c_NoSuch,c_BadDeed,c_NoRing,c_OnceError,c_Web,c_Desk,c_KNOWN_TIMES,u_FIRST_PRIME,u_STEP,u_LETTERS,u_LONGEST,u_MOST_OF_A_WEB,u_LONGEST_OF_A_WEB⟩:=⟨dg X G z_abs,dg X G z_all,dg X G z_enumerate,dg X G z_isinstance,dg X G z_len,dg X G z_list,dg X G z_max,dg X G z_range,dg X G z_set,dg X G z_sorted,dg X G z_sum,dg X G z_tuple,dg X G z_zip,cg X G y_BadKinds,cg X G y_BadWord,cg X G y_TooMany,cg X G y_NoSuch,cg X G y_BadDeed,cg X G y_NoRing,cg X G y_OnceError,cg X G y_Web,cg X G y_Desk,cg X G y_KNOWN_TIMES,⟨cg X G y_BadKinds,e_BadKinds⟩,⟨cg X G y_BadWord,e_BadWord⟩,⟨cg X G y_TooMany,e_TooMany⟩,⟨cg X G y_NoSuch,e_NoSuch⟩,⟨cg X G y_BadDeed,e_BadDeed⟩,⟨n1_NoRing,n2_NoRing,n3_NoRing,n4_NoRing,n5_NoRing,n6_NoRing,n7_NoRing,n8_NoRing⟩,⟨n1_NoSuch,n2_NoSuch,n3_NoSuch,n4_NoSuch,n5_NoSuch,n6_NoSuch,n7_NoSuch,n8_NoSuch⟩,⟨n1_BadDeed,n2_BadDeed,n3_BadDeed,n4_BadDeed,n5_BadDeed,n6_BadDeed,n7_BadDeed,n8_BadDeed⟩,cg X G g_FIRST_PRIME,r_FIRST_PRIME,cg X G g_STEP,r_STEP,cg X G g_LETTERS,r_LETTERS,cg X G g_LONGEST,r_LONGEST,cg X G g_MOST_OF_A_WEB,r_MOST_OF_A_WEB,cg X G g_LONGEST_OF_A_WEB,r_LONGEST_OF_A_WEB,q_o,q_n,q_a,q_do,q_so,q_dd,q_ds,q_sd,q_ss,kt,⟨pg_Web,hd_Web,po_Web,sa_Web⟩,na_Web_words,na_Web_length,⟨pg_Desk,hd_Desk,po_Desk,sa_Desk⟩,na_Desk_web,na_Desk_text,⟨_,ei_NoRing,M_NoRing_init.fn,sa_NoRing⟩,hd_NoRing,na_NoRing_paper,⟨cg X G y_OnceError,bg_OnceError,br_OnceError,bf_OnceError⟩⟩;obtain⟨_,F_0,a_0⟩:=h_0.go;obtain⟨_,F_1,a_1⟩:=h_1.go;obtain⟨_,F_2,a_2⟩:=h_2.go;obtain⟨_,F_3,a_3⟩:=h_3.go;obtain⟨_,F_4,a_4⟩:=h_4.go;obtain⟨_,F_5,a_5⟩:=h_5.go;obtain⟨_,F_6,a_6⟩:=h_6.go;obtain⟨_,F_7,a_7⟩:=h_7.go;obtain⟨_,F_8,a_8⟩:=h_8.go;obtain⟨_,F_9,a_9⟩:=h_9.go;obtain⟨_,F_10,a_10⟩:=h_10.go;obtain⟨_,F_11,a_11⟩:=h_11.go;obtain⟨_,F_12,a_12⟩:=h_12.go;obtain⟨_,F_13,a_13⟩:=h_13.go;obtain⟨_,F_14,a_14⟩:=h_14.go;obtain⟨_,F_17,a_17⟩:=h_17.go;obtain⟨_,F_18,a_18⟩:=h_18.go;obtain⟨_,F_19,a_19⟩:=h_19.go;obtain⟨_,F_20,a_20⟩:=h_20.go;obtain⟨_,F_21,a_21⟩:=h_21.go;obtain⟨_,F_22,a_22⟩:=h_22.go;obtain⟨_,F_23,a_23⟩:=h_23.go;obtain⟨_,F_24,a_24⟩:=h_24.go;obtain⟨_,F_25,a_25⟩:=h_25.go;obtain⟨_,F_26,a_26⟩:=h_26.go;obtain⟨_,F_27,a_27⟩:=h_27.go;obtain⟨_,F_28,a_28⟩:=h_28.go;obtain⟨_,F_29,a_29⟩:=h_29.go;obtain⟨_,F_30,a_30⟩:=h_30.go;obtain⟨_,F_31,a_31⟩:=h_31.go;obtain⟨_,F_32,a_32⟩:=h_32.go;obtain⟨_,F_33,a_33⟩:=h_33.go;obtain⟨_,F_45,a_45⟩:=h_45.go;obtain⟨_,F_46,a_46⟩:=h_46.go;obtain⟨_,F_47,a_47⟩:=h_47.go;obtain⟨_,F_48,a_48⟩:=h_48.go;obtain⟨_,F_49,a_49⟩:=h_49.go;obtain⟨_,F_50,a_50⟩:=h_50.go;obtain⟨_,F_51,a_51⟩:=h_51.go;obtain⟨_,F_52,a_52⟩:=h_52.go;obtain⟨_,F_53,a_53⟩:=h_53.go;obtain⟨_,F_54,a_54⟩:=h_54.go;obtain⟨_,F_55,a_55⟩:=h_55.go;obtain⟨_,F_56,a_56⟩:=h_56.go;obtain⟨_,F_57,a_57⟩:=h_57.go;have F_58:=Gg (st:=nZ) l_58 c_58 k_58;refine⟨ei "law" "law" (eE nZ) (dL nZ) (aF nZ) .none kV_58 dc_58 pm_58 an_58 cd_58 ct_58,λs v=>.of_eq rfl,λbase _ _=>?_⟩
 have C_0:=mkC l.prog w base X G a_0 F_0 (rF F_0 tt) (bd2 F_0);have C_1:=mkC l.prog w base X G a_1 F_1 (Fd F_1 tt) (bd2 F_1);have C_2:=mkC l.prog w base X G a_2 F_2 (Ft F_2 tt) (bd4 F_2);have C_3:=mkC l.prog w base X G a_3 F_3 (iK F_3 tt) (bd1 F_3);have C_4:=mkC l.prog w base X G a_4 F_4 (mF F_4 tt C_3 C_1 C_2) (bd2 F_4);have C_5:=mkC l.prog w base X G a_5 F_5 (uN F_5 tt) (bd1 F_5);have C_6:=mkC l.prog w base X G a_6 F_6 (tV F_6 tt C_5 C_4 C_0 C_1) (bd1 F_6);have C_7:=mkC l.prog w base X G a_7 F_7 (sQ F_7 tt) (bd1 F_7);have C_8:=mkC l.prog w base X G a_8 F_8 (qI F_8 tt C_7) (bd2 F_8);have C_9:=mkC l.prog w base X G a_9 F_9 (Gh F_9 tt C_7) (bd1 F_9);have C_10:=mkC l.prog w base X G a_10 F_10 (Mq F_10 tt C_8 C_9) (bd2 F_10);have C_11:=mkC l.prog w base X G a_11 F_11 (wC F_11 tt) (bd2 F_11);have C_12:=mkC l.prog w base X G a_12 F_12 (sV F_12 tt) (bd2 F_12);have C_13:=mkC l.prog w base X G a_13 F_13 (Hb F_13 tt C_11 C_12) (bd3 F_13);have C_14:=mkC l.prog w base X G a_14 F_14 (xF F_14 tt C_10) (bd1 F_14);have C_15:Cam l.prog w K mg base (CX2 l.prog w) "Web" c_Web 5 ["self", "words"] (zV K _):=⟨⟨_,_,Cr F_15 tt C_14,⟨mk_Web,M_Web_init.at_,M_Web_init.fn,kc_Web⟩,cg X G y_Web,(bd2 F_15)⟩⟩
 have C_16:Cxi l.prog w K mg base "NoRing" c_NoRing "paper" 1 ["self", "words", "paper"]:=⟨⟨_,_,wA F_16 tt,⟨ei_NoRing,M_NoRing_init.fn,sa_NoRing⟩,cg X G y_NoRing,kc_NoRing,(bd3 F_16)⟩⟩
 have C_17:=mkC l.prog w base X G a_17 F_17 (Ed F_17 tt) (bd1 F_17);have C_18:=mkC l.prog w base X G a_18 F_18 (Jy F_18 tt) (bd1 F_18);have C_19:=mkC l.prog w base X G a_19 F_19 (Mm F_19 tt C_17 C_18) (bd1 F_19);have C_20:=mkC l.prog w base X G a_20 F_20 (Ko F_20 tt C_17 C_18) (bd2 F_20);have C_21:=mkC l.prog w base X G a_21 F_21 (wY F_21 tt C_17 C_18) (bd2 F_21);have C_22:=mkC l.prog w base X G a_22 F_22 (Hl F_22 tt C_19 C_21) (bd2 F_22);have C_23:=mkC l.prog w base X G a_23 F_23 (Be F_23 tt C_19 C_22) (bd1 F_23);have C_24:=mkC l.prog w base X G a_24 F_24 (vL F_24 tt C_19 C_20 C_23) (bd1 F_24);have C_25:=mkC l.prog w base X G a_25 F_25 (Go F_25 tt) (bd2 F_25);have C_26:=mkC l.prog w base X G a_26 F_26 (An F_26 tt C_21 C_17) (bd2 F_26);have C_27:=mkC l.prog w base X G a_27 F_27 (wI F_27 tt C_18) (bd3 F_27);have C_28:=mkC l.prog w base X G a_28 F_28 (nE F_28 tt C_6 C_27) (bd1 F_28);have C_29:=mkC l.prog w base X G a_29 F_29 (Fb F_29 tt C_17 C_18) (bd3 F_29);have C_30:=mkC l.prog w base X G a_30 F_30 (De F_30 tt C_17) (bd1 F_30);have C_31:=mkC l.prog w base X G a_31 F_31 (qS F_31 tt) (bd1 F_31);have C_32:=mkC l.prog w base X G a_32 F_32 (Fg F_32 tt C_29 C_30 C_31 C_28) (bd3 F_32);have C_33:=mkC l.prog w base X G a_33 F_33 (xC F_33 tt C_30 C_17 C_32 C_25 C_18) (bd3 F_33);have C_34:Cmt l.prog w K mg base (CX2 l.prog w) c_Desk "written" 1 ["self"] (qP c_Desk c_Web):=⟨⟨_,_,sO F_34 tt,M_Desk_written,tt.cl_Desk,(bd1 F_34)⟩⟩
 have C_35:Cmt l.prog w K mg base (CX2 l.prog w) c_Desk "home" 2 ["self"] (zM c_Desk c_Web):=⟨⟨_,_,zX F_35 tt C_17,M_Desk_home,tt.cl_Desk,(bd1 F_35)⟩⟩
 have C_36:Cmt l.prog w K mg base (CX2 l.prog w) c_Desk "gone" 3 ["self"] (rD c_Desk c_Web):=⟨⟨_,_,Ac F_36 tt C_13,M_Desk_gone,tt.cl_Desk,(bd1 F_36)⟩⟩
 have C_37:Cmt l.prog w K mg base (CX2 l.prog w) c_Desk "left" 4 ["self"] (uG c_Desk c_Web):=⟨⟨_,_,zY F_37 tt C_36,M_Desk_left,tt.cl_Desk,(bd1 F_37)⟩⟩
 have C_38:Cmt l.prog w K mg base (CX2 l.prog w) c_Desk "done" 5 ["self"] (Hf c_Desk c_Web):=⟨⟨_,_,Ag F_38 tt C_37,M_Desk_done,tt.cl_Desk,(bd1 F_38)⟩⟩
 have C_39:Cmt l.prog w K mg base (CX2 l.prog w) c_Desk "nexts" 5 ["self"] (tF c_Desk c_Web):=⟨⟨_,_,wT F_39 tt C_37 C_36 C_18 C_17 C_26 C_25,M_Desk_nexts,tt.cl_Desk,(bd1 F_39)⟩⟩
 have C_40:Cmt l.prog w K mg base (CX2 l.prog w) c_Desk "ways" 7 ["self"] (zT c_Desk c_Web):=⟨⟨_,_,Bl F_40 tt C_37 C_36 C_35 C_18 C_32,M_Desk_ways,tt.cl_Desk,(bd1 F_40)⟩⟩
 have C_41:Cmt l.prog w K mg base (CX2 l.prog w) c_Desk "ahead" 7 ["self"] (Bc c_Desk c_Web):=⟨⟨_,_,wO F_41 tt C_36 C_35 C_33,M_Desk_ahead,tt.cl_Desk,(bd1 F_41)⟩⟩
 have C_42:Cmt l.prog w K mg base (CX2 l.prog w) c_Desk "write" 6 ["self", "letter"] (tM c_Desk c_Web _):=⟨⟨_,_,xA F_42 tt C_39,M_Desk_write,tt.cl_Desk,(bd2 F_42)⟩⟩
 have C_43:Cmt l.prog w K mg base (CX2 l.prog w) c_Desk "back" 1 ["self"] (Aj c_Desk c_Web _):=⟨⟨_,_,Br F_43 tt,M_Desk_back,tt.cl_Desk,(bd1 F_43)⟩⟩
 have C_44:Cam l.prog w K mg base (CX2 l.prog w) "Desk" c_Desk 7 ["self", "web"] (sX c_Desk c_Web _):=⟨⟨_,_,Bn F_44 tt C_16 C_24 C_15,⟨mk_Desk,M_Desk_init.at_,M_Desk_init.fn,kc_Desk⟩,cg X G y_Desk,(bd2 F_44)⟩⟩
 have C_45:=mkC l.prog w base X G a_45 F_45 (wP F_45 tt) (bd2 F_45);have C_46:=mkC l.prog w base X G a_46 F_46 (Bp F_46 tt) (bd2 F_46);have C_47:=mkC l.prog w base X G a_47 F_47 (uT F_47 tt) (bd2 F_47);have C_48:=mkC l.prog w base X G a_48 F_48 (wK F_48 tt) (bd2 F_48);have C_49:=mkC l.prog w base X G a_49 F_49 (vJ F_49 tt C_45 C_47 C_46) (bd4 F_49);have C_50:=mkC l.prog w base X G a_50 F_50 (nQ F_50 tt) (bd2 F_50);have C_51:=mkC l.prog w base X G a_51 F_51 (mZ F_51 tt C_48 C_50 C_49 C_46) (bd4 F_51);have C_52:=mkC l.prog w base X G a_52 F_52 (Aq F_52 tt) (bd1 F_52);have C_53:=mkC l.prog w base X G a_53 F_53 (vU F_53 tt C_51 C_48) (bd4 F_53);have C_54:=mkC l.prog w base X G a_54 F_54 (sU F_54 tt C_44) (bd2 F_54);have C_55:=mkC l.prog w base X G a_55 F_55 (wX F_55 tt C_34 C_39 C_40 C_41 C_38) (bd1 F_55);have C_56:=mkC l.prog w base X G a_56 F_56 (sS F_56 tt C_42 C_43) (bd3 F_56);have C_57:=mkC l.prog w base X G a_57 F_57 (zG F_57 tt C_46 C_56 C_43 C_55 C_42) (bd3 F_57);exact Xq F_58 tt C_52 C_53 C_15 C_24 C_54 C_44 C_55 C_57
theorem walk {l : qu} {q : Program} {loose : List Str} {XP : (Str → Option Value) → Heap → Prop} {YP : World → Heap → Prop} {d : DefRec} {K : Params → ac} (hn : l.most = some 63) (hdf : d.params.defaults = [])
  (hY : ∀ (w : World) (h : Heap), YP w h → (K w.params).In h)
  (F : ∀ (w : World) (mg : Str → Option Value) (fa : Addr) (h : Heap), (K w.params).In h → h.Ns mainGlobals mg → mg d.name = some (.ref fa) →
   ∃ fd : FuncData, (∀ (s : Shared) (u : Value), BindsTo s fd ⟨[u], []⟩ [("script", u)]) ∧ ∀ base : Heap, (K w.params).In base → base.Ns mainGlobals mg → bI l.prog w (K w.params) mg base (CX2 l.prog w) 10 fa fd ["script"] (Hn (K w.params))) :
  wf q loose XP YP l.row.toRowW d [] (λf vs => vo f vs) :=
 L2.Tf (n := 63) (k := 10) (x := "script") (CX := λw => CX2 l.prog w) (sp := λw => Hn (K w.params)) hn (by decide) hdf ⟨rfl, by decide, by decide⟩ hY F (λ_ _ a ns hl _ hS => ⟨a, ns, rfl, hS, hl, λ_ => rfl⟩) λ_ _ _ _ _ ⟨_, _, _, _, _, _, _, z⟩ => z
end K75
namespace PySem.W.Fast
def tw13561389472459816064:=0
def tw17514810026548095776:=0
def tw18132076450190689409:=0
def tw10299050635244251937:=0
def tw8332640929359226498:=0
def tw17152001585598669538:=0
def tw7141287627049435042:=0
def tw9356059803502139362:=0
def tw9359568267969847619:=0
def tw922569936906779780:=0
def tw2278105671340049445:=0
def tw13643204350789486949:=0
def tw17424600129689079333:=0
def tw11485519093078700805:=0
def tw10909397905505250245:=0
def tw6743473872724380262:=0
def tw14987616065346657894:=0
def tw12502350951497139399:=0
def tw7753107096504692647:=0
def tw4359402012343078088:=0
def tw1603613856381215016:=0
def tw5792179853288438568:=0
def tw7117737325474491913:=0
def tw9705126646704703722:=0
def tw2164188026731348682:=0
def tw14702322613985849226:=0
def tw1263861146258345580:=0
def tw7911449716295963372:=0
def tw12147515539771340588:=0
def tw1378316517568455757:=0
def tw13680354145128212941:=0
def tw14989852915108064302:=0
def tw1815721551575581454:=0
def tw15917403558146221966:=0
theorem te2707323232284133262:True:=⟨⟩
def tw7535381654313338798:=0
def tw2460179963815997455:=0
def tw7700038781301243919:=0
def tw16641415044956446863:=0
def tw17290398084871139503:=0
def tw8337352605717187119:=0
def tw16979938933535335025:=0
def tw3915797584230081457:=0
def tw13409241456702007378:=0
def tw1125766785634290098:=0
def tw5813369861551996338:=0
def tw841526097075544786:=0
def tw2700860912381829843:=0
def tw1721043367331003155:=0
def tw15946127067233817459:=0
def tw8074950428119933460:=0
def tw10681299650953330260:=0
def tw7345656127669746324:=0
def tw11432269127467075348:=0
def tw5969225476108970900:=0
def tw2401374232328438965:=0
def tw7821280638444922197:=0
def tw18104537215666840181:=0
def tw7982292622097367797:=0
def tw9202524487873677109:=0
def tw3288172097658186262:=0
def tw2578214551836372598:=0
def tw12714641401893593942:=0
def tw18405935424928686038:=0
def tw7506230300383004792:=0
def tw4086456852924465177:=0
def tw2387812253984495033:=0
def tw820458443853092569:=0
def tw1687130555955449114:=0
def tw17193158683759639226:=0
def tw7060829862290916635:=0
def tw12717280042248643963:=0
def tw377091475962341883:=0
def tw240552450658708892:=0
def tw8997341687375330749:=0
def tw15053363073625945853:=0
def tw1667235331488658110:=0
def tw15238120129964528638:=0
def tw9070575842889766751:=0
def tw15549625192982493706:=0
def tw3339274254292530477:=0
def tw3416539965586686166:=0
def tw17325408336421853777:=0
def tw4198875229517516899:=0
def tw2785370437508611310:=0
def tw7167158626306742819:=0
def tw8868787360814055434:=0
def tw7240833217755327503:=0
def tw9913393439133280347:=0
def tw15882287498356929240:=0
def tw1020087825718590351:=0
def tw249497184301298946:=0
def tw2998912268012621732:=0
def tw1167337953993002522:=0
def tw15633754885574401180:=0
def tw18132612720904575563:=0
def tw11219844135326644169:=0
def tw13681857511843501428:=0
def tw11764541035706324170:=0
def tw6159145416704410131:=0
def tw844512588274957073:=0
def tw12509416410950388586:=0
def tw4224981049375755362:=0
def tw17379724504531618581:=0
def tw6383853907555708602:=0
def tw16403590184266141890:=0
def tw6227716708950253234:=0
def tw12977231877468716301:=0
def tw6188290717178558062:=0
def tw17546973238394891232:=0
def tw14266289787284006801:=0
def tw11299699037333780616:=0
def tw2723095828954804629:=0
def tw17248736483985685481:=0
def tw15894323820325815158:=0
def tw4825957676539343493:=0
def tw16244892183685633679:=0
def tw4127298571455765798:=0
def tw3613784761660401100:=0
def tw4507323237890870988:=0
def tw12111887996904434794:=0
def tw5383554806761259939:=0
def tw14523986581618026959:=0
def tw11408511311304193037:=0
def tw16172176093828793690:=0
def tw5933704292124698703:=0
def tw8384233283983401264:=0
def tw10139372002160714168:=0
def tw13095147464264929858:=0
def tw6299199987803043001:=0
def tw1535264389115739155:=0
def tw5366665670237107262:=0
def tw3694271999668020355:=0
def tw1634413728896392940:=0
def tw2093558065373587088:=0
def tw17320555857728541489:=0
def tw4248232581331780634:=0
def tw11043770834435596949:=0
def tw1968384886065144756:=0
def tw17065987830612872433:=0
def tw8402238943155425275:=0
def tw16372999747205665904:=0
def tw8709054195485531371:=0
def tw12270632553258592212:=0
def tw1577062998508307764:=0
def tw9904389626971092139:=0
def tw3562754725059473533:=0
def tw3186101263141228299:=0
def tw12725725270337624237:=0
def tw2651261208819200211:=0
def tw5482411943418519203:=0
def tw11628391938715774112:=0
def tw17393527988582807724:=0
def tw5806351725342423717:=0
def tw4279477097223514619:=0
def tw2373460517996097081:=0
def tw5078623389067943156:=0
def tw14893910458242502238:=0
def tw16747214174492358776:=0
def tw8897550395971385964:=0
def tw10531237010156970161:=0
def tw248198410713290314:=0
def tw11171151422816872013:=0
def tw5274709182866313347:=0
def tw8770307808109342923:=0
def tw10128803369297214563:=0
def tw17453414387725516555:=0
def tw14681150123840583610:=0
def tw13492162883379310238:=0
def tw6592617770961892463:=0
def tw3047559165778022538:=0
def tw7229599854377776720:=0
def tw13906786217690699638:=0
def tw17526003788941290280:=0
def tw17923080289926666871:=0
def tw8272195520704151906:=0
def tw15945494706768796638:=0
def tw14305474959217415381:=0
def tw12229265353528190997:=0
def tw10341668130812064290:=0
def tw17401649421685308494:=0
def tw9471419140273485468:=0
def tw18069669212019493590:=0
def tw292335941302117777:=0
def tw12073212708366654889:=0
def tw14331831606901417237:=0
def tw5314734780201965616:=0
def tw7611654573405219063:=0
def tw5397942539253377202:=0
def tw7031136536236928487:=0
def tw8200452932171164287:=0
def tw5830648776149551059:=0
end PySem.W.Fast
def PySem.W.Fast.tw6723309593282621771:=PySem.Challenge.pw_onceround_k75_desk_refused
theorem PySem.W.Fast.te6723309593282621771:PySem.Challenge.pw_onceround_k75_desk_refused=PySem.W.Fast.tw6723309593282621771:=rfl
end
open PySem PySem.W PyProof.Rows
set_option maxRecDepth 100000 in
set_option maxHeartbeats 0 in
theorem PySem.Challenge.cw_onceround_k75_desk_refused_holds : PySem.Challenge.rw_onceround_k75_desk_refused.Holds := by
  w_on; o_law; k_head; (case hw=>w_witness2)
  k_fill
  refine K75.walk (l := PySem.Challenge.rw_onceround_k75_desk_refused) rfl rfl (λw h Y => PySem.W.kIn_of Y) ?F
  case F =>
    intro w mg fa h KX G hmg
    refine' K75.all_mk KX G hmg ?h_0 ?h_1 ?h_2 ?h_3 ?h_4 ?h_5 ?h_6 ?h_7 ?h_8 ?h_9 ?h_10 ?h_11 ?h_12 ?h_13 ?h_14 ?h_15 ?h_16 ?h_17 ?h_18 ?h_19 ?h_20 ?h_21 ?h_22 ?h_23 ?h_24 ?h_25 ?h_26 ?h_27 ?h_28 ?h_29 ?h_30 ?h_31 ?h_32 ?h_33 ?h_34 ?h_35 ?h_36 ?h_37 ?h_38 ?h_39 ?h_40 ?h_41 ?h_42 ?h_43 ?h_44 ?h_45 ?h_46 ?h_47 ?h_48 ?h_49 ?h_50 ?h_51 ?h_52 ?h_53 ?h_54 ?h_55 ?h_56 ?h_57 ?a_58 ?l_58 ?c_58 ?k_58 ?z_abs ?z_all ?z_enumerate ?z_isinstance ?z_len ?z_list ?z_max ?z_range ?z_set ?z_sorted ?z_sum ?z_tuple ?z_zip ?y_BadKinds ?y_BadWord ?y_TooMany ?y_NoSuch ?y_BadDeed ?y_NoRing ?y_OnceError ?y_Web ?y_Desk ?y_KNOWN_TIMES ?e_BadKinds ?e_BadWord ?e_TooMany ?e_NoSuch ?e_BadDeed ?n1_NoRing ?n2_NoRing ?n3_NoRing ?n4_NoRing ?n5_NoRing ?n6_NoRing ?n7_NoRing ?n8_NoRing ?n1_NoSuch ?n2_NoSuch ?n3_NoSuch ?n4_NoSuch ?n5_NoSuch ?n6_NoSuch ?n7_NoSuch ?n8_NoSuch ?n1_BadDeed ?n2_BadDeed ?n3_BadDeed ?n4_BadDeed ?n5_BadDeed ?n6_BadDeed ?n7_BadDeed ?n8_BadDeed ?g_FIRST_PRIME ?r_FIRST_PRIME ?g_STEP ?r_STEP ?g_LETTERS ?r_LETTERS ?g_LONGEST ?r_LONGEST ?g_MOST_OF_A_WEB ?r_MOST_OF_A_WEB ?g_LONGEST_OF_A_WEB ?r_LONGEST_OF_A_WEB ?q_o ?q_n ?q_a ?q_do ?q_so ?q_dd ?q_ds ?q_sd ?q_ss ?kt ?pg_Web ?hd_Web ?po_Web ?sa_Web ?mk_Web ?kc_Web ?na_Web_words ?na_Web_length ?pg_Desk ?hd_Desk ?po_Desk ?sa_Desk ?mk_Desk ?kc_Desk ?na_Desk_web ?na_Desk_text ?ei_NoRing ?sa_NoRing ?kc_NoRing ?hd_NoRing ?na_NoRing_paper ?bg_OnceError ?br_OnceError ?bf_OnceError
    (case y_OnceError=>k_is)
    (all_goals try (apply K75.hf_mk <;> k_is));(case y_NoRing=>k_is);(case y_Desk=>k_is);(case y_Web=>k_is);(case h_15=>apply K75.jN <;> k_is);(case h_16=>apply K75.jN <;> k_is);(case h_34=>apply K75.jN <;> k_is);(case h_35=>apply K75.jN <;> k_is);(case h_36=>apply K75.jN <;> k_is);(case h_37=>apply K75.jN <;> k_is);(case h_38=>apply K75.jN <;> k_is);(case h_39=>apply K75.jN <;> k_is);(case h_40=>apply K75.jN <;> k_is);(case h_41=>apply K75.jN <;> k_is);(case h_42=>apply K75.jN <;> k_is);(case h_43=>apply K75.jN <;> k_is);(case h_44=>apply K75.jN <;> k_is);(case a_58=>k_is);(case l_58=>k_is);(case c_58=>k_is);(case k_58=>k_is);(case z_abs=>k_is);(case z_all=>k_is);(case z_enumerate=>k_is);(case z_isinstance=>k_is);(case z_len=>k_is);(case z_list=>k_is);(case z_max=>k_is);(case z_range=>k_is);(case z_set=>k_is);(case z_sorted=>k_is);(case z_sum=>k_is);(case z_tuple=>k_is);(case z_zip=>k_is);(case y_BadKinds=>k_is);(case y_BadWord=>k_is);(case y_TooMany=>k_is);(case y_NoSuch=>k_is);(case y_BadDeed=>k_is);(case y_KNOWN_TIMES=>k_is);(case e_BadKinds=>kernel_rfl);(case e_BadWord=>kernel_rfl);(case e_TooMany=>kernel_rfl);(case e_NoSuch=>kernel_rfl);(case e_BadDeed=>kernel_rfl);(case n1_NoRing=>k_is);(case n2_NoRing=>k_is);(case n3_NoRing=>k_is);(case n4_NoRing=>k_is);(case n5_NoRing=>k_is);(case n6_NoRing=>k_is);(case n7_NoRing=>k_is);(case n8_NoRing=>kernel_rfl);(case n1_NoSuch=>k_is);(case n2_NoSuch=>k_is);(case n3_NoSuch=>k_is);(case n4_NoSuch=>k_is);(case n5_NoSuch=>k_is);(case n6_NoSuch=>k_is);(case n7_NoSuch=>k_is);(case n8_NoSuch=>kernel_rfl);(case n1_BadDeed=>k_is);(case n2_BadDeed=>k_is);(case n3_BadDeed=>k_is);(case n4_BadDeed=>k_is);(case n5_BadDeed=>k_is);(case n6_BadDeed=>k_is);(case n7_BadDeed=>k_is);(case n8_BadDeed=>kernel_rfl);(case g_FIRST_PRIME=>k_is);(case r_FIRST_PRIME=>exact ⟨_, rfl⟩);(case g_STEP=>k_is);(case r_STEP=>exact ⟨_, rfl⟩);(case g_LETTERS=>k_is);(case r_LETTERS=>exact ⟨_, rfl⟩);(case g_LONGEST=>k_is);(case r_LONGEST=>exact ⟨_, rfl⟩);(case g_MOST_OF_A_WEB=>k_is);(case r_MOST_OF_A_WEB=>exact ⟨_, rfl⟩);(case g_LONGEST_OF_A_WEB=>k_is);(case r_LONGEST_OF_A_WEB=>exact ⟨_, rfl⟩);(case q_o=>kts_exm);(case q_n=>kit_is);(case q_a=>kit_is);(case q_do=>kts_exm);(case q_so=>kts_exm);(case q_dd=>kit_is);(case q_ds=>kit_is);(case q_sd=>kit_is);(case q_ss=>kit_is);(case kt=>kernel_rfl);(case pg_Web=>k_is);(case hd_Web=>k_is);(case po_Web=>k_is);(case sa_Web=>k_is);(case mk_Web=>k_is);(case kc_Web=>k_is);(case na_Web_words=>k_is);(case na_Web_length=>k_is);(case pg_Desk=>k_is);(case hd_Desk=>k_is);(case po_Desk=>k_is);(case sa_Desk=>k_is);(case mk_Desk=>k_is);(case kc_Desk=>k_is);(case na_Desk_web=>k_is);(case na_Desk_text=>k_is);(case ei_NoRing=>kernel_rfl);(case sa_NoRing=>k_is);(case kc_NoRing=>k_is);(case hd_NoRing=>k_is);(case na_NoRing_paper=>k_is);(case bg_OnceError=>kernel_rfl);(case br_OnceError=>kernel_rfl);(case bf_OnceError=>kernel_rfl)
#print axioms PySem.Challenge.cw_onceround_k75_desk_refused_holds
