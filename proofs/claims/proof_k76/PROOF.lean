import PyProof.Rows.All
import Wide.All
import OpenK.AllK
import Wide.FinOn
import Lean
import PyProof.EqAt
import PyProof.EqKinds
import PyProof.TupleCall
import PySem.Challenge.RW_onceround_k76_whole_desk_numbers
open Array renaming length_toList->bo,getD_eq_getD_getElem?->gu,getElem?_toList->li,eq_empty_of_size_eq_zero->ln,append_assoc->mi,size_map->mx,getElem?_eq_getElem->my,toList_push->m9,toList_extract->p9,forIn_toList->qw,replicate->t8,getD->ud,toList->ut
open Bool renaming false_ne_true->aj,eq_iff_iff->da,and_eq_true->df,false_eq_true->dq,or_false->jb,or_eq_true->jx,and_false->ke,eq_false_iff->lc,not_true->nh,beq_eq_decide_eq->pb,false_and->ph,not_eq_true'->rq,and_comm->ur,or_true->uu
open Classical renaming byContradiction->bc,choose->kg,choose_spec->o9
open Int renaming toNat_natCast->bv,emod_lt_of_pos->dk,mul_assoc->dv,emod_nonneg->d0,natAbs_natCast->fj,natCast_mul->fk,zero_add->gx,mul_comm->g7,mul_zero->g8,one_mul->jo,natCast_add->jv,mul_le_mul_of_nonneg_right->ll,mul_one->lu,mul_le_mul_of_nonneg_left->ly,toNat_of_nonneg->l9,zero_sub->ma,sub_zero->me,fdiv_eq_ediv_of_nonneg->ml,natAbs_mul->mo,sub_mul->m6,dvd_mul_of_dvd_right->na,dvd_mul_of_dvd_left->nj,zero_mul->oa,mul_add->pi,dvd_neg->pj,natCast_nonneg->qy,natAbs_eq_zero->qz,add_zero->re,dvd_mul_right->rf,natAbs_sub_le->rh,neg_mul->sv,dvd_add->sw
open List renaming length_map->aR,getElem?_eq_getElem->ac,getElem?_map->ag,length_append->ai,getD_eq_getElem?_getD->ak,getElem?_eq_some_iff->al,mem_cons_of_mem->am,size_toArray->ap,mem_of_getElem?->aq,mem_cons_self->ar,map_cons->au,length_cons->av,mem_cons->aw,mem_singleton->ax,mem_map->a5,length_eq_zero_iff->a8,length_drop->bf,map_append->bh,mem_append_right->bn,map_congr_left->br,mem_append->bt,range->bu,map_map->bx,zip->b6,length_take->b8,getElem?_eq_none->ca,mem_filter->cf,length_singleton->ci,length_filter_le->cj,mem_range->ck,length_range->cn,take_of_length_le->cp,length_pos_iff->cq,take_add_one->cx,nodup_cons->cy,sum_cons->cz,replicate->c7,take_length->c8,filter_cons_of_neg->c9,append_assoc->db,getElem_mem->di,filter_cons_of_pos->dj,append_nil->du,getElem?_append_right->d7,all_eq_true->d8,perm_ext_iff_of_nodup->d9,flatMap_cons->eh,exists_mem_of_length_pos->ei,getElem?_append_left->ej,dropLast_concat_getLast->er,getElem?_take_of_lt->fb,replicate_succ->fe,filter_sublist->ff,mem_append_left->fi,length_pos_of_mem->fo,filter_cons->ft,filter_eq_nil_iff->fu,not_mem_nil->fz,getElem?_range->ga,mem_map_of_mem->gb,nodup_append->ge,drop_append_of_le_length->gf,lt_irrefl->gh,drop_zero->gi,filter_filter->gl,pairwise_cons->gm,cons_append->gn,perm_cons_erase->gr,getElem?_drop->gz,getElem?_of_mem->ic,nodup_nil->ig,ext_getElem?->ii,filter_congr->ij,filterMap_cons->im,filter_eq_self->iq,map_nil->ir,take_zero->ix,exists_mem_of_ne_nil->iy,drop_eq_getElem_cons->iz,find?_cons->i0,length->i7,flatten_cons->i8,length_eraseIdx->i9,pairwise_map->ja,filterMap_cons_some->jf,eq_nil_iff_forall_not_mem->jk,lookup_cons->jl,pairwise_lt_range->js,filter_append->ju,map_drop->jy,take_append_drop->j3,idxOf_lt_length_of_mem->j6,lookup->j8,mem_of_mem_drop->kf,length_erase_of_mem->kl,map_take->km,filterMap_cons_none->kq,range_succ->kr,length_nil->ku,map_id->ky,getElem?_eraseIdx->k8,count_append->lb,cons_lt_cons_iff->ld,perm_append_comm->le,getElem?_toArray->lh,getElem?_zipWith->lj,flatMap_map->lm,any_cons->lq,take_append_of_le_length->lz,sum_append->l5,filter_nil->l7,mem_filterMap->mj,getElem?_tail->mq,perm_append_singleton->mr,length_eraseIdx_of_lt->mw,take_sublist->m4,foldl_append->m7,idxOf_lt_length_iff->nc,perm_nil->ng,mem_flatMap->nq,countP_cons->nr,getElem?_set_self->n6,zipWith->ol,of_mem_zip->oo,foldl_cons->oq,length_replicate->o8,mem_iff_getElem?->pd,getElem?_set_ne->pf,mem_erase_of_ne->pk,range'->pw,range_eq_range'->p8,getElem_toArray->qa,mem_iff_getElem->qb,flatMap_append->qd,length_zipWith->qf,all_cons->qg,lt_trans->qi,foldl->qk,length_range'->qp,getElem_idxOf->qq,flatMap_assoc->qr,find?_eq_none->qv,set_cons_succ->ra,reverse_perm->rl,map_id'->r6,find?_append->r8,drop_sublist->se,prefix_refl->sj,any_eq_true->sq,drop_length->sr,not_lt->su,length_set->tm,count_cons->tw,nil_append->tz,find?_some->t7,drop_drop->ub,all_map->uv
open List.Pairwise renaming imp_of_mem->jd,imp₂->ux,nil->uy
open List.Perm renaming refl->ie,append_left->jz,trans->oy,swap->uc
open List.Sublist renaming refl->sd
open List.cons renaming inj->qh
open Nat renaming le_refl->ah,le_trans->az,ne_of_lt->a9,lt_of_lt_of_le->b7,zero_le->b9,mul_comm->de,pow_le_pow_right->dm,mul_assoc->eg,min_eq_left->et,lt_irrefl->e9,mod_eq_of_lt->fc,lt_succ_of_lt->fh,lt_or_ge->fq,lt_of_succ_lt->gg,zero_add->gj,lt_of_le_of_lt->gk,mul_le_mul_right->gq,pow_succ->gv,one_mul->gy,ne_of_gt->g0,add_mul->ia,mul_le_mul->ib,lt_succ_self->iu,sub_add_cancel->iw,le_of_lt->i6,mod_lt->jc,mul_le_mul_left->jh,gcd->ji,le_add_right->jm,le_succ->jn,pow_add->jp,add_comm->jq,dvd_of_mod_eq_zero->jr,add_zero->jt,div_add_mod->jw,gcd_dvd_right->j5,pow_mul->j9,mul_mod->kc,add_le_add_left->ki,pos_of_ne_zero->kx,succ_mul->k7,sub_zero->k9,add_assoc->lr,pow_pos->lw,pow_lt_pow_right->lx,mul_div_cancel_left->nk,div_eq_of_lt->nu,le_of_eq->n8,pow_zero->oe,succ_pos->oh,div_le_self->ox,gcd_rec->pq,mul_one->p0,div_lt_of_lt_mul->p7,add_sub_cancel'->qe,mod_eq_sub_mod->ql,add_sub_cancel->qm,mod_mod_of_dvd->qo,not_lt->qt,add_right_comm->qu,zero_mul->rc,lt_trans->rg,sub_self->rj,mul_left_comm->rn,min_le_right->sh,pow_mod->sx,mod_mod->sy,mul_add->tf,gcd_le_left->tu,le_of_dvd->uq
open Option renaming map_eq_some_iff->bj,map_some->il,isSome_iff_exists->kj,isSome_map->m8,getD_none->si,map->ue
open Option.some renaming inj->ay
open PyProof.Rows renaming boot_sorted->dw,callWith_type1->gt,slot_tuple_getitem->jg,SetOf_congr->ko,setObjOf_fresh->mf,boot_sum->pe
open PyProof.Rows.F renaming plain_set_update_loop->dl,entry_set_update_loop->gc
open PySem renaming boot_len->a7,Scope->dt,strKind->fm,mem_of_lookup->ip,Within->rb,call->ua
open PySem.AutoSeq1 renaming list_insert_list_int_val_1->oz
open PySem.Challenge renaming pw_onceround_k76_whole_desk_numbers->mh
open PySem.EqMixed renaming eq_bool_str->uf,eq_str_bool->ug,ne_bool_str->uh,ne_str_bool->ui,eq_int_str->uj,eq_str_int->uk,ne_int_str->ul,ne_str_int->um
open PySem.F renaming plainAttrs_list->ed,slot_list_append->g9,type_list_append->h9,slot_list_count->kz,slot_dict_pop->lg,slot_dict_setdefault->l6,args_dict_pop_3->nw,plainAttrs_dict->nz,type_list_count->n0,entry_dict_pop->oj
open PySem.NameKind renaming «local»->ao,globalImplicit->bi,free->bz
open PySem.ScopeKind renaming function->ba
open PySem.Str renaming ofString->ae
open PySem.W renaming Frag->af,findIn->cg,nsIn->cm,keepIn->cr,mg_of->cu,fnOf->dg,codeIn->dh,mg_none_of->dz,isFn->fg,emptyDict->gd,instObj->ik,excIn->je,plainGet->jj,hasDictIn->j4,hideAll_get->kh,plainOver->k6,makesIn->l0,plainGet_of->l8,lookIn->mm,callWith_K->mn,methodObj->mz,cellsFrom_some->n9,takerIn->om,OpenLaw->ou,methodCall_KW->o0,of_hideAll->qj,handedIn->sf,hideAll->tj,WalkO->uo
open PySem.W.Looks renaming here->uw
open Std.Trichotomous renaming trichotomous->lv
open Sum renaming inr->cc,inl->qc
open Sum.inr renaming inj->j7
set_option genSizeOfSpec false
set_option bootstrap.genMatcherCode false
set_option Elab.async false
set_option linter.all false
set_option maxRecDepth 100000
set_option maxHeartbeats 4000000
noncomputable section
namespace L2
open PySem PySem.Spec PyProof.Rows
abbrev Key:=Sum Int Str
def vJ:Key->Value->Bool
 | .inl k,v=>Value.isInt k v
 | .inr x,v=>Value.isStrOf x v
def Zs (w:World):Key->Int
 | .inl k=>hashInt k
 | .inr x=>hashStr w x
theorem cX:∀ {k:Key} {v:Value},vJ k v=true->(∃ i t,k=qc i∧v=Value.int i t)∨(∃ x t,k=cc x∧v=Value.str x t)
 | .inl i,v,h=>by
  obtain⟨t,e⟩:=Value.isInt_shape (k:=i) (v:=v) h;exact .inl ⟨i,t,rfl,e⟩
 | .inr x,v,h=>by
  obtain⟨t,e⟩:=Value.isStrOf_shape (x:=x) (v:=v) h;exact .inr ⟨x,t,rfl,e⟩
theorem Kl (i:Int)(t:Tok):vJ (.inl i) (.int i t)=true:=by simp[vJ,Value.isInt]
theorem Jn (x:Str)(t:Tok):vJ (.inr x) (.str x t)=true:=by simp[vJ,Value.isStrOf]
theorem Uh (a b:Int):decide ((qc a:Key)=qc b)=(a==b):=by
 by_cases e:a=b
 ·subst e;simp
 ·have h:¬ (qc a:Key)=qc b:=fun q=>e (Sum.inl.inj q)
  rw[decide_eq_false h];exact (beq_eq_false_iff_ne.mpr e).symm
theorem Wo (a b:Str):decide ((cc a:Key)=cc b)=decide (a=b):=by
 by_cases e:a=b
 ·subst e;simp
 ·have h:¬ (cc a:Key)=cc b:=fun q=>e (j7 q)
  rw[decide_eq_false h,decide_eq_false e]
theorem Ww (a:Int)(b:Str):decide ((qc a:Key)=cc b)=false:=decide_eq_false (fun q=>nomatch q)
theorem Uz (a:Str)(b:Int):decide ((cc a:Key)=qc b)=false:=decide_eq_false (fun q=>nomatch q)
def bH (prog:Program)(w:World):PySem.KeyKind prog w Key where
 is:=vJ
 hash:=Zs w
 inj:=fun v a b ha hb=>by
  rcases cX ha with ⟨i,t,rfl,rfl⟩ | ⟨x,t,rfl,rfl⟩
  ·rcases cX hb with ⟨j,u,rfl,e⟩ | ⟨y,u,rfl,e⟩
   ·injection e with e1 _;rw[e1]
   ·exact nomatch e
  ·rcases cX hb with ⟨j,u,rfl,e⟩ | ⟨y,u,rfl,e⟩
   ·exact nomatch e
   ·injection e with e1 _;rw[e1]
 byValue:=fun k v h=>by
  rcases cX h with ⟨i,t,rfl,rfl⟩ | ⟨x,t,rfl,rfl⟩ <;> rfl
 pyHash:=fun hv h=>by
  rcases cX hv with ⟨i,t,rfl,rfl⟩ | ⟨x,t,rfl,rfl⟩
  ·exact wpAny_pyHash_int h
  ·exact wpAny_pyHash_str h
 eqBool:=fun hu hv h=>by
  rcases cX hu with ⟨i,t,rfl,rfl⟩ | ⟨x,t,rfl,rfl⟩
  ·rcases cX hv with ⟨j,u,rfl,rfl⟩ | ⟨y,u,rfl,rfl⟩
   ·rw[Uh] at h;exact wpAny_eqBool_int h
   ·rw[Ww] at h;exact SeqAt.EqAt.int_str i t y u _ _ _ _ h
  ·rcases cX hv with ⟨j,u,rfl,rfl⟩ | ⟨y,u,rfl,rfl⟩
   ·rw[Uz] at h;exact SeqAt.EqAt.str_int x t j u _ _ _ _ h
   ·rw[Wo] at h;exact wpAny_eqBool_str h
 «strs» := fun k x t v h=>by
  rcases cX h with ⟨i,u,rfl,e⟩ | ⟨y,u,rfl,e⟩
  ·exact nomatch e
  ·injection e with e1 _
   subst e1;cases v <;> rfl
theorem Cf (prog:Program)(w:World)(i:Int)(t:Tok):(bH prog w).is (.inl i) (.int i t)=true:=Kl i t
theorem Cr (prog:Program)(w:World)(x:Str)(t:Tok):(bH prog w).is (.inr x) (.str x t)=true:=Jn x t
inductive V where
 | non | bl (b:Bool) | int (i:Int) | str (x:Str) | byt (b:Array UInt8) | flt (b:UInt64) | ref (a:Addr) | ty (n:String)
 deriving DecidableEq
def bG:V->Value->Prop
 | .non,u=>u=Value.none
 | .bl b,u=>u=Value.bool b
 | .int i,u=>∃ t,u=Value.int i t
 | .str x,u=>∃ t,u=Value.str x t
 | .byt b,u=>∃ t,u=Value.bytes b t
 | .flt b,u=>∃ t,u=Value.float b t
 | .ref a,u=>u=Value.ref a
 | .ty n,u=>u=Value.type n
abbrev bK:List V->List Value->Prop:=Paired bG
theorem bK.length {xs:List V}{us:List Value}(r:bK xs us):xs.length=us.length:=Paired.length r
theorem bK.get:∀ {xs:List V} {us:List Value} {i:Nat} {x:V},bK xs us->xs[i]?=some x->∃ u,us[i]?=some u∧bG x u
 | _,_,_,_,.nil,e=>by simp at e
 | _,_,0,_,.cons r _,e=>by simp at e;subst e;exact⟨_,rfl,r⟩
 | _,_,i+1,x,.cons _ t,e=>by
  obtain⟨u,h1,h2⟩:=bK.get (i:=i) (x:=x) t (by simpa using e);exact⟨u,by simpa using h1,h2⟩
theorem bK.set {x:V}{u:Value}(r:bG x u):∀ {xs:List V} {us:List Value} (i:Nat),bK xs us->bK (xs.set i x) (us.set i u)
 | _,_,_,.nil=>.nil
 | _,_,0,.cons _ t=>.cons r t
 | _,_,i+1,.cons q t=>.cons q (bK.set r i t)
theorem bK.append:∀ {xs ys:List V} {us ws:List Value},bK xs us->bK ys ws->bK (xs++ys) (us++ws)
 | _,_,_,_,.nil,s=>s
 | _,_,_,_,.cons r t,s=>.cons r (bK.append t s)
theorem bK.take:∀ {xs:List V} {us:List Value} (n:Nat),bK xs us->bK (xs.take n) (us.take n)
 | _,_,0,_=>.nil
 | _,_,_+1,.nil=>.nil
 | _,_,n+1,.cons r t=>.cons r (bK.take n t)
theorem bK.drop:∀ {xs:List V} {us:List Value} (n:Nat),bK xs us->bK (xs.drop n) (us.drop n)
 | _,_,0,r=>r
 | _,_,_+1,.nil=>.nil
 | _,_,n+1,.cons _ t=>bK.drop n t
def jM:Option V->Option Value->Prop
 | some v,some u=>bG v u
 | none,none=>True
 | _,_=>False
def KV {κ:Type}:List (κ×V)->List (κ×Value)->Prop:=Paired fun (p:κ×V) (q:κ×Value)=>p.1=q.1∧bG p.2 q.2
def kV:Key->V
 | .inl i=>.int i
 | .inr x=>.str x
inductive HO where
 | lst (xs:List V)
 | tup (xs:List V)
 | dK (kvs:List (Key×V)) | dT (kvs:List (List Key×V))
 | set (S:Int->Bool) (n:Nat)
 | ins (C dx:Addr) (fs:List (Str×V))
 | own (x:Addr)
 | xd (fs:List (Str×V))
 | met (f x:Addr)
 | rng (lo hi:Int)
 | frz (o:Obj) (u:HO)
 | tbl (ps:Array Value)
 | ext (φ:Heap->Prop)
abbrev Hp:=Addr->Option HO
def upd (H:Hp)(a:Addr)(o:HO):Hp:=fun b=>if b=a then some o else H b
theorem aD {H:Hp}{a:Addr}{o:HO}:upd H a o a=some o:=by unfold upd;rw[if_pos rfl]
theorem aG {H:Hp}{a b:Addr}{o:HO}(h:b≠a):upd H a o b=H b:=by unfold upd;rw[if_neg h]
theorem yP {H:Hp}{a:Addr}{o u:HO}:upd (upd H a o) a u=upd H a u:=by
 funext b;unfold upd;split <;> rfl
theorem Xn {H:Hp}{a b:Addr}{o u:HO}(h:H a=some o)(h':H b=some u)(d:o≠u):a≠b:=by
 intro e;subst e;rw[h] at h';exact d (ay h')
theorem aJ {H:Hp}{a b:Addr}{o:HO}(h:H a=some o)(h':H b=none):a≠b:=by
 intro e;subst e;rw[h] at h';cases h'
section
variable (P:Program)(w:World)
def dB (H:Hp)(h:Heap)(a:Addr):HO->Prop
 | .lst xs=>xs.length<=sizeLine∧∃ (its:List Value) (n:Nat),bK xs its∧h.get? a=some { cls:=.type "list",data:=.seq its.toArray n }
 | .tup xs=>xs.length<=sizeLine∧∃ its:List Value,bK xs its∧IsTup h a its.toArray
 | .dK kvs=>kvs.length<=sizeLine∧(a==sysModules)=false∧∃ vs,KV kvs vs∧h.DictOf (bH P w) a vs
 | .dT kvs=>kvs.length<=sizeLine∧(a==sysModules)=false∧∃ xs:List (List Key×Addr×Value),
  Paired (fun (p:List Key×V) (q:List Key×Addr×Value)=>p.1=q.1∧H q.2.1=some (.tup (p.1.map kV))∧bG p.2 q.2.2) kvs xs ∧
  ∃ o es ep,h.get? a=some o∧o.ExactDict∧o.data = .dict es ep∧es.toList=xs.map (entryOfKey (tupleKind (bH P w)))∧(xs.map (·.1)).Nodup
 | .set S n=>h.SetOf (intKind P w) a S n
 | .ins C dx fs=>H dx=some (.own a)∧fs.length<=1000∧dx≠a∧h.get? a=some (ik C dx) ∧
  ∃ mA,h.Ns1 dx mA∧(∀ f,jM (fs.lookup f) (mA f))∧rb mA (fs.map (·.1))
 | .own _=>∃ o,h.get? a=some o
 | .xd fs=>∃ mA,h.Ns1 a mA∧∀ f,jM (fs.lookup f) (mA f)
 | .rng lo hi=>∃ t u v,h.get? a=some { cls:=.type "range",data:=.fields #[.int lo t,.int hi u,.int 1 v] }
 | .frz o u=>h.get? a=some o∧dB H h a u
 | .tbl ps=>h.get? a=some { cls:=.none,data:=.fields ps }
 | .met f x=>h.get? a=some (mz (.ref f) (.ref x))
 | .ext φ=>φ h∧(∃ o,h.get? a=some o)∧∀ h1 h2:Heap,φ h1->(∀ o,h1.get? a=some o->h2.get? a=some o)->φ h2
def HOk (H:Hp)(h:Heap):Prop:=∀ a o,H a=some o->dB P w H h a o
end
section
variable {P:Program}{w:World}{H H':Hp}{h h':Heap}{a:Addr}{o:HO}
theorem dB.lt (x:dB P w H h a o):a<h.objs.size:=by
 cases o with
 | lst xs=>obtain⟨_,_,_,_,e⟩:=x;exact Heap.lt_size e
 | tup xs=>obtain⟨_,_,_,p⟩:=x;exact p.lt
 | dK kvs=>obtain⟨_,_,_,_,o,_,_,e,_⟩:=x;exact Heap.lt_size e
 | dT kvs=>obtain⟨_,_,_,_,o,_,_,e,_⟩:=x;exact Heap.lt_size e
 | set S n=>obtain⟨o,_,_,_,e,_⟩:=x;exact Heap.lt_size e
 | ins C dx fs=>obtain⟨_,_,_,e,_⟩:=x;exact Heap.lt_size e
 | own y=>obtain⟨_,e⟩:=x;exact Heap.lt_size e
 | xd fs=>obtain⟨_,⟨_,_,_,e,_⟩,_⟩:=x;exact Heap.lt_size e
 | rng lo hi=>obtain⟨_,_,_,e⟩:=x;exact Heap.lt_size e
 | frz ob u=>obtain⟨e,_⟩:=x;exact Heap.lt_size e
 | tbl ps=>exact Heap.lt_size (show h.get? a=some _ from x)
 | met f y=>exact Heap.lt_size (show h.get? a=some _ from x)
 | ext φ=>obtain⟨_,⟨_,e⟩,_⟩:=x;exact Heap.lt_size e
theorem Paired.mapP {α β:Type}{F G:α->β->Prop}:∀ {l₁:List α} {l₂:List β},Paired F l₁ l₂->(∀ a b,F a b->G a b)->Paired G l₁ l₂
 | _,_,.nil,_=>.nil
 | _,_,.cons r t,f=>.cons (f _ _ r) (Paired.mapP t f)
theorem dB.stay (x:dB P w H h a o)(k:∀ b u,(b=a∨H b=some (.own a))->h.get? b=some u->h'.get? b=some u)
  (ho:∀ b,H b=some (.own a)->H' b=some (.own a)) (ht:∀ b xs,H b=some (.tup xs)->H' b=some (.tup xs)):dB P w H' h' a o:=by
 induction o with
 | lst xs=>obtain⟨z,its,n,r,e⟩:=x;exact⟨z,its,n,r,k _ _ (.inl rfl) e⟩
 | tup xs=>obtain⟨z,its,r,ob,e,c⟩:=x;exact⟨z,its,r,ob,k _ _ (.inl rfl) e,c⟩
 | dK kvs=>obtain⟨z,y,vs,r,ob,es,ep,e,c⟩:=x;exact⟨z,y,vs,r,ob,es,ep,k _ _ (.inl rfl) e,c⟩
 | dT kvs =>
  obtain⟨z,y,xs,r,ob,es,ep,e,c⟩:=x;exact⟨z,y,xs,Paired.mapP r fun p q z=>⟨z.1,ht _ _ z.2.1,z.2.2⟩,ob,es,ep,k _ _ (.inl rfl) e,c⟩
 | set S n=>obtain⟨ob,es,ep,t,e,c⟩:=x;exact⟨ob,es,ep,t,k _ _ (.inl rfl) e,c⟩
 | ins C dx fs =>
  obtain⟨d,z,ne,e,mA,⟨od,es,ep,e2,c⟩,r⟩:=x;exact⟨ho _ d,z,ne,k _ _ (.inl rfl) e,mA,⟨od,es,ep,k _ _ (.inr d) e2,c⟩,r⟩
 | own y=>obtain⟨ob,e⟩:=x;exact⟨ob,k _ _ (.inl rfl) e⟩
 | xd fs=>obtain⟨mA,⟨od,es,ep,e,c⟩,r⟩:=x;exact⟨mA,⟨od,es,ep,k _ _ (.inl rfl) e,c⟩,r⟩
 | rng lo hi=>obtain⟨t,u,v,e⟩:=x;exact⟨t,u,v,k _ _ (.inl rfl) e⟩
 | frz ob u ih=>obtain⟨e,q⟩:=x;exact⟨k _ _ (.inl rfl) e,ih q⟩
 | tbl ps =>
  have e:h.get? a=some { cls:=.none,data:=.fields ps }:=x;show h'.get? a=some { cls:=.none,data:=.fields ps };exact k a _ (.inl rfl) e
 | met f y =>
  have e:h.get? a=some (mz (.ref f) (.ref y)):=x;show h'.get? a=some (mz (.ref f) (.ref y));exact k a _ (.inl rfl) e
 | ext φ=>obtain⟨p,⟨o,e⟩,st⟩:=x;exact⟨st _ _ p fun o q=>k _ _ (.inl rfl) q,⟨o,k _ _ (.inl rfl) e⟩,st⟩
theorem HOk.lt (x:HOk P w H h)(e:H a=some o):a<h.objs.size:=(x a o e).lt
theorem HOk.fresh (x:HOk P w H h)(e:h.objs.size<=a):H a=none:=by
 cases q:H a with
 | none=>rfl
 | some u=>exact absurd (b7 (x.lt q) e) (e9 _)
theorem HOk.kept (x:HOk P w H h)(k:∀ b u,h.get? b=some u->h'.get? b=some u):HOk P w H h':=fun a o e =>
 (x a o e).stay (fun b u _ q=>k b u q) (fun _ q=>q) fun _ _ q=>q
theorem HOk.laid (x:HOk P w H h)(k:∀ b u,h.get? b=some u->h'.get? b=some u)(hp:h.objs.size<=a)(new:dB P w (upd H a o) h' a o):HOk P w (upd H a o) h':=fun b u e=>by
 have hn:=x.fresh hp;by_cases hb:b=a
 ·subst hb;rw[aD] at e;cases e;exact new
 ·rw[aG hb] at e
  exact (x b u e).stay (fun c v _ q=>k c v q) (fun c q=>by rw[aG (aJ q hn)];exact q) fun c xs q=>by rw[aG (aJ q hn)];exact q
end
def Rd (H:Hp)(a:Addr)(u:HO):Prop:=H a=some u∨∃ o,H a=some (.frz o u)
theorem Rd.ok {P:Program}{w:World}{H:Hp}{h:Heap}{a:Addr}{u:HO}(r:Rd H a u)(x:HOk P w H h):dB P w H h a u:=by
 rcases r with r | ⟨o,r⟩
 ·exact x a u r
 ·obtain⟨_,q⟩:=x a _ r
  exact q
def Mut:Option HO->Prop
 | some (.lst _)=>True
 | some (.dK _)=>True
 | some (.dT _)=>True
 | some (.set _ _)=>True
 | some (.ins _ _ _)=>True
 | some (.ext _)=>True
 | _=>False
section
variable {P:Program}{w:World}{H:Hp}{h h':Heap}{x e:Addr}{o':HO}
theorem HOk.write (ok:HOk P w H h)(mu:Mut (H x))(he:e=x∨H e=some (.own x))(k:∀ b u,b≠e->h.get? b=some u->h'.get? b=some u)(heo:∃ u,h'.get? e=some u)
  (new:dB P w (upd H x o') h' x o'):HOk P w (upd H x o') h':=fun b u q=>by
 have nown:∀ c y,H c=some (.own y)->c≠x:=fun c y r z=>by subst z;rw[r] at mu;exact mu
 have ntup:∀ c xs,H c=some (.tup xs)->c≠x:=fun c xs r z=>by subst z;rw[r] at mu;exact mu
 by_cases hb:b=x
 ·subst hb;rw[aD] at q;cases q;exact new
 ·rw[aG hb] at q
  by_cases hbe:b=e
  ·have q':H b=some (.own x):=by
    rcases he with z | z
    ·exact absurd (hbe.trans z) hb
    ·rw[hbe];exact z
   rw[q] at q';cases q';obtain⟨v,hv⟩:=heo;exact⟨v,by rw[hbe];exact hv⟩
  ·refine (ok b u q).stay (fun c v hc r=>k c v ?_ r) (fun c r=>by rw[aG (nown c b r)];exact r) fun c xs r=>by rw[aG (ntup c xs r)];exact r
   rcases hc with rfl | hc
   ·exact hbe
   ·rintro rfl
    rcases he with z | z
    ·exact nown c b hc z
    ·rw[hc] at z;cases z;exact hb rfl
end
structure Un (fs ex:List Addr)(H H':Hp)(h h':Heap):Prop where
 keep:∀ b o,h.get? b=some o->H b=none->b∉fs->b∉ex->h'.get? b=some o
 slot:∀ b o,h.get? b=some o->H b=none->b∈fs->b∉ex->∃ sl,h'.get? b=some { o with slots:=sl }
 free:∀ b o,h.get? b=some o->H b=none->b∉ex->H' b=none
 there:∀ b o,h.get? b=some o->b∉ex->∃ o',h'.get? b=some o'
 tups:∀ b xs,H b=some (.tup xs)->H' b=some (.tup xs)
 frzs:∀ b o u,H b=some (.frz o u)->H' b=some (.frz o u)
 tbls:∀ b ps,H b=some (.tbl ps)->∃ more,H' b=some (.tbl (ps++more))
section
variable {fs fs' ex ex':List Addr}{H H1 H2:Hp}{h h1 h2 h':Heap}{a x e:Addr}{o:HO}
theorem Un.any (u:Un fs ex H H1 h h1){b:Addr}{ob:Obj}(q:h.get? b=some ob)(n:H b=none)(hx:b∉ex):∃ sl,h1.get? b=some { ob with slots:=sl }:=by
 by_cases hb:b∈fs
 ·exact u.slot b ob q n hb hx
 ·exact⟨ob.slots,u.keep b ob q n hb hx⟩
theorem Un.kept (k:∀ b u,h.get? b=some u->h'.get? b=some u):Un fs ex H H h h' :=
 ⟨fun b ob q _ _ _=>k b ob q,fun b ob q _ _ _=>⟨ob.slots,k b ob q⟩,fun _ _ _ n _=>n,fun b ob q _=>⟨ob,k b ob q⟩,fun _ _ q=>q,fun _ _ _ q=>q,fun _ ps q=>⟨#[],by rw[q];simp⟩⟩
theorem Un.refl:Un fs ex H H h h:=Un.kept fun _ _ q=>q
theorem Un.laid (k:∀ b u,h.get? b=some u->h'.get? b=some u)(hp:h.objs.size<=a)(hn:H a=none):Un fs ex H (upd H a o) h h' where
 keep:=fun b u q _ _ _=>k b u q
 slot:=fun b u q _ _ _=>⟨u.slots,k b u q⟩
 free:=fun b u q n _=>by rw[aG (a9 (b7 (Heap.lt_size q) hp))];exact n
 there:=fun b u q _=>⟨u,k b u q⟩
 tups:=fun b xs q=>by rw[aG (aJ q hn)];exact q
 frzs:=fun b u xs q=>by rw[aG (aJ q hn)];exact q
 tbls:=fun b ps q=>⟨#[],by rw[aG (aJ q hn),q];simp⟩
theorem Un.write (mu:Mut (H x))(he:e=x∨H e=some (.own x))(k:∀ b u,b≠e->h.get? b=some u->h'.get? b=some u)(heo:∃ u,h'.get? e=some u):Un fs ex H (upd H x o) h h':=by
 have hx:∀ b,H b=none->b≠x:=fun b n z=>by subst z;rw[n] at mu;exact mu
 have hb:∀ b,H b=none->b≠e:=fun b n z=>by
  subst z;rcases he with r | r
  ·exact hx b n r
  ·rw[n] at r;cases r
 have hm:∀ b u,H b=some u->¬ Mut (some u)->b≠x:=fun b u q nm z=>by subst z;rw[q] at mu;exact nm mu
 refine⟨fun b u q n _ _=>k b u (hb b n) q,fun b u q n _ _=>⟨u.slots,k b u (hb b n) q⟩,fun b u q n _=>by rw[aG (hx b n)];exact n,fun b u q _=>?_,
  fun b xs q=>by rw[aG (hm b _ q fun z=>z)];exact q,fun b u xs q=>by rw[aG (hm b _ q fun z=>z)];exact q,fun b ps q=>⟨#[],by rw[aG (hm b _ q fun z=>z),q];simp⟩⟩
 by_cases hbe:b=e
 ·subst hbe;exact heo
 ·exact⟨u,k b u hbe q⟩
end
def trk (h:Heap)(H:Hp):List Addr:=(bu h.objs.size).filter fun a=>(H a).isSome
def Am (h:Heap)(H:Hp):Heap:=tj h (trk h H)
theorem Kx (h:Heap)(H:Hp):(Am h H).objs.size=h.objs.size:=PySem.W.hideAll_size _ _
theorem Ly {h:Heap}{H:Hp}{b:Addr}{o:Obj}(e:h.get? b=some o)(n:H b=none):(Am h H).get? b=some o :=
 kh _ e fun hm=>by
  have q:(H b).isSome=true:=(cf.mp hm).2;rw[n] at q;simp at q
theorem Sj {h:Heap}{H:Hp}{b:Addr}{o:Obj}(e:(Am h H).get? b=some o):h.get? b=some o∧H b=none:=by
 have e':h.get? b=some o:=qj (trk h H) e;refine⟨e',?_⟩
 cases q:H b with
 | none=>rfl
 | some x =>
  have hm:b∈trk h H:=cf.mpr ⟨ck.mpr (Heap.lt_size e'),by simp[q]⟩;have z:(Am h H).get? b=none:=PySem.W.hideAll_none (trk h H) hm;rw[z] at e;cases e
def Ra (g h:Heap)(L:Addr):List (Addr×Obj):=(bu h.objs.size).filterMap fun a=>if a=L∨(g.get? a).isSome=true then none else (h.get? a).map fun o=>(a,o)
def rest (g h:Heap)(L d:Addr):List (Addr×Obj):=(Ra g h L).filter fun p=>decide (p.1≠d)
structure Mod (K:af)(mg:Str->Option Value)(base:Heap):Prop where
 kin:K.In base
 glob:base.Ns mainGlobals mg
 blt:∃ mb,base.Ns builtinsNs mb∧∀ x:Str,x ≠ "__name__" -> mb x=bootBuiltins x
 nolimit:base.NoLimit
structure Cx where
 prog:Program
 w:World
 K:af
 mg:Str->Option Value
 base:Heap
 A:Around
 N:List Str
 s₀:Shared
 H₀:Hp
 env:Env
 outer:List Env
 stack:List Env
 ex:List Addr
 fn:Str->Bool
 calm:Bool
 pn:List (Addr×Obj)
 xe:Value->Shared->Prop
def frs (l:List Env):List Addr:=l.filterMap (·.frame)
abbrev Cx.fs (X:Cx):List Addr:=frs X.outer
def Vis (sc:Scope)(x:Str):Prop:=sc.names.lookup x=some .local∨sc.names.lookup x=some .cell∨sc.names.lookup x=some .free
def Loc (sc:Scope)(x:Str):Prop:=sc.names.lookup x=some .local∨sc.names.lookup x=some .cell
def aAJ (env:Env)(h:Heap)(m:Str->Option Value)(x:Str)(u:Value):Prop :=
 (env.kindOf x=some .local∧m x=some u)∨((env.kindOf x=some .cell∨env.kindOf x=some .free)∧∃ c,env.cells.lookup x=some c∧h.IsCell c (some u))
structure Cx.Ok (X:Cx):Prop where
 mod:Mod X.K X.mg X.base
 kind:X.env.scope.kind = .function
 glob:X.env.globals=mainGlobals
 blt:X.env.builtins=builtinsNs
 above:X.s₀.heap.objs.size<=X.env.locals
 inj:∀ x y c,X.env.cells.lookup x=some c->X.env.cells.lookup y=some c->x=y
 has:∀ x,(X.env.kindOf x=some .cell∨X.env.kindOf x=some .free)->∃ c,X.env.cells.lookup x=some c
 cab:∀ x c,X.fn x=true->X.env.cells.lookup x=some c->X.s₀.heap.objs.size<=c
 hd:X.calm=true->X.A.handled=none
 frames:X.A.frames=some X.stack
 stk:X.stack=X.outer∨(X.stack=X.env::X.outer∧X.env.frame=some X.env.locals)
 exf:∀ b∈X.ex,b≠X.env.locals∧∀ x c,X.env.cells.lookup x=some c->c≠b
 bs:∀ b o,X.base.get? b=some o->X.s₀.heap.get? b=some o∧X.H₀ b=none
 bsz:X.base.objs.size<=X.s₀.heap.objs.size
 noex:∀ b o,X.base.get? b=some o->b∉X.ex
 exfs:∀ b∈X.ex,b∉X.fs
 funs:X.s₀.heap.FunFrames X.base X.outer
 frf:∀ b∈X.fs,X.H₀ b=none
structure Inv (X:Cx)(pins:List (Addr×Obj))(σ:List (Option V))(H:Hp)(s:Shared):Prop where
 ok:X.Ok
 os:s.os=X.s₀.os
 bare:AllBare s.gens
 base:Un X.fs X.ex X.H₀ H X.s₀.heap s.heap
 loc:∃ m,s.heap.Ns X.env.locals m∧∀ (i:Nat) (x:Str) (v:V),X.N[i]?=some x->σ[i]?=some (some v)->Vis X.env.scope x->∃ u,bG v u∧aAJ X.env s.heap m x u
 cell:∀ x c,X.env.cells.lookup x=some c->∃ v,s.heap.IsCell c v
 free:H X.env.locals=none
 freeC:∀ x c,X.env.cells.lookup x=some c->H c=none
 pin:∀ p∈X.pn++pins,s.heap.get? p.1=some p.2∧H p.1=none∧p.1≠X.env.locals∧p.1∉X.fs∧∀ v,p.2.data≠.cell v
 hok:HOk X.prog X.w H s.heap
 len:σ.length=X.N.length
section
variable {X:Cx}{pins:List (Addr×Obj)}{σ:List (Option V)}{H H':Hp}{s:Shared}{h':Heap}
theorem Cx.Ok.nofr (ok:X.Ok){b:Addr}{o:Obj}(e:X.base.get? b=some o):b∉X.fs:=fun hb=>by
 have:=(ok.funs.mem hb).1
 rw[e] at this;cases this
theorem Inv.bs (I:Inv X pins σ H s):∀ b o,X.base.get? b=some o->s.heap.get? b=some o∧H b=none:=fun b o e =>
 ⟨I.base.keep b o (I.ok.bs b o e).1 (I.ok.bs b o e).2 (I.ok.nofr e) (I.ok.noex b o e),I.base.free b o (I.ok.bs b o e).1 (I.ok.bs b o e).2 (I.ok.noex b o e)⟩
theorem Inv.bk (I:Inv X pins σ H s):∀ b o,X.base.get? b=some o->s.heap.get? b=some o:=fun b o e=>(I.bs b o e).1
theorem Inv.mod (I:Inv X pins σ H s):Mod X.K X.mg X.base:=I.ok.mod
theorem Inv.kIn (I:Inv X pins σ H s):X.K.In s.heap:=I.ok.mod.kin.keeps I.bk
theorem Inv.lt (I:Inv X pins σ H s):X.env.locals<s.heap.objs.size:=let ⟨_,hn,_⟩:=I.loc;hn.lt
theorem Inv.sz (I:Inv X pins σ H s):X.s₀.heap.objs.size<=s.heap.objs.size:=az I.ok.above (i6 I.lt)
theorem Inv.nofs (I:Inv X pins σ H s){a:Addr}(h:s.heap.objs.size<=a):a∉X.fs:=fun hb=>by
 obtain⟨_,o,ho,_⟩:=I.ok.funs.mem hb;exact absurd (b7 (Heap.lt_size ho) (az I.sz h)) (e9 _)
theorem Inv.cne (I:Inv X pins σ H s):∀ x c,X.env.cells.lookup x=some c->c≠X.env.locals:=fun x c e z=>by
 obtain⟨v,o,ho,hd⟩:=I.cell x c e;obtain⟨m,⟨o',es,ep,ho',hd',_⟩,_⟩:=I.loc;rw[z,ho'] at ho;cases ho;rw[hd'] at hd;cases hd
theorem Inv.funs (I:Inv X pins σ H s):s.heap.FunFrames X.base X.outer:=by
 have all:∀ (l:List Env),(∀ b∈frs l,b∈X.fs)->X.s₀.heap.FunFrames X.base l->s.heap.FunFrames X.base l:=by
  intro l
  induction l with
  | nil=>intro _ _;trivial
  | cons env r ih =>
   intro hs hl;obtain⟨hk,⟨L,o,hf,hn,ho,hd⟩,hr⟩:=hl;have hL:L∈X.fs:=hs L (by unfold frs;rw[im,hf];exact ar);obtain⟨sl,e⟩:=I.base.slot L o ho (I.ok.frf L hL) hL fun z=>I.ok.exfs L z hL
   exact⟨hk,⟨L,_,hf,hn,e,hd⟩,ih (fun b hb=>hs b (by unfold frs;rw[im,hf];exact am _ hb)) hr⟩
 exact all X.outer (fun _ hb=>hb) I.ok.funs
theorem Inv.stack (I:Inv X pins σ H s):s.heap.FunFrames X.base X.stack:=by
 rcases I.ok.stk with e | ⟨e,hf⟩
 ·rw[e];exact I.funs
 ·rw[e]
  obtain⟨m,hn,_⟩:=I.loc;refine .cons (by rw[I.ok.kind];decide) hf hn ?_ I.funs;exact Heap.get?_none_of_le (az I.ok.bsz I.ok.above)
theorem Inv.stkSub (I:Inv X pins σ H s):∀ b∈frs X.stack,b∈X.env.locals::X.fs:=fun b hb=>by
 rcases I.ok.stk with e | ⟨e,hf⟩
 ·rw[e] at hb;exact am _ hb
 ·rw[e] at hb
  unfold frs at hb;rw[im,hf] at hb;exact hb
theorem Inv.stkFree (I:Inv X pins σ H s):∀ b∈frs X.stack,H b=none:=fun b hb=>by
 rcases aw.mp (I.stkSub b hb) with e | hb
 ·rw[e];exact I.free
 ·obtain⟨_,o,ho,_⟩:=I.ok.funs.mem hb
  exact I.base.free b o ho (I.ok.frf b hb) fun z=>I.ok.exfs b z hb
theorem Inv.step {g':Array GenState}{t':Nat}{d':Drawn}{ch:List Addr}(I:Inv X pins σ H s)
  (hch:∀ b∈ch,(b∈X.ex∨X.s₀.heap.objs.size<=b)∧b≠X.env.locals∧(∀ x c,X.env.cells.lookup x=some c->c≠b)∧∀ p∈X.pn++pins,p.1≠b)
  (keep:∀ b o,b≠X.env.locals->b∉X.fs->b∉ch->s.heap.get? b=some o->H b=none->h'.get? b=some o)
  (slot:∀ b o,b≠X.env.locals->b∈X.fs->b∉ch->s.heap.get? b=some o->H b=none->∃ sl,h'.get? b=some { o with slots:=sl }) (free:∀ b o,b∉ch->s.heap.get? b=some o->H b=none->H' b=none)
  (there:∀ b o,b∉ch->s.heap.get? b=some o->∃ o',h'.get? b=some o')
  (tups:∀ b xs,H b=some (.tup xs)->H' b=some (.tup xs)) (frzs:∀ b o u,H b=some (.frz o u)->H' b=some (.frz o u)) (tbls:∀ b ps,H b=some (.tbl ps)->∃ more,H' b=some (.tbl (ps++more)))
  (ns:∀ m,s.heap.Ns X.env.locals m->h'.Ns X.env.locals m) (hok:HOk X.prog X.w H' h') (hg:AllBare g') :
  Inv X pins σ H' { s with heap:=h',gens:=g',drawn:=d',toks:=t' }:=by
 have neL:∀ b o,X.s₀.heap.get? b=some o->b≠X.env.locals:=fun b o e=>a9 (b7 (Heap.lt_size e) I.ok.above)
 have neC:∀ b o,X.s₀.heap.get? b=some o->b∉X.ex->b∉ch:=fun b o e hx hb=>by
  rcases (hch b hb).1 with z | z
  ·exact hx z
  ·exact absurd (b7 (Heap.lt_size e) z) (e9 _)
 have cellK:∀ x c,X.env.cells.lookup x=some c->∀ v,s.heap.IsCell c v->h'.IsCell c v:=fun x c e v ⟨o,ho,hd⟩=>by
  have nch:c∉ch:=fun z=>(hch c z).2.2.1 x c e rfl
  by_cases hc:c∈X.fs
  ·obtain⟨sl,q⟩:=slot c o (I.cne x c e) hc nch ho (I.freeC x c e)
   exact⟨_,q,hd⟩
  ·exact⟨o,keep c o (I.cne x c e) hc nch ho (I.freeC x c e),hd⟩
 refine⟨I.ok,I.os,hg,⟨fun b o e n hb hx=>?_,fun b o e n hb hx=>?_,fun b o e n hx=>?_,fun b o e hx=>?_,fun b xs e=>tups b xs (I.base.tups b xs e),fun b o xs e=>frzs b o xs (I.base.frzs b o xs e),fun b ps e=>?_⟩,?_,fun x c e=>?_,?_,fun x c e=>?_,fun p hp=>?_,hok,I.len⟩
 ·exact keep b o (neL b o e) hb (neC b o e hx) (I.base.keep b o e n hb hx) (I.base.free b o e n hx)
 ·obtain⟨sl,e1⟩:=I.base.slot b o e n hb hx
  obtain⟨sl',e2⟩:=slot b _ (neL b o e) hb (neC b o e hx) e1 (I.base.free b o e n hx);exact⟨sl',e2⟩
 ·obtain⟨o',e1⟩:=I.base.there b o e hx
  exact free b o' (neC b o e hx) e1 (I.base.free b o e n hx)
 ·obtain⟨o',e1⟩:=I.base.there b o e hx
  exact there b o' (neC b o e hx) e1
 ·obtain⟨m1,e1⟩:=I.base.tbls b ps e
  obtain⟨m2,e2⟩:=tbls b _ e1;exact⟨m1++m2,by rw[e2,mi]⟩
 ·obtain⟨m,hn,hl⟩:=I.loc
  refine⟨m,ns m hn,fun i x v e1 e2 e3=>?_⟩;obtain⟨u,r,l⟩:=hl i x v e1 e2 e3;refine⟨u,r,?_⟩;rcases l with l | ⟨k,c,e,z⟩
  ·exact .inl l
  ·exact .inr ⟨k,c,e,cellK x c e _ z⟩
 ·obtain⟨v,z⟩:=I.cell x c e
  exact⟨v,cellK x c e v z⟩
 ·obtain⟨m,⟨o,_,_,ho,_⟩,_⟩:=I.loc
  exact free _ o (fun z=>(hch _ z).2.1 rfl) ho I.free
 ·obtain⟨v,o,ho,hd⟩:=I.cell x c e
  exact free c o (fun z=>(hch c z).2.2.1 x c e rfl) ho (I.freeC x c e)
 ·obtain⟨e,n,ne,nf,d⟩:=I.pin p hp
  have nch:p.1∉ch:=fun z=>(hch p.1 z).2.2.2 p hp rfl
  exact⟨keep p.1 p.2 ne nf nch e n,free p.1 p.2 nch e n,ne,nf,d⟩
theorem Inv.un {t':Nat}(I:Inv X pins σ H s)(u:Un X.fs [] H H' s.heap h')(hok:HOk X.prog X.w H' h'):Inv X pins σ H' { s with heap:=h',toks:=t' }:=by
 obtain⟨m,⟨o,es,ep,ho,r⟩,_⟩:=id I.loc;obtain⟨sl,hL⟩:=u.any ho I.free (by simp);exact I.step (g':=s.gens) (d':=s.drawn) (ch:=[]) (fun _ z=>nomatch z) (fun b o _ hb _ e n=>u.keep b o e n hb (by simp)) (fun b o _ hb _ e n=>u.slot b o e n hb (by simp)) (fun b o _ e n=>u.free b o e n (by simp)) (fun b o _ e=>u.there b o e (by simp)) u.tups u.frzs u.tbls (fun m' hm=>by
  obtain⟨o',es',ep',ho',r'⟩:=hm;rw[ho] at ho';cases ho';exact⟨_,es',ep',hL,r'⟩) hok I.bare
theorem Inv.call {g':Array GenState}{t':Nat}{d':Drawn}{ch:List Addr}(I:Inv X pins σ H s)(u:Un (frs X.stack) ch H H' s.heap h')(hok:HOk X.prog X.w H' h')(hg:AllBare g')
  (hch:∀ b∈ch,(b∈X.ex∨X.s₀.heap.objs.size<=b)∧b≠X.env.locals∧(∀ x c,X.env.cells.lookup x=some c->c≠b)∧∀ p∈X.pn++pins,p.1≠b) :
  Inv X pins σ H' { s with heap:=h',gens:=g',drawn:=d',toks:=t' }:=by
 obtain⟨m,⟨o,es,ep,ho,r⟩,_⟩:=id I.loc;obtain⟨sl,hL⟩:=u.any ho I.free fun z=>(hch _ z).2.1 rfl
 exact I.step (ch:=ch) hch (fun b o hL hb hc e n=>u.keep b o e n (fun z=>(aw.mp (I.stkSub b z)).elim hL hb) hc) (fun b o _ _ hc e n=>u.any e n hc) (fun b o hc e n=>u.free b o e n hc) (fun b o hc e=>u.there b o e hc) u.tups u.frzs u.tbls (fun m' hm=>by
  obtain⟨o',es',ep',ho',r'⟩:=hm;rw[ho] at ho';cases ho';exact⟨_,es',ep',hL,r'⟩) hok hg
theorem Inv.turned {t':Nat}{it:Addr}(I:Inv X pins σ H s)(k:∀ b o,b≠it->s.heap.get? b=some o->h'.get? b=some o)(hn:H it=none)(hL:it≠X.env.locals)
  (h1:it∈X.ex∨X.s₀.heap.objs.size<=it) (h2:∀ x c,X.env.cells.lookup x=some c->c≠it) (h3:∀ p∈X.pn++pins,p.1≠it):Inv X pins σ H { s with heap:=h',toks:=t' }:=by
 have nit:∀ b u,H b=some u->b≠it:=fun b u e z=>by rw[z,hn] at e;cases e
 refine I.step (g':=s.gens) (d':=s.drawn) (ch:=[it]) (fun b hb=>?_) (fun b o _ _ hc e _=>k b o (fun z=>hc (by simp[z])) e) (fun b o _ _ hc e _=>⟨o.slots,k b o (fun z=>hc (by simp[z])) e⟩) (fun _ _ _ _ n=>n)
  (fun b o hc e=>⟨o,k b o (fun z=>hc (by simp[z])) e⟩) (fun _ _ e=>e) (fun _ _ _ e=>e) (fun b ps e=>⟨#[],by rw[e];simp⟩) (fun m hm=>?_) (fun b u e=>?_) I.bare
 ·have e:b=it:=by simpa using hb
  subst e;exact⟨h1,hL,h2,h3⟩
 ·obtain⟨o,es,ep,ho,r⟩:=hm
  exact⟨o,es,ep,k _ o (Ne.symm hL) ho,r⟩
 ·refine (I.hok b u e).stay (fun c v hc q=>k c v ?_ q) (fun _ q=>q) fun _ _ q=>q
  rcases hc with z | z
  ·rw[z];exact nit b u e
  ·exact nit c _ z
theorem Inv.tok (I:Inv X pins σ H s)(t:Nat):Inv X pins σ H { s with toks:=t }:=I.un (h':=s.heap) (t':=t) Un.refl I.hok
theorem Inv.kept {t':Nat}(I:Inv X pins σ H s)(k:∀ b u,s.heap.get? b=some u->h'.get? b=some u):Inv X pins σ H { s with heap:=h',toks:=t' }:=I.un (Un.kept k) (I.hok.kept k)
theorem Inv.laid {a:Addr}{o:HO}{t':Nat}(I:Inv X pins σ H s)(k:∀ b u,s.heap.get? b=some u->h'.get? b=some u)(hp:s.heap.objs.size<=a)(new:dB X.prog X.w (upd H a o) h' a o) :
 Inv X pins σ (upd H a o) { s with heap:=h',toks:=t' }:=I.un (Un.laid k hp (I.hok.fresh hp)) (I.hok.laid k hp new)
theorem Inv.write {x e:Addr}{o:HO}{t':Nat}(I:Inv X pins σ H s)(mu:Mut (H x))(he:e=x∨H e=some (.own x))(k:∀ b u,b≠e->s.heap.get? b=some u->h'.get? b=some u)(heo:∃ u,h'.get? e=some u)
 (new:dB X.prog X.w (upd H x o) h' x o):Inv X pins σ (upd H x o) { s with heap:=h',toks:=t' }:=I.un (Un.write mu he k heo) (I.hok.write mu he k heo new)
theorem Inv.pins_of {pins':List (Addr×Obj)}(I:Inv X pins σ H s)(h:∀ p∈pins',s.heap.get? p.1=some p.2∧H p.1=none∧p.1≠X.env.locals∧p.1∉X.fs∧∀ v,p.2.data≠.cell v):Inv X pins' σ H s :=
 ⟨I.ok,I.os,I.bare,I.base,I.loc,I.cell,I.free,I.freeC,fun p hp=>(bt.mp hp).elim (fun z=>I.pin p (fi _ z)) (h p),I.hok,I.len⟩
theorem Bx {N:List Str}(hN:N.Nodup){i j:Nat}{x:Str}(a:N[i]?=some x)(b:N[j]?=some x):i=j:=by
 obtain⟨h1,e1⟩:=al.mp a;obtain⟨h2,e2⟩:=al.mp b;exact (List.getElem_inj hN).mp (e1.trans e2.symm)
theorem yF {M:Model}{A:Around}{E:Value->Shared->Prop}{i:Nat}{x:Str}{v:V}{u:Value}{Q:Unit->Shared->Prop}(I:Inv X pins σ H s)(hN:X.N.Nodup)(hi:X.N[i]?=some x)(hx:Loc X.env.scope x)(r:bG v u)
  (h:∀ s',Inv X pins (σ.set i (some v)) H s'->(∃ a,Heap.SameBut a s.heap s'.heap∧(a=X.env.locals∨X.env.cells.lookup x=some a))->Q () s') (hf:X.fn x=true∨X.env.scope.names.lookup x=some .local:=by first | exact .inl rfl | exact .inr rfl | assumption):wpAny M A (storeName X.env x u) Q E s:=by
 obtain⟨m,hn,hl⟩:=id I.loc;have hcls:(X.env.scope.kind == .class||(X.env.scope.kind == .module&&X.env.locals != X.env.globals))=false:=by rw[I.ok.kind];rfl
 have hiσ:i<σ.length:=by rw[I.len];exact (al.mp hi).1
 have cne:=I.cne;have tracked:∀ {a:Addr} {h':Heap},(∃ o,s.heap.get? a=some o∧H a=none)->Heap.SameBut a s.heap h'->HOk X.prog X.w H h':=fun {a h'} ha hs b ob e=>by
  obtain⟨_,_,hfree⟩:=ha;refine (I.hok b ob e).stay (fun c w' hc q=>(hs.2 c ?_).trans q) (fun _ q=>q) fun _ _ q=>q
  rintro rfl;rcases hc with rfl | hc
  ·rw[hfree] at e;cases e
  ·rw[hfree] at hc;cases hc
 rcases hx with hk | hk
 ·refine wpAny_storeName_local hk hn (fun h' hn' hs=>?_) hcls
  obtain⟨oL,_,_,hoL,_⟩:=id hn;refine h _ ⟨I.ok,I.os,I.bare,⟨fun b o e n hb hx=>?_,fun b o e n hb hx=>?_,I.base.free,fun b o e hx=>?_,I.base.tups,I.base.frzs,I.base.tbls⟩,⟨_,hn',fun j y v' e1 e2 e3=>?_⟩,fun y c e=>?_,I.free,I.freeC,fun p hp=>?_,tracked ⟨oL,hoL,I.free⟩ hs,by simpa using I.len⟩ ⟨_,hs,.inl rfl⟩
  ·exact (hs.2 b (a9 (b7 (Heap.lt_size e) I.ok.above))).trans (I.base.keep b o e n hb hx)
  ·obtain⟨sl,e1⟩:=I.base.slot b o e n hb hx
   exact⟨sl,(hs.2 b (a9 (b7 (Heap.lt_size e) I.ok.above))).trans e1⟩
  ·obtain⟨o',e1⟩:=I.base.there b o e hx
   exact⟨o',(hs.2 b (a9 (b7 (Heap.lt_size e) I.ok.above))).trans e1⟩
  ·by_cases hj:j=i
   ·subst hj
    rw[hi] at e1;cases e1;rw[n6 hiσ] at e2;cases e2;exact⟨u,r,.inl ⟨hk,by simp⟩⟩
   ·rw[pf (Ne.symm hj)] at e2
    obtain⟨u',r',q⟩:=hl j y v' e1 e2 e3;refine⟨u',r',?_⟩;rcases q with ⟨k,e⟩ | ⟨k,c,e,z⟩
    ·refine .inl ⟨k,?_⟩
     have:y≠x:=fun e=>hj (Bx hN e1 (e▸hi))
     simp[this,e]
    ·exact .inr ⟨k,c,e,z.sameBut hs (cne y c e)⟩
  ·obtain⟨w',z⟩:=I.cell y c e
   exact⟨w',z.sameBut hs (cne y c e)⟩
  ·obtain⟨e,n,ne,nf,d⟩:=I.pin p hp
   exact⟨(hs.2 p.1 ne).trans e,n,ne,nf,d⟩
 ·have hfn:X.fn x=true:=by
   rcases hf with z | z
   ·exact z
   ·rw[z] at hk;cases hk
  obtain⟨c,hc⟩:=I.ok.has x (.inl hk);obtain⟨w',z⟩:=I.cell x c hc;refine wpAny_storeName_cell I.ok.kind hk hc z (fun h' hc' hs=>?_);obtain⟨oc,hoc,hocd⟩:=id z;refine h { s with heap:=h' } ⟨I.ok,I.os,I.bare,⟨fun b o e n hb hx=>?_,fun b o e n hb hx=>?_,I.base.free,fun b o e hx=>?_,I.base.tups,I.base.frzs,I.base.tbls⟩,⟨m,hn.sameBut hs (Ne.symm (cne x c hc)),fun j y v' e1 e2 e3=>?_⟩,fun y c' e=>?_,I.free,I.freeC,fun p hp=>?_,tracked ⟨oc,hoc,I.freeC x c hc⟩ hs,by simpa using I.len⟩ ⟨c,hs,.inr hc⟩
  ·exact (hs.2 b (a9 (b7 (Heap.lt_size e) (I.ok.cab x c hfn hc)))).trans (I.base.keep b o e n hb hx)
  ·obtain⟨sl,e1⟩:=I.base.slot b o e n hb hx
   exact⟨sl,(hs.2 b (a9 (b7 (Heap.lt_size e) (I.ok.cab x c hfn hc)))).trans e1⟩
  ·obtain⟨o',e1⟩:=I.base.there b o e hx
   exact⟨o',(hs.2 b (a9 (b7 (Heap.lt_size e) (I.ok.cab x c hfn hc)))).trans e1⟩
  ·by_cases hj:j=i
   ·subst hj
    rw[hi] at e1;cases e1;rw[n6 hiσ] at e2;cases e2;exact⟨u,r,.inr ⟨.inl hk,c,hc,hc'⟩⟩
   ·rw[pf (Ne.symm hj)] at e2
    obtain⟨u',r',q⟩:=hl j y v' e1 e2 e3;refine⟨u',r',?_⟩;rcases q with q | ⟨k,c',e,z'⟩
    ·exact .inl q
    ·refine .inr ⟨k,c',e,z'.sameBut hs ?_⟩
     rintro rfl;exact hj (Bx hN e1 (I.ok.inj _ _ _ e hc▸hi))
  ·by_cases hcc:c'=c
   ·subst hcc;exact⟨_,hc'⟩
   ·obtain⟨w2,z2⟩:=I.cell y c' e
    exact⟨w2,z2.sameBut hs hcc⟩
  ·obtain⟨e,n,ne,nf,d⟩:=I.pin p hp
   refine⟨(hs.2 p.1 ?_).trans e,n,ne,nf,d⟩;intro q;rw[q,hoc] at e;have q':oc=p.2:=ay e;exact d w' (by rw[<- q'];exact hocd)
theorem tF {M:Model}{A:Around}{E:Value->Shared->Prop}{i:Nat}{x:Str}{v:V}{u:Value}{Q:Unit->Shared->Prop}(I:Inv X pins σ H s)(hN:X.N.Nodup)(hi:X.N[i]?=some x)(hx:Loc X.env.scope x)(r:bG v u)
  (h:∀ s',Inv X pins (σ.set i (some v)) H s'->Q () s') (hf:X.fn x=true∨X.env.scope.names.lookup x=some .local:=by first | exact .inl rfl | exact .inr rfl | assumption):wpAny M A (storeName X.env x u) Q E s :=
 yF I hN hi hx r (fun s' I' _=>h s' I') hf
theorem Inv.call' {s':Shared}{ch:List Addr}(I:Inv X pins σ H s)(ho:s'.os=s.os)(u:Un (frs X.stack) ch H H' s.heap s'.heap)(hok:HOk X.prog X.w H' s'.heap)(hg:AllBare s'.gens)
  (hch:∀ b∈ch,(b∈X.ex∨X.s₀.heap.objs.size<=b)∧b≠X.env.locals∧(∀ x c,X.env.cells.lookup x=some c->c≠b)∧∀ p∈X.pn++pins,p.1≠b):Inv X pins σ H' s':=by
 obtain⟨h',g',d',t',o'⟩:=s';have e:o'=s.os:=ho;subst e;exact I.call (g':=g') (t':=t') (d':=d') u hok hg hch
end
abbrev XK:=Value->Option Addr->Hp->Prop
abbrev St:=List (Option V)
abbrev VK:=V->Hp->Prop
abbrev TE:=St->Hp->VK->Prop
abbrev TT:=St->Hp->(Bool->Hp->Prop)->Prop
abbrev TA:=St->Hp->(List V->Hp->Prop)->Prop
structure lE where
 nx:St->Hp->Prop
 rt:VK
 bk:St->Hp->Prop:=fun _ _=>False
 ct:St->Hp->Prop:=fun _ _=>False
abbrev TS:=lE->St->Hp->Prop
def EP (X:Cx)(pins:List (Addr×Obj))(σ:St)(Q:VK)(u:Value)(s':Shared):Prop:=∃ v H',Inv X pins σ H' s'∧bG v u∧Q v H'
def TP (X:Cx)(pins:List (Addr×Obj))(σ:St)(Q:Bool->Hp->Prop)(b:Bool)(s':Shared):Prop:=∃ H',Inv X pins σ H' s'∧Q b H'
def AP (X:Cx)(pins:List (Addr×Obj))(σ:St)(Q:List V->Hp->Prop)(us:List Value)(s':Shared):Prop:=∃ vs H',Inv X pins σ H' s'∧bK vs us∧Q vs H'
def SP (X:Cx)(pins:List (Addr×Obj))(D:lE)(f:Flow)(s':Shared):Prop :=
 match f with
 | .next=>∃ σ' H',Inv X pins σ' H' s'∧D.nx σ' H'
 | .brk=>∃ σ' H',Inv X pins σ' H' s'∧D.bk σ' H'
 | .cont=>∃ σ' H',Inv X pins σ' H' s'∧D.ct σ' H'
 | .ret u=>∃ v σ' H',Inv X pins σ' H' s'∧bG v u∧D.rt v H'
def PE (X:Cx)(e:Expr)(t:TE):Prop :=
 ∀ (pins:List (Addr×Obj)) (s:Shared) (σ:St) (H:Hp) (Q:VK),Inv X pins σ H s->t σ H Q->wpAny (model X.prog X.w) X.A (eval e X.env) (EP X pins σ Q) X.xe s
def PT (X:Cx)(e:Expr)(t:TT):Prop :=
 ∀ (pins:List (Addr×Obj)) (s:Shared) (σ:St) (H:Hp) (Q:Bool->Hp->Prop),Inv X pins σ H s->t σ H Q->wpAny (model X.prog X.w) X.A (isTrue e X.env (eval e X.env)) (TP X pins σ Q) X.xe s
def PW (X:Cx)(e:Expr)(t:TT):Prop :=
 ∀ (whole:Sem Value) (pins:List (Addr×Obj)) (s:Shared) (σ:St) (H:Hp) (Q:Bool->Hp->Prop),Inv X pins σ H s->t σ H Q->wpAny (model X.prog X.w) X.A (isTrue e X.env whole) (TP X pins σ Q) X.xe s
theorem PW.pt {X:Cx}{e:Expr}{t:TT}(h:PW X e t):PT X e t:=h _
def PA (X:Cx)(es:List Expr)(t:TA):Prop :=
 ∀ (pos:Pos) (pins:List (Addr×Obj)) (s:Shared) (σ:St) (H:Hp) (Q:List V->Hp->Prop),Inv X pins σ H s->t σ H Q->wpAny (model X.prog X.w) X.A (spliced (backTo pos (starEach es X.env))) (AP X pins σ Q) X.xe s
def PS (X:Cx)(st:Stmt)(t:TS):Prop :=
 ∀ (pins:List (Addr×Obj)) (s:Shared) (σ:St) (H:Hp) (D:lE),Inv X pins σ H s->t D σ H->wpAny (model X.prog X.w) X.A (exec st X.env) (SP X pins D) X.xe s
def PSs (X:Cx)(st:List Stmt)(t:TS):Prop :=
 ∀ (pins:List (Addr×Obj)) (s:Shared) (σ:St) (H:Hp) (D:lE),Inv X pins σ H s->t D σ H->wpAny (model X.prog X.w) X.A (execs st X.env) (SP X pins D) X.xe s
theorem thn {α:Type}{t:Sem α}{Q Q':α->Shared->Prop}{M:Model}{A:Around}{E:Value->Shared->Prop}{s:Shared}(h:wpAny M A t Q E s)(hQ:∀ a s,Q a s->Q' a s):wpAny M A t Q' E s:=wpAny_mono h hQ fun _ _ x=>x
section
variable {X:Cx}
def Yg (i:Nat):TE:=fun σ H Q=>∃ v,σ[i]?=some (some v)∧Q v H
def tC (v:V):TE:=fun _ H Q=>Q v H
theorem Wi {i:Nat}{x:Str}{pos:Pos}(hN:X.N[i]?=some x)(hv:Vis X.env.scope x)(hd:(x==("__debug__" : Str))=false:=by decide)(hcd:(x==("__classdict__" : Str))=false:=by decide):PE X (.Name x pos) (Yg i):=by
 intro pins s σ H Q I h;obtain⟨v,e,h⟩:=h;obtain⟨m,hn,hl⟩:=I.loc;obtain⟨u,r,l⟩:=hl i x v hN e hv;have fin:EP X pins σ Q u s:=⟨v,H,I,r,h⟩;rcases l with ⟨hk,hm⟩ | ⟨hk,c,hc,hcell⟩
 ·exact wpAny_Name (wpAny_loadName_local I.ok.kind hk hn hm fin) hd
 ·rcases hk with hk | hk
  ·exact wpAny_Name (wpAny_loadName_cell I.ok.kind hk hc hcell fin) hd
  ·exact wpAny_Name (wpAny_loadName_free I.ok.kind hk hc hcell fin hcd) hd
theorem aH {i j pos}:PE X (.Constant (.int i) j pos) (tC (.int i)):=fun _ _ _ H _ I h=>wpAny_Constant_int ⟨.int i,H,I.tok _,⟨_,rfl⟩,h⟩
theorem gZ {b j pos}:PE X (.Constant (.bool b) j pos) (tC (.bl b)):=fun _ _ _ H _ I h=>Constant_bool ⟨.bl b,H,I,rfl,h⟩
theorem Ec {j pos}:PE X (.Constant .none j pos) (tC .non):=fun _ _ _ H _ I h=>Constant_none ⟨.non,H,I,rfl,h⟩
theorem Wa {x j pos}:PE X (.Constant (.str x) j pos) (tC (.str x)):=fun _ _ _ H _ I h=>Calls.Constant_str ⟨.str x,H,I.tok _,⟨_,rfl⟩,h⟩
def Gl (X:Cx)(x:Str):Prop:=X.env.kindOf x=some .globalImplicit
theorem sS {E:Value->Shared->Prop}{pins:List (Addr×Obj)}{s:Shared}{σ:St}{H:Hp}{x:Str}{u:Value}{pos:Pos}{Q:Value->Shared->Prop}(I:Inv X pins σ H s)(hg:Gl X x)(hm:X.mg x=some u)(h:Q u s)
  (hd:(x==("__debug__" : Str))=false:=by decide):wpAny (model X.prog X.w) X.A (eval (.Name x pos) X.env) Q E s :=
 Calls.Name_function_global I.ok.kind hg (Calls.loadGlobal_global (by rw[I.ok.glob];exact I.mod.glob.keeps I.bk) hm h) hd
theorem pM {E:Value->Shared->Prop}{pins:List (Addr×Obj)}{s:Shared}{σ:St}{H:Hp}{x:Str}{u:Value}{pos:Pos}{Q:Value->Shared->Prop}(I:Inv X pins σ H s)(hg:Gl X x)(hm:X.mg x=none)(hv:bootBuiltins x=some u)(h:Q u s)
  (hn:x ≠ "__name__" := by decide) (hd:(x==("__debug__" : Str))=false:=by decide):wpAny (model X.prog X.w) X.A (eval (.Name x pos) X.env) Q E s:=by
 obtain⟨mb,h1,h2⟩:=I.mod.blt;exact Calls.Name_function_global I.ok.kind hg (Calls.loadGlobal_builtin (by rw[I.ok.glob];exact I.mod.glob.keeps I.bk) hm (by rw[I.ok.blt];exact h1.keeps I.bk) ((h2 x hn).trans hv) h) hd
theorem eK {x:Str}{v:V}{u:Value}{pos:Pos}(hg:Gl X x)(hm:X.mg x=some u)(r:bG v u)(hd:(x==("__debug__" : Str))=false:=by decide):PE X (.Name x pos) (tC v) :=
 fun _ _ _ H _ I h=>sS I hg hm ⟨v,H,I,r,h⟩ hd
variable {a b:Expr}{ta tb:TE}{pos:Pos}
def PC (X:Cx)(op:CmpOp)(a b:Expr)(t:TE):Prop :=
 ∀ (pins:List (Addr×Obj)) (s:Shared) (σ:St) (H:Hp) (Q:VK),Inv X pins σ H s->t σ H Q ->
  wpAny (model X.prog X.w) X.A (eval a X.env) (fun v s₁=>wpAny (model X.prog X.w) X.A (eval b X.env) (fun u s₂=>wpAny (model X.prog X.w) X.A (compareOp op v u) (EP X pins σ Q) X.xe s₂) X.xe s₁) X.xe s
theorem Df (b:Expr){op:CmpOp}(h:op≠.In)(h2:op≠.NotIn):behindInMarks op b=false:=by
 have e1:(op==CmpOp.In)=false:=by cases op <;> first | rfl | exact absurd rfl h
 have e2:(op==CmpOp.NotIn)=false:=by cases op <;> first | rfl | exact absurd rfl h2
 cases b <;> simp[behindInMarks,e1,e2]
def aAG (ta:TE):TE:=fun σ H Q=>ta σ H fun x H1=>Q (.bl (decide (x = .non))) H1
def Ya (ta:TE):TE:=fun σ H Q=>ta σ H fun x H1=>Q (.bl (!decide (x = .non))) H1
theorem bG.none_iff {x:V}{v:Value}(r:bG x v):(v==Value.none)=decide (x = .non):=by
 cases x with
 | non=>cases r;rfl
 | bl _=>cases r;rfl
 | int _=>obtain⟨t,rfl⟩:=r;rfl
 | str _=>obtain⟨t,rfl⟩:=r;rfl
 | byt _=>obtain⟨t,rfl⟩:=r;rfl
 | flt _=>obtain⟨t,rfl⟩:=r;rfl
 | ref _=>cases r;rfl
 | ty _=>cases r;rfl
theorem No {j pos'}(ha:PE X a ta):PC X .Is a (.Constant .none j pos') (aAG ta):=by
 intro pins s σ H Q I h;refine thn (ha pins s σ H _ I h) fun v s1 ⟨x,H1,I1,r1,q1⟩=>?_
 exact Constant_none (is_none_gen ⟨.bl _,H1,I1,by rw[r1.none_iff];rfl,q1⟩)
theorem Hm {j pos'}(ha:PE X a ta):PC X .IsNot a (.Constant .none j pos') (Ya ta):=by
 intro pins s σ H Q I h;refine thn (ha pins s σ H _ I h) fun v s1 ⟨x,H1,I1,r1,q1⟩=>?_
 exact Constant_none (isnot_none_gen ⟨.bl _,H1,I1,by rw[r1.none_iff];rfl,q1⟩)
def tB (t:TE):TT:=fun σ H Q=>t σ H fun x H1=>∃ c,x = .bl c∧Q c H1
theorem Ug {op:CmpOp}{t:TE}(h:PC X op a b t)(h1:behindInMarks op b=false:=by first | exact Df _ (by decide) (by decide) | rfl):PE X (.Compare a [op] [b] pos) t:=fun pins s σ H Q I hw=>wpAny_Compare1 (h pins s σ H Q I hw) h1
theorem jF {op:CmpOp}{t:TE}(h:PC X op a b t)(h1:behindInMarks op b=false:=by first | exact Df _ (by decide) (by decide) | rfl):PT X (.Compare a [op] [b] pos) (tB t):=by
 intro pins s σ H Q I hw;refine wpAny_isTrue_Compare1 (thn (h pins s σ H _ I hw) fun v s1 h1=>thn h1 fun u s2 h2=>thn h2 fun c s3 ⟨x,H1,I1,r1,q1⟩=>?_) h1;obtain⟨d,rfl,q⟩:=q1;cases r1;exact wpAny_truthy_bool ⟨H1,I1,q⟩
theorem qH {e:Expr}{t:TE}(h:PE X e t)(he:∀ whole,isTrue e X.env whole=(do let v <- whole;standAt e.pos;holding [v] (truthy v)):=by intro _;rfl):PT X e (tB t):=by
 intro pins s σ H Q I hw;refine isTrue_plain (thn (h pins s σ H _ I hw) fun v s1 ⟨x,H1,I1,r1,q1⟩=>?_) (he _);obtain⟨d,rfl,q⟩:=q1;cases r1;exact wpAny_truthy_bool ⟨H1,I1,q⟩
variable {tA tB':TT}{rest:List Expr}
def Zm (t u:TT):TT:=fun σ H Q=>t σ H fun c H1=>if c=true then u σ H1 Q else Q false H1
def tOr (t u:TT):TT:=fun σ H Q=>t σ H fun c H1=>if c=true then Q true H1 else u σ H1 Q
def Zt (t:TT):TT:=fun σ H Q=>t σ H fun c H1=>Q (!c) H1
theorem Rk (ha:PT X a tA):PW X (.BoolOp .And [a] pos) tA:=by
 intro wh pins s σ H Q I h;refine isTrue_and (thn (ha pins s σ H Q I h) fun c s1 e=>?_)
 cases c with
 | true=>exact isTrue_and_nil e
 | false=>exact e
theorem nA (ha:PT X a tA):PW X (.BoolOp .Or [a] pos) tA:=by
 intro wh pins s σ H Q I h;refine isTrue_or (thn (ha pins s σ H Q I h) fun c s1 e=>?_)
 cases c with
 | false=>exact isTrue_or_nil e
 | true=>exact e
theorem Vl (ha:PT X a tA)(hb:PW X (.BoolOp .And (b::rest) pos) tB'):PW X (.BoolOp .And (a::b::rest) pos) (Zm tA tB'):=by
 intro wh pins s σ H Q I h;refine isTrue_and (thn (ha pins s σ H _ I h) fun c s1 ⟨H1,I1,q1⟩=>?_)
 cases c with
 | true=>exact hb wh pins s1 σ H1 Q I1 q1
 | false=>exact⟨H1,I1,q1⟩
theorem qX (ha:PT X a tA)(hb:PW X (.BoolOp .Or (b::rest) pos) tB'):PW X (.BoolOp .Or (a::b::rest) pos) (tOr tA tB'):=by
 intro wh pins s σ H Q I h;refine isTrue_or (thn (ha pins s σ H _ I h) fun c s1 ⟨H1,I1,q1⟩=>?_)
 cases c with
 | true=>exact⟨H1,I1,q1⟩
 | false=>exact hb wh pins s1 σ H1 Q I1 q1
theorem zL (ha:PT X a tA):PT X (.UnaryOp .Not a pos) (Zt tA):=by
 intro pins s σ H Q I h;exact isTrue_not (ha pins s σ H (fun c H1=>Q (!c) H1) I h)
def Xm (ta tb:TE):TE:=fun σ H Q=>ta σ H fun x H1=>∃ c,x = .bl c∧if c=true then tb σ H1 Q else Q (.bl false) H1
theorem Vw {op}{t:TE}(h:PE X a t):PE X (.BoolOp op [a] pos) t:=fun pins s σ H Q I hw=>BoolOp_one (h pins s σ H Q I hw)
theorem Wh (ha:PE X a ta)(hb:PE X (.BoolOp .And (b::rest) pos) tb):PE X (.BoolOp .And (a::b::rest) pos) (Xm ta tb):=by
 intro pins s σ H Q I h;refine BoolOp_and (thn (ha pins s σ H _ I h) fun v s1 ⟨x,H1,I1,r1,q1⟩=>?_);obtain⟨c,rfl,q1⟩:=q1;cases r1;refine wpAny_truthy_bool ?_
 cases c with
 | true=>exact hb pins s1 σ H1 Q I1 q1
 | false=>exact⟨.bl false,H1,I1,rfl,q1⟩
def tIf (t:TT)(ta tb:TE):TE:=fun σ H Q=>t σ H fun c H1=>if c=true then ta σ H1 Q else tb σ H1 Q
theorem Ny {c:Expr}(hc:PT X c tA)(ha:PE X a ta)(hb:PE X b tb):PE X (.IfExp c a b pos) (tIf tA ta tb):=by
 intro pins s σ H Q I h;refine wpAny_IfExp (thn (hc pins s σ H _ I h) fun d s1 ⟨H1,I1,q1⟩=>?_)
 cases d with
 | true=>exact ha pins s1 σ H1 Q I1 q1
 | false=>exact hb pins s1 σ H1 Q I1 q1
end
def SqL (K:af)(H:Hp)(a:Addr)(xs:List V):Prop :=
 Rd H a (.lst xs) ∨
  ∃ (o:Obj) (its:Array Value) (n:Nat),K.lookup a=some o∧o.cls = .type "list" ∧ o.dict=none∧o.data = .seq its n∧its.size<=sizeLine∧bK xs its.toList
def SqT (K:af)(H:Hp)(a:Addr)(xs:List V):Prop :=
 Rd H a (.tup xs) ∨
  ∃ (o:Obj) (its:Array Value) (n:Nat),K.lookup a=some o∧o.cls = .type "tuple" ∧ o.data = .seq its n∧its.size<=sizeLine∧bK xs its.toList
def aAE:Value->Option V
 | .none=>some .non
 | .bool b=>some (.bl b)
 | .int i _=>some (.int i)
 | .str x _=>some (.str x)
 | .bytes b _=>some (.byt b)
 | .float b _=>some (.flt b)
 | .ref a=>some (.ref a)
 | .type n=>some (.ty n)
 | _=>none
theorem bG.abs {x:V}{u:Value}(r:bG x u):aAE u=some x:=by
 cases x with
 | non=>cases r;rfl
 | bl _=>cases r;rfl
 | int _=>obtain⟨t,rfl⟩:=r;rfl
 | str _=>obtain⟨t,rfl⟩:=r;rfl
 | byt _=>obtain⟨t,rfl⟩:=r;rfl
 | flt _=>obtain⟨t,rfl⟩:=r;rfl
 | ref _=>cases r;rfl
 | ty _=>cases r;rfl
theorem bG.inj {x y:V}{u:Value}(r:bG x u)(q:bG y u):x=y:=ay (r.abs.symm.trans q.abs)
theorem bK.inj:∀ {xs ys:List V} {us:List Value},bK xs us->bK ys us->xs=ys
 | _,_,_,.nil,.nil=>rfl
 | _,_,_,.cons r t,.cons r' t'=>by rw[r.inj r',bK.inj t t']
section
variable {X:Cx}{pins:List (Addr×Obj)}{σ:St}{H:Hp}{s:Shared}{a:Addr}{xs ys:List V}
theorem SqL.of {K:af}(h:H a=some (.lst xs)):SqL K H a xs:=.inl (.inl h)
theorem SqT.of {K:af}(h:H a=some (.tup xs)):SqT K H a xs:=.inl (.inl h)
theorem Inv.list (I:Inv X pins σ H s)(h:SqL X.K H a xs):∃ its:List Value,bK xs its∧PlainL s.heap a its.toArray∧xs.length<=sizeLine:=by
 rcases h with h | ⟨o,its,n,hk,hc,hd,hs,hz,r⟩
 ·obtain⟨z,its,n,r,e⟩:=h.ok I.hok
  exact⟨its,r,⟨_,n,e,rfl,rfl,rfl⟩,z⟩
 ·refine⟨its.toList,r,⟨o,n,I.kIn a o hk,hc,hd,by simpa using hs⟩,?_⟩
  have e:=r.length;simp only [bo] at e;omega
theorem Inv.tuple (I:Inv X pins σ H s)(h:SqT X.K H a xs):∃ its:List Value,bK xs its∧IsTup s.heap a its.toArray∧xs.length<=sizeLine:=by
 rcases h with h | ⟨o,its,n,hk,hc,hs,hz,r⟩
 ·obtain⟨z,its,r,p⟩:=h.ok I.hok
  exact⟨its,r,p,z⟩
 ·refine⟨its.toList,r,⟨o,I.kIn a o hk,hc,n,by simpa using hs⟩,?_⟩
  have e:=r.length;simp only [bo] at e;omega
theorem Inv.list_inj (I:Inv X pins σ H s)(h:SqL X.K H a xs)(h':SqL X.K H a ys):xs=ys:=by
 obtain⟨its,r,⟨o,n,e,_,_,d⟩,_⟩:=I.list h;obtain⟨its',r',⟨o',n',e',_,_,d'⟩,_⟩:=I.list h';rw[e] at e';cases e';rw[d] at d'
 injection d' with d1 _
 have:its=its':=by simpa using congrArg ut d1
 subst this;exact r.inj r'
theorem Inv.tuple_inj (I:Inv X pins σ H s)(h:SqT X.K H a xs)(h':SqT X.K H a ys):xs=ys:=by
 obtain⟨its,r,⟨o,e,_,n,d⟩,_⟩:=I.tuple h;obtain⟨its',r',⟨o',e',_,n',d'⟩,_⟩:=I.tuple h';rw[e] at e';cases e';rw[d] at d'
 injection d' with d1 _
 have:its=its':=by simpa using congrArg ut d1
 subst this;exact r.inj r'
end
abbrev Cx.wish (X:Cx)(E:Value->Shared->Prop):Cx:={ X with xe:=E }
abbrev Cx.nox (X:Cx):Cx:=X.wish fun _ _=>False
theorem Cx.Ok.wish {X:Cx}(ok:X.Ok)(E:Value->Shared->Prop):(X.wish E).Ok :=
 ⟨ok.mod,ok.kind,ok.glob,ok.blt,ok.above,ok.inj,ok.has,ok.cab,ok.hd,ok.frames,ok.stk,ok.exf,ok.bs,ok.bsz,ok.noex,ok.exfs,ok.funs,ok.frf⟩
theorem Cx.Ok.unwish {X:Cx}{E:Value->Shared->Prop}(ok:(X.wish E).Ok):X.Ok :=
 ⟨ok.mod,ok.kind,ok.glob,ok.blt,ok.above,ok.inj,ok.has,ok.cab,ok.hd,ok.frames,ok.stk,ok.exf,ok.bs,ok.bsz,ok.noex,ok.exfs,ok.funs,ok.frf⟩
section
variable {X:Cx}{pins:List (Addr×Obj)}{σ:St}{H:Hp}{s:Shared}{E:Value->Shared->Prop}
theorem Inv.wish (I:Inv X pins σ H s)(E:Value->Shared->Prop):Inv (X.wish E) pins σ H s:=⟨I.ok.wish E,I.os,I.bare,I.base,I.loc,I.cell,I.free,I.freeC,I.pin,I.hok,I.len⟩
theorem Inv.unwish (I:Inv (X.wish E) pins σ H s):Inv X pins σ H s:=⟨I.ok.unwish,I.os,I.bare,I.base,I.loc,I.cell,I.free,I.freeC,I.pin,I.hok,I.len⟩
theorem SP.unwish {D:lE}{f:Flow}{s':Shared}(h:SP (X.wish E) pins D f s'):SP X pins D f s':=by
 cases f with
 | next=>obtain⟨σ',H',I,q⟩:=h;exact⟨σ',H',I.unwish,q⟩
 | brk=>obtain⟨σ',H',I,q⟩:=h;exact⟨σ',H',I.unwish,q⟩
 | cont=>obtain⟨σ',H',I,q⟩:=h;exact⟨σ',H',I.unwish,q⟩
 | ret u=>obtain⟨v,σ',H',I,r,q⟩:=h;exact⟨v,σ',H',I.unwish,r,q⟩
theorem PSs.nox {st:List Stmt}{t:TS}(h:PSs X.nox st t):PSs X st t:=fun pins s σ H D I hw =>
 wpAny_mono (h pins s σ H D (I.wish _) hw) (fun _ _ q=>q.unwish) fun _ _ z=>False.elim z
end
section
variable {X:Cx}{st:Stmt}{rest:List Stmt}{t u:TS}{e:Expr}{te:TE}{pos:Pos}
def Zh:TS:=fun D σ H=>D.nx σ H
def aAP (t u:TS):TS:=fun D σ H=>t { D with nx:=u D } σ H
theorem aW:PSs X [] Zh:=fun _ _ σ H _ I h=>wpAny_execs_nil ⟨σ,H,I,h⟩
theorem aB (h1:PS X st t)(h2:PSs X rest u):PSs X (st::rest) (aAP t u):=by
 intro pins s σ H D I h;refine wpAny_execs_cons (thn (h1 pins s σ H { D with nx:=u D } I h) fun f s1 q=>?_)
 cases f with
 | next =>
  obtain⟨σ',H',I',q⟩:=q;exact h2 pins s1 σ' H' D I' q
 | ret v=>exact q
 | brk=>exact q
 | cont=>exact q
theorem aE (h1:PS X st t):PSs X [st] t:=by
 intro pins s σ H D I h;refine wpAny_execs_cons (thn (h1 pins s σ H D I h) fun f s1 q=>?_)
 cases f with
 | next=>exact wpAny_execs_nil q
 | ret v=>exact q
 | brk=>exact q
 | cont=>exact q
def Uk:TS:=fun D σ H=>D.bk σ H
theorem Lu:PS X (.Break pos) Uk:=fun _ _ σ H _ I h=>wpAny_Break ⟨σ,H,I,h⟩
theorem Inv.quiet {pins:List (Addr×Obj)}{σ:St}{H:Hp}{s:Shared}(I:Inv X pins σ H s):interactive X.env=false:=by simp[interactive,I.ok.kind]
def Yt (te:TE):TS:=fun D σ H=>te σ H fun _ H1=>D.nx σ H1
theorem eL (he:PE X e te)(hs:swapsWith e none pos.line X.env=pure false:=by rfl):PS X (.Expr e pos) (Yt te):=by
 intro pins s σ H D I h;exact wpAny_Expr_any (thn (he pins s σ H _ I h) fun v s1 ⟨x,H1,I1,r1,q1⟩=>⟨σ,H1,I1,q1⟩) I.quiet hs
def aAO (te:TE):TS:=fun D σ H=>te σ H D.rt
theorem aS (he:PE X e te):PS X (.Return (some e) pos) (aAO te):=by
 intro pins s σ H D I h;exact wpAny_Return_some (thn (he pins s σ H _ I h) fun v s1 ⟨x,H1,I1,r1,q1⟩=>⟨x,σ,H1,I1,r1,q1⟩)
def aAK (c:TT)(t u:TS):TS:=fun D σ H=>c σ H fun b H1=>if b=true then t D σ H1 else u D σ H1
theorem bR {c:Expr}{a b:List Stmt}{tc:TT}(hc:PT X c tc)(ha:PSs X a t)(hb:PSs X b u):PS X (.If c a b pos) (aAK tc t u):=by
 intro pins s σ H D I h;refine wpAny_If (thn (hc pins s σ H _ I h) fun d s1 ⟨H1,I1,q1⟩=>?_)
 cases d with
 | true=>exact ha pins s1 σ H1 D I1 q1
 | false=>exact hb pins s1 σ H1 D I1 q1
end
abbrev TG:=V->St->Hp->(St->Hp->Prop)->Prop
abbrev TGs:=List V->St->Hp->(St->Hp->Prop)->Prop
def PG (X:Cx)(target:Expr)(t:TG):Prop :=
 ∀ (pins:List (Addr×Obj)) (s:Shared) (σ:St) (H:Hp) (v:V) (u:Value) (Q:St->Hp->Prop),Inv X pins σ H s->bG v u->t v σ H Q ->
  wpAny (model X.prog X.w) X.A (assign target X.env u) (fun _ s'=>∃ σ' H',Inv X pins σ' H' s'∧Q σ' H') X.xe s
def PGs (X:Cx)(ts:List Expr)(t:TGs):Prop :=
 ∀ (pins:List (Addr×Obj)) (s:Shared) (σ:St) (H:Hp) (vs:List V) (us:List Value) (Q:St->Hp->Prop),Inv X pins σ H s->bK vs us->t vs σ H Q ->
  wpAny (model X.prog X.w) X.A (assignInOrder ((assignEach ts X.env).map (·.2)) us) (fun _ s'=>∃ σ' H',Inv X pins σ' H' s'∧Q σ' H') X.xe s
abbrev Ur:=V->V->V->Hp->(Hp->Prop)->Prop
def Vk (X:Cx)(t:Ur):Prop :=
 ∀ (pins:List (Addr×Obj)) (s:Shared) (σ:St) (H:Hp) (o i v:V) (ov iv u:Value) (Q:Hp->Prop),Inv X pins σ H s->bG o ov->bG i iv->bG v u->t o i v H Q ->
  wpAny (model X.prog X.w) X.A (setItem ov iv u) (fun _ s'=>∃ H',Inv X pins σ H' s'∧Q H') X.xe s
section
variable {X:Cx}{pos:Pos}
def wR (i:Nat):TG:=fun v σ H Q=>Q (σ.set i (some v)) H
theorem bD {i:Nat}{x:Str}(hN:X.N.Nodup)(hi:X.N[i]?=some x)(hx:Loc X.env.scope x)(hf:X.fn x=true∨X.env.scope.names.lookup x=some .local:=by first | exact .inl rfl | exact .inr rfl | assumption):PG X (.Name x pos) (wR i):=by
 intro pins s σ H v u Q I r h;exact wpAny_assign_Name (tF I hN hi hx r (fun s' I'=>⟨_,H,I',h⟩) hf)
def Zq:TGs:=fun vs σ H Q=>vs=[]∧Q σ H
def Zi (t:TG)(u:TGs):TGs:=fun vs σ H Q=>∃ v r,vs=v::r∧t v σ H fun σ' H'=>u r σ' H' Q
theorem oG:PGs X [] Zq:=by
 intro pins s σ H vs us Q I r h;obtain⟨e,h⟩:=h;subst e;cases r;exact assignInOrder_nil ⟨σ,H,I,h⟩
theorem fG {e:Expr}{es:List Expr}{t:TG}{u:TGs}(h1:PG X e t)(h2:PGs X es u)
  (hs:(assignEach (e::es) X.env).map (·.2)=assign e X.env::(assignEach es X.env).map (·.2):=by rfl):PGs X (e::es) (Zi t u):=by
 intro pins s σ H vs us Q I r h;obtain⟨v,vr,e1,h⟩:=h;subst e1
 cases r with
 | cons r rr =>
  rw[hs];refine assignInOrder_cons (thn (h1 pins s σ H _ _ _ I r h) fun _ s1 ⟨σ1,H1,I1,q1⟩=>?_);exact h2 pins s1 σ1 H1 _ _ Q I1 rr q1
def aAF (K:af)(n:Nat)(t:TGs):TG:=fun v σ H Q=>∃ a xs,v = .ref a∧SqT K H a xs∧xs.length=n∧t xs σ H Q
theorem vD {es:List Expr}{k:Nat}{t:TGs}{n:Nat}(hc:X.calm=true)(h:PGs X es t)
  (hn:(assignEach es X.env).length=n:=by rfl) (hst:(assignEach es X.env).findIdx? (·.1)=none:=by rfl):PG X (.Tuple es k pos) (aAF X.K n t):=by
 intro pins s σ H v u Q I r hw;obtain⟨a,xs,e1,hq,hl,hw⟩:=hw;subst e1;cases r;obtain⟨its,rv,ht,hz⟩:=I.tuple hq;refine assign_Tuple_tuple (I.ok.hd hc) ht (by simp[hn,<- hl,rv.length]) hst fun h' hx=>?_
 have I1:Inv X pins σ H { s with heap:=h' }:=I.kept (t':=s.toks) fun b o e=>hx b o (a9 (Heap.lt_size e)) e
 exact h pins _ σ H xs _ Q I1 (by simpa using rv) hw
def Zk (to ti:TE)(t:Ur):TG:=fun v σ H Q=>to σ H fun o H1=>ti σ H1 fun i H2=>t o i v H2 fun H3=>Q σ H3
theorem Ut {o i:Expr}{to ti:TE}{t:Ur}(ho:PE X o to)(hi:PE X i ti)(hs:Vk X t)
  (ha:∀ v,assign (.Subscript o i pos) X.env v=(do
   let ov <- holding [v] (eval o X.env)
   let iv <- holding [v,ov] (eval i X.env)
   standAt pos
   holding [v,ov,iv] (setItem ov iv v)
   release [v,ov,iv] []):=by intro _;rfl):PG X (.Subscript o i pos) (Zk to ti t):=by
 intro pins s σ H v u Q I r h;rw[ha];refine wpAny_bind (wpAny_holding (thn (ho pins s σ H _ I h) fun ov s1 ⟨x,H1,I1,r1,q1⟩=>?_));refine wpAny_bind (wpAny_holding (thn (hi pins s1 σ H1 _ I1 q1) fun iv s2 ⟨y,H2,I2,r2,q2⟩=>?_));refine wpAny_bind (wpAny_standAt (wpAny_bind (wpAny_holding (thn (hs pins s2 σ H2 x y v ov iv u _ I2 r1 r2 r q2) fun _ s3 ⟨H3,I3,q3⟩=>?_))));exact wpAny_release ⟨σ,H3,I3,q3⟩
def My (te:TE)(g:TG):TS:=fun D σ H=>te σ H fun x H1=>g x σ H1 D.nx
theorem Gd {tg e:Expr}{te:TE}{g:TG}(he:PE X e te)(hg:PG X tg g)(hs:swapsWithSole [tg] e pos.line X.env=pure false:=by rfl)(hw:swappedStores [tg] e X.env=pure none:=by rfl)
  (h1:(assignEach [tg] X.env).map (·.2)=[assign tg X.env]:=by rfl):PS X (.Assign [tg] e pos) (My te g):=by
 intro pins s σ H D I h;refine wpAny_Assign_stores (thn (he pins s σ H _ I h) fun v s1 ⟨x,H1,I1,r1,q1⟩=>?_) hs hw;rw[h1];exact thn (hg pins s1 σ H1 x v _ I1 r1 q1) fun _ s2 q=>q
theorem aI {i:Nat}{x:Str}{e:Expr}{te:TE}{pos':Pos}(hN:X.N.Nodup)(hi:X.N[i]?=some x)(hx:Loc X.env.scope x)(he:PE X e te)(hs:swapsWith e (some (.Name x pos')) pos.line X.env=pure false:=by rfl)(hf:X.fn x=true∨X.env.scope.names.lookup x=some .local:=by first | exact .inl rfl | exact .inr rfl | assumption) :
  PS X (.Assign [.Name x pos'] e pos) (My te (wR i)):=by
 intro pins s σ H D I h;refine wpAny_Assign_Name (thn (he pins s σ H _ I h) fun v s1 ⟨y,H1,I1,r1,q1⟩=>?_) hs;exact tF I1 hN hi hx r1 (fun s2 I2=>⟨_,H1,I2,q1⟩) hf
def Vp (c:TT)(tb:TS):TS:=fun D σ H=>∃ W:Nat->St->Hp->Prop,(∃ m,W m σ H)∧∀ m σ H,W m σ H ->
 c σ H fun b H1=>if b=true then ∃ N:St->Hp->Prop,(∀ σ' H',N σ' H'->∃ m',m'<m∧W m' σ' H')∧tb { D with nx:=N,ct:=N,bk:=D.nx } σ H1 else D.nx σ H1
theorem iM {c:Expr}{body:List Stmt}{tc:TT}{tb:TS}(hp:PassesOwn (model X.prog X.w) X.A X.env X.xe)(hc:PT X c tc)(hb:PSs X body tb):PS X (.While c body [] pos) (Vp tc tb):=by
 intro pins s σ H D I h;obtain⟨W,⟨m0,w0⟩,turn⟩:=h;refine wpAny_While (codeAny_whileLoop (fun n s'=>∃ σ' H',Inv X pins σ' H' s'∧W n σ' H') ?_ m0 ⟨σ,H,I,w0⟩);rintro n s1 ⟨σ1,H1,I1,w1⟩;refine wpAny_passesOwn hp (thn (hc pins s1 σ1 H1 _ I1 (turn n σ1 H1 w1)) fun b s2 ⟨H2,I2,q2⟩=>?_)
 cases b with
 | true =>
  obtain⟨N,hN,q2⟩:=q2;rw[if_pos rfl];refine wpAny_passesOwn hp (thn (hb pins s2 σ1 H2 _ I2 q2) fun f s3 q3=>?_)
  cases f with
  | next =>
   obtain⟨σ3,H3,I3,n3⟩:=q3;obtain⟨m',hm,w3⟩:=hN σ3 H3 n3;exact⟨m',hm,σ3,H3,I3,w3⟩
  | cont =>
   obtain⟨σ3,H3,I3,n3⟩:=q3;obtain⟨m',hm,w3⟩:=hN σ3 H3 n3;exact⟨m',hm,σ3,H3,I3,w3⟩
  | brk=>exact q3
  | ret v=>exact q3
 | false =>
  rw[if_neg aj];exact wpAny_execs_nil ⟨σ1,H2,I2,q2⟩
end
structure It where
 go:Nat->Hp->Prop
 yld:Nat->Hp->V->Hp->Prop
 stop:Nat->Hp->Prop
def nE (X:Cx)(pins:List (Addr×Obj))(H:Hp)(b:Addr):Prop :=
 H b=none∧b≠X.env.locals∧b∉X.fs∧(b∈X.ex∨X.s₀.heap.objs.size<=b)∧(∀ x c,X.env.cells.lookup x=some c->c≠b)∧∀ p∈X.pn++pins,p.1≠b
theorem Inv.fpOk {X:Cx}{pins:List (Addr×Obj)}{σ:St}{H H':Hp}{s:Shared}{b:Addr}(I:Inv X pins σ H s)(hb:s.heap.objs.size<=b)(hn:H' b=none):nE X pins H' b:=by
 refine⟨hn,g0 (b7 I.lt hb),I.nofs hb,.inr (az I.sz hb),fun x c e z=>?_,fun p hp z=>?_⟩
 ·obtain⟨v,q⟩:=I.cell x c e
  exact absurd (b7 q.lt (by rw[z];exact hb)) (e9 _)
 ·exact absurd (b7 (Heap.lt_size (I.pin p hp).1) (by rw[z];exact hb)) (e9 _)
structure vX (P:Program)(w:World)(K:af)(tg:Expr)(J:It)(fp:List Addr)(it:Addr)(tn:Nat->Heap->Prop):Prop where
 mem:it∈fp
 obj:∀ i h,tn i h->∀ b∈fp,∃ o,h.get? b=some o∧∀ v,o.data≠.cell v
 keep:∀ i h h',tn i h->(∀ b∈fp,∀ o,h.get? b=some o->h'.get? b=some o)->tn i h'
 item:∀ (X:Cx),X.prog=P->X.w=w->X.K=K->X.calm=true->∀ (i:Nat) (pins:List (Addr×Obj)) (s:Shared) (σ:St) (H:Hp) (E:Value->Shared->Prop),Inv X pins σ H s->(∀ b∈fp,nE X pins H b)->tn i s.heap->J.go i H ->
  wpAny (model P w) X.A (pyNext (.ref it)) (fun r s1=>∃ u,r=some u ∧
   wpAny (model P w) X.A (letOwnedTupleGo tg (.ref it) u) (fun _ s2=>∃ x H',Inv X pins σ H' s2∧bG x u∧J.yld i H x H'∧tn (i+1) s2.heap∧∀ b∈fp,H' b=none) E s1) E s
 done:∀ (X:Cx),X.prog=P->X.w=w->X.K=K->X.calm=true->∀ (i:Nat) (pins:List (Addr×Obj)) (s:Shared) (σ:St) (H:Hp) (E:Value->Shared->Prop),Inv X pins σ H s->(∀ b∈fp,nE X pins H b)->tn i s.heap->J.stop i H ->
  wpAny (model P w) X.A (pyNext (.ref it)) (fun r s1=>r=none∧Inv X pins σ H s1) E s
 self:∀ (A:Around) (i:Nat) (s:Shared) (Q:Value->Shared->Prop) (E:Value->Shared->Prop),tn i s.heap->Q (.ref it) s->wpAny (model P w) A (pyIter (.ref it)) Q E s
abbrev TI:=St->Hp->(It->Hp->Prop)->Prop
def PIE (X:Cx)(pins:List (Addr×Obj))(σ:St)(tg:Expr)(R:It->Hp->Prop)(itv:Value)(s2:Shared):Prop :=
 ∃ (it:Addr) (fp:List Addr) (tn:Nat->Heap->Prop) (J:It) (H':Hp),itv = .ref it∧Inv X pins σ H' s2∧vX X.prog X.w X.K tg J fp it tn∧tn 0 s2.heap∧(∀ b∈fp,nE X pins H' b)∧R J H'
def PI (X:Cx)(tg iter:Expr)(wi:TI):Prop :=
 ∀ (pins:List (Addr×Obj)) (s:Shared) (σ:St) (H:Hp) (R:It->Hp->Prop),Inv X pins σ H s->wi σ H R ->
  wpAny (model X.prog X.w) X.A (eval iter X.env) (fun v s1=>wpAny (model X.prog X.w) X.A (pyIter v) (PIE X pins σ tg R) X.xe s1) X.xe s
theorem Hw {M : Model} {A : Around} {E : Value → Shared → Prop} {s : Shared} {tg : Expr} {it : Addr} {u : Value} {o : Obj} {n : String} {vs : Array Value} {Q : Unit → Shared → Prop} (ho : s.heap.get? it = some o) (hc : o.cls = .type n) (hd : o.data = .fields vs)
    (hn : ["enumerate", "zip", "dict_itemiterator", "dict_reverseitemiterator", "odict_iterator", "itertools.zip_longest", "itertools.pairwise"].contains n = false) (hQ : Q () s) : wpAny M A (letOwnedTupleGo tg (.ref it) u) Q E s := by
  unfold letOwnedTupleGo;cases tg <;> first
    | exact wpAny_pure hQ
    | (cases u <;> first
        | exact wpAny_pure hQ
        | (refine wpAny_bind (wpAny_load ho ?_)
           rw[hc, hd];show wpAny M A (if (["enumerate", "zip", "dict_itemiterator", "dict_reverseitemiterator", "odict_iterator", "itertools.zip_longest", "itertools.pairwise"].contains n && vs[0]? == some (rawInt _)) = true then _ else _) Q E s
           rw[if_neg (by intro h; rw[hn, ph] at h; cases h)];exact wpAny_pure hQ))
def Itl (K:af)(a:Addr):It :=
 ⟨fun i H=>∃ xs x,SqL K H a xs∧xs[i]?=some x,fun i H x H'=>H'=H∧∀ xs,SqL K H a xs->xs[i]?=some x,fun i H=>∃ xs,SqL K H a xs∧xs.length<=i⟩
def Itt (K:af)(a:Addr):It :=
 ⟨fun i H=>∃ xs x,SqT K H a xs∧xs[i]?=some x,fun i H x H'=>H'=H∧∀ xs,SqT K H a xs->xs[i]?=some x,fun i H=>∃ xs,SqT K H a xs∧xs.length<=i⟩
def Itr (lo:Int)(n:Nat):It:=⟨fun i _=>i<n,fun i H x H'=>H'=H∧x = .int (lo+i),fun i _=>n<=i⟩
theorem yI {P:Program}{w:World}{K:af}{tg:Expr}(a it:Addr):vX P w K tg (Itl K a) [it] it (fun i h=>h.IsListIter it a i) where
 mem:=by simp
 obj:=fun i h st b hb=>by
  have e:b=it:=by simpa using hb
  subst e;obtain⟨o,e,c,d⟩:=st;exact⟨o,e,fun v z=>by rw[d] at z;cases z⟩
 keep:=fun i h h' st k=>st.at fun o e=>k it (by simp) o e
 item:=by
  intro X hP hw hK hc i pins s σ H E I hf st hg;subst hP hw hK;obtain⟨xs,x,hq,hx⟩:=hg;obtain⟨its,rv,p,hz⟩:=I.list hq;obtain⟨u,hu,ru⟩:=rv.get hx;obtain⟨f0,f1,f2,f3,f4,f5⟩:=hf it (by simp);refine wpAny_pyNext_list_item st p.isList (x:=u) (by simpa using hu) fun h' st' sb=>?_
  have I1:Inv X pins σ H { s with heap:=h' }:=I.turned (t':=s.toks) (fun b o hb e=>(sb.2 b hb).trans e) f0 f1 f3 f4 f5;obtain⟨o,e,c,d⟩:=id st';exact⟨u,rfl,Hw (s:={ s with heap:=h' }) e c d (by decide) ⟨x,H,I1,ru,⟨rfl,fun ys hy=>by rw[I.list_inj hy hq];exact hx⟩,st',fun b hb=>(hf b hb).1⟩⟩
 done:=by
  intro X hP hw hK hc i pins s σ H E I hf st hg;subst hP hw hK;obtain⟨xs,hq,hx⟩:=hg;obtain⟨its,rv,p,hz⟩:=I.list hq;obtain⟨f0,f1,f2,f3,f4,f5⟩:=hf it (by simp);have hl:=rv.length;exact wpAny_pyNext_list_end (I.ok.hd hc) st p.isList (by simp;omega) fun h' eb=>⟨rfl,I.turned (t':=s.toks) (fun b o hb e=>eb b o hb e) f0 f1 f3 f4 f5⟩
 self:=fun _ _ _ _ _ st h=>wpAny_pyIter_listiter st h
theorem uE {P:Program}{w:World}{K:af}{tg:Expr}(a it:Addr):vX P w K tg (Itt K a) [it] it (fun i h=>h.IsTupleIter it a i) where
 mem:=by simp
 obj:=fun i h st b hb=>by
  have e:b=it:=by simpa using hb
  subst e;obtain⟨o,e,c,d⟩:=st;exact⟨o,e,fun v z=>by rw[d] at z;cases z⟩
 keep:=fun i h h' st k=>st.at fun o e=>k it (by simp) o e
 item:=by
  intro X hP hw hK hc i pins s σ H E I hf st hg;subst hP hw hK;obtain⟨xs,x,hq,hx⟩:=hg;obtain⟨its,rv,p,hz⟩:=I.tuple hq;obtain⟨u,hu,ru⟩:=rv.get hx;obtain⟨f0,f1,f2,f3,f4,f5⟩:=hf it (by simp);refine wpAny_pyNext_tuple_item st (show s.heap.IsTuple a its.toArray from p) (x:=u) (by simpa using hu) fun h' st' sb=>?_
  have I1:Inv X pins σ H { s with heap:=h' }:=I.turned (t':=s.toks) (fun b o hb e=>(sb.2 b hb).trans e) f0 f1 f3 f4 f5;obtain⟨o,e,c,d⟩:=id st';exact⟨u,rfl,Hw (s:={ s with heap:=h' }) e c d (by decide) ⟨x,H,I1,ru,⟨rfl,fun ys hy=>by rw[I.tuple_inj hy hq];exact hx⟩,st',fun b hb=>(hf b hb).1⟩⟩
 done:=by
  intro X hP hw hK hc i pins s σ H E I hf st hg;subst hP hw hK;obtain⟨xs,hq,hx⟩:=hg;obtain⟨its,rv,p,hz⟩:=I.tuple hq;obtain⟨f0,f1,f2,f3,f4,f5⟩:=hf it (by simp);have hl:=rv.length;exact wpAny_pyNext_tuple_end (I.ok.hd hc) st (show s.heap.IsTuple a its.toArray from p) (by simp;omega) fun h' eb=>⟨rfl,I.turned (t':=s.toks) (fun b o hb e=>eb b o hb e) f0 f1 f3 f4 f5⟩
 self:=fun _ _ _ _ _ st h=>wpAny_pyIter_tupleiter st h
theorem Fa {P:Program}{w:World}{K:af}{tg:Expr}(it:Addr)(lo:Int)(n:Nat):vX P w K tg (Itr lo n) [it] it (fun i h=>IsRangeIter h it (lo+(i:Nat)*1) ((n:Int)-(i:Nat)) 1) where
 mem:=by simp
 obj:=fun i h st b hb=>by
  have e:b=it:=by simpa using hb
  subst e;exact⟨_,st,fun v z=>by
   have z':Data.fields _=Data.cell v:=z;cases z'⟩
 keep:=fun i h h' st k=>k it (by simp) _ st
 item:=by
  intro X hP hw hK hc i pins s σ H E I hf st hg;subst hP hw hK;obtain⟨f0,f1,f2,f3,f4,f5⟩:=hf it (by simp);have W:=Walks.range (prog:=X.prog) (w:=X.w) (I.ok.hd hc) it lo 1 n;refine W.item i s _ _ hg st fun v h' tk hv st' kk=>?_
  obtain⟨t,rfl⟩:=hv;have I1:Inv X pins σ H { s with heap:=h',toks:=tk }:=I.turned (fun b o hb e=>kk b o (by simpa using hb) e) f0 f1 f3 f4 f5;refine⟨_,rfl,Hw (s:={ s with heap:=h',toks:=tk }) (n := "range_iterator") st' rfl rfl (by decide) ⟨.int (lo+i),H,I1,⟨t,?_⟩,⟨rfl,rfl⟩,st',fun b hb=>(hf b hb).1⟩⟩
  rw[lu]
 done:=by
  intro X hP hw hK hc i pins s σ H E I hf st hg;subst hP hw hK;obtain⟨f0,f1,f2,f3,f4,f5⟩:=hf it (by simp);exact wpAny_pyNext_range_end (I.ok.hd hc) st (by have:n<=i:=hg;omega) fun h' eb=>⟨rfl,I.turned (t':=s.toks) (fun b o hb e=>eb b o hb e) f0 f1 f3 f4 f5⟩
 self:=fun _ _ _ _ _ st h=>wpAny_pyIter_rangeiter st h
section
variable {X:Cx}{tg:Expr}
def Yj (K:af)(tl:TE):TI:=fun σ H R=>tl σ H fun x H1=>∃ a,x = .ref a∧(∃ xs,SqL K H1 a xs)∧R (Itl K a) H1
def aAB (K:af)(tl:TE):TI:=fun σ H R=>tl σ H fun x H1=>∃ a,x = .ref a∧(∃ xs,SqT K H1 a xs)∧R (Itt K a) H1
theorem cG {l:Expr}{tl:TE}(hl:PE X l tl):PI X tg l (Yj X.K tl):=by
 intro pins s σ H R I h;refine thn (hl pins s σ H _ I h) fun v s1 ⟨x,H1,I1,r1,q1⟩=>?_
 obtain⟨a,e,⟨xs,hq⟩,q⟩:=q1;subst e;cases r1;obtain⟨its,rv,p,hz⟩:=I1.list hq;refine wpAny_pyIter_list p.isList ?_;refine⟨s1.heap.objs.size,[s1.heap.objs.size],_,_,H1,rfl,I1.kept (t':=s1.toks) fun b o e=>Heap.get?_push_of_some _ e,yI a _,⟨_,Heap.get?_push_size _ rfl,rfl,rfl⟩,fun b hb=>?_,q⟩;have e:b=s1.heap.objs.size:=by simpa using hb
 subst e;exact I1.fpOk (ah _) (I1.hok.fresh (ah _))
theorem mY {l:Expr}{tl:TE}(hl:PE X l tl):PI X tg l (aAB X.K tl):=by
 intro pins s σ H R I h;refine thn (hl pins s σ H _ I h) fun v s1 ⟨x,H1,I1,r1,q1⟩=>?_
 obtain⟨a,e,⟨xs,hq⟩,q⟩:=q1;subst e;cases r1;obtain⟨its,rv,p,hz⟩:=I1.tuple hq;refine wpAny_pyIter_tuple (show s1.heap.IsTuple a its.toArray from p) ?_;refine⟨s1.heap.objs.size,[s1.heap.objs.size],_,_,H1,rfl,I1.kept (t':=s1.toks) fun b o e=>Heap.get?_push_of_some _ e,uE a _,⟨_,Heap.get?_push_size _ rfl,rfl,rfl⟩,fun b hb=>?_,q⟩;have e:b=s1.heap.objs.size:=by simpa using hb
 subst e;exact I1.fpOk (ah _) (I1.hok.fresh (ah _))
theorem Cs {pins:List (Addr×Obj)}{σ:St}{H:Hp}{s:Shared}{R:It->Hp->Prop}{E:Value->Shared->Prop}{lo hi:Int}{t u v:Tok}{tk:Nat}(I:Inv X pins σ H s)(h1 : -(2 ^ 62)<=lo)(h2:lo<2 ^ 62)(h3 : -(2 ^ 62)<=hi)(h4:hi<2 ^ 62)
  (q:R (Itr lo (hi-lo).toNat) H):wpAny (model X.prog X.w) X.A (pyIter (.ref s.heap.objs.size)) (PIE X pins σ tg R) E { s with heap:=s.heap.push { cls:=.type "range",data:=.fields #[.int lo t,.int hi u,.int 1 v] },toks:=tk }:=by
 refine wpAny_pyIter_range (IsRange.new ..) (small_one h1 h2 h3 h4) ?_;have I1:Inv X pins σ H { s with heap:=s.heap.push { cls:=.type "range",data:=.fields #[.int lo t,.int hi u,.int 1 v] },toks:=tk }:=I.kept fun b o e=>Heap.get?_push_of_some _ e
 refine⟨(s.heap.push { cls:=.type "range",data:=.fields #[.int lo t,.int hi u,.int 1 v] }).objs.size,[(s.heap.push { cls:=.type "range",data:=.fields #[.int lo t,.int hi u,.int 1 v] }).objs.size],_,_,H,rfl,
  I1.kept (t':=tk) fun b o e=>Heap.get?_push_of_some _ e,Fa _ lo (hi-lo).toNat,?_,fun b hb=>?_,q⟩
 ·have e1:lo+((0:Nat):Int)*1=lo:=by simp
  have e2:(((hi-lo).toNat:Nat):Int)-((0:Nat):Int)=Builtin.Range.rangeSize lo hi 1:=by rw[rangeSize_one];split <;> omega
  show IsRangeIter _ _ (lo+((0:Nat):Int)*1) ((((hi-lo).toNat:Nat):Int)-((0:Nat):Int)) 1;rw[e1,e2];exact Heap.get?_push_size _ rfl
 ·have e:b=(s.heap.push { cls:=.type "range",data:=.fields #[.int lo t,.int hi u,.int 1 v] }).objs.size:=by simpa using hb
  subst e;exact I1.fpOk (ah _) (I1.hok.fresh (ah _))
def Xk (ta:TA):TI:=fun σ H R=>ta σ H fun vs H1=>∃ j:Int,vs=[.int j]∧-(2 ^ 62)<=j∧j<2 ^ 62∧R (Itr 0 j.toNat) H1
def Ye (ta:TA):TI:=fun σ H R=>ta σ H fun vs H1=>∃ i j:Int,vs=[.int i,.int j]∧(-(2 ^ 62)<=i∧i<2 ^ 62∧-(2 ^ 62)<=j∧j<2 ^ 62)∧R (Itr i (j-i).toNat) H1
theorem fA {a:Expr}{ta:TA}{p pos:Pos}(hg:Gl X "range")(hm:X.mg "range" = none)(ha:PA X [a] ta)(hs:starEach [a] X.env=[(false,eval a X.env)]:=by rfl):PI X tg (.Call (.Name "range" p) [a] [] pos) (Xk ta):=by
 intro pins s σ H R I h;refine Call_ (pM I hg hm boot_range (gt (thn (ha pos pins s σ H _ I h) fun us s1 ⟨vs,H1,I1,r1,q1⟩=>?_) hs rfl));obtain⟨j,e,q1,q2,q⟩:=q1;subst e
 cases r1 with
 | cons r rr =>
  cases rr;obtain⟨t,rfl⟩:=r;exact call_range_1 (Cs I1 (by omega) (by omega) q1 q2 (by simpa using q))
theorem Km {a b:Expr}{ta:TA}{p pos:Pos}(hg:Gl X "range")(hm:X.mg "range" = none)(ha:PA X [a,b] ta)(hs:starEach [a,b] X.env=[(false,eval a X.env),(false,eval b X.env)]:=by rfl)(hs2:starEach [b] X.env=[(false,eval b X.env)]:=by rfl) :
  PI X tg (.Call (.Name "range" p) [a,b] [] pos) (Ye ta):=by
 intro pins s σ H R I h;refine Call_ (pM I hg hm boot_range (gt (thn (ha pos pins s σ H _ I h) fun us s1 ⟨vs,H1,I1,r1,q1⟩=>?_) (by rw[hs,hs2]) (by rw[hs2];rfl)));obtain⟨i,j,e,⟨q1,q2,q3,q4⟩,q⟩:=q1;subst e
 cases r1 with
 | cons r rr =>
  cases rr with
  | cons r' rr =>
   cases rr;obtain⟨t,rfl⟩:=r;obtain⟨t',rfl⟩:=r';exact call_range_2 (Cs I1 q1 q2 q3 q4 q)
def Zr (wi:TI)(g:TG)(tb:TS):TS:=fun D σ H=>wi σ H fun J H1=>∃ W:Nat->Nat->St->Hp->Prop,(∃ m,W 0 m σ H1)∧∀ i m σ H,W i m σ H ->
 (J.stop i H∧D.nx σ H)∨(J.go i H∧∃ N:St->Hp->Prop,(∀ σ' H',N σ' H'->∃ m',m'<m∧W (i+1) m' σ' H')∧∀ x H',J.yld i H x H'->g x σ H' fun σ2 H2=>tb { D with nx:=N,ct:=N,bk:=D.nx } σ2 H2)
def mP (fp:List Addr)(h:Heap):List (Addr×Obj):=fp.filterMap fun b=>(h.get? b).map fun o=>(b,o)
theorem eP {fp:List Addr}{h:Heap}{b:Addr}{o:Obj}(hb:b∈fp)(e:h.get? b=some o):(b,o)∈mP fp h:=mj.mpr ⟨b,hb,by rw[e];rfl⟩
theorem Lk {fp:List Addr}{h:Heap}{p:Addr×Obj}(hp:p∈mP fp h):p.1∈fp∧h.get? p.1=some p.2:=by
 obtain⟨b,hb,e⟩:=mj.mp hp
 cases q:h.get? b with
 | none=>rw[q] at e;cases e
 | some o =>
  rw[q] at e;have e':(b,o)=p:=ay e;subst e';exact⟨hb,q⟩
theorem Inv.pinned {pins:List (Addr×Obj)}{σ:St}{H:Hp}{s:Shared}{fp:List Addr}(I:Inv X pins σ H s)(hf:∀ b∈fp,nE X pins H b)(ho:∀ b∈fp,∃ o,s.heap.get? b=some o∧∀ v,o.data≠.cell v):Inv X (pins++mP fp s.heap) σ H s :=
 I.pins_of fun p hp=>(bt.mp hp).elim (fun z=>I.pin p (bn _ z)) fun z=>by
  obtain⟨hb,e⟩:=Lk z;obtain⟨f0,f1,f2,_⟩:=hf p.1 hb;obtain⟨o,e',d⟩:=ho p.1 hb;rw[e] at e';cases e';exact⟨e,f0,f1,f2,d⟩
theorem Inv.unpinned {pins pl:List (Addr×Obj)}{σ:St}{H:Hp}{s:Shared}(I:Inv X (pins++pl) σ H s):Inv X pins σ H s:=I.pins_of fun p hp=>I.pin p (bn _ (fi _ hp))
theorem cN {iter:Expr}{body:List Stmt}{wi:TI}{g:TG}{tb:TS}{pos:Pos}(hp:PassesOwn (model X.prog X.w) X.A X.env X.xe)(hc:X.calm=true)(hi:PI X tg iter wi)(hg:PG X tg g)(hb:PSs X body tb)
  (hs:∀ x,foldedSetIterable iter X.env x=pure x:=by intro _;rfl):PS X (.For tg iter body [] pos) (Zr wi g tb):=by
 intro pins s σ H D I h;refine wpAny_For (thn (hi pins s σ H _ I h) fun v s1 h1=>thn h1 fun itv s2 h2=>?_) hs;obtain⟨it,fp,tn,J,H2,e,I2,T,st2,f2,W,⟨m0,w0⟩,turn⟩:=h2;subst e;have stat:∀ {H':Hp},(∀ b∈fp,H' b=none)->∀ b∈fp,nE X pins H' b:=fun hn b hb=>⟨hn b hb,(f2 b hb).2⟩
 refine codeAny_forLoop_any (fun n s'=>∃ i σ' H',Inv X pins σ' H' s'∧tn i s'.heap∧(∀ b∈fp,H' b=none)∧W i n σ' H') ?_ m0 ⟨0,σ,H2,I2,st2,fun b hb=>(f2 b hb).1,w0⟩;rintro n s3 ⟨i,σ3,H3,I3,st3,fr3,w3⟩;rcases turn i n σ3 H3 w3 with ⟨stop,qn⟩ | ⟨go,N,hN,step⟩
 ·refine wpAny_passesOwn hp (thn (T.done X rfl rfl rfl hc i pins s3 σ3 H3 X.xe I3 (stat fr3) st3 stop) fun r s4 ⟨hr,I4⟩=>?_)
  subst hr;exact wpAny_execs_nil ⟨σ3,H3,I4,qn⟩
 ·refine wpAny_passesOwn hp (thn (T.item X rfl rfl rfl hc i pins s3 σ3 H3 X.xe I3 (stat fr3) st3 go) fun r s4 ⟨u,hr,h4⟩=>?_)
  subst hr;refine wpAny_passesOwn hp (thn h4 fun _ s5 ⟨x,H5,I5,r5,y5,st5,fr5⟩=>?_);have I5':=I5.pinned (stat fr5) (T.obj _ _ st5);refine wpAny_passesOwn hp (thn (hg _ s5 σ3 H5 x u _ I5' r5 (step x H5 y5)) fun _ s6 ⟨σ6,H6,I6,q6⟩=>?_);refine wpAny_passesOwn hp (thn (hb _ s6 σ6 H6 _ I6 q6) fun f s7 q7=>?_);have again:∀ {σ7:St} {H7:Hp},Inv X (pins++mP fp s5.heap) σ7 H7 s7->N σ7 H7->∃ m,m<n∧∃ i σ' H',Inv X pins σ' H' s7∧tn i s7.heap∧(∀ b∈fp,H' b=none)∧W i m σ' H':=fun {σ7 H7} I7 n7=>by
   obtain⟨m',hm,w7⟩:=hN σ7 H7 n7;refine⟨m',hm,i+1,σ7,H7,I7.unpinned,T.keep _ _ _ st5 fun b hb o e=>(I7.pin (b,o) (bn _ (bn _ (eP hb e)))).1,fun b hb=>?_,w7⟩;obtain⟨o,e,d⟩:=T.obj _ _ st5 b hb;exact (I7.pin (b,o) (bn _ (bn _ (eP hb e)))).2.1
  cases f with
  | next=>obtain⟨σ7,H7,I7,n7⟩:=q7;exact again I7 n7
  | cont=>obtain⟨σ7,H7,I7,n7⟩:=q7;exact again I7 n7
  | brk=>obtain⟨σ7,H7,I7,q7⟩:=q7;exact⟨σ7,H7,I7.unpinned,q7⟩
  | ret v=>obtain⟨x7,σ7,H7,I7,r7,q7⟩:=q7;exact⟨x7,σ7,H7,I7.unpinned,r7,q7⟩
end
theorem eE {K:af}{a:Addr}{xs:List V}{g:TG}{tb:TS}{D:lE}{σ:St}{H:Hp}(Pv:Nat->St->Hp->Prop)(h0:Pv 0 σ H)(hl:∀ i σ H,i<=xs.length->Pv i σ H->SqL K H a xs)
  (hs:∀ i x σ H,xs[i]?=some x->Pv i σ H->g x σ H fun σ2 H2=>tb { D with nx:=Pv (i+1),ct:=Pv (i+1),bk:=D.nx } σ2 H2) (hd:∀ σ H,Pv xs.length σ H->D.nx σ H) :
  ∃ W:Nat->Nat->St->Hp->Prop,(∃ m,W 0 m σ H)∧∀ i m σ H,W i m σ H ->
   ((Itl K a).stop i H∧D.nx σ H)∨((Itl K a).go i H∧∃ N:St->Hp->Prop,(∀ σ' H',N σ' H'->∃ m',m'<m∧W (i+1) m' σ' H')∧∀ x H',(Itl K a).yld i H x H'->g x σ H' fun σ2 H2=>tb { D with nx:=N,ct:=N,bk:=D.nx } σ2 H2):=by
 refine⟨fun i m σ H=>m=xs.length-i∧i<=xs.length∧Pv i σ H,⟨xs.length,by simp,b9 _,h0⟩,?_⟩;rintro i m σ H ⟨rfl,hi,p⟩;have q:=hl i σ H hi p;by_cases hlt:i<xs.length
 ·refine .inr ⟨⟨xs,xs[i],q,by simp[hlt]⟩,Pv (i+1),fun σ' H' p'=>⟨xs.length-(i+1),by omega,rfl,hlt,p'⟩,fun x H' y=>?_⟩
  obtain⟨e,y⟩:=y;subst e;exact hs i x σ _ (y xs q) p
 ·have e:i=xs.length:=by omega
  subst e;exact .inl ⟨⟨xs,q,ah _⟩,hd σ H p⟩
theorem Hi {K:af}{a:Addr}{xs:List V}{g:TG}{tb:TS}{D:lE}{σ:St}{H:Hp}(Pv:Nat->St->Hp->Prop)(h0:Pv 0 σ H)(hl:∀ i σ H,i<=xs.length->Pv i σ H->SqT K H a xs)
  (hs:∀ i x σ H,xs[i]?=some x->Pv i σ H->g x σ H fun σ2 H2=>tb { D with nx:=Pv (i+1),ct:=Pv (i+1),bk:=D.nx } σ2 H2) (hd:∀ σ H,Pv xs.length σ H->D.nx σ H) :
  ∃ W:Nat->Nat->St->Hp->Prop,(∃ m,W 0 m σ H)∧∀ i m σ H,W i m σ H ->
   ((Itt K a).stop i H∧D.nx σ H)∨((Itt K a).go i H∧∃ N:St->Hp->Prop,(∀ σ' H',N σ' H'->∃ m',m'<m∧W (i+1) m' σ' H')∧∀ x H',(Itt K a).yld i H x H'->g x σ H' fun σ2 H2=>tb { D with nx:=N,ct:=N,bk:=D.nx } σ2 H2):=by
 refine⟨fun i m σ H=>m=xs.length-i∧i<=xs.length∧Pv i σ H,⟨xs.length,by simp,b9 _,h0⟩,?_⟩;rintro i m σ H ⟨rfl,hi,p⟩;have q:=hl i σ H hi p;by_cases hlt:i<xs.length
 ·refine .inr ⟨⟨xs,xs[i],q,by simp[hlt]⟩,Pv (i+1),fun σ' H' p'=>⟨xs.length-(i+1),by omega,rfl,hlt,p'⟩,fun x H' y=>?_⟩
  obtain⟨e,y⟩:=y;subst e;exact hs i x σ _ (y xs q) p
 ·have e:i=xs.length:=by omega
  subst e;exact .inl ⟨⟨xs,q,ah _⟩,hd σ H p⟩
theorem fP {lo:Int}{n:Nat}{g:TG}{tb:TS}{D:lE}{σ:St}{H:Hp}(Pv:Nat->St->Hp->Prop)(h0:Pv 0 σ H)
  (hs:∀ i σ H,i<n->Pv i σ H->g (.int (lo+i)) σ H fun σ2 H2=>tb { D with nx:=Pv (i+1),ct:=Pv (i+1),bk:=D.nx } σ2 H2) (hd:∀ σ H,Pv n σ H->D.nx σ H) :
  ∃ W:Nat->Nat->St->Hp->Prop,(∃ m,W 0 m σ H)∧∀ i m σ H,W i m σ H ->
   ((Itr lo n).stop i H∧D.nx σ H)∨((Itr lo n).go i H∧∃ N:St->Hp->Prop,(∀ σ' H',N σ' H'->∃ m',m'<m∧W (i+1) m' σ' H')∧∀ x H',(Itr lo n).yld i H x H'->g x σ H' fun σ2 H2=>tb { D with nx:=N,ct:=N,bk:=D.nx } σ2 H2):=by
 refine⟨fun i m σ H=>m=n-i∧i<=n∧Pv i σ H,⟨n,by simp,b9 _,h0⟩,?_⟩;rintro i m σ H ⟨rfl,hi,p⟩;by_cases hlt:i<n
 ·refine .inr ⟨hlt,Pv (i+1),fun σ' H' p'=>⟨n-(i+1),by omega,rfl,hlt,p'⟩,fun x H' y=>?_⟩
  obtain⟨e,y⟩:=y;subst e y;exact hs i σ _ hlt p
 ·have e:i=n:=by omega
  subst e;exact .inl ⟨ah _,hd σ H p⟩
abbrev R2:=V->V->Hp->VK->Prop
def OpR (X:Cx)(f:Value->Value->Sem Value)(r:R2):Prop :=
 ∀ (pins:List (Addr×Obj)) (s:Shared) (σ:St) (H:Hp) (x y:V) (v u:Value) (Q:VK),Inv X pins σ H s->bG x v->bG y u->r x y H Q ->
  wpAny (model X.prog X.w) X.A (f v u) (EP X pins σ Q) X.xe s
def UnR (X:Cx)(f:Value->Sem Value)(r:V->Hp->VK->Prop):Prop :=
 ∀ (pins:List (Addr×Obj)) (s:Shared) (σ:St) (H:Hp) (x:V) (v:Value) (Q:VK),Inv X pins σ H s->bG x v->r x H Q ->
  wpAny (model X.prog X.w) X.A (f v) (EP X pins σ Q) X.xe s
def fC (X:Cx)(f:Value)(r:List V->Hp->VK->Prop):Prop :=
 ∀ (pins:List (Addr×Obj)) (s:Shared) (σ:St) (H:Hp) (xs:List V) (us:List Value) (Q:VK),Inv X pins σ H s->bK xs us->r xs H Q ->
  wpAny (model X.prog X.w) X.A (call f us) (EP X pins σ Q) X.xe s
def tOp (r:R2)(ta tb:TE):TE:=fun σ H Q=>ta σ H fun x H1=>tb σ H1 fun y H2=>r x y H2 Q
def tUn (r:V->Hp->VK->Prop)(ta:TE):TE:=fun σ H Q=>ta σ H fun x H1=>r x H1 Q
def rI (C:Int->Int->Prop)(g:Int->Int->V):R2:=fun x y H Q=>∃ i j,x = .int i∧y = .int j∧C i j∧Q (g i j) H
def rI0 (g:Int->Int->V):R2:=fun x y H Q=>∃ i j,x = .int i∧y = .int j∧Q (g i j) H
def rU (g:Int->V):V->Hp->VK->Prop:=fun x H Q=>∃ i,x = .int i∧Q (g i) H
section
variable {X:Cx}{a b c:Expr}{ta tb tc:TE}{pos:Pos}
theorem Vq (ha:PE X a ta)(hb:PE X b tb){pins:List (Addr×Obj)}{s:Shared}{σ:St}{H:Hp}{R:V->V->Hp->Prop}(I:Inv X pins σ H s)
  (h:ta σ H fun x H1=>tb σ H1 fun y H2=>R x y H2) {Q:Value->Shared->Prop} {f:Value->Value->Sem Value}
  (hf:∀ v u s2 x y H2,Inv X pins σ H2 s2->bG x v->bG y u->R x y H2->wpAny (model X.prog X.w) X.A (f v u) Q X.xe s2) :
  wpAny (model X.prog X.w) X.A (eval a X.env) (fun v s₁=>wpAny (model X.prog X.w) X.A (eval b X.env) (fun u s₂=>wpAny (model X.prog X.w) X.A (f v u) Q X.xe s₂) X.xe s₁) X.xe s:=by
 refine thn (ha pins s σ H _ I h) fun v s1 ⟨x,H1,I1,r1,q1⟩=>?_
 refine thn (hb pins s1 σ H1 _ I1 q1) fun u s2 ⟨y,H2,I2,r2,q2⟩=>?_
 exact hf v u s2 x y H2 I2 r1 r2 q2
theorem aQ {op:Operator}{r:R2}(ho:OpR X (binaryOp op) r)(ha:PE X a ta)(hb:PE X b tb):PE X (.BinOp a op b pos) (tOp r ta tb):=by
 intro pins s σ H Q I h;exact wpAny_BinOp (Vq ha hb I h fun v u s2 x y H2 I2 rx ry q=>ho pins s2 σ H2 x y v u Q I2 rx ry q)
theorem rC {op:UnaryOp}{r:V->Hp->VK->Prop}(ho:UnR X (unaryOp op) r)(ha:PE X a ta):PE X (.UnaryOp op a pos) (tUn r ta):=by
 intro pins s σ H Q I h;exact UnaryOp_ (thn (ha pins s σ H _ I h) fun v s1 ⟨x,H1,I1,r1,q1⟩=>ho pins s1 σ H1 x v Q I1 r1 q1)
theorem opI {f:Value->Value->Sem Value}{C:Int->Int->Prop}{g:Int->Int->Int}
  (rule:∀ (i j:Int) (t u:Tok) (s:Shared) (Q:Value->Shared->Prop) (E:Value->Shared->Prop),C i j->Q (.int (g i j) s.toks) { s with toks:=s.toks+1 }->wpAny (model X.prog X.w) X.A (f (.int i t) (.int j u)) Q E s) :
  OpR X f (rI C fun i j=>.int (g i j)):=by
 intro pins s σ H x y v u Q I rx ry h;obtain⟨i,j,rfl,rfl,hc,q⟩:=h;obtain⟨t,rfl⟩:=rx;obtain⟨t',rfl⟩:=ry;exact rule i j t t' s _ _ hc ⟨.int (g i j),H,I.tok _,⟨_,rfl⟩,q⟩
theorem Xh {f:Value->Value->Sem Value}{g:Int->Int->Int}
  (rule:∀ (i j:Int) (t u:Tok) (s:Shared) (Q:Value->Shared->Prop) (E:Value->Shared->Prop),Q (.int (g i j) s.toks) { s with toks:=s.toks+1 }->wpAny (model X.prog X.w) X.A (f (.int i t) (.int j u)) Q E s) :
  OpR X f (rI0 fun i j=>.int (g i j)):=by
 intro pins s σ H x y v u Q I rx ry h;obtain⟨i,j,rfl,rfl,q⟩:=h;obtain⟨t,rfl⟩:=rx;obtain⟨t',rfl⟩:=ry;exact rule i j t t' s _ _ ⟨.int (g i j),H,I.tok _,⟨_,rfl⟩,q⟩
theorem Rj {f:Value->Value->Sem Value}{g:Int->Int->Bool}
  (rule:∀ (i j:Int) (t u:Tok) (s:Shared) (Q:Value->Shared->Prop) (E:Value->Shared->Prop),Q (.bool (g i j)) s->wpAny (model X.prog X.w) X.A (f (.int i t) (.int j u)) Q E s) :
  OpR X f (rI0 fun i j=>.bl (g i j)):=by
 intro pins s σ H x y v u Q I rx ry h;obtain⟨i,j,rfl,rfl,q⟩:=h;obtain⟨t,rfl⟩:=rx;obtain⟨t',rfl⟩:=ry;exact rule i j t t' s _ _ ⟨.bl (g i j),H,I,rfl,q⟩
def aAH (i j:Int):Prop:=0<j∧j<1073741824
def Uj (i j:Int):Prop:=(-(2 ^ 64)<i∧i<2 ^ 64)∨(-(2 ^ 64)<j∧j<2 ^ 64)
theorem Uj.ok {i j:Int}(h:Uj i j):IntMulOk i j:=by
 rcases h with ⟨h1,h2⟩ | ⟨h1,h2⟩
 ·exact .of_left (intBits_le_64 h1 h2)
 ·exact .of_right (intBits_le_64 h1 h2)
theorem eC:OpR X (binaryOp .Add) (rI0 fun i j=>.int (i+j)):=Xh fun _ _ _ _ _ _ _ q=>add_int q
theorem fW:OpR X (binaryOp .Sub) (rI0 fun i j=>.int (i-j)):=Xh fun _ _ _ _ _ _ _ q=>sub_int q
theorem kG:OpR X (binaryOp .Mult) (rI Uj fun i j=>.int (i*j)):=opI fun _ _ _ _ _ _ _ hc q=>mul_int q hc.ok
theorem gS:OpR X (binaryOp .FloorDiv) (rI aAH fun i j=>.int (i/j)):=opI fun i j _ _ _ _ _ hc q=>by
 have h1:(0:Int)<j:=hc.1;have h2:j<1073741824:=hc.2;exact floordiv_int (by omega) (by rw[ml i (by omega)];exact q) (.inl (PyProof.noPylong_small (by omega)))
theorem dD:OpR X (binaryOp .Mod) (rI (fun _ j=>0<j) fun i j=>.int (i % j)):=opI fun i j _ _ _ _ _ hc q=>by
 have h1:(0:Int)<j:=hc;exact mod_int' (by omega) (by rw[Int.fmod_eq_emod_of_nonneg i (by omega)];exact q)
theorem unI {f:Value->Sem Value}{g:Int->Int}
  (rule:∀ (i:Int) (t:Tok) (s:Shared) (Q:Value->Shared->Prop) (E:Value->Shared->Prop),Q (.int (g i) s.toks) { s with toks:=s.toks+1 }->wpAny (model X.prog X.w) X.A (f (.int i t)) Q E s) :
  UnR X f (rU fun i=>.int (g i)):=by
 intro pins s σ H x v Q I rx h;obtain⟨i,rfl,q⟩:=h;obtain⟨t,rfl⟩:=rx;exact rule i t s _ _ ⟨.int (g i),H,I.tok _,⟨_,rfl⟩,q⟩
theorem lL:UnR X (unaryOp .USub) (rU fun i=>.int (-i)):=unI fun _ _ _ _ _ q=>neg_int q
end
def Za:V->V->Bool
 | .non,.non=>true | .non,.int _=>true | .int _,.non=>true | .non,.bl _=>true | .bl _,.non=>true | .non,.str _=>true | .str _,.non=>true
 | .int _,.int _=>true | .bl _,.bl _=>true | .str _,.str _=>true | .byt _,.byt _=>true
 | .int _,.str _=>true | .str _,.int _=>true | .bl _,.str _=>true | .str _,.bl _=>true
 | _,_=>false
def rEq:R2:=fun x y H Q=>Za x y=true∧Q (.bl (decide (x=y))) H
def rNe:R2:=fun x y H Q=>Za x y=true∧Q (.bl (!decide (x=y))) H
theorem sK {i j:Int}:decide (V.int i=V.int j)=(i==j):=by
 rw[da];simp
theorem Nj {i j:Bool}:decide (V.bl i=V.bl j)=(i==j):=by
 rw[da];simp
theorem Iu {i j:Str}:decide (V.str i=V.str j)=(i==j):=by
 rw[da];simp
theorem Hy {i j:Array UInt8}:decide (V.byt i=V.byt j)=(i.toList==j.toList):=by
 rw[da];cases i;cases j;simp
section
variable {X:Cx}{a b c:Expr}{ta tb tc:TE}{pos:Pos}
theorem bT {pins:List (Addr×Obj)}{σ:St}{H:Hp}{s:Shared}{Q:VK}{k k':Bool}(I:Inv X pins σ H s)(q:Q (.bl k) H)(e:k=k'):EP X pins σ Q (.bool k') s:=by
 subst e;exact⟨.bl k,H,I,rfl,q⟩
theorem Tf:OpR X (compareOp .Eq) rEq:=by
 intro pins s σ H x y v u Q I rx ry h;obtain⟨hs,q⟩:=h
 cases x with
 | non =>
  cases rx
  cases y with
  | non=>cases ry;exact PySem.EqNone.eq_none_none (bT I q (by simp))
  | bl j=>cases ry;exact PySem.EqNone.eq_none_bool (bT I q (by simp))
  | int j=>obtain⟨t',rfl⟩:=ry;exact PySem.EqNone.eq_none_int (bT I q (by simp))
  | str j=>obtain⟨t',rfl⟩:=ry;exact PySem.EqNone.eq_none_str (bT I q (by simp))
  | _=>exact absurd (show false=true from hs) aj
 | bl i =>
  cases rx
  cases y with
  | non=>cases ry;exact PySem.EqNone.eq_bool_none (bT I q (by simp))
  | bl j=>cases ry;exact eq_bool (bT I q Nj)
  | str j=>obtain⟨t',rfl⟩:=ry;exact uf (bT I q (by simp))
  | _=>exact absurd (show false=true from hs) aj
 | int i =>
  obtain⟨t,rfl⟩:=rx
  cases y with
  | non=>cases ry;exact PySem.EqNone.eq_int_none (bT I q (by simp))
  | int j=>obtain⟨t',rfl⟩:=ry;exact eq_int (bT I q sK)
  | str j=>obtain⟨t',rfl⟩:=ry;exact uj (bT I q (by simp))
  | _=>exact absurd (show false=true from hs) aj
 | str i =>
  obtain⟨t,rfl⟩:=rx
  cases y with
  | non=>cases ry;exact PySem.EqNone.eq_str_none (bT I q (by simp))
  | bl j=>cases ry;exact ug (bT I q (by simp))
  | int j=>obtain⟨t',rfl⟩:=ry;exact uk (bT I q (by simp))
  | str j=>obtain⟨t',rfl⟩:=ry;exact eq_str (bT I q Iu)
  | _=>exact absurd (show false=true from hs) aj
 | byt i =>
  obtain⟨t,rfl⟩:=rx
  cases y with
  | byt j=>obtain⟨t',rfl⟩:=ry;exact PySem.W.eq_bytes (bT I q Hy)
  | _=>exact absurd (show false=true from hs) aj
 | _=>cases y <;> exact absurd (show false=true from hs) aj
theorem Tg:OpR X (compareOp .NotEq) rNe:=by
 intro pins s σ H x y v u Q I rx ry h;obtain⟨hs,q⟩:=h
 cases x with
 | non =>
  cases rx
  cases y with
  | non=>cases ry;exact PySem.EqNone.ne_none_none (bT I q (by simp))
  | bl j=>cases ry;exact PySem.EqNone.ne_none_bool (bT I q (by simp))
  | int j=>obtain⟨t',rfl⟩:=ry;exact PySem.EqNone.ne_none_int (bT I q (by simp))
  | str j=>obtain⟨t',rfl⟩:=ry;exact PySem.EqNone.ne_none_str (bT I q (by simp))
  | _=>exact absurd (show false=true from hs) aj
 | bl i =>
  cases rx
  cases y with
  | non=>cases ry;exact PySem.EqNone.ne_bool_none (bT I q (by simp))
  | bl j=>cases ry;exact ne_bool (bT I q (congrArg not Nj))
  | str j=>obtain⟨t',rfl⟩:=ry;exact uh (bT I q (by simp))
  | _=>exact absurd (show false=true from hs) aj
 | int i =>
  obtain⟨t,rfl⟩:=rx
  cases y with
  | non=>cases ry;exact PySem.EqNone.ne_int_none (bT I q (by simp))
  | int j=>obtain⟨t',rfl⟩:=ry;exact ne_int (bT I q (congrArg not sK))
  | str j=>obtain⟨t',rfl⟩:=ry;exact ul (bT I q (by simp))
  | _=>exact absurd (show false=true from hs) aj
 | str i =>
  obtain⟨t,rfl⟩:=rx
  cases y with
  | non=>cases ry;exact PySem.EqNone.ne_str_none (bT I q (by simp))
  | bl j=>cases ry;exact ui (bT I q (by simp))
  | int j=>obtain⟨t',rfl⟩:=ry;exact um (bT I q (by simp))
  | str j=>obtain⟨t',rfl⟩:=ry;exact ne_str (bT I q (congrArg not Iu))
  | _=>exact absurd (show false=true from hs) aj
 | byt i =>
  obtain⟨t,rfl⟩:=rx
  cases y with
  | byt j=>obtain⟨t',rfl⟩:=ry;exact PySem.W.ne_bytes (bT I q (congrArg not Hy))
  | _=>exact absurd (show false=true from hs) aj
 | _=>cases y <;> exact absurd (show false=true from hs) aj
theorem oP:OpR X (compareOp .Lt) (rI0 fun i j=>.bl (decide (i<j))):=Rj fun _ _ _ _ _ _ _ q=>lt_int q
theorem Th:OpR X (compareOp .LtE) (rI0 fun i j=>.bl (decide (i<=j))):=Rj fun _ _ _ _ _ _ _ q=>le_int q
theorem oJ:OpR X (compareOp .Gt) (rI0 fun i j=>.bl (decide (j<i))):=Rj fun _ _ _ _ _ _ _ q=>gt_int q
theorem Zg:OpR X (compareOp .GtE) (rI0 fun i j=>.bl (decide (j<=i))):=Rj fun _ _ _ _ _ _ _ q=>ge_int q
theorem Jv:OpR X (compareOp .Lt) (fun x y H Q=>∃ i j,x = .str i∧y = .str j∧Q (.bl (decide (i.cps.toList<j.cps.toList))) H):=by
 intro pins s σ H x y v u Q I rx ry h;obtain⟨i,j,rfl,rfl,q⟩:=h;obtain⟨t,rfl⟩:=rx;obtain⟨t',rfl⟩:=ry;exact lt_str (bT I q rfl)
theorem zV:OpR X (compareOp .NotIn) (fun x y H Q=>∃ i j,x = .str i∧y = .str j∧Q (.bl (!(!(Builtin.Str.occurrences j i 0 j.length 1).isEmpty))) H):=by
 intro pins s σ H x y v u Q I rx ry h;obtain⟨i,j,rfl,rfl,q⟩:=h;obtain⟨t,rfl⟩:=rx;obtain⟨t',rfl⟩:=ry;exact notIn_str (bT I q rfl)
theorem aY (b:Expr){op:CmpOp}(h:op≠.In:=by decide)(h2:op≠.NotIn:=by decide):behindInMarks op b=false:=by
 have e1:(op==CmpOp.In)=false:=by cases op <;> first | rfl | exact absurd rfl h
 have e2:(op==CmpOp.NotIn)=false:=by cases op <;> first | rfl | exact absurd rfl h2
 cases b <;> simp[behindInMarks,e1,e2]
theorem nR {op:CmpOp}{r:R2}(ho:OpR X (compareOp op) r)(ha:PE X a ta)(hb:PE X b tb)(hm:behindInMarks op b=false):PE X (.Compare a [op] [b] pos) (tOp r ta tb):=by
 intro pins s σ H Q I h;exact wpAny_Compare1 (Vq ha hb I h fun v u s2 x y H2 I2 rx ry q=>ho pins s2 σ H2 x y v u Q I2 rx ry q) hm
def Tk (t:TE):TT:=fun σ H Q=>t σ H fun x H'=>∃ k,x = .bl k∧Q k H'
theorem aU {op:CmpOp}{r:R2}(ho:OpR X (compareOp op) r)(ha:PE X a ta)(hb:PE X b tb)(hm:behindInMarks op b=false):PT X (.Compare a [op] [b] pos) (Tk (tOp r ta tb)):=by
 intro pins s σ H Q I h;refine wpAny_isTrue_Compare1 (thn (ha pins s σ H _ I h) fun v s1 ⟨x,H1,I1,r1,q1⟩=>thn (hb pins s1 σ H1 _ I1 q1) fun u s2 ⟨y,H2,I2,r2,q2⟩ =>
  thn (ho pins s2 σ H2 x y v u _ I2 r1 r2 q2) fun c s3 ⟨z,H3,I3,r3,k,e,q3⟩=>?_) hm
 subst e;cases r3;exact wpAny_truthy_bool ⟨H3,I3,q3⟩
def Ve (r r':R2)(ta tb tc:TE):TE:=fun σ H Q=>ta σ H fun x H1=>tb σ H1 fun y H2=>r x y H2 fun z H3=>∃ k,z = .bl k ∧
 (if k=true then tc σ H3 fun w' H4=>r' y w' H4 Q else Q (.bl false) H3)
theorem Mc {op op':CmpOp}{r r':R2}(ho:OpR X (compareOp op) r)(ho':OpR X (compareOp op') r')(ha:PE X a ta)(hb:PE X b tb)(hc:PE X c tc)
  (hm:lastMarks [op,op'] [b,c]=false:=by with_unfolding_all rfl):PT X (.Compare a [op,op'] [b,c] pos) (Tk (Ve r r' ta tb tc)):=by
 intro pins s σ H Q I h;refine isTrue_chain (thn (ha pins s σ H _ I h) fun v s1 ⟨x,H1,I1,r1,q1⟩=>test_link (thn (hb pins s1 σ H1 _ I1 q1) fun u s2 ⟨y,H2,I2,r2,q2⟩ =>
  thn (ho pins s2 σ H2 x y v u _ I2 r1 r2 q2) fun d s3 ⟨z,H3,I3,r3,k,e,q3⟩=>?_)) hm
 subst e;cases r3;refine wpAny_truthy_bool ?_
 cases k with
 | false =>
  obtain⟨k',e',q'⟩:=q3;cases e';exact ite_ff ⟨H3,I3,q'⟩
 | true =>
  refine ite_tt (test_last (thn (hc pins s3 σ H3 _ I3 q3) fun w' s4 ⟨z',H4,I4,r4,q4⟩=>thn (ho' pins s4 σ H4 y z' u w' _ I4 r2 r4 q4) fun d' s5 ⟨z2,H5,I5,r5,k2,e2,q5⟩=>?_));subst e2;cases r5;exact wpAny_truthy_bool ⟨H5,I5,q5⟩
theorem qQ:(sizeLine:Nat)<2 ^ 63:=by rw[sizeLine_eq];decide
theorem Fg:OpR X (binaryOp .Add) (fun x y H Q=>∃ i j,x = .str i∧y = .str j∧i.length+j.length<=sizeLine∧Q (.str (i++j)) H):=by
 intro pins s σ H x y v u Q I rx ry h;obtain⟨i,j,rfl,rfl,hz,q⟩:=h;obtain⟨t,rfl⟩:=rx;obtain⟨t',rfl⟩:=ry;exact add_str (fun t' tk=>⟨.str (i++j),H,I.tok _,⟨_,rfl⟩,q⟩) hz
theorem gH {x:V}{us:List Value}(r:bK [x] us):∃ u,us=[u]∧bG x u:=by
 cases r with
 | cons r1 r2=>cases r2;exact⟨_,rfl,r1⟩
theorem Zf {x y:V}{us:List Value}(r:bK [x,y] us):∃ u w',us=[u,w']∧bG x u∧bG y w':=by
 cases r with
 | cons r1 r2 =>
  cases r2 with
  | cons r3 r4=>cases r4;exact⟨_,_,rfl,r1,r3⟩
theorem Nu:fC X (.builtin "abs") (fun xs H Q=>∃ i,xs=[.int i]∧Q (.int (if i<0 then -i else i)) H):=by
 intro pins s σ H xs us Q I r h;obtain⟨i,rfl,q⟩:=h;obtain⟨u,rfl,t,rfl⟩:=gH r;exact call_abs_int fun u tk=>⟨.int (if i<0 then -i else i),H,I.tok _,⟨_,rfl⟩,q⟩
end
structure Dx (h:Heap)(x dx C:Addr)(mA:Str->Option Value):Prop where
 obj:h.get? x=some (ik C dx)
 ns:h.Ns1 dx mA
 ne:dx≠x
theorem Ku {h:Heap}{dx:Addr}{mA:Str->Option Value}(n:h.Ns1 dx mA):∃ od,h.get? dx=some od∧∀ name,mm name od=some (mA name):=by
 obtain⟨o,es,ep,ho,hd,hk,_,hm⟩:=n;refine⟨o,ho,fun name=>?_⟩;have e:=hm name;unfold nsFind findBy at e;rw[<- Array.find?_toList] at e;unfold mm;rw[hd]
 dsimp only
 split
 ·rename_i y q
  rw[q] at e;exact congrArg some e
 ·rename_i q
  rw[q] at e;have a:es.toList.any (·.refKey)=false:=by
   rw[List.any_eq_false];intro y hy;obtain⟨z,t,hkey⟩:=hk y (Array.mem_toList_iff.mp hy);simp[DictEntry.refKey,hkey]
  have a':¬ es.toList.any (·.refKey)=true:=by rw[a];exact aj
  rw[if_neg a'];exact congrArg some e
theorem Dx.look {h:Heap}{x dx C:Addr}{mA:Str->Option Value}(I:Dx h x dx C mA):∃ od,PySem.W.InstAt h x (ik C dx) C (some od)∧∀ name,mm name od=some (mA name) :=
 let ⟨od,ho,hl⟩:=Ku I.ns
 ⟨od,⟨I.obj,rfl,rfl,ho⟩,hl⟩
section
variable {prog:Program}{w:World}{A:Around}{E:Value->Shared->Prop}{s:Shared}{K:af}{x dx C f:Addr}{mA:Str->Option Value}{name:Str}{v:Value}
theorem Sf {expr:Bool}{Q:Value->Shared->Prop}(X:K.In s.heap)(I:Dx s.heap x dx C mA)(hg:jj K C name=true)(hh:j4 K C=true)
  (ha:cg K (.ref C) name=some none) (hv:mA name=some v) (hv':sf v=true) (h:Q v { s with toks:=s.toks+1 }) :
  wpAny (model prog w) A (getAttr (.ref x) name expr) Q E s:=by
 obtain⟨od,J,hl⟩:=I.look;exact PySem.W.get_value X J (l8 hg).1 (PySem.W.findObj_own hh ha rfl (by rw[hl,hv])) hv' h
theorem Po {pl:Sem Bool}{Q:Value×List Value->Shared->Prop}(X:K.In s.heap)(I:Dx s.heap x dx C mA)(hg:jj K C name=true)
  (hf:cg K (.ref C) name=some (some (.ref f))) (ht:fg K (.ref f)=true) (hv:mA name=none) (h:Q (.ref f,[.ref x]) s) :
  wpAny (model prog w) A (getMethod (.ref x) name pl) Q E s:=by
 obtain⟨od,J,hl⟩:=I.look;exact PySem.W.method_fn X J (l8 hg).1 (l8 hg).2 hf (beq_iff_eq.mp ht) (by show (mm name od).map (·.isSome)=some false;rw[hl,hv];rfl) h
theorem sQ {ns:List Str}{Q:Unit->Shared->Prop}(X:K.In s.heap)(I:Dx s.heap x dx C mA)
  (hs:cg K (.ref C) "__setattr__" = some (some (.builtin "object.__setattr__"))) (hp:k6 K C=true) (ht:om K C name=some none) (hh:j4 K C=true)
  (hw:rb mA ns) (hsz:ns.length<=sizeLine)
  (h:∀ h',Dx h' x dx C (fun y=>if y=name then some v else mA y)->Heap.SameBut dx s.heap h'->Q () { s with heap:=h',toks:=s.toks+2 }) :
  wpAny (model prog w) A (setAttr (.ref x) name v) Q E s:=by
 obtain⟨od,J,hl⟩:=I.look;refine PySem.W.set_plain X J hs (PySem.W.osa_open (s:={ s with toks:=s.toks+1 }) (r:=none) X J hp ht fun b=>?_);obtain⟨cd,hc,hd'⟩:=PySem.W.any_some hh;have hx:s.heap.get? x=some ⟨.ref C,some dx,.plain,#[]⟩:=I.obj;refine wpAny_bind (wpAny_pure (wpAny_bind (wpAny_bind (wpAny_loadPart hx (wpAny_bind (uw (s:={ s with toks:=s.toks+1 }) (PySem.W.looks_clsIn X hc) ?_))))));rw[hd'];refine wpAny_pure (a:=some dx) (wpAny_bind (wpAny_pure (wpAny_bind ?_)));refine wpAny_nsSet1 (s:={ s with toks:=s.toks+1 }) I.ns fun h' hn2 hs2=>?_
 obtain⟨oD,esD,epD,hoD,hdD,hcD⟩:=hn2.count (PySem.Within.cons name v hw);refine wpAny_bind (wpAny_lookBehind hoD (by rw[hdD];exact pastItsLine_dict (az hcD (by rw[av];omega))) ?_);exact wpAny_pure (h _ ⟨(hs2.2 _ (Ne.symm I.ne)).trans I.obj,hn2,I.ne⟩ hs2)
theorem Np {R:Result->Shared->Prop}{vs:List Value}{kw:List (Str×Value)}(X:K.In s.heap)(hm:l0 K C=true)
  (hi:cg K (.ref C) "__init__" = some (some (.ref f))) (hf:PySem.W.typeIn K (.ref f)=some (.type "function"))
  (h:codeAny (model prog w) (A.under (.builtin "type.__call__" ⟨.ref C::vs,kw⟩)) (.call (.ref f) ⟨.ref (s.heap.objs.size+1)::vs,kw⟩) (PySem.W.InitBack (s.heap.objs.size+1) R)
   { s with heap:=(s.heap.push gd).push (ik C s.heap.objs.size) }) :
  codeAny (model prog w) A (.call (.ref C) ⟨vs,kw⟩) R s:=by
 obtain⟨hh,g,d,t,os⟩:=s;exact PySem.W.make_core (PySem.W.makes_of X hm) (PySem.W.looks_findIn X hi) (fun self=>PySem.W.bind_fn X self hf) (.inl rfl) h
end
def eF (f:Str)(v:V):List (Str×V)->List (Str×V)
 | []=>[(f,v)]
 | (g,x)::r=>if g=f then (g,v)::r else (g,x)::eF f v r
theorem cY (f g:Str)(v:V):∀ fs:List (Str×V),(eF f v fs).lookup g=if g=f then some v else fs.lookup g
 | []=>by
  show j8 g [(f,v)]=_;by_cases h:g=f
  ·have hb:(g==f)=true:=beq_iff_eq.mpr h
   simp only [j8,hb,if_pos h]
  ·have hb:(g==f)=false:=beq_eq_false_iff_ne.mpr h
   simp only [j8,hb,if_neg h]
 | (k,x)::r=>by
  have ih:=cY f g v r;rw[show eF f v ((k,x)::r)=(if k=f then (k,v)::r else (k,x)::eF f v r) from rfl];by_cases hk:k=f
  ·rw[if_pos hk]
   by_cases h:g=k
   ·have hb:(g==k)=true:=beq_iff_eq.mpr h
    simp only [j8,hb,if_pos (h.trans hk)]
   ·have hb:(g==k)=false:=beq_eq_false_iff_ne.mpr h
    simp only [j8,hb,if_neg (fun e:g=f=>h (e.trans hk.symm))]
  ·rw[if_neg hk]
   by_cases h:g=k
   ·have hb:(g==k)=true:=beq_iff_eq.mpr h
    simp only [j8,hb,if_neg (fun e:g=f=>hk (h.symm.trans e))]
   ·have hb:(g==k)=false:=beq_eq_false_iff_ne.mpr h
    simp only [j8,hb];exact ih
theorem qN (f:Str)(v:V):∀ fs:List (Str×V),f∈(eF f v fs).map (·.1)∧∀ g,g∈fs.map (·.1)->g∈(eF f v fs).map (·.1)
 | []=>⟨by simp[eF],fun g h=>by simp at h⟩
 | (k,x)::r=>by
  obtain⟨i1,i2⟩:=qN f v r;rw[show eF f v ((k,x)::r)=(if k=f then (k,v)::r else (k,x)::eF f v r) from rfl];by_cases hk:k=f
  ·rw[if_pos hk]
   subst hk;exact⟨by simp,fun g h=>by simpa using h⟩
  ·rw[if_neg hk]
   refine⟨?_,fun g h=>?_⟩
   ·rw[au]
    exact am _ i1
   ·rw[au] at h ⊢
    rcases aw.mp h with e | e
    ·exact aw.mpr (.inl e)
    ·exact am _ (i2 g e)
theorem qY (f:Str)(v:V):∀ fs:List (Str×V),(eF f v fs).length<=fs.length+1
 | []=>by simp[eF]
 | (k,x)::r=>by
  have ih:=qY f v r;rw[show eF f v ((k,x)::r)=(if k=f then (k,v)::r else (k,x)::eF f v r) from rfl];by_cases hk:k=f
  ·rw[if_pos hk,av,av];omega
  ·rw[if_neg hk,av,av];omega
theorem jM.some_of {v:V}{o:Option Value}(r:jM (some v) o):∃ u,o=some u∧bG v u:=by
 cases o with
 | none=>exact (show False from r).elim
 | some u=>exact⟨u,rfl,r⟩
theorem jM.none_of {o:Option Value}(r:jM none o):o=none:=by
 cases o with
 | none=>rfl
 | some u=>exact (show False from r).elim
theorem Jk {v:V}{u:Value}(r:bG v u):sf u=true:=by
 cases v with
 | non=>cases (show u=Value.none from r);rfl
 | bl b=>cases (show u=Value.bool b from r);rfl
 | int i=>obtain⟨t,e⟩:=(show ∃ t,u=Value.int i t from r);cases e;rfl
 | str x=>obtain⟨t,e⟩:=(show ∃ t,u=Value.str x t from r);cases e;rfl
 | byt b=>obtain⟨t,e⟩:=(show ∃ t,u=Value.bytes b t from r);cases e;rfl
 | flt b=>obtain⟨t,e⟩:=(show ∃ t,u=Value.float b t from r);cases e;rfl
 | ref a=>cases (show u=Value.ref a from r);rfl
 | ty n=>cases (show u=Value.type n from r);rfl
section
variable {P:Program}{w:World}{H H':Hp}{h h':Heap}{a C dx:Addr}{fs fs':List (Str×V)}
theorem yL (hok:HOk P w H h)(e:H a=some (.ins C dx fs)):∃ mA,Dx h a dx C mA∧(∀ f,jM (fs.lookup f) (mA f))∧rb mA (fs.map (·.1))∧fs.length<=1000∧H dx=some (.own a):=by
 obtain⟨d,z,ne,ob,mA,n,r,q⟩:=(show dB P w H h a (.ins C dx fs) from hok a _ e);exact⟨mA,⟨ob,n,ne⟩,r,q,z,d⟩
end
structure Cls (K:af)(C:Addr):Prop where
 pg:jj K C Str.empty=true
 hd:j4 K C=true
 po:k6 K C=true
 sa:cg K (.ref C) "__setattr__" = some (some (.builtin "object.__setattr__"))
theorem Cls.get {K:af}{C:Addr}(c:Cls K C)(f:Str):jj K C f=true:=c.pg
def jH (K:af)(C:Addr)(f:Str):Prop:=cg K (.ref C) f=some none
theorem jH.taker {K:af}{C:Addr}{f:Str}(n:jH K C f):om K C f=some none:=by
 unfold om;rw[show cg K (.ref C) f=some none from n];rfl
structure Rv (K:af)(C:Addr)(m:Str)(f:Addr):Prop where
 at_:cg K (.ref C) m=some (some (.ref f))
 fn:fg K (.ref f)=true
 kp:cr K (.ref f)=true
section
variable {X:Cx}{pins:List (Addr×Obj)}{σ:St}{H:Hp}{s:Shared}{a C dx:Addr}{fs:List (Str×V)}{f:Str}{v:V}{A:Around}{E:Value->Shared->Prop}
theorem Fw {b:Bool}{Q:Value->Shared->Prop}(I:Inv X pins σ H s)(e:H a=some (.ins C dx fs))(c:Cls X.K C)(n:jH X.K C f)(l:fs.lookup f=some v)
  (h:∀ u s',Inv X pins σ H s'->bG v u->Q u s'):wpAny (model X.prog X.w) A (getAttr (.ref a) f b) Q E s:=by
 obtain⟨mA,O,r,_,_,_⟩:=yL I.hok e;obtain⟨u,hu,ru⟩:=jM.some_of (v:=v) (o:=mA f) (by rw[<- l];exact r f);exact Sf I.kIn O (c.get f) c.hd n hu (Jk ru) (h u _ (I.tok _) ru)
theorem vH {m:Str}{g:Addr}{pl:Sem Bool}{Q:Value×List Value->Shared->Prop}(I:Inv X pins σ H s)(e:H a=some (.ins C dx fs))(c:Cls X.K C)(k:Rv X.K C m g)(l:fs.lookup m=none)
  (h:Q (.ref g,[.ref a]) s):wpAny (model X.prog X.w) A (getMethod (.ref a) m pl) Q E s:=by
 obtain⟨mA,O,r,_,_,_⟩:=yL I.hok e;have hn:mA m=none:=jM.none_of (by rw[<- l];exact r m);exact Po I.kIn O (c.get m) k.at_ k.fn hn h
theorem Ez {y:V}{u:Value}{Q:Unit->Shared->Prop}(I:Inv X pins σ H s)(e:H a=some (.ins C dx fs))(c:Cls X.K C)(n:jH X.K C f)(hl:fs.length<1000)(ry:bG y u)
  (h:∀ s',Inv X pins σ (upd H a (.ins C dx (eF f y fs))) s'->Q () s'):wpAny (model X.prog X.w) A (setAttr (.ref a) f u) Q E s:=by
 obtain⟨mA,O,r,wi,_,ho⟩:=yL I.hok e;have hz:(fs.map (·.1)).length<=sizeLine:=by rw[aR,sizeLine_eq];omega
 refine sQ I.kIn O c.sa c.po n.taker c.hd wi hz fun h' O' sb=>h _ ?_
 have hd:∃ o,h'.get? dx=some o:=let ⟨o,_,_,e',_⟩:=O'.ns;⟨o,e'⟩
 refine I.write (x:=a) (e:=dx) (by rw[e];exact True.intro) (.inr ho) (fun b q hb z=>(sb.2 b hb).trans z) hd ?_;refine⟨by rw[aG O.ne];exact ho,?_,O.ne,O'.obj,_,O'.ns,fun g=>?_,fun g hg=>?_⟩
 ·have:=qY f y fs;omega
 ·show jM ((eF f y fs).lookup g) (if g=f then some u else mA g)
  rw[cY];by_cases q:g=f
  ·rw[if_pos q,if_pos q];exact ry
  ·rw[if_neg q,if_neg q];exact r g
 ·by_cases q:g=f
  ·rw[q];exact (qN f y fs).1
  ·refine (qN f y fs).2 g (wi g fun z=>hg ?_)
   show (if g=f then some u else mA g)=none;rw[if_neg q];exact z
theorem Inv.made (I:Inv X pins σ H s):Inv X pins σ (upd (upd H s.heap.objs.size (.own (s.heap.objs.size+1))) (s.heap.objs.size+1) (.ins C s.heap.objs.size []))
  { s with heap:=(s.heap.push gd).push (ik C s.heap.objs.size) }:=by
 have e1:(s.heap.push gd).get? s.heap.objs.size=some gd:=Heap.get?_push_size s.heap rfl;have e2:((s.heap.push gd).push (ik C s.heap.objs.size)).get? (s.heap.objs.size+1)=some (ik C s.heap.objs.size):=by
  have:=Heap.get?_push_size (s.heap.push gd) (o:=ik C s.heap.objs.size) rfl
  rwa [Heap.size_push] at this
 have e3:(s.heap.push gd).Ns s.heap.objs.size (fun _=>none):=⟨gd,#[],_,e1,rfl,(fun e he=>absurd he (by simp)),fun _=>rfl⟩;have I1:=I.laid (a:=s.heap.objs.size) (o:=.own (s.heap.objs.size+1)) (h':=s.heap.push gd) (t':=s.toks) (fun b u q=>Heap.get?_push_of_some _ q) (ah _) ⟨_,e1⟩;refine I1.laid (a:=s.heap.objs.size+1) (o:=.ins C s.heap.objs.size []) (t':=s.toks) (fun b u q=>Heap.get?_push_of_some _ q) (n8 (Heap.size_push _ _)) ?_;have ne:s.heap.objs.size≠s.heap.objs.size+1:=a9 (iu _);refine⟨by rw[aG ne,aD],b9 _,ne,e2,fun _=>none,(Heap.Ns1.of_empty e3).at fun o q=>Heap.get?_push_of_some _ q,fun _=>True.intro,fun y hy=>absurd rfl hy⟩
theorem Ta {prog:Program}{w:World}{env:Env}{e:Expr}{f:Str}{pos:Pos}{s:Shared}{Q:Value->Shared->Prop}(hb:attributeBase e f env (eval e env)=eval e env)
  (h:wpAny (model prog w) A (eval e env) (fun o s₁=>wpAny (model prog w) A (getAttr o f true) Q E s₁) E s):wpAny (model prog w) A (eval (.Attribute e f pos) env) Q E s :=
 Attribute_any_ h (by rw[arm_eval_Attribute,hb])
end
def aAL (K:af)(ta:TE)(f:Str):TE:=fun σ H Q=>ta σ H fun x H1=>∃ a C dx fs v,x = .ref a∧H1 a=some (.ins C dx fs)∧Cls K C∧jH K C f∧fs.lookup f=some v∧Q v H1
def Zp (K:af)(ta tv:TE)(f:Str):TS:=fun D σ H=>tv σ H fun y H1=>ta σ H1 fun x H2=>∃ a C dx fs,x = .ref a∧H2 a=some (.ins C dx fs)∧Cls K C∧jH K C f∧fs.length<1000 ∧
 D.nx σ (upd H2 a (.ins C dx (eF f y fs)))
section
variable {X:Cx}{o e value:Expr}{f:Str}{pos pos' tpos:Pos}{ta tv:TE}
theorem bL (he:PE X e ta)(hb:attributeBase e f X.env (eval e X.env)=eval e X.env):PE X (.Attribute e f pos) (aAL X.K ta f):=by
 intro pins s σ H Q I h;refine Ta hb (thn (he pins s σ H _ I h) fun u s1 ⟨x,H1,I1,rx,a,C,dx,fs,v,ex,ea,c,n,l,q⟩=>?_);subst ex;obtain rfl:u=Value.ref a:=rx;exact Fw I1 ea c n l fun u' s2 I2 ru=>⟨v,H1,I2,ru,q⟩
theorem kX (ha:PE X o ta)(hv:PE X value tv)(hs:swapsWith value (some (.Attribute o f pos')) pos.line X.env=pure false):PS X (.Assign [.Attribute o f pos'] value pos) (Zp X.K ta tv f):=by
 intro pins s σ H D I h;refine plainObj_wpAny_Assign_Attribute (thn (hv pins s σ H _ I h) fun u s1 ⟨y,H1,I1,ry,q⟩=>thn (ha pins s1 σ H1 _ I1 q) fun ov s2 ⟨x,H2,I2,rx,a,C,dx,fs,ex,ea,c,n,l,q2⟩=>?_) hs;subst ex;obtain rfl:ov=Value.ref a:=rx;exact Ez I2 ea c n l ry fun s3 I3=>⟨σ,_,I3,q2⟩
end
section
variable {X:Cx}{pins:List (Addr×Obj)}{σ:St}{H:Hp}{s:Shared}{A:Around}{E:Value->Shared->Prop}{Q:Value->Shared->Prop}{c:Value}{b:Bool}
end
structure fT (k:Nat)(A:Around):Prop where
 hd:A.handled=none
 dp:A.depth+3*k+5<recursionLimit
 un:A.units+16*k+200<cLine
theorem fT.mono {j k:Nat}{A:Around}(r:fT k A)(h:j<=k):fT j A:=⟨r.hd,by have:=r.dp;omega,by have:=r.un;omega⟩
theorem fT.deeper {k:Nat}{A:Around}(r:fT (k+1) A)(env:Env):fT k (A.deeper env) :=
 ⟨r.hd,by have:=r.dp;show A.depth+1+3*k+5<_;omega,by have:=r.un;show A.units+3+16*k+200<_;omega⟩
theorem Ee {A:Around}{C:Addr}{us:List Value}{kw:List (Str×Value)}:(A.under (.builtin "type.__call__" ⟨.ref C::us,kw⟩)).depth=A.depth+1:=by
 first | rfl | simp[Around.under,Code.weight,Code.isCreation,Code.isGuard,Code.isCaller,Code.frames,Code.isFrame,guardIds]
theorem Er {A:Around}{C:Addr}{us:List Value}{kw:List (Str×Value)}:(A.under (.builtin "type.__call__" ⟨.ref C::us,kw⟩)).units=A.units+1:=by
 first | rfl | simp[Around.under,Code.cUnits,Code.frames,Code.isFrame]
theorem fT.make {k:Nat}{A:Around}(r:fT (k+1) A)(C:Addr)(us:List Value)(kw:List (Str×Value)):fT k (A.under (.builtin "type.__call__" ⟨.ref C::us,kw⟩)) :=
 ⟨r.hd,by have:=r.dp;rw[Ee];omega,by have:=r.un;rw[Er];omega⟩
theorem fT.depth {k:Nat}{A:Around}(r:fT k A):A.depth<recursionLimit:=by have:=r.dp;omega
theorem fT.units {k:Nat}{A:Around}(r:fT k A):A.units+64<cLine:=by have:=r.un;omega
def Sb:TA:=fun _ H Q=>Q [] H
def xG (ta:TE)(tr:TA):TA:=fun σ H Q=>ta σ H fun x H1=>tr σ H1 fun xs H2=>Q (x::xs) H2
section
variable {X:Cx}{e:Expr}{es:List Expr}{te:TE}{t:TA}{pos:Pos}
theorem aC:PA X [] Sb:=fun _ _ _ _ H Q I h=>Calls.spliced_nil ⟨[],H,I,.nil,h⟩
theorem aA (ha:PE X e te)(hr:PA X es t)(hs:starEach (e::es) X.env=(false,eval e X.env)::starEach es X.env:=by rfl):PA X (e::es) (xG te t):=by
 intro pos pins s σ H Q I h;rw[hs];show wpAny _ _ (spliced ((false,eval e X.env)::backTo pos (starEach es X.env))) _ _ s;refine Calls.spliced_cons (thn (ha pins s σ H _ I h) fun u s1 ⟨x,H1,I1,r1,q1⟩=>?_);exact thn (hr pos pins s1 σ H1 _ I1 q1) fun us s2 ⟨xs,H2,I2,r2,q2⟩=>⟨x::xs,H2,I2,.cons r1 r2,q2⟩
def Zc (t:TA):TE:=fun σ H Q=>t σ H fun xs H1=>xs.length<=sizeLine∧∀ p,H1 p=none->Q (.ref p) (upd H1 p (.tup xs))
def aAD (t:TA):TE:=fun σ H Q=>t σ H fun xs H1=>xs.length<=sizeLine∧∀ p,H1 p=none->Q (.ref p) (upd H1 p (.lst xs))
theorem lI {x1}(h:PA X es t):PE X (.Tuple es x1 pos) (Zc t):=by
 intro pins s σ H Q I hq;refine wpAny_Tuple_spliced (thn (h pos pins s σ H _ I hq) fun us s1 ⟨xs,H1,I1,r,z,q⟩=>⟨by rw[<- r.length];exact z,?_⟩);have hf:H1 s1.heap.objs.size=none:=I1.hok.fresh (ah _);refine⟨.ref s1.heap.objs.size,upd H1 s1.heap.objs.size (.tup xs),I1.laid (t':=s1.toks) (fun b u e=>Heap.get?_push_of_some _ e) (ah _) ?_,rfl,q _ hf⟩;exact⟨z,us,r,⟨_,Heap.get?_push_size _ rfl,rfl,_,rfl⟩⟩
theorem dF (h:PA X es t):PE X (.List es pos) (aAD t):=by
 intro pins s σ H Q I hq;refine wpAny_List_spliced (thn (h pos pins s σ H _ I hq) fun us s1 ⟨xs,H1,I1,r,z,q⟩=>⟨by rw[<- r.length];exact z,?_⟩);have hf:H1 s1.heap.objs.size=none:=I1.hok.fresh (ah _);refine⟨.ref s1.heap.objs.size,upd H1 s1.heap.objs.size (.lst xs),I1.laid (t':=s1.toks) (fun b u e=>Heap.get?_push_of_some _ e) (ah _) ?_,rfl,q _ hf⟩;exact⟨z,us,0,r,Heap.get?_push_size _ rfl⟩
end
abbrev Sp:=List V->Hp->VK->XK->Prop
abbrev CXT:=List Env->Hp->Shared->XK->Value->Shared->Prop
structure Fp (P:Program)(w:World)(K:af)(mg:Str->Option Value)(base:Heap)(A:Around)(outer:List Env)(s:Shared)(H:Hp):Prop where
 frames:A.frames=some outer
 mod:Mod K mg base
 bs:∀ b o,base.get? b=some o->s.heap.get? b=some o∧H b=none
 bsz:base.objs.size<=s.heap.objs.size
 funs:s.heap.FunFrames base outer
 frf:∀ b∈frs outer,H b=none
 hok:HOk P w H s.heap
 bare:AllBare s.gens
def CE (outer:List Env)(P:Program)(w:World)(H:Hp)(s:Shared)(Q:VK)(u:Value)(s':Shared):Prop :=
 ∃ v H',s'.os=s.os∧AllBare s'.gens∧Un (frs outer) [] H H' s.heap s'.heap∧HOk P w H' s'.heap∧bG v u∧Q v H'
def CR (CX:CXT)(outer:List Env)(P:Program)(w:World)(H:Hp)(s:Shared)(Q:VK)(E:XK)(r:Result)(s':Shared):Prop :=
 match r with
 | .ok (.ret u)=>CE outer P w H s Q u s'
 | .ok _=>False
 | .error e=>CX outer H s E e s'
structure bN (P:Program)(w:World)(K:af)(mg:Str->Option Value)(base:Heap)(CX:CXT)(k:Nat)(f:Addr)(fd:FuncData)(ps:List Str)(sp:Sp):Prop where
 len:∀ vs H Q E,sp vs H Q E->vs.length=ps.length
 run:∀ (A:Around) (outer:List Env) (s:Shared) (H:Hp) (args:Args) (us:List Value) (vs:List V) (Q:VK) (E:XK),fT k A->Fp P w K mg base A outer s H->BindsTo s fd args (ps.zip us)->bK vs us->sp vs H Q E ->
  codeAny (model P w) A (.call (.ref f) args) (CR CX outer P w H s Q E) s
theorem Fp.make {P:Program}{w:World}{K:af}{mg:Str->Option Value}{base:Heap}{A:Around}{outer:List Env}{s:Shared}{H:Hp}(e:Fp P w K mg base A outer s H)(C:Addr)(us:List Value)(kw:List (Str×Value)) :
 Fp P w K mg base (A.under (.builtin "type.__call__" ⟨.ref C::us,kw⟩)) outer s H:=⟨by first | exact e.frames | (simpa [Around.under,Code.envs,Code.isFrame,pushEnvs] using e.frames),e.mod,e.bs,e.bsz,e.funs,e.frf,e.hok,e.bare⟩
section
variable {X:Cx}{pins:List (Addr×Obj)}{σ:St}{H:Hp}{s s':Shared}
theorem Inv.env0 (I:Inv X pins σ H s):Fp X.prog X.w X.K X.mg X.base X.A X.stack s H :=
 ⟨I.ok.frames,I.ok.mod,I.bs,az I.ok.bsz I.sz,I.stack,I.stkFree,I.hok,I.bare⟩
theorem Inv.after {Q:VK}{u:Value}(I:Inv X pins σ H s)(h:CE X.stack X.prog X.w H s Q u s'):EP X pins σ Q u s':=by
 obtain⟨v,H',os,bare,un,hok,r,q⟩:=h;obtain⟨hh,g,d,t,os'⟩:=s';obtain rfl:os'=s.os:=os;exact⟨v,H',I.call (h':=hh) (g':=g) (d':=d) (t':=t) (ch:=[]) un hok bare (fun b z=>absurd z (by simp)),r,q⟩
end
def Tq (sp:Sp)(dvs:List V)(E:XK)(t:TA):TE:=fun σ H Q=>t σ H fun vs H1=>sp (vs++dvs) H1 Q E
def Gr (C:Addr)(m:Str)(sp:Sp)(dvs:List V)(E:XK)(ta:TE)(t:TA):TE:=fun σ H Q=>ta σ H fun x H1=>∃ a dx fs,x = .ref a∧H1 a=some (.ins C dx fs)∧fs.lookup m=none ∧
 t σ H1 fun vs H2=>sp (x::(vs++dvs)) H2 Q E
def Tx (C:Addr)(sp:Sp)(dvs:List V)(E:XK)(t:TA):TE:=fun σ H Q=>t σ H fun vs H1=>∀ x dx,H1 x=none->H1 dx=none->dx≠x ->
 sp (.ref x::(vs++dvs)) (upd (upd H1 dx (.own x)) x (.ins C dx [])) (fun v H2=>v = .non∧Q (.ref x) H2) E
def jQ (K:af)(fd:FuncData)(ps:List Str)(ds:List Value):Prop :=
 ∀ (s:Shared) (us:List Value),K.In s.heap->(us++ds).length=ps.length->BindsTo s fd ⟨us,[]⟩ (ps.zip (us++ds))
theorem jQ.all {K:af}{fd:FuncData}{ps:List Str}(h:∀ us:List Value,us.length=ps.length->bindArgs fd ⟨us,[]⟩=pure (ps.zip us)):jQ K fd ps []:=fun s us _ hl=>by
 rw[du] at hl ⊢;exact .of_eq (h us hl)
def hX (CX:CXT)(X:Cx)(E:XK):Prop:=∀ (pins:List (Addr×Obj)) (σ:St) (H:Hp) (s:Shared) (e:Value) (s':Shared),Inv X pins σ H s->CX X.stack H s E e s'->X.xe e s'
section
variable {X:Cx}{CX:CXT}{k:Nat}{f C:Addr}{fd:FuncData}{ps:List Str}{sp:Sp}{dvs:List V}{ds:List Value}{E:XK}{x m:Str}{p pos apos:Pos}{e o:Expr}{es:List Expr}{ta:TE}{t:TA}
theorem Gc {pins:List (Addr×Obj)}{σ:St}{H:Hp}{s:Shared}{Q:VK}{us:List Value}{vs:List V}(F:bN X.prog X.w X.K X.mg X.base CX k f fd ps sp)(hr:fT k X.A)(hb:jQ X.K fd ps ds)(hd:bK dvs ds)(hx:hX CX X E)
  (I:Inv X pins σ H s) (r:bK vs us) (h:sp (vs++dvs) H Q E):wpAny (model X.prog X.w) X.A (call (.ref f) us) (EP X pins σ Q) X.xe s:=by
 have r2:bK (vs++dvs) (us++ds):=r.append hd;have hl:(us++ds).length=ps.length:=by rw[<- r2.length];exact F.len _ _ _ _ h
 refine wpAny_call (codeAny_mono (F.run X.A X.stack s H ⟨us,[]⟩ (us++ds) (vs++dvs) Q E hr I.env0 (hb s us I.kIn hl) r2 h) fun r s' hq=>?_)
 cases r with
 | error e=>exact hx pins σ H s e s' I hq
 | ok fl =>
  cases fl with
  | ret u=>exact I.after hq
  | next=>exact False.elim hq
  | brk=>exact False.elim hq
  | cont=>exact False.elim hq
theorem Ry (F:bN X.prog X.w X.K X.mg X.base CX k f fd ps sp)(hr:fT k X.A)(hg:Gl X x)(hm:X.mg x=some (.ref f))(hk:cr X.K (.ref f)=true)(hb:jQ X.K fd ps ds)(hd:bK dvs ds)(hx:hX CX X E)
  (ha:PA X (e::es) t) (hdb:(x==("__debug__" : Str))=false:=by decide) (he:starEach (e::es) X.env=(false,eval e X.env)::starEach es X.env:=by rfl) (hpl:(backTo pos (starEach es X.env)).any (·.1)=false:=by rfl) :
  PE X (.Call (.Name x p) (e::es) [] pos) (Tq sp dvs E t):=by
 intro pins s σ H Q I h;refine wpAny_Call_Name_kw (sS I hg hm ?_ hdb);refine mn (h₀:=X.base) I.ok.mod.kin hk (thn (ha pos pins s σ H _ I h) fun us s1 ⟨vs,H1,I1,r,q⟩=>⟨I1.kIn,?_⟩) he hpl;exact Gc F hr hb hd hx I1 r q
theorem Rz {pl:Sem Bool}(he:PE X o ta)(c:Cls X.K C)(hm:Rv X.K C m f)(F:bN X.prog X.w X.K X.mg X.base CX k f fd ps sp)(hr:fT k X.A)(hb:jQ X.K fd ps ds)(hd:bK dvs ds)(hx:hX CX X E)(ha:PA X (e::es) t)
  (hst:starEach (e::es) X.env=(false,eval e X.env)::starEach es X.env:=by rfl) (hpl:(backTo pos (starEach es X.env)).any (·.1)=false:=by rfl)
  (ht:eval (.Call (.Attribute o m apos) (e::es) [] pos) X.env=(do
   let ov <- eval o X.env
   standAt apos.atName
   let (f,first) <- holding [ov] (getMethod ov m pl)
   callWith pos f first (backTo pos (starEach (e::es) X.env)) (backToKw pos (keywordEach [] X.env))):=by rfl) :
  PE X (.Call (.Attribute o m apos) (e::es) [] pos) (Gr C m sp dvs E ta t):=by
 intro pins s σ H Q I h;refine o0 (pl:=pl) (thn (he pins s σ H _ I h) fun u s1 ⟨x,H1,I1,rx,a,dx,fs,ex,ea,l,q⟩=>?_) ht;subst ex;obtain rfl:u=Value.ref a:=rx;refine vH I1 ea c hm l ?_;refine mn (first:=[.ref a]) (h₀:=X.base) I.ok.mod.kin hm.kp (thn (ha pos pins s1 σ H1 _ I1 q) fun us s2 ⟨vs,H2,I2,r,q2⟩=>⟨I2.kIn,?_⟩) hst hpl;exact Gc (us:=.ref a::us) (vs:=.ref a::vs) F hr hb hd hx I2 (.cons rfl r) q2
theorem Ow {pl:Sem Bool}(he:PE X o ta)(c:Cls X.K C)(hm:Rv X.K C m f)(F:bN X.prog X.w X.K X.mg X.base CX k f fd ps sp)(hr:fT k X.A)(hb:jQ X.K fd ps ds)(hd:bK dvs ds)(hx:hX CX X E)
  (ht:eval (.Call (.Attribute o m apos) [] [] pos) X.env=(do
   let ov <- eval o X.env
   standAt apos.atName
   let (f,first) <- holding [ov] (getMethod ov m pl)
   callWith pos f first (backTo pos (starEach [] X.env)) (backToKw pos (keywordEach [] X.env))):=by rfl) :
  PE X (.Call (.Attribute o m apos) [] [] pos) (Gr C m sp dvs E ta Sb):=by
 intro pins s σ H Q I h;refine o0 (pl:=pl) (thn (he pins s σ H _ I h) fun u s1 ⟨x,H1,I1,rx,a,dx,fs,ex,ea,l,q⟩=>?_) ht;subst ex;obtain rfl:u=Value.ref a:=rx;refine vH I1 ea c hm l ?_;exact PySem.W.callWith_K0 (first:=[.ref a]) I1.kIn hm.kp (Gc (us:=[.ref a]) (vs:=[.ref a]) F hr hb hd hx I1 (.cons rfl .nil) q)
structure Mk (K:af)(C f:Addr):Prop where
 makes:l0 K C=true
 init:cg K (.ref C) "__init__" = some (some (.ref f))
 fn:fg K (.ref f)=true
 kp:cr K (.ref C)=true
theorem Nw {pins:List (Addr×Obj)}{σ:St}{H:Hp}{s:Shared}{Q:VK}{us:List Value}{vs:List V}(M:Mk X.K C f)(F:bN X.prog X.w X.K X.mg X.base CX k f fd ps sp)(hr:fT (k+1) X.A)(hb:jQ X.K fd ps ds)(hd:bK dvs ds)
  (hx:hX CX X E) (I:Inv X pins σ H s) (r:bK vs us)
  (h:∀ x dx,H x=none->H dx=none->dx≠x->sp (.ref x::(vs++dvs)) (upd (upd H dx (.own x)) x (.ins C dx [])) (fun v H2=>v = .non∧Q (.ref x) H2) E) :
  wpAny (model X.prog X.w) X.A (call (.ref C) us) (EP X pins σ Q) X.xe s:=by
 have hq:=h (s.heap.objs.size+1) s.heap.objs.size (I.hok.fresh (jn _)) (I.hok.fresh (ah _)) (a9 (iu _));have I2:=Inv.made (C:=C) I;have r2:bK (V.ref (s.heap.objs.size+1)::(vs++dvs)) (Value.ref (s.heap.objs.size+1)::(us++ds)):=.cons rfl (r.append hd);have hl:(Value.ref (s.heap.objs.size+1)::us++ds).length=ps.length:=by
  have e:=r2.length;rw[F.len _ _ _ _ hq] at e;exact e.symm
 refine wpAny_call (Np (f:=f) I.kIn M.makes M.init (beq_iff_eq.mp M.fn) (codeAny_mono (F.run _ X.stack _ _ ⟨Value.ref (s.heap.objs.size+1)::us,[]⟩ (Value.ref (s.heap.objs.size+1)::(us++ds)) _ _ E (hr.make C us [])
  (I2.env0.make C us []) (hb _ (Value.ref (s.heap.objs.size+1)::us) I2.kIn hl) r2 hq) fun r s' hq'=>?_))
 cases r with
 | error e=>exact hx pins σ _ _ e s' I2 hq'
 | ok fl =>
  cases fl with
  | ret u =>
   obtain⟨v,H',I3,rv,ev,q3⟩:=I2.after hq';subst ev;exact⟨rv,⟨V.ref (s.heap.objs.size+1),H',I3,rfl,q3⟩⟩
  | next=>exact False.elim hq'
  | brk=>exact False.elim hq'
  | cont=>exact False.elim hq'
theorem Sv (M:Mk X.K C f)(F:bN X.prog X.w X.K X.mg X.base CX k f fd ps sp)(hr:fT (k+1) X.A)(hg:Gl X x)(hm:X.mg x=some (.ref C))(hb:jQ X.K fd ps ds)(hd:bK dvs ds)(hx:hX CX X E)
  (ha:PA X (e::es) t) (hdb:(x==("__debug__" : Str))=false:=by decide) (he:starEach (e::es) X.env=(false,eval e X.env)::starEach es X.env:=by rfl) (hpl:(backTo pos (starEach es X.env)).any (·.1)=false:=by rfl) :
  PE X (.Call (.Name x p) (e::es) [] pos) (Tx C sp dvs E t):=by
 intro pins s σ H Q I h;refine wpAny_Call_Name_kw (sS I hg hm ?_ hdb);refine mn (h₀:=X.base) I.ok.mod.kin M.kp (thn (ha pos pins s σ H _ I h) fun us s1 ⟨vs,H1,I1,r,q⟩=>⟨I1.kIn,?_⟩) he hpl;exact Nw M F hr hb hd hx I1 r q
end
section
variable {X:Cx}{CX:CXT}{k:Nat}{f C:Addr}{fd:FuncData}{ps ks:List Str}{sp:Sp}{E:XK}{x m:Str}{p pos apos kpos:Pos}{e o:Expr}{es:List Expr}{kws:List Keyword}{te ta:TE}{t tk:TA}{nm:Option Str}
variable {g:List Value->List Value->List Value}{gV:List V->List V->List V}
end
structure aP (N P:List Str)(sc:Scope):Prop where
 kind:sc.kind = .function
 co:sc.isCoroutine=false
 gen:sc.isGenerator=false
 nd:N.Nodup
 pre:N.take P.length=P
 par:∀ x∈P,sc.names.lookup x=some .local∨sc.names.lookup x=some .cell
 nofree:∀ y∈sc.names,y.2≠.free
theorem xZ {kindOf:Str->Option NameKind}{x:Str}:∀ {binds:List (Str×Value)} {m:Str->Option Value},(∀ v,(x,v)∉binds)->bindL kindOf binds m x=m x
 | [],_,_=>rfl
 | (n,v)::r,m,h=>by
  unfold bindL;rw[xZ fun w hw=>h w (am _ hw)];split
  ·have:x≠n:=by rintro rfl;exact h v ar
   simp[this]
  ·rfl
theorem xE {kindOf:Str->Option NameKind}{x:Str}:∀ {binds:List (Str×Value)} {m:Str->Option Value},(∀ v,(x,v)∉binds)->bindC kindOf binds m x=m x
 | [],_,_=>rfl
 | (n,v)::r,m,h=>by
  unfold bindC;rw[xE fun w hw=>h w (am _ hw)];split
  ·rfl
  ·have:x≠n:=by rintro rfl;exact h v ar
   simp[this]
theorem yD {kindOf:Str->Option NameKind}{x:Str}{v:Value}:∀ {P:List Str} {vs:List Value} {i:Nat} {m:Str->Option Value},P.Nodup->P[i]?=some x->vs[i]?=some v->kindOf x=some .local ->
  bindL kindOf (P.zip vs) m x=some v
 | [],_,_,_,_,h,_,_=>by simp at h
 | _::_,[],_,_,_,_,h,_=>by simp at h
 | p::P,w::vs,0,m,nd,h1,h2,hk=>by
  simp at h1 h2;subst h1;subst h2;show bindL kindOf ((p,w)::P.zip vs) m p=_;unfold bindL;rw[xZ fun v hv=>(cy.mp nd).1 (oo hv).1,if_pos hk];simp
 | p::P,w::vs,i+1,m,nd,h1,h2,hk=>by
  show bindL kindOf ((p,w)::P.zip vs) m x=_;unfold bindL;exact yD (i:=i) (cy.mp nd).2 (by simpa using h1) (by simpa using h2) hk
theorem xX {kindOf:Str->Option NameKind}{x:Str}{v:Value}:∀ {P:List Str} {vs:List Value} {i:Nat} {m:Str->Option Value},P.Nodup->P[i]?=some x->vs[i]?=some v->kindOf x≠some .local ->
  bindC kindOf (P.zip vs) m x=some v
 | [],_,_,_,_,h,_,_=>by simp at h
 | _::_,[],_,_,_,_,h,_=>by simp at h
 | p::P,w::vs,0,m,nd,h1,h2,hk=>by
  simp at h1 h2;subst h1;subst h2;show bindC kindOf ((p,w)::P.zip vs) m p=_;unfold bindC;rw[xE fun v hv=>(cy.mp nd).1 (oo hv).1,if_neg hk];simp
 | p::P,w::vs,i+1,m,nd,h1,h2,hk=>by
  show bindC kindOf ((p,w)::P.zip vs) m x=_;unfold bindC;exact xX (i:=i) (cy.mp nd).2 (by simpa using h1) (by simpa using h2) hk
def nV (N:List Str)(vs:List V):St:=vs.map some++c7 (N.length-vs.length) none
def rW (CX:CXT)(P:Program)(w:World)(K:af)(mg:Str->Option Value)(base:Heap)(N:List Str)(qual:Str)(scope:Scope)(f:Addr)(cd:Value)(A:Around)(outer:List Env)(s:Shared)(H:Hp)(E:XK):Cx where
 prog:=P
 w:=w
 K:=K
 mg:=mg
 base:=base
 A:=A.deeper (envOfC qual scope s.heap.objs.size f cd)
 N:=N
 s₀:=s
 H₀:=H
 env:=envOfC qual scope s.heap.objs.size f cd
 outer:=outer
 stack:=envOfC qual scope s.heap.objs.size f cd::outer
 ex:=[]
 calm:=true
 fn:=fun _=>true
 pn:=[]
 xe:=fun e s'=>wpAny (model P w) (A.deeper (envOfC qual scope s.heap.objs.size f cd)) (leaving (envOfC qual scope s.heap.objs.size f cd) e) (fun _ s''=>CX outer H s E e s'') (fun e' s''=>CX outer H s E e' s'') s'
theorem Da {sc:Scope}{n:Nat}{x:Str}(h:sc.names.lookup x=some .cell):∃ c,(cellsFrom n sc.names []).lookup x=some c:=by
 have q:=n9 sc.names n [] (.inl h);exact kj.mp q
theorem Jl {CX:CXT}{P:Program}{w:World}{K:af}{mg:Str->Option Value}{base:Heap}{N ps:List Str}{qual:Str}{scope:Scope}{f:Addr}{cd:Value}{A:Around}{outer:List Env}{s s1:Shared}{H:Hp}{E:XK}{us:List Value}{vs:List V}
  (S:aP N ps scope) (hd:A.handled=none) (e0:Fp P w K mg base A outer s H) (hl:vs.length=ps.length) (r:bK vs us)
  (x:InCallC s s.heap.objs.size (bindL (envOfC qual scope s.heap.objs.size f cd).kindOf (ps.zip us) fun _=>none) (cellsFrom (s.heap.objs.size+1) scope.names []) (bindC (envOfC qual scope s.heap.objs.size f cd).kindOf (ps.zip us) fun _=>none) s1) :
  Inv (rW CX P w K mg base N qual scope f cd A outer s H E) [] (nV N vs) H s1:=by
 have hpl:ps.length<=N.length:=by have:=congrArg i7 S.pre;rw[b8] at this;omega
 obtain⟨h1,tk,rfl,hk⟩:=x.done;have noA:∀ b:Addr,b∉(rW CX P w K mg base N qual scope f cd A outer s H E).ex:=fun b z=>absurd (show b∈([]:List Addr) from z) (by simp)
 refine⟨⟨e0.mod,S.kind,rfl,rfl,ah _,fun y z c h1 h2=>?_,fun y hy=>?_,fun y c _ h=>?_,fun _=>hd,Around.frames_deeper e0.frames,.inr ⟨rfl,rfl⟩,fun b z=>absurd z (noA b),e0.bs,e0.bsz,fun b _ _=>noA b,fun b z=>absurd z (noA b),e0.funs,e0.frf⟩,
  rfl,e0.bare,Un.kept hk,⟨_,x.toInCall.ns,fun i y v h1 h2 h3=>?_⟩,fun y c h=>⟨_,x.cell y c h⟩,e0.hok.fresh (ah _),fun y c h=>?_,fun p hp=>absurd (show p∈([]:List (Addr×Obj)) from hp) (by simp),e0.hok.kept hk,?_⟩
 ·exact name_of_addr x.apart (ip h1) (ip h2)
 ·have hy:scope.names.lookup y=some .cell∨scope.names.lookup y=some .free:=hy
  rcases hy with hy | hy
  ·exact Da hy
  ·exact absurd rfl (S.nofree _ (ip hy))
 ·exact i6 (x.above y c (ip h))
 ·have hi:i<vs.length:=by
   unfold nV at h2;by_cases hi:i<vs.length
   ·exact hi
   ·rw[d7 (by simpa using hi)] at h2
    rw[List.getElem?_replicate] at h2;split at h2 <;> cases h2
  have ha:vs[i]?=some v:=by
   unfold nV at h2;rw[ej (by simpa using hi),ag] at h2
   cases e:vs[i]? with
   | none=>rw[e] at h2;cases h2
   | some a=>rw[e] at h2;cases h2;rfl
  obtain⟨u,hu,rv⟩:=r.get ha;have hp:ps[i]?=some y:=by
   rw[<- S.pre,fb (by omega)];exact h1
  have ndP:ps.Nodup:=by rw[<- S.pre];exact S.nd.sublist (m4 _ _)
  refine⟨u,rv,?_⟩;rcases S.par y (aq hp) with k | k
  ·exact .inl ⟨k,yD ndP hp hu k⟩
  ·obtain⟨c,e⟩:=Da (n:=s.heap.objs.size+1) k
   refine .inr ⟨.inl k,c,e,?_⟩;have q:=x.cell y c e;rw[xX ndP hp hu (by show scope.names.lookup y≠_;rw[k];decide)] at q;exact q
 ·exact e0.hok.fresh (i6 (x.above y c (ip h)))
 ·unfold nV
  show _=N.length;rw[ai,aR,o8];omega
theorem Tv {CX:CXT}{P:Program}{w:World}{K:af}{mg:Str->Option Value}{base:Heap}{k:Nat}{f:Addr}{name qual:Str}{params:Arguments}{body:List Stmt}{scope:Scope}{dV kV doc pm cdv ct oc:Value}{an od:Option Addr}
  {osl:Array (Option Value)} {N ps:List Str} {sp:Sp} (lk:K.lookup f=some ⟨oc,od,.func (dg name qual params body scope dV kV doc pm an cdv ct),osl⟩) (hcd:dh K cdv qual=true) (S:aP N ps scope)
  (len:∀ vs H Q E,sp vs H Q E->vs.length=ps.length)
  (hbody:∀ (A:Around) (outer:List Env) (s:Shared) (H:Hp) (vs:List V) (Q:VK) (E:XK),fT k (A.deeper (envOfC qual scope s.heap.objs.size f cdv))->sp vs H Q E ->
   ∃ t,PSs (rW CX P w K mg base N qual scope f cdv A outer s H E) body t∧t { nx:=fun _ H'=>Q .non H',rt:=Q } (nV N vs) H) :
  bN P w K mg base CX (k+1) f (dg name qual params body scope dV kV doc pm an cdv ct) ps sp:=by
 refine⟨len,fun A outer s H args us vs Q E hr e0 hb r hsp=>?_⟩;have hl:=len _ _ _ _ hsp;have KX:K.In s.heap:=e0.mod.kin.keeps fun b o e=>(e0.bs b o e).1
 have lim:s.heap.NoLimit:=e0.mod.nolimit.keeps fun b o e=>(e0.bs b o e).1
 have hkind:∀ y∈ps.zip us,scope.names.lookup y.1=some .local∨(scope.names.lookup y.1=some .cell∧((cellsFrom (s.heap.objs.size+1) scope.names []).lookup y.1).isSome=true):=fun ⟨n,v⟩ hy=>by
  rcases S.par n (oo hy).1 with q | q
  ·exact .inl q
  ·exact .inr ⟨q,n9 _ _ _ (.inl q)⟩
 refine codeAny_call_function hr.depth (KX _ _ lk) rfl S.co S.gen rfl (PySem.W.codeRec_of KX hcd) (hb _ _ _ _ ?_);refine wpAny_newFunctionEnv_cells S.kind hkind fun env he s1 x=>?_
 subst he;refine⟨lim.keeps x.toInCall.keep,codeAny_func ?_⟩;obtain⟨t,ht,hq⟩:=hbody A outer s H vs Q E (hr.deeper _) hsp;have I:Inv (rW CX P w K mg base N qual scope f cdv A outer s H E) [] (nV N vs) H s1:=Jl S hr.hd e0 hl r x;refine wpAny_mono (ht [] s1 (nV N vs) H _ I hq) (fun fl s' hs=>?_) fun e s' hs=>hs
 have fin:∀ {σ':St} {H':Hp} {v:V} {u:Value},Inv (rW CX P w K mg base N qual scope f cdv A outer s H E) [] σ' H' s'->bG v u->Q v H'->CE outer P w H s Q u s' :=
  fun {σ' H' v u} J rv q=>⟨v,H',J.os,J.bare,J.base,J.hok,rv,q⟩
 cases fl with
 | ret u =>
  obtain⟨v,σ',H',J,rv,q⟩:=hs;exact fin J rv q
 | next =>
  obtain⟨σ',H',J,q⟩:=hs;exact fin (v:=V.non) (u:=Value.none) J rfl q
 | brk =>
  obtain⟨_,_,_,q⟩:=hs;exact False.elim q
 | cont =>
  obtain⟨_,_,_,q⟩:=hs;exact False.elim q
section
variable {X:Cx}{x:Str}{p pos:Pos}{e:Expr}{es:List Expr}{t:TA}{id T:String}{r:List V->Hp->VK->Prop}
def tCB (r:List V->Hp->VK->Prop)(t:TA):TE:=fun σ H Q=>t σ H fun vs H1=>r vs H1 Q
theorem aO (hc:fC X (.builtin id) r)(hg:Gl X x)(hm:X.mg x=none)(hv:bootBuiltins x=some (.builtin id))(ha:PA X (e::es) t)(hn:x ≠ "__name__" := by decide)(hdb:(x==("__debug__" : Str))=false:=by decide)
  (he:starEach (e::es) X.env=(false,eval e X.env)::starEach es X.env:=by rfl) (hpl:(backTo pos (starEach es X.env)).any (·.1)=false:=by rfl):PE X (.Call (.Name x p) (e::es) [] pos) (tCB r t):=by
 intro pins s σ H Q I h;refine wpAny_Call_Name_kw (pM I hg hm hv ?_ hn hdb);exact PyProof.Rows.callWith_builtin1 (thn (ha pos pins s σ H _ I h) fun us s1 ⟨vs,H1,I1,r1,q1⟩=>hc pins s1 σ H1 vs us Q I1 r1 q1) he hpl
theorem dH (hc:fC X (.type T) r)(hg:Gl X x)(hm:X.mg x=none)(hv:bootBuiltins x=some (.type T))(ha:PA X (e::es) t)(hn:x ≠ "__name__" := by decide)(hdb:(x==("__debug__" : Str))=false:=by decide)
  (he:starEach (e::es) X.env=(false,eval e X.env)::starEach es X.env:=by rfl) (hpl:(backTo pos (starEach es X.env)).any (·.1)=false:=by rfl):PE X (.Call (.Name x p) (e::es) [] pos) (tCB r t):=by
 intro pins s σ H Q I h;refine wpAny_Call_Name_kw (pM I hg hm hv ?_ hn hdb);exact gt (thn (ha pos pins s σ H _ I h) fun us s1 ⟨vs,H1,I1,r1,q1⟩=>hc pins s1 σ H1 vs us Q I1 r1 q1) he hpl
end
end L2
namespace HT
open PySem PyProof.Rows
section
open PySem.SeqAt
open PySem.AutoSeq1 (wpAny_loadPart')
open PySem.MeetsSeq PySem.MeetsSeq2 PySem.MeetsSeq3
end
section
variable {prog:Program}{w:World}{A:Around}{E:Value->Shared->Prop}{s:Shared}
def sIx (n d:Nat):Option Int->Nat
 | none=>d
 | some v=>if v<0 then (v+(n:Int)).toNat else min v.toNat n
theorem gU (n d:Nat):sIx n d none=d:=rfl
theorem fH (n d k:Nat):sIx n d (some (k:Int))=min k n:=by
 show (if (k:Int)<0 then ((k:Int)+(n:Int)).toNat else min (k:Int).toNat n)=min k n;rw[if_neg (by omega),bv]
theorem tQ (n d:Nat)(hd:d<=n)(o:Option Int):sIx n d o<=n:=by
 cases o with
 | none=>exact hd
 | some v =>
  show (if v<0 then (v+(n:Int)).toNat else min v.toNat n)<=n;by_cases hv:v<0
  ·rw[if_pos hv];omega
  ·rw[if_neg hv];exact sh _ _
theorem Iq (v:Int)(n d:Nat):(if v<0 then max (v+(n:Int)) 0 else min v (n:Int))=((sIx n d (some v):Nat):Int):=by
 show (if v<0 then max (v+(n:Int)) 0 else min v (n:Int))=(((if v<0 then (v+(n:Int)).toNat else min v.toNat n):Nat):Int);by_cases hv:v<0
 ·simp only [if_pos hv];omega
 ·simp only [if_neg hv];omega
theorem Dy (lo hi:Option Int)(n:Nat):Builtin.Slice.sliceAdjust lo hi 1 (n:Int)=(((sIx n 0 lo:Nat):Int),((sIx n n hi:Nat):Int)):=by
 have h1:¬ ((1:Int)<0):=by omega
 unfold Builtin.Slice.sliceAdjust;simp only [h1,if_false];refine Prod.ext ?_ ?_
 ·cases lo with
  | none=>rfl
  | some v=>exact Iq v n 0
 ·cases hi with
  | none=>rfl
  | some v=>exact Iq v n n
theorem Eo (i j:Nat):Builtin.Slice.slicePlaces (i:Int) (j:Int) 1=j-i:=by
 unfold Builtin.Slice.slicePlaces;have h1:(1:Int)>0:=by omega
 simp only [h1,if_true,Int.ediv_one];split <;> omega
theorem uU {v:Value}{o:Option Int}{Q:Option Int->Shared->Prop}(p:IsPart v o)(h:Q o s):wpAny (model prog w) A (Builtin.Slice.slicePartIndex v) Q E s:=by
 cases p with
 | none=>exact slicePart_none h
 | int i t=>exact slicePart_int h
theorem qO {sl:Addr}{vl vu:Value}{lo hi:Option Int}{n:Nat}{Q:Int×Int×Nat->Shared->Prop}(hs:s.heap.IsSliceOf sl vl vu .none)(pl:IsPart vl lo)(pu:IsPart vu hi)
  (h:Q (((sIx n 0 lo:Nat):Int),1,sIx n n hi-sIx n 0 lo) s):wpAny (model prog w) A (Builtin.Slice.sliceApplied (.ref sl) (pure (n:Int))) Q E s:=by
 obtain⟨os,hos,hcs,hds⟩:=id hs;unfold Builtin.Slice.sliceApplied Builtin.Slice.sliceFields;refine wpAny_bind (wpAny_bind (wpAny_field hos hds (x:=vl) rfl (wpAny_bind (wpAny_field hos hds (x:=vu) rfl (wpAny_bind (wpAny_field hos hds (x:=.none) rfl (wpAny_pure ?_)))))));refine wpAny_bind (slicePart_none ?_);show wpAny _ _ (if ((1:Int)==0)=true then _ else _) _ _ s;rw[if_neg (by decide)];refine wpAny_bind (uU pl (wpAny_bind (uU pu (wpAny_bind (wpAny_pure ?_)))));show wpAny _ _ (match Builtin.Slice.sliceAdjust lo hi 1 (n:Int) with | (lo,hi)=>pure (lo,(1:Int),Builtin.Slice.slicePlaces lo hi 1)) _ _ s;rw[Dy lo hi n];show wpAny _ _ (pure (((sIx n 0 lo:Nat):Int),(1:Int),Builtin.Slice.slicePlaces ((sIx n 0 lo:Nat):Int) ((sIx n n hi:Nat):Int) 1)) _ _ s;rw[Eo];exact wpAny_pure h
theorem Pc (xs:Array Value)(i k:Nat):((bu k).filterMap fun (m:Nat)=>xs[((i:Int)+(m:Int)*1).toNat]?).toArray=((xs.toList.drop i).take k).toArray:=by
 have e:(fun (m:Nat)=>xs[((i:Int)+(m:Int)*1).toNat]?)=fun m=>xs[i+m]?:=by
  funext m
  have:((i:Int)+(m:Int)*1).toNat=i+m:=by omega
  rw[this]
 rw[e]
 have:=pick_run xs i k
 rw[List.filterMap_map] at this;have e2:((fun x=>xs[x]?)∘fun x=>i+x)=fun m=>xs[i+m]?:=rfl
 rw[e2] at this;rw[this]
theorem oF {t sl:Addr}{items:Array Value}{vl vu:Value}{lo hi:Option Int}{Q:Value->Shared->Prop}(ht:IsTup s.heap t items)(hs:s.heap.IsSliceOf sl vl vu .none)(pl:IsPart vl lo)(pu:IsPart vu hi)
  (hw:¬ (sIx items.size 0 lo=0∧sIx items.size items.size hi=items.size))
  (h:Q (.ref s.heap.objs.size) { s with heap:=s.heap.push { cls:=.type "tuple",data:=.seq ((items.toList.drop (sIx items.size 0 lo)).take (sIx items.size items.size hi-sIx items.size 0 lo)).toArray } })
  (hsz:items.size<=sizeLine):wpAny (model prog w) A (getItem (.ref t) (.ref sl)) Q E s:=by
 have htake:sizeOk (.seq ((items.toList.drop (sIx items.size 0 lo)).take (sIx items.size items.size hi-sIx items.size 0 lo)).toArray):=by
  show ((items.toList.drop (sIx items.size 0 lo)).take (sIx items.size items.size hi-sIx items.size 0 lo)).toArray.size<=sizeLine;rw[ap,b8,bf,bo];omega
 have hj:sIx items.size items.size hi<=items.size:=tQ _ _ (ah _) hi;obtain⟨os,hos,hcs,hds⟩:=id hs;have hTs:s.TypeIs (.ref sl) "slice" := ⟨os,hos,hcs⟩
 unfold getItem
 try with_reducible refine wpAny_holding ?_
 first | refine wpAny_bind (wpAny_pure ?_) | skip
 refine wpAny_bind (wpAny_sequenceKey ht.typeIs (by decide) ?_);refine wpAny_bind (wpAny_callSpecial?_slot (name:=Str.ofString "__getitem__") ht.typeIs jg
  (wpAny_call_entry jg ht.typeIs entry_tuple_getitem ?_ (args_tuple_getitem _ _)))
 show wpAny _ _ (Builtin.Tuple.tupleItemsOf (.ref t) >>= _) _ _ s;refine wpAny_bind (tupleItemsOf_ ht ?_);refine wpAny_bind (wpAny_typeOf hTs ?_);rw[if_pos (by decide)];refine wpAny_bind (qO hs pl pu ?_);have hno:¬ ((((sIx items.size 0 lo:Nat):Int)==0&&(1:Int)==1&&(sIx items.size items.size hi-sIx items.size 0 lo)==items.size)=true):=by
  intro q;rw[df,df] at q;have q1:((sIx items.size 0 lo:Nat):Int)=0:=eq_of_beq q.1.1;have q2:sIx items.size items.size hi-sIx items.size 0 lo=items.size:=eq_of_beq q.2;exact hw ⟨by omega,by omega⟩
 show wpAny _ _ (if (((sIx items.size 0 lo:Nat):Int)==0&&(1:Int)==1&&(sIx items.size items.size hi-sIx items.size 0 lo)==items.size)=true then _ else _) _ _ s;rw[if_neg hno,Pc]
 first
  | exact wpAny_bind (m:=Builtin.Tuple.tupleExact _) (wpAny_newObj_type (wpAny_pure ⟨_,rfl,wpAny_pure h⟩) htake)
  | exact wpAny_bind (m:=Builtin.Tuple.tupleExact _) (wpAny_newObj_type (wpAny_bind (wpAny_pure (wpAny_pure ⟨_,rfl,wpAny_pure h⟩))) htake)
  | exact wpAny_bind (wpAny_bind (m:=Builtin.Tuple.tupleExact _) (wpAny_newObj_type (wpAny_pure (wpAny_pure ⟨_,rfl,wpAny_pure h⟩)) htake))
  | exact wpAny_bind (wpAny_bind (m:=Builtin.Tuple.tupleExact _) (wpAny_newObj_type (wpAny_pure ⟨_,rfl,wpAny_pure h⟩) htake))
end
end HT
namespace L2
open PySem PySem.Spec PyProof.Rows
abbrev TO:=St->Hp->(Option Int->Hp->Prop)->Prop
def PO (X:Cx)(e:Option Expr)(t:TO):Prop :=
 ∀ (pins:List (Addr×Obj)) (s:Shared) (σ:St) (H:Hp) (Q:Option Int->Hp->Prop),Inv X pins σ H s->t σ H Q ->
  wpAny (model X.prog X.w) X.A (evalPart e X.env) (fun u s'=>∃ o H',Inv X pins σ H' s'∧IsPart u o∧Q o H') X.xe s
def Qp:TO:=fun _ H Q=>Q none H
def Ze (t:TE):TO:=fun σ H Q=>t σ H fun x H1=>∃ i,x = .int i∧Q (some i) H1
theorem Fs {ns:List Int}:∀ {us:List Value},bK (ns.map V.int) us->IntsAre us ns:=by
 induction ns with
 | nil=>intro us r;rw[ir] at r;cases r;exact .nil
 | cons n ns ih =>
  intro us r;rw[au] at r
  cases r with
  | cons r1 r2 =>
   obtain⟨t,e⟩:=r1;subst e;exact .cons n t (ih r2)
section
variable {X:Cx}{e:Expr}{te:TE}{lo hi:Option Expr}{tl th:TO}{pos p2:Pos}
theorem cW:PO X none Qp:=by
 intro pins s σ H Q I h;rw[evalPart_none];exact wpAny_pure ⟨none,H,I,.none,h⟩
theorem cC (h:PE X e te):PO X (some e) (Ze te):=by
 intro pins s σ H Q I hw;rw[evalPart_some];refine thn (h pins s σ H _ I hw) fun u s1 ⟨x,H1,I1,r1,q1⟩=>?_
 obtain⟨i,rfl,q⟩:=q1;obtain⟨t,rfl⟩:=r1;exact⟨some i,H1,I1,.int i t,q⟩
def SlR (X:Cx)(r:V->Option Int->Option Int->Hp->VK->Prop):Prop :=
 ∀ (pins:List (Addr×Obj)) (s:Shared) (σ:St) (H:Hp) (x:V) (v vl vu:Value) (lo hi:Option Int) (sl:Addr) (Q:VK),Inv X pins σ H s->bG x v->s.heap.IsSliceOf sl vl vu .none->IsPart vl lo->IsPart vu hi->r x lo hi H Q ->
  ∃ T id,typeLookup (.type T) "__getitem__" = pure (some (.builtin id))∧s.TypeIs v T∧wpAny (model X.prog X.w) X.A (getItem v (.ref sl)) (EP X pins σ Q) X.xe s
def tSl (r:V->Option Int->Option Int->Hp->VK->Prop)(te:TE)(tl th:TO):TE:=fun σ H Q=>te σ H fun x H1=>tl σ H1 fun l H2=>th σ H2 fun u H3=>r x l u H3 Q
theorem bU {r:V->Option Int->Option Int->Hp->VK->Prop}(hr:SlR X r)(he:PE X e te)(hl:PO X lo tl)(hu:PO X hi th):PE X (.Subscript e (.Slice lo hi none p2) pos) (tSl r te tl th):=by
 intro pins s σ H Q I h;refine Subscript_ (thn (he pins s σ H _ I h) fun v s1 ⟨x,H1,I1,r1,q1⟩=>?_);refine wpAny_Slice (thn (hl pins s1 σ H1 _ I1 q1) fun vl s2 ⟨l,H2,I2,pl,q2⟩=>thn (hu pins s2 σ H2 _ I2 q2) fun vu s3 ⟨u,H3,I3,pu,q3⟩=>?_);rw[evalPart_none];refine wpAny_pure ?_;have I4:Inv X pins σ H3 { s3 with heap:=s3.heap.push { cls:=.type "slice",data:=.fields #[vl,vu,.none] } }:=I3.kept (t':=s3.toks) fun b ob q=>Heap.get?_push_of_some _ q
 obtain⟨T,id,hT,ht,hg⟩:=hr pins { s3 with heap:=s3.heap.push { cls:=.type "slice",data:=.fields #[vl,vu,.none] } } σ H3 x v vl vu l u s3.heap.objs.size Q I4 r1 (Heap.IsSliceOf.new ..) pl pu q3
 show wpAny (model X.prog X.w) X.A (subscriptTail e (.Slice lo hi none p2) v (.ref s3.heap.objs.size)) (EP X pins σ Q) X.xe { s3 with heap:=s3.heap.push { cls:=.type "slice",data:=.fields #[vl,vu,.none] } }
 exact tail_any (ops:=[.ref s3.heap.objs.size,v]) ht hT hg (by with_unfolding_all rfl)
def iN (xs:List V)(lo hi:Option Int):List V:=(xs.drop (HT.sIx xs.length 0 lo)).take (HT.sIx xs.length xs.length hi-HT.sIx xs.length 0 lo)
theorem qZ (xs:List V)(lo hi:Option Int):(iN xs lo hi).length<=xs.length:=by
 unfold iN;rw[b8,bf];omega
def aAA (K:af):V->Option Int->Option Int->Hp->VK->Prop:=fun x lo hi H Q=>∃ a xs,x = .ref a∧SqT K H a xs ∧
 ¬ (HT.sIx xs.length 0 lo=0∧HT.sIx xs.length xs.length hi=xs.length)∧∀ p,H p=none->Q (.ref p) (upd H p (.tup (iN xs lo hi)))
theorem Ao:SlR X (aAA X.K):=by
 intro pins s σ H x v vl vu lo hi sl Q I rx hs pl pu h;obtain⟨a,xs,rfl,hx,hw,q⟩:=h;cases rx;obtain⟨its,r,ht,hz⟩:=I.tuple hx;have hlen:its.toArray.size=xs.length:=by rw[ap];exact r.length.symm
 refine⟨"tuple",_,jg.lookup,ht.typeIs,?_⟩
 refine HT.oF ht hs pl pu (by rw[hlen];exact hw) ?_ (by rw[hlen];exact hz);rw[hlen];refine⟨.ref s.heap.objs.size,_,I.laid (t':=s.toks) (o:=.tup (iN xs lo hi)) (fun b ob q=>Heap.get?_push_of_some _ q) (ah _) ?_,rfl,q _ (I.hok.fresh (ah _))⟩;exact⟨az (qZ xs lo hi) hz,_,(r.drop (HT.sIx xs.length 0 lo)).take (HT.sIx xs.length xs.length hi-HT.sIx xs.length 0 lo),IsTup.new _ _⟩
end
def ixN (n:Nat)(i:Int):Option Nat:=if 0<=i then (if i<n then some i.toNat else none) else if -(n:Int)<=i then some (i+n).toNat else none
def atI {α:Type}(xs:List α)(i:Int):Option α:=(ixN xs.length i).bind fun j=>xs[j]?
theorem Hf {n:Nat}{i:Int}{j:Nat}(h:ixN n i=some j):seqIndex? i n=some j∧j<n∧-(n:Int)<=i∧i<n:=by
 unfold ixN at h;by_cases h0:0<=i
 ·rw[if_pos h0] at h
  by_cases h1:i<n
  ·rw[if_pos h1] at h
   have e:i.toNat=j:=ay h;exact⟨by rw[seqIndex_of h0 h1,e],by omega,by omega,h1⟩
  ·rw[if_neg h1] at h;cases h
 ·rw[if_neg h0] at h
  by_cases h1 : -(n:Int)<=i
  ·rw[if_pos h1] at h
   have e:(i+n).toNat=j:=ay h;exact⟨by rw[seqIndex_neg (by omega) h1,e],by omega,h1,by omega⟩
  ·rw[if_neg h1] at h;cases h
theorem Ag {α:Type}{xs:List α}{i:Int}{v:α}(h:atI xs i=some v):∃ j,seqIndex? i xs.length=some j∧xs[j]?=some v∧j<xs.length∧-(xs.length:Int)<=i∧i<xs.length:=by
 unfold atI at h
 cases e:ixN xs.length i with
 | none=>rw[e] at h;cases h
 | some j =>
  rw[e] at h;obtain⟨h1,h2,h3,h4⟩:=Hf e;exact⟨j,h1,h,h2,h3,h4⟩
theorem bC {α:Type}{xs:List α}{j:Nat}{v:α}(h:xs[j]?=some v):atI xs (j:Int)=some v:=by
 have hj:j<xs.length:=(al.mp h).1;have e:ixN xs.length (j:Int)=some j:=by
  unfold ixN;rw[if_pos (by omega),if_pos (by omega)];simp
 unfold atI;rw[e];exact h
def Re (b:Expr):Prop:=∀ o i,subscripted b false o i=operate [o,i] (getItem o i)
def IxR (X:Cx)(r:R2):Prop :=
 ∀ (value slice:Expr) (pins:List (Addr×Obj)) (s:Shared) (σ:St) (H:Hp) (x y:V) (v u:Value) (Q:VK),Inv X pins σ H s->bG x v->bG y u->r x y H Q ->
  subscripted slice false v u=operate [v,u] (getItem v u)->wpAny (model X.prog X.w) X.A (subscriptTail value slice v u) (EP X pins σ Q) X.xe s
def MtR (X:Cx)(id:String)(r:V->List V->Hp->VK->Prop):Prop :=
 ∀ (pins:List (Addr×Obj)) (s:Shared) (σ:St) (H:Hp) (x:V) (xs:List V) (v:Value) (us:List Value) (Q:VK),Inv X pins σ H s->bG x v->bK xs us->r x xs H Q ->
  wpAny (model X.prog X.w) X.A (call (.builtin id) (v::us)) (EP X pins σ Q) X.xe s
section
variable {X:Cx}{a b:Expr}{ta tb:TE}{pos:Pos}
theorem cK {r:R2}(hr:IxR X r)(ha:PE X a ta)(hb:PE X b tb)(hs:Re b):PE X (.Subscript a b pos) (tOp r ta tb):=by
 intro pins s σ H Q I h;exact Subscript_ (Vq ha hb I h fun v u s2 x y H2 I2 rx ry q=>hr a b pins s2 σ H2 x y v u Q I2 rx ry q (hs _ _))
def Xx (K:af):R2:=fun x y H Q=>∃ p xs i v,x = .ref p∧y = .int i∧SqL K H p xs∧atI xs i=some v∧Q v H
def Zy (K:af):R2:=fun x y H Q=>∃ p xs i v,x = .ref p∧y = .int i∧SqT K H p xs∧atI xs i=some v∧Q v H
def Zx:R2:=fun x y H Q=>∃ z i c,x = .str z∧y = .int i∧z.length<=sizeLine∧atI z.cps.toList i=some c∧Q (.str ⟨#[c]⟩) H
theorem cF:IxR X (Xx X.K):=by
 intro value slice pins s σ H x y v u Q I rx ry h hs;obtain⟨p,xs,i,z,rfl,rfl,hq,he,q⟩:=h;cases rx;obtain⟨t,rfl⟩:=ry;obtain⟨its,r,pl,hz⟩:=I.list hq;obtain⟨j,h1,h2,h3,h4,h5⟩:=Ag he;obtain⟨w,ew,rw'⟩:=r.get h2;have hl:=r.length;have hn:=qQ;have fin:EP X pins σ Q w s:=⟨z,H,I,rw',q⟩;by_cases h0:0<=i
 ·have hj:i.toNat=j:=by
   rw[seqIndex_of h0 h5] at h1;exact ay h1
  exact item_listR pl.isList h0 (by omega) (by rw[hj];simpa using ew) fin hs
 ·have hj:(i+(its.toArray.size:Int)).toNat=j:=by
   rw[seqIndex_neg (by omega) h4] at h1;rw[ap,<- hl];exact ay h1
  exact subscriptTail_builtinR (x:=w) pl.isList.typeIs slot_list_getitem.lookup
   (wpAny_getItem_list_neg (Q:=fun r s'=>r=w∧EP X pins σ Q r s') pl.isList (by omega) (by rw[ap] <;> omega) (by omega) (by rw[hj];simpa using ew) ⟨rfl,fin⟩) hs
theorem jX:IxR X (Zy X.K):=by
 intro value slice pins s σ H x y v u Q I rx ry h hs;obtain⟨p,xs,i,z,rfl,rfl,hq,he,q⟩:=h;cases rx;obtain⟨t,rfl⟩:=ry;obtain⟨its,r,pl,hz⟩:=I.tuple hq;obtain⟨j,h1,h2,h3,h4,h5⟩:=Ag he;obtain⟨w,ew,rw'⟩:=r.get h2;have hl:=r.length;have hn:=qQ;have fin:EP X pins σ Q w s:=⟨z,H,I,rw',q⟩;exact subscriptTail_builtinR (x:=w) pl.typeIs slot_tuple_getitem.lookup
  (getItem_tuple (j:=j) (Q:=fun r s'=>r=w∧EP X pins σ Q r s') pl (by omega) (by omega) (by rw[ap,<- hl];exact h1) (by simpa using ew) ⟨rfl,fin⟩) hs
theorem Uw:IxR X Zx:=by
 intro value slice pins s σ H x y v u Q I rx ry h hs;obtain⟨z,i,c,rfl,rfl,hz,he,q⟩:=h;obtain⟨t,rfl⟩:=rx;obtain⟨t',rfl⟩:=ry;obtain⟨j,h1,h2,h3,h4,h5⟩:=Ag he;have hl:z.cps.toList.length=z.length:=by simp[Str.length]
 rw[hl] at h1 h4 h5;have hn:=qQ;exact tail_any (typeIs_str s z t) slot_str_getitem.lookup (getItem_str (c:=c) (by
  have e1:decide (i < -(2 ^ 63:Int))=false:=decide_eq_false (by omega);have e2:decide (i≥2 ^ 63)=false:=decide_eq_false (by omega);rw[e1,e2,jb]) (by rw[h1];simpa using h2) ⟨.str ⟨#[c]⟩,H,I.tok _,⟨_,rfl⟩,q⟩) hs
theorem Gi (its:List Value)(n j:Nat)(u:Value):Obj.mapSeq (·.setIfInBounds j u) { cls:=.type "list",data:=.seq its.toArray n } = { cls:=.type "list",data:=.seq (its.set j u).toArray n }:=by
 simp[Obj.mapSeq]
theorem Inv.lst {pins:List (Addr×Obj)}{σ:St}{H:Hp}{s:Shared}{p:Addr}{xs:List V}(I:Inv X pins σ H s)(h:H p=some (.lst xs)) :
  ∃ (its:List Value) (n:Nat),bK xs its∧s.heap.get? p=some { cls:=.type "list",data:=.seq its.toArray n }∧xs.length<=sizeLine:=by
 obtain⟨z,its,n,r,e⟩:=I.hok p _ h;exact⟨its,n,r,e,z⟩
theorem Inv.lstUpd {pins:List (Addr×Obj)}{σ:St}{H:Hp}{s:Shared}{p:Addr}{xs ys:List V}{its its':List Value}{n n':Nat}{f:Obj->Obj}(I:Inv X pins σ H s)(h:H p=some (.lst xs))
  (ho:s.heap.get? p=some { cls:=.type "list",data:=.seq its.toArray n }) (hf:f { cls:=.type "list",data:=.seq its.toArray n } = { cls:=.type "list",data:=.seq its'.toArray n' }) (r:bK ys its') (hz:ys.length<=sizeLine) (t:Nat) :
  Inv X pins σ (upd H p (.lst ys)) { s with heap:=s.heap.update p f,toks:=t }:=by
 have e:(s.heap.update p f).get? p=some { cls:=.type "list",data:=.seq its'.toArray n' }:=by
  rw[Heap.get?_update_self f ho (by rw[hf] <;> rfl),hf]
 refine I.write (x:=p) (e:=p) (by rw[h];trivial) (.inl rfl) (fun b u hb q=>(Heap.get?_update_other _ _ (Ne.symm hb)).trans q) ⟨_,e⟩ ?_;exact⟨hz,its',n',r,e⟩
def Yl:V->V->V->Hp->(Hp->Prop)->Prop:=fun o i v H Q=>∃ p xs k j,o = .ref p∧i = .int k∧H p=some (.lst xs)∧ixN xs.length k=some j∧Q (upd H p (.lst (xs.set j v)))
theorem Nh:Vk X Yl:=by
 intro pins s σ H o i v ov iv u Q I ro ri rv h;obtain⟨p,xs,k,j,rfl,rfl,hp,hj,q⟩:=h;cases ro;obtain⟨t,rfl⟩:=ri;obtain⟨its,n,r,ho,hz⟩:=I.lst hp;obtain⟨h1,h2,h3,h4⟩:=Hf hj;have hl:=r.length;have hn:=qQ;have I':Inv X pins σ (upd H p (.lst (xs.set j v))) { s with heap:=s.heap.update p (Obj.mapSeq (·.setIfInBounds j u)) } :=
  I.lstUpd hp ho (Gi its n j u) (r.set rv j) (by rw[tm];exact hz) s.toks
 by_cases h0:0<=k
 ·have hk:k.toNat=j:=by
   rw[seqIndex_of h0 h4] at h1;exact ay h1
  exact PySem.W.ki_setAt ho h0 (by omega) (by rw[ap,<- hl];exact h4) (by rw[hk];exact⟨_,I',q⟩)
 ·have hk:(k+(its.toArray.size:Int)).toNat=j:=by
   rw[seqIndex_neg (by omega) h3] at h1;rw[ap,<- hl];exact ay h1
  exact PySem.W.ki_setBack ho (by omega) (by rw[ap,<- hl];exact h3) (by omega) (by rw[hk];exact⟨_,I',q⟩)
theorem Ac (lo hi:Option Int)(n:Nat):(sliceBounds lo hi none n).1=((HT.sIx n 0 lo:Nat):Int)∧(sliceBounds lo hi none n).2.1=((HT.sIx n n hi:Nat):Int)∧(sliceBounds lo hi none n).2.2=1:=by
 refine⟨?_,?_,rfl⟩
 ·cases lo with
  | none=>simp[sliceBounds,HT.sIx]
  | some i =>
   simp only [sliceBounds,HT.sIx,si,show (1:Int)>0 by decide,if_true];by_cases h:i<0
   ·simp only [h,if_true] <;> omega
   ·simp only [h,if_false] <;> omega
 ·cases hi with
  | none=>simp[sliceBounds,HT.sIx]
  | some i =>
   simp only [sliceBounds,HT.sIx,si,show (1:Int)>0 by decide,if_true];by_cases h:i<0
   ·simp only [h,if_true] <;> omega
   ·simp only [h,if_false] <;> omega
theorem wN (its:List Value)(lo hi:Option Int):slicePick its.toArray lo hi none=((its.drop (HT.sIx its.length 0 lo)).take (HT.sIx its.length its.length hi-HT.sIx its.length 0 lo)).toArray:=by
 obtain⟨h1,h2,h3⟩:=Ac lo hi its.toArray.size;unfold slicePick;rw[h1,h2,h3];simp only [sliceRange_one,pick_run,ap] <;> rfl
def Zn (K:af):V->Option Int->Option Int->Hp->VK->Prop:=fun x lo hi H Q=>∃ a xs,x = .ref a∧SqL K H a xs∧∀ p,H p=none->Q (.ref p) (upd H p (.lst (iN xs lo hi)))
theorem kE:SlR X (Zn X.K):=by
 intro pins s σ H x v vl vu lo hi sl Q I rx hs pl pu h;obtain⟨a,xs,rfl,hx,q⟩:=h;cases rx;obtain⟨its,r,ht,hz⟩:=I.list hx;have hlen:=r.length;refine⟨"list",_,slot_list_getitem.lookup,ht.isList.typeIs,?_⟩
 refine wpAny_getItem_list_slice ht.isList hs pl pu .none (by simp) ?_ (by rw[ap] <;> omega);rw[wN,<- hlen];refine⟨.ref s.heap.objs.size,_,I.laid (t':=s.toks) (o:=.lst (iN xs lo hi)) (fun b ob q=>Heap.get?_push_of_some _ q) (ah _) ?_,rfl,q _ (I.hok.fresh (ah _))⟩;exact⟨az (qZ xs lo hi) hz,_,0,(r.drop (HT.sIx xs.length 0 lo)).take (HT.sIx xs.length xs.length hi-HT.sIx xs.length 0 lo),Heap.get?_push_size _ rfl⟩
def jA:V->Bool
 | .non=>true
 | .bl _=>true
 | .int _=>true
 | .str _=>true
 | _=>false
def eqV:V->V->Bool
 | .non,.non=>true
 | .bl a,.bl b=>a==b
 | .bl a,.int b=>(if a then 1 else 0)==b
 | .int a,.bl b=>a==(if b then 1 else 0)
 | .int a,.int b=>a==b
 | .str a,.str b=>a==b
 | _,_=>false
theorem Ek {A:Around}{s:Shared}{y x:V}{u v:Value}(ry:bG y u)(rx:bG x v)(fy:jA y=true)(fx:jA x=true):SeqAt.EqAt A s u v (eqV y x):=by
 cases y with
 | non =>
  cases ry
  cases x with
  | non=>cases rx;exact SeqAt.EqAt.same _
  | bl b=>cases rx;exact SeqAt.EqAt.none_bool b
  | int b=>obtain⟨t,rfl⟩:=rx;exact SeqAt.EqAt.none_int b t
  | str b=>obtain⟨t,rfl⟩:=rx;exact SeqAt.EqAt.none_str b t
  | _=>exact absurd (show false=true from fx) aj
 | bl a =>
  cases ry
  cases x with
  | non=>cases rx;exact SeqAt.EqAt.bool_none a
  | bl b=>cases rx;exact SeqAt.EqAt.bool_bool a b
  | int b=>obtain⟨t,rfl⟩:=rx;exact SeqAt.EqAt.bool_int a b t
  | str b=>obtain⟨t,rfl⟩:=rx;exact SeqAt.EqAt.bool_str a b t
  | _=>exact absurd (show false=true from fx) aj
 | int a =>
  obtain⟨t',rfl⟩:=ry
  cases x with
  | non=>cases rx;exact SeqAt.EqAt.int_none a t'
  | bl b=>cases rx;exact SeqAt.EqAt.int_bool a t' b
  | int b=>obtain⟨t,rfl⟩:=rx;exact SeqAt.EqAt.int_int a t' b t
  | str b=>obtain⟨t,rfl⟩:=rx;exact SeqAt.EqAt.int_str a t' b t
  | _=>exact absurd (show false=true from fx) aj
 | str a =>
  obtain⟨t',rfl⟩:=ry
  cases x with
  | non=>cases rx;exact SeqAt.EqAt.str_none a t'
  | bl b=>cases rx;exact SeqAt.EqAt.str_bool a t' b
  | int b=>obtain⟨t,rfl⟩:=rx;exact SeqAt.EqAt.str_int a t' b t
  | str b=>obtain⟨t,rfl⟩:=rx;exact SeqAt.EqAt.str_str a t' b t
  | _=>exact absurd (show false=true from fx) aj
 | _=>exact absurd (show false=true from fy) aj
def eqU (x:V)(u:Value):Bool:=match u with
 | .none=>eqV .non x
 | .bool b=>eqV (.bl b) x
 | .int i _=>eqV (.int i) x
 | .str z _=>eqV (.str z) x
 | _=>false
theorem Fr {x y:V}{u:Value}(r:bG y u)(f:jA y=true):eqU x u=eqV y x:=by
 cases y with
 | non=>cases r;rfl
 | bl b=>cases r;rfl
 | int i=>obtain⟨t,rfl⟩:=r;rfl
 | str z=>obtain⟨t,rfl⟩:=r;rfl
 | _=>exact absurd (show false=true from f) aj
theorem pB {x:V}:∀ {xs:List V} {us:List Value},bK xs us->xs.all jA=true->us.any (eqU x)=xs.any fun y=>eqV y x
 | _,_,.nil,_=>rfl
 | y::xs,u::us,.cons r t,f=>by
  rw[qg,df] at f;rw[lq,lq,Fr r f.1,pB t f.2]
theorem jV {A:Around}{s:Shared}{x:V}{v:Value}(rx:bG x v)(fx:jA x=true):∀ {xs:List V} {us:List Value},bK xs us->xs.all jA=true->∀ u∈us,SeqAt.EqAt A s u v (eqU x u)
 | _,_,.nil,_=>fun u hu=>by cases hu
 | y::xs,u::us,.cons r t,f=>fun u' hu=>by
  rw[qg,df] at f;rcases aw.mp hu with rfl | hu
  ·rw[Fr r f.1];exact Ek r rx f.1 fx
  ·exact jV rx fx t f.2 u' hu
def inV (x:V)(xs:List V):Bool:=xs.any fun y=>eqV y x
def rIn (K:af)(neg:Bool):R2:=fun x y H Q=>∃ p xs,y = .ref p∧(SqL K H p xs∨SqT K H p xs)∧jA x=true∧xs.all jA=true∧Q (.bl (if neg then !inV x xs else inV x xs)) H
theorem Kr:OpR X (compareOp .In) (rIn X.K false):=by
 intro pins s σ H x y v u Q I rx ry h;obtain⟨p,xs,rfl,hq,fx,fs,q⟩:=h;cases ry;rcases hq with hq | hq
 ·obtain⟨its,r,pl,hz⟩:=I.list hq
  refine SeqAt.in_listAt (eqU x) pl.isList (fun w hw=>jV rx fx r fs w (by simpa using hw)) ⟨.bl _,H,I,rfl,?_⟩;rw[show its.toArray.any (eqU x)=its.any (eqU x) by simp,pB r fs];exact q
 ·obtain⟨its,r,pl,hz⟩:=I.tuple hq
  refine SeqAt.in_tupleAt (eqU x) pl (fun w hw=>jV rx fx r fs w (by simpa using hw)) ⟨.bl _,H,I,rfl,?_⟩;rw[show its.toArray.any (eqU x)=its.any (eqU x) by simp,pB r fs];exact q
theorem kH:OpR X (compareOp .NotIn) (rIn X.K true):=by
 intro pins s σ H x y v u Q I rx ry h;obtain⟨p,xs,rfl,hq,fx,fs,q⟩:=h;cases ry;rcases hq with hq | hq
 ·obtain⟨its,r,pl,hz⟩:=I.list hq
  refine SeqAt.notIn_listAt (eqU x) pl.isList (fun w hw=>jV rx fx r fs w (by simpa using hw)) ⟨.bl _,H,I,rfl,?_⟩;rw[show its.toArray.any (eqU x)=its.any (eqU x) by simp,pB r fs];exact q
 ·obtain⟨its,r,pl,hz⟩:=I.tuple hq
  refine SeqAt.notIn_tupleAt (eqU x) pl (fun w hw=>jV rx fx r fs w (by simpa using hw)) ⟨.bl _,H,I,rfl,?_⟩;rw[show its.toArray.any (eqU x)=its.any (eqU x) by simp,pB r fs];exact q
theorem aX:fC X (.builtin "len") (fun xs H Q=>∃ p ys,xs=[.ref p]∧(SqL X.K H p ys∨SqT X.K H p ys)∧Q (.int ys.length) H):=by
 intro pins s σ H xs us Q I r h;obtain⟨p,ys,rfl,hq,q⟩:=h;obtain⟨u,rfl,rx⟩:=gH r;cases rx;have hn:=qQ;rcases hq with hq | hq
 ·obtain⟨its,r',pl,hz⟩:=I.list hq
  have hlen:=r'.length;exact Calls.call_len_list pl.isList (by simp only [ap] <;> omega) ⟨.int ys.length,H,I.tok _,⟨s.toks+1,by rw[ap,hlen]⟩,q⟩
 ·obtain⟨its,r',pl,hz⟩:=I.tuple hq
  have hlen:=r'.length;exact len_tuple pl (by simp only [ap] <;> omega) ⟨.int ys.length,H,I.tok _,⟨s.toks+1,by rw[ap,hlen]⟩,q⟩
theorem yY:fC X (.builtin "len") (fun xs H Q=>∃ z,xs=[.str z]∧z.length<=sizeLine∧Q (.int z.length) H):=by
 intro pins s σ H xs us Q I r h;obtain⟨z,rfl,hz,q⟩:=h;obtain⟨u,rfl,t,rfl⟩:=gH r;have hn:=qQ;exact len_str (by omega) ⟨.int z.length,H,I.tok _,⟨_,rfl⟩,q⟩
theorem iF:fC X (.type "list") (fun xs H Q=>∃ p ys,xs=[.ref p]∧(SqL X.K H p ys∨SqT X.K H p ys)∧∀ l,H l=none->Q (.ref l) (upd H l (.lst ys))):=by
 intro pins s σ H xs us Q I r h;obtain⟨p,ys,rfl,hq,q⟩:=h;obtain⟨u,rfl,rx⟩:=gH r;cases rx;have fin:∀ (its:List Value),bK ys its->ys.length<=sizeLine->∀ (h':Heap) (c':Nat),(∀ b o',s.heap.get? b=some o'->h'.get? b=some o') ->
   h'.get? s.heap.objs.size=some { cls:=.type "list",dict:=none,data:=.seq its.toArray c',slots:=#[] }->EP X pins σ Q (.ref s.heap.objs.size) { s with heap:=h' }:=fun its r' hz h' c' kp e =>
  ⟨.ref s.heap.objs.size,_,I.laid (t':=s.toks) kp (ah _) (show dB X.prog X.w _ h' _ (.lst ys) from ⟨hz,its,c',r',e⟩),rfl,q _ (I.hok.fresh (ah _))⟩
 rcases hq with hq | hq
 ·obtain⟨its,r',pl,hz⟩:=I.list hq
  have hlen:=r'.length;obtain⟨o,ho,hc,n,hd⟩:=pl.isList;exact call_list_seq p (.inl rfl) ho hc hd (fun h' c' kp e=>fin its r' hz h' c' kp e) (by simp only [ap] <;> omega)
 ·obtain⟨its,r',pl,hz⟩:=I.tuple hq
  have hlen:=r'.length;obtain⟨o,ho,hc,n,hd⟩:=pl;exact call_list_seq p (.inr rfl) ho hc hd (fun h' c' kp e=>fin its r' hz h' c' kp e) (by simp only [ap] <;> omega)
theorem jJ:fC X (.type "tuple") (fun xs H Q=>∃ p ys,xs=[.ref p]∧((SqL X.K H p ys∧∀ l,H l=none->Q (.ref l) (upd H l (.tup ys)))∨(SqT X.K H p ys∧Q (.ref p) H))):=by
 intro pins s σ H xs us Q I r h;obtain⟨p,ys,rfl,h⟩:=h;obtain⟨u,rfl,rx⟩:=gH r;cases rx;rcases h with ⟨hq,q⟩ | ⟨hq,q⟩
 ·obtain⟨its,r',pl,hz⟩:=I.list hq
  have hlen:=r'.length;refine call_tuple_list pl.isList (fun h' kp=>?_) (by simp only [ap] <;> omega);have I1:Inv X pins σ H { s with heap:=h' }:=I.kept (t':=s.toks) kp;have I2:Inv X pins σ (upd H h'.objs.size (.tup ys)) { s with heap:=h'.push { cls:=.type "tuple",data:=.seq its.toArray } } :=
   I1.laid (t':=s.toks) (fun b o e=>Heap.get?_push_of_some _ e) (ah _) (show dB X.prog X.w _ _ _ (.tup ys) from ⟨hz,its,r',IsTup.new _ _⟩)
  exact⟨.ref h'.objs.size,_,I2,rfl,q _ (I1.hok.fresh (ah _))⟩
 ·obtain⟨its,r',pl,hz⟩:=I.tuple hq
  exact call_tuple_same pl ⟨.ref p,H,I,rfl,q⟩
def tyV (K:af)(T:String)(x:V)(H:Hp):Prop:=match x with
 | .str _=>T = "str"
 | .int _=>T = "int"
 | .ref p=>(T = "list" ∧ ∃ xs,SqL K H p xs)∨(T = "tuple" ∧ ∃ o,K.lookup p=some o∧o.cls = .type "tuple" ∧ o.dict=none) ∨
  (T = "dict" ∧ ((∃ kvs,H p=some (.dK kvs))∨∃ kvs,H p=some (.dT kvs)))∨(T = "set" ∧ ∃ S n,H p=some (.set S n))
 | _=>False
theorem Uy {pins:List (Addr×Obj)}{σ:St}{H:Hp}{s:Shared}{T:String}{x:V}{v:Value}(I:Inv X pins σ H s)(r:bG x v)(ty:tyV X.K T x H) :
  s.TypeIs v T∧∀ a,v = .ref a->∃ ob,s.heap.get? a=some ob∧ob.dict=none:=by
 cases x with
 | str z =>
  obtain⟨t,rfl⟩:=r;cases (show T = "str" from ty)
  exact⟨typeIs_str s z t,fun _ e=>nomatch e⟩
 | int i =>
  obtain⟨t,rfl⟩:=r;cases (show T = "int" from ty)
  exact⟨typeIs_int s i t,fun _ e=>nomatch e⟩
 | ref p =>
  cases r;rcases ty with ⟨rfl,xs,hq⟩ | ⟨rfl,o,hk,hc,hd⟩ | ⟨rfl,hk⟩ | ⟨rfl,S,n,hk⟩
  ·obtain⟨its,_,pl,_⟩:=I.list hq
   refine⟨pl.isList.typeIs,fun a e=>?_⟩;cases e;obtain⟨o,n,e,c,hd,_⟩:=pl;exact⟨o,e,hd⟩
  ·refine⟨⟨o,I.kIn p o hk,hc⟩,fun a e=>?_⟩
   cases e;exact⟨o,I.kIn _ o hk,hd⟩
  ·have z:∃ o,s.heap.get? p=some o∧o.ExactDict:=by
    rcases hk with ⟨kvs,hk⟩ | ⟨kvs,hk⟩
    ·obtain⟨_,_,_,_,o,_,_,e,ex,_⟩:=I.hok p _ hk
     exact⟨o,e,ex⟩
    ·obtain⟨_,_,_,_,o,_,_,e,ex,_⟩:=I.hok p _ hk
     exact⟨o,e,ex⟩
   obtain⟨o,e,ex⟩:=z;refine⟨⟨o,e,ex.1⟩,fun a e2=>?_⟩;cases e2;exact⟨o,e,ex.2.1⟩
  ·obtain⟨o,_,_,_,e,ex,_⟩:=I.hok p _ hk
   refine⟨⟨o,e,ex.1⟩,fun a e2=>?_⟩;cases e2;exact⟨o,e,ex.2.1⟩
 | _=>exact False.elim ty
def tBM (K:af)(T:String)(r:V->List V->Hp->VK->Prop)(to:TE)(t:TA):TE:=fun σ H Q=>to σ H fun x H1=>tyV K T x H1∧t σ H1 fun xs H2=>r x xs H2 Q
variable {o e:Expr}{es:List Expr}{to:TE}{t:TA}{name:Str}{apos cpos:Pos}{T id:String}{r:V->List V->Hp->VK->Prop}
theorem vN (pa:PlainAttrs T)(slot:Slot T name id)(hty:typeOf (.builtin id)=pure (.type "method_descriptor"))(hm:MtR X id r)(ho:PE X o to)(ha:PA X (e::es) t)
  (hbase:attributeBase o name X.env (eval o X.env)=eval o X.env:=by rfl)
  (hfew:((backTo cpos (starEach (e::es) X.env)).all (fun x=>!x.1)&&(backToKw cpos (keywordEach [] X.env)).all (fun x=>x.1.isSome)
   && decide ((e::es).length+([]:List Keyword).length+(if ([]:List Keyword).isEmpty then 0 else 1)<30))=true:=by rfl)
  (hline:(apos.endLine==cpos.line)=true:=by rfl) (hs:starEach (e::es) X.env=(false,eval e X.env)::starEach es X.env:=by rfl) (hplain:(backTo cpos (starEach es X.env)).any (·.1)=false:=by rfl) :
  PE X (.Call (.Attribute o name apos) (e::es) [] cpos) (tBM X.K T r to t):=by
 intro pins s σ H Q I h;refine wpAny_Call_method_late hbase hfew hline rfl (thn (ho pins s σ H _ I h) fun v s1 ⟨x,H1,I1,r1,ty,q1⟩=>?_);obtain⟨h1,h2⟩:=Uy I1 r1 ty;refine⟨T,id,pa,slot,hty,h1,h2,?_⟩;have hA:=ha cpos pins s1 σ H1 _ I1 q1;rw[hs] at hA ⊢;refine Calls.callWith_builtin (by show (false||(backTo cpos (starEach es X.env)).any (·.1))=false;rw[hplain] <;> rfl) (Calls.evalArgs_plain ?_);exact thn hA fun us s2 ⟨vs,H2,I2,r2,q2⟩=>hm pins s2 σ H2 x vs v us Q I2 r1 r2 q2
end
def MtM (X:Cx)(id:String)(r:V->List V->Hp->VK->Prop):Prop :=
 ∀ (pins:List (Addr×Obj)) (s:Shared) (σ:St) (H:Hp) (x:V) (xs:List V) (v:Value) (us:List Value) (Q:VK),Inv X pins σ H s->bG x v->bK xs us->r x xs H Q ->
  wpAny (model X.prog X.w) X.A (call (.builtin id) (v::us)) (EP X pins σ Q) X.xe s
theorem bK.one:∀ {x:V} {us:List Value},bK [x] us->∃ u,us=[u]∧bG x u
 | _,_,.cons r .nil=>⟨_,rfl,r⟩
theorem bK.rep {xs:List V}{us:List Value}(h:bK xs us):∀ k:Nat,bK (c7 k xs).flatten (c7 k us).flatten
 | 0=>.nil
 | k+1=>by
  rw[fe,fe,i8,i8];exact bK.append h (bK.rep h k)
theorem xB (its:List Value):∀ (k:Nat) (acc:List Value),
  qk (fun x1 x2=>x1++x2) acc.toArray (c7 k its.toArray)=(acc++(c7 k its).flatten).toArray
 | 0,acc=>by simp
 | k+1,acc=>by
  have e:acc.toArray++its.toArray=(acc++its).toArray:=by simp
  have e2:(acc++its)++(c7 k its).flatten=acc++(c7 (k+1) its).flatten:=by
   rw[fe,i8,db]
  rw[<- e2,<- xB its k (acc++its),<- e,fe,oq]
section
variable {X:Cx}{pins:List (Addr×Obj)}{σ:St}{H:Hp}{s:Shared}{l b:Addr}{xs ys zs:List V}
theorem Inv.lset {its its':List Value}{n:Nat}{f:Array Value->Array Value}{t':Nat}(I:Inv X pins σ H s)(hH:H l=some (.lst xs))
  (e:s.heap.get? l=some { cls:=.type "list",data:=.seq its.toArray n }) (hf:f its.toArray=its'.toArray) (hv:bK ys its') (hz:ys.length<=sizeLine) :
  Inv X pins σ (upd H l (.lst ys)) { s with heap:=s.heap.update l (Obj.mapSeq f),toks:=t' }:=by
 have q:=PySem.IsL.update e f;rw[hf] at q;refine I.write (x:=l) (e:=l) (by rw[hH];exact trivial) (.inl rfl) (fun b' u hb hu=>(Heap.get?_update_other s.heap (Obj.mapSeq f) (Ne.symm hb)).trans hu) ⟨_,q⟩ ?_;exact⟨hz,its',_,hv,q⟩
theorem Inv.lnew {its:List Value}{t':Nat}(I:Inv X pins σ H s)(hv:bK ys its)(hz:ys.length<=sizeLine) :
  Inv X pins σ (upd H s.heap.objs.size (.lst ys)) { s with heap:=s.heap.push { cls:=.type "list",data:=.seq its.toArray },toks:=t' } :=
 I.laid (fun _ _ q=>Heap.get?_push_of_some _ q) (ah _) ⟨hz,its,0,hv,Heap.get?_push_size _ rfl⟩
theorem Inv.fresh (I:Inv X pins σ H s):H s.heap.objs.size=none:=I.hok.fresh (ah _)
theorem Inv.lstM (I:Inv X pins σ H s)(hH:H l=some (.lst xs)):xs.length<=sizeLine∧∃ (its:List Value) (n:Nat),bK xs its∧xs.length=its.length∧s.heap.get? l=some { cls:=.type "list",data:=.seq its.toArray n }:=by
 obtain⟨z,its,n,r,e⟩:=I.hok l _ hH;exact⟨z,its,n,r,r.length,e⟩
theorem Pl {n:Nat}(h:n<=sizeLine):Builtin.List.listTooLong n=false:=by
 unfold Builtin.List.listTooLong;exact decide_eq_false (by omega)
end
section
variable {X:Cx}
def Qy:V->List V->Hp->VK->Prop:=fun x vs H Q=>∃ l xs y,x = .ref l∧vs=[y]∧H l=some (.lst xs)∧xs.length<sizeLine∧Q .non (upd H l (.lst (xs++[y])))
theorem gO:MtM X "list.append" Qy:=by
 intro pins s σ H x vs v us Q I rx rv h;obtain⟨l,xs,y,rfl,rfl,hH,hz,q⟩:=h;cases rx;obtain⟨u,rfl,ru⟩:=rv.one;obtain⟨z,its,n,r,hl,e⟩:=I.lstM hH;refine call_meets F.slot_list_append ⟨_,e,rfl⟩ F.entry_list_append (F.args_list_append_2 _ _) (PySem.list_append l its.toArray n u (by rw[ap];omega)) ⟨e,?_⟩;refine⟨.non,_,I.lset (its':=its++[u]) hH e (by simp) (r.append (.cons ru .nil)) ?_,rfl,q⟩;rw[ai,ci];omega
theorem Sm {α:Type}(xs:List α)(k:Nat):(c7 k xs).flatten.length=k*xs.length:=by
 induction k with
 | zero=>simp
 | succ k ih=>rw[fe,i8,ai,ih,k7,jq]
end
section
variable {prog:Program}{w:World}{A:Around}{E:Value->Shared->Prop}{s:Shared}
end
section
variable {X:Cx}
end
end L2
namespace Att
open PySem PySem.W PySem.Calls PyProof.Rows
theorem rN {P:Params}{h:Heap}:∀ (ns:List Int) (vs:List Value),WellAll P h vs (ns.map WData.int)->IntsAre vs ns:=by
 intro ns
 induction ns with
 | nil =>
  intro vs w;rw[ir] at w;cases w;exact .nil
 | cons n ns ih =>
  intro vs w;rw[au] at w
  cases w with
  | cons a b =>
   cases a;exact .cons _ _ (ih _ b)
theorem Jq {l:OpenLaw}{n:Nat}(hn:l.most=some n){P:Params}{h:Heap}{args:List WData}{vals:List Value}
  (hpre:l.row.toRowW.claim.pre args=true) (hwl:WellAll P h vals args) :
  ∃ a vs ns,vals=[Value.ref a]∧args=[WData.list (ns.map WData.int)]∧h.get? a=some { cls:=.type "list",data:=.seq vs.toArray }∧IntsAre vs ns∧ns.length<=n:=by
 have hsh:WShape.hasAll [] args [.list .int]=true:=(pre_splitW hpre).1;have hc:l.pre.holds [] { args:=args }=true:=(pre_splitW hpre).2;obtain⟨d,r,rfl,h1,h2⟩:=hasAllW_cons hsh;obtain rfl:=hasAllW_nil h2;obtain⟨xs,rfl,h3⟩:=hasW_list h1;obtain⟨ns,rfl⟩:=items_int h3;have hlen:ns.length<=n:=by
  unfold OpenLaw.pre at hc;have h4:(WTm.not (.lt (.lit (.int (n:Int))) (.len (.arg 0)))).holds [] { args:=[.list (ns.map .int)] }=true:=by
   have h4:=(holds_andW hc).1;rw[hn] at h4;exact h4
  have h5:=condW_of h4 (w_not (w_lt w_lit (w_len_list (w_arg rfl))));rw[aR] at h5;refine Nat.le_of_not_lt fun q=>?_
  have q':(n:Int)<((ns.length:Nat):Int):=by omega
  first
   | (rw[decide_eq_true q'] at h5;exact absurd h5 (by decide))
   | (simp at h5;omega)
 cases hwl with
 | cons w1 w2 =>
  cases w2
  cases w1 with
  | list ho hall=>exact⟨_,_,ns,rfl,rfl,ho,rN ns _ hall,hlen⟩
theorem Jw (l:OpenLaw)(args:List WData):l.row.toRowW.claim.post args (.bool true) args=true :=
 postW_of (r:=l.row.toRowW) (X:=(true==true))
  (show WShape.has [] (.bool true) .bool=true by first | rfl | decide | simp[WShape.has,WShape.arms,WShape.armsAll])
  (show (WTm.eq .res (.lit (.bool true))).value [] { args:=args,res:=some (.bool true),after:=args }=some (.bool (true==true)) from w_eq_bool (w_res rfl) w_lit) rfl
theorem Do {l:OpenLaw}{n:Nat}{q:Program}{loose:List Str}{XP:(Str->Option Value)->Heap->Prop}{YP:World->Heap->Prop}{d:DefRec}
  (hn:l.most=some n) (hdf:d.params.defaults=[])
  (call:∀ (w:World) (s₀ s₁:Shared) (mg mb:Str->Option Value) (fa:Addr) (o:Obj) (pm cd doc:Value) (a:Addr) (vs:List Value) (ns:List Int),
   Ground q loose [] XP w s₀ mg mb s₁.heap->YP w s₁.heap ->
   s₁.heap.get? fa=some o->o.data = .func (docDef d.name d.params d.body d.scope pm cd doc)->s₁.heap.CodeRec cd d.name->mg d.name=some (.ref fa) ->
   s₁.heap.get? a=some { cls:=.type "list",data:=.seq vs.toArray }->IntsAre vs ns->ns.length<=n->s₁.gens = #[] ->
   codeAny (model l.prog w) callerA (.call (.ref fa) ⟨[.ref a],[]⟩) (fun r s'=>r = .ok (.ret (.bool true))∧OldK s₁.heap s'.heap∧s'.os=s₁.os∧AllBare s'.gens) s₁) :
  WalkO q loose XP YP l.row.toRowW d [] (fun f vs=>ua f vs):=by
 intro w s₀ s₁ mg mb G Y fa o pm cd doc dV kV ho hd hcd hD hmg hg args vals as hpre hlay hrd hwl hlo;obtain rfl:dV = .none:=Dflts.none hD hdf;obtain rfl:kV = .none:=Dflts.noKw hD;obtain⟨a,vs,ns,rfl,rfl,hobj,hints,hlen⟩:=Jq hn hpre hwl;refine enter_call (codeAny_mono (call w s₀ s₁ mg mb fa o pm cd doc a vs ns G Y ho (fd_plain hd) hcd hmg hobj hints hlen hg) fun r s' hq=>?_);obtain⟨rfl,h2,h3,h4⟩:=hq;exact⟨.inl ⟨.bool true,.bool true,[],rfl,fun _=>rfl,.bool true,Jw l _,fun _=>⟨uy,fun _ hm=>(nomatch hm)⟩⟩,h2,h3,h4⟩
section
variable {prog:Program}{w:World}{A:Around}{E:Value->Shared->Prop}{s:Shared}{K:Frag}
end
end Att
namespace L2
open PySem PySem.Spec PyProof.Rows
theorem xQ:∀ {vs:List Value} {ns:List Int},IntsAre vs ns->bK (ns.map V.int) vs
 | _,_,.nil=>.nil
 | _,_,.cons n t h=>.cons ⟨t,rfl⟩ (xQ h)
def Wu (H:Hp):Prop:=∀ b,H b=none∨∃ o xs,H b=some (.frz o (.lst xs))
theorem Qd {P:Program}{w:World}{K:af}{mg mb:Str->Option Value}{CX:CXT}{k:Nat}{fa a:Addr}{fd:FuncData}{x:Str}{sp:Sp}{s₁:Shared}{vs:List Value}{ns:List Int}
  (KX:K.In s₁.heap) (hns:s₁.heap.Ns mainGlobals mg) (hb:s₁.heap.Ns builtinsNs mb) (hbb:∀ x:Str,x ≠ "__name__" -> mb x=bootBuiltins x) (hlim:s₁.heap.NoLimit) (hg:s₁.gens = #[])
  (ha:s₁.heap.get? a=some { cls:=.type "list",data:=.seq vs.toArray }) (hi:IntsAre vs ns) (hl:ns.length<=sizeLine) (hr:fT k callerA)
  (F:∀ base:Heap,K.In base->base.Ns mainGlobals mg->bN P w K mg base CX k fa fd [x] sp) (hbind:∀ (s:Shared) (u:Value),BindsTo s fd ⟨[u],[]⟩ [(x,u)])
  (hsp:∀ H:Hp,Wu H->SqL K H a (ns.map V.int)->sp [.ref a] H (fun v _=>v = .bl true) fun _ _ _=>False)
  (hCX:∀ H e s',CX [] H s₁ (fun _ _ _=>False) e s'->False) :
  codeAny (model P w) callerA (.call (.ref fa) ⟨[.ref a],[]⟩) (fun r s'=>r = .ok (.ret (.bool true))∧OldK s₁.heap s'.heap∧s'.os=s₁.os∧AllBare s'.gens) s₁:=by
 have rv:=xQ hi;have lenV:=hi.length;have core:∀ H:Hp,Wu H->SqL K H a (ns.map V.int)->HOk P w H s₁.heap->(∀ b,H b≠none->b=a)->(H a≠none->K.lookup a=none) ->
   codeAny (model P w) callerA (.call (.ref fa) ⟨[.ref a],[]⟩) (fun r s'=>r = .ok (.ret (.bool true))∧OldK s₁.heap s'.heap∧s'.os=s₁.os∧AllBare s'.gens) s₁:=by
  intro H hO hS hok hA hK;have base_of:∀ {b:Addr} {o:Obj},s₁.heap.get? b=some o->H b=none->(Am s₁.heap H).get? b=some o:=fun e n=>Ly e n
  have noA:∀ {b:Addr} {o:Obj} {es:Array DictEntry} {ep:Nat},s₁.heap.get? b=some o->o.data = .dict es ep->H b=none:=fun {b o es ep} e d=>by
   cases q:H b with
   | none=>rfl
   | some u =>
    have e':b=a:=hA b (by rw[q];simp);subst e';rw[ha] at e;cases e;have d':Data.seq vs.toArray _=Data.dict es ep:=d;cases d'
  have nsK:∀ {b:Addr} {m:Str->Option Value},s₁.heap.Ns b m->(Am s₁.heap H).Ns b m:=fun {b m} ⟨o,es,ep,e,d,r⟩=>⟨o,es,ep,base_of e (noA e d),d,r⟩
  have hKb:K.In (Am s₁.heap H):=fun b o e=>base_of (KX b o e) (by
   cases q:H b with
   | none=>rfl
   | some u =>
    have e':b=a:=hA b (by rw[q];simp);subst e';rw[hK (by rw[q];simp)] at e;cases e)
  have hM:Mod K mg (Am s₁.heap H):=⟨hKb,nsK hns,⟨mb,nsK hb,hbb⟩,let ⟨mc,h1,h2⟩:=hlim;⟨mc,nsK h1,h2⟩⟩;have e0:Fp P w K mg (Am s₁.heap H) callerA [] s₁ H:=⟨rfl,hM,fun b o e=>Sj e,n8 (Kx _ _),trivial,fun b hb=>absurd (show b∈([]:List Addr) from hb) (by simp),hok,.of_eq hg⟩;refine codeAny_mono ((F _ hKb (nsK hns)).run callerA [] s₁ H ⟨[.ref a],[]⟩ [.ref a] [.ref a] _ _ hr e0 (hbind s₁ (.ref a)) (.cons rfl .nil) (hsp H hO hS)) fun r s' h=>?_
  cases r with
  | error e=>exact (hCX H e s' h).elim
  | ok fl =>
   cases fl with
   | next=>exact False.elim h
   | brk=>exact False.elim h
   | cont=>exact False.elim h
   | ret u =>
    obtain⟨v,H',os,bare,un,hok',r',q⟩:=h;have q':v = .bl true:=q;subst q';obtain rfl:u=Value.bool true:=r';refine⟨rfl,OldK.of_keep fun b o e=>?_,os,bare⟩
    cases q:H b with
    | none=>exact un.keep b o e q (by intro z;exact absurd (show b∈([]:List Addr) from z) (by simp)) (by simp)
    | some u =>
     rcases hO b with z | ⟨ob,xs,z⟩
     ·rw[q] at z;cases z
     ·have z2:=un.frzs b ob _ z
      obtain⟨e1,_⟩:=hok b _ z;obtain⟨e2,_⟩:=hok' b _ z2;rw[e] at e1;cases e1;exact e2
 cases hk:K.lookup a with
 | some o =>
  have e:=KX a o hk;rw[ha] at e;cases e;refine core (fun _=>none) (fun _=>.inl rfl) (.inr ⟨_,vs.toArray,_,hk,rfl,rfl,rfl,by rw[ap,lenV];exact hl,by simpa using rv⟩) (fun b u z=>by have z':(none:Option HO)=some u:=z;cases z') (fun b z=>absurd rfl z) fun z=>absurd rfl z
 | none =>
  refine core (fun b=>if b=a then some (.frz { cls:=.type "list",data:=.seq vs.toArray } (.lst (ns.map V.int))) else none) (fun b=>?_) (.inl (.inr ⟨{ cls:=.type "list",data:=.seq vs.toArray },if_pos rfl⟩)) (fun b u z=>?_) (fun b z=>?_) fun _=>hk
  ·by_cases hb:b=a
   ·exact .inr ⟨_,_,if_pos hb⟩
   ·exact .inl (if_neg hb)
  ·by_cases hb:b=a
   ·have z':=(if_pos hb).symm.trans z
    cases z';subst hb;exact⟨ha,by rw[aR];exact hl,vs,_,rv,ha⟩
   ·have z':=(if_neg hb).symm.trans z
    cases z'
  ·by_cases hb:b=a
   ·exact hb
   ·exact absurd (if_neg hb) z
theorem Qv {l:ou}{n k:Nat}{q:Program}{loose:List Str}{XP:(Str->Option Value)->Heap->Prop}{YP:World->Heap->Prop}{d:DefRec}{K:Params->af}{CX:World->CXT}{sp:World->Sp}{x:Str}
  (hn:l.most=some n) (hn2:n<=sizeLine) (hdf:d.params.defaults=[]) (hr:fT k callerA)
  (hY:∀ (w:World) (h:Heap),YP w h->(K w.params).In h)
  (F:∀ (w:World) (mg:Str->Option Value) (fa:Addr) (h:Heap),(K w.params).In h->h.Ns mainGlobals mg->mg d.name=some (.ref fa) ->
   ∃ fd:FuncData,(∀ (s:Shared) (u:Value),BindsTo s fd ⟨[u],[]⟩ [(x,u)]) ∧
    ∀ base:Heap,(K w.params).In base->base.Ns mainGlobals mg->bN l.prog w (K w.params) mg base (CX w) k fa fd [x] (sp w))
  (hsp:∀ (w:World) (H:Hp) (a:Addr) (ns:List Int),ns.length<=n->Wu H->SqL (K w.params) H a (ns.map V.int)->sp w [.ref a] H (fun v _=>v = .bl true) fun _ _ _=>False)
  (hCX:∀ (w:World) (H:Hp) (s:Shared) (e:Value) (s':Shared),CX w [] H s (fun _ _ _=>False) e s'->False) :
  uo q loose XP YP l.row.toRowW d [] (fun f vs=>ua f vs):=by
 refine Att.Do hn hdf fun w s₀ s₁ mg mb fa o pm cd doc a vs ns G Y ho hd hcd hmg hobj hints hlen hg=>?_
 have KX:=hY w _ Y;obtain⟨fd,hb,hF⟩:=F w mg fa _ KX G.T.g hmg;exact Qd KX G.T.g G.T.b G.T.builtins G.T.nolimit hg hobj hints (az hlen hn2) hr hF hb (fun H hO hS=>hsp w H a ns hlen hO hS) fun H e s'=>hCX w H s₁ e s'
def fI (s:Stmt)(j:Nat):Stmt:=match s with
 | .ClassDef _ _ _ body _ _ _ _ _ _ _=>body.getD j (.Pass ⟨0,0,0,0⟩)
 | _=>.Pass ⟨0,0,0,0⟩
def cS (s:Stmt):Arguments:=match s with
 | .FunctionDef _ a _ _ _ _ _ _ _ _=>a
 | _=>{ posonlyargs:=[],args:=[],vararg:=none,kwonlyargs:=[],kw_defaults:=[],kwarg:=none,defaults:=[] }
def cH (s:Stmt):List Stmt:=match s with
 | .FunctionDef _ _ b _ _ _ _ _ _ _=>b
 | _=>[]
def aF (s:Stmt):Scope:=match s with
 | .FunctionDef _ _ _ _ _ _ sc _ _ _=>sc
 | _=>{ kind:=.function,names:=[],isGenerator:=false,isCoroutine:=false }
abbrev E0:XK:=fun _ _ _=>False
structure Fun (K:af)(x qual:Str)(st:Stmt)(f:Addr)(fd:FuncData):Prop where
 ex:∃ (oc:Value) (od:Option Addr) (kV doc pm:Value) (an:Option Addr) (cdv ct:Value) (osl:Array (Option Value)),
  fd=dg x qual (cS st) (cH st) (aF st) .none kV doc pm an cdv ct∧K.lookup f=some ⟨oc,od,.func fd,osl⟩∧dh K cdv qual=true
 kp:cr K (.ref f)=true
section
variable {P:Program}{w:World}{K:af}{mg:Str->Option Value}{base:Heap}
theorem Fun.binds {x qual:Str}{st:Stmt}{f:Addr}{fd:FuncData}{ps:List Str}(F:Fun K x qual st f fd)
  (h:∀ (kV doc pm:Value) (an:Option Addr) (cdv ct:Value) (us:List Value),us.length=ps.length->bindArgs (dg x qual (cS st) (cH st) (aF st) .none kV doc pm an cdv ct) ⟨us,[]⟩=pure (ps.zip us)):jQ K fd ps []:=by
 obtain⟨oc,od,kV,doc,pm,an,cdv,ct,osl,rfl,lk,hcd⟩:=F.ex;exact .all (h kV doc pm an cdv ct)
theorem gC {x qual:Str}{st:Stmt}{f:Addr}{oc:Value}{od an:Option Addr}{osl:Array (Option Value)}{kV doc pm cdv ct:Value}(l:K.lookup f=some ⟨oc,od,.func (dg x qual (cS st) (cH st) (aF st) .none kV doc pm an cdv ct),osl⟩)
 (c:dh K cdv qual=true) (k:cr K (.ref f)=true):Fun K x qual st f (dg x qual (cS st) (cH st) (aF st) .none kV doc pm an cdv ct):=⟨⟨oc,od,kV,doc,pm,an,cdv,ct,osl,rfl,l,c⟩,k⟩
end
theorem eA {A:Around}{k:Nat}(hr:fT k A):A.units+1<cLine:=gk (ki (by decide:1<=64) _) hr.units
section
variable {X:Cx}
theorem pv (i:Nat){x:Str}{pos:Pos}(hN:X.N[i]?=some x:=by rfl)(hv:Vis X.env.scope x:=by first | exact Or.inl rfl | exact Or.inr (Or.inl rfl) | exact Or.inr (Or.inr rfl))(hd:(x==("__debug__" : Str))=false:=by decide)
 (hcd:(x==("__classdict__" : Str))=false:=by decide):PE X (.Name x pos) (Yg i):=Wi hN hv hd hcd
end
theorem pD {A B:Prop}(h:B):if false=true then A else B:=by
 rw[if_neg aj];exact h
theorem zF {A B:Prop}(h:A):if true=true then A else B:=by
 rw[if_pos rfl];exact h
theorem kF {c A B:Prop}[Decidable c](h1:c->A)(h2:¬ c->B):if c then A else B:=by
 by_cases h:c
 ·rw[if_pos h]
  exact h1 h
 ·rw[if_neg h]
  exact h2 h
theorem Hk {c A B:Prop}[Decidable c](hc:c)(h:B):if (!decide c)=true then A else B:=by
 rw[decide_eq_true hc];exact pD h
def aL (H H':Hp):Prop:=∀ b o,H b=some o->H' b=some o
theorem aL.refl (H:Hp):aL H H:=fun _ _ h=>h
theorem aL.trans {H H1 H2:Hp}(a:aL H H1)(b:aL H1 H2):aL H H2:=fun c o h=>b c o (a c o h)
theorem aL.seq {K:af}{H H':Hp}{a:Addr}{xs:List V}(e:aL H H')(h:SqL K H a xs):SqL K H' a xs:=by
 rcases h with (h | ⟨o,h⟩) | h
 ·exact .inl (.inl (e _ _ h))
 ·exact .inl (.inr ⟨o,e _ _ h⟩)
 ·exact .inr h
end L2
namespace Wd
abbrev W:=List Nat
theorem aAC (a:W):¬ a<a:=gh a
theorem aAM {a b c:W}(h:¬ b<a)(h':¬ c<b):¬ c<a:=fun hc=>su.mpr (List.le_trans (su.mp h) (su.mp h')) hc
def rot (k:Nat)(w:W):W:=w.drop k++w.take k
theorem Gn {a b:W}(hl:a.length=b.length)(h:∀ i,i<a.length->a[i]?=b[i]?):a=b:=by
 apply ii ;intro i;by_cases hi:i<a.length
 ·exact h i hi
 ·rw[ca (by omega),ca (by omega)]
def Ab (w:W):Nat->W
 | 0=>w
 | n+1=>if rot (n+1) w<Ab w n then rot (n+1) w else Ab w n
def mK (w:W):W:=Ab w (w.length-1)
theorem Wx {a b:W}(h:a<b)(hl:b.length<=a.length)(x y:W):a++x<b++y:=by
 induction a generalizing b with
 | nil =>
  cases b with
  | nil=>exact absurd h (aAC _)
  | cons d b=>simp at hl
 | cons c a ih =>
  cases b with
  | nil=>exact absurd h (by simp)
  | cons d b =>
   rw[gn,gn];rw[ld] at h ⊢;rcases h with h | ⟨h,h'⟩
   ·exact .inl h
   ·exact .inr ⟨h,ih h' (by simpa using hl)⟩
theorem Be (p:W){a b:W}:p++a<p++b↔a<b:=by
 induction p with
 | nil=>rfl
 | cons c p ih =>
  rw[gn,gn,ld];constructor
  ·intro h
   rcases h with h | ⟨_,h⟩
   ·exact absurd h (e9 _)
   ·exact ih.mp h
  ·intro h
   exact .inr ⟨rfl,ih.mpr h⟩
def rep (n:Nat)(l:W):W:=(c7 n l).flatten
theorem oM (n:Nat)(l:W):rep (n+1) l=l++rep n l:=by unfold rep;rw[fe,i8]
theorem Dn (l:W):rep 0 l=[]:=rfl
theorem Sx (l:W):rep 1 l=l:=by rw[oM,Dn,du]
theorem nY (n:Nat)(l:W):(rep n l).length=n*l.length:=by
 induction n with
 | zero=>rw[Dn,rc];rfl
 | succ n ih=>rw[oM,ai,ih,k7,jq]
theorem Su {l:W}{n i:Nat}(h:i<n*l.length):(rep n l)[i]?=l[i % l.length]?:=by
 induction n generalizing i with
 | zero=>rw[rc] at h;omega
 | succ n ih =>
  rw[oM];rw[k7] at h;by_cases hi:i<l.length
  ·rw[ej hi,fc hi]
  ·rw[d7 (by omega),ih (by omega)]
   congr 1
   rw[<- ql (by omega)]
end Wd
namespace Dt
abbrev Mx:=Nat->Nat->Int
def dS:Nat->(Nat->Int)->Int
 | 0,_=>0
 | n+1,f=>dS n f+f n
def sk (j k:Nat):Nat:=if k<j then k else k+1
def sg (j:Nat):Int:=if j % 2=0 then 1 else -1
def det:Nat->Mx->Int
 | 0,_=>1
 | n+1,A=>dS (n+1) fun j=>sg j*(A 0 j*det n fun i k=>A (i+1) (sk j k))
section
variable {n N p q i j k l:Nat}{A B:Mx}{f g:Nat->Int}{c m:Int}
theorem eV:∀ {n:Nat},(∀ j,j<n->f j=g j)->dS n f=dS n g
 | 0,_=>rfl
 | n+1,h=>by
  show dS n f+f n=dS n g+g n;rw[eV (n:=n) fun j hj=>h j (by omega),h n (by omega)]
theorem pA:∀ {n:Nat},dS n (fun j=>f j+c*g j)=dS n f+c*dS n g
 | 0=>by show (0:Int)=0+c*0;omega
 | n+1=>by
  show dS n (fun j=>f j+c*g j)+(f n+c*g n)=(dS n f+f n)+c*(dS n g+g n);rw[pA (n:=n),pi];omega
theorem lG:∀ {n:Nat},(∀ j,j<n->f j=0)->dS n f=0
 | 0,_=>rfl
 | n+1,h=>by
  show dS n f+f n=0;rw[lG (n:=n) fun j hj=>h j (by omega),h n (by omega)];rfl
theorem Hc {n:Nat}:dS n (fun j=>c*g j)=c*dS n g:=by
 have h:=pA (n:=n) (f:=fun _=>0) (c:=c) (g:=g);rw[lG (fun _ _=>rfl)] at h;rw[eV (g:=fun j=>0+c*g j) fun j _=>by omega,h];omega
theorem xK:∀ {n:Nat},(∀ j,0<j->j<n+1->f j=0)->dS (n+1) f=f 0
 | 0,_=>by show (0:Int)+f 0=f 0;omega
 | n+1,h=>by
  show dS (n+1) f+f (n+1)=f 0;rw[xK (n:=n) fun j h0 hj=>h j h0 (by omega),h (n+1) (by omega) (by omega)];omega
theorem Lp (h:k<n):sk j k<n+1:=by unfold sk;split <;> omega
theorem bQ:∀ {n:Nat} {A B:Mx},(∀ i k,i<n->k<n->A i k=B i k)->det n A=det n B
 | 0,_,_,_=>rfl
 | n+1,A,B,h=>by
  refine eV fun j hj=>?_
  rw[h 0 j (by omega) hj,bQ (n:=n) fun i k hi hk=>h (i+1) (sk j k) (by omega) (Lp hk)]
def bZ (A:Mx)(i:Nat)(u:Nat->Int):Mx:=fun a k=>if a=i then u k else A a k
theorem mB {u:Nat->Int}:bZ A i u i=u:=by
 funext k
 exact if_pos rfl
theorem kK {u:Nat->Int}{a:Nat}(h:a≠i):bZ A i u a=A a:=by
 funext k
 exact if_neg h
theorem Eb {u:Nat->Int}:(fun a k=>bZ A (i+1) u (a+1) (sk j k))=bZ (fun a k=>A (a+1) (sk j k)) i fun k=>u (sk j k):=by
 funext a k
 unfold bZ;by_cases h:a=i
 ·rw[if_pos h,if_pos (by omega)]
 ·rw[if_neg h,if_neg (by omega)]
theorem nM:∀ {n:Nat} {A:Mx} {i:Nat} {u v:Nat->Int},i<n->det n (bZ A i fun k=>u k+c*v k)=det n (bZ A i u)+c*det n (bZ A i v)
 | n+1,A,0,u,v,_=>by
  have e:∀ w:Nat->Int,det (n+1) (bZ A 0 w)=dS (n+1) fun j=>sg j*(w j*det n fun i k=>A (i+1) (sk j k)):=fun w=>by
   refine eV fun j _=>?_
   rw[mB,bQ (n:=n) (A:=fun i k=>bZ A 0 w (i+1) (sk j k)) (B:=fun i k=>A (i+1) (sk j k)) fun a k _ _=>by rw[kK (by omega)]]
  rw[e,e,e,<- pA];refine eV fun j _=>?_
  rw[Int.add_mul,pi]
  congr 1
  rw[dv c,<- dv (sg j) c,g7 (sg j) c,dv c]
 | n+1,A,i+1,u,v,h=>by
  have e:∀ w:Nat->Int,det (n+1) (bZ A (i+1) w)=dS (n+1) fun j=>sg j*(A 0 j*det n (bZ (fun a k=>A (a+1) (sk j k)) i fun k=>w (sk j k))):=fun w=>by
   refine eV fun j _=>?_
   rw[Eb,kK (by omega)]
  rw[e,e,e,<- pA];refine eV fun j _=>?_
  rw[nM (n:=n) (i:=i) (u:=fun k=>u (sk j k)) (v:=fun k=>v (sk j k)) (by omega),pi,pi]
  congr 1
  rw[<- dv (A 0 j) c,g7 (A 0 j) c,dv c,<- dv (sg j) c,g7 (sg j) c,dv c]
theorem Gs:sg (j+1) = - sg j:=by
 unfold sg;by_cases h:j % 2=0
 ·rw[if_pos h,if_neg (by omega)]
 ·rw[if_neg h,if_pos (by omega)];rfl
theorem Yk:sg j*sg j=1:=by
 unfold sg;split <;> rfl
theorem dbl {F:Nat->Nat->Int}:∀ {N:Nat},(∀ j l,l<j->j<=N->F j l+F l (j-1)=0)->dS (N+1) (fun j=>dS N (F j))=0
 | 0,_=>rfl
 | N+1,h=>by
  have ih:=dbl (N:=N) fun j l hl hj=>h j l hl (by omega)
  have e1:dS (N+1) (fun j=>dS (N+1) (F j))=dS (N+1) (fun j=>dS N (F j)+1*F j N):=eV fun j _=>by
   show dS N (F j)+F j N=_;omega
  have e2:dS (N+1) (fun l=>F l N+1*F (N+1) l)=0:=lG fun l hl=>by
   have:=h (N+1) l (by omega) (by omega)
   rw[qm] at this;omega
  rw[pA] at e1 e2;show dS (N+1) (fun j=>dS (N+1) (F j))+dS (N+1) (F (N+1))=0;have e3:dS (N+1) (F (N+1))=dS (N+1) fun l=>F (N+1) l:=rfl
  rw[e1,ih];omega
theorem Xw (h:l<j):sk j (sk l k)=sk l (sk (j-1) k):=by
 have a:∀ x y:Nat,sk x y=if y<x then y else y+1:=fun _ _=>rfl
 by_cases h1:k<l
 ·rw[a l k,if_pos h1,a j k,if_pos (by omega),a (j-1) k,if_pos (by omega),a l k,if_pos h1]
 ·rw[a l k,if_neg h1]
  by_cases h2:k+1<j
  ·rw[a j,if_pos h2,a (j-1) k,if_pos (by omega),a l k,if_neg h1]
  ·rw[a j,if_neg h2,a (j-1) k,if_neg (by omega),a l,if_neg (by omega)]
theorem Zu (h:∀ k,k<n+2->A 0 k=A 1 k):det (n+2) A=0:=by
 have e:det (n+2) A=dS (n+2) fun j=>dS (n+1) fun l=>sg j*(A 0 j*(sg l*(A 1 (sk j l)*det n fun i k=>A (i+2) (sk j (sk l k))))):=by
  refine eV fun j _=>?_
  show sg j*(A 0 j*dS (n+1) fun l=>sg l*(A 1 (sk j l)*det n fun i k=>A (i+2) (sk j (sk l k))))=_;rw[<- Hc,<- Hc]
 rw[e];refine dbl fun j l hl hj=>?_
 have s1:sk j l=l:=by unfold sk;rw[if_pos hl]
 have s2:sk l (j-1)=j:=by unfold sk;rw[if_neg (by omega)];omega
 have s3:(fun i k=>A (i+2) (sk l (sk (j-1) k)))=fun i k=>A (i+2) (sk j (sk l k)):=by
  funext i k
  rw[Xw hl]
 rw[s1,s2,s3,<- h j (by omega),<- h l (by omega)];have s4:sg j = - sg (j-1):=by rw[<- Gs,iw (by omega)]
 rw[s4];generalize det n (fun i k=>A (i+2) (sk j (sk l k)))=d
 grind
theorem alt:∀ {n i:Nat} {A:Mx},i+1<n->(∀ k,k<n->A i k=A (i+1) k)->det n A=0
 | n+2,0,A,_,h=>Zu h
 | n+1,i+1,A,hi,h=>by
  refine lG fun j _=>?_
  rw[alt (n:=n) (i:=i) (A:=fun a k=>A (a+1) (sk j k)) (by omega) fun k hk=>h (sk j k) (Lp hk),g8,g8]
def tr (p i:Nat):Nat:=if i=p then p+1 else if i=p+1 then p else i
theorem qF {u v:Nat->Int}(h:i≠j):bZ (bZ A i u) j v=bZ (bZ A j v) i u:=by
 funext a k
 unfold bZ;by_cases h1:a=i
 ·rw[if_neg (by omega),if_pos h1,if_pos h1]
 ·by_cases h2:a=j
  ·rw[if_pos h2,if_neg h1,if_pos h2]
  ·rw[if_neg h2,if_neg h1,if_neg h1,if_neg h2]
theorem zM {u v:Nat->Int}(h:i<n):det n (bZ A i fun k=>u k+v k)=det n (bZ A i u)+det n (bZ A i v):=by
 have:=nM (c:=1) (A:=A) (u:=u) (v:=v) h
 rw[jo] at this;rw[<- this]
 congr 2
 funext k
 omega
theorem jR (u:Nat->Int)(h:∀ k,u k=A i k):det n (bZ A i u)=det n A:=bQ fun a k _ _=>by
 unfold bZ;by_cases e:a=i
 ·rw[if_pos e,h,e]
 ·rw[if_neg e]
theorem swap (h:p+1<n):det n (fun i k=>A (tr p i) k) = - det n A:=by
 have D:∀ x y:Nat->Int,∃ d,det n (bZ (bZ A p x) (p+1) y)=d:=fun _ _=>⟨_,rfl⟩
 have z:∀ w:Nat->Int,det n (bZ (bZ A p w) (p+1) w)=0:=fun w=>alt h fun k _=>by rw[kK (by omega),mB,mB]
 have l2:∀ x y y':Nat->Int,det n (bZ (bZ A p x) (p+1) fun k=>y k+y' k)=det n (bZ (bZ A p x) (p+1) y)+det n (bZ (bZ A p x) (p+1) y'):=fun x y y'=>zM h
 have l1:∀ x x' y:Nat->Int,det n (bZ (bZ A p fun k=>x k+x' k) (p+1) y)=det n (bZ (bZ A p x) (p+1) y)+det n (bZ (bZ A p x') (p+1) y):=fun x x' y=>by
  rw[qF (by omega),qF (u:=x) (by omega),qF (u:=x') (by omega)];exact zM (by omega)
 have e0:=z fun k=>A p k+A (p+1) k
 rw[l2,l1,l1,z,z] at e0;have e1:det n (bZ (bZ A p (A p)) (p+1) (A (p+1)))=det n A:=by
  rw[jR _ (fun k=>by rw[kK (by omega)]),jR _ (fun k=>rfl)]
 have e2:det n (bZ (bZ A p (A (p+1))) (p+1) (A p))=det n fun i k=>A (tr p i) k:=by
  refine bQ fun a k _ _=>?_
  unfold bZ tr;by_cases h1:a=p+1
  ·rw[if_pos h1,if_neg (by omega),if_pos h1]
  ·rw[if_neg h1]
   by_cases h2:a=p
   ·rw[if_pos h2,if_pos h2]
   ·rw[if_neg h2,if_neg h2,if_neg h1]
 rw[e1,e2] at e0;omega
theorem sJ:∀ (d:Nat) {i:Nat} {A:Mx},i+1+d<n->(∀ k,k<n->A i k=A (i+1+d) k)->det n A=0
 | 0,i,A,hi,h=>alt hi h
 | d+1,i,A,hi,h=>by
  have h2:=sJ d (i:=i) (A:=fun a k=>A (tr (i+1+d) a) k) (by omega) fun k hk=>by
   show A (tr (i+1+d) i) k=A (tr (i+1+d) (i+1+d)) k;unfold tr;rw[if_neg (by omega),if_neg (by omega),if_pos rfl];exact h k hk
  rw[swap (by omega)] at h2;omega
theorem Vs {t:Int}(h0:0<i)(h:i<n):det n (bZ A i fun k=>A i k-t*A 0 k)=det n A:=by
 have e:=nM (c:=-t) (A:=A) (u:=A i) (v:=A 0) h;rw[jR (A i) fun _=>rfl,sJ (i-1) (i:=0) (A:=bZ A i (A 0)) (by omega) fun k _=>?_,g8,re] at e
 ·rw[<- e]
  congr 2
  funext k
  rw[sv];omega
 ·rw[kK (by omega),show 0+1+(i-1)=i by omega,mB]
theorem Qk {t:Nat->Int}:∀ {m:Nat},m<=n->det n (fun i k=>if 0<i∧i<m then A i k-t i*A 0 k else A i k)=det n A
 | 0,_=>bQ fun i k _ _=>if_neg (by omega)
 | m+1,hm=>by
  rw[<- Qk (m:=m) (by omega)];by_cases h0:m=0
  ·subst h0
   exact bQ fun i k _ _=>by rw[if_neg (by omega),if_neg (by omega)]
  ·rw[<- Vs (A:=fun i k=>if 0<i∧i<m then A i k-t i*A 0 k else A i k) (i:=m) (t:=t m) (by omega) (by omega)]
   refine bQ fun i k _ _=>?_
   unfold bZ
   dsimp only
   by_cases h1:i=m
   ·subst h1
    rw[if_pos rfl,if_pos (by omega),if_neg (by omega),if_neg (by omega)]
   ·rw[if_neg h1]
    by_cases h2:0<i∧i<m
    ·rw[if_pos h2,if_pos (by omega)]
    ·rw[if_neg h2,if_neg (by omega)]
theorem Vx:∀ {n:Nat} {A:Mx},(∀ i,i<n+1->A i 0=0)->det (n+1) A=0
 | n,A,h=>by
  refine lG fun j hj=>?_
  cases j with
  | zero=>rw[h 0 (by omega),oa,g8]
  | succ j =>
   cases n with
   | zero=>omega
   | succ n=>rw[Vx (n:=n) (A:=fun i k=>A (i+1) (sk (j+1) k)) fun i hi=>h (i+1) (by omega),g8,g8]
theorem Xr (h:∀ i,i<n->A (i+1) 0=0):det (n+1) A=A 0 0*det n fun i k=>A (i+1) (k+1):=by
 show dS (n+1) _=_;rw[xK fun j h0 hj=>?_]
 ·show sg 0*(A 0 0*det n fun i k=>A (i+1) (sk 0 k))=_
  rw[show sg 0=1 from rfl,jo];rfl
 ·cases n with
  | zero=>omega
  | succ n =>
   rw[Vx (A:=fun i k=>A (i+1) (sk j k)) fun i hi=>by
    show A (i+1) (sk j 0)=0;rw[show sk j 0=0 by unfold sk;rw[if_pos h0]];exact h i hi,g8,g8]
def Cg (m a b:Int):Prop:=m∣a-b
theorem Cg.refl (a:Int):Cg m a a:=by unfold Cg;rw[Int.sub_self];exact Int.dvd_zero m
theorem Cg.symm {a b:Int}(h:Cg m a b):Cg m b a:=by
 unfold Cg at *;rw[<- Int.neg_sub];exact pj.mpr h
theorem Cg.trans {a b d:Int}(h:Cg m a b)(g:Cg m b d):Cg m a d:=by
 unfold Cg at *;rw[show a-d=(a-b)+(b-d) by omega];exact sw h g
theorem Cg.add {a b a' b':Int}(h:Cg m a b)(g:Cg m a' b'):Cg m (a+a') (b+b'):=by
 unfold Cg at *;rw[show a+a'-(b+b')=(a-b)+(a'-b') by omega];exact sw h g
theorem Cg.mul {a b a' b':Int}(h:Cg m a b)(g:Cg m a' b'):Cg m (a*a') (b*b'):=by
 unfold Cg at *;rw[show a*a'-b*b'=(a-b)*a'+b*(a'-b') by rw[m6,Int.mul_sub];omega];exact sw (nj h) (na g)
theorem Cg.sub {a b a' b':Int}(h:Cg m a b)(g:Cg m a' b'):Cg m (a-a') (b-b'):=by
 unfold Cg at *;rw[show a-a'-(b-b')=(a-b)-(a'-b') by omega];exact Int.dvd_sub h g
theorem Cg.neg {a b:Int}(h:Cg m a b):Cg m (-a) (-b):=by
 have:=(Cg.refl (m:=m) 0).sub h
 rwa [ma,ma] at this
theorem pH (a:Int):Cg m (a % m) a:=by
 unfold Cg;rw[Int.emod_def];rw[show a-m*(a/m)-a = -(m*(a/m)) by omega];exact pj.mpr (rf ..)
theorem Ql:∀ {n:Nat},(∀ j,j<n->Cg m (f j) (g j))->Cg m (dS n f) (dS n g)
 | 0,_=>Cg.refl _
 | n+1,h=>(Ql (n:=n) fun j hj=>h j (by omega)).add (h n (by omega))
theorem Aq:∀ {n:Nat} {A B:Mx},(∀ i k,i<n->k<n->Cg m (A i k) (B i k))->Cg m (det n A) (det n B)
 | 0,_,_,_=>Cg.refl _
 | n+1,A,B,h=>Ql fun j hj=>(Cg.refl _).mul ((h 0 j (by omega) hj).mul (Aq fun i k hi hk=>h (i+1) (sk j k) (by omega) (Lp hk)))
theorem Ms {t:Nat->Int}(h:∀ i,i<n->m∣A (i+1) 0-t i*A 0 0):Cg m (det (n+1) A) (A 0 0*det n fun i k=>A (i+1) (k+1)-t i*A 0 (k+1)):=by
 rw[<- Qk (n:=n+1) (A:=A) (t:=fun i=>t (i-1)) (m:=n+1) (ah _)];refine (Aq (B:=fun i k=>if i=0 then A 0 k else if k=0 then 0 else A i k-t (i-1)*A 0 k) fun i k hi hk=>?_).trans ?_
 ·by_cases h0:i=0
  ·subst h0
   rw[if_neg (by omega),if_pos rfl];exact Cg.refl _
  ·rw[if_pos (by omega),if_neg h0]
   by_cases hk0:k=0
   ·subst hk0
    rw[if_pos rfl]
    have:=h (i-1) (by omega)
    rw[show i-1+1=i by omega] at this;unfold Cg;rw[me];exact this
   ·rw[if_neg hk0]
    exact Cg.refl _
 ·rw[Xr fun i _=>by rw[if_neg (by omega),if_pos rfl]]
  rw[if_pos rfl];have e:det n (fun i k=>if i+1=0 then A 0 (k+1) else if k+1=0 then 0 else A (i+1) (k+1)-t (i+1-1)*A 0 (k+1))=det n fun i k=>A (i+1) (k+1)-t i*A 0 (k+1):=bQ fun i k _ _=>by rw[if_neg (by omega),if_neg (by omega)];rfl
  rw[e];exact Cg.refl _
def mv (p:Nat)(A:Mx):Mx:=fun i k=>if i=0 then A p k else if i<=p then A (i-1) k else A i k
theorem Oy:∀ {p:Nat} {A:Mx},p<n->det n (mv p A)=sg p*det n A
 | 0,A,h=>by
  rw[show sg 0=1 from rfl,jo];exact bQ fun i k _ _=>by
   unfold mv;by_cases h0:i=0
   ·rw[if_pos h0,h0]
   ·rw[if_neg h0,if_neg (by omega)]
 | p+1,A,h=>by
  have ih:=Oy (p:=p) (A:=fun i k=>A (tr p i) k) (by omega);rw[swap h] at ih;rw[Gs,sv,<- Int.mul_neg,<- ih];refine bQ fun i k _ _=>?_
  unfold mv tr
  dsimp only
  by_cases h0:i=0
  ·rw[if_pos h0,if_pos h0,if_pos rfl]
  ·rw[if_neg h0,if_neg h0]
   by_cases h1:i<=p
   ·rw[if_pos (by omega),if_pos h1,if_neg (by omega),if_neg (by omega)]
   ·by_cases h2:i=p+1
    ·subst h2
     rw[if_pos (by omega),if_neg (by omega),if_neg (by omega),if_pos rfl];rfl
    ·rw[if_neg (by omega),if_neg h1,if_neg (by omega),if_neg h2]
end
def sN:Nat->(Nat->Nat)->Nat
 | 0,_=>0
 | n+1,f=>sN n f+f n
def pN:Nat->(Nat->Nat)->Nat
 | 0,_=>1
 | n+1,f=>f 0*pN n fun i=>f (i+1)
section
variable {n N p q i j k l:Nat}{A B:Mx}{f g:Nat->Nat}{c m:Int}
theorem Ma:∀ {n:Nat},(∀ j,j<n->f j<=g j)->sN n f<=sN n g
 | 0,_=>ah _
 | n+1,h=>Nat.add_le_add (Ma fun j hj=>h j (by omega)) (h n (by omega))
theorem Fv {c:Nat}:∀ {n:Nat},sN n (fun j=>f j*c)=sN n f*c
 | 0=>by show 0=0*c;omega
 | n+1=>by
  show sN n (fun j=>f j*c)+f n*c=(sN n f+f n)*c;rw[Fv (n:=n),ia]
theorem Te:∀ {n:Nat} {f g:Nat->Nat},(∀ j,j<n->f j<=g j)->pN n f<=pN n g
 | 0,_,_,_=>ah _
 | n+1,f,g,h=>ib (h 0 (by omega)) (Te fun j hj=>h (j+1) (by omega))
theorem Gu {f:Nat->Int}:∀ {n:Nat},(dS n f).natAbs<=sN n fun j=>(f j).natAbs
 | 0=>ah _
 | n+1=>by
  have:=Gu (f:=f) (n:=n)
  have h2:=Int.natAbs_add_le (dS n f) (f n);show (dS n f+f n).natAbs<=sN n (fun j=>(f j).natAbs)+(f n).natAbs;omega
theorem Tz {f:Nat->Nat}{j:Nat}:∀ {n:Nat},sN n (fun k=>f (sk j k))<=sN (n+1) f
 | 0=>b9 _
 | n+1=>by
  show sN n (fun k=>f (sk j k))+f (sk j n)<=sN (n+1) f+f (n+1);by_cases h:n<j
  ·have e:∀ m,m<=n+1->sN m (fun k=>f (sk j k))=sN m f:=fun m=>by
    induction m with
    | zero=>intro _;rfl
    | succ m ih =>
     intro hm;show sN m (fun k=>f (sk j k))+f (sk j m)=sN m f+f m;rw[ih (by omega),show sk j m=m by unfold sk;rw[if_pos (by omega)]]
   have:=e (n+1) (ah _)
   have e2:sN (n+1) (fun k=>f (sk j k))=sN n (fun k=>f (sk j k))+f (sk j n):=rfl;omega
  ·have:=Tz (j:=j) (f:=f) (n:=n)
   rw[show sk j n=n+1 by unfold sk;rw[if_neg h]];omega
theorem Vv:(sg j).natAbs=1:=by unfold sg;split <;> rfl
theorem yA:∀ {n:Nat} {A:Mx},(det n A).natAbs<=pN n fun i=>sN n fun k=>(A i k).natAbs
 | 0,_=>ah _
 | n+1,A=>by
  refine az Gu ?_;show _<=sN (n+1) (fun k=>(A 0 k).natAbs)*pN n fun i=>sN (n+1) fun k=>(A (i+1) k).natAbs
  rw[<- Fv];refine Ma fun j _=>?_
  rw[mo,mo,Vv,gy];exact jh _ (az yA (Te fun i _=>Tz (f:=fun k=>(A (i+1) k).natAbs)))
def ent (M:List (List Int)):Mx:=fun i k=>(M.getD i []).getD k 0
theorem xM {α:Type}{M:List α}{d:α}(i:Nat):(M.eraseIdx p).getD i d=M.getD (if i<p then i else i+1) d:=by
 rw[ak,ak,k8];split <;> rfl
theorem Sw {M:List (List Int)}{u:List Int->List Int}(h:i<M.length):(M.map u).getD i []=u (M.getD i []):=by
 rw[ak,ak,ag,ac h];rfl
theorem elim {M:List (List Int)}{top:List Int}{back:Int}{t:List Int->Int}{low:List Int->List Int}(hp:p<n+1)(hM:M.length=n+1)(htop:∀ k,k<n+1->Cg m (top.getD k 0) ((M.getD p []).getD k 0))(hb:Cg m (top.getD 0 0*back) 1)
  (ht:∀ r∈M,Cg m (t r) (r.getD 0 0*back)) (hlow:∀ r∈M,∀ k,k<n->(low r).getD k 0=r.getD (k+1) 0-t r*top.getD (k+1) 0):Cg m (det (n+1) (ent M)) (sg p*(top.getD 0 0*det n (ent ((M.eraseIdx p).map low)))):=by
 have e1:det (n+1) (ent M)=sg p*det (n+1) (mv p (ent M)):=by
  rw[Oy hp,<- dv,Yk,jo]
 have mem:∀ i,i<n->(M.eraseIdx p).getD i []∈M:=fun i hi=>by
  rw[xM];split
  ·rw[ak,ac (by omega)]
   exact di _
  ·rw[ak,ac (by omega)]
   exact di _
 have row:∀ i k,i<n->mv p (ent M) (i+1) k=((M.eraseIdx p).getD i []).getD k 0:=fun i k hi=>by
  unfold mv ent;rw[if_neg (by omega),xM];by_cases h:i<p
  ·rw[if_pos (by omega),if_pos h]
   rfl
  ·rw[if_neg (by omega),if_neg h]
 rw[e1];refine (Cg.refl _).mul ?_;refine (Aq (B:=fun i k=>if i=0 then top.getD k 0 else mv p (ent M) i k) fun i k hi hk=>?_).trans ?_
 ·by_cases h0:i=0
  ·subst h0
   rw[if_pos rfl];exact (htop k hk).symm
  ·rw[if_neg h0]
   exact Cg.refl _
 ·refine (Ms (t:=fun i=>t ((M.eraseIdx p).getD i [])) fun i hi=>?_).trans ?_
  ·rw[if_neg (by omega),if_pos rfl,row i 0 hi]
   have h1:=ht _ (mem i hi);have h2:=(h1.mul (Cg.refl (top.getD 0 0))).trans (b:=((M.eraseIdx p).getD i []).getD 0 0*back*top.getD 0 0) (d:=((M.eraseIdx p).getD i []).getD 0 0*1) (by
    rw[dv,g7 back];exact (Cg.refl _).mul hb)
   rw[lu] at h2;exact h2.symm
  ·rw[if_pos rfl]
   refine (Cg.refl _).mul ?_;rw[bQ (B:=ent ((M.eraseIdx p).map low)) fun i k hi hk=>?_]
   ·exact Cg.refl _
   ·rw[if_neg (by omega),if_pos rfl,row i (k+1) hi]
    unfold ent;rw[Sw (by rw[i9];split <;> omega),hlow _ (mem i hi) k hk]
theorem Yq {M:List (List Int)}(h:∀ r∈M,m∣r.getD 0 0)(hM:M.length=n+1):Cg m (det (n+1) (ent M)) 0:=by
 rw[<- Vx (n:=n) (A:=fun i k=>if k=0 then 0 else ent M i k) fun i _=>if_pos rfl];refine Aq fun i k hi hk=>?_
 by_cases hk0:k=0
 ·subst hk0
  rw[if_pos rfl];unfold Cg ent;rw[me];refine h _ ?_;rw[ak,ac (by omega)];exact di _
 ·rw[if_neg hk0]
  exact Cg.refl _
theorem Ri:∀ {r:List Int} {n:Nat},r.length=n->(((r.map fun x=>if x<0 then -x else x).sum:Int))=((sN n fun k=>(r.getD k 0).natAbs:Nat):Int):=by
 intro r
 induction r with
 | nil=>intro n h;subst h;rfl
 | cons x r ih =>
  intro n h;subst h;have key:∀ (n:Nat) (f:Nat->Nat),sN (n+1) f=f 0+sN n fun k=>f (k+1):=fun n=>by
   induction n with
   | zero=>intro f;show 0+f 0=f 0+0;omega
   | succ n ih2 =>
    intro f;show sN (n+1) f+f (n+1)=f 0+(sN n (fun k=>f (k+1))+f (n+1));rw[ih2];omega
  rw[au,cz,ih rfl,av,key];show (if x<0 then -x else x)+_=(((x.natAbs+sN r.length fun k=>(r.getD k 0).natAbs:Nat)):Int);rw[jv]
  congr 1
  split <;> omega
end
end Dt
namespace Wd
def bA (t:W)(n i:Nat):W:=(bu n).map fun k=>t.getD ((i+k) % t.length) 0
theorem gI (t:W)(n i:Nat):(bA t n i).length=n:=by rw[bA,aR,cn]
theorem vI {t:W}{n i k:Nat}(h:k<n)(ht:0<t.length):(bA t n i)[k]?=t[(i+k) % t.length]?:=by
 rw[bA,ag,ga h];show some (t.getD ((i+k) % t.length) 0)=_;rw[ak,ac (jc _ ht)];rfl
theorem qI {t:W}{n i:Nat}(h:i+n<=t.length):(t.drop i).take n=bA t n i:=by
 apply Gn
 ·rw[b8,bf,gI]
  omega
 ·intro k hk
  rw[b8,bf] at hk;rw[fb (by omega),gz,vI (by omega) (by omega),fc (by omega)]
theorem Qq {t:W}{n i c:Nat}(h:i+n<=c*t.length)(ht:0<t.length):((rep c t).drop i).take n=bA t n i:=by
 apply Gn
 ·rw[b8,bf,nY,gI]
  omega
 ·intro k hk
  rw[b8,bf,nY] at hk;rw[fb (by omega),gz,vI (by omega) ht,Su (by omega)]
def bJ (t:W)(n:Nat):List W:=(bu (t.length+1-n)).map (bA t n)
def cJ (t:W)(n:Nat):List W:=(bu t.length).map (bA t n)
def win (t:W)(n:Nat)(b:Bool):List W:=if b=true then cJ t n else bJ t n
theorem gN (t:W)(n:Nat):(cJ t n).length=t.length:=by rw[cJ,aR,cn]
theorem Bt (t:W)(n:Nat):(bJ t n).length=t.length+1-n:=by rw[bJ,aR,cn]
theorem Ft {t:W}{n i:Nat}:bA t n (i % t.length)=bA t n i:=by
 unfold bA;refine br fun k _=>?_
 rw[Nat.mod_add_mod]
theorem pP {t:W}{n i:Nat}(h:i<t.length):(cJ t n)[i]?=some (bA t n i):=by
 rw[cJ,ag,ga h];rfl
theorem gW:∀ {xs ys:List W},xs.Perm ys->xs.Pairwise (fun a b=>¬ b<a)->ys.Pairwise (fun a b=>¬ b<a)->xs=ys:=by
 intro xs ys h h1 h2;refine List.Perm.eq_of_pairwise ?_ h1 h2 h;intro a b _ _ z1 z2;exact lv a b z2 z1
end Wd
namespace Hg
variable {bg en:List Nat->List Nat}
inductive Rch (bg en:List Nat->List Nat)(ms:List (List Nat))(p:List Nat):List Nat->Prop
 | self:Rch bg en ms p p
 | fw {w:List Nat}:w∈ms->Rch bg en ms p (bg w)->Rch bg en ms p (en w)
 | bw {w:List Nat}:w∈ms->Rch bg en ms p (en w)->Rch bg en ms p (bg w)
def Cl (bg en:List Nat->List Nat)(ls:List (List Nat))(w:List Nat):Prop:=bg w∈ls↔en w∈ls
theorem Rch.inside {ms ls:List (List Nat)}{p z:List Nat}(hp:p∈ls)(hc:∀ w∈ms,Cl bg en ls w)(h:Rch bg en ms p z):z∈ls:=by
 induction h with
 | self=>exact hp
 | fw hw _ ih=>exact (hc _ hw).mp ih
 | bw hw _ ih=>exact (hc _ hw).mpr ih
def oA (ls:List (List Nat))(t:List Nat):List (List Nat):=if t∈ls then ls else ls++[t]
theorem lJ {ls:List (List Nat)}{t z:List Nat}:z∈oA ls t↔z∈ls∨z=t:=by
 unfold oA;split
 ·rename_i h
  exact⟨.inl,fun g=>g.elim id fun e=>e▸h⟩
 ·rw[bt,ax]
theorem Jh {ls:List (List Nat)}{t:List Nat}(h:ls.Nodup):(oA ls t).Nodup:=by
 unfold oA;split
 ·exact h
 ·rename_i g
  refine ge.mpr ⟨h,by simp,fun a ha b hb e=>?_⟩;rw[ax] at hb;exact g (hb▸e▸ha)
theorem Bh (ls:List (List Nat))(t:List Nat):ls <+: oA ls t:=by
 unfold oA;split
 ·exact sj _
 ·exact List.prefix_append ..
theorem nG (ls:List (List Nat))(t:List Nat):(oA ls t).length<=ls.length+1:=by
 unfold oA;split
 ·omega
 ·simp
structure Pass (bg en:List Nat->List Nat)(ms:List (List Nat))(p:List Nat)(fs:List (List Nat))(i:Nat)(ls:List (List Nat)):Prop where
 nd:ls.Nodup
 pre:fs <+: ls
 rch:∀ z∈ls,Rch bg en ms p z
 cl:ls.length=fs.length->∀ w∈ms.take i,Cl bg en fs w
theorem Pass.zero {ms fs:List (List Nat)}{p:List Nat}(nd:fs.Nodup)(rch:∀ z∈fs,Rch bg en ms p z):Pass bg en ms p fs 0 fs:=⟨nd,sj _,rch,fun _ w hw=>by rw[ix] at hw;cases hw⟩
theorem Dg {ms:List (List Nat)}{i:Nat}{w v:List Nat}(h:ms[i]?=some w)(hv:v∈ms.take (i+1)):v∈ms.take i∨v=w:=by
 rw[cx,h,bt] at hv;rcases hv with z | z
 ·exact .inl z
 ·exact .inr (by simpa using z)
theorem Pass.yes {ms fs ls:List (List Nat)}{p w:List Nat}{i:Nat}(h:Pass bg en ms p fs i ls)(hw:ms[i]?=some w)(hi:bg w∈ls∨en w∈ls):Pass bg en ms p fs (i+1) (oA (oA ls (bg w)) (en w)):=by
 have hm:=aq hw;have p1:=(Bh ls (bg w)).trans (Bh (oA ls (bg w)) (en w));refine⟨Jh (Jh h.nd),h.pre.trans p1,fun z hz=>?_,fun e v hv=>?_⟩
 ·rw[lJ,lJ] at hz
  have hb:Rch bg en ms p (bg w)∧Rch bg en ms p (en w):=by
   rcases hi with g | g
   ·exact⟨h.rch _ g,.fw hm (h.rch _ g)⟩
   ·exact⟨.bw hm (h.rch _ g),h.rch _ g⟩
  rcases hz with (z | rfl) | rfl
  ·exact h.rch _ z
  ·exact hb.1
  ·exact hb.2
 ·have l1:=h.pre.length_le
  have l2:=p1.length_le;have e1:ls.length=fs.length:=by omega
  rcases Dg hw hv with g | rfl
  ·exact h.cl e1 v g
  ·have q1:=h.pre.eq_of_length (by omega)
   have q2:=p1.eq_of_length (by omega);subst q1;have m1:bg v∈fs:=by rw[q2,lJ,lJ];exact .inl (.inr rfl)
   have m2:en v∈fs:=by rw[q2,lJ];exact .inr rfl
   exact⟨fun _=>m2,fun _=>m1⟩
theorem Pass.no {ms fs ls:List (List Nat)}{p w:List Nat}{i:Nat}(h:Pass bg en ms p fs i ls)(hw:ms[i]?=some w)(h1:¬ bg w∈ls)(h2:¬ en w∈ls):Pass bg en ms p fs (i+1) ls:=by
 refine⟨h.nd,h.pre,h.rch,fun e v hv=>?_⟩;rcases Dg hw hv with g | rfl
 ·exact h.cl e v g
 ·exact⟨fun z=>absurd (h.pre.subset z) h1,fun z=>absurd (h.pre.subset z) h2⟩
def Vu (bg en:List Nat->List Nat)(ms:List (List Nat)):List (List Nat):=ms.map bg++ms.map en
theorem Ej {ms:List (List Nat)}{p z:List Nat}(h:Rch bg en ms p z):z=p∨z∈Vu bg en ms:=by
 cases h with
 | self=>exact .inl rfl
 | fw hw _=>exact .inr (bt.mpr (.inr (gb hw)))
 | bw hw _=>exact .inr (bt.mpr (.inl (gb hw)))
theorem pJ {α:Type}[BEq α][LawfulBEq α]:∀ {ls ms:List α},ls.Nodup->(∀ z∈ls,z∈ms)->ls.length<=ms.length
 | [],_,_,_=>b9 _
 | a::ls,ms,h,hs=>by
  rw[cy] at h;have ha:=hs a (ar ..);have ih:=pJ (ls:=ls) (ms:=ms.erase a) h.2 fun z hz=>(pk (fun e:z=a=>h.1 (e▸hz))).mpr (hs z (am _ hz))
  have:=kl ha
  have:=fo ha
  rw[av];omega
theorem yQ {ms ls:List (List Nat)}{p:List Nat}(h:ls.Nodup)(hr:∀ z∈ls,Rch bg en ms p z):ls.length<=2*ms.length+1:=by
 have:=pJ (ms:=p::Vu bg en ms) h fun z hz=>aw.mpr (Ej (hr z hz))
 unfold Vu at this;rw[av,ai,aR,aR] at this;omega
end Hg
namespace Dt
def eB (N:Nat):Prop:=1<N∧∀ x,0<x->x<N->ji x N=1
section
variable {N F b d e n:Nat}
def pm (N:Nat):Nat->Nat->Nat->Nat
 | 0,_,_=>1 % N
 | f+1,b,e=>if e=0 then 1 % N else if e % 2=1 then b*pm N f (b*b % N) (e/2) % N else pm N f (b*b % N) (e/2)
theorem Dr (N b e:Nat):(b*b % N) ^ e % N=b ^ (2*e) % N:=by
 rw[<- sx,j9,Nat.pow_two]
theorem Jb:∀ (f b e:Nat),e<2 ^ f->pm N f b e=b ^ e % N
 | 0,b,e,h=>by
  obtain rfl:e=0:=by simpa using h
  rfl
 | f+1,b,e,h=>by
  unfold pm;by_cases h0:e=0
  ·rw[if_pos h0,h0,oe]
  ·rw[if_neg h0]
   have ih:=Jb f (b*b % N) (e/2) (by rw[gv] at h;omega);by_cases h1:e % 2=1
   ·rw[if_pos h1,ih,kc,sy,Dr,<- kc,de,<- gv]
    congr 2
    omega
   ·rw[if_neg h1,ih,Dr]
    congr 2
    omega
theorem Se {b d:Nat}(hd:1<d){x y:Nat}(hx:b ^ x % d=1)(hy:b ^ y % d=1):b ^ (y % x) % d=1:=by
 have e:b ^ y=(b ^ x) ^ (y/x)*b ^ (y % x):=by rw[<- j9,<- jp,jw]
 rw[e,kc,sx,hx,Nat.one_pow,fc hd,gy,sy] at hy;exact hy
theorem Ru {b d:Nat}(hd:1<d):∀ (x y:Nat),b ^ x % d=1->b ^ y % d=1->b ^ (ji x y) % d=1:=fun x y=>by
 induction x,y using Nat.gcd.induction with
 | H0 y=>intro _ h;rw[Nat.gcd_zero_left];exact h
 | H1 x y hx ih =>
  intro h1 h2;rw[pq];exact ih (Se hd h1 h2) h1
theorem rF (rs:List Nat)(hN:1<N)(hF:N<=F*F)(h1:b ^ F % N=1)(h2:∀ r∈rs,ji (b ^ (F/r) % N+(N-1)) N=1)(h3:∀ g,g∣F->g<F->∃ r∈rs,g∣F/r):eB N:=by
 have key:∀ d,d∣N->1<d->F<d:=fun d hdN hd=>by
  have hdF:b ^ F % d=1:=by
   have:=qo (b ^ F) hdN
   rw[h1,fc hd] at this;exact this.symm
  have no:∀ e,0<e->e<F->b ^ e % d≠1:=fun e he heF hc=>by
   have hg:=Ru hd e F hc hdF;have hgF:=j5 e F;have hge:ji e F<=e:=tu F he;obtain⟨r,hr,hgr⟩:=h3 _ hgF (by omega);obtain⟨q,hq⟩:=hgr;have hFr:b ^ (F/r) % d=1:=by rw[hq,j9,sx,hg,Nat.one_pow,fc hd]
   have hdd:d∣b ^ (F/r) % N+(N-1):=by
    have e1:b ^ (F/r) % N % d=1:=by rw[qo _ hdN];exact hFr
    refine jr ?_;have e2:(b ^ (F/r) % N+(N-1)) % d=(1+(N-1)) % d:=by rw[Nat.add_mod,e1,Nat.add_mod_mod]
    rw[e2,show 1+(N-1)=N by omega];exact Nat.mod_eq_zero_of_dvd hdN
   have:=Nat.dvd_gcd hdd hdN
   rw[h2 r hr] at this
   have:=uq (by omega) this
   omega
  have inj:((bu F).map fun i=>b ^ i % d).Nodup:=by
   refine ja.mpr (jd (fun {i j} hi hj hij he=>?_) js);have hj:j<F:=ck.mp hj;refine no (j-i) (by omega) (by omega) ?_;have a1:b ^ (F-i)*b ^ i % d=1:=by rw[<- jp,iw (by omega)];exact hdF
   have a2:b ^ (F-i)*b ^ j % d=b ^ (j-i) % d:=by
    rw[<- jp,show F-i+j=F+(j-i) by omega,jp,kc,hdF,gy,sy]
   rw[<- a2,kc,<- he,<- kc];exact a1
  have sub:∀ z∈(bu F).map (fun i=>b ^ i % d),z∈pw 1 (d-1):=fun z hz=>by
   obtain⟨i,hi,rfl⟩:=a5.mp hz;have hi:i<F:=ck.mp hi;rw[List.mem_range'_1];have hlt:=jc (b ^ i) (show d>0 by omega);have hnz:b ^ i % d≠0:=fun z=>by
    have a1:b ^ (F-i)*b ^ i % d=1:=by rw[<- jp,iw (by omega)];exact hdF
    rw[kc,z,Nat.mul_zero,Nat.zero_mod] at a1;cases a1
   omega
  have:=Hg.pJ inj sub
  rw[aR,cn,qp] at this;omega
 refine⟨hN,fun x h0 hx=>?_⟩;refine bc fun hg=>?_
 have hgN:=j5 x N;have hgx:ji x N<=x:=tu N h0;have hgp:0<ji x N:=Nat.gcd_pos_of_pos_left N h0;obtain⟨c,hc⟩:=hgN;have k1:=key _ (j5 x N) (by omega);have hc1:1<c:=by
  rcases fq 1 c with z | z
  ·exact z
  ·have:ji x N*c<=ji x N*1:=jh _ z
   omega
 have k2:=key c ⟨_,by rw[de];exact hc⟩ hc1
 have:=Nat.mul_lt_mul'' k1 k2
 omega
theorem Lv {k g:Nat}(h:g∣2 ^ (k+1))(hl:g<2 ^ (k+1)):g∣2 ^ (k+1)/2:=by
 obtain⟨c,hc⟩:=h;have hc2:c % 2=0:=by
  refine bc fun z=>?_
  have hco:Nat.Coprime c 2:=by
   show ji c 2=1;rw[Nat.gcd_comm,pq,show c % 2=1 by omega];rfl
  have h1:=Nat.Coprime.pow_right (k+1) hco;have h2:c∣2 ^ (k+1):=⟨g,by rw[hc,de]⟩;have h3:=Nat.Coprime.eq_one_of_dvd h1 h2;rw[h3,p0] at hc;omega
 refine⟨c/2,?_⟩;rw[hc]
 have:c=2*(c/2):=by omega
 rw[Nat.mul_div_assoc _ (jr hc2)]
theorem tV (h k:Nat)(hh:h<2 ^ (k+1))(h0:0<h)(hp:pm (h*2 ^ (k+1)+1) (k+1+k+1) 3 (h*2 ^ k)=h*2 ^ (k+1)):eB (h*2 ^ (k+1)+1):=by
 have hpos:0<2 ^ k:=lw (by decide);have hs:2 ^ (k+1)=2*2 ^ k:=by rw[gv,de]
 have hN:1<h*2 ^ (k+1)+1:=by have:=Nat.mul_pos h0 (lw (n:=k+1) (show 0<2 by decide));omega
 have hlt:h*2 ^ k<2 ^ (k+1+k+1):=by
  have:=Nat.mul_lt_mul_of_lt_of_le hh (ah (2 ^ k)) hpos
  rw[<- jp] at this;exact rg this (lx (by decide) (by omega))
 rw[Jb _ _ _ hlt] at hp;refine rF (F:=2 ^ (k+1)) (b:=3 ^ h) [2] hN ?_ ?_ ?_ fun g hg hl=>⟨2,by simp,Lv hg hl⟩
 ·have:=gq (2 ^ (k+1)) (show h+1<=2 ^ (k+1) from hh)
  rw[ia] at this
  have:=lw (n:=k+1) (show 0<2 by decide)
  omega
 ·have e3:3 ^ (h*2 ^ (k+1))=3 ^ (h*2 ^ k)*3 ^ (h*2 ^ k):=by
   rw[hs,show h*(2*2 ^ k)=h*2 ^ k*2 by rw[de 2,eg],j9,Nat.pow_two]
  rw[<- j9,e3,kc,hp];have e:∀ x:Nat,0<x->x*x % (x+1)=1:=fun x hx=>by
   rw[show x*x=1+(x+1)*(x-1) by
    have:x*x=(x-1+1)*x:=by rw[iw hx]
    have h2:(x+1)*(x-1)=x*(x-1)+(x-1):=by rw[ia,gy]
    have h3:x*x=x*(x-1)+x:=by
     have:x*x=x*(x-1+1):=by rw[iw hx]
     rw[this,tf,p0]
    omega,Nat.add_mul_mod_self_left,fc (by omega)]
  exact e _ (Nat.mul_pos h0 (lw (by decide)))
 ·intro r hr
  obtain rfl:=ax.mp hr;rw[<- j9,hs,nk _ (by decide),<- hs,hp,qm];have e:∀ x:Nat,x % 2=0->ji (x+x) (x+1)=1:=fun x hx=>by
   have:ji (x+x) (x+1)∣2:=by
    have a1:=Nat.gcd_dvd_left (x+x) (x+1);have a2:=j5 (x+x) (x+1);have a3:=Nat.dvd_sub (Nat.dvd_mul_left_of_dvd a2 2) a1;rw[show 2*(x+1)-(x+x)=2 by omega] at a3;exact a3
   have hle:=uq (by decide) this;have hpos:=Nat.gcd_pos_of_pos_right (x+x) (show 0<x+1 by omega);rcases fq (ji (x+x) (x+1)) 2 with z | z
   ·omega
   ·have e2:ji (x+x) (x+1)=2:=by omega
    have a2:=j5 (x+x) (x+1);rw[e2] at a2;omega
  refine e _ ?_;rw[hs,<- eg,de h 2,eg];exact Nat.mul_mod_right ..
theorem Xi:eB (133*2 ^ 192+1):=tV 133 191 (by decide +kernel) (by decide) (by decide +kernel)
def Ef (N:Nat):Bool:=decide (1<N)&&(bu N).all fun x=>x==0||ji x N==1
theorem Jx (h:Ef N=true):eB N:=by
 unfold Ef at h;rw[df,decide_eq_true_iff,d8] at h;refine⟨h.1,fun x h0 hx=>?_⟩
 have:=h.2 x (ck.mpr hx)
 rw[jx,beq_iff_eq,beq_iff_eq] at this;omega
theorem eB.cop {r c:Nat}(h:eB r)(hc:¬ r∣c):Nat.Coprime c r:=by
 show ji c r=1;rw[Nat.gcd_comm,pq];have h1:=h.1;exact h.2 (c % r) (kx fun z=>hc (jr z)) (jc _ (by omega))
theorem Bb:∀ (rs:List Nat),(∀ r∈rs,eB r)->∀ c,c∣rs.prod->c≠1->∃ r∈rs,r∣c
 | [],_,c,h,h1=>absurd (Nat.eq_one_of_dvd_one h) h1
 | r::rs,hp,c,h,h1=>by
  by_cases hr:r∣c
  ·exact⟨r,by simp,hr⟩
  ·rw[List.prod_cons] at h
   obtain⟨r',h2,h3⟩:=Bb rs (fun x hx=>hp x (am _ hx)) c (Nat.Coprime.dvd_of_dvd_mul_left ((hp r (by simp)).cop hr) h) h1;exact⟨r',am _ h2,h3⟩
theorem aAI:eB 2305843009213693951:=by
 have ps:∀ r∈[61,151,331,1321],eB r:=fun r hr=>Jx (by
  have:∀ r∈[61,151,331,1321],Ef r=true:=by decide +kernel
  exact this r hr)
 refine rF (F:=4027518961) (b:=429339995019680672) [61,151,331,1321] (by decide) (by decide) ?_ ?_ fun g hg hl=>?_
 ·rw[<- Jb 32 _ _ (by decide)]
  decide +kernel
 ·intro r hr
  have key:∀ r∈[61,151,331,1321],ji (pm 2305843009213693951 32 429339995019680672 (4027518961/r)+(2305843009213693951-1)) 2305843009213693951=1:=by decide +kernel
  rw[<- Jb 32 _ _ (gk (ox _ _) (by decide))];exact key r hr
 ·obtain⟨c,hc⟩:=hg
  have hF:([61,151,331,1321]:List Nat).prod=4027518961:=by decide
  obtain⟨r,hr,q,rfl⟩:=Bb _ ps c (by rw[hF];exact⟨g,by rw[hc,de]⟩) fun z=>by rw[z,p0] at hc;omega
  have h0:=(ps r hr).1;refine⟨r,hr,q,?_⟩;rw[hc,show g*(r*q)=r*(g*q) by rw[<- eg,de g r,eg],nk _ (by omega)]
theorem Xj:eB (211*2 ^ 192+1):=tV 211 191 (by decide +kernel) (by decide) (by decide +kernel)
theorem Xc:eB (598*2 ^ 192+1):=tV 598 191 (by decide +kernel) (by decide) (by decide +kernel)
theorem Yo:eB (652*2 ^ 192+1):=tV 652 191 (by decide +kernel) (by decide) (by decide +kernel)
theorem Xo:eB (721*2 ^ 192+1):=tV 721 191 (by decide +kernel) (by decide) (by decide +kernel)
theorem Yh:eB (850*2 ^ 192+1):=tV 850 191 (by decide +kernel) (by decide) (by decide +kernel)
theorem Uf:eB (1282*2 ^ 192+1):=tV 1282 191 (by decide +kernel) (by decide) (by decide +kernel)
structure Euc (pr:Nat)(num:Int)(last rest:Nat)(lt t:Int):Prop where
 pos:1<=rest
 lp:1<=last
 cop:ji rest last=1
 ct:Cg pr (t*num) rest
 cl:Cg pr (lt*num) last
 bd:t.natAbs*last+lt.natAbs*rest<=pr
theorem Euc.init {pr:Nat}{num:Int}{r:Nat}(h:eB pr)(hr:num % pr=r)(h0:r≠0):Euc pr num pr r 0 1:=by
 have h1:=h.1;have hlt:(r:Int)<pr:=by rw[<- hr];exact dk _ (by omega)
 refine⟨by omega,by omega,h.2 r (by omega) (by omega),?_,?_,by simp⟩
 ·rw[jo,<- hr]
  exact (pH num).symm
 ·rw[oa]
  unfold Cg;rw[ma];exact pj.mpr (Int.dvd_refl _)
theorem Euc.step {pr:Nat}{num:Int}{last rest:Nat}{lt t:Int}(h:Euc pr num last rest lt t)(h1:rest≠1):Euc pr num rest (last % rest) t (lt-(last/rest:Nat)*t):=by
 have hp:=h.pos;have hd:=jw last rest;have hd2:((last:Nat):Int)=rest*(last/rest:Nat)+(last % rest:Nat):=by exact_mod_cast hd.symm
 refine⟨?_,hp,?_,?_,h.ct,?_⟩
 ·refine kx fun z=>h1 ?_
  have:=h.cop
  rw[Nat.gcd_eq_left (jr z)] at this;exact this
 ·rw[<- pq]
  exact h.cop
 ·have e:(lt-(last/rest:Nat)*t)*num=lt*num-(last/rest:Nat)*(t*num):=by rw[m6,dv]
  rw[e,show ((last % rest:Nat):Int)=(last:Int)-(last/rest:Nat)*(rest:Int) by rw[hd2,g7];omega];exact h.cl.sub ((Cg.refl _).mul h.ct)
 ·have hb:=h.bd
  have a1:(lt-(last/rest:Nat)*t).natAbs<=lt.natAbs+(last/rest)*t.natAbs:=by
   have:=rh lt ((last/rest:Nat)*t)
   rw[mo,fj] at this;exact this
  have a2:=gq rest a1;rw[ia] at a2;have a3:t.natAbs*last=(last/rest)*t.natAbs*rest+t.natAbs*(last % rest):=by
   conv=>lhs;rw[<- hd,tf,<- eg,de t.natAbs rest,eg,de rest]
   rw[de t.natAbs]
  omega
theorem Euc.tle {pr:Nat}{num:Int}{last rest:Nat}{lt t:Int}(h:Euc pr num last rest lt t):t.natAbs<=pr∧lt.natAbs<=pr:=by
 have hb:=h.bd;have h1:=jh t.natAbs h.lp;have h2:=jh lt.natAbs h.pos;omega
theorem Euc.fin {pr:Nat}{num:Int}{last rest:Nat}{lt t:Int}(h:Euc pr num last rest lt t)(h1:rest=1):Cg pr (t % pr*num) 1:=by
 have:=h.ct
 rw[h1] at this;exact ((pH t).mul (Cg.refl num)).trans this
theorem crt {M1 pr:Nat}{D res r2 inv:Int}(hM:0<M1)(hp:0<pr)(h1:Cg M1 res D)(h2:Cg pr r2 D)(hi:Cg pr (inv*M1) 1)(h0:0<=res∧res<M1):Cg (M1*pr:Nat) (res+(r2-res)*inv % pr*M1) D∧0<=res+(r2-res)*inv % pr*M1∧res+(r2-res)*inv % pr*M1<(M1*pr:Nat):=by
 have e0:=d0 ((r2-res)*inv) (show (pr:Int)≠0 by omega);have e1:=dk ((r2-res)*inv) (show (0:Int)<pr by omega);have hc:=pH (m:=pr) ((r2-res)*inv);generalize (r2-res)*inv % pr=q at e0 e1 hc;refine⟨?_,?_,?_⟩
 ·have a1:Cg M1 (res+q*M1) D:=by
   have:Cg M1 (q*M1) 0:=by
    unfold Cg;rw[me];exact Int.dvd_mul_left ..
   have:=h1.add this
   rwa [re] at this
  have a2:Cg pr (res+q*M1) D:=by
   have b1:Cg pr (q*M1) (r2-res):=by
    refine (hc.mul (Cg.refl (M1:Int))).trans ?_;rw[dv]
    have:=(Cg.refl (m:=pr) (r2-res)).mul hi
    rwa [lu] at this
   have:=(Cg.refl (m:=pr) res).add b1
   rw[show res+(r2-res)=r2 by omega] at this;exact this.trans h2
  unfold Cg at a1 a2 hi ⊢;obtain⟨x,hx⟩:=a1;rw[hx] at a2 ⊢;have a3:(pr:Int)∣x:=by
   have c1:(pr:Int)∣inv*(M1*x):=na a2;have c2:(pr:Int)∣(inv*M1-1)*x:=nj hi
   have:=Int.dvd_sub c1 c2
   rw[show inv*(M1*x)-(inv*M1-1)*x=x by rw[m6,dv];omega] at this;exact this
  obtain⟨y,rfl⟩:=a3;refine⟨y,?_⟩;rw[<- dv,fk]
 ·have:=Int.mul_nonneg e0 (show (0:Int)<=M1 by omega)
  omega
 ·have a:=ll (show q<=(pr:Int)-1 by omega) (show (0:Int)<=M1 by omega)
  rw[m6,jo] at a;rw[fk,g7 (M1:Int)];omega
theorem Jm {M:Nat}{D res bd:Int}(hm:2*bd<M)(hD : -bd<=D∧D<=bd)(h:Cg M res D)(h0:0<=res∧res<M):(if bd<res then res-M else res)=D:=by
 obtain⟨k,hk⟩:=h;have k0:k=0∨k=1:=by
  rcases Int.lt_or_le k 0 with z | z
  ·have:=ly (show k<=-1 by omega) (show (0:Int)<=M by omega)
   omega
  ·rcases Int.lt_or_le 1 k with y | y
   ·have:=ly (show 2<=k by omega) (show (0:Int)<=M by omega)
    omega
   ·omega
 rcases k0 with rfl | rfl
 ·rw[g8] at hk
  rw[if_neg (by omega)];omega
 ·rw[lu] at hk
  rw[if_pos (by omega)];omega
end
theorem Lo {pr p:Nat}{rest top0 inv dN dM D:Int}(hr:0<rest∧rest<pr)(hi:Cg pr (inv*top0) 1)(hE:Cg pr dN (sg p*(top0*dM)))(hD:Cg pr (rest*dN) D) :
  (0<(if p % 2=1 then (pr:Int)-rest*top0 % pr else rest*top0 % pr)∧(if p % 2=1 then (pr:Int)-rest*top0 % pr else rest*top0 % pr)<pr)∧Cg pr ((if p % 2=1 then (pr:Int)-rest*top0 % pr else rest*top0 % pr)*dM) D:=by
 have h0:=d0 (rest*top0) (show (pr:Int)≠0 by omega);have h1:=dk (rest*top0) (show (0:Int)<pr by omega);have hc:=pH (m:=pr) (rest*top0);have hnz:rest*top0 % pr≠0:=fun z=>by
  rw[z] at hc;have a1:=(hc.mul (Cg.refl (m:=pr) inv));rw[oa,dv,g7 top0] at a1;have a2:=(Cg.refl (m:=pr) rest).mul hi;rw[lu] at a2;have a3:=a1.trans a2;unfold Cg at a3;rw[ma] at a3
  have:=Int.le_of_dvd hr.1 (pj.mp a3)
  omega
 generalize rest*top0 % pr=x at h0 h1 hc hnz;have key:Cg pr (x*dM) (rest*(top0*dM)):=by
  rw[<- dv];exact hc.mul (Cg.refl _)
 have hE2:=((Cg.refl (m:=pr) rest).mul hE).symm.trans hD;by_cases hp:p % 2=1
 ·rw[if_pos hp]
  have hs:sg p = -1:=by unfold sg;rw[if_neg (by omega)]
  rw[hs] at hE2;refine⟨⟨by omega,by omega⟩,?_⟩;have a1:Cg pr (((pr:Int)-x)*dM) (-(x*dM)):=by
   unfold Cg;rw[m6,show (pr:Int)*dM-x*dM - -(x*dM)=pr*dM by omega];exact rf ..
  refine a1.trans (key.neg.trans ?_);rw[show -(rest*(top0*dM))=rest*(-1*(top0*dM)) by rw[sv,jo,Int.mul_neg]];exact hE2
 ·rw[if_neg hp]
  have hs:sg p=1:=by unfold sg;rw[if_pos (by omega)]
  rw[hs,jo] at hE2;exact⟨⟨by omega,h1⟩,key.trans hE2⟩
def pL:List Nat->Nat
 | []=>1
 | x::l=>x*pL l
theorem Hn (x:Nat):∀ l:List Nat,pL (l++[x])=pL l*x
 | []=>by show x*1=1*x;omega
 | y::l=>by
  show y*pL (l++[x])=y*pL l*x;rw[Hn x l,eg]
theorem Ml {R:Nat}:∀ {l:List Nat},(∀ x∈l,x<=R)->pL l<=R ^ l.length
 | [],_=>ah _
 | y::l,h=>by
  show y*pL l<=R ^ (l.length+1);rw[gv,de];exact ib (Ml fun x hx=>h x (am _ hx)) (h y (ar ..))
def rs (n:Nat)(r:List Int):Nat:=sN n fun k=>(r.getD k 0).natAbs
theorem Uc (n:Nat):∀ M:List (List Int),pN M.length (fun i=>sN n fun k=>(ent M i k).natAbs)=pL (M.map (rs n))
 | []=>rfl
 | r::M=>by
  show (sN n fun k=>(ent (r::M) 0 k).natAbs)*pN M.length (fun i=>sN n fun k=>(ent (r::M) (i+1) k).natAbs)=rs n r*pL (M.map (rs n));rw[<- Uc n M];rfl
theorem Nz {f:Nat->Nat}:∀ {n k:Nat},k<n->f k<=sN n f
 | n+1,k,h=>by
  show f k<=sN n f+f n;rcases fq k n with z | z
  ·have:=Nz (f:=f) z
   omega
  ·rw[show k=n by omega]
   omega
theorem Uu {n:Nat}{r:List Int}(hl:r.length=n){x:Int}(hx:x∈r):x.natAbs<=rs n r:=by
 obtain⟨k,hk⟩:=ic hx;have hkl:=(al.mp hk).1
 have:=Nz (f:=fun k=>(r.getD k 0).natAbs) (n:=n) (k:=k) (by omega)
 rw[ak,hk] at this;exact this
theorem Vb {M:List (List Int)}{n:Nat}(h:M.length=n):(det n (ent M)).natAbs<=pL (M.map (rs n)):=by
 rw[<- Uc,h];exact yA
def kn:List Nat:=[133,211,598,652,721,850,1282]
def pr (j:Nat):Nat:=kn.getD j 0*2 ^ 192+1
def md:Nat->Nat
 | 0=>2305843009213693951
 | j+1=>md j*pr j
theorem Qb:∀ {j:Nat},j<7->eB (pr j)
 | 0,_=>Xi
 | 1,_=>Xj
 | 2,_=>Xc
 | 3,_=>Yo
 | 4,_=>Xo
 | 5,_=>Yh
 | 6,_=>Uf
 | j+7,h=>by omega
theorem Zb:∀ j,j<7->pr j<2 ^ 250∧md j % pr j≠0∧md j<2 ^ 1600∧md (j+1)<2 ^ 1800:=by decide +kernel
section
variable {n m p q i j k l:Nat}{A B T U:Mx}{f g:Nat->Int}{c:Nat->Int}
theorem De (h:i<n):det n (bZ A i fun _=>0)=0:=by
 have e:=nM (c:=1) (A:=A) (u:=fun _=>0) (v:=fun _=>0) h;rw[show (fun k:Nat=>(0:Int)+1*0)=fun _=>0 from rfl] at e;omega
def pI:Nat->(Nat->Int)->Int
 | 0,_=>1
 | n+1,f=>pI n f*f n
theorem Cp:∀ {n:Nat} {f:Nat->Int},pI (n+1) f=f 0*pI n fun i=>f (i+1)
 | 0,f=>by show 1*f 0=f 0*1;omega
 | n+1,f=>by
  show pI (n+1) f*f (n+1)=f 0*(pI n (fun i=>f (i+1))*f (n+1));rw[Cp (n:=n),dv]
theorem Qf:∀ {n:Nat} {f:Nat->Int},(∀ i,i<n->f i=1)->pI n f=1
 | 0,_,_=>rfl
 | n+1,f,h=>by
  show pI n f*f n=1;rw[Qf (n:=n) fun i hi=>h i (by omega),h n (by omega)];rfl
theorem xV:∀ {n:Nat} {U:Mx},(∀ i k,k<i->i<n->U i k=0)->det n U=pI n fun i=>U i i
 | 0,_,_=>rfl
 | n+1,U,h=>by
  rw[Xr fun i hi=>h (i+1) 0 (by omega) (by omega),xV (n:=n) fun i k h1 h2=>h (i+1) (k+1) (by omega) (by omega),Cp]
end
section
variable {n i j k l m:Nat}{A B:Mx}{f:Nat->Nat}{c:Int}
theorem Ps (hi:i<n)(hj:j<n)(hij:i≠j):det n (bZ A i fun k=>A i k+c*A j k)=det n A:=by
 have e:=nM (c:=c) (A:=A) (u:=A i) (v:=A j) hi;have z:det n (bZ A i (A j))=0:=by
  rcases fq i j with h | h
  ·refine sJ (j-(i+1)) (i:=i) (A:=bZ A i (A j)) (by omega) fun k _=>?_
   rw[mB,show i+1+(j-(i+1))=j by omega,kK (by omega)]
  ·refine sJ (i-(j+1)) (i:=j) (A:=bZ A i (A j)) (by omega) fun k _=>?_
   rw[kK (by omega),show j+1+(i-(j+1))=i by omega,mB]
 rw[z,jR (A i) fun _=>rfl,g8,re] at e;exact e
def un (i k:Nat):Int:=if k=i then 1 else 0
def chM (n:Nat)(f:Nat->Nat):Mx:=fun i k=>un i k-if f i<n then un (f i) k else 0
def chS (n:Nat)(f:Nat->Nat)(S:Nat->Bool):Mx:=fun i k=>if S i=true then un i k else chM n f i k
theorem pR {S S':Nat->Bool}{a:Nat}(h:S a=S' a):chS n f S a k=chS n f S' a k:=by
 unfold chS;rw[h]
theorem Hs {S:Nat->Bool}(hi:i<n)(hS:S i=false)(hf:f i<n->S (f i)=true):det n (chS n f fun a=>S a||a==i)=det n (chS n f S):=by
 by_cases h:f i<n
 ·have hne:i≠f i:=fun z=>by have:=hf h;rw[<- z,hS] at this;cases this
  rw[<- Ps (A:=chS n f S) (i:=i) (j:=f i) (c:=1) hi h hne];refine bQ fun a k _ _=>?_
  unfold bZ
  try dsimp only
  by_cases ha:a=i
  ·subst ha
   rw[if_pos rfl];unfold chS
   try dsimp only
   rw[if_pos (by rw[beq_self_eq_true,uu]),if_neg (by rw[hS];exact aj),if_pos (hf h)];unfold chM;rw[if_pos h];omega
  ·rw[if_neg ha]
   exact pR (by rw[beq_false_of_ne ha,jb])
 ·refine bQ fun a k _ _=>?_
  by_cases ha:a=i
  ·subst ha
   unfold chS
   try dsimp only
   rw[if_pos (by rw[beq_self_eq_true,uu]),if_neg (by rw[hS];exact aj)];unfold chM;rw[if_neg h,me]
  ·exact pR (by rw[beq_false_of_ne ha,jb])
theorem Wp:∀ n:Nat,det n un=1
 | n=>by
  rw[xV (n:=n) fun i k h1 _=>by unfold un;rw[if_neg (by omega)]];exact Qf fun i _=>by unfold un;rw[if_pos rfl]
theorem Xb {d:Nat->Nat}(hd:∀ i,i<n->f i<n->d (f i)<d i):det n (chM n f)=1:=by
 have key:∀ m l,l<=n->det n (chS n f fun a=>decide (d a<m)||(decide (d a=m)&&decide (a<l)))=det n (chM n f):=fun m=>by
  induction m with
  | zero =>
   intro l
   induction l with
   | zero =>
    intro _;refine bQ fun a k _ _=>?_
    unfold chS
    try dsimp only
    rw[if_neg (by simp)]
   | succ l ih =>
    intro hl;rw[<- ih (by omega)];by_cases h:d l=0
    ·have:=Hs (n:=n) (f:=f) (i:=l) (S:=fun a=>decide (d a<0)||(decide (d a=0)&&decide (a<l))) (by omega) (by simp) (fun hf=>by have:=hd l (by omega) hf;omega)
     rw[<- this]
     congr 2
     funext a
     by_cases ha:a=l
     ·subst ha
      simp[h]
     ·have e:decide (a<l+1)=decide (a<l):=by rw[decide_eq_decide];omega
      rw[e,beq_false_of_ne ha,jb]
    ·congr 2
     funext a
     by_cases ha:a=l
     ·subst ha
      simp[h]
     ·have e:decide (a<l+1)=decide (a<l):=by rw[decide_eq_decide];omega
      rw[e]
  | succ m ihm =>
   intro l
   induction l with
   | zero =>
    intro _;rw[<- ihm n (ah n)];refine bQ fun a k ha _=>?_
    have e:(decide (d a<m+1)||(decide (d a=m+1)&&decide (a<0)))=(decide (d a<m)||(decide (d a=m)&&decide (a<n))):=by
     rw[decide_eq_false (show ¬ a<0 by omega),decide_eq_true ha,ke,jb,Bool.and_true,da,jx,decide_eq_true_iff,decide_eq_true_iff,decide_eq_true_iff];omega
    exact pR e
   | succ l ih =>
    intro hl;rw[<- ih (by omega)];by_cases h:d l=m+1
    ·have:=Hs (n:=n) (f:=f) (i:=l) (S:=fun a=>decide (d a<m+1)||(decide (d a=m+1)&&decide (a<l))) (by omega) (by simp[h]) (fun hf=>by
      have:=hd l (by omega) hf
      have:d (f l)<m+1:=by omega
      simp[this])
     rw[<- this]
     congr 2
     funext a
     by_cases ha:a=l
     ·subst ha
      simp[h]
     ·have e:decide (a<l+1)=decide (a<l):=by rw[decide_eq_decide];omega
      rw[e,beq_false_of_ne ha,jb]
    ·congr 2
     funext a
     by_cases ha:a=l
     ·subst ha
      simp[h]
     ·have e:decide (a<l+1)=decide (a<l):=by rw[decide_eq_decide];omega
      rw[e]
 obtain⟨m,hm⟩:∃ m,∀ i,i<n->d i<m:=by
  have:∀ N,∃ m,∀ i,i<N->d i<m:=fun N=>by
   induction N with
   | zero=>exact⟨0,fun i h=>by omega⟩
   | succ N ih =>
    obtain⟨m,hm⟩:=ih;refine⟨m+d N+1,fun i h=>?_⟩;rcases fq i N with z | z
    ·have:=hm i z
     omega
    ·rw[show i=N by omega]
     omega
  exact this n
 rw[<- key m 0 (b9 _),<- Wp n];refine bQ fun a k ha _=>?_
 unfold chS
 try dsimp only
 rw[if_pos (by simp[hm a ha])]
def itf (f:Nat->Nat):Nat->Nat->Nat
 | 0,i=>i
 | k+1,i=>f (itf f k i)
theorem Qg (hi:i<n)(hl:∀ k,k<=m->itf f (k+1) i<n)(hr:itf f (m+1) i=i)(hne:∀ k,0<k->k<=m->itf f k i≠i):det n (chM n f)=0:=by
 have key:∀ k,k<=m->det n (bZ (chM n f) i fun l=>un i l-un (itf f (k+1) i) l)=det n (chM n f):=fun k=>by
  induction k with
  | zero =>
   intro _;refine jR _ fun l=>?_
   unfold chM
   have:=hl 0 (b9 _)
   rw[if_pos (show f i<n from this)];rfl
  | succ k ih =>
   intro hk;rw[<- ih (by omega)];have h1:=hl k (by omega);have h2:=hl (k+1) hk;have h3:=hne (k+1) (by omega) hk;rw[<- Ps (A:=bZ (chM n f) i fun l=>un i l-un (itf f (k+1) i) l) (i:=i) (j:=itf f (k+1) i) (c:=1) hi h1 (fun z=>h3 z.symm)];refine bQ fun a l _ _=>?_
   unfold bZ
   try dsimp only
   by_cases ha:a=i
   ·subst ha
    rw[if_pos rfl,if_pos rfl,if_pos rfl,if_neg h3];unfold chM;rw[if_pos (show f (itf f (k+1) a)<n from h2)];show un a l-un (f (itf f (k+1) a)) l=_;omega
   ·rw[if_neg ha,if_neg ha,if_neg ha]
 rw[<- key m (ah _),hr,show (fun l=>un i l-un i l)=fun _=>0 by funext l;omega];exact De hi
end
def bJ (n i w:Nat):Nat->Int:=fun k=>un i k-if w<n then un w k else 0
def chA (n:Nat)(Ws:Nat->List Nat)(c:List Nat):Mx:=fun i k=>match c[i]? with
 | some w=>bJ n i w k
 | none=>((Ws i).map fun w=>bJ n i w k).sum
def Ki (Ws:Nat->List Nat):Nat->List (List Nat)
 | 0=>[[]]
 | m+1=>(Ki Ws m).flatMap fun c=>(Ws m).map fun w=>c++[w]
section
variable {n m i:Nat}{A:Mx}{Ws:Nat->List Nat}{c:List Nat}
theorem uR:∀ {m:Nat} {c:List Nat},c∈Ki Ws m->c.length=m
 | 0,c,h=>by rw[ax.mp h];rfl
 | m+1,c,h=>by
  obtain⟨c',h1,h2⟩:=nq.mp h;obtain⟨w,_,rfl⟩:=a5.mp h2;rw[ai,uR h1];rfl
theorem Bl {g:Nat->Nat->Int}(hi:i<n):∀ l:List Nat,det n (bZ A i fun k=>(l.map fun w=>g w k).sum)=(l.map fun w=>det n (bZ A i (g w))).sum
 | []=>De hi
 | w::l=>by
  have e:=zM (A:=A) (u:=g w) (v:=fun k=>(l.map fun w=>g w k).sum) hi;rw[au,cz,<- Bl hi l,<- e];rfl
theorem Nf (hm:c.length=m)(h:m<n):det n (chA n Ws c)=((Ws m).map fun w=>det n (chA n Ws (c++[w]))).sum:=by
 have e1:det n (chA n Ws c)=det n (bZ (chA n Ws c) m fun k=>((Ws m).map fun w=>bJ n m w k).sum):=(jR _ fun k=>by
  show _=match c[m]? with
   | some w=>bJ n m w k
   | none=>((Ws m).map fun w=>bJ n m w k).sum
  rw[ca (by omega)]).symm
 rw[e1,Bl h]
 congr 1
 refine br fun w _=>bQ fun a k _ _=>?_
 unfold bZ chA;by_cases ha:a=m
 ·subst ha
  rw[if_pos rfl,d7 (by omega),hm,rj];rfl
 ·rw[if_neg ha]
  rcases fq a m with z | z
  ·rw[ej (by omega)]
  ·rw[ca (l:=c) (by omega),ca (by rw[ai,ci];omega)]
theorem Im:∀ {m:Nat},m<=n->det n (chA n Ws [])=((Ki Ws m).map fun c=>det n (chA n Ws c)).sum
 | 0,_=>by
  show det n (chA n Ws [])=det n (chA n Ws [])+0;omega
 | m+1,h=>by
  rw[Im (m:=m) (by omega)];have key:∀ l:List (List Nat),(∀ c∈l,c.length=m)->(l.map fun c=>det n (chA n Ws c)).sum=((l.flatMap fun c=>(Ws m).map fun w=>c++[w]).map fun c=>det n (chA n Ws c)).sum:=fun l=>by
   induction l with
   | nil=>intro _;rfl
   | cons c l ih =>
    intro hl;rw[au,cz,eh,bh,l5,ih fun c hc=>hl c (am _ hc),Nf (hl c (ar ..)) (by omega),bx];rfl
  exact key _ fun c hc=>uR hc
def goF (n:Nat)(c:List Nat)(i:Nat):Nat:=if i<n then c.getD i n else i
def goN (n:Nat)(c:List Nat):Nat->Nat->Nat
 | 0,i=>i
 | k+1,i=>goF n c (goN n c k i)
def rK (n:Nat)(c:List Nat):Prop:=∀ i,i<n->¬ goN n c n i<n
theorem Pz (hc:c.length=n):det n (chA n Ws c)=det n (chM n fun i=>c.getD i n):=bQ fun a k ha _=>by
 unfold chA;rw[ac (show a<c.length by omega)];show bJ n a c[a] k=bJ n a (c.getD a n) k;rw[show c.getD a n=c[a] by rw[ak,ac (show a<c.length by omega)];rfl]
theorem Ip {k:Nat}(h:¬ i<n):goN n c k i=i:=by
 induction k with
 | zero=>rfl
 | succ k ih =>
  show goF n c (goN n c k i)=i;rw[ih];unfold goF;rw[if_neg h]
theorem lT {k:Nat}:∀ l:Nat,goN n c (l+k) i=goN n c l (goN n c k i)
 | 0=>by rw[gj];rfl
 | l+1=>by
  rw[show l+1+k=(l+k)+1 by omega];show goF n c (goN n c (l+k) i)=goF n c (goN n c l (goN n c k i));rw[lT l]
theorem Lb {k:Nat}:goN n c (k+1) i=goN n c k (goF n c i):=by
 rw[show k+1=k+1 from rfl,lT k];rfl
theorem Jp (h:rK n c):det n (chM n fun i=>c.getD i n)=1:=by
 have ex:∀ i,∃ k,¬ goN n c k i<n:=fun i=>by
  by_cases hi:i<n
  ·exact⟨n,h i hi⟩
  ·exact⟨0,hi⟩
 have mK:∀ i,∃ k,¬ goN n c k i<n∧∀ j,j<k->goN n c j i<n:=fun i=>by
  obtain⟨k,hk⟩:=ex i
  induction k with
  | zero=>exact⟨0,hk,fun j hj=>by omega⟩
  | succ k ih =>
   by_cases h2:goN n c k i<n
   ·refine⟨k+1,hk,fun j hj=>?_⟩
    refine bc fun z=>?_
    have:goN n c (k-j+j) i=goN n c j i:=by rw[lT];exact Ip z
    rw[show k-j+j=k by omega] at this;rw[this] at h2;exact z h2
   ·exact ih h2
 refine Xb (d:=fun i=>kg (mK i)) fun i hi hf=>?_
 obtain⟨a1,a2⟩:=o9 (mK i);obtain⟨b1,b2⟩:=o9 (mK (c.getD i n));have hg:goF n c i=c.getD i n:=by unfold goF;rw[if_pos hi]
 show kg (mK (c.getD i n))<kg (mK i);generalize kg (mK i)=ka at a1 a2 ⊢;generalize kg (mK (c.getD i n))=kb at b1 b2 ⊢;refine bc fun z=>?_
 cases ka with
 | zero=>exact a1 hi
 | succ ka =>
  rw[Lb,hg] at a1;exact a1 (b2 ka (by omega))
theorem Jy (h:¬ rK n c):det n (chM n fun i=>c.getD i n)=0:=by
 obtain⟨i,hi,hn⟩:∃ i,i<n∧goN n c n i<n:=by
  refine bc fun z=>h fun i hi hn=>z ⟨i,hi,hn⟩
 have lt:∀ k,k<=n->goN n c k i<n:=fun k hk=>by
  refine bc fun z=>?_
  have:goN n c (n-k+k) i=goN n c k i:=by rw[lT];exact Ip z
  rw[show n-k+k=n by omega] at this;rw[this] at hn;exact z hn
 obtain⟨a,b,hab,hb,heq⟩:∃ a b,a<b∧b<=n∧goN n c a i=goN n c b i:=by
  refine bc fun z=>?_
  have nd:((bu (n+1)).map fun k=>goN n c k i).Nodup:=by
   refine ja.mpr (jd (fun {x y} hx hy hxy he=>z ⟨x,y,hxy,?_,he⟩) js)
   have:=ck.mp hy
   omega
  have:=Hg.pJ (ms:=bu n) nd fun y hy=>by
   obtain⟨k,hk,rfl⟩:=a5.mp hy
   have:=ck.mp hk
   exact ck.mpr (lt k (by omega))
  rw[aR,cn,cn] at this;omega
 have hj:=lt a (by omega);have step:∀ k,k+a<=n->goN n c k (goN n c a i)<n:=fun k hk=>by
  rw[<- lT];exact lt _ hk
 have hper:goN n c (b-a) (goN n c a i)=goN n c a i:=by
  rw[<- lT,show b-a+a=b by omega,heq]
 generalize goN n c a i=j at hj step hper;obtain⟨p,hp0,hpb,hpp,hmin⟩:∃ p,0<p∧p<=b-a∧goN n c p j=j∧∀ q,0<q->q<p->goN n c q j≠j:=by
  have:∀ N p,p<=N->0<p->p<=b-a->goN n c p j=j->∃ p,0<p∧p<=b-a∧goN n c p j=j∧∀ q,0<q->q<p->goN n c q j≠j:=fun N=>by
   induction N with
   | zero=>intro p h1 h2;omega
   | succ N ih =>
    intro p h1 h2 h3 h4;by_cases hq:∃ q,0<q∧q<p∧goN n c q j=j
    ·obtain⟨q,q1,q2,q3⟩:=hq
     exact ih q (by omega) q1 (by omega) q3
    ·exact⟨p,h2,h3,h4,fun q q1 q2 q3=>hq ⟨q,q1,q2,q3⟩⟩
  exact this (b-a) (b-a) (ah _) (by omega) (ah _) hper
 have eq:∀ k,k<=p->itf (fun i=>c.getD i n) k j=goN n c k j:=fun k=>by
  induction k with
  | zero=>intro _;rfl
  | succ k ih =>
   intro hk;show c.getD (itf (fun i=>c.getD i n) k j) n=goF n c (goN n c k j);rw[ih (by omega)];unfold goF;rw[if_pos (step k (by omega))]
 refine Qg (i:=j) (m:=p-1) hj (fun k hk=>?_) ?_ fun k h1 h2=>?_
 ·rw[eq (k+1) (by omega)]
  exact step (k+1) (by omega)
 ·rw[show p-1+1=p by omega,eq p (ah _),hpp]
 ·rw[eq k (by omega)]
  exact hmin k h1 (by omega)
theorem Lg [DecidablePred (rK n)]:det n (chA n Ws [])=(((Ki Ws n).filter fun c=>decide (rK n c)).length:Nat):=by
 rw[Im (ah n)];have key:∀ l:List (List Nat),(∀ c∈l,c.length=n)->(l.map fun c=>det n (chA n Ws c)).sum=((l.filter fun c=>decide (rK n c)).length:Nat):=fun l=>by
  induction l with
  | nil=>intro _;rfl
  | cons c l ih =>
   intro hl;rw[au,cz,ih fun c hc=>hl c (am _ hc),Pz (hl c (ar ..)),ft];by_cases hc:rK n c
   ·rw[Jp hc,if_pos (decide_eq_true hc),av]
    omega
   ·rw[Jy hc,if_neg (by rw[decide_eq_false hc];exact aj)]
    omega
 exact key _ fun c hc=>uR hc
end
def cE (words:List (List Nat))(o:List Nat):Int:=((words.countP fun w=>decide (w.drop 1=o):Nat):Int)
def rI (texts:List (List Nat))(t:List Nat)(words:List (List Nat)):List Int:=texts.map fun o=>if o=t then ((words.length:Nat):Int)-cE words t else-cE words o
def wS (ls:List (List Nat))(g:List Nat->List (List Nat))(i:Nat):List Nat:=(g (ls.getD i [])).map fun w=>ls.idxOf (w.drop 1)
theorem Rw {w:List Nat}{ws:List (List Nat)}{o:List Nat}:cE (w::ws) o=cE ws o+if w.drop 1=o then 1 else 0:=by
 unfold cE;rw[nr];by_cases h:w.drop 1=o
 ·rw[if_pos (decide_eq_true h),if_pos h];omega
 ·rw[if_neg (fun z=>h (of_decide_eq_true z)),if_neg h];omega
theorem Bq {ls:List (List Nat)}(hnd:ls.Nodup){i k:Nat}(hk:k<ls.length):∀ ws:List (List Nat),((ws.map fun w=>ls.idxOf (w.drop 1)).map fun w=>bJ ls.length i w k).sum=(if i=k then ((ws.length:Nat):Int) else 0)-cE ws ls[k]
 | []=>by
  show (0:Int)=_-((0:Nat):Int);split <;> simp
 | w::ws=>by
  rw[au,au,cz,Bq hnd hk ws,Rw];have e:(if ls.idxOf (w.drop 1)<ls.length then un (ls.idxOf (w.drop 1)) k else 0)=if w.drop 1=ls[k] then (1:Int) else 0:=by
   by_cases h:w.drop 1=ls[k]
   ·rw[if_pos h,h,hnd.idxOf_getElem,if_pos hk]
    simp[un]
   ·rw[if_neg h]
    split
    ·rename_i hlt
     have hne:ls.idxOf (w.drop 1)≠k:=fun z=>h (by
      have:=qq hlt
      subst z;exact this.symm)
     unfold un;rw[if_neg (Ne.symm hne)]
    ·rfl
  show un i k-(if ls.idxOf (w.drop 1)<ls.length then un (ls.idxOf (w.drop 1)) k else 0)+_=_;rw[e,av];by_cases hik:i=k
  ·rw[if_pos hik,if_pos hik,hik]
   simp[un];omega
  ·rw[if_neg hik,if_neg hik]
   simp[un,hik,Ne.symm hik];omega
theorem Mt {ls:List (List Nat)}(hnd:ls.Nodup)(g:List Nat->List (List Nat)):det ls.length (ent (ls.map fun t=>rI ls t (g t)))=det ls.length (chA ls.length (wS ls g) []):=bQ fun i k hi hk=>by
 show ((ls.map fun t=>rI ls t (g t)).getD i []).getD k 0=((wS ls g i).map fun w=>bJ ls.length i w k).sum;unfold wS;rw[Bq hnd hk,ak,ak,ag,ac hi];show ((rI ls ls[i] (g ls[i]))[k]?).getD 0=_;unfold rI;rw[ag,ac hk,ak,ac hi];show (if ls[k]=ls[i] then _ else _)=(if i=k then (((g ls[i]).length:Nat):Int) else 0)-cE (g ls[i]) ls[k];by_cases hik:i=k
 ·subst hik
  rw[if_pos rfl,if_pos rfl]
 ·rw[if_neg hik,if_neg (fun z=>hik (by have a:=hnd.idxOf_getElem i hi;have b:=hnd.idxOf_getElem k hk;rw[z,a] at b;exact b)),ma]
def sT (ls:List (List Nat))(cw:List Nat->List Nat)(t:List Nat):List Nat:=if t∈ls then (cw t).drop 1 else t
def iT (ls:List (List Nat))(cw:List Nat->List Nat):Nat->List Nat->List Nat
 | 0,t=>t
 | k+1,t=>sT ls cw (iT ls cw k t)
def plc (ls:List (List Nat))(cw:List Nat->List Nat):List Nat:=ls.map fun t=>ls.idxOf ((cw t).drop 1)
theorem Eh {ls:List (List Nat)}(cw:List Nat->List Nat){t:List Nat}:∀ k:Nat,goN ls.length (plc ls cw) k (ls.idxOf t)=ls.idxOf (iT ls cw k t)
 | 0=>rfl
 | k+1=>by
  show goF ls.length (plc ls cw) (goN ls.length (plc ls cw) k (ls.idxOf t))=ls.idxOf (sT ls cw (iT ls cw k t));rw[Eh cw k];unfold goF sT;by_cases h:iT ls cw k t∈ls
  ·have hl:ls.idxOf (iT ls cw k t)<ls.length:=j6 h
   rw[if_pos hl,if_pos h];unfold plc;rw[ak,ag,ac hl,qq hl];rfl
  ·have hl:¬ ls.idxOf (iT ls cw k t)<ls.length:=fun z=>h (nc.mp z)
   rw[if_neg hl,if_neg h]
theorem Lm {ls:List (List Nat)}(hnd:ls.Nodup)(cw:List Nat->List Nat):rK ls.length (plc ls cw)↔(ls.all fun t=>decide (iT ls cw ls.length t∉ls))=true:=by
 rw[d8];constructor
 ·intro h t ht
  refine decide_eq_true fun z=>h (ls.idxOf t) (j6 ht) ?_
  rw[Eh];exact j6 z
 ·intro h i hi z
  have e:=Eh (ls:=ls) cw (t:=ls[i]) ls.length;rw[hnd.idxOf_getElem i hi] at e;rw[e] at z;exact of_decide_eq_true (h ls[i] (di hi)) (nc.mp z)
inductive R2 {α β:Type}(R:α->β->Prop):List α->List β->Prop
 | nil:R2 R [] []
 | cons {a:α} {b:β} {as:List α} {bs:List β}:R a b->R2 R as bs->R2 R (a::as) (b::bs)
section
variable {α β:Type}{R R':α->β->Prop}{as:List α}{bs:List β}
end
abbrev W:=List Nat
def gG (f:W->W)(t w:W):W->W:=fun x=>if x=t then w else f x
theorem Js {f:W->W}{a b x y:W}(h:a≠b):gG (gG f a x) b y=gG (gG f b y) a x:=by
 funext z
 unfold gG;by_cases h1:z=b
 ·rw[if_pos h1,if_neg (fun e=>h (e.symm.trans h1)),if_pos h1]
 ·rw[if_neg h1,if_neg h1]
theorem qG {f:W->W}{t w:W}:gG f t w t=w:=by unfold gG;rw[if_pos rfl]
theorem sU {f:W->W}{t w x:W}(h:x≠t):gG f t w x=f x:=by unfold gG;rw[if_neg h]
def chs (g:W->List W):List W->List (W->W)
 | []=>[fun _=>[]]
 | t::ls=>(chs g ls).flatMap fun f=>(g t).map fun w=>gG f t w
theorem zX {g:W->List W}:∀ {ls:List W} {f:W->W},f∈chs g ls->∀ t∈ls,f t∈g t
 | t::ls,f,h,x,hx=>by
  obtain⟨f',h1,h2⟩:=nq.mp h;obtain⟨w,hw,rfl⟩:=a5.mp h2;by_cases e:x=t
  ·subst e;rw[qG];exact hw
  ·rw[sU e];exact zX h1 x ((aw.mp hx).resolve_left e)
theorem zA {α β γ:Type}{F:α->β->γ}(as:List α)(bs:List β):(as.flatMap fun a=>bs.map fun b=>F a b).Perm (bs.flatMap fun b=>as.map fun a=>F a b):=by
 induction as with
 | nil=>simp
 | cons a as ih =>
  rw[eh];refine (jz _ ih).trans ?_;clear ih
  induction bs with
  | nil=>simp
  | cons b bs ih2 =>
   rw[eh,eh,au,au,gn,gn];refine List.Perm.cons _ ?_;refine oy ?_ (jz _ ih2);rw[<- db,<- db];exact List.Perm.append_right _ le
theorem iP {α β:Type}{F G:α->List β}:∀ {l:List α},(∀ a∈l,(F a).Perm (G a))->(l.flatMap F).Perm (l.flatMap G)
 | [],_=>by simp
 | a::l,h=>by
  rw[eh,eh];exact (h a (ar ..)).append (iP fun b hb=>h b (am _ hb))
theorem Op {g:W->List W}{ls ms:List W}(h:ls.Perm ms):ls.Nodup->(chs g ls).Perm (chs g ms):=by
 induction h with
 | nil=>intro _;exact .refl _
 | cons t _ ih=>intro hn;exact (ih (cy.mp hn).2).flatMap_right _
 | swap a b l =>
  intro hn;have hab:b≠a:=fun e=>(cy.mp hn).1 (e▸ar ..)
  show (((chs g l).flatMap fun f=>(g a).map fun w=>gG f a w).flatMap fun f=>(g b).map fun w=>gG f b w).Perm (((chs g l).flatMap fun f=>(g b).map fun w=>gG f b w).flatMap fun f=>(g a).map fun w=>gG f a w);rw[qr,qr];refine iP fun f _=>?_
  rw[lm,lm];have e:(fun x=>(g a).map fun y=>gG (gG f b x) a y)=fun x=>(g a).map fun y=>gG (gG f a y) b x:=by
   funext x;congr 1;funext y;exact Js hab
  have e2:=zA (F:=fun x y=>gG (gG f a x) b y) (g a) (g b);refine e2.trans ?_;rw[e]
 | trans h1 _ ih1 ih2=>intro hn;exact (ih1 hn).trans (ih2 (h1.nodup_iff.mp hn))
def cmT (ls:List W)(cw:W->W):Bool:=ls.all fun t=>decide (iT ls cw ls.length t∉ls)
theorem Av {ls ms:List W}(h:∀ t,t∈ls↔t∈ms){cw:W->W}{t:W}:∀ k,iT ls cw k t=iT ms cw k t
 | 0=>rfl
 | k+1=>by
  show sT ls cw (iT ls cw k t)=sT ms cw (iT ms cw k t);rw[Av h k];unfold sT;by_cases e:iT ms cw k t∈ms
  ·rw[if_pos e,if_pos ((h _).mpr e)]
  ·rw[if_neg e,if_neg (fun z=>e ((h _).mp z))]
theorem Cb {ls ms:List W}(h:ls.Perm ms)(cw:W->W):cmT ls cw=cmT ms cw:=by
 unfold cmT;rw[da,d8,d8];have hm:∀ t,t∈ls↔t∈ms:=fun t=>h.mem_iff
 constructor
 ·intro q t ht
  have:=of_decide_eq_true (q t ((hm t).mpr ht))
  rw[Av hm,h.length_eq] at this;exact decide_eq_true fun z=>this ((hm _).mpr z)
 ·intro q t ht
  have:=of_decide_eq_true (q t ((hm t).mp ht))
  rw[<- Av hm,<- h.length_eq] at this;exact decide_eq_true fun z=>this ((hm _).mp z)
def nC (ls:List W)(g:W->List W):Nat:=((chs g ls).filter (cmT ls)).length
theorem Hx {ls ms:List W}(h:ls.Perm ms)(hn:ls.Nodup)(g:W->List W):nC ls g=nC ms g:=by
 unfold nC;rw[((Op (g:=g) h hn).filter (cmT ls)).length_eq]
 congr 2
 funext f
 exact Cb h f
theorem pW {g g':W->List W}:∀ {ls:List W},(∀ t∈ls,g t=g' t)->chs g ls=chs g' ls
 | [],_=>rfl
 | t::ls,h=>by
  show (chs g ls).flatMap _=(chs g' ls).flatMap _;rw[pW fun x hx=>h x (am _ hx),h t (ar ..)]
theorem Bs {ls:List W}{g g':W->List W}(h:∀ t∈ls,g t=g' t):nC ls g=nC ls g':=by unfold nC;rw[pW h]
theorem Cz {ls:List W}(hn:ls.Nodup){g:W->List W}:∀ m,m<=ls.length->Ki (wS ls g) m=(chs g (ls.take m).reverse).map fun f=>(ls.take m).map fun t=>ls.idxOf ((f t).drop 1)
 | 0,_=>by rw[ix];rfl
 | m+1,h=>by
  have hm:m<ls.length:=h;have ht:ls.take (m+1)=ls.take m++[ls[m]]:=by rw[cx,ac hm];rfl
  rw[ht,List.reverse_append];show (Ki (wS ls g) m).flatMap _=((chs g (ls.take m).reverse).flatMap fun f=>(g ls[m]).map fun w=>gG f ls[m] w).map _;rw[Cz hn m (by omega),lm,List.map_flatMap];have hnot:ls[m]∉ls.take m:=fun z=>by
   have nd:(ls.take m++[ls[m]]).Nodup:=ht▸hn.sublist (m4 (m+1) ls);exact (ge.mp nd).2.2 _ z _ (ax.mpr rfl) rfl
  congr 1
  funext f
  unfold wS;rw[ak,ac hm,bx,bx];refine br fun w _=>?_
  show (ls.take m).map _++[_]=(ls.take m++[ls[m]]).map _;rw[bh,List.map_singleton]
  congr 1
  ·refine br fun t ht=>?_
   show _=ls.idxOf ((gG f ls[m] w t).drop 1);rw[sU (fun e=>hnot (by rw[<- e];exact ht))]
  ·show _=[ls.idxOf ((gG f ls[m] w ls[m]).drop 1)]
   rw[qG]
theorem Us {ls:List W}(hn:ls.Nodup)(g:W->List W):det ls.length (ent (ls.map fun t=>rI ls t (g t)))=((nC ls g:Nat):Int):=by
 classical
 rw[Mt hn,Lg,Cz hn ls.length (ah _),c8];rw[Hx (rl ls).symm hn g];unfold nC;rw[List.filter_map,aR]
 congr 3
 funext f
 rw[Cb (rl ls)];show decide (rK ls.length (plc ls f))=cmT ls f;rw[da,decide_eq_true_iff];exact Lm hn f
theorem uK {g:W->List W}:∀ ls:List W,(chs g ls).length<=2 ^ (ls.map fun t=>(g t).length).sum
 | []=>ah 1
 | t::ls=>by
  have ih:=uK (g:=g) ls;have e:(chs g (t::ls)).length=(chs g ls).length*(g t).length:=by
   show ((chs g ls).flatMap fun f=>(g t).map fun w=>gG f t w).length=_;generalize chs g ls=l
   induction l with
   | nil=>simp
   | cons f l ihl=>rw[eh,ai,aR,ihl,av,ia,gy,jq]
  rw[e,au,cz,jp,de];exact ib (i6 Nat.lt_two_pow_self) ih
end Dt
namespace Hg
variable {bg en:List Nat->List Nat}
def Tr (bg en:List Nat->List Nat):List Nat->List (List Nat)->List Nat->Prop
 | p,[],q=>p=q
 | p,w::ws,q=>bg w=p∧Tr bg en (en w) ws q
theorem Tr.mem:∀ {ws:List (List Nat)} {p q:List Nat},Tr bg en p ws q->∀ w∈ws,bg w∈p::ws.map en
 | v::ws,p,q,h,w,hw=>by
  rcases aw.mp hw with rfl | hw
  ·rw[h.1]
   exact ar ..
  ·exact am _ (Tr.mem h.2 w hw)
theorem Tr.exc (χ:List Nat->Bool):∀ {ws:List (List Nat)} {p q:List Nat},Tr bg en p ws q->((ws.filter fun l=>χ (bg l)).length:Int)-((ws.filter fun l=>χ (en l)).length:Int)=(if χ p then 1 else 0)-(if χ q then 1 else 0)
 | [],p,q,h=>by
  cases h;simp
 | w::ws,p,q,h=>by
  have ih:=Tr.exc χ h.2;rw[ft,ft,h.1];by_cases h1:χ p <;> by_cases h2:χ (en w) <;> simp[h1,h2] at ih ⊢ <;> omega
theorem Tr.rch {ms:List (List Nat)}{p:List Nat}:∀ {ws:List (List Nat)} {r q:List Nat},Tr bg en r ws q->(∀ w∈ws,w∈ms)->Rch bg en ms p r->∀ w∈ws,Rch bg en ms p (bg w)∧Rch bg en ms p (en w)
 | v::ws,r,q,h,hs,hr,w,hw=>by
  have h1:Rch bg en ms p (bg v):=by rw[h.1];exact hr
  have h2:Rch bg en ms p (en v):=.fw (hs v (ar ..)) h1;rcases aw.mp hw with rfl | hw
  ·exact⟨h1,h2⟩
  ·exact Tr.rch h.2 (fun w hw=>hs w (am _ hw)) h2 w hw
theorem Rch.trans {ms:List (List Nat)}{p z y:List Nat}(h1:Rch bg en ms p z)(h2:Rch bg en ms z y):Rch bg en ms p y:=by
 induction h2 with
 | self=>exact h1
 | fw hw _ ih=>exact .fw hw ih
 | bw hw _ ih=>exact .bw hw ih
theorem Rch.symm {ms:List (List Nat)}{p z:List Nat}(h:Rch bg en ms p z):Rch bg en ms z p:=by
 induction h with
 | self=>exact .self
 | fw hw _ ih=>exact (Rch.bw hw .self).trans ih
 | bw hw _ ih=>exact (Rch.fw hw .self).trans ih
end Hg
namespace Wd
def iY (k:Nat):Nat->Nat->W
 | 0,_=>[]
 | n+1,N=>iY k n (N/k)++[97+N % k]
theorem lY (k:Nat):∀ n N,(iY k n N).length=n
 | 0,_=>rfl
 | n+1,N=>by rw[iY,ai,lY k n];rfl
theorem Cd {k:Nat}(hk:0<k):∀ n N M,N<M->M<k ^ n->iY k n N<iY k n M
 | 0,N,M,h1,h2=>by rw[oe] at h2;omega
 | n+1,N,M,h1,h2=>by
  rw[iY,iY];have hle:N/k<=M/k:=Nat.div_le_div_right (i6 h1);rcases Nat.lt_or_eq_of_le hle with h | h
  ·exact Wx (Cd hk n _ _ h (p7 (by rw[de,<- gv];exact h2))) (by rw[lY,lY];exact ah _) _ _
  ·rw[h,Be]
   have e1:=jw N k;have e2:=jw M k;rw[h] at e1
   have:N % k<M % k:=by omega
   rw[ld];left;omega
theorem xA {k:Nat}(hk:0<k):∀ n N,∀ c∈iY k n N,97<=c∧c<97+k
 | 0,_,c,h=>by cases h
 | n+1,N,c,h=>by
  rw[iY,bt] at h;rcases h with h | h
  ·exact xA hk n _ c h
  ·have e:c=97+N % k:=by simpa using h
   have:=jc N hk
   omega
def num (k:Nat)(w:W):Nat:=w.foldl (fun a c=>a*k+(c-97)) 0
theorem Pe (k:Nat)(w:W)(c:Nat):num k (w++[c])=num k w*k+(c-97):=by
 unfold num;rw[m7];rfl
theorem Rm {w:W}(h:0<w.length):∃ u c,w=u++[c]:=by
 exact⟨w.dropLast,w.getLast (cq.mp h),(er _).symm⟩
theorem wU {k:Nat}:∀ (n:Nat) (w:W),w.length=n->(∀ c∈w,97<=c∧c<97+k)->iY k n (num k w)=w∧num k w<k ^ n
 | 0,w,h,_=>by
  have:w=[]:=a8.mp h
  subst this;exact⟨rfl,by rw[oe];exact Nat.zero_lt_one⟩
 | n+1,w,h,hw=>by
  obtain⟨u,c,rfl⟩:=Rm (w:=w) (by omega);rw[ai] at h;have hu:u.length=n:=by
   have:[c].length=1:=rfl
   omega
  obtain⟨h1,h2⟩:=wU n u hu fun d hd=>hw d (fi _ hd)
  have hc:=hw c (by simp);have hk:0<k:=by omega
  have hd:(num k u*k+(c-97))/k=num k u:=by rw[jq,Nat.add_mul_div_right _ _ hk,nu (by omega),gj]
  have hm:(num k u*k+(c-97)) % k=c-97:=by rw[jq,Nat.add_mul_mod_self_right,fc (by omega)]
  rw[Pe,iY,hd,hm,h1];refine⟨by rw[show 97+(c-97)=c by omega],?_⟩;rw[gv]
  have:num k u*k+k<=k ^ n*k:=by rw[<- k7];exact gq k h2
  omega
def dO (k n:Nat):List W:=(bu (k ^ n)).map (iY k n)
theorem lQ (k n:Nat):(dO k n).length=k ^ n:=by rw[dO,aR,cn]
def Okk (k:Nat)(w:W):Prop:=∀ c∈w,97<=c∧c<97+k
def Lst (w:W):Prop:=w=mK w
def fill (k n:Nat)(p:W):W:=p++c7 (n-p.length) (96+k)
instance (w:W):Decidable (Lst w):=inferInstanceAs (Decidable (w=mK w))
structure LW (k n:Nat)(w:W):Prop where
 len:w.length=n
 ok:Okk k w
 lst:Lst w
def Nn (k:Nat)(w:W)(m:Nat):Prop:=∀ v,LW k w.length v->∀ p,m<=p->p<w.length->v.take p=w.take p->¬ w.getD p 0<v.getD p 0
theorem oN {k n:Nat}{w:W}(hk:0<k):w∈dO k n↔w.length=n∧Okk k w:=by
 unfold dO;rw[a5];constructor
 ·rintro⟨i,_,rfl⟩
  exact⟨lY k n i,xA hk n i⟩
 ·rintro⟨hl,ho⟩
  obtain⟨h1,h2⟩:=wU n w hl ho;exact⟨num k w,ck.mpr h2,h1⟩
theorem Ds {k n:Nat}(hk:0<k):(dO k n).Pairwise (· < ·):=by
 unfold dO;rw[ja];refine jd ?_ js;intro a b _ hb hab;exact Cd hk n a b hab (ck.mp hb)
theorem Ke (k n:Nat)(hk:0<k):dO k (n+1)=(dO k n).flatMap fun w=>(bu k).map fun c=>w++[97+c]:=by
 unfold dO;rw[lm,gv];generalize k ^ n=m
 induction m with
 | zero=>simp
 | succ m ih =>
  rw[k7,List.range_add,bh,ih,kr,qd]
  congr 1
  simp only [eh,List.flatMap_nil,du,bx];apply br;intro c hc;have hc':=ck.mp hc;show iY k (n+1) (m*k+c)=_;rw[iY];have e1:(m*k+c)/k=m:=by rw[de,Nat.mul_add_div hk,nu hc'];omega
  have e2:(m*k+c) % k=c:=by rw[de,Nat.mul_add_mod,fc hc']
  rw[e1,e2]
theorem jT {t:W}{n c:Nat}(hn:1<=n)(h:n<=t.length+1):bJ (t++[c]) n=bJ t n++[t.drop (t.length+1-n)++[c]]:=by
 unfold bJ;rw[ai,ci,show t.length+1+1-n=t.length+1-n+1 by omega,kr,bh];refine congr (congrArg _ (br fun i hi=>?_)) ?_
 ·rw[ck] at hi
  rw[<- qI (t:=t++[c]) (by rw[ai,ci];omega),<- qI (t:=t) (by omega),gf (by omega),lz (by rw[bf];omega)]
 ·show [bA (t++[c]) n (t.length+1-n)]=_
  rw[<- qI (t:=t++[c]) (by rw[ai,ci];omega),gf (by omega),cp (by rw[ai,bf,ci];omega)]
theorem Ce:∀ (a b:List W),a.Nodup->(∀ x∈a,x∈b)->a.length<=b.length
 | [],b,_,_=>b9 _
 | x::a,b,hn,hs=>by
  obtain⟨h1,h2⟩:=cy.mp hn;have hx:x∈b:=hs x ar
  have:=Ce a (b.erase x) h2 fun y hy=>(pk (fun e=>h1 (by rw[<- e];exact hy))).mpr (hs y (am _ hy))
  rw[kl hx] at this;have hp:0<b.length:=fo hx;rw[av];omega
def per (u:W)(m:Nat):W:=(bu m).map fun j=>u.getD (j % u.length) 0
theorem zY (u:W)(m:Nat):(per u m).length=m:=by rw[per,aR,cn]
theorem Ho {u:W}{m j:Nat}(h:j<m):(per u m)[j]?=some (u.getD (j % u.length) 0):=by rw[per,ag,ga h];rfl
theorem Io {t:W}{i c:Nat}(h:t[i]?=some c):t.getD i 0=c:=by rw[ak,h];rfl
theorem Pd {u:W}{n:Nat}(h:0<u.length)(hn:1<=n):bJ (per u (u.length+n-1)) n=cJ u n:=by
 unfold bJ cJ;rw[zY,show u.length+n-1+1-n=u.length by omega];refine br fun i hi=>?_
 have hi:=ck.mp hi;unfold bA;refine br fun k hk=>?_
 have hk:=ck.mp hk;rw[zY,fc (by omega),Io (Ho (by omega))]
theorem Ux {t:W}{s n:Nat}(hs:0<s)(hn:1<=n)(hl:t.length=s+n-1)(h:t.drop s=t.take (n-1)):t=per (t.take s) (s+n-1):=by
 have hrl:(t.take s).length=s:=by rw[b8];omega
 have key:∀ j,j<t.length->t[j]?=some ((t.take s).getD (j % s) 0):=by
  intro j
  induction j using Nat.strongRecOn with
  | _ j ih =>
   intro hj;by_cases hjs:j<s
   ·rw[fc hjs,ac hj,Io (c:=t[j]) (by rw[fb hjs,ac hj])]
   ·have e1:t[j]?=(t.drop s)[j-s]?:=by rw[gz];congr 1;omega
    rw[e1,h,fb (by omega),ih (j-s) (by omega) (by omega),ql (show s<=j by omega)]
 apply ii;intro i;by_cases hi:i<t.length
 ·rw[key i hi,Ho (by omega),hrl]
 ·rw[ca (by omega),ca (by rw[zY];omega)]
theorem rE {t:W}{s n:Nat}(hs:0<s)(hn:1<=n)(hl:t.length=s+n-1)(h:t.drop s=t.take (n-1)):cJ (t.take s) n=bJ t n:=by
 have hrl:(t.take s).length=s:=by rw[b8];omega
 have e:=Pd (u:=t.take s) (n:=n) (by omega) hn;rw[hrl,<- Ux hs hn hl h] at e;exact e.symm
def Bc (k:Nat):W:=(bu k).map (97 + ·)
section
variable {k n:Nat}{t:W}
theorem full {a b:List W}(hn:a.Nodup)(hs:∀ x∈a,x∈b)(hl:b.length<=a.length){x:W}(hx:x∈b):x∈a:=by
 refine bc fun hno=>?_
 have:=Ce (x::a) b (cy.mpr ⟨hno,hn⟩) fun y hy=>by
  rcases aw.mp hy with rfl | hy
  ·exact hx
  ·exact hs y hy
 rw[av] at this;omega
end
open Hg
def beg (l:W):W:=l.take (l.length-1)
def fin (l:W):W:=l.drop 1
theorem Nx {t:W}{n i:Nat}:fin (bA t n i)=beg (bA t n (i+1)):=by
 unfold fin beg;rw[gI];apply ii;intro k;rw[gz];by_cases hk:k<n-1
 ·rw[fb hk]
  unfold bA;rw[ag,ag,ga (by omega),ga (by omega)];show some (t.getD ((i+(1+k)) % t.length) 0)=some (t.getD ((i+1+k) % t.length) 0);rw[lr]
 ·rw[ca (by rw[gI];omega),ca (by rw[b8,gI];omega)]
theorem Tr.app {p r q:W}:∀ {xs ys:List W} {p:W},Tr beg fin p xs r->Tr beg fin r ys q->Tr beg fin p (xs++ys) q
 | [],_,_,h,g=>by cases h;exact g
 | x::xs,_,_,h,g=>⟨h.1,Tr.app (p:=p) h.2 g⟩
def seg (t:W)(n i j:Nat):List W:=(pw i (j-i)).map (bA t n)
theorem Fd {t:W}{n:Nat}:∀ {k i:Nat},Tr beg fin (beg (bA t n i)) ((pw i k).map (bA t n)) (beg (bA t n (i+k)))
 | 0,i=>rfl
 | k+1,i=>by
  rw[List.range'_succ,au];refine⟨rfl,?_⟩;rw[Nx,show i+(k+1)=i+1+k by omega];exact Fd
theorem Sh {t:W}{n i j:Nat}(h:i<=j):Tr beg fin (beg (bA t n i)) (seg t n i j) (beg (bA t n j)):=by
 have:=Fd (t:=t) (n:=n) (k:=j-i) (i:=i)
 rw[qe h] at this;exact this
theorem Ib (t:W)(n:Nat):seg t n 0 t.length=cJ t n:=by
 unfold seg cJ;rw[k9,p8]
def sl (t:W)(i j:Nat):W:=(t.drop i).take (j-i)
def hd (w:W):Nat:=w.getD 0 0
theorem Ud {t:W}{n i j:Nat}(hn:1<=n)(hj:j<=t.length):(seg t n i j).map hd=sl t i j:=by
 unfold seg sl;rw[bx];apply ii;intro k;rw[ag];by_cases hk:k<j-i
 ·rw[List.getElem?_range' hk,fb hk,gz]
  show some (hd (bA t n (i+1*k)))=_;unfold hd bA;obtain⟨m,rfl⟩:∃ m,n=m+1:=⟨n-1,by omega⟩;rw[ak,ag,ga (by omega)];show some (t.getD ((i+1*k+0) % t.length) 0)=_;rw[gy,jt,fc (by omega),ak,ac (by omega)];rfl
 ·rw[ca (by rw[qp];omega),ca (by rw[b8];omega)]
  rfl
section
variable {t:W}{n a b c d:Nat}
theorem Em:beg (bA t n t.length)=beg (bA t n 0):=by rw[<- Ft (i:=t.length),Nat.mod_self]
theorem Vj:sl t 0 t.length=t:=by unfold sl;rw[gi,k9,c8]
end
end Wd
namespace Wd
section
variable {r g:W}{n:Nat}
end
open Hg
def lst (us:List W):W:=us.getD (us.length-1) []
def ext (ws us:List W):List (List W):=(ws.filter fun w=>decide (beg w=fin (lst us)) && !decide (w∈us)).map fun w=>us++[w]
section
variable {ws us:List W}{w0 w:W}{n k:Nat}
theorem Tr.cut {p q:W}:∀ {xs:List W} {p:W},Tr beg fin p (xs++[w]) q->Tr beg fin p xs (beg w)∧q=fin w
 | [],_,h=>⟨h.1.symm,h.2.symm⟩
 | x::xs,_,h=>by
  obtain⟨h1,h2⟩:=Tr.cut (p:=p) (xs:=xs) h.2;exact⟨⟨h.1,h1⟩,h2⟩
end
def cnt (f:W->W)(E:List W)(v:W):Nat:=(E.filter fun w=>decide (f w=v)).length
def Bal (E:List W)(s t:W):Prop:=∀ v,cnt beg E v+(if v=t then 1 else 0)=cnt fin E v+(if v=s then 1 else 0)
def gY (E:List W)(s:W):Prop:=∀ χ:W->Prop,χ s->(∀ e∈E,χ (beg e)↔χ (fin e))->∀ e∈E,χ (beg e)
section
variable {E L us:List W}{s t v p q w:W}
theorem nI (f:W->W)(e:W)(E:List W)(v:W):cnt f (e::E) v=(if f e=v then 1 else 0)+cnt f E v:=by
 unfold cnt;rw[ft];by_cases h:f e=v
 ·rw[if_pos (decide_eq_true h),if_pos h,av,jq]
 ·rw[if_neg (by rw[decide_eq_false h];exact aj),if_neg h,gj]
theorem Hj (f:W->W)(A B:List W)(v:W):cnt f (A++B) v=cnt f A v+cnt f B v:=by
 unfold cnt;rw[ju,ai]
theorem uI {A B:List W}(f:W->W)(h:A.Perm B)(v:W):cnt f A v=cnt f B v:=(h.filter _).length_eq
theorem Bal.perm {A B:List W}(h:Bal A s t)(hp:A.Perm B):Bal B s t:=fun v=>by rw[<- uI beg hp,<- uI fin hp];exact h v
theorem gY.perm {A B:List W}(h:gY A s)(hp:A.Perm B):gY B s:=fun χ hs hc e he=>h χ hs (fun e he=>hc e (hp.mem_iff.mp he)) e (hp.mem_iff.mpr he)
theorem Ar:∀ {us:List W} {p:W},Tr beg fin p us q->Bal us p q
 | [],p,h=>fun v=>by
  have h:p=q:=h;subst h;rfl
 | w::us,p,h=>fun v=>by
  have ih:=Ar h.2 v;have e:beg w=p:=h.1;rw[nI,nI];have e1:(if v=p then 1 else 0)=(if beg w=v then 1 else 0):=by
   by_cases c:v=p
   ·rw[if_pos c,if_pos (by rw[e,c])]
   ·rw[if_neg c,if_neg (fun z=>c (by rw[<- z,e]))]
  have e2:(if v=fin w then 1 else 0)=(if fin w=v then 1 else 0):=by
   by_cases c:v=fin w
   ·rw[if_pos c,if_pos c.symm]
   ·rw[if_neg c,if_neg (fun z=>c z.symm)]
  omega
theorem sI:∀ {us:List W} {p:W},Tr beg fin p us q->gY us p
 | [],p,_=>fun χ _ _ e he=>by cases he
 | w::us,p,h=>fun χ hp hc e he=>by
  have hb:χ (beg w):=by rw[show beg w=p from h.1];exact hp
  have hf:=(hc w (ar ..)).mp hb;rcases aw.mp he with rfl | he
  ·exact hb
  ·exact sI h.2 χ hf (fun e he=>hc e (am _ he)) e he
theorem Bal.rest (h:Bal E s t)(hp:E.Perm (us++L))(ht:Tr beg fin s us q):Bal L q t:=fun v=>by
 have h1:=(h.perm hp) v;have h2:=Ar ht v;rw[Hj,Hj] at h1;omega
theorem Bal.out (h:Bal L v t)(hne:v≠t):∃ e∈L,beg e=v:=by
 have h1:=h v;rw[if_neg hne,if_pos rfl] at h1;have h2:0<cnt beg L v:=by omega
 obtain⟨e,he⟩:=ei h2;obtain⟨g1,g2⟩:=cf.mp he;exact⟨e,g1,of_decide_eq_true g2⟩
theorem Bal.go:∀ (k:Nat) {L:List W} {v:W},L.length=k->Bal L v t->∃ cs R,L.Perm (cs++R)∧Tr beg fin v cs t
 | 0,L,v,hl,h=>by
  by_cases c:v=t
  ·exact⟨[],L,ie _,c⟩
  ·obtain⟨e,he,_⟩:=h.out c
   rw[a8.mp hl] at he;cases he
 | k+1,L,v,hl,h=>by
  by_cases c:v=t
  ·exact⟨[],L,ie _,c⟩
  ·obtain⟨e,he,hb⟩:=h.out c
   have hp:=gr he;have h2:Bal (L.erase e) (fin e) t:=h.rest (us:=[e]) hp ⟨hb,rfl⟩;have hle:(L.erase e).length=k:=by rw[kl he,hl];rfl
   obtain⟨cs,R,h3,h4⟩:=Bal.go k hle h2;exact⟨e::cs,R,hp.trans (h3.cons e),⟨hb,h4⟩⟩
theorem Ct:∀ {us:List W} {p:W},Tr beg fin p us q->v∈p::us.map fin->∃ xs ys,us=xs++ys∧Tr beg fin p xs v∧Tr beg fin v ys q
 | [],p,h,hv=>by
  have e:v=p:=by simpa using hv
  exact⟨[],[],rfl,e.symm,e▸h⟩
 | w::us,p,h,hv=>by
  by_cases c:v=p
  ·exact⟨[],w::us,rfl,c.symm,by rw[c];exact h⟩
  ·have hv2:v∈fin w::us.map fin:=(aw.mp hv).resolve_left c
   obtain⟨xs,ys,e,h1,h2⟩:=Ct h.2 hv2;exact⟨w::xs,ys,by rw[e];rfl,⟨h.1,h1⟩,h2⟩
theorem Ni:∀ (k:Nat) {us R:List W},R.length<=k->Tr beg fin s us t->Bal R t t->gY (us++R) s->∃ full,full.Perm (us++R)∧Tr beg fin s full t
 | k,us,[],_,h,_,_=>⟨us,by rw[du],h⟩
 | 0,us,r::R,hl,_,_,_=>absurd hl (by simp)
 | k+1,us,r::R,hl,h,hb,hc=>by
  have hbv:∀ v,cnt beg (r::R) v=cnt fin (r::R) v:=fun v=>by have:=hb v;omega
  have hex:∃ e∈r::R,beg e∈s::us.map fin:=by
   refine bc fun z=>?_
   have hno:∀ e∈r::R,¬ beg e∈s::us.map fin:=fun e he c=>z ⟨e,he,c⟩
   have hnof:∀ e∈r::R,¬ fin e∈s::us.map fin:=fun e he c=>by
    have h1:0<cnt fin (r::R) (fin e):=fo (cf.mpr ⟨he,decide_eq_true rfl⟩);rw[<- hbv] at h1;obtain⟨e',he'⟩:=ei h1;obtain⟨g1,g2⟩:=cf.mp he';exact hno e' g1 (by rw[of_decide_eq_true g2];exact c)
   have:=hc (fun v=>v∈s::us.map fin) (ar ..) (fun e he=>?_) r (bn _ (ar ..))
   ·exact hno r (ar ..) this
   ·rcases bt.mp he with he | he
    ·exact⟨fun _=>am _ (gb he),fun _=>h.mem e he⟩
    ·exact⟨fun z=>absurd z (hno e he),fun z=>absurd z (hnof e he)⟩
  obtain⟨e,he,hev⟩:=hex;obtain⟨xs,ys,rfl,t1,t2⟩:=Ct h hev;have hp:=gr he;have hb1:Bal (r::R) (beg e) (beg e):=fun v=>by have:=hbv v;omega
  have hb2:Bal ((r::R).erase e) (fin e) (beg e):=hb1.rest (us:=[e]) hp ⟨rfl,rfl⟩;obtain⟨cs,R',h3,h4⟩:=Bal.go _ rfl hb2;have hpR:(r::R).Perm ((e::cs)++R'):=hp.trans (h3.cons e);have t3:Tr beg fin (beg e) (e::cs) (beg e):=⟨rfl,h4⟩;have hb3:Bal R' (beg e) (beg e):=hb1.rest hpR t3;have hb4:Bal R' t t:=fun v=>by have:=hb3 v;omega
  have hl2:R'.length<=k:=by
   have:=hpR.length_eq
   rw[ai,av,av] at this;rw[av] at hl;omega
  have hpall:((xs++ys)++(r::R)).Perm ((xs++((e::cs)++ys))++R'):=by
   refine (hpR.append_left (xs++ys)).trans ?_;rw[db,db,db];refine jz xs ?_;rw[<- db,<- db];exact le.append_right R'
  obtain⟨full,f1,f2⟩:=Ni k hl2 (Tr.app (p:=s) t1 (Tr.app (p:=s) t3 t2)) hb4 (hc.perm hpall);exact⟨full,f1.trans hpall.symm,f2⟩
theorem Ti (hb:Bal E s t)(hc:gY E s):∃ us,us.Perm E∧Tr beg fin s us t:=by
 obtain⟨cs,R,h1,h2⟩:=Bal.go _ rfl hb;have hr:=hb.rest h1 h2;obtain⟨full,f1,f2⟩:=Ni _ (ah _) h2 hr (hc.perm h1);exact⟨full,f1.trans h1.symm,f2⟩
theorem Vh (hb:Bal E s t)(hc:gY E s)(hne:E≠[]):∃ e∈E,beg e=s∧gY (E.erase e) (fin e):=by
 obtain⟨us,h1,h2⟩:=Ti hb hc
 match us,h1,h2 with
 | [],h1,_=>exact absurd (ng.mp h1.symm) hne
 | e::us,h1,h2 =>
  have he:e∈E:=h1.mem_iff.mp (ar ..);have hp:us.Perm (E.erase e):=by
   have:=(gr he)
   exact (List.perm_cons e).mp (h1.trans this)
  exact⟨e,he,h2.1,(sI h2.2).perm hp⟩
theorem Bal.step (hb:Bal E s t){e:W}(he:e∈E)(h:beg e=s):Bal (E.erase e) (fin e) t:=hb.rest (us:=[e]) (gr he) ⟨h,rfl⟩
end
end Wd
namespace Dt
open Wd Hg
section
variable {ts:List W}{f:W->W}
theorem Nq {t:W}(h:t∉ts):∀ k,iT ts f k t=t
 | 0=>rfl
 | k+1=>by
  show sT ts f (iT ts f k t)=t;rw[Nq h k];unfold sT;rw[if_neg h]
theorem Ou {t:W}:∀ l k,iT ts f (l+k) t=iT ts f l (iT ts f k t)
 | 0,k=>by rw[gj];rfl
 | l+1,k=>by
  rw[show l+1+k=(l+k)+1 by omega];show sT ts f (iT ts f (l+k) t)=sT ts f (iT ts f l (iT ts f k t));rw[Ou l k]
theorem Ay:cmT ts f=true↔∀ χ:W->Prop,(∀ t,χ t->t∈ts∧χ ((f t).drop 1))->∀ t,¬ χ t:=by
 constructor
 ·intro h χ hc t ht
  have key:∀ k,χ (iT ts f k t):=fun k=>by
   induction k with
   | zero=>exact ht
   | succ k ih =>
    show χ (sT ts f (iT ts f k t));unfold sT;rw[if_pos (hc _ ih).1];exact (hc _ ih).2
  exact of_decide_eq_true (d8.mp h t (hc t ht).1) (hc _ (key ts.length)).1
 ·intro h
  refine d8.mpr fun t ht=>decide_eq_true fun hn=>?_
  have lt:∀ k,k<=ts.length->iT ts f k t∈ts:=fun k hk=>by
   refine bc fun z=>?_
   have e:iT ts f (ts.length-k+k) t=iT ts f k t:=by rw[Ou];exact Nq z _
   rw[show ts.length-k+k=ts.length by omega] at e;rw[e] at hn;exact z hn
  obtain⟨a,b,hab,hb,heq⟩:∃ a b,a<b∧b<=ts.length∧iT ts f a t=iT ts f b t:=by
   refine bc fun z=>?_
   have nd:((bu (ts.length+1)).map fun k=>iT ts f k t).Nodup:=by
    refine ja.mpr (jd (fun {x y} hx hy hxy he=>z ⟨x,y,hxy,?_,he⟩) js)
    have:=ck.mp hy
    omega
   have:=Hg.pJ (ms:=ts) nd fun y hy=>by
    obtain⟨k,hk,rfl⟩:=a5.mp hy
    have:=ck.mp hk
    exact lt k (by omega)
   rw[aR,cn] at this;omega
  refine h (fun u=>∃ k,a<=k∧k<b∧u=iT ts f k t) (fun u ⟨k,h1,h2,h3⟩=>?_) (iT ts f a t) ⟨a,ah _,hab,rfl⟩;subst h3;refine⟨lt k (by omega),?_⟩;have e:(f (iT ts f k t)).drop 1=iT ts f (k+1) t:=by
   show _=sT ts f (iT ts f k t);unfold sT;rw[if_pos (lt k (by omega))]
  rw[e];by_cases hk:k+1<b
  ·exact⟨k+1,by omega,hk,rfl⟩
  ·exact⟨a,ah _,hab,by rw[heq,show b=k+1 by omega]⟩
end
def fct:Nat->Nat
 | 0=>1
 | n+1=>(n+1)*fct n
def pF (c:W->Nat):List W->Nat
 | []=>1
 | t::ts=>fct (c t-1)*pF c ts
theorem vP {c c':W->Nat}:∀ {ts:List W},(∀ t∈ts,c t=c' t)->pF c ts=pF c' ts
 | [],_=>rfl
 | t::ts,h=>by
  show fct (c t-1)*pF c ts=fct (c' t-1)*pF c' ts;rw[h t (ar ..),vP fun u hu=>h u (am _ hu)]
theorem Rq {c:W->Nat}{ts us:List W}(h:ts.Perm us):pF c ts=pF c us:=by
 induction h with
 | nil=>rfl
 | cons t _ ih=>show fct (c t-1)*_=fct (c t-1)*_;rw[ih]
 | swap a b l=>show fct (c b-1)*(fct (c a-1)*pF c l)=fct (c a-1)*(fct (c b-1)*pF c l);rw[rn]
 | trans _ _ h1 h2=>exact h1.trans h2
def og (E:List W)(t:W):List W:=E.filter fun w=>decide (beg w=t)
def rm (E:List W)(w:W):List W:=E.filter fun x=>!decide (x=w)
section
variable {E:List W}{a b t w:W}
theorem zU:(og E t).length=cnt beg E t:=rfl
theorem dC:w∈og E t↔w∈E∧beg w=t:=by unfold og;rw[cf,decide_eq_true_iff]
theorem fD {x:W}:x∈rm E w↔x∈E∧x≠w:=by
 unfold rm;rw[cf,rq,decide_eq_false_iff_not]
theorem gE (h:E.Nodup):(rm E w).Nodup:=h.sublist ff
theorem gA (h:E.Nodup)(hw:w∈E):E.Perm (w::rm E w):=by
 refine (d9 h (cy.mpr ⟨fun z=>(fD.mp z).2 rfl,gE h⟩)).mpr fun x=>?_
 rw[aw,fD];constructor
 ·intro hx
  by_cases e:x=w
  ·exact .inl e
  ·exact .inr ⟨hx,e⟩
 ·rintro (e | e)
  ·rw[e];exact hw
  ·exact e.1
theorem iO (h:E.Nodup)(hw:w∈E):(rm E w).length+1=E.length:=by
 have:=(gA h hw).length_eq
 rw[av] at this;omega
theorem Mj (h:E.Nodup)(hw:w∈E)(hb:Bal E (beg w) b):Bal (rm E w) (fin w) b:=hb.rest (us:=[w]) (gA h hw) ⟨rfl,rfl⟩
theorem tK (h:E.Nodup)(hw:w∈E)(f:W->W)(v:W):cnt f E v=(if f w=v then 1 else 0)+cnt f (rm E w) v:=by
 rw[uI f (gA h hw),nI]
theorem Ov (h:beg w≠t):og (rm E w) t=og E t:=by
 unfold og rm;rw[gl];refine ij fun x _=>?_
 by_cases e:beg x=t
 ·have:x≠w:=fun z=>h (by rw[<- z];exact e)
  simp[e,this]
 ·simp[e]
theorem Et (h:beg w=t):og (rm E w) t=(og E t).filter fun x=>!decide (x=w):=by
 unfold og rm;rw[gl,gl];refine ij fun x _=>?_
 rw[ur]
end
def jE:Nat->List W->W->W->List (List W)
 | 0,_,a,b=>if a=b then [[]] else []
 | n+1,E,a,b=>(og E a).flatMap fun w=>(jE n (rm E w) (fin w) b).map fun us=>w::us
def eN (E:List W)(a b:W):Nat:=(jE E.length E a b).length
theorem oW:∀ {n:Nat} {E:List W} {a b:W} {us:List W},E.length=n->E.Nodup->(us∈jE n E a b↔us.Perm E∧Tr beg fin a us b)
 | 0,E,a,b,us,hl,_=>by
  obtain rfl:=a8.mp hl;show us∈(if a=b then [[]] else [])↔_;constructor
  ·intro h
   by_cases e:a=b
   ·rw[if_pos e] at h
    rw[ax.mp h];exact⟨.nil,e⟩
   ·rw[if_neg e] at h
    cases h
  ·rintro⟨h1,h2⟩
   obtain rfl:=ng.mp h1;have e:a=b:=h2;rw[if_pos e];exact ax.mpr rfl
 | n+1,E,a,b,us,hl,hn=>by
  show us∈(og E a).flatMap (fun w=>(jE n (rm E w) (fin w) b).map fun us=>w::us)↔_;rw[nq];constructor
  ·rintro⟨w,hw,h⟩
   obtain⟨vs,hv,rfl⟩:=a5.mp h;obtain⟨hwE,hwb⟩:=dC.mp hw;have hl':(rm E w).length=n:=by have:=iO hn hwE;omega
   obtain⟨h1,h2⟩:=(oW hl' (gE hn)).mp hv;exact⟨(h1.cons w).trans (gA hn hwE).symm,hwb,h2⟩
  ·rintro⟨h1,h2⟩
   cases us with
   | nil=>rw[<- h1.length_eq] at hl;cases hl
   | cons w vs =>
    have hwE:w∈E:=h1.mem_iff.mp (ar ..);have hl':(rm E w).length=n:=by have:=iO hn hwE;omega
    refine⟨w,dC.mpr ⟨hwE,h2.1⟩,a5.mpr ⟨vs,(oW hl' (gE hn)).mpr ⟨?_,h2.2⟩,rfl⟩⟩;exact ((h1.trans (gA hn hwE)).cons_inv)
theorem Il {E:List W}(hn:E.Nodup){a b:W}(hne:E≠[]):eN E a b=((og E a).map fun w=>eN (rm E w) (fin w) b).sum:=by
 obtain⟨n,hl⟩:∃ n,E.length=n+1:=⟨E.length-1,by have:=cq.mpr hne;omega⟩;unfold eN;rw[hl];show ((og E a).flatMap fun w=>(jE n (rm E w) (fin w) b).map fun us=>w::us).length=_;rw[List.length_flatMap]
 congr 1
 refine br fun w hw=>?_
 have:=iO hn (dC.mp hw).1
 rw[aR,show (rm E w).length=n by omega]
theorem Kj {E:List W}(hn:E.Nodup){a b:W}(h:¬ Bal E a b):eN E a b=0:=by
 unfold eN;rw[a8,jk];intro us hu;obtain⟨h1,h2⟩:=(oW rfl hn).mp hu;exact h ((Ar h2).perm h1)
def Txs (E:List W)(b:W)(ts:List W):Prop:=ts.Nodup∧∀ t,t∈ts↔t≠b∧∃ w∈E,beg w=t
def bst (E:List W)(b:W)(ts:List W):Nat:=fct (cnt beg E b)*pF (cnt beg E) ts*nC ts (og E)
theorem Txs.perm {E:List W}{b:W}{ts us:List W}(h1:Txs E b ts)(h2:Txs E b us):ts.Perm us:=(d9 h1.1 h2.1).mpr fun t=>by rw[h1.2,h2.2]
theorem Rb {E:List W}{b:W}{ts us:List W}(h1:Txs E b ts)(h2:Txs E b us):bst E b ts=bst E b us:=by
 unfold bst;rw[Rq (h1.perm h2),Hx (h1.perm h2) h1.1]
def nW (ts:List W)(a:W)(g:W->List W)(w:W):Nat:=((chs g ts).filter fun f=>cmT (a::ts) (gG f a w)).length
theorem sV {ts:List W}{a:W}{g:W->List W}:nC (a::ts) g=((g a).map (nW ts a g)).sum:=by
 show (((chs g ts).flatMap fun f=>(g a).map fun w=>gG f a w).filter (cmT (a::ts))).length=((g a).map fun w=>((chs g ts).filter fun f=>cmT (a::ts) (gG f a w)).length).sum;generalize chs g ts=l
 induction l with
 | nil =>
  show 0=((g a).map fun w=>0).sum;generalize g a=l
  induction l with
  | nil=>rfl
  | cons w l ih=>rw[au,cz,<- ih]
 | cons f l ih =>
  rw[eh,ju,ai,ih];clear ih;generalize g a=m
  induction m with
  | nil=>rfl
  | cons w m ih =>
   rw[au,au,au,cz,cz,ft,ft];by_cases hc:cmT (a::ts) (gG f a w)=true
   ·rw[if_pos hc,if_pos hc,av,av];omega
   ·rw[if_neg hc,if_neg hc];omega
theorem Lq {ts:List W}{a w:W}{g g':W->List W}(h:∀ t∈ts,g t=g' t):nW ts a g w=nW ts a g' w:=by unfold nW;rw[pW h]
theorem rD {f:W->Nat}{w:W}:∀ {l:List W},l.Nodup->w∈l->((l.filter fun x=>!decide (x=w)).map f).sum+f w=(l.map f).sum
 | x::l,hn,hw=>by
  rw[cy] at hn;by_cases e:x=w
  ·subst e
   rw[c9 (by simp),au,cz,iq.mpr fun y hy=>by have:y≠x:=fun z=>hn.1 (z▸hy);simp[this]];omega
  ·rw[dj (by simp[e]),au,cz,au,cz,<- rD hn.2 ((aw.mp hw).resolve_left (Ne.symm e))]
   omega
theorem Ig {S:Nat}{f h:W->Nat}:∀ {l:List W},(∀ w∈l,h w+f w=S)->(l.map h).sum+(l.map f).sum=l.length*S
 | [],_=>by simp
 | w::l,hh=>by
  have e:=hh w (ar ..);have ih:=Ig (l:=l) fun x hx=>hh x (am _ hx)
  rw[au,cz,au,cz,av,ia,gy];omega
theorem xS {c:Nat}{f:W->Nat}:∀ {l:List W},(∀ w∈l,f w=c)->(l.map f).sum=l.length*c
 | [],_=>by simp
 | w::l,h=>by
  rw[au,cz,h w (ar ..),xS fun x hx=>h x (am _ hx),av,ia,gy,jq]
theorem Dk {c:Nat}{f:W->Nat}:∀ l:List W,(l.map fun w=>c*f w).sum=c*(l.map f).sum
 | []=>rfl
 | w::l=>by rw[au,cz,Dk l,au,cz,tf]
theorem Sa {ts:List W}{a w:W}{g:W->List W}(ha:a∉ts)(hg:g a=[w])(hw:w.drop 1≠a)(hl:∀ t∈ts,∀ x∈g t,x.drop 1≠a):nC (a::ts) g=nC ts g:=by
 rw[sV,hg];show nW ts a g w+0=_;rw[jt];unfold nW nC
 congr 1
 refine ij fun f hf=>?_
 rw[da,Ay,Ay];have hm:∀ t∈ts,f t∈g t:=zX hf;constructor
 ·intro h χ hc t ht
  refine h χ (fun u hu=>?_) t ht;obtain⟨h1,h2⟩:=hc u hu;have hne:u≠a:=fun z=>ha (z▸h1)
  exact⟨am _ h1,by rw[sU hne];exact h2⟩
 ·intro h χ hc t ht
  have key:=h (fun u=>χ u∧u≠a) fun u ⟨h1,h2⟩=>by
   obtain⟨h3,h4⟩:=hc u h1;rw[sU h2] at h4;have hu:=(aw.mp h3).resolve_left h2;exact⟨hu,h4,hl u hu _ (hm u hu)⟩
  have hat:∀ u,χ u->u=a:=fun u hu=>bc fun z=>key u ⟨hu,z⟩
  obtain rfl:=hat t ht;have h2:=(hc t ht).2;rw[qG] at h2;exact hw (hat _ h2)
theorem Mo {ts:List W}{g:W->List W}(hne:ts≠[])(h:∀ t∈ts,∀ x∈g t,x.drop 1∈ts):nC ts g=0:=by
 unfold nC;rw[a8,fu];intro f hf hc;obtain⟨t,ht⟩:=iy _ hne;exact Ay.mp hc (fun u=>u∈ts) (fun u hu=>⟨hu,h u hu _ (zX hf u hu)⟩) t ht
theorem Mw {E:List W}{b:W}(hb:Bal E b b)(v:W):cnt beg E v=cnt fin E v:=by
 have:=hb v
 omega
theorem Qs:∀ (n:Nat) {E:List W} {a b:W} {ts:List W},E.length=n->E.Nodup->Bal E a b->Txs E b ts->eN E a b=bst E b ts
 | 0,E,a,b,ts,hl,hn,hb,ht=>by
  obtain rfl:=a8.mp hl;have hab:a=b:=by
   have h:=hb a;rw[if_pos (rfl:a=a)] at h;refine bc fun z=>?_
   rw[if_neg z] at h;cases h
  obtain rfl:ts=[]:=jk.mpr fun t h=>by
   obtain⟨_,w,hw,_⟩:=(ht.2 t).mp h;cases hw
  show (if a=b then [[]] else ([]:List (List W))).length=1;rw[if_pos hab];rfl
 | n+1,E,a,b,ts,hl,hn,hb,ht=>by
  have hne:E≠[]:=fun z=>by rw[z] at hl;cases hl
  rw[Il hn hne];have hlw:∀ w∈og E a,(rm E w).length=n:=fun w hw=>by have:=iO hn (dC.mp hw).1;omega
  have hbw:∀ w∈og E a,Bal (rm E w) (fin w) b:=fun w hw=>by
   obtain⟨h1,h2⟩:=dC.mp hw;exact Mj hn h1 (h2.symm▸hb)
  by_cases hab:a=b
  ·subst hab
   by_cases h0:cnt beg E a=0
   ·have e:og E a=[]:=a8.mp h0
    rw[e];show 0=fct _*_*nC ts (og E);have hin:∀ w∈E,fin w∈ts:=fun w hw=>by
     have h1:0<cnt fin E (fin w):=fo (cf.mpr ⟨hw,decide_eq_true rfl⟩);rw[<- Mw hb] at h1;obtain⟨x,hx⟩:=ei h1;obtain⟨hx1,hx2⟩:=cf.mp hx;refine (ht.2 _).mpr ⟨fun z=>?_,x,hx1,of_decide_eq_true hx2⟩;rw[z,h0] at h1;cases h1
    obtain⟨w,hw⟩:=iy _ hne;rw[Mo (List.ne_nil_of_mem (hin w hw)) fun t _ x hx=>hin x (dC.mp hx).1,Nat.mul_zero]
   ·have hc:∀ w∈og E a,eN (rm E w) (fin w) a=fct (cnt beg E a-1)*pF (cnt beg E) ts*nC ts (og E):=fun w hw=>by
     obtain⟨hw1,hw2⟩:=dC.mp hw;have htw:Txs (rm E w) a ts:=⟨ht.1,fun t=>by
      rw[ht.2];constructor
      ·rintro⟨h1,x,h2,h3⟩
       exact⟨h1,x,fD.mpr ⟨h2,fun z=>h1 (by rw[<- h3,z,hw2])⟩,h3⟩
      ·rintro⟨h1,x,h2,h3⟩
       exact⟨h1,x,(fD.mp h2).1,h3⟩⟩
     rw[Qs n (hlw w hw) (gE hn) (hbw w hw) htw];unfold bst;have e1:=tK hn hw1 beg a;rw[if_pos hw2] at e1;rw[show cnt beg (rm E w) a=cnt beg E a-1 by omega];rw[vP (c':=cnt beg E) fun t ht'=>by
      have e2:=tK hn hw1 beg t;rw[if_neg (fun z=>((ht.2 t).mp ht').1 (by rw[<- z,hw2]))] at e2;omega]
     rw[Bs (g':=og E) fun t ht'=>Ov (fun z=>((ht.2 t).mp ht').1 (by rw[<- z,hw2]))]
    rw[xS hc,zU];unfold bst;obtain⟨m,hm⟩:∃ m,cnt beg E a=m+1:=⟨cnt beg E a-1,by omega⟩;rw[hm];show (m+1)*(fct m*_*_)=(m+1)*fct m*_*_;rw[eg,eg,eg]
  ·have hca:cnt beg E a=cnt fin E a+1:=by
    have:=hb a
    rw[if_neg hab,if_pos rfl] at this;omega
   have hat:a∈ts:=by
    obtain⟨w,hw⟩:=ei (show 0<(og E a).length by rw[zU];omega);exact (ht.2 a).mpr ⟨hab,w,dC.mp hw⟩
   obtain⟨us,hp⟩:∃ us,ts.Perm (a::us):=⟨ts.erase a,gr hat⟩;have ht':Txs E b (a::us):=⟨hp.nodup_iff.mp ht.1,fun t=>by rw[<- hp.mem_iff];exact ht.2 t⟩;rw[Rb ht ht'];have hau:a∉us:=(cy.mp ht'.1).1;have hcu:∀ w∈og E a,pF (cnt beg (rm E w)) us=pF (cnt beg E) us:=fun w hw=>vP fun t htu=>by
    obtain⟨hw1,hw2⟩:=dC.mp hw;have e2:=tK hn hw1 beg t;rw[if_neg (fun z=>hau (by rw[<- hw2,z];exact htu))] at e2;omega
   have hcb:∀ w∈og E a,cnt beg (rm E w) b=cnt beg E b:=fun w hw=>by
    obtain⟨hw1,hw2⟩:=dC.mp hw;have e2:=tK hn hw1 beg b;rw[if_neg (fun z=>hab (by rw[<- hw2,z]))] at e2;omega
   by_cases h1:cnt beg E a=1
   ·obtain⟨w,hw⟩:=List.length_eq_one_iff.mp (show (og E a).length=1 from h1)
    have hwm:w∈og E a:=by rw[hw];exact ax.mpr rfl
    obtain⟨hw1,hw2⟩:=dC.mp hwm;have hnf:∀ x∈E,x.drop 1≠a:=fun x hx z=>by
     have:0<cnt fin E a:=fo (cf.mpr ⟨hx,decide_eq_true z⟩)
     omega
    have htw:Txs (rm E w) b us:=⟨(cy.mp ht'.1).2,fun t=>by
     constructor
     ·intro htu
      obtain⟨h3,x,h4,h5⟩:=(ht'.2 t).mp (am _ htu);exact⟨h3,x,fD.mpr ⟨h4,fun z=>hau (by rw[<- hw2,<- z,h5];exact htu)⟩,h5⟩
     ·rintro⟨h3,x,h4,h5⟩
      obtain⟨h6,h7⟩:=fD.mp h4;refine (aw.mp ((ht'.2 t).mpr ⟨h3,x,h6,h5⟩)).resolve_left fun z=>h7 ?_
      have:x∈og E a:=dC.mpr ⟨h6,h5.trans z⟩
      rw[hw] at this;exact ax.mp this⟩
    rw[hw];show eN (rm E w) (fin w) b+0=_;rw[jt,Qs n (hlw w hwm) (gE hn) (hbw w hwm) htw];unfold bst;rw[hcb w hwm,hcu w hwm,Sa hau hw (hnf w hw1) fun t _ x hx=>hnf x (dC.mp hx).1];rw[Bs (g':=og E) fun t htu=>Ov (fun z=>hau (by rw[<- hw2,z];exact htu))];show fct _*pF _ us*_=fct _*(fct (cnt beg E a-1)*pF _ us)*_;rw[h1];show _=fct _*(1*pF _ us)*_;rw[gy]
   ·have hc:∀ w∈og E a,eN (rm E w) (fin w) b=fct (cnt beg E b)*(fct (cnt beg E a-2)*pF (cnt beg E) us)*nC (a::us) (og (rm E w)):=fun w hw=>by
     obtain⟨hw1,hw2⟩:=dC.mp hw;have e1:=tK hn hw1 beg a;rw[if_pos hw2] at e1;have htw:Txs (rm E w) b (a::us):=⟨ht'.1,fun t=>by
      rw[ht'.2];constructor
      ·rintro⟨h3,x,h4,h5⟩
       by_cases hta:t=a
       ·obtain⟨y,hy⟩:=ei (show 0<(og (rm E w) a).length by rw[zU];omega)
        exact⟨h3,y,(dC.mp hy).1,by rw[(dC.mp hy).2,hta]⟩
       ·exact⟨h3,x,fD.mpr ⟨h4,fun z=>hta (by rw[<- h5,z,hw2])⟩,h5⟩
      ·rintro⟨h3,x,h4,h5⟩
       exact⟨h3,x,(fD.mp h4).1,h5⟩⟩
     rw[Qs n (hlw w hw) (gE hn) (hbw w hw) htw];unfold bst;rw[hcb w hw];show _*(fct (cnt beg (rm E w) a-1)*pF (cnt beg (rm E w)) us)*_=_;rw[hcu w hw,show cnt beg (rm E w) a-1=cnt beg E a-2 by omega]
    rw[br hc,Dk];have hS:∀ w∈og E a,nC (a::us) (og (rm E w))+nW us a (og E) w=nC (a::us) (og E):=fun w hw=>by
     obtain⟨hw1,hw2⟩:=dC.mp hw;rw[sV,sV,Et hw2,<- rD (l:=og E a) (f:=nW us a (og E)) (hn.sublist ff) hw]
     congr 2
     refine br fun x _=>Lq fun t htu=>Ov (fun z=>hau (by rw[<- hw2,z];exact htu))
    have hsum:=Ig hS;rw[<- sV (g:=og E),zU] at hsum;unfold bst;show _=fct (cnt beg E b)*(fct (cnt beg E a-1)*pF (cnt beg E) us)*nC (a::us) (og E);obtain⟨m,hm⟩:∃ m,cnt beg E a=m+2:=⟨cnt beg E a-2,by omega⟩;rw[hm] at hsum ⊢;have e3:((og E a).map fun w=>nC (a::us) (og (rm E w))).sum=(m+1)*nC (a::us) (og E):=by
     rw[show m+2=(m+1)+1 from rfl,ia,gy] at hsum;omega
    rw[e3];show fct _*(fct m*_)*((m+1)*_)=fct _*((m+1)*fct m*_)*_;generalize fct (cnt beg E b)=A;generalize fct m=B;generalize pF (cnt beg E) us=C;generalize nC (a::us) (og E)=D;rw[eg (m+1) B C,rn A (m+1) (B*C),de (m+1) (A*(B*C)),eg (A*(B*C)) (m+1) D]
theorem zI:∀ {n:Nat},n<=64->fct n<=64 ^ n
 | 0,_=>ah 1
 | n+1,h=>by
  show (n+1)*fct n<=64 ^ (n+1);rw[gv,de];exact ib (zI (by omega)) (by omega)
theorem Mp (n:Nat):fct (n-1)<=fct n:=by
 cases n with
 | zero=>exact ah _
 | succ n=>show fct n<=(n+1)*fct n;exact Nat.le_mul_of_pos_left _ (oh n)
theorem Ua {c:W->Nat}:∀ {ts:List W},(∀ t∈ts,c t<=64)->pF c ts<=64 ^ (ts.map c).sum
 | [],_=>ah 1
 | t::ts,h=>by
  show fct (c t-1)*pF c ts<=_;rw[au,cz,jp];exact ib (az (Mp _) (zI (h t (ar ..)))) (Ua fun u hu=>h u (am _ hu))
theorem Ii {c:W->Nat}{t:W}:∀ ts:List W,pF c (ts++[t])=pF c ts*fct (c t-1)
 | []=>by show fct _*1=1*fct _;omega
 | u::ts=>by
  show fct _*pF c (ts++[t])=fct _*pF c ts*_;rw[Ii ts,eg]
theorem uC {α:Type}(p:α->Bool):∀ l:List α,(l.filter p).length+(l.filter fun x=>!p x).length=l.length
 | []=>rfl
 | x::l=>by
  have ih:=uC p l;by_cases h:p x=true
  ·rw[dj h,c9 (by simp[h]),av,av];omega
  ·rw[c9 h,dj (by simp[h]),av,av];omega
theorem zC {E:List W}:∀ {ts:List W},ts.Nodup->(ts.map (cnt beg E)).sum<=E.length
 | [],_=>by simp
 | t::ts,nd=>by
  rw[cy] at nd;have ih:=zC (E:=E.filter fun l=>!decide (beg l=t)) nd.2;rw[au,cz];have e:ts.map (cnt beg (E.filter fun l=>!decide (beg l=t)))=ts.map (cnt beg E):=br fun u hu=>by
   unfold cnt;rw[gl]
   congr 1
   refine ij fun l _=>?_
   by_cases h:beg l=u
   ·have hne:u≠t:=fun z=>nd.1 (z▸hu)
    simp[h,hne]
   ·simp[h]
  rw[e] at ih;have h2:=uC (fun l=>decide (beg l=t)) E;exact az (ki ih _) (n8 h2)
theorem Xt {ts:List W}{g:W->List W}:nC ts g<=2 ^ (ts.map fun t=>(g t).length).sum:=az (cj ..) (uK ts)
theorem jU {f:W->W}{v:W}:∀ {E:List W},(E.map f).count v=cnt f E v
 | []=>rfl
 | e::E=>by
  rw[au,tw,nI,jU];by_cases h:f e=v
  ·rw[if_pos (by rw[h];exact beq_self_eq_true v),if_pos h];omega
  ·rw[if_neg (by intro z;exact h (eq_of_beq z)),if_neg h];omega
theorem Sg {E:List W}{a b:W}:(E.map beg++[b]).Perm (E.map fin++[a])↔Bal E a b:=by
 rw[List.perm_iff_count];have e:∀ (x v:W),([x]:List W).count v=if v=x then 1 else 0:=fun x v=>by
  rw[tw,List.count_nil];by_cases h:v=x
  ·rw[if_pos h,if_pos (by rw[h];exact beq_self_eq_true x)]
  ·rw[if_neg h,if_neg (by intro z;exact h (eq_of_beq z).symm)]
 unfold Bal;constructor
 ·intro h v
  have:=h v
  rw[lb,lb,jU,jU,e,e] at this;exact this
 ·intro h v
  rw[lb,lb,jU,jU,e,e];exact h v
end Dt
namespace Wd
def it (f:W->W):Nat->W->W
 | 0,w=>w
 | k+1,w=>f (it f k w)
section
variable {f:W->W}{L:List W}{w:W}{p:Nat}
end
section
variable {f:W->W}{r:W}{n:Nat}{L:List W}
end
open Hg
def aV (w:W):Nat:=w.getD (w.length-1) 0
section
variable {ms us xs ys:List W}{p q r t e w0:W}{n:Nat}
theorem Ai {w:W}(h:1<=w.length):w=beg w++[aV w]:=by
 unfold beg aV
 conv=>lhs;rw[<- j3 (w.length-1) w]
 congr 1
 rw[iz (by omega),List.drop_eq_nil_of_le (by omega),ak,ac (by omega)];rfl
theorem Hb {w:W}:(beg w).length=w.length-1:=by unfold beg;rw[b8];omega
theorem Bv (hn:1<=n):∀ (k:Nat) {us:List W} {p q:W},us.length=k->Tr beg fin p us q->p.length=n-1->(∀ w∈us,w.length=n)->bJ (p++us.map aV) n=us∧(p++us.map aV).drop us.length=q
 | 0,us,p,q,hk,h,hp,hl=>by
  obtain rfl:us=[]:=a8.mp hk;refine⟨?_,?_⟩
  ·unfold bJ
   rw[ir,du,hp,show n-1+1-n=0 by omega];rfl
  ·rw[ir,du,ku,gi];exact h
 | k+1,us,p,q,hk,h,hp,hl=>by
  have hne:us≠[]:=fun z=>by rw[z] at hk;cases hk
  obtain⟨xs,w,rfl⟩:∃ xs w,us=xs++[w]:=⟨us.dropLast,us.getLast hne,(er hne).symm⟩;obtain⟨t1,rfl⟩:=Tr.cut (p:=p) h;rw[ai,ci] at hk;obtain⟨h1,h2⟩:=Bv hn k (by omega) t1 hp fun w hw=>hl w (fi _ hw)
  have hw:=hl w (by simp);have hlen:(p++xs.map aV).length=n-1+xs.length:=by rw[ai,aR,hp]
  have e:p++(xs++[w]).map aV=(p++xs.map aV)++[aV w]:=by rw[bh,<- db];rfl
  have hs:=Ai (w:=w) (by omega);refine⟨?_,?_⟩
  ·rw[e,jT hn (by omega),h1,hlen,show n-1+xs.length+1-n=xs.length by omega,h2,<- hs]
  ·rw[e,ai,ci,<- ub,gf (by omega),h2,<- hs]
   rfl
theorem xI (hn:1<=n)(h:Tr beg fin p us p)(hp:p.length=n-1)(hl:∀ w∈us,w.length=n)(h0:0<us.length):cJ ((p++us.map aV).take us.length) n=us:=by
 obtain⟨h1,h2⟩:=Bv hn _ rfl h hp hl;rw[rE h0 hn (by rw[ai,aR,hp];omega) (by rw[h2,lz (by omega),cp (by omega)]),h1]
theorem Tr.split:∀ {xs:List W} {p:W},Tr beg fin p (xs++ys) q->∃ r,Tr beg fin p xs r∧Tr beg fin r ys q
 | [],p,h=>⟨p,rfl,h⟩
 | x::xs,p,h=>by
  obtain⟨r,h1,h2⟩:=Tr.split (xs:=xs) h.2;exact⟨r,⟨h.1,h1⟩,h2⟩
theorem Sn (h:Tr beg fin p us p)(hp:us.Perm ms)(hw:w0∈ms):∃ vs,Tr beg fin (beg w0) (w0::vs) (beg w0)∧(w0::vs).Perm ms:=by
 obtain⟨xs,ys,rfl⟩:=List.append_of_mem (hp.mem_iff.mpr hw);obtain⟨r,h1,h2,h3⟩:=Tr.split h;refine⟨ys++xs,⟨rfl,Tr.app (p:=p) h3 (h2.symm▸h1)⟩,?_⟩;refine oy ?_ hp;exact le (l₁:=w0::ys) (l₂:=xs)
theorem Ul {t:W}(hn:1<=n)(h:n<=t.length+1):Tr beg fin (t.take (n-1)) (bJ t n) (t.drop (t.length+1-n)):=by
 have hb:∀ i,i+(n-1)<=t.length->beg (bA t n i)=(t.drop i).take (n-1):=fun i hi=>by
  rw[qI hi];unfold beg bA;rw[aR,cn,<- km,List.take_range]
  congr 2
  omega
 have hs:=Fd (t:=t) (n:=n) (k:=t.length+1-n) (i:=0);rw[hb 0 (by omega),gi,hb _ (by omega),gj,cp (l:=t.drop (t.length+1-n)) (by rw[bf];omega)] at hs;rw[show bJ t n=(pw 0 (t.length+1-n)).map (bA t n) by unfold bJ;rw[p8]];exact hs
theorem Dp {t:W}:Tr beg fin (beg (bA t n 0)) (cJ t n) (beg (bA t n 0)):=by
 have hs:=Sh (t:=t) (n:=n) (i:=0) (j:=t.length) (b9 _)
 rwa [Ib,Em] at hs
end
section
variable {ms us vs:List W}{p q m0 t:W}{n:Nat}
theorem Ir (hn:1<=n):(cJ t n).map hd=t:=by
 rw[<- Ib,Ud hn (ah _),Vj]
theorem Oa (hn:1<=n)(hl:∀ w∈cJ t n,w.length=n)(h0:0<t.length)(hm:bA t n 0=m0)(hm0:m0.length=n):(beg m0++(cJ t n).map aV).take t.length=t:=by
 have htr:Tr beg fin (beg m0) (cJ t n) (beg m0):=hm▸Dp;have hr:=xI hn htr (by rw[Hb,hm0]) hl (by rw[gN];exact h0);rw[gN] at hr;rw[<- Ir (t:=(beg m0++(cJ t n).map aV).take t.length) hn,hr,Ir hn]
end
end Wd
namespace Dt
open Wd Hg
theorem Fh {α β:Type}{f:α->List β}{x:α}{l:List α}{k:Nat}:((x::l).flatMap f)[k]?=if k<(f x).length then (f x)[k]? else (l.flatMap f)[k-(f x).length]?:=by
 rw[eh,List.getElem?_append]
theorem Ix {α β:Type}{f:α->List β}{l:List α}{k:Nat}:∀ pre:List α,((pre++l).flatMap f)[(pre.map fun x=>(f x).length).sum+k]?=(l.flatMap f)[k]?
 | []=>by rw[tz,ir];show (l.flatMap f)[0+k]?=_;rw[gj]
 | x::pre=>by
  rw[gn,Fh,au,cz,if_neg (by omega),show (f x).length+(pre.map fun x=>(f x).length).sum+k-(f x).length=(pre.map fun x=>(f x).length).sum+k by omega];exact Ix pre
def rk (b:W):List W->List W->Nat
 | _,[]=>0
 | E,w::us=>(((og E (beg w)).filter fun x=>decide (x<w)).map fun x=>eN (rm E x) (fin x) b).sum+rk b (rm E w) us
theorem yE {w:W}:∀ {l:List W},l.Pairwise (· < ·)->w∈l->∃ post,l=(l.filter fun x=>decide (x<w))++w::post
 | x::l,h,hw=>by
  rw[gm] at h;by_cases e:x=w
  ·subst e
   refine⟨l,?_⟩;rw[c9 (by simp[gh]),fu.mpr fun y hy z=>List.lt_asymm (h.1 y hy) (of_decide_eq_true z)];rfl
  ·have hwl:=(aw.mp hw).resolve_left (Ne.symm e)
   obtain⟨post,hp⟩:=yE h.2 hwl;refine⟨post,?_⟩;rw[dj (by exact decide_eq_true (h.1 w hwl)),gn,<- hp]
theorem Pg {E:List W}(hn:E.Nodup)(hs:E.Pairwise fun x y=>¬ y<x):E.Pairwise (· < ·):=by
 refine ux (fun a b h1 h2=>?_) hs hn;exact bc fun z=>h2 (lv a b z h1)
theorem Ei:∀ {n:Nat} {E:List W} {a b:W} {us:List W},E.length=n->E.Nodup->E.Pairwise (fun x y=>¬ y<x)->us.Perm E->Tr beg fin a us b->(jE n E a b)[rk b E us]?=some us
 | 0,E,a,b,us,hl,_,_,hp,ht=>by
  obtain rfl:=a8.mp hl;obtain rfl:=ng.mp hp;have e:a=b:=ht;show (if a=b then [[]] else ([]:List (List W)))[0]?=_;rw[if_pos e];rfl
 | n+1,E,a,b,us,hl,hn,hs,hp,ht=>by
  cases us with
  | nil=>rw[<- hp.length_eq] at hl;cases hl
  | cons w vs =>
   have hwE:w∈E:=hp.mem_iff.mp (ar ..);have hwb:beg w=a:=ht.1;have hl':(rm E w).length=n:=by have:=iO hn hwE;omega
   have ih:=Ei (a:=fin w) (b:=b) hl' (gE hn) (hs.filter _) (hp.trans (gA hn hwE)).cons_inv ht.2;have hasc:(og E a).Pairwise (· < ·):=(Pg hn hs).filter _;obtain⟨post,hpost⟩:=yE hasc (dC.mpr ⟨hwE,hwb⟩);show ((og E a).flatMap fun w=>(jE n (rm E w) (fin w) b).map fun us=>w::us)[(((og E (beg w)).filter fun x=>decide (x<w)).map fun x=>eN (rm E x) (fin x) b).sum+rk b (rm E w) vs]?=_;rw[hwb];have e1:((og E a).filter fun x=>decide (x<w)).map (fun x=>eN (rm E x) (fin x) b)=((og E a).filter fun x=>decide (x<w)).map fun x=>((jE n (rm E x) (fin x) b).map fun us=>x::us).length:=br fun x hx=>by
    have:=iO hn (dC.mp (cf.mp hx).1).1
    rw[aR];unfold eN;rw[show (rm E x).length=n by omega]
   rw[e1];generalize hpre:(og E a).filter (fun x=>decide (x<w))=pre at hpost;rw[hpost,Ix pre,Fh];have hlt:rk b (rm E w) vs<(jE n (rm E w) (fin w) b).length:=(al.mp ih).1;rw[aR,if_pos hlt,ag,ih];rfl
theorem Yz {E us:List W}{a b:W}(hn:E.Nodup)(hs:E.Pairwise fun x y=>¬ y<x)(hp:us.Perm E)(ht:Tr beg fin a us b):rk b E us<eN E a b:=(al.mp (Ei rfl hn hs hp ht)).1
theorem uF {E us:List W}{a b:W}{k:Nat}(hn:E.Nodup)(h:(jE E.length E a b)[k]?=some us):us.Perm E∧Tr beg fin a us b:=(oW rfl hn).mp (aq h)
def rT (m0:W)(us:List W):W:=(beg m0++(m0::us).map aV).take (us.length+1)
section
variable {m0:W}{us vs ms:List W}{n:Nat}
theorem Wl (hn:1<=n)(hl:∀ w∈m0::us,w.length=n)(h:Tr beg fin (beg m0) (m0::us) (beg m0)):cJ (rT m0 us) n=m0::us :=
 xI hn h (by rw[Hb,hl m0 (ar ..)]) hl (oh _)
theorem Wf (hn:1<=n)(hl:∀ w∈m0::us,w.length=n):(rT m0 us).length=us.length+1:=by
 unfold rT;rw[b8,ai,aR,av];omega
theorem Iz {t:W}(hn:1<=n)(hlen:∀ w∈ms,w.length=n)(hp:(cJ t n).Perm ms)(hne:ms≠[])(hf:bA t n 0=m0):∃ us,cJ t n=m0::us∧t=rT m0 us∧Tr beg fin (beg m0) (m0::us) (beg m0):=by
 have htl:0<t.length:=by
  have:=hp.length_eq
  rw[gN] at this
  have:=cq.mpr hne
  omega
 obtain⟨x,us,hx⟩:∃ x us,cJ t n=x::us:=by
  cases e:cJ t n with
  | nil=>have:=gN t n;rw[e] at this;simp at this;omega
  | cons x us=>exact⟨x,us,rfl⟩
 have hx0:x=m0:=by
  have h1:(cJ t n)[0]?=some (bA t n 0):=by
   unfold cJ;rw[ag,ga htl];rfl
  rw[hx,hf] at h1;exact ay h1
 subst hx0;have hl:∀ w∈cJ t n,w.length=n:=fun w hw=>hlen w (hp.mem_iff.mp hw)
 have htr:=Dp (t:=t) (n:=n);rw[hf,hx] at htr;refine⟨us,hx,?_,htr⟩;have h3:=Oa hn hl htl hf (hl x (by rw[hx];exact ar ..));rw[hx] at h3;unfold rT;have h4:t.length=us.length+1:=by rw[<- gN t n,hx];rfl
 rw[<- h4];exact h3.symm
end
def Zz (g:W->List W)(t w:W):W->List W:=fun x=>if x=t then [w] else g x
def trs (ts:List W):List W->(W->List W)->List (List W)
 | [],g=>if cmT ts (fun t=>(g t).headD [])=true then [[]] else []
 | t::r,g=>(g t).flatMap fun w=>(trs ts r (Zz g t w)).map fun us=>w::us
section
variable {ms us ps:List W}{p q x m0:W}{n k:Nat}
end
end Dt
namespace Wd
open Hg
end Wd
namespace Dt
open Wd
theorem Dw:∀ (us:List W) (E:List W),us.foldl rm E=E.filter fun x=>!decide (x∈us)
 | [],E=>by
  show E=_;rw[iq.mpr fun x _=>by simp]
 | u::us,E=>by
  show us.foldl rm (rm E u)=_;rw[Dw us (rm E u)];unfold rm;rw[gl];refine ij fun x _=>?_
  by_cases e:x=u <;> by_cases h:x∈us <;> simp[e,h]
theorem Je {b w:W}:∀ {us E:List W},rk b E (us++[w])=rk b E us+(((og (us.foldl rm E) (beg w)).filter fun x=>decide (x<w)).map fun x=>eN (rm (us.foldl rm E) x) (fin x) b).sum
 | [],E=>by
  show _+0=0+_;rw[jt,gj];rfl
 | u::us,E=>by
  show _+rk b (rm E u) (us++[w])=_+rk b (rm E u) us+_;rw[Je (us:=us) (E:=rm E u),lr];rfl
theorem Rg {E:List W}(hn:E.Nodup){a b:W}(h:0<eN E a b):gY E a:=by
 obtain⟨us,hu⟩:=ei h;obtain⟨h1,h2⟩:=(oW rfl hn).mp hu;exact (sI h2).perm h1
open Classical in
theorem uN {E:List W}(hn:E.Nodup){b:W}:∀ l:List W,(l.map fun x=>eN (rm E x) (fin x) b).sum=((l.filter fun x=>decide (gY (rm E x) (fin x))).map fun x=>eN (rm E x) (fin x) b).sum
 | []=>rfl
 | x::l=>by
  have ih:=uN hn (b:=b) l;by_cases h:gY (rm E x) (fin x)
  ·rw[dj (p:=fun x=>decide (gY (rm E x) (fin x))) (decide_eq_true h),au,au,cz,cz,ih]
  ·rw[c9 (p:=fun x=>decide (gY (rm E x) (fin x))) (fun z=>h (of_decide_eq_true z)),au,cz,ih]
   have e:eN (rm E x) (fin x) b=0:=Nat.eq_zero_of_not_pos fun z=>h (Rg (gE hn) z)
   rw[e,gj]
end Dt
namespace L2
open PySem PySem.Spec PyProof.Rows
def tx (l:List Nat):Str:=⟨l.toArray⟩
abbrev T (l:List Nat):V:=.str (tx l)
theorem iA (l:List Nat):(tx l).length=l.length:=by simp[tx,Str.length]
theorem eG (l:List Nat):(tx l).cps.toList=l:=by simp[tx]
theorem kI (x:Str):tx x.cps.toList=x:=by cases x;simp[tx]
theorem hZ {a b:List Nat}(h:tx a=tx b):a=b:=by
 have e:=congrArg (fun x:Str=>x.cps.toList) h
 simpa [tx] using e
theorem Yn {a b:List Nat}(h:T a=T b):a=b:=hZ (V.str.inj h)
theorem To {a b:List Nat}:decide (T a=T b)=decide (a=b):=by
 rw[da,decide_eq_true_iff,decide_eq_true_iff];exact⟨Yn,fun h=>by rw[h]⟩
theorem Vz (a b:List Nat):tx a++tx b=tx (a++b):=by
 rw[<- kI (tx a++tx b),PySem.W.KT.app_list,eG,eG]
section
variable {X:Cx}
theorem lR:OpR X (binaryOp .Add) (fun x y H Q=>∃ a,x=T a∧∃ b,y=T b∧a.length+b.length<=sizeLine∧Q (T (a++b)) H):=by
 intro pins s σ H x y v u Q I rx ry h;obtain⟨a,e1,b,e2,hz,q⟩:=h;exact Fg pins s σ H x y v u Q I rx ry ⟨tx a,tx b,e1,e2,by rw[iA,iA];exact hz,by rw[Vz];exact q⟩
theorem Qz:OpR X (compareOp .Lt) (fun x y H Q=>∃ a,x=T a∧∃ b,y=T b∧Q (.bl (decide (a<b))) H):=by
 intro pins s σ H x y v u Q I rx ry h;obtain⟨a,e1,b,e2,q⟩:=h;exact Jv pins s σ H x y v u Q I rx ry ⟨tx a,tx b,e1,e2,by rw[eG,eG];exact q⟩
theorem sO:OpR X (compareOp .Eq) (fun x y H Q=>∃ a,x=T a∧∃ b,y=T b∧Q (.bl (decide (a=b))) H):=by
 intro pins s σ H x y v u Q I rx ry h;obtain⟨a,rfl,b,rfl,q⟩:=h;exact Tf pins s σ H _ _ v u Q I rx ry ⟨rfl,by rw[To];exact q⟩
theorem Hh:OpR X (compareOp .NotEq) (fun x y H Q=>∃ a,x=T a∧∃ b,y=T b∧Q (.bl (!decide (a=b))) H):=by
 intro pins s σ H x y v u Q I rx ry h;obtain⟨a,rfl,b,rfl,q⟩:=h;exact Tg pins s σ H _ _ v u Q I rx ry ⟨rfl,by rw[To];exact q⟩
theorem iD:OpR X (compareOp .Eq) (fun x y H Q=>∃ a,x = .int a∧∃ b,y = .int b∧Q (.bl (decide (a=b))) H):=by
 intro pins s σ H x y v u Q I rx ry h;obtain⟨a,rfl,b,rfl,q⟩:=h;exact Tf pins s σ H _ _ v u Q I rx ry ⟨rfl,by rw[sK,pb];exact q⟩
theorem iC:OpR X (compareOp .NotEq) (fun x y H Q=>∃ a,x = .int a∧∃ b,y = .int b∧Q (.bl (!decide (a=b))) H):=by
 intro pins s σ H x y v u Q I rx ry h;obtain⟨a,rfl,b,rfl,q⟩:=h;exact Tg pins s σ H _ _ v u Q I rx ry ⟨rfl,by rw[sK,pb];exact q⟩
def iG (l:List Nat)(lo hi:Option Int):List Nat:=(l.drop (HT.sIx l.length 0 lo)).take (HT.sIx l.length l.length hi-HT.sIx l.length 0 lo)
theorem nH (v:Option Int)(n d:Nat):(match v with | none=>(d:Int) | some i=>max 0 (min (if i<0 then i+(n:Int) else i) (n:Int)))=((HT.sIx n d v:Nat):Int):=by
 cases v with
 | none=>rfl
 | some i =>
  show max 0 (min (if i<0 then i+(n:Int) else i) (n:Int))=(((if i<0 then (i+(n:Int)).toNat else min i.toNat n):Nat):Int);by_cases hi:i<0
  ·simp only [if_pos hi];omega
  ·simp only [if_neg hi];omega
theorem Bj (lo hi:Option Int)(n:Nat):Builtin.Str.strSliceIndices lo hi 1 n=Builtin.Str.strSliceIndices (some ((HT.sIx n 0 lo:Nat):Int)) (some ((HT.sIx n n hi:Nat):Int)) 1 n:=by
 have h1:=HT.tQ n 0 (b9 _) lo;have h2:=HT.tQ n n (ah _) hi;have c1:=nH lo n 0;have c2:=nH hi n n;have d1:=nH (some ((HT.sIx n 0 lo:Nat):Int)) n 0;have d2:=nH (some ((HT.sIx n n hi:Nat):Int)) n n;rw[HT.fH,et h1] at d1;rw[HT.fH,et h2] at d2;unfold Builtin.Str.strSliceIndices;simp only [show ((1:Int)>0) from by decide,if_true];have g:∀ a b c d:Int,a=c->b=d->sliceRange a b 1=sliceRange c d 1:=fun a b c d h1 h2=>by rw[h1,h2]
 exact g _ _ _ _ (c1.trans d1.symm) (c2.trans d2.symm)
theorem Nv (l:List Nat)(lo hi:Option Int):Txt.slice (tx l) lo hi=tx (iG l lo hi):=by
 have h1:=HT.tQ l.length 0 (b9 _) lo;have h2:=HT.tQ l.length l.length (ah _) hi;unfold Txt.slice;rw[iA,Bj];by_cases hab:HT.sIx l.length 0 lo<=HT.sIx l.length l.length hi
 ·have e:=StrLaws.sliceText_nat (tx l) hab (by rw[iA];exact h2)
  unfold StrLaws.sliceText at e;rw[iA,eG] at e;exact e
 ·have e0:Builtin.Str.strSliceIndices (some ((HT.sIx l.length 0 lo:Nat):Int)) (some ((HT.sIx l.length l.length hi:Nat):Int)) 1 l.length=[]:=by
   unfold Builtin.Str.strSliceIndices sliceRange;have n1:¬ (((HT.sIx l.length 0 lo:Nat):Int)<0):=by omega
   have n2:¬ (((HT.sIx l.length l.length hi:Nat):Int)<0):=by omega
   simp only [show ((1:Int)>0) from by decide,if_true,if_neg n1,if_neg n2];have n3:¬ (max (0:Int) (min ((HT.sIx l.length 0 lo:Nat):Int) (l.length:Int))<max (0:Int) (min ((HT.sIx l.length l.length hi:Nat):Int) (l.length:Int))):=by omega
   simp[n3]
  have e1:iG l lo hi=[]:=by
   unfold iG;rw[show HT.sIx l.length l.length hi-HT.sIx l.length 0 lo=0 by omega,ix]
  rw[e0,e1]
  cases l with
  | nil=>rfl
  | cons c r=>rfl
theorem wC:SlR X (fun x lo hi H Q=>∃ a,x=T a∧a.length<=sizeLine∧Q (T (iG a lo hi)) H):=by
 intro pins s σ H x v vl vu lo hi sl Q I rx hs pl pu h;obtain⟨a,rfl,hz,q⟩:=h;obtain⟨t,rfl⟩:=rx;obtain⟨l,hl1,hl2⟩:∃ l:Option (Int×Tok),partValue l=vl∧l.map (·.1)=lo:=by
  cases pl with
  | none=>exact⟨none,rfl,rfl⟩
  | int i t=>exact⟨some (i,t),rfl,rfl⟩
 obtain⟨u,hu1,hu2⟩:∃ u:Option (Int×Tok),partValue u=vu∧u.map (·.1)=hi:=by
  cases pu with
  | none=>exact⟨none,rfl,rfl⟩
  | int i t=>exact⟨some (i,t),rfl,rfl⟩
 refine⟨"str",_,F.slot_str_getitem.lookup,typeIs_str _ _ _,?_⟩
 have hsl:s.heap.IsSlice sl l u none:=by
  obtain⟨o,ho,hc,hd⟩:=hs;exact⟨o,ho,hc,by rw[hl1,hu1];exact hd⟩
 refine wpAny_getItem_str_slice hsl rfl ?_;have key:(if ((1:Int)==1&&(Builtin.Str.strSliceIndices lo hi 1 (tx a).length).length==(tx a).length)=true then (tx a) else ⟨((Builtin.Str.strSliceIndices lo hi 1 (tx a).length).filterMap ((tx a).cps[·]?)).toArray⟩)=tx (iG a lo hi):=Nv a lo hi;unfold sliceMade slicePicked;rw[hl2,hu2];refine post_val_or_str ⟨?_,fun t' k=>?_⟩
 ·show (Txt.slice (tx a) lo hi).length<=sizeLine
  exact az (Txt.slice_le _ _ _) (by rw[iA];exact hz)
 ·refine⟨T (iG a lo hi),H,I.tok _,⟨t',?_⟩,q⟩
  exact congrArg (fun z=>Value.str z t') key
theorem Eg (n:Nat)(l:List Nat):(Wd.rep n l).length=n*l.length:=Wd.nY n l
theorem Kc (n:Nat)(c:Array Nat):∀ acc:Array Nat,(c7 n c).foldl (· ++ ·) acc=acc++(Wd.rep n c.toList).toArray:=by
 induction n with
 | zero=>intro acc;simp[Wd.rep]
 | succ n ih =>
  intro acc;rw[fe,oq,ih];rw[Wd.oM,mi]
  congr 1
  apply Array.ext';simp
theorem Ui (n:Nat)(l:List Nat):Txt.mul (tx l) (n:Int)=tx (Wd.rep n l):=by
 unfold Txt.mul;by_cases h1:(n:Int)<1
 ·have e:n=0:=by omega
  subst e;rw[if_pos h1];rfl
 ·rw[if_neg h1]
  by_cases h2:((n:Int)==1||(tx l).length==0)=true
  ·rw[if_pos h2]
   rw[jx,beq_iff_eq,beq_iff_eq,iA] at h2;rcases h2 with h2 | h2
   ·have e:n=1:=by omega
    subst e;rw[Wd.Sx]
   ·have e:l=[]:=a8.mp h2
    subst e
    have:Wd.rep n []=[]:=a8.mp (by rw[Eg];simp)
    rw[this]
  ·rw[if_neg h2,bv,Kc]
   simp[tx]
theorem Pm:OpR X (binaryOp .Mult) (fun x y H Q=>∃ a,x=T a∧∃ n:Nat,y = .int n∧(n<=sizeLine∧n*a.length<=sizeLine)∧Q (T (Wd.rep n a)) H):=by
 intro pins s σ H x y v u Q I rx ry h;obtain⟨a,rfl,n,rfl,⟨h1,h2⟩,q⟩:=h;obtain⟨t,rfl⟩:=rx;obtain⟨t',rfl⟩:=ry;have hs:sizeLine=16777216:=sizeLine_eq;refine SB.mul ⟨?_,?_,?_⟩ fun t' k=>⟨T (Wd.rep n a),H,I.tok _,⟨t',by rw[Ui]⟩,q⟩
 ·have e1:decide ((n:Int) < -(2 ^ 63:Int))=false:=decide_eq_false (by omega)
  have e2:decide ((n:Int)≥2 ^ 63)=false:=decide_eq_false (by omega);rw[e1,e2];rfl
 ·intro hn _
  rw[iA];have h3:n*a.length<=16777216:=by omega
  intro hc;have h4:((n*a.length:Nat):Int)<=16777216:=by omega
  have hn':(0:Int)<n:=by omega
  have h5:((2 ^ 63-1)/(n:Int))*n<=2 ^ 63-1:=Int.ediv_mul_le _ (by omega);have h6:(2 ^ 63-1:Int)<((2 ^ 63-1)/(n:Int)+1)*n:=Int.lt_ediv_add_one_mul_self _ hn';have h7:((2 ^ 63-1)/(n:Int)+1)*n<=(a.length:Int)*n:=ll (by omega) (by omega);have h8:((n*a.length:Nat):Int)=(a.length:Int)*n:=by rw[fk,g7]
  omega
 ·intro hn _
  rw[iA,bv,de];unfold Builtin.Str.tooLong;exact decide_eq_false (by omega)
theorem pV:∀ {ls:List (List Nat)} {us:List Value},bK (ls.map T) us->StrsAre us (ls.map tx)
 | [],us,r=>by
  cases r;exact .nil
 | l::ls,us,r=>by
  rw[au] at r
  cases r with
  | cons r1 r2 =>
   obtain⟨t,rfl⟩:=r1;exact .cons _ _ (pV r2)
end
end L2
namespace L2
theorem yC {w:List Nat}{k:Nat}(h:k<=w.length):iG w (some (k:Int)) none=w.drop k:=by
 unfold iG;rw[HT.fH,HT.gU,et h];exact cp (by rw[bf];omega)
theorem zP {w:List Nat}{k:Nat}(h:k<=w.length):iG w none (some (k:Int))=w.take k:=by
 unfold iG;rw[HT.fH,HT.gU,et h,gi,k9]
theorem Ch {w:List Nat}{a b:Nat}(hb:b<=w.length)(hab:a<=b):iG w (some (a:Int)) (some (b:Int))=(w.drop a).take (b-a):=by
 unfold iG;rw[HT.fH,HT.fH,et hb,et (show a<=w.length by omega)]
open PyProof.Rows PySem PySem.Spec
structure cM (N N':List Str)(sc scope:Scope)(x:Str):Prop where
 kind:scope.kind = .function
 cell:∀ y∈scope.names,y.2≠.cell
 names:∀ y∈scope.names,y.2 = .local->scope.names.lookup y.1=some .local
 var:scope.names.lookup x=some .local
 ok:∀ y∈scope.names,y.2 = .free->sc.names.lookup y.1=some .cell∨sc.names.lookup y.1=some .free
 hd:N'[0]?=some x
 len:N'.length=N.length+1
 sub:∀ i,i<N.length->N'[i+1]?=N[i]?∨(N'[i+1]?.map fun y=>scope.names.lookup y)=some none
 noe:scope.names.lookup ("" : Str)=none
 nol:∀ y∈N'.tail,scope.names.lookup y≠some .local
 nd:N'.Nodup
def dX (cells:List (Str×Addr)):List (Str×NameKind)->List (Str×Addr)->List (Str×Addr)
 | [],acc=>acc
 | (n,k)::r,acc=>dX cells r (if k == .free then (n,(cells.lookup n).getD 0)::acc else acc)
theorem mU {cells:List (Str×Addr)}{y:Str}{c:Addr}:∀ (names:List (Str×NameKind)) (acc:List (Str×Addr)),(∀ z∈names,z.2 = .free->∃ c,cells.lookup z.1=some c) ->
  (acc.lookup y=some c->cells.lookup y=some c)->(dX cells names acc).lookup y=some c->cells.lookup y=some c
 | [],acc,_,ha,h=>ha h
 | (n,k)::r,acc,hz,ha,h=>by
  unfold dX at h;refine mU r _ (fun z hm=>hz z (am _ hm)) (fun q=>?_) h;split at q
  ·rename_i hk
   obtain⟨c',e⟩:=hz (n,k) ar (by simpa using hk);rw[jl] at q;split at q
   ·rename_i he
    have:y=n:=by simpa using he
    subst this;rw[e] at q;rw[e];exact q
   ·exact ha q
  ·exact ha q
theorem Du {cells:List (Str×Addr)}{y:Str}:∀ (names:List (Str×NameKind)) (acc:List (Str×Addr)),(∃ c,acc.lookup y=some c)->∃ c,(dX cells names acc).lookup y=some c
 | [],acc,h=>h
 | (n,k)::r,acc,⟨c,h⟩=>by
  unfold dX;refine Du r _ ?_;split
  ·rw[jl]
   split
   ·exact⟨_,rfl⟩
   ·exact⟨c,h⟩
  ·exact⟨c,h⟩
theorem tS {cells:List (Str×Addr)}{y:Str}:∀ (names:List (Str×NameKind)) (acc:List (Str×Addr)),(y,NameKind.free)∈names->∃ c,(dX cells names acc).lookup y=some c
 | (n,k)::r,acc,h=>by
  unfold dX;rcases aw.mp h with e | h
  ·cases e
   refine Du r _ ⟨(cells.lookup y).getD 0,?_⟩;simp
  ·exact tS r _ h
theorem iX {scope:Scope}{env:Env}(h:∀ z∈scope.names,z.2 = .free->∃ c,env.cells.lookup z.1=some c):closureFor scope env=pure (dX env.cells scope.names []):=by
 have gen:∀ (names:List (Str×NameKind)) (acc:List (Str×Addr)),(∀ z∈names,z.2 = .free->∃ c,env.cells.lookup z.1=some c) ->
   (forIn names acc fun (x:Str×NameKind) (r:List (Str×Addr))=>(if (x.2==NameKind.free)=true then (do let a <- cellOf env x.1;pure (ForInStep.yield ((x.1,a)::r))) else pure (ForInStep.yield r):Sem (ForInStep (List (Str×Addr)))))=(pure (dX env.cells names acc):Sem (List (Str×Addr))):=by
  intro names
  induction names with
  | nil=>intro acc _;rfl
  | cons z r ih =>
   intro acc hz;obtain⟨n,k⟩:=z;rw[List.forIn_cons];unfold dX;by_cases hk:(k==NameKind.free)=true
   ·obtain⟨c,e⟩:=hz (n,k) ar (by simpa using hk)
    have e':env.cells.lookup n=some c:=e;simp only [hk,if_true,cellOf,e',pure_bind,Option.getD_some];exact ih _ fun z hm=>hz z (am _ hm)
   ·simp only [hk,dq,if_false,pure_bind]
    exact ih _ fun z hm=>hz z (am _ hm)
 have g:=gen scope.names [] h;unfold closureFor;refine Eq.trans ?_ (congrArg (fun (m:Sem (List (Str×Addr)))=>m >>= fun cs=>pure cs) g);rfl
theorem cR (scope:Scope)(env:Env)(y:Str):(relabel scope env).names.lookup y=(scope.names.lookup y).map fun k=>if (k==NameKind.free&&env.scope.kind == .function&&env.kindOf y==some .cell)=true then NameKind.cell else k:=by
 unfold relabel;show j8 y (scope.names.map fun (n,k)=>if (k==NameKind.free&&env.scope.kind == .function&&env.kindOf n==some .cell)=true then (n,NameKind.cell) else (n,k))=_
 induction scope.names with
 | nil=>rfl
 | cons z r ih =>
  obtain⟨n,k⟩:=z;rw[au];by_cases hy:(y==n)=true
  ·have e:y=n:=by simpa using hy
   subst e;by_cases hc:(k==NameKind.free&&env.scope.kind == .function&&env.kindOf y==some .cell)=true
   ·simp only [hc,if_true,jl,beq_self_eq_true,il]
   ·simp only [hc,if_false,jl,beq_self_eq_true,il,dq]
  ·have hy':(y==n)=false:=by simpa using hy
   by_cases hc:(k==NameKind.free&&env.scope.kind == .function&&env.kindOf n==some .cell)=true
   ·simp only [hc,if_true,jl,hy']
    exact ih
   ·simp only [hc,if_false,jl,hy',dq]
    exact ih
theorem eR {κ:Type}:∀ {l:List (Str×κ)} {y:Str} {k:κ},l.lookup y=some k->(y,k)∈l:=fun h=>ip h
abbrev bY (X:Cx)(N':List Str)(scope:Scope)(cl:List (Str×Addr))(C:Addr)(s:Shared)(H:Hp)(fp:List Addr):Cx :=
 { X with env:=compEnvC scope cl C X.env,N:=N',s₀:=s,H₀:=H,outer:=X.stack,stack:=X.stack,ex:=fp,fn:=fun _=>false,xe:=fun _ _=>False }
abbrev Yr (cds:List Expr)(env:Env):Sem Bool:=forIn cds true fun c r=>if r=true then do let ok <- isTrue c env (eval c env);pure (ForInStep.yield ok) else pure (ForInStep.yield r)
def PTL (X:Cx)(cds:List Expr)(t:TT):Prop :=
 ∀ (pins:List (Addr×Obj)) (s:Shared) (σ:St) (H:Hp) (Q:Bool->Hp->Prop),Inv X pins σ H s->t σ H Q->wpAny (model X.prog X.w) X.A (Yr cds X.env) (TP X pins σ Q) X.xe s
theorem Ja {X:Cx}:PTL X [] (fun _ H k=>k true H):=fun pins s σ H Q I q=>wpAny_tests_nil ⟨H,I,q⟩
theorem He {X:Cx}{cd:Expr}{tc:TT}(h:PT X cd tc):PTL X [cd] tc:=fun pins s σ H Q I q=>wpAny_tests_one (h pins s σ H Q I q)
theorem mI {prog:Program}{w:World}{A:Around}{R:Result->Shared->Prop}{s:Shared}{elt target iter:Expr}{cds:List Expr}{scope:Scope}{pos:Pos}{it acc:Value}{env:Env}(I:Nat->Shared->Prop)
  (turn:∀ n s,I n s->wpAny (model prog w) A (pyNext it) (fun r s₁=>match r with
   | none=>R (.ok .next) s₁
   | some v=>wpAny (model prog w) A (letOwnedTupleGo target it v) (fun _ s₁'=>wpAny (model prog w) A (assign target env v) (fun _ s₂=>wpAny (model prog w) A (Yr cds env) (fun ok s₂' =>
    if ok=true then wpAny (model prog w) A (eval elt env) (fun x s₃ =>
     wpAny (model prog w) A (call (.builtin "list.append") [acc,x]) (fun _ s₄=>∃ m,m<n∧I m s₄) (fun _ _=>False) s₃) (fun _ _=>False) s₂'
    else ∃ m,m<n∧I m s₂') (fun _ _=>False) s₂) (fun _ _=>False) s₁') (fun _ _=>False) s₁) (fun _ _=>False) s)
  (n:Nat) (h:I n s) :
  codeAny (model prog w) A (.compLoop (.ListComp elt [⟨target,iter,cds,0⟩] scope pos) 0 it acc env) R s:=by
 refine codeAny_loop rfl I (fun n s hI=>?_) n h;show wpAny _ A ((compTurn (.ListComp elt [⟨target,iter,cds,0⟩] scope pos) 0 it acc env).onRaise (fun x=>do noteFrame x env;theTreesLotGoes x)) _ _ s;refine wpAny_noted ?_;rw[compTurn_list];refine wpAny_bind (wpAny_standAt (wpAny_bind (wpAny_mono (turn n s hI) (fun r s₁ h₁=>?_) fun _ _ h'=>h'.elim)))
 cases r with
 | none=>exact wpAny_pure h₁
 | some v =>
  refine wpAny_bind (wpAny_mono h₁ (fun _ s₀ h₀=>?_) fun _ _ h'=>h'.elim);refine wpAny_bind (wpAny_mono h₀ (fun _ s₂ h₂=>?_) fun _ _ h'=>h'.elim);refine wpAny_bind ((wpAny_mono h₂ (fun ok s₃ h₃=>?_) fun _ _ h'=>h'.elim))
  cases ok with
  | false=>exact wpAny_pure ⟨rfl,by simpa using h₃⟩
  | true =>
   have h₃':=h₃;simp only [if_true] at h₃';exact wpAny_bind (wpAny_bind (wpAny_mono h₃' (fun x s₄ h₄=>wpAny_bind (wpAny_mono h₄ (fun _ s₅ h₅=>wpAny_pure (wpAny_pure ⟨rfl,h₅⟩)) fun _ _ h'=>h'.elim)) fun _ _ h'=>h'.elim))
theorem lK {prog:Program}{w:World}{A:Around}{R:Result->Shared->Prop}{s:Shared}{elt target iter:Expr}{scope:Scope}{pos:Pos}{it acc:Value}{env:Env}(I:Nat->Shared->Prop)
  (turn:∀ n s,I n s->wpAny (model prog w) A (pyNext it) (fun r s₁=>match r with
   | none=>R (.ok .next) s₁
   | some v=>wpAny (model prog w) A (letOwnedTupleGo target it v) (fun _ s₁'=>wpAny (model prog w) A (assign target env v) (fun _ s₂=>wpAny (model prog w) A (eval elt env) (fun x s₃ =>
    wpAny (model prog w) A (call (.builtin "list.append") [acc,x]) (fun _ s₄=>∃ m,m<n∧I m s₄) (fun _ _=>False) s₃)
    (fun _ _=>False) s₂) (fun _ _=>False) s₁') (fun _ _=>False) s₁) (fun _ _=>False) s)
  (n:Nat) (h:I n s) :
  codeAny (model prog w) A (.compLoop (.ListComp elt [⟨target,iter,[],0⟩] scope pos) 0 it acc env) R s:=by
 refine codeAny_loop rfl I (fun n s hI=>?_) n h;show wpAny _ _ ((compTurn (.ListComp elt [⟨target,iter,[],0⟩] scope pos) 0 it acc env).onRaise (fun x=>do noteFrame x env;theTreesLotGoes x)) _ _ s;refine wpAny_noted ?_;rw[compTurn_list1];refine wpAny_bind (wpAny_standAt (wpAny_bind (wpAny_mono (turn n s hI) (fun r s₁ h₁=>?_) fun _ _ h'=>h'.elim)))
 cases r with
 | none=>exact wpAny_pure h₁
 | some v =>
  refine wpAny_bind (wpAny_mono h₁ (fun _ s₁' h₁'=>?_) fun _ _ h'=>h'.elim);exact wpAny_bind (wpAny_mono h₁' (fun _ s₂ h₂=>wpAny_bind (wpAny_bind (wpAny_mono h₂ (fun x s₃ h₃=>wpAny_bind (wpAny_mono h₃
   (fun _ s₄ h₄=>wpAny_pure (wpAny_pure ⟨rfl,h₄⟩)) fun _ _ h'=>h'.elim)) fun _ _ h'=>h'.elim))) fun _ _ h'=>h'.elim)
def jO (te:TE)(σ:St)(Q:VK)(J:It)(H1:Hp):Prop:=∀ D,H1 D=none->∃ W:Nat->Nat->List V->Hp->Prop,(∃ m,W 0 m [] (upd H1 D (.lst [])))∧∀ i m ys H2,W i m ys H2 ->
 (J.stop i H2∧Q (.ref D) H2)∨(J.go i H2∧ys.length<sizeLine∧∃ N:V->Hp->Prop,(∀ v H',N v H'->H' D=some (.lst ys)∧∃ m',m'<m∧W (i+1) m' (ys++[v]) (upd H' D (.lst (ys++[v])))) ∧
  ∀ y H',J.yld i H2 y H'->te (some y::σ) H' N)
def Tl (wi:TI)(te:TE):TE:=fun σ H Q=>wi σ H (jO te σ Q)
def iW (tc:TT)(te:TE)(σ:St)(Q:VK)(J:It)(H1:Hp):Prop:=∀ D,H1 D=none->∃ W:Nat->Nat->List V->Hp->Prop,(∃ m,W 0 m [] (upd H1 D (.lst [])))∧∀ i m ys H2,W i m ys H2 ->
 (J.stop i H2∧Q (.ref D) H2)∨(J.go i H2∧ys.length<sizeLine∧∃ N:V->Hp->Prop,(∀ v H',N v H'->H' D=some (.lst ys)∧∃ m',m'<m∧W (i+1) m' (ys++[v]) (upd H' D (.lst (ys++[v])))) ∧
  ∃ Nn:Hp->Prop,(∀ H',Nn H'->∃ m',m'<m∧W (i+1) m' ys H') ∧
  ∀ y H',J.yld i H2 y H'->tc (some y::σ) H' fun b H''=>if b=true then te (some y::σ) H'' N else Nn H'')
def Od (wi:TI)(tc:TT)(te:TE):TE:=fun σ H Q=>wi σ H (iW tc te σ Q)
section
variable {X:Cx}{N':List Str}{scope:Scope}{x:Str}{px:Pos}{elt iter:Expr}{cds:List Expr}{pos:Pos}{te:TE}{tc:TT}{wi:TI}
theorem uH (S:cM X.N N' X.env.scope scope x)(hc:X.calm=true)(ht:∀ cl C s H fp,PTL (bY X N' scope cl C s H fp) cds tc)(he:∀ cl C s H fp,PE (bY X N' scope cl C s H fp) elt te)
  {pins:List (Addr×Obj)} {σ:St} {H:Hp} {s:Shared} {Q:VK} {E:Value->Shared->Prop} {RR:Value->Addr->Result->Shared->Prop} {it:Addr} {fp:List Addr} {tn:Nat->Heap->Prop} {J:It}
  (I:Inv X pins σ H s) (T:vX X.prog X.w X.K (.Name x px) J fp it tn) (st:tn 0 s.heap) (f2:∀ b∈fp,nE X pins H b)
  (hw:iW tc te σ Q J H)
  (hRR:∀ D C s' H',Inv X pins σ H' s'->(∃ m,s'.heap.Ns C m)->C≠X.env.locals->(∀ y c,X.env.cells.lookup y=some c->c≠C)->H' C=none->X.s₀.heap.objs.size<=C->(∀ p∈X.pn++pins,p.1≠C)->Q (.ref D) H'->RR (.ref D) C (.ok .next) s') :
  ∃ cl,closureFor scope X.env=pure cl∧wpAny (model X.prog X.w) X.A (newList []) (fun acc s₃=>wpAny (model X.prog X.w) X.A (newFunctionEnv scope X.env.globals cl [] X.env.qual none .none (some X.env)) (fun cenv s₄ =>
   codeAny (model X.prog X.w) X.A (.compStart (.ListComp elt [⟨.Name x px,iter,cds,0⟩] scope pos) 0 (.ref it) acc { cenv with scope:=relabel scope X.env }) (RR acc cenv.locals) s₄) E s₃) E s:=by
 have hfree:∀ z∈scope.names,z.2 = .free->∃ c,X.env.cells.lookup z.1=some c:=fun z hz hk=>by
  rcases S.ok z hz hk with q | q
  ·exact I.ok.has z.1 (.inl q)
  ·exact I.ok.has z.1 (.inr q)
 refine⟨_,iX hfree,?_⟩;have clS:∀ y c,(dX X.env.cells scope.names []).lookup y=some c->X.env.cells.lookup y=some c:=fun y c=>mU scope.names [] hfree fun q=>by cases q
 generalize hcl:dX X.env.cells scope.names []=cl at clS;have clH:∀ y,scope.names.lookup y=some .free->∃ c,cl.lookup y=some c:=fun y hy=>by
  rw[<- hcl];exact tS scope.names [] (eR hy)
 refine wpAny_newObj_type (wpAny_newFunctionEnv S.cell (by intro y hy;simp at hy) (fun h₁ hns₁ hsb₁=>?_) S.kind);have I3:Inv X pins σ (upd H s.heap.objs.size (.lst [])) { s with heap:=s.heap.push { cls:=.type "list",data:=.seq ([]:List Value).toArray } }:=I.lnew (t':=s.toks) .nil (b9 _)
 obtain⟨W,⟨m0,w0⟩,turn⟩:=hw s.heap.objs.size I.fresh
 dsimp only at hns₁ hsb₁ ⊢
 generalize hs3:({ s with heap:=s.heap.push { cls:=.type "list",data:=.seq ([]:List Value).toArray } }:Shared)=s3 at I3
 have hh3:s3.heap=s.heap.push { cls:=.type "list",data:=.seq ([]:List Value).toArray }:=by rw[<- hs3]
 have hsz3:s3.heap.objs.size=s.heap.objs.size+1:=by rw[hh3,Heap.size_push]
 rw[<- hh3] at hns₁ hsb₁ ⊢;have old:∀ b o,s3.heap.get? b=some o->h₁.get? b=some o:=fun b o e=>hsb₁.extBut b o (by have:=Heap.lt_size e;exact a9 this) (Heap.get?_push_of_some _ e)
 have old0:∀ b o,s.heap.get? b=some o->h₁.get? b=some o:=fun b o e=>old b o (by rw[hh3];exact Heap.get?_push_of_some _ e)
 have CneL:s3.heap.objs.size≠X.env.locals:=g0 I3.lt;have CneC:∀ y c,X.env.cells.lookup y=some c->c≠s3.heap.objs.size:=fun y c e z=>by
  obtain⟨v,q⟩:=I3.cell y c e
  have:=q.lt
  rw[z] at this;exact absurd this (e9 _)
 have CneP:∀ p∈X.pn++pins,p.1≠s3.heap.objs.size:=fun p hp z=>by
  have:=Heap.lt_size (I3.pin p hp).1
  rw[z] at this;exact absurd this (e9 _)
 have CfreeH:∀ b o,s3.heap.get? b=some o->b<s3.heap.objs.size:=fun b o e=>by have:=Heap.lt_size e;exact this
 have fpLt:∀ b∈fp,b<s3.heap.objs.size:=fun b hb=>by
  obtain⟨o,e,_⟩:=T.obj 0 s.heap st b hb;rw[hsz3];exact fh (Heap.lt_size e)
 have fpD:∀ b∈fp,b≠s.heap.objs.size:=fun b hb=>by
  obtain⟨o,e,_⟩:=T.obj 0 s.heap st b hb;exact a9 (Heap.lt_size e)
 have ok':(bY X N' scope cl s3.heap.objs.size s3 (upd H s.heap.objs.size (.lst [])) fp).Ok:=by
  refine⟨I3.ok.mod,?_,I3.ok.glob,I3.ok.blt,ah _,fun y z c h1 h2=>I3.ok.inj y z c (clS y c h1) (clS z c h2),fun y hy=>?_,fun y c hf=>(by cases hf),I3.ok.hd,I3.ok.frames,.inl rfl,fun b hb=>⟨a9 (fpLt b hb),fun y c e=>(f2 b hb).2.2.2.2.1 y c (clS y c e)⟩,
   fun b o e=>I3.bs b o e,az I3.ok.bsz I3.sz,fun b o e hb=>?_,fun b hb z=>?_,I3.stack,I3.stkFree⟩
  ·show (relabel scope X.env).kind = .function
   exact S.kind
  ·have hy':(relabel scope X.env).names.lookup y=some .cell∨(relabel scope X.env).names.lookup y=some .free:=hy
   rw[cR] at hy'
   cases q:scope.names.lookup y with
   | none=>rw[q] at hy';rcases hy' with z | z <;> cases z
   | some k =>
    have hm:=eR q
    cases k with
    | free=>exact clH y q
    | cell=>exact absurd rfl (S.cell _ hm)
    | «local» => rw[q] at hy';rcases hy' with z | z <;> simp at z
    | globalExplicit=>rw[q] at hy';rcases hy' with z | z <;> simp at z
    | globalImplicit=>rw[q] at hy';rcases hy' with z | z <;> simp at z
  ·rcases (f2 b hb).2.2.2.1 with z | z
   ·exact I.ok.noex b o e z
   ·exact absurd (b7 (Heap.lt_size e) (az I.ok.bsz z)) (e9 _)
  ·rcases aw.mp (I3.stkSub b z) with q | q
   ·exact (f2 b hb).2.1 q
   ·exact (f2 b hb).2.2.1 q
 have fpOk':∀ {H':Hp},(∀ b∈fp,H' b=none)->∀ b∈fp,nE (bY X N' scope cl s3.heap.objs.size s3 (upd H s.heap.objs.size (.lst [])) fp) pins H' b:=fun hn b hb =>
  ⟨hn b hb,a9 (fpLt b hb),fun z=>by
   rcases aw.mp (I3.stkSub b z) with q | q
   ·exact (f2 b hb).2.1 q
   ·exact (f2 b hb).2.2.1 q,.inl hb,fun y c e=>(f2 b hb).2.2.2.2.1 y c (clS y c e),(f2 b hb).2.2.2.2.2⟩
 have I4:Inv (bY X N' scope cl s3.heap.objs.size s3 (upd H s.heap.objs.size (.lst [])) fp) pins (none::σ) (upd H s.heap.objs.size (.lst [])) { s3 with heap:=h₁,toks:=s3.toks+([]:List (Str×Value)).length }:=by
  refine⟨ok',rfl,I3.bare,Un.kept old,⟨_,hns₁,fun i y v e1 e2 vis=>?_⟩,fun y c e=>?_,?_,fun y c e=>I3.freeC y c (clS y c e),fun p hp=>?_,I3.hok.kept old,?_⟩
  ·cases i with
   | zero=>cases e2
   | succ i =>
    have e2':σ[i]?=some (some v):=by simpa using e2
    have hi:i<X.N.length:=by rw[<- I3.len];exact (al.mp e2').1
    have vis':(relabel scope X.env).names.lookup y=some .local∨(relabel scope X.env).names.lookup y=some .cell∨(relabel scope X.env).names.lookup y=some .free:=vis;have e1':N'[i+1]?=some y:=e1;rcases S.sub i hi with q | q
    ·rw[e1'] at q
     have hy:X.N[i]?=some y:=q.symm;have hmem:y∈N'.tail:=by
      rw[pd];exact⟨i,by rw[mq];exact e1'⟩
     have hfr:scope.names.lookup y=some .free:=by
      rw[cR] at vis'
      cases q2:scope.names.lookup y with
      | none=>rw[q2] at vis';rcases vis' with z | z | z <;> cases z
      | some k =>
       cases k with
       | free=>rfl
       | cell=>exact absurd rfl (S.cell _ (eR q2))
       | «local» => exact absurd q2 (S.nol y hmem)
       | globalExplicit=>rw[q2] at vis';rcases vis' with z | z | z <;> simp at z
       | globalImplicit=>rw[q2] at vis';rcases vis' with z | z | z <;> simp at z
     have hok:=S.ok (y,.free) (eR hfr) rfl;obtain⟨m,hn,hl⟩:=I3.loc;have visX:Vis X.env.scope y:=by
      rcases hok with z | z
      ·exact .inr (.inl z)
      ·exact .inr (.inr z)
     obtain⟨u,r,l⟩:=hl i y v hy e2' visX;refine⟨u,r,.inr ⟨?_,?_⟩⟩
     ·show (relabel scope X.env).names.lookup y=some .cell∨(relabel scope X.env).names.lookup y=some .free
      rw[cR,hfr,il];by_cases hcnd:(NameKind.free==NameKind.free&&X.env.scope.kind == .function&&X.env.kindOf y==some .cell)=true
      ·left
       rw[if_pos hcnd]
      ·right
       rw[if_neg hcnd]
     ·rcases l with ⟨k,_⟩ | ⟨k,c,e,z⟩
      ·have k':X.env.scope.names.lookup y=some .local:=k
       have hok':X.env.scope.names.lookup y=some .cell∨X.env.scope.names.lookup y=some .free:=hok;rw[k'] at hok';rcases hok' with z | z <;> cases z
      ·obtain⟨c',e'⟩:=clH y hfr
       have e3:=clS y c' e';rw[e] at e3;cases e3;obtain⟨o,ho,hd⟩:=z;exact⟨c,e',o,old c o ho,hd⟩
    ·rw[e1'] at q
     have q:scope.names.lookup y=none:=ay q;rw[cR,q] at vis';rcases vis' with z | z | z <;> cases z
  ·obtain⟨v,o,ho,hd⟩:=I3.cell y c (clS y c e)
   exact⟨v,o,old c o ho,hd⟩
  ·show upd H s.heap.objs.size (.lst []) s3.heap.objs.size=none
   exact I3.hok.fresh (ah _)
  ·obtain⟨e,n,ne,nf,d⟩:=I3.pin p hp
   refine⟨old _ _ e,n,CneP p hp,fun z=>?_,d⟩;rcases aw.mp (I3.stkSub p.1 z) with q | q
   ·exact ne q
   ·exact nf q
  ·show (none::σ).length=N'.length
   rw[S.len,av,I3.len]
 have st4:tn 0 h₁:=T.keep 0 s.heap h₁ st fun b _ o e=>old0 b o e
 have loop:∀ s₄:Shared,s₄ = { s3 with heap:=h₁,toks:=s3.toks+([]:List (Str×Value)).length } ->
   codeAny (model X.prog X.w) X.A (.compLoop (.ListComp elt [⟨.Name x px,iter,cds,0⟩] scope pos) 0 (.ref it) (.ref s.heap.objs.size) (compEnvC scope cl s3.heap.objs.size X.env)) (RR (.ref s.heap.objs.size) s3.heap.objs.size) s₄:=by
  rintro s₄ rfl;refine mI (fun n s'=>∃ i v0 ys H',Inv (bY X N' scope cl s3.heap.objs.size s3 (upd H s.heap.objs.size (.lst [])) fp) pins (v0::σ) H' s'∧tn i s'.heap∧(∀ b∈fp,H' b=none)∧W i n ys H') ?_ m0
   ⟨0,none,[],_,I4,st4,fun b hb=>by rw[aG (fpD b hb)];exact (f2 b hb).1,w0⟩
  rintro n s5 ⟨i,v0,ys,H5,I5,st5,fr5,w5⟩;rcases turn i n ys H5 w5 with ⟨stop,qn⟩ | ⟨go,hz,N,hN,Nn,hNn,step⟩
  ·refine thn (T.done (bY X N' scope cl s3.heap.objs.size s3 (upd H s.heap.objs.size (.lst [])) fp) rfl rfl rfl hc i pins s5 (v0::σ) H5 (fun _ _=>False) I5 (fpOk' fr5) st5 stop) fun r s6 ⟨hr,I6⟩=>?_
   subst hr;have hch:∀ b∈fp,(b∈X.ex∨X.s₀.heap.objs.size<=b)∧b≠X.env.locals∧(∀ x c,X.env.cells.lookup x=some c->c≠b)∧∀ p∈X.pn++pins,p.1≠b:=fun b hb =>
    ⟨(f2 b hb).2.2.2.1,(f2 b hb).2.1,(f2 b hb).2.2.2.2.1,(f2 b hb).2.2.2.2.2⟩
   have I7:Inv X pins σ H5 s6:=I3.call' (ch:=fp) I6.os I6.base I6.hok I6.bare hch;obtain⟨m,hm,_⟩:=I6.loc;exact hRR s.heap.objs.size s3.heap.objs.size s6 H5 I7 ⟨m,hm⟩ CneL CneC I6.free (az I3.sz (ah _)) CneP qn
  ·refine thn (T.item (bY X N' scope cl s3.heap.objs.size s3 (upd H s.heap.objs.size (.lst [])) fp) rfl rfl rfl hc i pins s5 (v0::σ) H5 (fun _ _=>False) I5 (fpOk' fr5) st5 go) fun r s6 ⟨u,hr,h6⟩=>?_
   subst hr;refine thn h6 fun _ s7 ⟨y,H7,I7,r7,y7,st7,fr7⟩=>?_
   have I7':=I7.pinned (fpOk' fr7) (T.obj _ _ st7);refine wpAny_assign_Name (tF (i:=0) (v:=y) I7' S.nd S.hd (.inl (lookup_relabel_local S.var)) r7 (fun s8 I8=>?_) (.inr (lookup_relabel_local S.var)));have I8':Inv (bY X N' scope cl s3.heap.objs.size s3 (upd H s.heap.objs.size (.lst [])) fp) (pins++mP fp s7.heap) (some y::σ) H7 s8:=I8;refine thn (ht cl s3.heap.objs.size s3 (upd H s.heap.objs.size (.lst [])) fp _ s8 (some y::σ) H7 (fun b H''=>if b=true then te (some y::σ) H'' N else Nn H'') I8' (step y H7 y7)) fun okb s8 ⟨H8,I8,q8⟩=>?_
   cases okb with
   | false =>
    have q8':Nn H8:=by simpa using q8
    obtain⟨m',hm,w9⟩:=hNn H8 q8';refine⟨m',hm,i+1,some y,ys,_,I8.unpinned,T.keep _ _ _ st7 fun b hb o e=>(I8.pin (b,o) (bn _ (bn _ (eP hb e)))).1,fun b hb=>?_,w9⟩;obtain⟨o,e,d⟩:=T.obj _ _ st7 b hb;exact (I8.pin (b,o) (bn _ (bn _ (eP hb e)))).2.1
   | true =>
    refine thn (he cl s3.heap.objs.size s3 (upd H s.heap.objs.size (.lst [])) fp _ s8 (some y::σ) H8 N I8 (by simpa using q8)) fun w s9 ⟨v,H9,I9,r9,q9⟩=>?_
    obtain⟨hD9,m',hm,w9⟩:=hN v H9 q9;refine thn (gO _ s9 (some y::σ) H9 (.ref s.heap.objs.size) [v] (.ref s.heap.objs.size) [w] (fun z H10=>z = .non∧H10=upd H9 s.heap.objs.size (.lst (ys++[v]))) I9 rfl (.cons r9 .nil) ⟨s.heap.objs.size,ys,v,rfl,rfl,hD9,hz,rfl,rfl⟩) fun _ s10 ⟨z,H10,I10,_,ez,e10⟩=>?_
    subst e10;refine⟨m',hm,i+1,some y,ys++[v],_,I10.unpinned,T.keep _ _ _ st7 fun b hb o e=>(I10.pin (b,o) (bn _ (bn _ (eP hb e)))).1,fun b hb=>?_,w9⟩;obtain⟨o,e,d⟩:=T.obj _ _ st7 b hb;exact (I10.pin (b,o) (bn _ (bn _ (eP hb e)))).2.1
 exact codeAny_compStart_list (loop _ (by rw[<- hs3])) (T.self X.A 0 _ _ _ st4 (loop _ (by rw[<- hs3])))
theorem jO.toF {te:TE}{σ:St}{Q:VK}{J:It}{H:Hp}(hw:jO te σ Q J H):iW (fun _ H k=>k true H) te σ Q J H:=fun D hD=>by
 obtain⟨W,h0,hW⟩:=hw D hD;refine⟨W,h0,fun i m ys H2 hw2=>?_⟩;rcases hW i m ys H2 hw2 with g | ⟨g1,g2,N,g3,g4⟩
 ·exact .inl g
 ·exact .inr ⟨g1,g2,N,g3,fun _=>False,fun _ z=>z.elim,fun y H' hy=>zF (g4 y H' hy)⟩
theorem Di {at':St->VK->It->Hp->Prop}(S:cM X.N N' X.env.scope scope x)(hc:X.calm=true)(hi:PI X (.Name x px) iter wi)(ht:∀ cl C s H fp,PTL (bY X N' scope cl C s H fp) cds tc)(he:∀ cl C s H fp,PE (bY X N' scope cl C s H fp) elt te)(cv:∀ σ Q J H,at' σ Q J H->iW tc te σ Q J H)
  (hs:∀ x,foldedSetIterable iter X.env x=pure x:=by intro _;rfl):PE X (.ListComp elt [⟨.Name x px,iter,cds,0⟩] scope pos) (fun σ H Q=>wi σ H (at' σ Q)):=by
 intro pins s σ H Q I h;rw[eval_ListComp];have hfree:∀ z∈scope.names,z.2 = .free->∃ c,X.env.cells.lookup z.1=some c:=fun z hz hk=>by
  rcases S.ok z hz hk with q | q
  ·exact I.ok.has z.1 (.inl q)
  ·exact I.ok.has z.1 (.inr q)
 refine wpAny_comprehension_free (use:=none) rfl hs (iX hfree) S.kind S.names (thn (hi pins s σ H _ I h) fun xv s1 h1=>thn h1 fun itv s2 h2=>?_);obtain⟨it,fp,tn,J,H2,e,I2,T,st2,f2,hw⟩:=h2;subst e;obtain⟨cl,hcl,hrun⟩:=uH (tc:=tc) (cds:=cds) (elt:=elt) (iter:=iter) (pos:=pos) (px:=px) (E:=X.xe) (RR:=fun acc C=>compPost (model X.prog X.w) X.A X.xe none (EP X pins σ Q) acc C) S hc ht he I2 T st2 f2 (cv _ _ _ _ hw) (fun D C s' H' I' ⟨m,hm⟩ n1 n2 n3 n4 n5 q =>
  ⟨m,hm,fun h' hsb=>⟨.ref D,H',I'.turned (it:=C) (t':=s'.toks) (fun b o hb e=>(hsb.2 b hb).trans e) n3 n1 (.inr n4) n2 n5,rfl,q⟩⟩)
 have ecl:(pure (dX X.env.cells scope.names []):Sem (List (Str×Addr)))=pure cl:=(iX hfree).symm.trans hcl;have ecl':dX X.env.cells scope.names []=cl:=by
  injection ecl
 rw[ecl'];exact hrun
theorem rH {at':St->VK->It->Hp->Prop}{i:Nat}{y:Str}{py spos:Pos}(S:cM X.N N' X.env.scope scope x)(hc:X.calm=true)(hi:PI X (.Name x px) iter wi)(ht:∀ cl C s H fp,PTL (bY X N' scope cl C s H fp) cds tc)(he:∀ cl C s H fp,PE (bY X N' scope cl C s H fp) elt te)(cv:∀ σ Q J H,at' σ Q J H->iW tc te σ Q J H)
  (hN:X.N.Nodup) (hy:X.N[i]?=some y) (hyl:X.env.scope.names.lookup y=some .local)
  (hsw:swapsWith (.ListComp elt [⟨.Name x px,iter,cds,0⟩] scope pos) (some (.Name y py)) spos.line X.env=pure true:=by rfl)
  (hs:∀ x,foldedSetIterable iter X.env x=pure x:=by intro _;rfl):PS X (.Assign [.Name y py] (.ListComp elt [⟨.Name x px,iter,cds,0⟩] scope pos) spos) (My (fun σ H Q=>wi σ H (at' σ Q)) (wR i)):=by
 intro pins s σ H D0 I h;have hfree:∀ z∈scope.names,z.2 = .free->∃ c,X.env.cells.lookup z.1=some c:=fun z hz hk=>by
  rcases S.ok z hz hk with q | q
  ·exact I.ok.has z.1 (.inl q)
  ·exact I.ok.has z.1 (.inr q)
 rw[exec_Assign_Name_used _ _ _ _ hsw];refine wpAny_bind (wpAny_standAt (wpAny_bind ?_));show wpAny _ X.A (do let _ <- comprehension (.ListComp elt [⟨.Name x px,iter,cds,0⟩] scope pos) scope X.env _ (newList []) false (eval iter X.env) (some (assign (.Name y py) X.env))) _ _ s;refine wpAny_bind (wpAny_mono (wpAny_comprehension_free (use:=some (assign (.Name y py) X.env)) (Q:=fun _ s'=>SP X pins D0 .next s') rfl hs (iX hfree) S.kind S.names
  (thn (hi pins s σ H _ I h) fun xv s1 h1=>thn h1 fun itv s2 h2=>?_)) (fun _ s' hq=>wpAny_pure (wpAny_pure hq)) fun _ _ e=>e)
 obtain⟨it,fp,tn,J,H2,e,I2,T,st2,f2,hw⟩:=h2;subst e;obtain⟨cl,hcl,hrun⟩:=uH (tc:=tc) (cds:=cds) (elt:=elt) (iter:=iter) (pos:=pos) (px:=px) (E:=X.xe) (Q:=fun x H1=>wR i x σ H1 D0.nx) (RR:=fun acc C=>compPost (model X.prog X.w) X.A X.xe (some (assign (.Name y py) X.env)) (fun _ s'=>SP X pins D0 .next s') acc C) S hc ht he I2 T st2 f2 (cv _ _ _ _ hw) (fun D C s' H' I' ⟨m,hm⟩ n1 n2 n3 n4 n5 q=>by
  show wpAny _ X.A (assign (.Name y py) X.env (.ref D)) _ _ _;refine wpAny_assign_Name (yF (i:=i) (v:=.ref D) I' hN hy (.inl hyl) rfl (fun s'' I'' ⟨a,hsa,hwa⟩=>?_) (.inr hyl));have haC:C≠a:=by
   rcases hwa with z | z
   ·rw[z];exact n1
   ·intro z2
    exact n2 y a z z2.symm
  refine⟨m,hm.sameBut hsa haC,fun h' hsb=>?_⟩;exact⟨_,H',I''.turned (it:=C) (t':=s''.toks) (fun b o hb e=>(hsb.2 b hb).trans e) n3 n1 (.inr n4) n2 n5,q⟩)
 have ecl:(pure (dX X.env.cells scope.names []):Sem (List (Str×Addr)))=pure cl:=(iX hfree).symm.trans hcl;have ecl':dX X.env.cells scope.names []=cl:=by
  injection ecl
 rw[ecl'];exact hrun
theorem fB (S:cM X.N N' X.env.scope scope x)(hc:X.calm=true)(hi:PI X (.Name x px) iter wi)(he:∀ cl C s H fp,PE (bY X N' scope cl C s H fp) elt te)
  (hs:∀ x,foldedSetIterable iter X.env x=pure x:=by intro _;rfl):PE X (.ListComp elt [⟨.Name x px,iter,[],0⟩] scope pos) (Tl wi te) :=
 Di (at':=fun σ Q=>jO te σ Q) S hc hi (fun _ _ _ _ _=>Ja) he (fun _ _ _ _ h=>h.toF) hs
theorem Es {i:Nat}{y:Str}{py spos:Pos}(S:cM X.N N' X.env.scope scope x)(hc:X.calm=true)(hi:PI X (.Name x px) iter wi)(he:∀ cl C s H fp,PE (bY X N' scope cl C s H fp) elt te)
  (hN:X.N.Nodup) (hy:X.N[i]?=some y) (hyl:X.env.scope.names.lookup y=some .local)
  (hsw:swapsWith (.ListComp elt [⟨.Name x px,iter,[],0⟩] scope pos) (some (.Name y py)) spos.line X.env=pure true:=by rfl)
  (hs:∀ x,foldedSetIterable iter X.env x=pure x:=by intro _;rfl):PS X (.Assign [.Name y py] (.ListComp elt [⟨.Name x px,iter,[],0⟩] scope pos) spos) (My (Tl wi te) (wR i)) :=
 rH (at':=fun σ Q=>jO te σ Q) S hc hi (fun _ _ _ _ _=>Ja) he (fun _ _ _ _ h=>h.toF) hN hy hyl hsw hs
end
theorem vQ {lo:Int}{n:Nat}{te:TE}{σ:St}{H:Hp}{Q:VK}(f:Nat->V)(hn:n<=sizeLine)
  (he:∀ i H',i<n->aL H H'->∀ N:V->Hp->Prop,(∀ H'',aL H' H''->N (f i) H'')->te (some (.int (lo+i))::σ) H' N)
  (hq:∀ D H',H D=none->aL H H'->H' D=some (.lst ((bu n).map f))->Q (.ref D) H') :
  jO te σ Q (Itr lo n) H:=by
 intro D hD;refine⟨fun i m ys H2=>m=n-i∧i<=n∧ys=(bu i).map f∧aL H H2∧H2 D=some (.lst ys),⟨n,rfl,b9 _,rfl,fun b o e=>?_,aD⟩,?_⟩
 ·rw[aG (aJ e hD)]
  exact e
 ·rintro i m ys H2 ⟨rfl,hi,rfl,hs,hd⟩
  by_cases hlt:i<n
  ·refine .inr ⟨hlt,by rw[aR,cn];omega,fun v H'=>v=f i∧aL H2 H',fun v H' ⟨ev,hs'⟩=>⟨hs' D _ hd,n-(i+1),by omega,rfl,hlt,?_,fun b o e=>?_,aD⟩,fun y H' hy=>?_⟩
   ·rw[ev,kr,bh]
    rfl
   ·rw[aG (aJ e hD)]
    exact hs' b o (hs b o e)
   ·obtain⟨e1,e2⟩:=hy
    subst e1 e2;exact he i _ hlt hs _ fun H'' h''=>⟨rfl,h''⟩
  ·have e:i=n:=by omega
   subst e;exact .inl ⟨ah _,hq D H2 hD hs hd⟩
structure Cal (P:Program)(w:World)(K:af)(mg:Str->Option Value)(base:Heap)(CX:CXT)(x:Str)(k:Nat)(ps:List Str)(sp:Sp):Prop where
 ex:∃ (f:Addr) (fd:FuncData),bN P w K mg base CX k f fd ps sp∧mg x=some (.ref f)∧cr K (.ref f)=true∧jQ K fd ps []
section
variable {X:Cx}
theorem aK {CX:CXT}{x:Str}{j k:Nat}{ps:List Str}{sp:Sp}{E:XK}{e:Expr}{es:List Expr}{t:TA}{p pos:Pos}(c:Cal X.prog X.w X.K X.mg X.base CX x j ps sp)(hr:fT k X.A)(hx:hX CX X E)(ha:PA X (e::es) t)
  (hjk:j<=k:=by decide) (hg:Gl X x:=by rfl) (hdb:(x==("__debug__" : Str))=false:=by decide) (he:starEach (e::es) X.env=(false,eval e X.env)::starEach es X.env:=by rfl) (hpl:(backTo pos (starEach es X.env)).any (·.1)=false:=by rfl) :
  PE X (.Call (.Name x p) (e::es) [] pos) (Tq sp [] E t):=by
 obtain⟨f,fd,F,hm,hk,hb⟩:=c.ex;exact Ry F (hr.mono hjk) hg hm hk hb .nil hx ha hdb he hpl
theorem bX (l:List Nat){x:Str}{j pos}(h:x=tx l):PE X (.Constant (.str x) j pos) (tC (T l)):=by
 subst h;exact Wa
theorem bW:fC X (.builtin "len") (fun xs H Q=>∃ (l:List Nat),xs=[T l]∧l.length<=sizeLine∧Q (.int (l.length:Nat)) H):=by
 intro pins s σ H xs us Q I r h;obtain⟨l,e,hz,q⟩:=h;exact yY pins s σ H xs us Q I r ⟨tx l,e,by rw[iA];exact hz,by rw[iA];exact q⟩
theorem Pq:IxR X (fun x y H Q=>∃ (l:List Nat),x=T l∧∃ (i:Int),y = .int i∧l.length<=sizeLine∧∃ c,atI l i=some c∧Q (T [c]) H):=by
 intro value slice pins s σ H x y v u Q I rx ry h hs;obtain⟨l,e1,i,e2,hz,c,hc,q⟩:=h;exact Uw value slice pins s σ H x y v u Q I rx ry ⟨tx l,i,c,e1,e2,by rw[iA];exact hz,by rw[eG];exact hc,q⟩ hs
theorem sR:OpR X (binaryOp .Add) (fun x y H Q=>∃ (l b:Addr) (xs zs:List V),x = .ref l∧y = .ref b∧SqL X.K H l xs∧SqL X.K H b zs∧xs.length+zs.length<=sizeLine∧∀ p,H p=none->Q (.ref p) (upd H p (.lst (xs++zs)))):=by
 intro pins s σ H x y v u Q I rx ry h;obtain⟨l,b,xs,zs,rfl,rfl,hH,hB,hz,q⟩:=h;cases rx;cases ry;obtain⟨its,r,⟨⟨cls,dd,data,sl⟩,n,ho,hc,hdd,hd⟩,_⟩:=I.list hH;obtain⟨its2,r2,⟨⟨cls2,dd2,data2,sl2⟩,n2,ho2,hc2,hdd2,hd2⟩,_⟩:=I.list hB;simp only at hc hd hc2 hd2;subst hc hd hc2 hd2;have e:its.toArray++its2.toArray=(its++its2).toArray:=by simp
 refine concat_meets ⟨_,ho,rfl⟩ ⟨_,ho2,rfl⟩ noFill_list_add seq_list_add PySem.F.slot_list_add PySem.F.entry_list_add (PySem.F.args_list_add_2 _ _) (list_addW l b its.toArray its2.toArray n n2 dd dd2 sl sl2 (by rw[ap,ap,<- r.length,<- r2.length];exact hz)) ⟨ho,ho2,?_⟩;rw[e];exact⟨.ref _,_,I.lnew (t':=s.toks) (r.append r2) (by rw[ai];exact hz),rfl,q _ I.fresh⟩
theorem iU (ls:List (List Nat)):(ls.map T).all jA=true:=by
 rw[uv,d8];intro l _;rfl
theorem Os {ls ms:List (List Nat)}{us ws:List Value}(r:bK (ls.map T) us)(r':bK (ms.map T) ws){A:Around}{s:Shared}{j:Nat}{u w:Value}(hu:us[j]?=some u)(hw:ws[j]?=some w):SeqAt.EqAt A s u w (decide (ls[j]?=ms[j]?)):=by
 have h1:j<ls.length:=by have:=r.length;rw[aR] at this;rw[this];exact (al.mp hu).1
 have h2:j<ms.length:=by have:=r'.length;rw[aR] at this;rw[this];exact (al.mp hw).1
 obtain⟨u',e1,q1⟩:=r.get (i:=j) (x:=T ls[j]) (by rw[ag,ac h1];rfl);obtain⟨w',e2,q2⟩:=r'.get (i:=j) (x:=T ms[j]) (by rw[ag,ac h2];rfl);rw[hu] at e1;cases e1;rw[hw] at e2;cases e2;have e:=Ek (A:=A) (s:=s) q1 q2 rfl rfl;have ee:eqV (T ls[j]) (T ms[j])=decide (ls[j]?=ms[j]?):=by
  show (tx ls[j]==tx ms[j])=_;rw[da,beq_iff_eq,decide_eq_true_iff,ac h1,ac h2];exact⟨fun h=>by rw[hZ h],fun h=>by rw[ay h]⟩
 rw[ee] at e;exact e
theorem nO {ls ms:List (List Nat)}(h:ls.length=ms.length):(bu ls.length).all (fun j=>decide (ls[j]?=ms[j]?))=decide (ls=ms):=by
 rw[da,d8,decide_eq_true_iff];constructor
 ·intro g
  apply ii;intro i;by_cases hi:i<ls.length
  ·exact of_decide_eq_true (g i (ck.mpr hi))
  ·rw[ca (by omega),ca (by omega)]
 ·intro g j _
  rw[g];exact decide_eq_true rfl
theorem nZ (hu:X.A.units<cLine):OpR X (compareOp .Eq) (fun x y H Q=>∃ (p b:Addr) (ls ms:List (List Nat)),x = .ref p∧y = .ref b∧SqL X.K H p (ls.map T)∧SqL X.K H b (ms.map T)∧Q (.bl (decide (ls=ms))) H):=by
 intro pins s σ H x y v u Q I rx ry h;obtain⟨p,b,ls,ms,rfl,rfl,h1,h2,q⟩:=h;cases rx;cases ry;obtain⟨its,r,pl,_⟩:=I.list h1;obtain⟨its2,r2,pl2,_⟩:=I.list h2;have l1:=r.length;have l2:=r2.length;rw[aR] at l1 l2;by_cases hl:ls.length=ms.length
 ·refine SeqAt.eq_listAt (e:=fun j=>decide (ls[j]?=ms[j]?)) pl.isList pl2.isList (by rw[ap,ap];omega) hu (fun j g1 g2=>Os r r2 (by simp) (by simp)) ?_
  rw[ap,<- l1,nO hl];exact⟨.bl _,H,I,rfl,q⟩
 ·refine SeqAt.eq_list_lengthsAt pl.isList pl2.isList (by rw[ap,ap,bne_iff_ne];omega) hu ?_
  have e:decide (ls=ms)=false:=decide_eq_false fun z=>hl (by rw[z])
  rw[e] at q;exact⟨.bl _,H,I,rfl,q⟩
end
structure Fly (P:Program)(w:World)(outer:List Env)(H:Hp)(s:Shared)(a:Addr)(cls:Value)(H':Hp)(s':Shared):Prop where
 os:s'.os=s.os
 bare:AllBare s'.gens
 ex:∃ (B:Heap) (t:Addr),Heap.FlyingW B outer a cls (.ref t) s'.heap∧HOk P w H' B∧(∀ b o,s.heap.get? b=some o->H b=none->b∉frs outer->B.get? b=some o) ∧
  ∀ b o,s.heap.get? b=some o->b∉frs outer->∃ o',B.get? b=some o'
 slot:∀ b o,s.heap.get? b=some o->H b=none->b∈frs outer->∃ sl,s'.heap.get? b=some { o with slots:=sl }
 free:∀ b o,s.heap.get? b=some o->H b=none->H' b=none
 tups:∀ b xs,H b=some (.tup xs)->H' b=some (.tup xs)
 frzs:∀ b o u,H b=some (.frz o u)->H' b=some (.frz o u)
 tbls:∀ b ps,H b=some (.tbl ps)->∃ more,H' b=some (.tbl (ps++more))
def CX1 (P:Program)(w:World):CXT:=fun outer H s E e s'=>∃ a cls H',e = .ref a∧Fly P w outer H s a cls H' s'∧E cls none H'
section
variable {X:Cx}{pins:List (Addr×Obj)}{σ:St}{H H':Hp}{s s':Shared}{a:Addr}{cls:Value}{E:Value->Shared->Prop}
structure Own (X:Cx):Prop where
 stk:X.stack=X.env::X.outer
 fr:X.env.frame=some X.env.locals
 ex:X.ex=[]
theorem Own.frs (O:Own X){b:Addr}:b∈frs X.stack↔b=X.env.locals∨b∈frs X.outer:=by
 unfold L2.frs;rw[O.stk,im,O.fr];exact aw
theorem Inv.oldNe (I:Inv X pins σ H s){b:Addr}{o:Obj}(e:X.s₀.heap.get? b=some o):b≠X.env.locals:=a9 (b7 (Heap.lt_size e) I.ok.above)
theorem Inv.hidHok (I:Inv X pins σ H s):HOk X.prog X.w H (tj s.heap (L2.frs X.stack)):=fun b u e =>
 (I.hok b u e).stay (fun c v hc q=>kh _ q fun hm=>by
  have n:=I.stkFree c hm;rcases hc with z | z
  ·rw[z,e] at n
   cases n
  ·rw[z] at n
   cases n) (fun _ q=>q) fun _ _ q=>q
theorem Fly.raised {args:List Value}{h:Heap}(I:Inv X pins σ H s)(O:Own X)(hx:Heap.MadeExcOf s.heap h a cls args) :
  wpAny (model X.prog X.w) X.A (leaving X.env (.ref a)) (fun _ s''=>Fly X.prog X.w X.outer X.H₀ X.s₀ a cls H s'') E { s with heap:=h }:=by
 have hst:=I.stack;have hin:∀ env∈X.stack,∀ b,env.frame=some b->b∈L2.frs X.stack:=fun env he b hb=>mj.mpr ⟨env,he,hb⟩
 have hl:=PySem.W.funFrames_hide hst hin;rw[O.stk] at hl;have hfr:=I.ok.frames;rw[O.stk] at hfr;have noEx:∀ b,b∉X.ex:=fun b z=>by
  rw[O.ex] at z;cases z
 refine wpAny_leaves_madeW (s:={ s with heap:=h }) hfr O.fr (fun b o q=>qj _ q) hl hx fun h' t x1 x2 x3 x4=>?_
 have notIn:∀ b o,X.s₀.heap.get? b=some o->b∉L2.frs X.outer->b∉L2.frs (X.env::X.outer):=fun b o e nb z=>by
  rw[<- O.stk] at z;rcases O.frs.mp z with q | q
  ·exact I.oldNe e q
  ·exact nb q
 have hokB:=I.hidHok;rw[O.stk] at hokB;refine⟨I.os,I.bare,⟨_,t,x1,hokB,fun b o e n nb=>?_,fun b o e nb=>?_⟩,fun b o e n hb=>?_,fun b o e n=>I.base.free b o e n (noEx b),I.base.tups,I.base.frzs,I.base.tbls⟩
 ·exact kh _ (I.base.keep b o e n nb (noEx b)) (notIn b o e nb)
 ·obtain⟨o',e'⟩:=I.base.there b o e (noEx b)
  exact⟨o',kh _ e' (notIn b o e nb)⟩
 ·obtain⟨sl,e1⟩:=I.base.slot b o e n hb (noEx b)
  obtain⟨_,o2,e2,hd⟩:=I.funs.mem hb;rw[e1] at e2;cases e2;obtain⟨sl2,e3⟩:=x4 b _ (hx.keeps b _ e1) hd;exact⟨sl2,e3⟩
theorem Fly.on (I:Inv X pins σ H s)(O:Own X)(Y:Fly X.prog X.w X.stack H s a cls H' s') :
  wpAny (model X.prog X.w) X.A (leaving X.env (.ref a)) (fun _ s''=>Fly X.prog X.w X.outer X.H₀ X.s₀ a cls H' s'') E s':=by
 obtain⟨B,t,hfl,hokB,kp,th⟩:=Y.ex;have hfr:=I.ok.frames;rw[O.stk] at hfr hfl;have noEx:∀ b,b∉X.ex:=fun b z=>by
  rw[O.ex] at z;cases z
 have notIn:∀ b o,X.s₀.heap.get? b=some o->b∉L2.frs X.outer->b∉L2.frs X.stack:=fun b o e nb z=>by
  rcases O.frs.mp z with q | q
  ·exact I.oldNe e q
  ·exact nb q
 refine wpAny_leaves_onW hfr O.fr hfl fun h' x1 x2=>?_
 refine⟨Y.os.trans I.os,Y.bare,⟨B,t,x1,hokB,fun b o e n nb=>kp b o (I.base.keep b o e n nb (noEx b)) (I.base.free b o e n (noEx b)) (notIn b o e nb),fun b o e nb=>?_⟩,fun b o e n hb=>?_,fun b o e n=>?_,
  fun b xs q=>Y.tups b xs (I.base.tups b xs q),fun b o u q=>Y.frzs b o u (I.base.frzs b o u q),fun b ps q=>?_⟩
 ·obtain⟨o',e'⟩:=I.base.there b o e (noEx b)
  exact th b o' e' (notIn b o e nb)
 ·obtain⟨sl,e1⟩:=I.base.slot b o e n hb (noEx b)
  obtain⟨_,o2,e2,hd⟩:=I.funs.mem hb;rw[e1] at e2;cases e2;obtain⟨sl2,e3⟩:=Y.slot b _ e1 (I.base.free b o e n (noEx b)) (O.frs.mpr (.inr hb));obtain⟨sl3,e4⟩:=x2 b _ e3 hd;exact⟨sl3,e4⟩
 ·obtain⟨o',e'⟩:=I.base.there b o e (noEx b)
  exact Y.free b o' e' (I.base.free b o e n (noEx b))
 ·obtain⟨m1,e1⟩:=I.base.tbls b ps q
  obtain⟨m2,e2⟩:=Y.tbls b _ e1;exact⟨m1++m2,by rw[e2,mi]⟩
end
abbrev Bz:List Value:=[.type "ValueError",.type "Exception",.type "BaseException",.type "object"]
structure Exc (K:af)(mg:Str->Option Value)(x:Str)(C:Addr):Prop where
 mg:mg x=some (.ref C)
 is:je K C Bz "ValueError.__new__" = true
theorem Exc.own {K:af}{mg:Str->Option Value}{x:Str}{C:Addr}{h:Heap}(c:Exc K mg x C)(X:K.In h):OwnCls x C Bz "ValueError.__new__" mg h:=by
 refine⟨c.mg,?_⟩;have q:=c.is;unfold je at q;split at q
 ·rename_i dd cd sl ho
  split at q
  ·rename_i C' bm k0 k1 k2 k3 n k5 hm hs
   simp only [beq_iff_eq,rq,df] at q;obtain⟨⟨⟨⟨⟨g1,g2⟩,g3⟩,g4⟩,g5⟩,g6⟩:=q;subst g1 g2;obtain⟨nm,bs,mro,ns,qn,hd,sn,sub,ab,col,del⟩:=cd;have hsl:sl = #[k0,k1,k2,k3,some (.builtin "ValueError.__new__"),k5]:=by
    cases sl with
    | mk l =>
     have hs':l=_:=hs;rw[hs']
   have hm':mro=_:=hm;have g3':del=false:=g3;subst hsl hm' g3';refine⟨bm,ns,nm,qn,bs,hd,sn,sub,ab,col,dd,k0,k1,k2,k3,k5,h.nsMap ns,X _ _ ho,?_,?_,?_⟩
   ·exact .of_isNs (PySem.W.isNs_of_in X g5)
   ·exact PySem.W.nsMap_none_of_in X g5 g6
   ·exact PySem.W.tail_of_in X g4
  ·cases q
 ·cases q
def Wn (E:Value->Hp->Prop)(C:Addr)(t:TA):TS:=fun _ σ H=>t σ H fun vs H1=>vs.length<=sizeLine∧E (.ref C) H1
theorem cI {x:Str}{C:Addr}{e₀:Expr}{rest:List Expr}{np cpos pos:Pos}{t:TA}{E:Value->Hp->Prop}(c:Exc X.K X.mg x C)(hc:X.calm=true)
  (hE:∀ (pins:List (Addr×Obj)) (σ:St) (H:Hp) (s:Shared) (h:Heap) (a:Addr) (args:List Value),Inv X pins σ H s->Heap.MadeExcOf s.heap h a (.ref C) args->E (.ref C) H->X.xe (.ref a) { s with heap:=h })
  (ha:PA X (e₀::rest) t) (hg:Gl X x:=by rfl) (hd:(x==("__debug__" : Str))=false:=by decide)
  (he:starEach (e₀::rest) X.env=(false,eval e₀ X.env)::starEach rest X.env:=by rfl) (hpl:(backTo cpos (starEach rest X.env)).any (·.1)=false:=by rfl) :
  PS X (.Raise (some (.Call (.Name x np) (e₀::rest) [] cpos)) none pos) (Wn E C t):=by
 intro pins s σ H D I h;have O:=c.own I.mod.kin;obtain⟨tl,N,nm,q,bs,hdct,sn,sub,ab,col,dd,k0,k1,k2,k3,k5,mN,hC,hN,hni,T⟩:=O.obj;refine wpAny_Raise_call_subT (C:=C) (nm:=nm) (q:=q) (N:=N) (bs:=bs) (bm:=tl) (hdct:=hdct) (sn:=sn) (sub:=sub) (ab:=ab) (col:=col) (dd:=dd) (k0:=k0) (k1:=k1) (k2:=k2) (k3:=k3) (k5:=k5) PySem.F.excBase_ValueError (mN:=mN)
  (T.hasType (by decide +kernel)) (I.ok.hd hc) (by rw[he];show (false||(backTo cpos (starEach rest X.env)).any (·.1))=false;rw[hpl];rfl) hni (sS I hg c.mg ⟨rfl,?_⟩ hd)
 have hA:=ha cpos pins s σ H _ I h;rw[he] at hA ⊢;refine Calls.evalArgs_plain (thn hA fun us s2 ⟨vs,H2,I2,r2,hz,q2⟩=>?_);exact⟨rfl,by rw[<- r2.length];exact hz,I2.bk _ _ hC,hN.keeps I2.bk,T.keeps I2.bk,fun h' e hx=>hE pins σ H2 s2 h' e us I2 hx q2⟩
section
variable {P:Program}{w:World}{K:af}{mg:Str->Option Value}{base:Heap}{N:List Str}{qual:Str}{scope:Scope}{f:Addr}{cdv:Value}{A:Around}{outer:List Env}{s:Shared}{H:Hp}{E:XK}
theorem Yb {CX:CXT}:Own (rW CX P w K mg base N qual scope f cdv A outer s H E):=⟨rfl,rfl,rfl⟩
theorem oQ:hX (CX1 P w) (rW (CX1 P w) P w K mg base N qual scope f cdv A outer s H E) E:=fun pins σ H1 s1 e s' I h=>by
 obtain⟨a,cls,H',rfl,Y,q⟩:=h;exact thn (Fly.on I Yb Y) fun _ s'' Z=>⟨a,cls,H',rfl,Z,q⟩
theorem eJ {C:Addr}{pins:List (Addr×Obj)}{σ:St}{H1:Hp}{s1:Shared}{h:Heap}{a:Addr}{args:List Value}(I:Inv (rW (CX1 P w) P w K mg base N qual scope f cdv A outer s H E) pins σ H1 s1)(hx:Heap.MadeExcOf s1.heap h a (.ref C) args)(q:E (.ref C) none H1) :
 (rW (CX1 P w) P w K mg base N qual scope f cdv A outer s H E).xe (.ref a) { s1 with heap:=h }:=thn (Fly.raised I Yb hx) fun _ s'' Z=>⟨a,.ref C,H1,rfl,Z,q⟩
theorem aN {X:Cx}:hX (CX1 P w) X E0:=fun _ _ _ _ _ _ _ h=>by
 obtain⟨_,_,_,_,_,q⟩:=h;exact q.elim
theorem Fun.okX {x qual:Str}{st:Stmt}{f:Addr}{fd:FuncData}{N ps:List Str}{k:Nat}{sp:Sp}(F:Fun K x qual st f fd)(S:aP N ps (aF st))(len:∀ vs H Q E,sp vs H Q E->vs.length=ps.length)
  (hbody:∀ (cdv:Value) (A:Around) (outer:List Env) (s:Shared) (H:Hp) (vs:List V) (Q:VK) (E:XK),fT k (A.deeper (envOfC qual (aF st) s.heap.objs.size f cdv))->sp vs H Q E ->
   ∃ t,PSs (rW (CX1 P w) P w K mg base N qual (aF st) f cdv A outer s H E) (cH st) t∧t { nx:=fun _ H'=>Q .non H',rt:=Q } (nV N vs) H):bN P w K mg base (CX1 P w) (k+1) f fd ps sp:=by
 obtain⟨oc,od,kV,doc,pm,an,cdv,ct,osl,rfl,lk,hcd⟩:=F.ex;exact Tv lk hcd S len fun A outer s H vs Q E hr hsp=>hbody cdv A outer s H vs Q E hr hsp
end
def XP (X:Cx)(pins:List (Addr×Obj))(R:St->Value->Hp->Prop)(e:Value)(s':Shared):Prop :=
 ∃ a cls σ' H s1 H',e = .ref a∧Inv X pins σ' H s1∧Fly X.prog X.w X.stack H s1 a cls H' s'∧R σ' cls H'
abbrev TTy:=lE->(St->Value->Hp->Prop)->St->Hp->Prop
def PTy (X:Cx)(st:List Stmt)(t:TTy):Prop :=
 ∀ (pins:List (Addr×Obj)) (s:Shared) (σ:St) (H:Hp) (D:lE) (R:St->Value->Hp->Prop),Inv X pins σ H s->t D R σ H->wpAny (model X.prog X.w) X.A (execs st X.env) (SP X pins D) (XP X pins R) s
section
variable {X:Cx}
abbrev TH:=lE->St->Value->Hp->Prop
def PH (X:Cx)(hs:List ExceptHandler)(t:TH):Prop :=
 ∀ (pins:List (Addr×Obj)) (σ:St) (H:Hp) (s:Shared) (a:Addr) (cls:Value) (H':Hp) (s':Shared) (D:lE),Inv X pins σ H s->Fly X.prog X.w X.stack H s a cls H' s'->t D σ cls H' ->
  wpAny (model X.prog X.w) X.A (handleBy (.ref a) X.env hs) (SP X pins D) X.xe s'
end
namespace RV
section
variable {prog:Program}{w:World}{A:Around}{E:Value->Shared->Prop}{s:Shared}
end
end RV
section
variable {X:Cx}
theorem xR:∀ (x:List Nat) (ls:List (List Nat)),risingS (tx x) (ls.map tx)=true->(∀ y∈ls,¬ y<x)∧ls.Pairwise (fun a b=>¬ b<a)
 | x,[],_=>⟨fun _ h=>(by cases h),.nil⟩
 | x,y::ls,h=>by
  have h':(!ltCps (tx y).cps.toList (tx x).cps.toList&&risingS (tx y) (ls.map tx))=true:=h;rw[df,eG,eG,ltCps_eq] at h';obtain⟨a,b⟩:=xR y ls h'.2;have h1:¬ y<x:=by simpa using h'.1
  refine⟨fun z hz=>?_,gm.mpr ⟨a,b⟩⟩;rcases aw.mp hz with rfl | hz
  ·exact h1
  ·exact Wd.aAM h1 (a z hz)
theorem wV:∀ (ls:List (List Nat)),sortedS (ls.map tx)=true->ls.Pairwise (fun a b=>¬ b<a)
 | [],_=>.nil
 | x::ls,h=>gm.mpr (xR x ls h)
theorem pE:∀ {us:List Value} {ss:List Str},StrsAre us ss->bK ((ss.map fun x=>x.cps.toList).map T) us
 | _,_,.nil=>.nil
 | _,_,.cons x t h=>.cons ⟨t,by show Value.str x t=Value.str (tx x.cps.toList) t;rw[kI]⟩ (pE h)
theorem gB:fC X (.builtin "sorted") (fun xs H Q=>∃ (p:Addr) (ls:List (List Nat)),xs=[.ref p]∧SqL X.K H p (ls.map T)∧ls.length<64∧∀ (ms:List (List Nat)) (D:Addr),H D=none->ms.Perm ls->ms.Pairwise (fun a b=>¬ b<a)->Q (.ref D) (upd H D (.lst (ms.map T)))):=by
 intro pins s σ H xs us Q I r h;obtain⟨p,ls,rfl,hq,h64,q⟩:=h;obtain⟨u,rfl,ru⟩:=gH r;cases ru;obtain⟨its,rv,pl,hz⟩:=I.list hq;have hlen:=rv.length;rw[aR] at hlen;refine sorted_strs pl.isList (pV rv) (by omega) fun out ss' a1 a2 a3=>?_
 obtain⟨e,he⟩:=sortedAll_at s.heap its out;have em:(ss'.map fun x=>x.cps.toList).map tx=ss':=by
  rw[bx]
  conv=>rhs;rw[<- ky ss']
  exact br fun x _=>kI x
 have hp:(ss'.map fun x=>x.cps.toList).Perm ls:=by
  have z:=a2.map fun x=>x.cps.toList
  have e2:(ls.map tx).map (fun x=>x.cps.toList)=ls:=by
   rw[bx]
   conv=>rhs;rw[<- ky ls]
   exact br fun x _=>eG x
  rw[e2] at z;exact z
 have hpl:=hp.length_eq;refine⟨.ref _,_,I.laid (t':=s.toks) (fun _ _=>sortedAll_old) (jn _) (o:=.lst ((ss'.map fun x=>x.cps.toList).map T)) ⟨by rw[aR,hpl];rw[aR] at hz;exact hz,out.toList,e,pE a1,by simpa using he⟩,rfl,q _ _ (I.hok.fresh (jn _)) hp (wV _ (by rw[em];exact a3))⟩
theorem Pa (hu:X.A.units<cLine):OpR X (compareOp .NotEq) (fun x y H Q=>∃ (p b:Addr) (ls ms:List (List Nat)),x = .ref p∧y = .ref b∧SqL X.K H p (ls.map T)∧SqL X.K H b (ms.map T)∧Q (.bl (!decide (ls=ms))) H):=by
 intro pins s σ H x y v u Q I rx ry h;obtain⟨p,b,ls,ms,rfl,rfl,h1,h2,q⟩:=h;cases rx;cases ry;obtain⟨its,r,pl,_⟩:=I.list h1;obtain⟨its2,r2,pl2,_⟩:=I.list h2;have l1:=r.length;have l2:=r2.length;rw[aR] at l1 l2;by_cases hl:ls.length=ms.length
 ·refine SeqAt.RcNeAt.lists (e:=fun j=>decide (ls[j]?=ms[j]?)) pl.isList pl2.isList (by rw[ap,ap];omega) hu (fun j g1 g2=>Os r r2 (by simp) (by simp)) _ _ _ _ ?_
  rw[ap,<- l1,nO hl];exact⟨.bl _,H,I,rfl,q⟩
 ·refine SeqAt.RcNeAt.lists_lengths pl.isList pl2.isList (by rw[ap,ap,bne_iff_ne];omega) hu _ _ _ _ ?_
  have e:decide (ls=ms)=false:=decide_eq_false fun z=>hl (by rw[z])
  rw[e] at q;exact⟨.bl _,H,I,rfl,q⟩
end
def nub:List (List Nat)->List (List Nat)->List (List Nat)
 | acc,[]=>acc
 | acc,l::ls=>if l∈acc then nub acc ls else nub (acc++[l]) ls
def eQ (ls:List (List Nat)):Nat->List (List Nat)
 | 0=>[]
 | i+1=>if ls.getD i []∈eQ ls i then eQ ls i else eQ ls i++[ls.getD i []]
theorem pU (ls:List (List Nat)):∀ i,(eQ ls i).length<=i
 | 0=>ah _
 | i+1=>by
  have h:=pU ls i;rw[eQ];split
  ·omega
  ·rw[ai,ci]
   omega
theorem rB (ls:List (List Nat)):∀ i,(eQ ls i).Nodup
 | 0=>ig
 | i+1=>by
  have h:=rB ls i;rw[eQ];split
  ·exact h
  ·rename_i hn
   refine ge.mpr ⟨h,by simp,fun a ha b hb e=>?_⟩;have hb':b=ls.getD i []:=by simpa using hb
   rw[e,hb'] at ha;exact hn ha
theorem pT (ls:List (List Nat))(x:List Nat):∀ i,i<=ls.length->(x∈eQ ls i↔x∈ls.take i)
 | 0,_=>by simp[eQ]
 | i+1,hi=>by
  have h:=pT ls x i (by omega);have e:ls.take (i+1)=ls.take i++[ls.getD i []]:=by
   rw[cx,ak,ac (by omega)];rfl
  rw[e,bt,eQ];split
  ·rename_i hm
   rw[h];constructor
   ·exact .inl
   ·rintro (q | q)
    ·exact q
    ·have q':x=ls.getD i []:=by simpa using q
     rw[q',<- pT ls _ i (by omega)];exact hm
  ·rw[bt,h]
def uniq (ls:List (List Nat)):List (List Nat):=eQ ls ls.length
theorem tY (ls:List (List Nat)):(uniq ls).Nodup:=rB ls _
theorem iS (ls:List (List Nat))(x:List Nat):x∈uniq ls↔x∈ls:=by
 rw[uniq,pT ls x _ (ah _),c8]
namespace SE
section
variable {prog:Program}{w:World}{A:Around}{R:Result->Shared->Prop}{J:Addr}{fp wr:List Addr}{G:Array GenState->Array GenState->Prop}{n:Nat}{P:Nat->Value->Prop}{St:Nat->Shared->Prop}
abbrev Has (prog:Program)(w:World)(h:Heap)(D:Addr)(ms:List (List Nat)):Prop:=h.SetOf (fm prog w) D (fun x=>decide (x.cps.toList∈ms)) ms.length
theorem Has.at {h h':Heap}{D:Addr}{ms:List (List Nat)}(x:Has prog w h D ms)(k:∀ o,h.get? D=some o->h'.get? D=some o):Has prog w h' D ms:=by
 obtain⟨o,es,ep,tb,ho,r⟩:=x;exact⟨o,es,ep,tb,k o ho,r⟩
theorem loop (W:WalksS prog w A.in1 J fp wr G n P St){D:Addr}(hD:D∉fp)(ls:List (List Nat))(hv:∀ i v,P i v->∃ t,v=Value.str (tx (ls.getD i [])) t)(hn:n+1<scanBound) :
  ∀ (k i:Nat) (s:Shared),n-i=k->i<=n->St i s->Has prog w s.heap D (eQ ls i) ->
   (∀ s',Moved (D::wr) G s s'->Has prog w s'.heap D (eQ ls n)->R (.ok (.ret .none)) s')->codeAny (model prog w) A (.builtin "set.update.loop" ⟨[.ref D,.ref J],[]⟩) R s:=by
 have hDw:D∉wr:=fun z=>hD (W.sub _ z)
 have up:∀ b∈wr,b∈D::wr:=fun b hb=>.tail _ hb
 intro k
 induction k with
 | zero =>
  intro i s hk hi st hs hR;obtain rfl:i=n:=by omega
  refine codeAny_builtin gc ?_;rw[Around.under_plainId dl];refine wpAny_bind (m:=pyNext (.ref J)) (W.done s _ _ st fun s2 mv=>?_);exact (show wpAny _ A.in1 (ret Value.none) _ _ s2 from wpAny_pure (hR s2 (mv.mono up) (hs.at fun o e=>mv.heap D o hDw e)))
 | succ k ih =>
  intro i s hk hi st hs hR;have hlt:i<n:=by omega
  refine codeAny_builtin gc ?_;rw[Around.under_plainId dl];refine wpAny_bind (m:=pyNext (.ref J)) (W.item i s _ _ hlt st fun v s2 pv st2 mv=>?_);obtain⟨t,rfl⟩:=hv i v pv;have hs2:=hs.at fun o e=>mv.heap D o hDw e
  refine wpAny_bind (m:=holding [Value.str (tx (ls.getD i [])) t] (setAdd D (.str (tx (ls.getD i [])) t))) (wpAny_holding ?_);unfold setAdd;refine wpAny_holding (wpAny_bind ((fm prog w).pyHash (k:=tx (ls.getD i [])) (strKind_is _ _ _ _) ?_));have hl:=pU ls i;refine wpAny_setAddHashed_of (knd:=fm prog w) (s:={ s2 with toks:=s2.toks+1 }) (strKind_is _ _ _ _) rfl hs2 (by omega) fun h3 sb x3=>?_
  have x4:Has prog w h3 D (eQ ls (i+1)):=by
   refine ko x3 (fun y=>?_) ?_
   ·rw[eQ]
    split
    ·rename_i hm
     rw[da,jx,decide_eq_true_iff,decide_eq_true_iff];constructor
     ·rintro (q | q)
      ·exact q
      ·rw[q,eG]
       exact hm
     ·exact .inl
    ·rw[da,jx,decide_eq_true_iff,decide_eq_true_iff,decide_eq_true_iff,bt,ax]
     constructor
     ·rintro (q | q)
      ·exact .inl q
      ·right
       rw[q,eG]
     ·rintro (q | q)
      ·exact .inl q
      ·right
       rw[<- q,kI]
   ·rw[eG,eQ]
    by_cases hm:ls.getD i []∈eQ ls i
    ·rw[if_pos hm,if_pos (decide_eq_true hm)]
    ·rw[if_neg hm,if_neg (by rw[decide_eq_false hm];exact aj),ai]
     rfl
  refine wpAny_pure ⟨plainId_quiet dl _,ih (i+1) _ (by omega) hlt (W.frame _ s2 _ _ st2 (jn _) fun b hb o e=>(sb.2 b fun z=>hD (z▸hb)).trans e) x4 fun s5 m5 x5=>?_⟩;refine hR s5 (Moved.trans W.gtrans ((mv.mono up).then_heap (jn _) fun b o hb e=>(sb.2 b fun z=>hb (z▸.head _)).trans e) m5) x5
variable {E:Value->Shared->Prop}{s:Shared}
theorem Rx {l:Addr}{its:Array Value}{ls:List (List Nat)}{Q:Value->Shared->Prop}(hh:A.handled=none)(hl:s.heap.IsList l its)(hv:∀ i v,its[i]?=some v->∃ t,v=Value.str (tx (ls.getD i [])) t)(hn:its.size+1<scanBound)
  (h:∀ (h':Heap) (tk:Nat),Has prog w h' s.heap.objs.size (eQ ls its.size)->(∀ b o,s.heap.get? b=some o->h'.get? b=some o)->Q (.ref s.heap.objs.size) { s with heap:=h',toks:=tk }) :
  wpAny (model prog w) A (call (.type "set") [.ref l]) Q E s:=by
 obtain⟨mc,mt,f0⟩:=F.called_set.mro;have f1:=F.called_set.made;have f2:=F.called_set.sub;have f3:=F.called_set.notType;have f4:=F.called_set.canCreate;have f5:=F.typeCall_set_1 (.ref l);refine wpAny_call (codeAny_of_tree (show wpAny _ _ (callAny (.type "set") _) _ _ _ from wpAny_pure ⟨Code.quiet_builtin _ (by decide +kernel),codeAny_builtin F.entry_type_call ?_⟩))
 rw[Around.under_plain (weight_type_call_type "set" [.ref l] []) rfl]
 repeat (any_goals (first | wp_step | assumption))
 refine codeAny_mono (code_set_new_1 (.ref l) (E:=E) (Q₁:=fun ob s1=>∃ b:Bool,ob = .ref s.heap.objs.size∧s1 = { s with heap:=s.heap.push { cls:=.type "set",dict:=none,data:=.set #[] 0 (.fresh 0 0 b) } }) fun b=>⟨b,rfl,rfl⟩) fun r s1 hr=>?_
 cases r with
 | error e=>exact hr
 | ok fl =>
  cases fl with
  | ret ob =>
   obtain⟨b,rfl,rfl⟩:=hr;generalize hob:({ cls:=.type "set",dict:=none,data:=.set #[] 0 (.fresh 0 0 b) }:Obj)=ob
   have hD:(s.heap.push ob).get? s.heap.objs.size=some ob:=Heap.get?_push_size _ (by rw[<- hob];rfl);have hT:Shared.TypeIs { s with heap:=s.heap.push ob } (.ref s.heap.objs.size) "set" := ⟨_,hD,by rw[<- hob]⟩
   have f6:=F.called_set.init.lookup;have f7:=F.called_set.init.bind (.ref s.heap.objs.size)
   repeat (any_goals (first | wp_step | assumption))
   refine codeAny_mono (codeAny_call_builtin (R:=wants (fun r s2=>r = .none∧∃ h' tk,s2 = { s with heap:=h',toks:=tk }∧Has prog w h' s.heap.objs.size (eQ ls its.size)∧∀ b o,s.heap.get? b=some o->h'.get? b=some o) E)
    F.called_set.init.plain F.entry_set_init (check_set_init_1 hT ?_)) fun r2 s2 hr2=>?_
   ·obtain⟨⟨oc,od,odt,osl⟩,hol,hcl,nl,hdl⟩:=id hl
    simp only at hcl hdl;subst hcl hdl;have hol':(s.heap.push ob).get? l=some { cls:=.type "list",dict:=od,data:=.seq its nl,slots:=osl }:=Heap.get?_push_of_some _ hol
    have f8:=F.sub_list_set;have f9:=F.sub_list_frozenset;have f10:(Value.type "list" == Value.type "dict")=false:=by decide
    have hl1:(s.heap.push ob).IsList l its:=⟨_,hol',rfl,nl,rfl⟩;subst hob;unfold Builtin.«set.__init__» noKeywords Builtin.Frozenset.updateFrom;generalize hPI:pyIter=PI
    wp_walk
    subst hPI;refine wpAny_pyIter_list hl1 ?_;refine wpAny_bind (wpAny_runValue ?_);have hlt:l<s.heap.objs.size:=Heap.lt_size hol;have hh3:A.in1.in1.in1.handled=none:=by simp[hh]
    have hsz:(s.heap.push { cls:=.type "set",dict:=none,data:=.set #[] 0 (.fresh 0 0 b) }).objs.size=s.heap.objs.size+1:=Heap.size_push _ _
    have hne:l≠(s.heap.push { cls:=.type "set",dict:=none,data:=.set #[] 0 (.fresh 0 0 b) }).objs.size:=by rw[hsz];exact a9 (fh hlt)
    have hfp:s.heap.objs.size∉[(s.heap.push { cls:=.type "set",dict:=none,data:=.set #[] 0 (.fresh 0 0 b) }).objs.size,l]:=by
     rw[hsz];intro z;rcases aw.mp z with e | e
     ·exact a9 (iu _) e
     ·exact g0 hlt (ax.mp e)
    refine loop ((Walks.list hh3 _ l hne its).toS) (D:=s.heap.objs.size) hfp ls hv hn (its.size-0) 0 _ (by omega) (b9 _) ⟨⟨_,Heap.get?_push_size _ rfl,rfl,rfl⟩,hl1.push _⟩ ?_ fun s3 mv x3=>?_
    ·have hg:((s.heap.push { cls:=.type "set",dict:=none,data:=.set #[] 0 (.fresh 0 0 b) }).push { cls:=.type "list_iterator",data:=.fields #[.ref l,.int 0 0] }).get? s.heap.objs.size=some { cls:=.type "set",dict:=none,data:=.set #[] 0 (.fresh 0 0 b) }:=Heap.get?_push_of_some _ hD
     exact ko ((mf (knd:=fm prog w) b).setOf hg (by unfold scanBound;omega)) (fun _=>rfl) rfl
    ·obtain⟨h3,g3,d3,tk3,os3⟩:=s3
     obtain rfl:g3=s.gens:=mv.gens;obtain rfl:d3=s.drawn:=mv.drawn;obtain rfl:os3=s.os:=mv.os;refine wpAny_pure (show wpAny _ _ (ret Value.none) _ _ _ from wpAny_pure ⟨rfl,h3,tk3,rfl,x3,fun c o e=>?_⟩);have hc:=Heap.lt_size e;exact mv.heap c o (show c∉[s.heap.objs.size,(s.heap.push { cls:=.type "set",dict:=none,data:=.set #[] 0 (.fresh 0 0 b) }).objs.size] by
      rw[hsz];intro z;rcases aw.mp z with e | e
      ·exact a9 hc e
      ·exact a9 (fh hc) (ax.mp e)) (Heap.get?_push_of_some _ (Heap.get?_push_of_some _ e))
   ·cases r2 with
    | error e=>exact hr2
    | ok fl2 =>
     cases fl2 with
     | ret r =>
      obtain⟨rfl,h3,tk,rfl,x3,k3⟩:=hr2
      repeat (any_goals (first | wp_step | assumption))
      exact h _ _ x3 k3
     | _=>exact hr2.elim
  | _=>exact hr.elim
end
end SE
def Cv (P:Program)(w:World)(D:Addr)(ms:List (List Nat)):HO:=.ext fun h=>SE.Has P w h D ms
section
variable {X:Cx}
theorem Gg {ls:List (List Nat)}{us:List Value}(r:bK (ls.map T) us){i:Nat}{v:Value}(h:us[i]?=some v):∃ t,v=Value.str (tx (ls.getD i [])) t:=by
 have hl:=r.length;rw[aR] at hl;have hi:i<ls.length:=by have:=(al.mp h).1;omega
 obtain⟨u,h1,h2⟩:=r.get (i:=i) (x:=T ls[i]) (by rw[ag,ac hi];rfl);rw[h] at h1;cases h1;rw[ak,ac hi];exact h2
theorem Lh (hc:X.calm=true):fC X (.type "set") (fun xs H Q=>∃ (p:Addr) (ls:List (List Nat)),xs=[.ref p]∧SqL X.K H p (ls.map T)∧ls.length+1<4096∧∀ D,H D=none->Q (.ref D) (upd H D (Cv X.prog X.w D (uniq ls)))):=by
 intro pins s σ H xs us Q I r h;obtain⟨p,ls,rfl,hq,hz,q⟩:=h;obtain⟨u,rfl,ru⟩:=gH r;cases ru;obtain⟨its,rv,pl,_⟩:=I.list hq;have hlen:=rv.length;rw[aR] at hlen;refine SE.Rx (I.ok.hd hc) pl.isList (ls:=ls) (fun i v e=>Gg rv (by simpa using e)) (by rw[ap];unfold scanBound;omega) fun h' tk x k=>?_
 have e:eQ ls its.toArray.size=uniq ls:=by rw[ap,<- hlen];rfl
 rw[e] at x;have hf:H s.heap.objs.size=none:=I.hok.fresh (ah _);refine⟨.ref s.heap.objs.size,_,I.laid (t':=tk) k (ah _) (o:=Cv X.prog X.w s.heap.objs.size (uniq ls)) ?_,rfl,q _ hf⟩;refine⟨x,?_,fun h1 h2 x1 kk=>x1.at kk⟩;obtain⟨o,_,_,_,ho,_⟩:=x;exact⟨o,ho⟩
theorem wQ:fC X (.builtin "len") (fun xs H Q=>∃ (D:Addr) (ms:List (List Nat)),xs=[.ref D]∧H D=some (Cv X.prog X.w D ms)∧Q (.int (ms.length:Nat)) H):=by
 intro pins s σ H xs us Q I r h;obtain⟨D,ms,rfl,hD,q⟩:=h;obtain⟨u,rfl,ru⟩:=gH r;cases ru;obtain⟨⟨o,es,ep,tb,ho,hex,hd,_,_,hb,hf,hn⟩,_⟩:=(show dB X.prog X.w H s.heap D (Cv X.prog X.w D ms) from I.hok D _ hD);have hb':es.size<4096:=hb;exact call_len_set ho hex hd hf (by omega) ⟨.int (ms.length:Nat),H,I.tok _,⟨s.toks+1,by rw[<- hn]⟩,q⟩
namespace LM
theorem aAN (a:Int)(t:Tok)(l:Addr)(its:Array Value)(n:Nat)(dd:Option Addr)(sl:Array (Option Value)) :
  Meets (Builtin.«int.__rmul__» ⟨[.int a t,.ref l],[]⟩) (fun _ R s=>s.heap.get? l=some { cls:=.type "list",dict:=dd,data:=.seq its n,slots:=sl }∧R (.ok (.ret Value.notImplemented)) s) :=
 .of_wp fun prog w A R s z=>by
  obtain⟨hp,g,d,tk,os⟩:=s;obtain⟨hl,z⟩:=z
  wp_walk
  exact⟨_,rfl,z⟩
theorem mul (l:Addr)(its:Array Value)(n:Nat)(dd:Option Addr)(sl:Array (Option Value))(x:Int)(u:Tok)(c0:¬(!Builtin.List.listFitsIndex x)=true)(c1:¬its.size*x.toNat>(2 ^ 63-1)/8)(c2:¬Builtin.List.listTooLong (its.size*x.toNat)=true) :
  Meets (Builtin.«list.__mul__» ⟨[.ref l,.int x u],[]⟩) (fun _ R s=>s.heap.get? l=some { cls:=.type "list",dict:=dd,data:=.seq its n,slots:=sl } ∧
   R (.ok (.ret (Value.ref s.heap.objs.size))) { s with heap:=s.heap.push { cls:=Value.type "list",data:=Data.seq (qk (fun x1 x2=>x1++x2) #[] (c7 (if its.isEmpty=true then 0 else x.toNat) its)) } }) :=
 .of_wp fun prog w A R s z=>by
  obtain⟨hp,g,d,tk,os⟩:=s;obtain⟨hl,z⟩:=z;have hsz:=AutoListH.joined_fits c2
  wp_walk using wpAny_loadPart' hl
  refine wpAny_ite_false (decide_eq_false (qt.mpr hsz)) ?_
  wp_walk
  exact⟨_,rfl,z⟩
end LM
theorem Gb (K:af)(hK:X.K=K):fC X (.builtin "len") (fun xs H Q=>∃ p ys,xs=[.ref p]∧(SqL K H p ys∨SqT K H p ys)∧Q (.int ys.length) H):=by
 subst hK;exact aX
theorem Lj (K:af)(hK:X.K=K):IxR X (Xx K):=by
 subst hK;exact cF
theorem Qx:OpR X (binaryOp .Mult) (fun x y H Q=>∃ (l:Addr) (k:Int) (xs:List V),x = .ref l∧y = .int k∧SqL X.K H l xs∧(-(2 ^ 63)<=k∧k<2 ^ 63∧xs.length*k.toNat<=sizeLine)∧∀ p,H p=none->Q (.ref p) (upd H p (.lst (c7 k.toNat xs).flatten))):=by
 intro pins s σ H x y v u Q I rx ry h;obtain⟨l,k,xs,rfl,rfl,hH,⟨h1,h2,hz⟩,q⟩:=h;cases rx;obtain⟨t,rfl⟩:=ry;obtain⟨its,r,⟨⟨cls,dd,data,sl⟩,n,e,hc,hdd,hd⟩,z⟩:=I.list hH;simp only at hc hd;subst hc hd;have hl:=r.length;have hlen:its.toArray.size*k.toNat<=sizeLine:=by rw[ap,<- hl];exact hz
 have hcap:¬ its.toArray.size*k.toNat>(2 ^ 63-1)/8:=by
  have:(sizeLine:Nat)<=(2 ^ 63-1)/8:=by decide
  omega
 have hfit:¬ (!Builtin.List.listFitsIndex k)=true:=by
  rw[fitsIndex_both h1 h2];exact aj
 have hlong:¬ Builtin.List.listTooLong (its.toArray.size*k.toNat)=true:=by
  rw[Pl hlen];exact aj
 have hnew:qk (fun x1 x2=>x1++x2) #[] (c7 (if its.toArray.isEmpty=true then 0 else k.toNat) its.toArray)=(c7 k.toNat its).flatten.toArray:=by
  have f0:∀ m:Nat,qk (fun x1 x2=>x1++x2) #[] (c7 m its.toArray)=(c7 m its).flatten.toArray:=fun m=>by
   have:=xB its m []
   rw[tz] at this;exact this
  rw[f0]
  cases its with
  | nil=>simp
  | cons a r'=>rw[if_neg (by simp)]
 refine wpAny_binaryOp_repeat_ref (T := "list") (U := "int") (by decide) ⟨_,e,rfl⟩ (fun s'=>typeIs_int s' k t) noFill_list_mul F.fills_int_mul F.slot_int_rmul repeat_list F.slot_int_index.lookup
  (call_meets F.slot_int_rmul (typeIs_int s k t) F.entry_int_rmul (F.args_int_rmul_2 _ _) (LM.aAN k t l its.toArray n dd sl)
   ⟨e,rfl,⟨_,e,rfl⟩,call_meets F.slot_list_mul ⟨_,e,rfl⟩ F.entry_list_mul (F.args_list_mul_2 _ _) (LM.mul l its.toArray n dd sl k t hfit hcap hlong) ⟨e,?_⟩⟩)
 rw[hnew];exact⟨.ref _,_,I.lnew (t':=s.toks) (r.rep k.toNat) (by rw[Sm,de];exact hz),rfl,q _ I.fresh⟩
theorem Qr:OpR X (binaryOp .Mult) (fun x y H Q=>∃ (l:Addr) (k:Nat) (xs:List V),x = .ref l∧y = .int k∧SqL X.K H l xs∧(k<=sizeLine∧xs.length*k<=sizeLine)∧∀ p,H p=none->Q (.ref p) (upd H p (.lst (c7 k xs).flatten))):=by
 intro pins s σ H x y v u Q I rx ry h;obtain⟨l,k,xs,e1,e2,hH,⟨hk,hz⟩,q⟩:=h;have hs:sizeLine=16777216:=sizeLine_eq;refine Qx pins s σ H x y v u Q I rx ry ⟨l,(k:Int),xs,e1,e2,hH,⟨by omega,by omega,?_⟩,?_⟩
 ·rw[bv]
  exact hz
 ·rw[bv]
  exact q
end
def Itx (l:List Nat):It:=⟨fun i _=>i<l.length,fun i H x H'=>H'=H∧∃ c,l[i]?=some c∧x=T [c],fun i _=>l.length<=i⟩
theorem Kt {P:Program}{w:World}{K:af}{tg:Expr}{it:Addr}{ty:String}{l:List Nat}{t:Tok}(hty:ty = "str_ascii_iterator" ∨ ty = "str_iterator")
  (W:∀ A:Around,A.handled=none->Walks P w A it [it] [it] (tx l).cps.size (SignAt (tx l)) (fun i h=>h.IsStrIter it ty (tx l) t i)):vX P w K tg (Itx l) [it] it (fun i h=>h.IsStrIter it ty (tx l) t i) where
 mem:=by simp
 obj:=fun i h st b hb=>by
  have e:b=it:=by simpa using hb
  subst e;obtain⟨o,e,c,d⟩:=st;exact⟨o,e,fun v z=>by rw[d] at z;cases z⟩
 keep:=fun i h h' st k=>by
  obtain⟨o,e,r⟩:=st;exact⟨o,k it (by simp) o e,r⟩
 item:=by
  intro X hP hw hK hc i pins s σ H E I hf st hg;subst hP hw hK;obtain⟨f0,f1,f2,f3,f4,f5⟩:=hf it (by simp);refine (W X.A (I.ok.hd hc)).item i s _ _ (by have:i<l.length:=hg;simpa [tx] using this) st fun v h' tk hv st' kk=>?_
  obtain⟨c,u,hcu,rfl⟩:=hv;have I1:Inv X pins σ H { s with heap:=h',toks:=tk }:=I.turned (fun b o hb e=>kk b o (by simpa using hb) e) f0 f1 f3 f4 f5;obtain⟨o,e,cl,d⟩:=id st';refine⟨_,rfl,Hw (s:={ s with heap:=h',toks:=tk }) (n:=ty) e cl d (by rcases hty with rfl | rfl <;> decide) ⟨T [c],H,I1,⟨u,rfl⟩,⟨rfl,c,?_,rfl⟩,st',fun b hb=>(hf b hb).1⟩⟩
  simpa [tx] using hcu
 done:=by
  intro X hP hw hK hc i pins s σ H E I hf st hg;subst hP hw hK;obtain⟨f0,f1,f2,f3,f4,f5⟩:=hf it (by simp);have hn:l.length<=i:=hg;obtain⟨o,e,cl,d⟩:=id st;rcases hty with rfl | rfl
  ·exact wpAny_pyNext_ascii_end (I.ok.hd hc) st (by simpa [tx] using hn) fun h' eb=>⟨rfl,I.turned (t':=s.toks) (fun b o hb e=>eb b o hb e) f0 f1 f3 f4 f5⟩
  ·exact wpAny_pyNext_wide_end (I.ok.hd hc) st (by simpa [tx] using hn) fun h' eb=>⟨rfl,I.turned (t':=s.toks) (fun b o hb e=>eb b o hb e) f0 f1 f3 f4 f5⟩
 self:=fun A i s Q E st h=>by
  rcases hty with rfl | rfl
  ·exact wpAny_pyIter_striter_ascii st h
  ·exact wpAny_pyIter_striter_wide st h
def Zo (tl:TE):TI:=fun σ H R=>tl σ H fun x H1=>∃ l,x=T l∧R (Itx l) H1
section
variable {X:Cx}{tg:Expr}
theorem Og {e:Expr}{tl:TE}(hl:PE X e tl):PI X tg e (Zo tl):=by
 intro pins s σ H R I h;refine thn (hl pins s σ H _ I h) fun v s1 ⟨x,H1,I1,r1,q1⟩=>?_
 obtain⟨l,rfl,q⟩:=q1;obtain⟨t,rfl⟩:=r1;have fin:∀ (ty:String) (o:Obj),(ty = "str_ascii_iterator" ∨ ty = "str_iterator")->(∀ A:Around,A.handled=none->Walks X.prog X.w A s1.heap.objs.size [s1.heap.objs.size] [s1.heap.objs.size] (tx l).cps.size (SignAt (tx l)) (fun i h=>h.IsStrIter s1.heap.objs.size ty (tx l) t i)) ->
   (s1.heap.push o).IsStrIter s1.heap.objs.size ty (tx l) t 0->PIE X pins σ tg R (.ref s1.heap.objs.size) { s1 with heap:=s1.heap.push o }:=fun ty o hty W st=>by
  refine⟨s1.heap.objs.size,[s1.heap.objs.size],_,_,H1,rfl,I1.kept (t':=s1.toks) fun b o e=>Heap.get?_push_of_some _ e,Kt hty W,st,fun b hb=>?_,q⟩;have e:b=s1.heap.objs.size:=by simpa using hb
  subst e;exact I1.fpOk (ah _) (I1.hok.fresh (ah _))
 cases ha:(tx l).cps.all (· < 128)
 ·exact wpAny_pyIter_wide ha (fin "str_iterator" _ (.inr rfl) (fun A hA=>Walks.strWide hA _ (tx l) t) ⟨_,Heap.get?_push_size _ rfl,rfl,rfl⟩)
 ·exact wpAny_pyIter_ascii ha (fin "str_ascii_iterator" _ (.inl rfl) (fun A hA=>Walks.strAscii hA _ (tx l) t) ⟨_,Heap.get?_push_size _ rfl,rfl,rfl⟩)
end
theorem Ca {l:List Nat}{g:TG}{tb:TS}{D:lE}{σ:St}{H:Hp}(Pv:Nat->St->Hp->Prop)(h0:Pv 0 σ H)
  (hs:∀ i c σ H,l[i]?=some c->Pv i σ H->g (T [c]) σ H fun σ2 H2=>tb { D with nx:=Pv (i+1),ct:=Pv (i+1),bk:=D.nx } σ2 H2) (hd:∀ σ H,Pv l.length σ H->D.nx σ H) :
  ∃ W:Nat->Nat->St->Hp->Prop,(∃ m,W 0 m σ H)∧∀ i m σ H,W i m σ H ->
   ((Itx l).stop i H∧D.nx σ H)∨((Itx l).go i H∧∃ N:St->Hp->Prop,(∀ σ' H',N σ' H'->∃ m',m'<m∧W (i+1) m' σ' H')∧∀ x H',(Itx l).yld i H x H'->g x σ H' fun σ2 H2=>tb { D with nx:=N,ct:=N,bk:=D.nx } σ2 H2):=by
 refine⟨fun i m σ H=>m=l.length-i∧i<=l.length∧Pv i σ H,⟨l.length,by simp,b9 _,h0⟩,?_⟩;rintro i m σ H ⟨rfl,hi,p⟩;by_cases hlt:i<l.length
 ·refine .inr ⟨hlt,Pv (i+1),fun σ' H' p'=>⟨l.length-(i+1),by omega,rfl,hlt,p'⟩,fun x H' y=>?_⟩
  obtain⟨rfl,c,hc,rfl⟩:=y;exact hs i c σ _ hc p
 ·obtain rfl:i=l.length:=by omega
  exact .inl ⟨ah _,hd σ H p⟩
section
variable {X:Cx}
theorem Cu:OpR X (compareOp .NotIn) (fun x y H Q=>∃ c,x=T [c]∧∃ l,y=T l∧Q (.bl (!decide (c∈l))) H):=by
 intro pins s σ H x y v u Q I rx ry h;obtain⟨c,e1,l,e2,q⟩:=h;exact zV pins s σ H x y v u Q I rx ry ⟨tx [c],tx l,e1,e2,by rw[show tx [c]=⟨#[c]⟩ from rfl,StrLaws.found_one,eG];exact q⟩
namespace RV
variable {prog:Program}{w:World}{A:Around}{E:Value->Shared->Prop}{s:Shared}
end RV
end
section
variable {P:Program}{w:World}{K:af}{mg:Str->Option Value}{base:Heap}
theorem Fun.okN {x qual:Str}{st:Stmt}{f:Addr}{fd:FuncData}{N ps:List Str}{k:Nat}{sp:Sp}(F:Fun K x qual st f fd)(S:aP N ps (aF st))(len:∀ vs H Q E,sp vs H Q E->vs.length=ps.length)
  (hbody:∀ (cdv:Value) (A:Around) (outer:List Env) (s:Shared) (H:Hp) (vs:List V) (Q:VK) (E:XK),fT k (A.deeper (envOfC qual (aF st) s.heap.objs.size f cdv))->sp vs H Q E ->
   ∃ t,PSs (rW (CX1 P w) P w K mg base N qual (aF st) f cdv A outer s H E).nox (cH st) t∧t { nx:=fun _ H'=>Q .non H',rt:=Q } (nV N vs) H):bN P w K mg base (CX1 P w) (k+1) f fd ps sp:=by
 obtain⟨oc,od,kV,doc,pm,an,cdv,ct,osl,rfl,lk,hcd⟩:=F.ex;refine Tv lk hcd S len fun A outer s H vs Q E hr hsp=>?_
 obtain⟨t,h,q⟩:=hbody cdv A outer s H vs Q E hr hsp;exact⟨t,h.nox,q⟩
end
namespace EX
open PySem.W PySem.Calls PySem.Builtin PySem.Builtin.ObjectAttr PySem.Builtin.Getset_descriptor
variable {prog:Program}{w:World}{A:Around}{E:Value->Shared->Prop}{s:Shared}{K:af}{a C:Addr}
end EX
section
variable {X:Cx}
end
section
variable {X:Cx}{es:List Expr}{te:TE}{t:TA}
theorem Tu {c:Const}{j:Nat}{p:Pos}(ha:PE X (.Constant c j p) te)(hr:PA X es t):PA X (.Constant c j p::es) (xG te t):=aA ha hr rfl
theorem Xv {x:Str}{p:Pos}(ha:PE X (.Name x p) te)(hr:PA X es t):PA X (.Name x p::es) (xG te t):=aA ha hr rfl
theorem Yy {as:List Expr}{k}{p:Pos}(ha:PE X (.Tuple as k p) te)(hr:PA X es t):PA X (.Tuple as k p::es) (xG te t):=aA ha hr rfl
def Mq:List ((Int×Nat×Pos)×(Int×Nat×Pos)×Nat×Pos)->List Expr
 | []=>[]
 | ((i,j,p),(i',j',p'),k,q)::r=>.Tuple [.Constant (.int i) j p,.Constant (.int i') j' p'] k q::Mq r
def Ey:List (Int×Int)->TA
 | []=>fun _ H Q=>Q [] H
 | (a,b)::r=>fun σ H Q=>∀ t,H t=none->Ey r σ (upd H t (.tup [.int a,.int b])) fun vs H1=>Q (.ref t::vs) H1
theorem Cq:∀ l:List ((Int×Nat×Pos)×(Int×Nat×Pos)×Nat×Pos),PA X (Mq l) (Ey (l.map fun x=>(x.1.1,x.2.1.1)))
 | []=>aC
 | ((i,j,p),(i',j',p'),k,q)::r=>fun pos pins s σ H Q I h=>by
  have h0:PE X (.Tuple [.Constant (.int i) j p,.Constant (.int i') j' p'] k q) (Zc (xG (tC (.int i)) (xG (tC (.int i')) Sb))):=lI (Tu aH (Tu aH aC));refine Yy (X:=X) h0 (Cq r) pos pins s σ H Q I ⟨?_,fun t ht=>h t ht⟩;have hs:sizeLine=16777216:=sizeLine_eq;show 2<=sizeLine;omega
theorem yH:∀ (l:List (Int×Int)) {σ:St} {H:Hp} {Q:List V->Hp->Prop},
  (∀ vs H1,vs.length=l.length->aL H H1->(∀ (j:Nat) (p:Int×Int),l[j]?=some p->∃ t,vs[j]?=some (.ref t)∧H1 t=some (.tup [.int p.1,.int p.2]))->Q vs H1)->Ey l σ H Q
 | [],_,H,_,h=>h [] H rfl (aL.refl _) fun j p e=>by cases e
 | (a,b)::r,σ,H,Q,h=>fun t ht=>by
  refine yH r fun vs H1 hl hs hv=>h (.ref t::vs) H1 (by rw[av,hl,av]) (fun c o e=>hs c o (by rw[aG (aJ e ht)];exact e)) fun j p e=>?_
  cases j with
  | zero =>
   have e':(a,b)=p:=by simpa using e
   subst e';exact⟨t,rfl,hs t _ aD⟩
  | succ j =>
   obtain⟨t',h1,h2⟩:=hv j p (by simpa using e);exact⟨t',by simpa using h1,h2⟩
end
section
variable {X:Cx}{tg:Expr}
end
end L2
namespace L2
open PySem
section
variable {X:Cx}{N':List Str}{scope:Scope}{x:Str}{px:Pos}{elt iter cd:Expr}{pos:Pos}{te:TE}{tc:TT}{wi:TI}
theorem vL (S:cM X.N N' X.env.scope scope x)(hc:X.calm=true)(hi:PI X (.Name x px) iter wi)(ht:∀ cl C s H fp,PT (bY X N' scope cl C s H fp) cd tc)(he:∀ cl C s H fp,PE (bY X N' scope cl C s H fp) elt te)
  (hs:∀ x,foldedSetIterable iter X.env x=pure x:=by intro _;rfl):PE X (.ListComp elt [⟨.Name x px,iter,[cd],0⟩] scope pos) (Od wi tc te) :=
 Di (at':=fun σ Q=>iW tc te σ Q) S hc hi (fun cl C s H fp=>He (ht cl C s H fp)) he (fun _ _ _ _ h=>h) hs
theorem lH {i:Nat}{y:Str}{py spos:Pos}(S:cM X.N N' X.env.scope scope x)(hc:X.calm=true)(hi:PI X (.Name x px) iter wi)(ht:∀ cl C s H fp,PT (bY X N' scope cl C s H fp) cd tc)(he:∀ cl C s H fp,PE (bY X N' scope cl C s H fp) elt te)
  (hN:X.N.Nodup) (hy:X.N[i]?=some y) (hyl:X.env.scope.names.lookup y=some .local)
  (hsw:swapsWith (.ListComp elt [⟨.Name x px,iter,[cd],0⟩] scope pos) (some (.Name y py)) spos.line X.env=pure true:=by rfl)
  (hs:∀ x,foldedSetIterable iter X.env x=pure x:=by intro _;rfl):PS X (.Assign [.Name y py] (.ListComp elt [⟨.Name x px,iter,[cd],0⟩] scope pos) spos) (My (Od wi tc te) (wR i)) :=
 rH (at':=fun σ Q=>iW tc te σ Q) S hc hi (fun cl C s H fp=>He (ht cl C s H fp)) he (fun _ _ _ _ h=>h) hN hy hyl hsw hs
end
section
variable {X:Cx}
end
theorem rG {α:Type}(p:α->Bool)(l:List α)(i:Nat)(v:α)(h:l[i]?=some v):(l.take (i+1)).filter p=(l.take i).filter p++(if p v then [v] else []):=by
 rw[cx,h,ju];cases hp:p v <;> simp[hp]
theorem sC {α:Type}(p:α->Bool)(l:List α)(i:Nat):((l.take i).filter p).length<=i:=by
 have h1:=cj p (l.take i);rw[b8] at h1;omega
theorem Kb (w:List Nat)(k:Nat):iG w none (some (k:Int))=w.take k:=by
 unfold iG;rw[HT.fH,HT.gU,gi,k9];by_cases h:k<=w.length
 ·rw[et h]
 ·rw[Nat.min_eq_right (by omega),c8,cp (by omega)]
end L2
set_option autoImplicit false
namespace SR
open PySem PyProof.Rows
structure SB (kd:SortKind)(z:Array Keyed)(st:SortSt):Prop where
 prm:(arrOf st).Perm z
 knd:kindOf st=kd
 ffl:failedOf st=none
structure Kp (lo:Nat)(st st':SortSt):Prop where
 low:∀ k,k<lo->(arrOf st')[k]?=(arrOf st)[k]?
 pen:pendingOf st'=pendingOf st
section
variable {prog:Program}{w:World}{A:Around}{E:Value->Shared->Prop}{s:Shared}{z:Array Keyed}{κ:KeyKind}{kd:SortKind}
end
end SR
set_option autoImplicit false
namespace SR
open PySem PyProof.Rows
def Zv:Bool->Keyed->Array Keyed->Nat->Nat->Nat->StateT SortSt Sem (Option Nat):=sortPriv% PySem.Builtin.gallop
def bq (left:Bool)(key:Keyed)(arr:Array Keyed)(base:Nat)(i:Nat):StateT SortSt Sem (Option Bool):=do
 let x <- elem' arr (base+i)
 if left then lt' x key else return (<- lt' key x).map (!·)
section
variable {prog:Program}{w:World}{A:Around}{E:Value->Shared->Prop}{s:Shared}{z:Array Keyed}{κ:KeyKind}{kd:SortKind}
end
end SR
set_option autoImplicit false
namespace SR
open PySem PyProof.Rows
structure Ev (st st':SortSt):Prop where
 knd:kindOf st'=kindOf st
 arr:arrOf st'=arrOf st
 pen:pendingOf st'=pendingOf st
 ffl:failedOf st'=failedOf st
section
variable {prog:Program}{w:World}{A:Around}{E:Value->Shared->Prop}{s:Shared}{z:Array Keyed}{κ:KeyKind}{kd:SortKind}
end
end SR
set_option autoImplicit false
namespace SR
open PySem PyProof.Rows
section
variable {prog:Program}{w:World}{A:Around}{E:Value->Shared->Prop}{s:Shared}{κ:KeyKind}{kd:SortKind}
end
end SR
set_option autoImplicit false
namespace SR
open PySem PyProof.Rows
def rt (a:Array Keyed)(n:Nat):List Keyed:=(a.toList.take n).reverse
section
variable {prog:Program}{w:World}{A:Around}{E:Value->Shared->Prop}{s:Shared}{κ:KeyKind}{kd:SortKind}
abbrev Xu:=Option (Array Keyed)×Nat×Nat×Array Keyed×Nat×Nat×Nat
def hi3 (a b o:Array Keyed)(i j g p q:Nat):StateT SortSt Sem (ForInStep Xu):=do
 let x <- elem' a (i-1)
 if (i-1==0)=true then pure (ForInStep.done (some (a.extract 0 (i-1)++b.extract 0 j++(o.push x).reverse),i-1,j,o.push x,g,p,q))
 else if (decide (p<7)&&decide (q<7))=true then pure (ForInStep.done (none,i-1,j,o.push x,g,p,q)) else pure (ForInStep.yield (none,i-1,j,o.push x,g,p,q))
def hi2 (a b o:Array Keyed)(i j g p q:Nat):StateT SortSt Sem (ForInStep Xu):=do
 let x <- elem' b j
 if (j==1)=true then pure (ForInStep.done (some (b.extract 0 j++a.extract 0 i++(o.push x).reverse),i,j,o.push x,g,p,q))
 else do
  let u <- elem' a (i-1)
  let z <- Zv true u b 0 j (j-1)
  match z with
  | some y =>
   if j-y>0 then
    if (y==1)=true then pure (ForInStep.done (some (b.extract 0 y++a.extract 0 i++(o.push x++(b.extract y j).reverse).reverse),i,y,o.push x++(b.extract y j).reverse,g,p,j-y))
    else if (y==0)=true then pure (ForInStep.done (some (a.extract 0 i++b.extract 0 y++(o.push x++(b.extract y j).reverse).reverse),i,y,o.push x++(b.extract y j).reverse,g,p,j-y))
    else hi3 a b (o.push x++(b.extract y j).reverse) i y g p (j-y)
   else hi3 a b (o.push x) i j g p (j-y)
  | _=>pure (ForInStep.done (some (a.extract 0 i++b.extract 0 j++(o.push x).reverse),i,j,o.push x,g,p,q))
end
end SR
set_option autoImplicit false
namespace SR
open PySem PyProof.Rows
def sg (xs:Array Keyed)(l n:Nat):List Keyed:=(xs.toList.drop l).take n
section
variable {κ:KeyKind}{kd:SortKind}
end
end SR
set_option autoImplicit false
namespace SR
open PySem PyProof.Rows
section
variable {prog:Program}{w:World}{A:Around}{E:Value->Shared->Prop}{s:Shared}{z:Array Keyed}{κ:KeyKind}{kd:SortKind}
end
end SR
set_option autoImplicit false
namespace SR
open PySem PyProof.Rows
section
variable {κ:KeyKind}{kd:SortKind}
end
section
variable {prog:Program}{w:World}{A:Around}{E:Value->Shared->Prop}{s:Shared}{z:Array Keyed}{κ:KeyKind}{kd:SortKind}
end
end SR
set_option autoImplicit false
namespace SR
open PySem PyProof.Rows PySem.Spec
section
variable {prog:Program}{w:World}{A:Around}{E:Value->Shared->Prop}{s:Shared}
end
end SR
namespace L2
open PySem PyProof.Rows PySem.Spec
section
variable {X:Cx}
theorem rL {x:V}:∀ {xs:List V} {us:List Value},bK xs us->xs.all jA=true->us.countP (eqU x)=xs.countP (fun y=>eqV y x)
 | _,_,.nil,_=>rfl
 | y::xs,u::us,.cons r t,f=>by
  rw[qg,df] at f;rw[nr,nr,rL t f.2,Fr r f.1]
theorem Ld:MtR X "list.count" (fun x xs H Q=>∃ (p:Addr) (ys:List V) (a:V),x = .ref p∧xs=[a]∧SqL X.K H p ys∧ys.all jA=true∧jA a=true∧Q (.int ((ys.countP (fun y=>eqV y a):Nat):Int)) H):=by
 intro pins s σ H x xs v us Q I rx rs h;obtain⟨p,ys,a,rfl,rfl,hq,hf,ha,q⟩:=h;cases rx;obtain⟨u,rfl,ru⟩:=gH rs;obtain⟨its,r,⟨⟨cls,dd,data,sl⟩,n,ho,hc,hdd,hd⟩,hz⟩:=I.list hq;simp only at hc hd;subst hc hd;refine call_meets kz ⟨_,ho,rfl⟩ PySem.F.entry_list_count (PySem.F.args_list_count_2 _ _) (SeqAt.list_countAt p its.toArray n dd sl u (eqU a))
  ⟨ho,fun y hy=>jV ru ha r hf y (by simpa using hy),⟨.int ((ys.countP (fun y=>eqV y a):Nat):Int),H,I.tok _,⟨s.toks,by rw[<- rL r hf]⟩,q⟩⟩
theorem xP (hc:X.calm=true):fC X (.builtin "sum") (fun xs H Q=>∃ (p:Addr) (ns:List Int),xs=[.ref p]∧SqL X.K H p (ns.map V.int)∧Q (.int ns.sum) H):=by
 intro pins s σ H xs us Q I r h;obtain⟨p,ns,rfl,hq,q⟩:=h;obtain⟨u,rfl,ru⟩:=gH r;cases ru;obtain⟨its,rv,pl,_⟩:=I.list hq;have hia:=Fs rv;have hnum:=hia.numsOf;obtain⟨ys,hx⟩:=hia.allInts.items;have hl:=pl.isList;rw[hx] at hl;have e:preSum (numAt ys) ys.size=ns.sum:=by
  rw[preSum_eq,cp (by simp)];rw[<- hnum,show its=its.toArray.toList from by simp,hx,nums_intItems]
 exact sum_intListG (I.ok.hd hc) hl fun h' tk t' hk=>⟨.int ns.sum,H,I.kept hk,⟨t',by rw[e]⟩,q⟩
theorem xL (K:af)(hK:X.K=K):MtR X "list.count" (fun x xs H Q=>∃ (p:Addr) (ys:List V) (a:V),x = .ref p∧xs=[a]∧SqL K H p ys∧ys.all jA=true∧jA a=true∧Q (.int ((ys.countP (fun y=>eqV y a):Nat):Int)) H):=by
 subst hK;exact Ld
theorem Ob (K:af)(hK:X.K=K){o e:Expr}{es:List Expr}{to:TE}{t:TA}{name:Str}{apos cpos:Pos}{T id:String}{r:V->List V->Hp->VK->Prop}
  (pa:PlainAttrs T) (slot:Slot T name id) (hty:typeOf (.builtin id)=pure (.type "method_descriptor")) (hm:MtR X id r) (ho:PE X o to) (ha:PA X (e::es) t)
  (b1:attributeBase o name X.env (eval o X.env)=eval o X.env:=by rfl)
  (b2:((backTo cpos (starEach (e::es) X.env)).all (fun x=>!x.1)&&(backToKw cpos (keywordEach [] X.env)).all (fun x=>x.1.isSome)&&decide ((e::es).length+([]:List Keyword).length+(if ([]:List Keyword).isEmpty then 0 else 1)<30))=true:=by rfl)
  (b3:(apos.endLine==cpos.line)=true:=by rfl) (b4:starEach (e::es) X.env=(false,eval e X.env)::starEach es X.env:=by rfl) (b5:(backTo cpos (starEach es X.env)).any (·.1)=false:=by rfl) :
  PE X (.Call (.Attribute o name apos) (e::es) [] cpos) (tBM K T r to t):=by
 subst hK;exact vN pa slot hty hm ho ha b1 b2 b3 b4 b5
end
section
variable (P:Program)(w:World)
end
section
variable {P:Program}{w:World}{H H':Hp}{h h':Heap}{a:Addr}{o:HO}
end
section
variable {P:Program}{w:World}{H:Hp}{h h':Heap}{x e:Addr}{o':HO}
end
section
variable {fs fs' ex ex':List Addr}{H H1 H2:Hp}{h h1 h2 h':Heap}{a x e:Addr}{o:HO}
end
section
variable {X:Cx}{pins:List (Addr×Obj)}{σ:List (Option V)}{H H':Hp}{s:Shared}{h':Heap}
end
section
variable {X:Cx}
variable {a b:Expr}{ta tb:TE}{pos:Pos}
variable {tA tB':TT}{rest:List Expr}
end
section
variable {X:Cx}{pins:List (Addr×Obj)}{σ:St}{H:Hp}{s:Shared}{a:Addr}{xs ys:List V}
end
section
variable {X:Cx}{pins:List (Addr×Obj)}{σ:St}{H:Hp}{s:Shared}{E:Value->Shared->Prop}
end
section
variable {X:Cx}{st:Stmt}{rest:List Stmt}{t u:TS}{e:Expr}{te:TE}{pos:Pos}
end
section
variable {X:Cx}{pos:Pos}
end
section
variable {X:Cx}{tg:Expr}
end
section
variable {X:Cx}{a b c:Expr}{ta tb tc:TE}{pos:Pos}
end
section
variable {prog:Program}{w:World}{A:Around}{E:Value->Shared->Prop}{s:Shared}{K:af}{x dx C f:Addr}{mA:Str->Option Value}{name:Str}{v:Value}
end
section
variable {P:Program}{w:World}{H H':Hp}{h h':Heap}{a C dx:Addr}{fs fs':List (Str×V)}
end
section
variable {X:Cx}{pins:List (Addr×Obj)}{σ:St}{H:Hp}{s:Shared}{a C dx:Addr}{fs:List (Str×V)}{f:Str}{v:V}{A:Around}{E:Value->Shared->Prop}
end
section
variable {X:Cx}{o e value:Expr}{f:Str}{pos pos' tpos:Pos}{ta tv:TE}
end
section
variable {X:Cx}{pins:List (Addr×Obj)}{σ:St}{H:Hp}{s:Shared}{A:Around}{E:Value->Shared->Prop}{Q:Value->Shared->Prop}{c:Value}{b:Bool}
end
section
variable {X:Cx}{e:Expr}{es:List Expr}{te:TE}{t:TA}{pos:Pos}
end
section
variable {X:Cx}{pins:List (Addr×Obj)}{σ:St}{H:Hp}{s s':Shared}
end
section
variable {X:Cx}{CX:CXT}{k:Nat}{f C:Addr}{fd:FuncData}{ps:List Str}{sp:Sp}{dvs:List V}{ds:List Value}{E:XK}{x m:Str}{p pos apos:Pos}{e o:Expr}{es:List Expr}{ta:TE}{t:TA}
end
section
variable {X:Cx}{CX:CXT}{k:Nat}{f C:Addr}{fd:FuncData}{ps ks:List Str}{sp:Sp}{E:XK}{x m:Str}{p pos apos kpos:Pos}{e o:Expr}{es:List Expr}{kws:List Keyword}{te ta:TE}{t tk:TA}{nm:Option Str}
variable {g:List Value->List Value->List Value}{gV:List V->List V->List V}
end
section
variable {X:Cx}{x:Str}{p pos:Pos}{e:Expr}{es:List Expr}{t:TA}{id T:String}{r:List V->Hp->VK->Prop}
end
section
variable {κ:Type}[DecidableEq κ]
def dR (kvs:List (κ×V))(k:κ):Option V:=(kvs.find? fun kv=>decide (kv.1=k)).map (·.2)
def fU (kvs:List (κ×V))(k:κ)(v:V):List (κ×V) :=
 if (kvs.any fun kv=>decide (kv.1=k))=true then kvs.map (fun kv=>if kv.1=k then (kv.1,v) else kv) else kvs++[(k,v)]
def vF (kvs:List (κ×V))(k:κ):List (κ×V):=kvs.filter fun kv=>decide (kv.1≠k)
theorem dA {p:κ×V}{r:List (κ×V)}{k:κ}(e:p.1=k):dR (p::r) k=some p.2:=by simp[dR,i0,e]
theorem cV {p:κ×V}{r:List (κ×V)}{k:κ}(e:¬ p.1=k):dR (p::r) k=dR r k:=by simp[dR,i0,e]
theorem nT (k:κ):∀ kvs:List (κ×V),(kvs.any fun kv=>decide (kv.1=k))=(dR kvs k).isSome
 | []=>rfl
 | p::r=>by
  rw[lq];by_cases e:p.1=k
  ·simp only [dA e,decide_eq_true e,Bool.true_or,Option.isSome_some]
  ·rw[cV e,decide_eq_false e,Bool.false_or];exact nT k r
theorem Br (k j:κ)(y:V):∀ kvs:List (κ×V),dR (kvs.map fun kv=>if kv.1=k then (kv.1,y) else kv) j=(dR kvs j).map fun x=>if j=k then y else x
 | []=>rfl
 | p::r=>by
  have ih:=Br k j y r;rw[au];by_cases h:p.1=k
  ·rw[if_pos h]
   by_cases e:p.1=j
   ·rw[dA (p:=(p.1,y)) e,dA e,il,if_pos (e.symm.trans h)]
   ·rw[cV (p:=(p.1,y)) e,cV e,ih]
  ·rw[if_neg h]
   by_cases e:p.1=j
   ·rw[dA (p:=p) e,dA e,il,if_neg (fun z=>h (e.trans z))]
   ·rw[cV (p:=p) e,cV e,ih]
theorem yJ (k j:κ)(y:V):∀ kvs:List (κ×V),dR kvs k=none->dR (kvs++[(k,y)]) j=if j=k then some y else dR kvs j
 | [],_=>by
  by_cases e:k=j
  ·rw[if_pos e.symm];exact dA (p:=(k,y)) e
  ·rw[if_neg (fun z=>e z.symm)];exact cV (p:=(k,y)) e
 | p::r,hn=>by
  rw[gn];have hk:¬ p.1=k:=fun z=>by rw[dA z] at hn;cases hn
  rw[cV hk] at hn;have ih:=yJ k j y r hn;by_cases e:p.1=j
  ·rw[dA e,dA e,if_neg (fun z=>hk (e.trans z))]
  ·rw[cV e,cV e,ih]
theorem Co (kvs:List (κ×V))(k j:κ)(y:V):dR (fU kvs k y) j=if j=k then some y else dR kvs j:=by
 unfold fU;by_cases a:(kvs.any fun kv=>decide (kv.1=k))=true
 ·rw[if_pos a,Br]
  rw[nT] at a;by_cases e:j=k
  ·obtain⟨x,hx⟩:=kj.mp a
   rw[if_pos e,e,hx,il,if_pos rfl]
  ·rw[if_neg e]
   cases dR kvs j with
   | none=>rfl
   | some x=>rw[il,if_neg e]
 ·rw[if_neg a]
  refine yJ k j y kvs ?_;rw[nT] at a
  cases q:dR kvs k with
  | none=>rfl
  | some x=>rw[q] at a;exact (a rfl).elim
theorem jB (kvs:List (κ×V))(k:κ)(v:V):(fU kvs k v).length<=kvs.length+1:=by
 unfold fU;split
 ·rw[aR];omega
 ·rw[ai,av,ku];omega
theorem jM.isSome_eq {o:Option V}{u:Option Value}(r:jM o u):o.isSome=u.isSome:=by
 cases o with
 | none=>cases u with
  | none=>rfl
  | some _=>exact (show False from r).elim
 | some _=>cases u with
  | none=>exact (show False from r).elim
  | some _=>rfl
theorem KV.val {kvs:List (κ×V)}{vs:List (κ×Value)}(r:KV kvs vs)(k:κ):jM (dR kvs k) (valueAt vs k):=by
 unfold KV at r
 induction r with
 | nil=>exact True.intro
 | @cons p q ps qs h t ih =>
  obtain⟨h1,h2⟩:=h;by_cases e:p.1=k
  ·have e':q.1=k:=h1.symm.trans e
   have b:valueAt (q::qs) k=some q.2:=by simp[valueAt,i0,e']
   rw[dA e,b];exact h2
  ·have e':¬ q.1=k:=fun z=>e (h1.trans z)
   have b:valueAt (q::qs) k=valueAt qs k:=by simp[valueAt,i0,e']
   rw[cV e,b];exact ih
theorem KV.any {kvs:List (κ×V)}{vs:List (κ×Value)}(r:KV kvs vs)(k:κ):(kvs.any fun kv=>decide (kv.1=k))=vs.any fun kv=>decide (kv.1=k):=by
 unfold KV at r
 induction r with
 | nil=>rfl
 | cons h t ih=>rw[lq,lq,ih,h.1]
theorem KV.repl {kvs:List (κ×V)}{vs:List (κ×Value)}(r:KV kvs vs)(k:κ){y:V}{u:Value}(ry:bG y u) :
  KV (kvs.map fun kv=>if kv.1=k then (kv.1,y) else kv) (vs.map fun kv=>if kv.1=k then (kv.1,u) else kv):=by
 unfold KV at r ⊢
 induction r with
 | nil=>exact .nil
 | @cons p q ps qs h t ih =>
  rw[au,au];refine .cons ?_ ih;obtain⟨h1,h2⟩:=h;by_cases e:p.1=k
  ·rw[if_pos e,if_pos (h1.symm.trans e)];exact⟨h1,ry⟩
  ·rw[if_neg e,if_neg (fun z=>e (h1.trans z))];exact⟨h1,h2⟩
theorem KV.put {kvs:List (κ×V)}{vs:List (κ×Value)}(r:KV kvs vs)(k:κ){y:V}{u:Value}(ry:bG y u):KV (fU kvs k y) (stored vs k u):=by
 unfold fU stored;rw[r.any k];by_cases e:(vs.any fun kv=>decide (kv.1=k))=true
 ·rw[if_pos e,if_pos e];exact r.repl k ry
 ·rw[if_neg e,if_neg e];exact Paired.snoc r ⟨rfl,ry⟩
theorem KV.drop {kvs:List (κ×V)}{vs:List (κ×Value)}(r:KV kvs vs)(k:κ):KV (vF kvs k) (without vs k):=by
 unfold KV at r ⊢;unfold vF without
 induction r with
 | nil=>exact .nil
 | @cons p q ps qs h t ih =>
  obtain⟨h1,h2⟩:=h;rw[ft,ft];by_cases e:p.1=k
  ·have a:¬ decide (p.1≠k)=true:=by simp[e]
   have b:¬ decide (q.1≠k)=true:=by simp[h1.symm.trans e]
   rw[if_neg a,if_neg b];exact ih
  ·have e':¬ q.1=k:=fun z=>e (h1.trans z)
   have a:decide (p.1≠k)=true:=by simp[e]
   have b:decide (q.1≠k)=true:=by simp[e']
   rw[if_pos a,if_pos b];exact .cons ⟨h1,h2⟩ ih
theorem KV.keys {kvs:List (κ×V)}{vs:List (κ×Value)}(r:KV kvs vs):kvs.map (·.1)=vs.map (·.1):=by
 unfold KV at r
 induction r with
 | nil=>rfl
 | cons h t ih=>rw[au,au,ih,h.1]
theorem KV.length {kvs:List (κ×V)}{vs:List (κ×Value)}(r:KV kvs vs):kvs.length=vs.length:=Paired.length r
theorem Pj (kvs:List (κ×V))(k:κ):(vF kvs k).length<=kvs.length:=cj _ _
end
theorem oE {P:Program}{w:World}{k:Key}{u:Value}(r:bG (kV k) u):(bH P w).is k u=true:=by
 cases k with
 | inl i=>obtain⟨t,e⟩:=(show ∃ t,u=Value.int i t from r);subst e;exact Cf P w i t
 | inr x=>obtain⟨t,e⟩:=(show ∃ t,u=Value.str x t from r);subst e;exact Cr P w x t
theorem xW {P:Program}{w:World}:∀ {ks:List Key} {us:List Value},bK (ks.map kV) us->ItemsAre (bH P w) ks us
 | [],_,r=>by rw[ir] at r;cases r;exact .nil
 | k::ks,_,r=>by
  rw[au] at r
  cases r with
  | cons h t=>exact .cons (oE h) (xW t)
abbrev KT (H:Hp):List (List Key×V)->List (List Key×Addr×Value)->Prop:=Paired fun p q=>p.1=q.1∧H q.2.1=some (.tup (p.1.map kV))∧bG p.2 q.2.2
theorem KT.val {H:Hp}{kvs:List (List Key×V)}{xs:List (List Key×Addr×Value)}(r:KT H kvs xs)(k:List Key):jM (dR kvs k) ((atKey xs k).map (·.2)):=by
 induction r with
 | nil=>exact True.intro
 | @cons p q ps qs h t ih =>
  obtain⟨h1,_,h2⟩:=h;by_cases e:p.1=k
  ·have e':q.1=k:=h1.symm.trans e
   have b:atKey (q::qs) k=some q.2:=by simp[atKey,i0,e']
   rw[dA e,b];exact h2
  ·have e':¬ q.1=k:=fun z=>e (h1.trans z)
   have b:atKey (q::qs) k=atKey qs k:=by simp[atKey,i0,e']
   rw[cV e,b];exact ih
theorem KT.repl {H:Hp}{kvs:List (List Key×V)}{xs:List (List Key×Addr×Value)}(r:KT H kvs xs)(k:List Key){y:V}{u:Value}(ry:bG y u) :
  KT H (kvs.map fun kv=>if kv.1=k then (kv.1,y) else kv) (xs.map (putAt k u)):=by
 induction r with
 | nil=>exact .nil
 | @cons p q ps qs h t ih =>
  rw[au,au];refine .cons ?_ ih;obtain⟨h1,h2,h3⟩:=h;unfold putAt;by_cases e:p.1=k
  ·rw[if_pos e,if_pos (h1.symm.trans e)];exact⟨h1,h2,ry⟩
  ·rw[if_neg e,if_neg (fun z=>e (h1.trans z))];exact⟨h1,h2,h3⟩
theorem KT.put {H:Hp}{kvs:List (List Key×V)}{xs:List (List Key×Addr×Value)}(r:KT H kvs xs)(k:List Key){b:Addr}{y:V}{u:Value}(hb:H b=some (.tup (k.map kV)))(ry:bG y u) :
  KT H (fU kvs k y) (storedH xs k b u):=by
 have e:(kvs.any fun kv=>decide (kv.1=k))=(atKey xs k).isSome:=by
  rw[nT,(r.val k).isSome_eq,m8]
 unfold fU storedH;rw[e];by_cases q:(atKey xs k).isSome=true
 ·rw[if_pos q,if_pos q];exact r.repl k ry
 ·rw[if_neg q,if_neg q];exact Paired.snoc r ⟨rfl,hb,ry⟩
theorem KT.keeps {H H':Hp}{kvs:List (List Key×V)}{xs:List (List Key×Addr×Value)}(r:KT H kvs xs)(ht:∀ b ys,H b=some (.tup ys)->H' b=some (.tup ys)):KT H' kvs xs :=
 Paired.mapP r fun _ _ z=>⟨z.1,ht _ _ z.2.1,z.2.2⟩
section
variable {P:Program}{w:World}{H:Hp}{h:Heap}{a:Addr}
theorem Tn {u:HO}(ok:HOk P w H h)(e:Rd H a u):dB P w H h a u:=e.ok ok
theorem uQ {kvs:List (Key×V)}(ok:HOk P w H h)(e:Rd H a (.dK kvs)):kvs.length<=sizeLine∧(a==sysModules)=false∧∃ vs,KV kvs vs∧h.DictOf (bH P w) a vs :=
 show dB P w H h a (.dK kvs) from Tn ok e
theorem oB {kvs:List (Key×V)}(ok:HOk P w H h)(e:H a=some (.dK kvs)):kvs.length<=sizeLine∧(a==sysModules)=false∧∃ vs,KV kvs vs∧h.DictOf (bH P w) a vs:=uQ ok (.inl e)
theorem tP {ks:List Key}(ok:HOk P w H h)(e:H a=some (.tup (ks.map kV))):(tupleKind (bH P w)).is h ks a:=by
 obtain⟨_,its,r,o,h1,h2,n,h3⟩:=(show dB P w H h a (.tup (ks.map kV)) from ok a _ e);exact⟨o,its.toArray,n,h1,h2,h3,by simpa using xW r⟩
theorem xJ {kvs:List (List Key×V)}(ok:HOk P w H h)(e:Rd H a (.dT kvs)):kvs.length<=sizeLine∧(a==sysModules)=false ∧
  ∃ xs,KT H kvs xs∧h.DictOfH (tupleKind (bH P w)) a xs:=by
 obtain⟨z,y,xs,r,o,es,ep,h1,h2,h3,h4,h5⟩:=(show dB P w H h a (.dT kvs) from Tn ok e);refine⟨z,y,xs,r,o,es,ep,h1,h2,h3,h4,fun x hx=>?_,h5⟩;have all:∀ {l:List (List Key×V)} {m:List (List Key×Addr×Value)},KT H l m->∀ x∈m,(tupleKind (bH P w)).is h x.1 x.2.1:=by
  intro l m q
  induction q with
  | nil=>intro x hx;exact nomatch hx
  | @cons p q ps qs hq t ih =>
   intro x hx;rcases aw.mp hx with e | hx
   ·subst e
    exact tP ok (by rw[<- hq.1];exact hq.2.1)
   ·exact ih x hx
 exact all r x hx
theorem Xg {kvs:List (List Key×V)}(ok:HOk P w H h)(e:H a=some (.dT kvs)):kvs.length<=sizeLine∧(a==sysModules)=false ∧
 ∃ xs,KT H kvs xs∧h.DictOfH (tupleKind (bH P w)) a xs:=xJ ok (.inl e)
end
def iR (H:Hp)(a:Addr)(y:V)(r:Option V):Prop :=
 (∃ kvs k,Rd H a (.dK kvs)∧y=kV k∧r=dR kvs k)∨∃ kvs k b,Rd H a (.dT kvs)∧y = .ref b∧H b=some (.tup (k.map kV))∧r=dR kvs k
def oU (H:Hp)(a:Addr)(y v:V)(H':Hp):Prop :=
 (∃ kvs k,H a=some (.dK kvs)∧y=kV k∧kvs.length<sizeLine∧H'=upd H a (.dK (fU kvs k v))) ∨
 ∃ kvs k b,H a=some (.dT kvs)∧y = .ref b∧H b=some (.tup (k.map kV))∧kvs.length<sizeLine∧H'=upd H a (.dT (fU kvs k v))
theorem iR.k {H:Hp}{a:Addr}{kvs:List (Key×V)}{k:Key}(e:H a=some (.dK kvs)):iR H a (kV k) (dR kvs k):=.inl ⟨kvs,k,.inl e,rfl,rfl⟩
theorem oU.k {H:Hp}{a:Addr}{kvs:List (Key×V)}{k:Key}{v:V}(e:H a=some (.dK kvs))(hl:kvs.length<sizeLine):oU H a (kV k) v (upd H a (.dK (fU kvs k v))):=.inl ⟨kvs,k,e,rfl,hl,rfl⟩
section
variable {X:Cx}{pins:List (Addr×Obj)}{σ:St}{H:Hp}{s:Shared}{a:Addr}{y v:V}{u r:Value}{o:Option V}{A:Around}{E:Value->Shared->Prop}
theorem Inv.big (I:Inv X pins σ H s):sysModules<s.heap.objs.size:=by
 have h:mainGlobals<s.heap.objs.size:=(I.mod.glob.keeps I.bk).lt;exact rg (by decide) h
theorem Ky {Q:Value->Shared->Prop}(hu:A.units+1<cLine)(I:Inv X pins σ H s)(g:iR H a y (some v))(ry:bG y u)(h:∀ w' s',Inv X pins σ H s'->bG v w'->Q w' s') :
  wpAny (model X.prog X.w) A (getItem (.ref a) u) Q E s:=by
 rcases g with ⟨kvs,k,e,ey,l⟩ | ⟨kvs,k,b,e,ey,eb,l⟩
 ·subst ey
  obtain⟨z,hd,vs,rel,dd⟩:=uQ I.hok e;obtain⟨w',hw,rw'⟩:=jM.some_of (v:=v) (o:=valueAt vs k) (by rw[l];exact rel.val k);exact wpAny_getItem_of (oE ry) dd.mapOf hw (h w' _ (I.tok _) rw')
 ·subst ey
  cases (show u=Value.ref b from ry);obtain⟨z,hd,xs,rel,dd⟩:=xJ I.hok e;obtain⟨w',hw,rw'⟩:=jM.some_of (v:=v) (o:=(atKey xs k).map (·.2)) (by rw[l];exact rel.val k);obtain⟨p,hp,hp2⟩:=bj.mp hw;refine wpAny_getItem_heap (tupleKind_room_in1 hu) (tP I.hok eb) dd hp ?_;rw[hp2];exact h w' _ (I.tok _) rw'
theorem Zw {Q:Value->Shared->Prop}(hu:A.units+1<cLine)(I:Inv X pins σ H s)(g:iR H a y o)(ry:bG y u)(h:∀ s',Inv X pins σ H s'->Q (.bool o.isSome) s') :
  wpAny (model X.prog X.w) A (compareOp .In u (.ref a)) Q E s:=by
 rcases g with ⟨kvs,k,e,ey,l⟩ | ⟨kvs,k,b,e,ey,eb,l⟩
 ·subst ey
  obtain⟨z,hd,vs,rel,dd⟩:=uQ I.hok e;refine wpAny_in_of (oE ry) hd dd.mapOf ?_;rw[<- (rel.val k).isSome_eq,<- l];exact h _ (I.tok _)
 ·subst ey
  cases (show u=Value.ref b from ry);obtain⟨z,hd,xs,rel,dd⟩:=xJ I.hok e;refine wpAny_in_heap (tupleKind_room_in1 hu) (tP I.hok eb) hd dd ?_;have q:=(rel.val k).isSome_eq;rw[m8] at q;rw[<- q,<- l];exact h _ (I.tok _)
theorem Sk {Q:Value->Shared->Prop}(hu:A.units+1<cLine)(I:Inv X pins σ H s)(g:iR H a y o)(ry:bG y u)(h:∀ s',Inv X pins σ H s'->Q (.bool (!o.isSome)) s') :
  wpAny (model X.prog X.w) A (compareOp .NotIn u (.ref a)) Q E s:=by
 rcases g with ⟨kvs,k,e,ey,l⟩ | ⟨kvs,k,b,e,ey,eb,l⟩
 ·subst ey
  obtain⟨z,hd,vs,rel,dd⟩:=uQ I.hok e;refine wpAny_notIn_of (oE ry) hd dd.mapOf ?_;rw[<- (rel.val k).isSome_eq,<- l];exact h _ (I.tok _)
 ·subst ey
  cases (show u=Value.ref b from ry);obtain⟨z,hd,xs,rel,dd⟩:=xJ I.hok e;refine wpAny_notIn_heap (tupleKind_room_in1 hu) (tP I.hok eb) hd dd ?_;have q:=(rel.val k).isSome_eq;rw[m8] at q;rw[<- q,<- l];exact h _ (I.tok _)
theorem nL {h':Heap}{t':Nat}{ob:HO}(I:Inv X pins σ H s)(mu:Mut (H a))(hs:Heap.SameBut a s.heap h')(he:∃ q,h'.get? a=some q)(new:dB X.prog X.w (upd H a ob) h' a ob) :
  Inv X pins σ (upd H a ob) { s with heap:=h',toks:=t' } :=
 I.write (x:=a) (e:=a) mu (.inl rfl) (fun b q hb z=>(hs.2 b hb).trans z) he new
theorem zE {P:Program}{w:World}{H':Hp}{h':Heap}{kvs:List (Key×V)}{vs:List (Key×Value)}(z:kvs.length<=sizeLine)(hd:(a==sysModules)=false)(rel:KV kvs vs)(dd:h'.DictOf (bH P w) a vs) :
 dB P w H' h' a (.dK kvs):=⟨z,hd,vs,rel,dd⟩
theorem Kk {H':Hp}{Q:Unit->Shared->Prop}(hu:A.units+1<cLine)(I:Inv X pins σ H s)(g:oU H a y v H')(ry:bG y u)(rv:bG v r)(h:∀ s',Inv X pins σ H' s'->Q () s') :
  wpAny (model X.prog X.w) A (setItem (.ref a) u r) Q E s:=by
 rcases g with ⟨kvs,k,e,ey,l,eH⟩ | ⟨kvs,k,b,e,ey,eb,l,eH⟩
 ·subst ey eH
  obtain⟨z,hd,vs,rel,dd⟩:=oB I.hok e;have hz:vs.length<=sizeLine:=by rw[<- rel.length];exact z
  have hl:(fU kvs k v).length<=sizeLine:=by have:=jB kvs k v;omega
  refine wpAny_setItem_pairs (hsz:=hz) (oE ry) dd fun h' dd' hs=>h _ ?_
  have he:∃ q,h'.get? a=some q:=let ⟨q,_,_,hq,_⟩:=dd';⟨q,hq⟩
  exact nL I (by rw[e];exact True.intro) hs he (zE hl hd (rel.put k rv) dd')
 ·subst ey eH
  cases (show u=Value.ref b from ry);obtain⟨z,hd,xs,rel,dd⟩:=Xg I.hok e;have hz:xs.length<=sizeLine:=by rw[<- Paired.length rel];exact z
  have hl:(fU kvs k v).length<=sizeLine:=by have:=jB kvs k v;omega
  refine wpAny_setItem_heap (hsz:=hz) (tupleKind_room_in1 hu) (tP I.hok eb) dd fun h' dd' hs=>h _ ?_
  obtain⟨q,es,ep,hq,h2,h3,h4,_,h5⟩:=dd';refine nL I (by rw[e];exact True.intro) hs ⟨q,hq⟩ ⟨hl,hd,_,(rel.put k eb rv).keeps fun c ys ec=>?_,q,es,ep,hq,h2,h3,h4,h5⟩;rw[aG (Xn ec e (fun z=>nomatch z))];exact ec
end
section
variable {X:Cx}{pins:List (Addr×Obj)}{σ:St}{H:Hp}{s:Shared}{a:Addr}{kvs:List (Key×V)}{k:Key}{u:Value}{A:Around}{E:Value->Shared->Prop}
theorem Xq {v:V}{more:List Value}{Q:Value->Shared->Prop}(I:Inv X pins σ H s)(e:H a=some (.dK kvs))(ry:bG (kV k) u)(l:dR kvs k=some v)(hm:more=[]∨∃ x,more=[x])
  (h:∀ w' s',Inv X pins σ (upd H a (.dK (vF kvs k))) s'->bG v w'->Q w' s'):wpAny (model X.prog X.w) A (call (.builtin "dict.pop") (.ref a::u::more)) Q E s:=by
 obtain⟨z,hd,vs,rel,dd⟩:=oB I.hok e;obtain⟨w',hw,rw'⟩:=jM.some_of (v:=v) (o:=valueAt vs k) (by rw[<- l];exact rel.val k);have hp:(keyPart u).isSome=true:=by
  cases k with
  | inl i=>obtain⟨t,q⟩:=(show ∃ t,u=Value.int i t from ry);subst q;rfl
  | inr x=>obtain⟨t,q⟩:=(show ∃ t,u=Value.str x t from ry);subst q;rfl
 have ha:argsOk "dict.pop" ⟨.ref a::u::more,[]⟩:=by
  rcases hm with q | ⟨x,q⟩
  ·subst q;exact PySem.F.args_dict_pop_2 _ _
  ·subst q;exact nw _ _ _
 refine call_meetsIn lg dd.typeIs oj ha (meets_dict_pop_there (bH X.prog X.w) a (oE ry) more hm hp)
  ⟨vs,w',dd,by rw[<- rel.length];exact z,hw,fun h' dd' hs=>h w' _ ?_ rw'⟩
 have he:∃ q,h'.get? a=some q:=let ⟨q,_,_,hq,_⟩:=dd';⟨q,hq⟩
 exact nL I (by rw[e];exact True.intro) hs he (zE (az (Pj kvs k) z) hd (rel.drop k) dd')
theorem Wj {r:Value}{Q:Value->Shared->Prop}(I:Inv X pins σ H s)(e:H a=some (.dK kvs))(ry:bG (kV k) u)(l:dR kvs k=none)(h:∀ s',Inv X pins σ H s'->Q r s') :
  wpAny (model X.prog X.w) A (call (.builtin "dict.pop") [.ref a,u,r]) Q E s:=by
 obtain⟨z,hd,vs,rel,dd⟩:=oB I.hok e;have hn:valueAt vs k=none:=jM.none_of (by rw[<- l];exact rel.val k);have hp:(keyPart u).isSome=true:=by
  cases k with
  | inl i=>obtain⟨t,q⟩:=(show ∃ t,u=Value.int i t from ry);subst q;rfl
  | inr x=>obtain⟨t,q⟩:=(show ∃ t,u=Value.str x t from ry);subst q;rfl
 exact call_meetsIn lg dd.typeIs oj (nw _ _ _) (meets_dict_pop_default (bH X.prog X.w) a (oE ry) hd hp r) ⟨vs,dd,hn,h _ (I.tok _)⟩
theorem Zd {Q:Value->Shared->Prop}(I:Inv X pins σ H s)(e:Rd H a (.dK kvs))(h:∀ t s',Inv X pins σ H s'->Q (.int kvs.length t) s'):wpAny (model X.prog X.w) A (call (.builtin "len") [.ref a]) Q E s:=by
 obtain⟨z,hd,vs,rel,dd⟩:=uQ I.hok e;refine call_len_dict hd dd (by rw[<- rel.length];rw[sizeLine_eq] at z;omega) ?_;rw[<- rel.length];exact h _ _ (I.tok _)
end
def Xy (i:Expr):Prop:=∀ ov iv,subscripted i false ov iv=operate [ov,iv] (getItem ov iv)
theorem Rt {prog:Program}{w:World}{A:Around}{E:Value->Shared->Prop}{s:Shared}{env:Env}{value slice:Expr}{pos:Pos}{T id:String}{Q:Value->Shared->Prop}
  (hl:typeLookup (.type T) "__getitem__" = pure (some (.builtin id))) (hs:Xy slice)
  (h:wpAny (model prog w) A (eval value env) (fun o s₁=>wpAny (model prog w) A (eval slice env) (fun i s₂=>s₂.TypeIs o T∧wpAny (model prog w) A (getItem o i) Q E s₂) E s₁) E s) :
  wpAny (model prog w) A (eval (.Subscript value slice pos) env) Q E s:=by
 refine Subscript_ (wpAny_mono h (fun o s₁ h₁=>wpAny_mono h₁ (fun i s₂ h₂=>?_) fun _ _ x=>x) fun _ _ x=>x);obtain⟨hT,h₂⟩:=h₂;unfold subscriptTail;refine wpAny_bind ?_;rw[getitemInPython_of_ne hT.not_modules];refine wpAny_bind (wpAny_specialOf hT hl ?_);have fin:wpAny (model prog w) A (subscripted slice false o i) (fun r s₃=>wpAny (model prog w) A (letTemporaryGo value o r >>= fun _=>pure r) Q E s₃) E s₂:=by
  rw[hs o i];exact wpAny_operating (wpAny_mono h₂ (fun r s₃ h₃=>wpAny_bind (wpAny_letTemporaryGo (wpAny_pure h₃))) fun _ _ x=>x)
 first
  | exact wpAny_pure (wpAny_bind fin)
  | exact wpAny_bind (wpAny_pure (wpAny_bind fin))
  | exact wpAny_bind fin
theorem Cm {X:Cx}{pins:List (Addr×Obj)}{σ:St}{H:Hp}{s:Shared}{a:Addr}{y:V}{o:Option V}(I:Inv X pins σ H s)(g:iR H a y o):s.TypeIs (.ref a) "dict" := by
 rcases g with ⟨kvs,k,e,_,_⟩ | ⟨kvs,k,b,e,_,_,_⟩
 ·obtain⟨_,_,vs,_,dd⟩:=uQ I.hok e
  exact dd.typeIs
 ·obtain⟨_,_,xs,_,dd⟩:=xJ I.hok e
  exact dd.typeIs
def Yx (td ty:TE):TE:=fun σ H Q=>td σ H fun x H1=>ty σ H1 fun y H2=>∃ a v,x = .ref a∧iR H2 a y (some v)∧Q v H2
def Zl (ty td:TE):TE:=fun σ H Q=>ty σ H fun y H1=>td σ H1 fun x H2=>∃ a o,x = .ref a∧iR H2 a y o∧Q (.bl o.isSome) H2
def Ro (ty td:TE):TE:=fun σ H Q=>ty σ H fun y H1=>td σ H1 fun x H2=>∃ a o,x = .ref a∧iR H2 a y o∧Q (.bl (!o.isSome)) H2
def Ys (td ty tv:TE):TS:=fun D σ H=>tv σ H fun v H1=>td σ H1 fun x H2=>ty σ H2 fun y H3=>∃ a H4,x = .ref a∧oU H3 a y v H4∧D.nx σ H4
section
variable {X:Cx}{o i e value:Expr}{pos pos' tpos:Pos}{td ty tv:TE}
theorem oR (hu:X.A.units+1<cLine)(ho:PE X o td)(hi:PE X i ty)(hs:Xy i):PE X (.Subscript o i pos) (Yx td ty):=by
 intro pins s σ H Q I h;refine Rt PySem.F.slot_dict_getitem.lookup hs (thn (ho pins s σ H _ I h) fun u s1 ⟨x,H1,I1,rx,q1⟩=>thn (hi pins s1 σ H1 _ I1 q1) fun iv s2 ⟨y,H2,I2,ry,a,v,ex,g,q2⟩=>?_);subst ex;obtain rfl:u=Value.ref a:=rx;exact⟨Cm I2 g,Ky hu I2 g ry fun w' s3 I3 rw'=>⟨v,H2,I3,rw',q2⟩⟩
theorem sW (hu:X.A.units+1<cLine)(hi:PE X i ty)(ho:PE X o td):PC X .In i o (Zl ty td):=by
 intro pins s σ H Q I h;refine thn (hi pins s σ H _ I h) fun iv s1 ⟨y,H1,I1,ry,q1⟩=>thn (ho pins s1 σ H1 _ I1 q1) fun u s2 ⟨x,H2,I2,rx,a,ov,ex,g,q2⟩=>?_
 subst ex;obtain rfl:u=Value.ref a:=rx;exact Zw hu I2 g ry fun s3 I3=>⟨.bl ov.isSome,H2,I3,rfl,q2⟩
theorem yB (hu:X.A.units+1<cLine)(hi:PE X i ty)(ho:PE X o td):PC X .NotIn i o (Ro ty td):=by
 intro pins s σ H Q I h;refine thn (hi pins s σ H _ I h) fun iv s1 ⟨y,H1,I1,ry,q1⟩=>thn (ho pins s1 σ H1 _ I1 q1) fun u s2 ⟨x,H2,I2,rx,a,ov,ex,g,q2⟩=>?_
 subst ex;obtain rfl:u=Value.ref a:=rx;exact Sk hu I2 g ry fun s3 I3=>⟨.bl (!ov.isSome),H2,I3,rfl,q2⟩
theorem lS (hu:X.A.units+1<cLine)(ho:PE X o td)(hi:PE X i ty)(hv:PE X value tv)(hs:swapsWith value (some (.Subscript o i pos')) pos.line X.env=pure false) :
  PS X (.Assign [.Subscript o i pos'] value pos) (Ys td ty tv):=by
 intro pins s σ H D I h;refine wpAny_Assign_Subscript (thn (hv pins s σ H _ I h) fun r s1 ⟨v,H1,I1,rv,q1⟩=>thn (ho pins s1 σ H1 _ I1 q1) fun u s2 ⟨x,H2,I2,rx,q2⟩=>thn (hi pins s2 σ H2 _ I2 q2) fun iv s3 ⟨y,H3,I3,ry,a,H4,ex,g,q3⟩=>?_) hs;subst ex;obtain rfl:u=Value.ref a:=rx;exact Kk hu I3 g ry rv fun s4 I4=>⟨σ,H4,I4,q3⟩
end
theorem Dd {P:Program}{w:World}{H:Hp}(h:Heap)(hb:sysModules<h.objs.size):dB P w H (h.push { cls:=.type "dict",data:=.dict #[] }) h.objs.size (.dK []) :=
 ⟨b9 _,beq_eq_false_iff_ne.mpr (Ne.symm (a9 hb)),[],.nil,Heap.DictOf.new h⟩
def We:TE:=fun _ H Q=>∀ p,H p=none->Q (.ref p) (upd H p (.dK []))
section
variable {X:Cx}{pos:Pos}
theorem uW:PE X (.Dict [] [] pos) We:=fun pins s σ H Q I h =>
 wpAny_Dict_empty ⟨.ref s.heap.objs.size,_,I.laid (a:=s.heap.objs.size) (o:=.dK []) (t':=s.toks) (fun _ _ q=>Heap.get?_push_of_some _ q) (ah _) (Dd s.heap I.big),rfl,h _ (I.hok.fresh (ah _))⟩
end
def Au:List (TE×TE)->St->Hp->(List (V×V)->Hp->Prop)->Prop
 | [],_,H,Q=>Q [] H
 | (tk,tv)::r,σ,H,Q=>tk σ H fun x H1=>tv σ H1 fun y H2=>Au r σ H2 fun ps H3=>Q ((x,y)::ps) H3
abbrev VV:List (V×V)->List (Value×Value)->Prop:=Paired fun p q=>bG p.1 q.1∧bG p.2 q.2
def PPs (X:Cx)(pos:Pos)(keys:List (Option Expr))(values:List Expr)(trs:List (TE×TE)):Prop :=
 ∀ (pins:List (Addr×Obj)) (s:Shared) (σ:St) (H:Hp) (Q:List (V×V)->Hp->Prop),Inv X pins σ H s->Au trs σ H Q ->
  wpAny (model X.prog X.w) X.A (evalPairs (pairTrees keys values X.env pos)) (fun vs s'=>∃ ps H',Inv X pins σ H' s'∧VV ps vs∧Q ps H') X.xe s
theorem Jc {X:Cx}{pos:Pos}:PPs X pos [] [] []:=fun pins s σ H Q I h=>pairTrees_nil_walk ⟨[],H,I,.nil,h⟩
theorem Bn {X:Cx}{pos:Pos}{k v:Expr}{ks:List (Option Expr)}{vs:List Expr}{tk tv:TE}{trs:List (TE×TE)}(hk:PE X k tk)(hv:PE X v tv)(hr:PPs X pos ks vs trs) :
  PPs X pos (some k::ks) (v::vs) ((tk,tv)::trs):=fun pins s σ H Q I h =>
 pairTrees_cons_walk (thn (hk pins s σ H _ I h) fun u s1 ⟨x,H1,I1,rx,q1⟩=>thn (hv pins s1 σ H1 _ I1 q1) fun w2 s2 ⟨y,H2,I2,ry,q2⟩ =>
  thn (hr pins s2 σ H2 _ I2 q2) fun ws s3 ⟨ps,H3,I3,rel,q3⟩=>⟨(x,y)::ps,H3,I3,.cons ⟨rx,ry⟩ rel,q3⟩)
def mS (kvs more:List (Key×V)):List (Key×V):=more.foldl (fun acc kv=>fU acc kv.1 kv.2) kvs
theorem KV.merge:∀ {more:List (Key×V)} {rs:List (Key×Value)} {kvs:List (Key×V)} {vs:List (Key×Value)},KV more rs->KV kvs vs->KV (mS kvs more) (merged vs rs):=by
 intro more rs kvs vs r;unfold KV at r
 induction r generalizing kvs vs with
 | nil=>intro q;exact q
 | @cons p q ps qs h t ih =>
  intro r0;have e:KV (fU kvs p.1 p.2) (stored vs q.1 q.2):=by
   have:=r0.put p.1 h.2
   rw[<- h.1];exact this
  exact ih e
theorem mL:∀ (more kvs:List (Key×V)),(mS kvs more).length<=kvs.length+more.length
 | [],kvs=>by show kvs.length<=kvs.length+0;omega
 | p::r,kvs=>by
  have h1:=mL r (fU kvs p.1 p.2);have h2:=jB kvs p.1 p.2;show (mS (fU kvs p.1 p.2) r).length<=_;rw[av];omega
theorem tL {P:Program}{w:World}:∀ {kvs:List (Key×V)} {ws:List (Value×Value)},VV (kvs.map fun kv=>(kV kv.1,kv.2)) ws->∃ rs,Carries (bH P w) ws rs∧KV kvs rs
 | [],_,r=>by rw[ir] at r;cases r;exact⟨[],True.intro,.nil⟩
 | p::kvs,_,r=>by
  rw[au] at r
  cases r with
  | @cons a b as bs h t =>
   obtain⟨rs,c,q⟩:=tL (P:=P) (w:=w) t;obtain⟨b1,b2⟩:=b;exact⟨(p.1,b2)::rs,⟨oE h.1,rfl,c⟩,.cons ⟨rfl,h.2⟩ q⟩
def Xe (trs:List (TE×TE)):TE:=fun σ H Q=>∀ p,H p=none->Au trs σ (upd H p (.dK [])) fun ps H2=>H2 p=some (.dK [])∧∃ kvs:List (Key×V),ps=kvs.map (fun kv=>(kV kv.1,kv.2))∧kvs.length<=15∧Q (.ref p) (upd H2 p (.dK (mS [] kvs)))
theorem Hr {X:Cx}{pos:Pos}{keys:List (Option Expr)}{values:List Expr}{trs:List (TE×TE)}(h:PPs X pos keys values trs)(hall:keys.all (·.isSome)=true)(hl:keys.length=values.length)(h0:keys≠[])
  (h15:keys.length<=15):PE X (.Dict keys values pos) (Xe trs):=by
 intro pins s σ H Q I q;have hn:=I.hok.fresh (ah s.heap.objs.size);have I1:=I.laid (a:=s.heap.objs.size) (o:=.dK []) (h':=s.heap.push { cls:=.type "dict",data:=.dict #[] }) (t':=s.toks) (fun _ _ q=>Heap.get?_push_of_some _ q) (ah _) (Dd s.heap I.big)
 refine wpAny_Dict_walk (knd:=bH X.prog X.w) hall hl h0 h15 (thn (h pins _ σ _ _ I1 (q _ hn)) fun ws s2 ⟨ps,H2,I2,rel,e,kvs,ep,lk,q2⟩=>?_);subst ep;obtain⟨rs,c,rk⟩:=tL (P:=X.prog) (w:=X.w) rel;obtain⟨z,hd,vs0,r0,dd⟩:=oB I2.hok e;cases r0;refine⟨rs,c,dd,fun h' dd' hs=>⟨.ref s.heap.objs.size,_,?_,rfl,q2⟩⟩;have hz:(mS [] kvs).length<=sizeLine:=by
  have h1:=mL kvs [];rw[ku] at h1;rw[sizeLine_eq];omega
 have he:∃ q,h'.get? s.heap.objs.size=some q:=let ⟨q,_,_,hq,_⟩:=dd';⟨q,hq⟩
 exact nL I2 (by rw[e];exact True.intro) hs he (zE hz hd (rk.merge .nil) dd')
structure M1 (X:Cx)(o:Expr)(m:Str)(apos:Pos)(e:Expr)(cpos:Pos):Prop where
 base:attributeBase o m X.env (eval o X.env)=eval o X.env
 few:((backTo cpos (starEach [e] X.env)).all (fun x=>!x.1)&&(backToKw cpos (keywordEach [] X.env)).all (fun x=>x.1.isSome)
  && decide (([e]:List Expr).length+([]:List Keyword).length+(if ([]:List Keyword).isEmpty then 0 else 1)<30))=true
 line:(apos.endLine==cpos.line)=true
 trees:backTo cpos (starEach [e] X.env)=[(false,eval e X.env)]
structure M2 (X:Cx)(o:Expr)(m:Str)(apos:Pos)(e f:Expr)(cpos:Pos):Prop where
 base:attributeBase o m X.env (eval o X.env)=eval o X.env
 few:((backTo cpos (starEach [e,f] X.env)).all (fun x=>!x.1)&&(backToKw cpos (keywordEach [] X.env)).all (fun x=>x.1.isSome)
  && decide (([e,f]:List Expr).length+([]:List Keyword).length+(if ([]:List Keyword).isEmpty then 0 else 1)<30))=true
 line:(apos.endLine==cpos.line)=true
 trees:backTo cpos (starEach [e,f] X.env)=[(false,eval e X.env),(false,eval f X.env)]
def IsD (H:Hp)(a:Addr):Prop:=(∃ kvs,Rd H a (.dK kvs))∨∃ kvs,Rd H a (.dT kvs)
theorem Um {X:Cx}{pins:List (Addr×Obj)}{σ:St}{H:Hp}{s:Shared}{a:Addr}(I:Inv X pins σ H s)(d:IsD H a) :
  s.TypeIs (.ref a) "dict" ∧ (∀ b,Value.ref a = .ref b->∃ ob,s.heap.get? b=some ob∧ob.dict=none)∧(a==sysModules)=false:=by
 rcases d with ⟨kvs,e⟩ | ⟨kvs,e⟩
 ·obtain⟨_,hd,vs,_,dd⟩:=uQ I.hok e
  refine⟨dd.typeIs,fun b q=>?_,hd⟩;cases q;obtain⟨ob,_,_,h1,h2,_⟩:=dd;exact⟨ob,h1,h2.2.1⟩
 ·obtain⟨_,hd,xs,_,dd⟩:=xJ I.hok e
  refine⟨dd.typeIs,fun b q=>?_,hd⟩;cases q;obtain⟨ob,_,_,h1,h2,_⟩:=dd;exact⟨ob,h1,h2.2.1⟩
section
variable {X:Cx}{pins:List (Addr×Obj)}{σ:St}{H:Hp}{s:Shared}{a:Addr}{y d:V}{u r:Value}{o:Option V}{A:Around}{E:Value->Shared->Prop}
end
def Wr (td ty tx:TE):TE:=fun σ H Q=>td σ H fun x H1=>∃ a,x = .ref a∧IsD H1 a∧ty σ H1 fun y H2=>tx σ H2 fun z H3=>∃ kvs k,H3 a=some (.dK kvs)∧y=kV k ∧
 (∀ v,dR kvs k=some v->Q v (upd H3 a (.dK (vF kvs k))))∧(dR kvs k=none->Q z H3)
section
variable {X:Cx}{o e f:Expr}{apos cpos:Pos}{td ty tx:TE}
theorem Ng (ho:PE X o td)(he:PE X e ty)(hf:PE X f tx)(m:M2 X o "pop" apos e f cpos):PE X (.Call (.Attribute o "pop" apos) [e,f] [] cpos) (Wr td ty tx):=by
 intro pins s σ H Q I h;refine wpAny_Call_method m.base m.few m.line nz lg PySem.F.type_dict_pop (thn (ho pins s σ H _ I h) fun u s1 ⟨x,H1,I1,rx,a,ex,d,q1⟩=>?_);subst ex;obtain rfl:u=Value.ref a:=rx;obtain⟨t1,t2,_⟩:=Um I1 d;refine⟨t1,t2,?_⟩;rw[m.trees];refine Calls.callWith_builtin rfl (Calls.evalArgs_plain (Calls.spliced_cons (thn (he pins s1 σ H1 _ I1 q1) fun iv s2 ⟨y,H2,I2,ry,q2⟩ =>
  Calls.spliced_cons (thn (hf pins s2 σ H2 _ I2 q2) fun fv s3 ⟨z,H3,I3,rz,kvs,k,ea,ey,q3,q4⟩=>Calls.spliced_nil ?_))))
 subst ey
 cases l:dR kvs k with
 | some v=>exact Xq I3 ea ry l (.inr ⟨fv,rfl⟩) fun w' s4 I4 rw'=>⟨v,_,I4,rw',q3 v l⟩
 | none=>exact Wj I3 ea ry l fun s4 I4=>⟨z,H3,I4,rz,q4 l⟩
end
section
variable {X:Cx}{pins:List (Addr×Obj)}{σ:St}{H:Hp}{s:Shared}{a:Addr}{kvs:List (Key×V)}{A:Around}{E:Value->Shared->Prop}
end
section
variable {X:Cx}{pins:List (Addr×Obj)}{σ:St}{H:Hp}{s:Shared}{a:Addr}{y:V}{u:Value}{A:Around}{E:Value->Shared->Prop}
end
end L2
namespace Att
open PySem PySem.W PySem.Calls PyProof.Rows
section
variable {prog:Program}{w:World}{A:Around}{E:Value->Shared->Prop}{s:Shared}{K:Frag}
end
end Att
namespace L2
open PySem PySem.Spec PyProof.Rows
section
variable {P:Program}{w:World}{K:af}{mg:Str->Option Value}{base:Heap}
end
section
variable {X:Cx}
theorem mG:fC X (.builtin "len") (fun xs H Q=>∃ a kvs,xs=[V.ref a]∧H a=some (.dK kvs)∧Q (.int kvs.length) H):=by
 intro pins s σ H xs us Q I r h;obtain⟨a,kvs,rfl,ha,q⟩:=h;obtain⟨u,rfl,ru⟩:=gH r;cases ru;exact Zd I (.inl ha) fun t s' I'=>⟨.int kvs.length,H,I',⟨t,rfl⟩,q⟩
end
section
variable {κ:Type}[DecidableEq κ]
end
namespace RT
def obj (x:Str)(t:Tok)(i:Int):Obj:={ cls:=.type "reversed",data:=.fields #[.str x t,rawInt i] }
def Is (h:Heap)(a:Addr)(x:Str)(t:Tok)(i:Int):Prop:=∃ o,h.get? a=some o∧o.cls = .type "reversed" ∧ o.data = .fields #[.str x t,rawInt i]
section
variable {prog:Program}{w:World}{A:Around}{E:Value->Shared->Prop}{s:Shared}
end
end RT
section
variable {X:Cx}
end
structure Cam (P:Program)(w:World)(K:af)(mg:Str->Option Value)(base:Heap)(CX:CXT)(x:Str)(C:Addr)(k:Nat)(ps:List Str)(sp:Sp):Prop where
 ex:∃ (f:Addr) (fd:FuncData),bN P w K mg base CX k f fd ps sp∧Mk K C f∧mg x=some (.ref C)∧jQ K fd ps []
section
variable {X:Cx}
theorem Gj {CX:CXT}{x:Str}{C:Addr}{j k:Nat}{ps:List Str}{sp:Sp}{E:XK}{e:Expr}{es:List Expr}{t:TA}{p pos:Pos}(c:Cam X.prog X.w X.K X.mg X.base CX x C j ps sp)(hr:fT k X.A)(hx:hX CX X E)(ha:PA X (e::es) t)
  (hjk:j+1<=k:=by decide) (hg:Gl X x:=by rfl) (b1:(x==("__debug__" : Str))=false:=by decide) (b2:starEach (e::es) X.env=(false,eval e X.env)::starEach es X.env:=by rfl) (b3:(backTo pos (starEach es X.env)).any (·.1)=false:=by rfl) :
  PE X (.Call (.Name x p) (e::es) [] pos) (Tx C sp [] E t):=by
 obtain⟨f,fd,F,M,hm,hb⟩:=c.ex;exact Sv M F (hr.mono hjk) hg hm hb .nil hx ha b1 b2 b3
end
namespace SE
section
variable {prog:Program}{w:World}{A:Around}{E:Value->Shared->Prop}{s:Shared}
theorem Ka {l:Addr}{its:Array Value}{ls:List (List Nat)}{Q:Value->Shared->Prop}(hh:A.handled=none)(hl:s.heap.IsTuple l its)(hv:∀ i v,its[i]?=some v->∃ t,v=Value.str (tx (ls.getD i [])) t)(hn:its.size+1<scanBound)
  (h:∀ (h':Heap) (tk:Nat),Has prog w h' s.heap.objs.size (eQ ls its.size)->(∀ b o,s.heap.get? b=some o->h'.get? b=some o)->Q (.ref s.heap.objs.size) { s with heap:=h',toks:=tk }) :
  wpAny (model prog w) A (call (.type "set") [.ref l]) Q E s:=by
 obtain⟨mc,mt,f0⟩:=F.called_set.mro;have f1:=F.called_set.made;have f2:=F.called_set.sub;have f3:=F.called_set.notType;have f4:=F.called_set.canCreate;have f5:=F.typeCall_set_1 (.ref l);refine wpAny_call (codeAny_of_tree (show wpAny _ _ (callAny (.type "set") _) _ _ _ from wpAny_pure ⟨Code.quiet_builtin _ (by decide +kernel),codeAny_builtin F.entry_type_call ?_⟩))
 rw[Around.under_plain (weight_type_call_type "set" [.ref l] []) rfl]
 repeat (any_goals (first | wp_step | assumption))
 refine codeAny_mono (code_set_new_1 (.ref l) (E:=E) (Q₁:=fun ob s1=>∃ b:Bool,ob = .ref s.heap.objs.size∧s1 = { s with heap:=s.heap.push { cls:=.type "set",dict:=none,data:=.set #[] 0 (.fresh 0 0 b) } }) fun b=>⟨b,rfl,rfl⟩) fun r s1 hr=>?_
 cases r with
 | error e=>exact hr
 | ok fl =>
  cases fl with
  | ret ob =>
   obtain⟨b,rfl,rfl⟩:=hr;generalize hob:({ cls:=.type "set",dict:=none,data:=.set #[] 0 (.fresh 0 0 b) }:Obj)=ob
   have hD:(s.heap.push ob).get? s.heap.objs.size=some ob:=Heap.get?_push_size _ (by rw[<- hob];rfl);have hT:Shared.TypeIs { s with heap:=s.heap.push ob } (.ref s.heap.objs.size) "set" := ⟨_,hD,by rw[<- hob]⟩
   have f6:=F.called_set.init.lookup;have f7:=F.called_set.init.bind (.ref s.heap.objs.size)
   repeat (any_goals (first | wp_step | assumption))
   refine codeAny_mono (codeAny_call_builtin (R:=wants (fun r s2=>r = .none∧∃ h' tk,s2 = { s with heap:=h',toks:=tk }∧Has prog w h' s.heap.objs.size (eQ ls its.size)∧∀ b o,s.heap.get? b=some o->h'.get? b=some o) E)
    F.called_set.init.plain F.entry_set_init (check_set_init_1 hT ?_)) fun r2 s2 hr2=>?_
   ·obtain⟨⟨oc,od,odt,osl⟩,hol,hcl,nl,hdl⟩:=id hl
    simp only at hcl hdl;subst hcl hdl;have hol':(s.heap.push ob).get? l=some { cls:=.type "tuple",dict:=od,data:=.seq its nl,slots:=osl }:=Heap.get?_push_of_some _ hol
    have f8:=F.sub_tuple_set;have f9:=F.sub_tuple_frozenset;have f10:(Value.type "tuple" == Value.type "dict")=false:=by decide
    have hl1:(s.heap.push ob).IsTuple l its:=⟨_,hol',rfl,nl,rfl⟩;subst hob;unfold Builtin.«set.__init__» noKeywords Builtin.Frozenset.updateFrom;generalize hPI:pyIter=PI
    wp_walk
    subst hPI;refine wpAny_pyIter_tuple hl1 ?_;refine wpAny_bind (wpAny_runValue ?_);have hlt:l<s.heap.objs.size:=Heap.lt_size hol;have hh3:A.in1.in1.in1.handled=none:=by simp[hh]
    have hsz:(s.heap.push { cls:=.type "set",dict:=none,data:=.set #[] 0 (.fresh 0 0 b) }).objs.size=s.heap.objs.size+1:=Heap.size_push _ _
    have hne:l≠(s.heap.push { cls:=.type "set",dict:=none,data:=.set #[] 0 (.fresh 0 0 b) }).objs.size:=by rw[hsz];exact a9 (fh hlt)
    have hfp:s.heap.objs.size∉[(s.heap.push { cls:=.type "set",dict:=none,data:=.set #[] 0 (.fresh 0 0 b) }).objs.size,l]:=by
     rw[hsz];intro z;rcases aw.mp z with e | e
     ·exact a9 (iu _) e
     ·exact g0 hlt (ax.mp e)
    refine loop ((Walks.tuple hh3 _ l hne its).toS) (D:=s.heap.objs.size) hfp ls hv hn (its.size-0) 0 _ (by omega) (b9 _) ⟨⟨_,Heap.get?_push_size _ rfl,rfl,rfl⟩,hl1.push _⟩ ?_ fun s3 mv x3=>?_
    ·have hg:((s.heap.push { cls:=.type "set",dict:=none,data:=.set #[] 0 (.fresh 0 0 b) }).push { cls:=.type "tuple_iterator",data:=.fields #[.ref l,.int 0 0] }).get? s.heap.objs.size=some { cls:=.type "set",dict:=none,data:=.set #[] 0 (.fresh 0 0 b) }:=Heap.get?_push_of_some _ hD
     exact ko ((mf (knd:=fm prog w) b).setOf hg (by unfold scanBound;omega)) (fun _=>rfl) rfl
    ·obtain⟨h3,g3,d3,tk3,os3⟩:=s3
     obtain rfl:g3=s.gens:=mv.gens;obtain rfl:d3=s.drawn:=mv.drawn;obtain rfl:os3=s.os:=mv.os;refine wpAny_pure (show wpAny _ _ (ret Value.none) _ _ _ from wpAny_pure ⟨rfl,h3,tk3,rfl,x3,fun c o e=>?_⟩);have hc:=Heap.lt_size e;exact mv.heap c o (show c∉[s.heap.objs.size,(s.heap.push { cls:=.type "set",dict:=none,data:=.set #[] 0 (.fresh 0 0 b) }).objs.size] by
      rw[hsz];intro z;rcases aw.mp z with e | e
      ·exact a9 hc e
      ·exact a9 (fh hc) (ax.mp e)) (Heap.get?_push_of_some _ (Heap.get?_push_of_some _ e))
   ·cases r2 with
    | error e=>exact hr2
    | ok fl2 =>
     cases fl2 with
     | ret r =>
      obtain⟨rfl,h3,tk,rfl,x3,k3⟩:=hr2
      repeat (any_goals (first | wp_step | assumption))
      exact h _ _ x3 k3
     | _=>exact hr2.elim
  | _=>exact hr.elim
end
end SE
section
variable {X:Cx}
theorem Fn (hc:X.calm=true):fC X (.type "set") (fun xs H Q=>∃ (p:Addr) (ls:List (List Nat)),xs=[.ref p]∧SqT X.K H p (ls.map T)∧ls.length+1<4096∧∀ D,H D=none->Q (.ref D) (upd H D (Cv X.prog X.w D (uniq ls)))):=by
 intro pins s σ H xs us Q I r h;obtain⟨p,ls,rfl,hq,hz,q⟩:=h;obtain⟨u,rfl,ru⟩:=gH r;cases ru;obtain⟨its,rv,pl,_⟩:=I.tuple hq;have hlen:=rv.length;rw[aR] at hlen;refine SE.Ka (I.ok.hd hc) pl (ls:=ls) (fun i v e=>Gg rv (by simpa using e)) (by rw[ap];unfold scanBound;omega) fun h' tk x k=>?_
 have e:eQ ls its.toArray.size=uniq ls:=by rw[ap,<- hlen];rfl
 rw[e] at x;have hf:H s.heap.objs.size=none:=I.hok.fresh (ah _);refine⟨.ref s.heap.objs.size,_,I.laid (t':=tk) k (ah _) (o:=Cv X.prog X.w s.heap.objs.size (uniq ls)) ?_,rfl,q _ hf⟩;refine⟨x,?_,fun h1 h2 x1 kk=>x1.at kk⟩;obtain⟨o,_,_,_,ho,_⟩:=x;exact⟨o,ho⟩
end
end L2
namespace ST
open PySem PySem.SetTable
def it (M:Nat):Nat->Nat->Nat
 | 0,i=>i
 | s+1,i=>it M s ((i*5+1) % M)
theorem Ak (M:Nat):∀ s t i,it M (s+t) i=it M t (it M s i)
 | 0,t,i=>by rw[gj];rfl
 | s+1,t,i=>by rw[qu];exact Ak M s t _
def Ik (M:Nat):Nat->Nat->List Nat
 | 0,_=>[]
 | s+1,i=>i::Ik M s ((i*5+1) % M)
theorem Cn {M:Nat}:∀ {n i j:Nat},j∈Ik M n i->∃ s,s<n∧it M s i=j
 | n+1,i,j,h=>by
  rw[Ik,aw] at h;rcases h with h | h
  ·exact⟨0,by omega,h.symm⟩
  ·obtain⟨s,h1,h2⟩:=Cn h
   exact⟨s+1,by omega,h2⟩
def full (M:Nat):Bool:=it M M 0==0&&(bu M).all fun j=>(Ik M M 0).contains j
theorem Ju {M:Nat}(h:full M=true){a j:Nat}(ha:a<M)(hj:j<M):∃ s,s<M∧it M s a=j:=by
 rw[full,df,beq_iff_eq,d8] at h;have hit:∀ x,x<M->∃ s,s<M∧it M s 0=x:=fun x hx=>Cn (by have:=h.2 x (ck.mpr hx);simpa using this)
 obtain⟨s0,h0,e0⟩:=hit a ha;obtain⟨s1,h1,e1⟩:=hit j hj;rcases fq s1 s0 with z | z
 ·refine⟨M-s0+s1,by omega,?_⟩
  have w:it M (M-s0) a=0:=by rw[<- e0,<- Ak,show s0+(M-s0)=M by omega,h.1]
  rw[Ak,w,e1]
 ·refine⟨s1-s0,by omega,?_⟩
  rw[<- e0,<- Ak,show s0+(s1-s0)=s1 by omega,e1]
def vW (M:Nat):Prop:=M=8∨M=16∨M=32∨M=64∨M=128∨M=256∨M=512
theorem vW.full {M:Nat}(h:vW M):full M=true:=by
 rcases h with rfl | rfl | rfl | rfl | rfl | rfl | rfl <;> decide +kernel
theorem vW.pos {M:Nat}(h:vW M):8<=M:=by
 rcases h with rfl | rfl | rfl | rfl | rfl | rfl | rfl <;> decide
def lp (mask:Nat):Nat->Nat->Nat->Nat×Nat
 | 0,i,p=>(i,p)
 | s+1,i,p=>lp mask s (leap mask i p).1 (leap mask i p).2
theorem Pr (mask:Nat):∀ s t i p,lp mask (s+t) i p=lp mask t (lp mask s i p).1 (lp mask s i p).2
 | 0,t,i,p=>by rw[gj];rfl
 | s+1,t,i,p=>by rw[qu];exact Pr mask s t _ _
theorem Xp (mask:Nat):∀ s i p,(lp mask s i p).2=p/32 ^ s
 | 0,i,p=>by rw[oe,Nat.div_one];rfl
 | s+1,i,p=>by
  show (lp mask s _ (p/32)).2=_;rw[Xp mask s,Nat.div_div_eq_div_mul,gv,de]
theorem Ub (mask:Nat):∀ s i,(lp mask s i 0).1=it (mask+1) s i
 | 0,i=>rfl
 | s+1,i=>by
  show (lp mask s ((i*5+1+0/32) % (mask+1)) (0/32)).1=_;rw[Nat.zero_div,jt];exact Ub mask s _
theorem Td (mask:Nat):∀ s i p,i<mask+1->(lp mask s i p).1<mask+1
 | 0,i,p,h=>h
 | s+1,i,p,h=>Td mask s _ _ (jc _ (oh _))
theorem Kw (mask i:Nat):i<=runEnd mask i:=by
 unfold runEnd;split <;> omega
theorem wY {mask:Nat}{owner:Array (Option Nat)}:∀ {fuel i p:Nat},layClean.free mask owner fuel i p=none->∀ s,s<fuel->(owner.getD (lp mask s i p).1 (some 0)).isNone=false
 | fuel+1,i,p,h,s,hs=>by
  rw[layClean.free] at h;split at h
  ·cases h
  ·rename_i hf
   cases s with
   | zero =>
    have:=qv.mp hf 0 (ck.mpr (by have:=Kw mask i;omega))
    rw[jt] at this;exact lc.mpr this
   | succ s=>exact wY h s (by omega)
theorem xO {mask:Nat}{owner:Array (Option Nat)}:∀ {fuel i p j:Nat},layClean.free mask owner fuel i p=some j->(owner.getD j (some 0)).isNone=true
 | fuel+1,i,p,j,h=>by
  rw[layClean.free] at h;split at h
  ·rename_i k hf
   cases h
   have:=t7 hf
   exact this
  ·exact xO h
theorem Qu {mask:Nat}{owner:Array (Option Nat)}{i p j:Nat}(hM:vW (mask+1))(hi:i<mask+1)(hp:p<2 ^ 64)(hj:j<mask+1)(he:(owner.getD j (some 0)).isNone=true) :
  ∃ k,layClean.free mask owner (turns mask) i p=some k∧(owner.getD k (some 0)).isNone=true:=by
 cases hf:layClean.free mask owner (turns mask) i p with
 | some k=>exact⟨k,rfl,xO hf⟩
 | none =>
  exfalso;have h13:(lp mask 13 i p).2=0:=by
   rw[Xp];exact nu (rg hp (by decide))
  obtain⟨s,hs,e⟩:=Ju hM.full (Td mask 13 i p hi) hj;have z:=wY hf (13+s) (by unfold turns;omega);rw[Pr,h13,Ub,e,he] at z;cases z
theorem uS {α β:Type}{f g:α->Option β}:∀ l:List α,(∀ i∈l,f i=g i)->l.filterMap f=l.filterMap g
 | [],_=>rfl
 | x::l,h=>by
  have ih:=uS l fun i hi=>h i (am _ hi)
  rw[im,im,h x (ar ..),ih]
def vals (N:Nat)(f:Nat->Option Nat):List Nat:=(bu N).filterMap f
theorem Qn {f g:Nat->Option Nat}{j v:Nat}(hf:f j=none)(hg:g j=some v)(he:∀ i,i≠j->g i=f i):∀ l:List Nat,l.Nodup->j∈l->(l.filterMap g).Perm (v::l.filterMap f)
 | x::l,nd,hm=>by
  rw[cy] at nd;by_cases e:x=j
  ·subst e
   rw[jf hg,kq hf]
   have:l.filterMap g=l.filterMap f:=uS l fun i hi=>he i fun z=>nd.1 (z▸hi)
   rw[this]
  ·have hm':j∈l:=by
    rcases aw.mp hm with z | z
    ·exact absurd z.symm e
    ·exact z
   have ih:=Qn hf hg he l nd.2 hm';have hx:=he x e
   cases h:f x with
   | none=>rw[kq (hx.trans h),kq h];exact ih
   | some y =>
    rw[jf (hx.trans h),jf h];exact (ih.cons y).trans (uc ..)
theorem Hu {f:Nat->Option Nat}:∀ l:List Nat,(∀ i∈l,(f i).isNone=false)->(l.filterMap f).length=l.length
 | [],_=>rfl
 | x::l,h=>by
  have hx:=h x (ar ..)
  cases e:f x with
  | none=>rw[e] at hx;cases hx
  | some y=>rw[jf e,av,av,Hu l fun i hi=>h i (am _ hi)]
def vY (mask:Nat)(owner:Array (Option Nat))(k:Nat):Prop:=owner.size=mask+1∧(vals (mask+1) fun j=>owner.getD j none).Perm (bu k)
theorem getD_some {owner:Array (Option Nat)}{j:Nat}(h:j<owner.size):owner.getD j (some 0)=owner.getD j none:=by
 simp[ud,h]
theorem So {mask:Nat}(hM:vW (mask+1)){owner:Array (Option Nat)}{k:Nat}(g:vY mask owner k)(hk:k<mask+1)(h:Int) :
  ∃ j,layClean.free mask owner (turns mask) (bits h % (mask+1)) (bits h)=some j∧vY mask (owner.setIfInBounds j (some k)) (k+1):=by
 obtain⟨hs,hp⟩:=g;obtain⟨j0,hj0,he0⟩:∃ j,j<mask+1∧(owner.getD j (some 0)).isNone=true:=by
  apply bc;intro hno
  have:=Hu (f:=fun j=>owner.getD j none) (bu (mask+1)) fun i hi=>by
   have hi':=ck.mp hi;have e:=getD_some (owner:=owner) (j:=i) (by omega)
   cases z:(owner.getD i none).isNone with
   | false=>rfl
   | true=>exact absurd ⟨i,hi',by rw[e];exact z⟩ hno
  rw[cn] at this;have h2:=hp.length_eq;rw[cn] at h2;unfold vals at h2;omega
 obtain⟨j,e1,e2⟩:=Qu hM (i:=bits h % (mask+1)) (p:=bits h) (jc _ (oh _)) (by unfold bits;omega) hj0 he0;have hj:j<owner.size:=by
  rcases fq j owner.size with z | z
  ·exact z
  ·rw[ud,dif_neg (by omega)] at e2
   cases e2
 refine⟨j,e1,by rw[Array.size_setIfInBounds];exact hs,?_⟩;have hf:(fun i=>owner.getD i none) j=none:=by
  show owner.getD j none=none;rw[getD_some hj] at e2
  cases z:owner.getD j none with
  | none=>rfl
  | some y=>rw[z] at e2;cases e2
 have hg:(fun i=>(owner.setIfInBounds j (some k)).getD i none) j=some k:=by
  show (owner.setIfInBounds j (some k)).getD j none=some k;simp[ud,hj]
 have q:=Qn hf hg (fun i hi=>by
  show (owner.setIfInBounds j (some k)).getD i none=owner.getD i none;rw[gu,gu,Array.getElem?_setIfInBounds_ne (Ne.symm hi)]) (bu (mask+1)) List.nodup_range (ck.mpr (by omega))
 refine q.trans ?_;rw[show bu (k+1)=bu k++[k] from kr];exact (hp.cons k).trans (mr ..).symm
theorem Me {mask:Nat}(hM:vW (mask+1)):∀ (hs:List Int) (owner:Array (Option Nat)) (k:Nat),vY mask owner k->k+hs.length<=mask+1 ->
  ∃ o',(hs.foldl (fun acc h=>do
   let (owner,k) <- acc
   let j <- layClean.free mask owner (turns mask) (bits h % (mask+1)) (bits h)
   pure (owner.setIfInBounds j (some k),k+1)) (some (owner,k)))=some (o',k+hs.length)∧vY mask o' (k+hs.length)
 | [],owner,k,g,_=>⟨owner,rfl,g⟩
 | h::hs,owner,k,g,hk=>by
  rw[av] at hk;obtain⟨j,e,g'⟩:=So hM g (by omega) h;obtain⟨o',e',g''⟩:=Me hM hs _ _ g' (by omega);refine⟨o',?_,by rw[av,show k+(hs.length+1)=k+1+hs.length by omega];exact g''⟩;rw[oq,av,show k+(hs.length+1)=k+1+hs.length by omega,<- e']
  congr 1
  show (layClean.free mask owner (turns mask) (bits h % (mask+1)) (bits h)).bind _=_;rw[e];rfl
theorem Nk (mask:Nat):vY mask (t8 (mask+1) none) 0:=by
 refine⟨Array.size_replicate,?_⟩
 have:vals (mask+1) (fun j=>(t8 (mask+1) (none:Option Nat)).getD j none)=[]:=by
  unfold vals;refine List.filterMap_eq_nil_iff.mpr fun i _=>?_
  rw[gu,Array.getElem?_replicate];split <;> rfl
 rw[this];exact ie _
theorem Ha {mask finger moves:Nat}{led plain:Bool}{hashes:Array Int}(hM:vW (mask+1))(hn:hashes.size<=mask) :
  ∃ (t:SetTable) (order:Array Nat),laid mask finger moves led plain hashes=some (t,order)∧order.toList.Perm (bu hashes.size)∧t.place.size=hashes.size∧t.mask=mask∧t.dummies = #[]∧t.led=led∧t.plain=plain:=by
 obtain⟨o,e,g⟩:=Me hM hashes.toList _ 0 (Nk mask) (by rw[bo];omega);have hc:layClean mask hashes=some o:=by
  unfold layClean;rw[<- Array.foldl_toList];refine (congrArg (ue (·.1)) e).trans ?_;rfl
 have em:((bu (mask+1)).filterMap fun j=>(o.getD j none).map (j,·)).map (·.2)=vals (mask+1) fun j=>o.getD j none:=by
  rw[List.map_filterMap];unfold vals;refine uS _ fun i _=>?_
  cases o.getD i none <;> rfl
 have gp:(vals (mask+1) fun j=>o.getD j none).Perm (bu hashes.size):=by
  have:=g.2
  rw[gj,bo] at this;exact this
 refine⟨_,_,by unfold laid;rw[hc];rfl,by rw[em];exact gp,?_,rfl,rfl,rfl,rfl⟩;show (((bu (mask+1)).filterMap fun j=>(o.getD j none).map (j,·)).map (·.1)).toArray.size=_;have hl:=congrArg i7 em;rw[aR] at hl;rw[ap,aR,hl,gp.length_eq,cn]
end ST
namespace SS
open PySem PyProof.Rows
def byT (w:World):Bool:=w.params.followText "set-order"
def nF:Value->Str
 | .str x _=>x
 | _=>Str.empty
def El (w:World)(e:Int×Value):Prop:=e.1=hashStr w (nF e.2)∧∃ t,e.2 = .str (nF e.2) t
def Els (w:World)(es:List (Int×Value))(ms:List Str):Prop:=(∀ e∈es,El w e)∧(es.map fun e=>nF e.2).Perm ms
theorem Els.perm {w:World}{es es':List (Int×Value)}{ms:List Str}(h:Els w es ms)(p:es'.Perm es):Els w es' ms:=⟨fun e he=>h.1 e (p.mem_iff.mp he),(p.map _).trans h.2⟩
theorem Els.of {w:World}{prog:Program}{es:List (Int×Value)}{ms:List Str}(h:Els w es ms):ElemsOf (fm prog w) es:=fun e he=>by
 obtain⟨h1,t,h2⟩:=h.1 e he;refine⟨⟨nF e.2,?_,h1⟩,?_⟩
 ·rw[h2]
  exact strKind_is prog w _ t
 ·rw[h2]
  rfl
theorem Els.len {w:World}{es:List (Int×Value)}{ms:List Str}(h:Els w es ms):es.length=ms.length:=by
 have:=h.2.length_eq
 rwa [aR] at this
theorem Els.has {w:World}{prog:Program}{es:List (Int×Value)}{ms:List Str}(h:Els w es ms)(k:Str):k∈ms↔∃ e∈es,(fm prog w).is k e.2=true:=by
 rw[<- h.2.mem_iff,a5];constructor
 ·rintro⟨e,he,rfl⟩
  obtain⟨_,t,h2⟩:=h.1 e he;refine⟨e,he,?_⟩
  conv=>lhs;arg 3;rw[h2]
  exact strKind_is prog w _ t
 ·rintro⟨e,he,hk⟩
  obtain⟨t,ht⟩:=Value.isStrOf_shape hk;exact⟨e,he,by rw[ht];rfl⟩
def Is (w:World)(h:Heap)(a:Addr)(ms:List Str):Prop :=
 ∃ o es ep t,h.get? a=some o∧o.ExactSet∧o.data = .set es ep t∧Els w es.toList ms∧ms.Nodup∧es.size<scanBound∧t.fits es.size=true∧(byT w=true∨t.led=true)∧(es.size=0∨t.plain=false)
theorem Is.at {w:World}{h h':Heap}{a:Addr}{ms:List Str}(x:Is w h a ms)(e:∀ o,h.get? a=some o->h'.get? a=some o):Is w h' a ms:=let ⟨o,es,ep,t,ho,r⟩:=x;⟨o,es,ep,t,e o ho,r⟩
theorem Is.there {w:World}{h:Heap}{a:Addr}{ms:List Str}(x:Is w h a ms):∃ o,h.get? a=some o:=let ⟨o,_,_,_,ho,_⟩:=x;⟨o,ho⟩
theorem Ga (t:SetTable)(es:Array (Int×Value))(h:Int)(x:Value):(layNew t es h x).2.1.led=t.led:=by
 unfold layNew;split
 ·rename_i slot wd _
  show ((t.put slot).1.orStandIn _).led=t.led;unfold SetTable.orStandIn;split <;> rfl
 ·rfl
theorem Fj {mask finger moves:Nat}{led plain:Bool}{hs:Array Int}{t:SetTable}{o:Array Nat}(h:SetTable.laid mask finger moves led plain hs=some (t,o)):t.led=led∧t.plain=plain:=by
 unfold SetTable.laid at h
 cases hc:SetTable.layClean mask hs with
 | none=>rw[hc] at h;cases h
 | some ow =>
  rw[hc] at h;have h':=ay h;rw[<- (Prod.mk.inj h').1];exact⟨rfl,rfl⟩
theorem tJ (t:SetTable)(es:Array (Int×Value))(n:Nat)(hp:t.plain=false):(relayAll t es n).2.1.led=t.led∧(relayAll t es n).2.1.plain=false:=by
 unfold relayAll;split
 ·rename_i t' order e
  obtain⟨h1,h2⟩:=Fj e
  dsimp only
  split
  ·exact⟨h1,h2.trans hp⟩
  ·exact⟨rfl,rfl⟩
 ·exact⟨rfl,rfl⟩
section
variable {prog:Program}{w:World}{A:Around}{E:Value->Shared->Prop}{s:Shared}
theorem Is.store (prog:Program){a:Addr}{o:Obj}{es es':Array (Int×Value)}{ep:Nat}{t t':SetTable}{h:Heap}{ms:List Str}(ho:h.get? a=some o)(hex:o.ExactSet)(hd:o.data = .set es ep t)(hel:Els w es'.toList ms)(hnd:ms.Nodup)(hb:es'.size<scanBound)(hf:t'.fits es'.size=true)
  (hl:byT w=true∨t'.led=true) (hp:es'.size=0∨t'.plain=false):(h.update a (Obj.putSet es' t')).get? a=some { o with data:=.set es' (ep+1) t' }∧Is w (h.update a (Obj.putSet es' t')) a ms:=by
 have hg:=(SetOf_store (knd:=fm prog w) (S':=fun k=>decide (k∈ms)) ho hex hd hel.of (fun k=>by rw[decide_eq_true_iff];exact hel.has k) hb hf).1;exact⟨hg,_,es',ep+1,t',hg,hex,rfl,hel,hnd,hb,hf,hl,hp⟩
theorem On {a : Addr} {ms : List Str} {k : Str} {tk : Tok} {Q : Bool → Shared → Prop} (hS : Is w s.heap a ms) (hroom : ms.length + 1 < scanBound)
    (h : ∀ h' ms', Heap.SameBut a s.heap h' → Is w h' a ms' → (∀ x, x ∈ ms' ↔ x ∈ ms ∨ x = k) → ms'.length ≤ ms.length + 1 → Q (!decide (k ∈ ms)) { s with heap := h' }) :
    wpAny (model prog w) A (setAddHashed a (.str k tk) (hashStr w k)) Q E s := by
  obtain⟨o, es, ep, t, ho, hex, hd, hel, hnd, hb, hf, hl, hp⟩ := hS;have hn : es.size = ms.length := by rw[← hel.len, bo]
  have hkey : (fm prog w).is k (.str k tk) = true := strKind_is prog w k tk;unfold setAddHashed setAddHashedIn;refine wpAny_holding (wpAny_bind (wpAny_setState_of ho hd hf ?_))
  dsimp only
  rw[byScan_of (knd := fm prog w) (x := .str k tk) rfl hb hel.of];simp only [↓reduceIte];unfold setAddByScan;refine wpAny_bind (wpAny_bind (wpAny_rule (wpAny_bind (wpAny_setScan_of (knd := fm prog w) hkey ho hd hf hel.of ?_))))
  cases hr : List.findIdx? (fun e => (fm prog w).is k e.2) es.toList with
  | some j =>
    dsimp only
    obtain⟨hj, hpj, _⟩ := List.findIdx?_eq_some_iff_getElem.mp hr;have hm : k ∈ ms := (hel.has (prog := prog) k).mpr ⟨es.toList[j], di hj, hpj⟩;refine wpAny_pure (wpAny_pure ?_);have z := h s.heap ms (Heap.SameBut.refl a s.heap) ⟨o, es, ep, t, ho, hex, hd, hel, hnd, hb, hf, hl, hp⟩ (fun x => ⟨.inl, fun q => q.elim id fun e => e ▸ hm⟩) (by omega);rw[decide_eq_true hm] at z;exact z
  | none =>
    dsimp only
    have hm : ¬ k ∈ ms := fun z => by
      obtain⟨e, he, q⟩ := (hel.has (prog := prog) k).mp z;have := List.findIdx?_eq_none_iff.mp hr e he;rw[q] at this;cases this
    have gw : ∀ (b : Bool) {s₁ : Shared} {Q' : Unit → Shared → Prop}, Q' () s₁ → wpAny (model prog w) A (match b with | true => rule "set.scan.the-table-gave-way" | false => pure ()) Q' E s₁ := fun b s₁ Q' hq => by
      cases b
      · exact wpAny_pure hq
      · exact wpAny_rule hq
    have hperm := layNew_perm t es (hashStr w k) (.str k tk);have hfits := layNew_fits t es (hashStr w k) (.str k tk);have hled := Ga t es (hashStr w k) (.str k tk);generalize hL : layNew t es (hashStr w k) (.str k tk) = L at hperm hfits hled ⊢;obtain⟨es1, t1, wasDummy, gave⟩ := L
    dsimp only at hperm hfits hled ⊢
    rw[m9] at hperm;have hel1 : Els w es1.toList (ms ++ [k]) := by
      refine Els.perm ⟨fun e he => ?_, ?_⟩ hperm
      · rcases bt.mp he with z | z
        · exact hel.1 e z
        · have e' : e = (hashStr w k, .str k tk) := by simpa using z
          rw[e'];exact⟨rfl, tk, rfl⟩
      · rw[bh]
        exact hel.2.append_right _
    have hnd1 : (ms ++ [k]).Nodup := ge.mpr ⟨hnd, by simp, fun x hx y hy e => hm (by have : y = k := (by simpa using hy); rw[← this, ← e]; exact hx)⟩;have hsz1 : es1.size = ms.length + 1 := by rw[← bo, hel1.len, ai, ci]
    have hb1 : es1.size < scanBound := by omega
    have fin : ∀ h', Heap.SameBut a s.heap h' → Is w h' a (ms ++ [k]) → Q true { s with heap := h' } := fun h' sb x => by
      have z := h h' (ms ++ [k]) sb x (fun y => by rw[bt, ax]) (by rw[ai, ci]; omega);rw[decide_eq_false hm] at z;exact z
    have tail : ∀ t2 : SetTable, t2.fits es1.size = true → (byT w = true ∨ t2.led = true) → t2.plain = false → wpAny (model prog w) A (do
        storeSet a es1 t2
        if (!wasDummy && t2.tooFull) = true then do
            (match (relayAll t2 es1 (SetTable.grown es1.size)).2.2 with | true => rule "set.scan.the-table-gave-way" | false => pure ())
            storeSet a (relayAll t2 es1 (SetTable.grown es1.size)).1 (relayAll t2 es1 (SetTable.grown es1.size)).2.1
            pure (some true)
          else pure (some true)) (fun r s' => wpAny (model prog w) A (match r with | some added => pure added | none => setAddHashedIn a (.str k tk) (hashStr w k) 99999) Q E s') E s := fun t2 hf2 hl2 hp2 => by
      refine wpAny_bind (wpAny_storeSet_of ho hd ?_ (fits_of_scanBound hb1));obtain⟨ho1, hS1⟩ := Is.store prog ho hex hd hel1 hnd1 hb1 hf2 hl2 (.inr hp2);have sb1 := Heap.SameBut.update s.heap a (Obj.putSet es1 t2);split
      · have q1 := relayAll_perm t2 es1 (SetTable.grown es1.size)
        have q2 := relayAll_fits t2 es1 (SetTable.grown es1.size);have q3 := tJ t2 es1 (SetTable.grown es1.size) hp2;generalize relayAll t2 es1 (SetTable.grown es1.size) = Rl at q1 q2 q3 ⊢;obtain⟨es2, t3, g2⟩ := Rl
        dsimp only at q1 q2 q3 ⊢
        have hel2 := hel1.perm q1;have hsz : es2.size = es1.size := by rw[← bo, q1.length_eq, bo]
        have hb2 : es2.size < scanBound := by omega
        refine wpAny_bind (gw _ (wpAny_bind (wpAny_storeSet_of ho1 rfl ?_ (fits_of_scanBound hb2))));obtain⟨_, hS2⟩ := Is.store prog ho1 hex rfl hel2 hnd1 hb2 q2 (hl2.imp id fun z => q3.1.trans z) (.inr q3.2);exact wpAny_pure (wpAny_pure (fin _ (sb1.trans (Heap.SameBut.update _ a _)) hS2))
      · exact wpAny_pure (wpAny_pure (fin _ sb1 hS1))
    refine wpAny_bind (gw _ ?_);have hl1 : byT w = true ∨ t1.led = true := hl.imp id fun z => hled.trans z
    split
    · refine wpAny_bind (wpAny_pure ?_)
      simp only [dq, ↓reduceIte];exact tail { t1 with plain := false } (SetTable.fits_plain_off hfits) hl1 rfl
    · rename_i hpl
      refine wpAny_bind (wpAny_pure ?_);simp only [↓reduceIte];exact tail t1 hfits hl1 (lc.mpr hpl)
end
theorem tO:∀ n,n<=256->ST.vW (SetTable.sizeAbove n)∧n<SetTable.sizeAbove n:=by
 have key:∀ n,n<257->(SetTable.sizeAbove n=8∨SetTable.sizeAbove n=16∨SetTable.sizeAbove n=32∨SetTable.sizeAbove n=64∨SetTable.sizeAbove n=128∨SetTable.sizeAbove n=256∨SetTable.sizeAbove n=512)∧n<SetTable.sizeAbove n:=by decide +kernel
 exact fun n h=>key n (by omega)
theorem nS {es:Array (Int×Value)}{order:Array Nat}(h:order.toList.Perm (bu es.size)):(order.filterMap (es[·]?)).toList.Perm es.toList:=by
 rw[Array.toList_filterMap];exact (h.filterMap _).trans (by rw[filterMap_getElem?_range])
theorem mQ {α:Type}:∀ (l:List α) (i:Nat) (h:i<l.length),(l[i]::l.eraseIdx i).Perm l
 | x::l,0,_=>ie _
 | x::l,i+1,h=>by
  have h':i<l.length:=by simpa using h
  have ih:=mQ l i h';exact (uc x (l[i]'h') (l.eraseIdx i)).trans (ih.cons x)
theorem xH {α:Type}(next:Nat->Nat)(xs:Array α):(pickOrder next xs).toList.Perm xs.toList:=by
 have key:∀ (fuel k:Nat) (left:List α) (out:Array α),left.length=fuel->(pickOrder.go next fuel k left out).toList.Perm (out.toList++left):=by
  intro fuel
  induction fuel with
  | zero =>
   intro k left out hl;obtain rfl:=a8.mp hl;rw[pickOrder.go,du]
  | succ fuel ih =>
   intro k left out hl;have hlt:next k % left.length<left.length:=jc _ (by omega);rw[pickOrder.go,ac hlt]
   dsimp only
   refine (ih _ _ _ (by rw[mw hlt];omega)).trans ?_;rw[m9,db];refine jz _ ?_;exact mQ left _ hlt
 have z:=key xs.size 0 xs.toList #[] (bo)
 simpa [pickOrder] using z
section
variable {prog:Program}{w:World}{A:Around}{E:Value->Shared->Prop}{s:Shared}
theorem gK {Q:Bool->Shared->Prop}(h:Q (byT w) s):wpAny (model prog w) A setsByText Q E s:=by
 unfold setsByText;exact wpAny_bind (wpAny_askSetting (wpAny_pure h))
theorem Bw {a:Addr}{ms:List Str}{n:Nat}{Q:Unit->Shared->Prop}{o:Obj}{es:Array (Int×Value)}{ep:Nat}{t:SetTable}(ho:s.heap.get? a=some o)(hd:o.data = .set es ep t)(hf:t.fits es.size=true)(hn:n<=256)(hm:es.size<=n)
  (h:∀ (es':Array (Int×Value)) (t':SetTable),es'.toList.Perm es.toList->t'.place.size=es.size->t'.mask+1=SetTable.sizeAbove n->t'.dummies = #[]->t'.led=t.led->t'.plain=t.plain->Q () { s with heap:=s.heap.update a (Obj.putSet es' t') }) :
  wpAny (model prog w) A (setRelay a n) Q E s:=by
 obtain⟨hM,hlt⟩:=tO n hn;have h8:=hM.pos;unfold setRelay;refine wpAny_bind (wpAny_setState_of ho hd hf ?_)
 dsimp only
 have hs:sizeLine=16777216:=sizeLine_eq;have hsl:¬ SetTable.sizeAbove n>sizeLine:=by
  rcases hM with e | e | e | e | e | e | e <;> omega
 rw[if_neg hsl];obtain⟨t',order,e1,e2,e3,e4,e5,e6,e7⟩:=ST.Ha (mask:=SetTable.sizeAbove n-1) (finger:=t.finger) (moves:=t.movedTo (SetTable.sizeAbove n-1)) (led:=t.led) (plain:=t.plain) (hashes:=es.map (·.1)) (by rw[iw (by omega)];exact hM) (by rw[mx];omega);have e1':t.relaid (es.map (·.1)) n=some (t',order):=e1;rw[e1'];rw[mx] at e2 e3;have hp:=nS e2;have hsz:(order.filterMap (es[·]?)).size=es.size:=by rw[<- bo,hp.length_eq,bo]
 refine wpAny_bind (m:=(do
  if ((order.filterMap (es[·]?)).size != es.size)=true then unsupported "internal:set-table-lost-an-element"
  pure (order.filterMap (es[·]?),t'))) ?_
 rw[hsz,bne_self_eq_false,if_neg aj];refine wpAny_pure ?_;exact wpAny_storeSet_of ho hd (h _ _ hp e3 (by rw[e4];omega) e5 e6 e7) (by rw[hsz];omega)
theorem Oz {a b:Addr}{ms ms':List Str}{Q:Bool->Shared->Prop}(h1:Is w s.heap a ms)(h2:Is w s.heap b ms')(h:Q true s):wpAny (model prog w) A (setsQuiet [a,b]) Q E s:=by
 unfold setsQuiet;refine wpAny_bind ?_;refine wpAny_forIn_list _ (fun rest r s'=>r=(none,())∧s'=s∧∀ c∈rest,∃ ks,Is w s.heap c ks) _ ?_ ?_ _ _ ⟨rfl,rfl,fun c hc=>?_⟩
 ·rintro c rest r s' ⟨rfl,rfl,hall⟩
  obtain⟨ks,hc⟩:=hall c (ar ..);obtain⟨o,es,ep,t,ho,hex,hd,hel,hnd,hb,hf,_⟩:=hc;refine wpAny_bind (wpAny_setEntries_of ho hd hf (wpAny_bind ?_));rw[<- qw];refine wpAny_forIn_list _ (fun rest r s2=>r=(none,())∧s2=s'∧∀ e∈rest,El w e) _ ?_ ?_ _ _ ⟨rfl,rfl,hel.1⟩
  ·rintro⟨hh,x⟩ rest2 r s2 ⟨rfl,rfl,hall2⟩
   obtain⟨_,tk,e⟩:=hall2 _ (ar ..)
   dsimp only at e ⊢
   rw[e];exact wpAny_pure ⟨rfl,rfl,fun u hu=>hall2 u (am _ hu)⟩
  ·rintro r s2 ⟨rfl,rfl,_⟩
   exact wpAny_pure ⟨rfl,rfl,fun u hu=>hall u (am _ hu)⟩
 ·rintro r s' ⟨rfl,rfl,_⟩
  exact wpAny_pure h
 ·rcases aw.mp hc with rfl | hc
  ·exact⟨ms,h1⟩
  ·rcases aw.mp hc with rfl | hc
   ·exact⟨ms',h2⟩
   ·cases hc
theorem Yc {a b:Addr}{ms1 ms2:List Str}{Q:Array (Int×Value)->Shared->Prop}(h1:Is w s.heap a ms1)(hne:ms1≠[])(h2:Is w s.heap b ms2)(h:∀ es:Array (Int×Value),Els w es.toList ms2->Q es s) :
  wpAny (model prog w) A (setWalkUnseen b [a] (some a)) Q E s:=by
 obtain⟨o,es,ep,t,ho,hex,hd,hel,hnd,hb,hf,hl,hp⟩:=id h2;unfold setWalkUnseen;refine wpAny_bind (wpAny_setState_of ho hd hf ?_)
 dsimp only
 refine wpAny_bind (gK ?_);have walk:∀ Q':Array (Int×Value)->Shared->Prop,(byT w=true∨es.size<=1)->(∀ es':Array (Int×Value),Els w es'.toList ms2->Q' es' s)->wpAny (model prog w) A (setWalk b) Q' E s:=fun Q' hc hQ=>by
  unfold setWalk;refine wpAny_bind (wpAny_setState_of ho hd hf ?_)
  dsimp only
  refine wpAny_bind (gK ?_);by_cases hby:byT w=true
  ·rw[if_pos hby]
   refine wpAny_bind (wpAny_askSetting (wpAny_pure (hQ _ (hel.perm (xH _ _)))))
  ·rw[if_neg hby]
   have h1:es.size<=1:=hc.resolve_left hby;have hdr:(!t.plain&&decide (es.size>1))=false:=by
    rw[decide_eq_false (by omega),ke]
   have hml:(!t.led&&decide (es.size>1))=false:=by
    rw[decide_eq_false (by omega),ke]
   show wpAny _ _ (if (!t.plain&&decide (es.size>1))=true then _ else _) _ _ s;rw[hdr,if_neg aj];refine wpAny_bind (m:=if (!t.led&&decide (es.size>1))=true then unsupported "set:maker-not-led" else pure ()) ?_
   rw[hml,if_neg aj];exact wpAny_pure (wpAny_pure (hQ _ hel))
 by_cases hc:byT w=true∨es.size<=1
 ·have e:(byT w||(t.led&&t.plain)||decide (es.size<=1))=true:=by
   rcases hc with z | z
   ·rw[z];simp
   ·rw[decide_eq_true z];simp
  rw[e,if_pos rfl];exact walk _ hc h
 ·have hby:byT w=false:=lc.mpr fun z=>hc (.inl z)
  have hs1:¬ es.size<=1:=fun z=>hc (.inr z)
  have hpl:t.plain=false:=hp.resolve_left (by omega);have hld:t.led=true:=hl.resolve_left (by rw[hby];exact aj);have e:(byT w||(t.led&&t.plain)||decide (es.size<=1))=false:=by
   rw[hby,hpl,decide_eq_false hs1];simp
  rw[e,if_neg aj];refine wpAny_bind (Oz h2 h1 ?_);simp only [nh,dq,↓reduceIte];refine wpAny_bind (wpAny_rule ?_);obtain⟨o1,es1,ep1,t1,ho1,hex1,hd1,hel1,hnd1,hb1,hf1,hl1,hp1⟩:=id h1;refine wpAny_bind (wpAny_setState_of ho1 hd1 hf1 ?_)
  dsimp only
  have hs0:es1.size≠0:=fun z=>hne (a8.mp (by rw[<- hel1.len,bo];exact z))
  have hpl1:t1.plain=false:=hp1.resolve_left hs0;have hc2:(t1.led && !t.led||t1.plain && !t.plain)=false:=by
   rw[hld,hpl1];simp
  rw[hc2,if_neg aj];exact wpAny_pure (h es hel)
theorem Ss {a:Addr}{ms:List Str}{m:Nat}{Q:Unit->Shared->Prop}(hS:Is w s.heap a ms)(hm:ms.length+m<=128)(h:∀ h',Heap.SameBut a s.heap h'->Is w h' a ms->Q () { s with heap:=h' }):wpAny (model prog w) A (setRoomFor a m) Q E s:=by
 obtain⟨o,es,ep,t,ho,hex,hd,hel,hnd,hb,hf,hl,hp⟩:=id hS;have hn:es.size=ms.length:=by rw[<- hel.len,bo]
 have hpsz:t.place.size=es.size:=by
  simp only [SetTable.fits,df,beq_iff_eq] at hf;exact hf.1
 unfold setRoomFor;refine wpAny_bind (wpAny_setState_of ho hd hf ?_)
 dsimp only
 unfold SetTable.roomFor;by_cases hc:(t.fill+m)*5≥t.mask*3
 ·rw[if_pos hc]
  refine Bw (ms:=ms) ho hd hf (by omega) (by omega) fun es' t' p1 p2 p3 p4 p5 p6=>?_
  have hsz:es'.size=es.size:=by rw[<- bo,p1.length_eq,bo]
  have h8:=(tO ((t.place.size+m)*2) (by omega)).2;have hf':t'.fits es'.size=true:=by
   simp only [SetTable.fits,df,beq_iff_eq,decide_eq_true_eq,SetTable.fill,p4];exact⟨by omega,by show t'.place.size+0<=t'.mask;omega⟩
  exact h _ (Heap.SameBut.update _ a _) (Is.store prog ho hex hd (hel.perm p1) hnd (by omega) hf' (hl.imp id fun z=>p5.trans z) (hp.imp (fun z=>by omega) fun z=>p6.trans z)).2
 ·rw[if_neg hc]
  exact wpAny_pure (h s.heap (Heap.SameBut.refl a _) hS)
theorem Oj {a b:Addr}{ms1 ms2:List Str}{each:Sem Unit}{Q:Unit->Shared->Prop}(hab:a≠b)(h1:Is w s.heap a ms1)(h2:Is w s.heap b ms2)(hne:ms1≠[])(hsz:ms1.length+ms2.length<=128)
  (heach:∀ (s':Shared) (Q':Unit->Shared->Prop),(∀ o,s.heap.get? b=some o->s'.heap.get? b=some o)->Q' () s'->wpAny (model prog w) A each Q' E s')
  (h:∀ h' ms',Heap.SameBut a s.heap h'->Is w h' a ms'->(∀ x,x∈ms'↔x∈ms1∨x∈ms2)->ms'.length<=ms1.length+ms2.length->Q () { s with heap:=h' }):wpAny (model prog w) A (setMerge a b each) Q E s:=by
 obtain⟨o,es,ep,t,ho,hex,hd,hel,hnd,hb,hf,hl,hp⟩:=id h2;have hn:es.size=ms2.length:=by rw[<- hel.len,bo]
 unfold setMerge;rw[if_neg (show ¬ ((a==b)=true) by rw[beq_iff_eq];exact hab)];refine wpAny_bind (wpAny_setState_of ho hd hf ?_)
 dsimp only
 by_cases h0:es.isEmpty=true
 ·rw[if_pos h0]
  have e0:ms2=[]:=a8.mp (by rw[<- hn];simpa using h0);exact wpAny_pure (h s.heap ms1 (Heap.SameBut.refl a _) h1 (fun x=>by rw[e0];simp) (by omega))
 rw[if_neg h0];refine wpAny_bind (Ss h1 (by omega) fun h3 sb3 i3=>?_);have hb3:h3.get? b=some o:=(sb3.2 b (Ne.symm hab)).trans ho;have h2':Is w h3 b ms2:=⟨o,es,ep,t,hb3,hex,hd,hel,hnd,hb,hf,hl,hp⟩;obtain⟨o3,es3,ep3,t3,ho3,hex3,hd3,hel3,hnd3,hb3',hf3,hl3,hp3⟩:=id i3;refine wpAny_bind (wpAny_setState_of (s:={ s with heap:=h3 }) ho3 hd3 hf3 ?_)
 dsimp only
 have hroad:t3.road t = .oneByOne:=by
  unfold SetTable.road;have hp:t3.place.size=es3.size:=by
   simp only [SetTable.fits,df,beq_iff_eq] at hf3;exact hf3.1
  have hpos:0<es3.size:=by
   rw[<- bo,hel3.len];exact cq.mpr hne
  rw[if_pos];rw[bne_iff_ne];unfold SetTable.fill;omega
 rw[hroad]
 dsimp only
 refine wpAny_bind (Yc (s:={ s with heap:=h3 }) i3 hne h2' fun es4 hel4=>wpAny_bind ?_);rw[<- qw];refine wpAny_forIn_list _ (fun rest _ s'=>∃ dn ms',es4.toList=dn++rest∧s' = { s with heap:=s'.heap }∧Heap.SameBut a s.heap s'.heap∧Is w s'.heap a ms'∧(∀ x,x∈ms'↔x∈ms1∨∃ e∈dn,x=nF e.2)∧ms'.length<=ms1.length+dn.length) _ ?_ ?_ _ _ ⟨[],ms1,rfl,rfl,sb3,i3,fun x=>by simp,by simp⟩
 ·rintro⟨hh,x⟩ rest u s' ⟨dn,ms',e1,e2,sb,i4,hm,hle⟩
  obtain⟨q1,tk,q2⟩:=hel4.1 (hh,x) (by rw[e1];simp)
  dsimp only at q1 q2 ⊢
  have hlen:dn.length+(rest.length+1)=ms2.length:=by
   have:=congrArg i7 e1
   rw[hel4.len,ai,av] at this;omega
  rw[q2,q1];have sb128:scanBound=4096:=rfl;refine wpAny_bind (wpAny_holding (On (s:=s') i4 (by omega) fun h5 ms5 sb5 i5 hm5 hl5=>?_));have hb5:h5.get? b=some o:=(sb5.2 b (Ne.symm hab)).trans ((sb.2 b (Ne.symm hab)).trans ho);refine wpAny_bind (heach _ _ (fun o' z=>?_) ?_)
  ·rw[ho] at z
   cases z;exact hb5
  ·refine wpAny_bind (wpAny_setState_of (s:={ s' with heap:=h5 }) hb5 hd hf ?_)
   dsimp only
   rw[bne_self_eq_false,if_neg aj];refine wpAny_pure ⟨dn++[(hh,x)],ms5,by rw[e1,db];rfl,by rw[e2],sb.trans sb5,i5,fun y=>?_,by rw[ai,ci];omega⟩;rw[hm5,hm];constructor
   ·rintro ((z | ⟨e,he,rfl⟩) | rfl)
    ·exact .inl z
    ·exact .inr ⟨e,fi _ he,rfl⟩
    ·exact .inr ⟨(hh,x),by simp,rfl⟩
   ·rintro (z | ⟨e,he,rfl⟩)
    ·exact .inl (.inl z)
    ·rcases bt.mp he with z | z
     ·exact .inl (.inr ⟨e,z,rfl⟩)
     ·have:e=(hh,x):=by simpa using z
      subst this;exact .inr rfl
 ·rintro u s' ⟨dn,ms',e1,e2,sb,i4,hm,hle⟩
  rw[du] at e1;rw[e2];refine wpAny_pure (h _ ms' sb i4 (fun x=>?_) ?_)
  ·rw[hm,<- e1,<- hel4.2.mem_iff,a5]
   exact or_congr Iff.rfl ⟨fun ⟨e,he,z⟩=>⟨e,he,z.symm⟩,fun ⟨e,he,z⟩=>⟨e,he,z.symm⟩⟩
  ·have:=congrArg i7 e1
   rw[hel4.len] at this;omega
def dY (w:World):Obj:={ cls:=.type "set",dict:=none,data:=.set #[] 0 (.fresh 0 0 (!byT w)) }
theorem Vc {Q:Value->Shared->Prop}(h:Q (.ref s.heap.objs.size) { s with heap:=s.heap.push (dY w) }):wpAny (model prog w) A (newSet (.type "set")) Q E s:=by
 unfold newSet;refine wpAny_bind (gK ?_)
 dsimp only
 simp only [newObj];exact wpAny_bind (wpAny_alloc (wpAny_pure h))
theorem Is.fresh (h:Heap):Is w (h.push (dY w)) h.objs.size []:=by
 refine⟨dY w,#[],0,.fresh 0 0 (!byT w),Heap.get?_push_size _ rfl,⟨rfl,rfl,rfl⟩,rfl,⟨fun e he=>by simp at he,by simp⟩,ig,by decide,rfl,?_,.inl rfl⟩;cases byT w
 ·exact .inr rfl
 ·exact .inl rfl
theorem Oc {a:Addr}{n:Nat}{Q:Unit->Shared->Prop}(ho1:s.heap.get? a=some (dY w))(hn:n<=128)
  (h:∀ (h3:Heap) (o3:Obj) (ep3:Nat) (t3:SetTable),Heap.SameBut a s.heap h3->h3.get? a=some o3->o3.ExactSet->o3.data = .set #[] ep3 t3->t3.place.size=0->t3.dummies = #[]->ST.vW (t3.mask+1)->n<=t3.mask->(byT w=true∨t3.led=true)->Q () { s with heap:=h3 }) :
  wpAny (model prog w) A (setRoomFor a n) Q E s:=by
 have hled:byT w=true∨(!byT w)=true:=by cases byT w <;> simp
 unfold setRoomFor;refine wpAny_bind (wpAny_setState_of ho1 rfl rfl ?_)
 dsimp only
 unfold SetTable.roomFor;by_cases hc:((SetTable.fresh 0 0 (!byT w)).fill+n)*5≥(SetTable.fresh 0 0 (!byT w)).mask*3
 ·rw[if_pos hc]
  refine Bw (ms:=[]) ho1 rfl rfl (by show (0+n)*2<=256;omega) (b9 _) fun es' t' p1 p2 p3 p4 p5 p6=>?_
  obtain rfl:es' = #[]:=by
   have:=p1.length_eq
   rw[bo] at this;exact ln this
  obtain⟨hM,hlt⟩:=tO ((0+n)*2) (by omega);have p3':t'.mask+1=SetTable.sizeAbove ((0+n)*2):=p3;have hg:(s.heap.update a (Obj.putSet #[] t')).get? a=some { dY w with data:=.set #[] (0+1) t' }:=by
   have:=Heap.get?_update_self (Obj.putSet #[] t') ho1 (by rw[putSet_of (o:=dY w) #[] t' rfl];rfl)
   rw[putSet_of (o:=dY w) #[] t' rfl] at this;exact this
  exact h _ _ 1 t' (Heap.SameBut.update _ a _) hg ⟨rfl,rfl,rfl⟩ rfl p2 p4 (by rw[p3'];exact hM) (by omega) (hled.imp id fun z=>p5.trans z)
 ·rw[if_neg hc]
  have hc':¬ (0+n)*5≥7*3:=hc;exact wpAny_pure (h s.heap (dY w) 0 _ (Heap.SameBut.refl a _) ho1 ⟨rfl,rfl,rfl⟩ rfl rfl rfl (.inl rfl) (by show n<=7;omega) hled)
theorem Ji {a b:Addr}{ms:List Str}{Q:Unit->Shared->Prop}(hab:a≠b)(ho1:s.heap.get? a=some (dY w))(h2:Is w s.heap b ms)(hsz:ms.length<=128)
  (h:∀ h',Heap.SameBut a s.heap h'->Is w h' a ms->Q () { s with heap:=h' }):wpAny (model prog w) A (setMerge a b) Q E s:=by
 obtain⟨o,es,ep,t,ho,hex,hd,hel,hnd,hb,hf,hl,hp⟩:=id h2;have hn:es.size=ms.length:=by rw[<- hel.len,bo]
 have hled:byT w=true∨(!byT w)=true:=by cases byT w <;> simp
 unfold setMerge;rw[if_neg (show ¬ ((a==b)=true) by rw[beq_iff_eq];exact hab)];refine wpAny_bind (wpAny_setState_of ho hd hf ?_)
 dsimp only
 by_cases h0:es.isEmpty=true
 ·rw[if_pos h0]
  have e0:ms=[]:=a8.mp (by rw[<- hn];simpa using h0);subst e0;exact wpAny_pure (h s.heap (Heap.SameBut.refl a _) ⟨dY w,#[],0,.fresh 0 0 (!byT w),ho1,⟨rfl,rfl,rfl⟩,rfl,⟨fun e he=>by simp at he,by simp⟩,ig,by decide,rfl,hled,.inl rfl⟩)
 rw[if_neg h0];have hpos:0<es.size:=by
  rcases Nat.eq_zero_or_pos es.size with z | z
  ·exact absurd (by simpa using z) h0
  ·exact z
 have hpl:t.plain=false:=hp.resolve_left (by omega);refine wpAny_bind (Oc ho1 (by omega) fun h3 o3 ep3 t3 sb3 ho3 hex3 hd3 hps hdu hM hle hld3=>?_);have hf3:t3.fits (#[]:Array (Int×Value)).size=true:=by
  simp only [SetTable.fits,df,beq_iff_eq,decide_eq_true_eq,SetTable.fill,hdu];exact⟨hps,by show t3.place.size+0<=t3.mask;omega⟩
 refine wpAny_bind (wpAny_setState_of (s:={ s with heap:=h3 }) ho3 hd3 hf3 ?_)
 dsimp only
 have hled3:byT w=true∨(t3.led&&t.led)=true:=by
  rcases hld3 with z | z
  ·exact .inl z
  ·rcases hl with y | y
   ·exact .inl y
   ·exact .inr (by rw[z,y];rfl)
 have hfill:(t3.fill != 0)=false:=by
  unfold SetTable.fill;rw[hps,hdu];rfl
 unfold SetTable.road;rw[hfill,if_neg aj];by_cases hm:(t3.mask==t.mask&&t.dummies.isEmpty)=true
 ·rw[if_pos hm]
  dsimp only
  refine wpAny_storeSet_of (s:={ s with heap:=h3 }) ho3 hd3 ?_ (fits_of_scanBound hb);exact h _ (sb3.trans (Heap.SameBut.update _ a _)) (Is.store prog (t':={ mask:=t.mask,place:=t.place,dummies:=t.dummies,finger:=t3.finger,led:=t3.led&&t.led,moves:=t3.moves,plain:=t3.plain&&t.plain }) ho3 hex3 hd3 hel hnd hb hf hled3 (.inr (by show (t3.plain&&t.plain)=false;rw[hpl,ke]))).2
 ·rw[if_neg hm]
  dsimp only
  obtain⟨t',order,e1,e2,e3,e4,e5,e6,e7⟩:=ST.Ha (finger:=t3.finger) (moves:=t3.moves) (led:=t3.led&&t.led) (plain:=t3.plain&&t.plain) (hashes:=es.map (·.1)) hM (by rw[mx];exact hle);rw[e1];rw[mx] at e2 e3;have hpm:=nS e2;have hsz':(order.filterMap (es[·]?)).size=es.size:=by rw[<- bo,hpm.length_eq,bo]
  refine wpAny_bind (m:=(do
   if ((order.filterMap (es[·]?)).size != es.size)=true then unsupported "internal:set-table-lost-an-element"
   pure (order.filterMap (es[·]?),t'))) ?_
  rw[hsz',bne_self_eq_false,if_neg aj];refine wpAny_pure ?_;refine wpAny_storeSet_of (s:={ s with heap:=h3 }) ho3 hd3 ?_ (by rw[hsz'];exact fits_of_scanBound hb);have hf':t'.fits (order.filterMap (es[·]?)).size=true:=by
   simp only [SetTable.fits,df,beq_iff_eq,decide_eq_true_eq,SetTable.fill,e5];exact⟨by omega,by show t'.place.size+0<=t'.mask;omega⟩
  exact h _ (sb3.trans (Heap.SameBut.update _ a _)) (Is.store prog ho3 hex3 hd3 (hel.perm hpm) hnd (by rw[hsz'];exact hb) hf' (by rw[e6];exact hled3) (.inr (by rw[e7,hpl,ke]))).2
theorem Is.ty {a:Addr}{ms:List Str}(x:Is w s.heap a ms):s.TypeIs (.ref a) "set" := by
 obtain⟨o,_,_,_,ho,hex,_⟩:=x;exact⟨o,ho,hex.1⟩
theorem Rf {b:Addr}{ms:List Str}{Q:Value->Shared->Prop}(h2:Is w s.heap b ms)(hsz:ms.length<=128)
  (h:∀ h',(∀ x o,s.heap.get? x=some o->h'.get? x=some o)->Is w h' s.heap.objs.size ms->Q (.ref s.heap.objs.size) { s with heap:=h' }):wpAny (model prog w) A (Builtin.Frozenset.copyOf b) Q E s:=by
 unfold Builtin.Frozenset.copyOf Builtin.Frozenset.baseOf;refine wpAny_bind (wpAny_bind (wpAny_isInstance h2.ty sub_set_self (wpAny_pure ?_)));rw[if_pos rfl];refine wpAny_bind (Vc ?_);refine wpAny_bind (m:=Builtin.Frozenset.addrOf (.ref s.heap.objs.size)) (wpAny_pure ?_);obtain⟨o,ho⟩:=h2.there;have hlt:=Heap.lt_size ho;refine wpAny_bind (Ji (s:={ s with heap:=s.heap.push (dY w) }) (g0 hlt) (Heap.get?_push_size _ rfl) (h2.at fun o e=>Heap.get?_push_of_some _ e) hsz fun h' sb i=>wpAny_pure ?_);exact h h' (fun x o e=>(sb.2 x (a9 (Heap.lt_size e))).trans (Heap.get?_push_of_some _ e)) i
theorem Lz:entryFor table "set.__or__" = some Builtin.«frozenset.__or__» :=
 entryFor_alias (id' := "frozenset.__or__") (by kernel_rfl) (by first | rfl | decide +kernel | (unfold String.splitOn;simp +decide [String.splitOnAux])) (by decide +kernel) (by kernel_rfl)
theorem Yv {a b:Addr}{ms1 ms2:List Str}{Q:Value->Shared->Prop}(hab:a≠b)(h1:Is w s.heap a ms1)(h2:Is w s.heap b ms2)(hne:ms1≠[])(hsz:ms1.length+ms2.length<=128)
  (h:∀ h' ms',(∀ x o,s.heap.get? x=some o->h'.get? x=some o)->Is w h' s.heap.objs.size ms'->(∀ x,x∈ms'↔x∈ms1∨x∈ms2)->ms'.length<=ms1.length+ms2.length->Q (.ref s.heap.objs.size) { s with heap:=h' }) :
  wpAny (model prog w) A (binaryOp .BitOr (.ref a) (.ref b)) Q E s:=by
 refine wpAny_binaryOp_same h1.ty h2.ty F.fills_set_or F.slot_set_or (wpAny_call_entry F.slot_set_or h1.ty Lz ?_ (F.args_set_or_2 _ _));refine wpAny_bind (m:=Builtin.Frozenset.slot1 "__or__" ⟨[.ref a,.ref b],[]⟩) (wpAny_pure (a:=(Value.ref a,Value.ref b)) ?_)
 dsimp only
 simp only [dq,↓reduceIte];have any:∀ (c:Addr) (ms:List Str) (A':Around) (s':Shared) (Q':Bool->Shared->Prop),Is w s'.heap c ms->Q' true s'->wpAny (model prog w) A' (Builtin.Frozenset.isAnySet (.ref c)) Q' E s':=fun c ms A' s' Q' hc hQ=>by
  unfold Builtin.Frozenset.isAnySet;refine wpAny_bind (m:=isInstance (.ref c) (.type "set")) (wpAny_isInstance hc.ty sub_set_self ?_)
  exact wpAny_pure hQ
 refine wpAny_bind (m:=Builtin.Frozenset.isAnySet (.ref a) <&&> Builtin.Frozenset.isAnySet (.ref b)) ?_;refine wpAny_bind (m:=Builtin.Frozenset.isAnySet (.ref a)) (any a ms1 _ s _ h1 ?_);refine any b ms2 _ s _ h2 ?_;simp only [nh,dq,↓reduceIte];refine wpAny_bind (m:=Builtin.Frozenset.addrOf (.ref a)) (wpAny_pure ?_);refine wpAny_bind ?_;refine wpAny_bind (m:=Builtin.Frozenset.copyOf a) (Rf h1 (by omega) fun h3 kp3 i3=>?_);have hb:(Value.ref b != Value.ref a)=true:=by
  rw[bne_iff_ne];exact fun z=>hab (by cases z;rfl)
 have hlt:=Heap.lt_size h2.there.choose_spec;have h2':Is w h3 b ms2:=h2.at fun o e=>kp3 b o e
 have nb:s.heap.objs.size≠b:=g0 hlt;rw[hb,if_pos rfl];refine wpAny_bind (m:=holding [.ref s.heap.objs.size] (do Builtin.Frozenset.updateFrom _ (<- Builtin.Frozenset.addrOf (.ref s.heap.objs.size)) (.ref b))) (wpAny_holding ?_);refine wpAny_bind (m:=Builtin.Frozenset.addrOf (.ref s.heap.objs.size)) (wpAny_pure ?_);unfold Builtin.Frozenset.updateFrom;refine wpAny_bind (m:=Builtin.Frozenset.isAnySet (.ref b)) (any b ms2 _ { s with heap:=h3 } _ h2' ?_);rw[if_pos rfl];refine wpAny_bind (m:=Builtin.Frozenset.addrOf (.ref b)) (wpAny_pure ?_);unfold Builtin.Frozenset.merge;obtain⟨o,es,ep,t,ho,hex,hd,hel,hnd,hbs,hf,hl,hp⟩:=id h2';refine wpAny_bind (wpAny_setEpoch_of (s:={ s with heap:=h3 }) ho hd hf ?_);refine Oj (s:={ s with heap:=h3 }) nb i3 h2' hne hsz (fun s' Q' keep hQ=>?_) fun h4 ms' sb4 i4 hm hle=>?_
 ·unfold Builtin.Frozenset.unchanged
  refine wpAny_bind (wpAny_setEpoch_of (s:=s') (keep o ho) hd hf ?_);rw[bne_self_eq_false,if_neg aj];exact wpAny_pure hQ
 ·refine wpAny_pure (wpAny_pure ⟨_,rfl,(by intro z;cases z),h h4 ms' (fun x o' e=>(sb4.2 x (a9 (Heap.lt_size e))).trans (kp3 x o' e)) i4 hm hle⟩)
end
theorem dU:Slot "set_iterator" "__next__" "set_iterator.__next__" :=
 .of (owner := "set_iterator") (n := "__next__") (by rw[typeLookup_type,builtinLookup_eq_fast];kernel_rfl) (by decide +kernel) (by decide +kernel) (by decide +kernel) (by first | exact .inl (by decide +kernel) | exact .inr (by decide +kernel)) (by rw[isSubtype_type];kernel_rfl)
theorem kD:entryFor table "set_iterator.__next__" = some Builtin.«set_iterator.__next__» := entryFor_of_tree (by kernel_rfl)
theorem lU (a:Value):argsOk "set_iterator.__next__" ⟨[a],[]⟩:=by unfold argsOk;kernel_rfl
theorem xF:Slot "set_iterator" "__iter__" "set_iterator.__iter__" :=
 .of (owner := "set_iterator") (n := "__iter__") (by rw[typeLookup_type,builtinLookup_eq_fast];kernel_rfl) (by decide +kernel) (by decide +kernel) (by decide +kernel) (by first | exact .inl (by decide +kernel) | exact .inr (by decide +kernel)) (by rw[isSubtype_type];kernel_rfl)
theorem La (a:Value):argsOk "set_iterator.__iter__" ⟨[a],[]⟩:=by unfold argsOk;kernel_rfl
theorem Fb:entryFor table "set_iterator.__iter__" = some Builtin.«dict_keyiterator.__iter__» :=
 entryFor_alias (id' := "dict_keyiterator.__iter__") (by kernel_rfl) (by first | rfl | decide +kernel | (unfold String.splitOn;simp +decide [String.splitOnAux])) (by decide +kernel) (by kernel_rfl)
theorem Ep:entryFor table "set.__iter__" = some Builtin.«frozenset.__iter__» :=
 entryFor_alias (id' := "frozenset.__iter__") (by kernel_rfl) (by first | rfl | decide +kernel | (unfold String.splitOn;simp +decide [String.splitOnAux])) (by decide +kernel) (by kernel_rfl)
def It (h:Heap)(I a:Addr)(first:Value)(i n ep:Nat):Prop:=∃ o,h.get? I=some o∧o.cls = .type "set_iterator" ∧ o.data = .fields #[first,rawInt (i:Int),.ref a,rawInt (n:Int),rawInt (ep:Int)]
theorem It.at {h h':Heap}{I a:Addr}{first:Value}{i n ep:Nat}(x:It h I a first i n ep)(e:∀ o,h.get? I=some o->h'.get? I=some o):It h' I a first i n ep:=let ⟨o,ho,r⟩:=x;⟨o,e _ ho,r⟩
section
variable {prog:Program}{w:World}{A:Around}{E:Value->Shared->Prop}{s:Shared}
theorem It.ty {I a:Addr}{first:Value}{i n ep:Nat}(x:It s.heap I a first i n ep):s.TypeIs (.ref I) "set_iterator" := let ⟨o,ho,hc,_⟩:=x;⟨o,ho,hc⟩
theorem Hv {α:Type}{I:Addr}{s0 s:Shared}{Q:Option Value->Shared->Prop}(hh:A.handled=none)(hQ:∀ h',(∀ b o,s.heap.get? b=some o->h'.get? b=some o)->Q none { s with heap:=h' }) :
  wpAny (model prog w) A.in1 (newExc (.type "StopIteration") [] >>= fun e=>(raiseNew e:Sem Fin)) (fun fin s'=>∃ v,fin = .done (.ret v)∧wpAny (model prog w) A (pure (some v)) Q E s')
   (fun e s'=>wpAny (model prog w) A (do if <- isInstance e (.type "StopIteration") then pure none else throw e) Q E s') s:=by
 refine wpAny_bind ?_;simp only [newExc,newTuple];refine wpAny_bind (wpAny_newObj_type ?_ (by size_fits));refine wpAny_bind (m:=firstArgMember _ _) (wpAny_of_eq (a:=Value.none) (by first | rfl | (simp only [firstArgMember];rfl)) ?_);refine wpAny_newObj_type ?_ (by size_fits);simp only [raiseNew];refine wpAny_bind (wpAny_handled ?_)
 first | rw[show A.in1.handled=none from hh] | rw[hh]
 refine wpAny_bind (wpAny_pure (wpAny_throw ?_));refine wpAny_bind (wpAny_isInstance (T := "StopIteration") (b:=true) ⟨_,Heap.get?_push_size _ rfl,rfl⟩ isSubtype_stop ?_)
 refine wpAny_pure (hQ _ fun b ob eb=>?_);exact Heap.get?_push_of_some _ (Heap.get?_push_of_some _ eb)
theorem Px {I a:Addr}{o:Obj}{es:Array (Int×Value)}{ep i slot nx:Nat}{t:SetTable}{x:Value}{Q:Option Value->Shared->Prop}(hI:It s.heap I a (rawInt (slot:Int)) i es.size ep)(hne:a≠I)(ho:s.heap.get? a=some o)(hd:o.data = .set es ep t)(hf:t.fits es.size=true)
  (hN:∀ (A':Around) (E':Value->Shared->Prop) (Q':Option (Value×Nat)->Shared->Prop),Q' (some (x,nx)) s->wpAny (model prog w) A' (setNext a slot i ep) Q' E' s)
  (hQ:∀ h',It h' I a (rawInt (nx:Int)) (i+1) es.size ep->Heap.SameBut I s.heap h'->Q (some x) { s with heap:=h' }):wpAny (model prog w) A (pyNext (.ref I)) Q E s:=by
 obtain⟨oi,hoi,hci,hdi⟩:=id hI;unfold pyNext;refine wpAny_bind (wpAny_attempt (wpAny_callSpecial?_slot (name:=Str.ofString "__next__") hI.ty dU (wpAny_call_entry dU hI.ty kD ?_ (lU _))))
 unfold Builtin.«set_iterator.__next__»;refine wpAny_bind (wpAny_of_eq (a:=(Value.ref I,[])) rfl ?_)
 try dsimp only
 refine wpAny_bind (wpAny_fieldsOf hoi hdi ?_)
 dsimp only [rawInt]
 refine wpAny_bind (wpAny_setEntries_of ho hd hf ?_);rw[if_neg (by simp)];refine wpAny_bind (m:=setNext a (slot:Int).toNat (i:Int).toNat (ep:Int).toNat) ?_;rw[bv,bv,bv];refine hN _ _ _ ?_
 dsimp only
 refine wpAny_bind (wpAny_setField hoi hdi (by simp) ?_);have h2:=Heap.get?_update_self (Obj.mapFields (·.setIfInBounds 0 (rawInt (nx:Int)))) hoi (Obj.isFreed_of_fields (Obj.data_mapFields hdi _));refine wpAny_bind (wpAny_setField h2 (Obj.data_mapFields hdi _) (by simp) ?_);refine wpAny_pure ⟨_,rfl,wpAny_pure (hQ _ ?_ ((Heap.SameBut.update ..).trans (Heap.SameBut.update ..)))⟩;exact⟨_,Heap.get?_update_self _ h2 (Obj.isFreed_of_fields (Obj.data_mapFields (Obj.data_mapFields hdi _) _)),(Obj.cls_mapFields ..).trans ((Obj.cls_mapFields ..).trans hci),by rw[Obj.data_mapFields (Obj.data_mapFields hdi _)];simp[rawInt]⟩
theorem Rn {I a:Addr}{o:Obj}{es:Array (Int×Value)}{ep i slot:Nat}{t:SetTable}{Q:Option Value->Shared->Prop}(hh:A.handled=none)(hI:It s.heap I a (rawInt (slot:Int)) i es.size ep)(hne:a≠I)(ho:s.heap.get? a=some o)(hd:o.data = .set es ep t)(hf:t.fits es.size=true)
  (hN:∀ (A':Around) (E':Value->Shared->Prop) (Q':Option (Value×Nat)->Shared->Prop),Q' none s->wpAny (model prog w) A' (setNext a slot i ep) Q' E' s)
  (hQ:∀ h',Heap.ExtBut I s.heap h'->Q none { s with heap:=h' }):wpAny (model prog w) A (pyNext (.ref I)) Q E s:=by
 obtain⟨oi,hoi,hci,hdi⟩:=id hI;unfold pyNext;refine wpAny_bind (wpAny_attempt (wpAny_callSpecial?_slot (name:=Str.ofString "__next__") hI.ty dU (wpAny_call_entry dU hI.ty kD ?_ (lU _))))
 unfold Builtin.«set_iterator.__next__»;refine wpAny_bind (wpAny_of_eq (a:=(Value.ref I,[])) rfl ?_)
 try dsimp only
 refine wpAny_bind (wpAny_fieldsOf hoi hdi ?_)
 dsimp only [rawInt]
 refine wpAny_bind (wpAny_setEntries_of ho hd hf ?_);rw[if_neg (by simp)];refine wpAny_bind (m:=setNext a (slot:Int).toNat (i:Int).toNat (ep:Int).toNat) ?_;rw[bv,bv,bv];refine hN _ _ _ ?_
 dsimp only
 refine wpAny_bind (wpAny_setField hoi hdi (by simp) ?_);refine wpAny_mono (Hv (α:=Unit) (I:=I) (s0:=s) (Q:=Q) (E:=E) hh fun h' kp=>hQ h' fun b ob hb eb=>kp b ob ((Heap.get?_update_other _ _ (Ne.symm hb)).trans eb)) (fun fin s' z=>z) fun e s' z=>z
theorem Ls {I a tp:Addr}{o ot:Obj}{es:Array (Int×Value)}{ep i p nt:Nat}{t:SetTable}{x:Int×Value}{ps:List Nat}{Q:Option Value->Shared->Prop}(hI:It s.heap I a (.ref tp) i es.size ep)(ho:s.heap.get? a=some o)(hd:o.data = .set es ep t)(hf:t.fits es.size=true)
  (hot:s.heap.get? tp=some ot) (hdt:ot.data = .seq (ps.map fun j:Nat=>rawInt (j:Int)).toArray nt) (hp:ps[i]?=some p) (hx:es[p]?=some x)
  (hQ:∀ h',It h' I a (.ref tp) (i+1) es.size ep->Heap.SameBut I s.heap h'->Q (some x.2) { s with heap:=h' }):wpAny (model prog w) A (pyNext (.ref I)) Q E s:=by
 obtain⟨oi,hoi,hci,hdi⟩:=id hI;unfold pyNext;refine wpAny_bind (wpAny_attempt (wpAny_callSpecial?_slot (name:=Str.ofString "__next__") hI.ty dU (wpAny_call_entry dU hI.ty kD ?_ (lU _))))
 unfold Builtin.«set_iterator.__next__»;refine wpAny_bind (wpAny_of_eq (a:=(Value.ref I,[])) rfl ?_)
 try dsimp only
 refine wpAny_bind (wpAny_fieldsOf hoi hdi ?_)
 dsimp only [rawInt]
 refine wpAny_bind (wpAny_setEntries_of ho hd hf ?_);rw[if_neg (by simp)];refine wpAny_bind (wpAny_seqItems hot hdt ?_)
 dsimp only
 rw[bv,lh,ag,hp]
 dsimp only [ue,rawInt]
 refine wpAny_bind (m:=setNextDrawn a (p:Int).toNat (ep:Int).toNat) ?_;rw[bv,bv];unfold setNextDrawn;refine wpAny_bind (wpAny_setState_of ho hd hf ?_)
 dsimp only
 rw[bne_self_eq_false,if_neg aj,hx];refine wpAny_pure ?_;refine wpAny_bind (wpAny_setField hoi hdi (by simp) ?_);refine wpAny_pure ⟨_,rfl,wpAny_pure (hQ _ ?_ (Heap.SameBut.update ..))⟩;exact⟨_,Heap.get?_update_self _ hoi (Obj.isFreed_of_fields (Obj.data_mapFields hdi _)),(Obj.cls_mapFields ..).trans hci,by rw[Obj.data_mapFields hdi];simp[rawInt]⟩
theorem Sd {I a tp:Addr}{o ot:Obj}{es:Array (Int×Value)}{ep i nt:Nat}{t:SetTable}{ps:List Nat}{Q:Option Value->Shared->Prop}(hh:A.handled=none)(hI:It s.heap I a (.ref tp) i es.size ep)(ho:s.heap.get? a=some o)(hd:o.data = .set es ep t)(hf:t.fits es.size=true)
  (hot:s.heap.get? tp=some ot) (hdt:ot.data = .seq (ps.map fun j:Nat=>rawInt (j:Int)).toArray nt) (hp:ps[i]?=none)
  (hQ:∀ h',Heap.ExtBut I s.heap h'->Q none { s with heap:=h' }):wpAny (model prog w) A (pyNext (.ref I)) Q E s:=by
 obtain⟨oi,hoi,hci,hdi⟩:=id hI;unfold pyNext;refine wpAny_bind (wpAny_attempt (wpAny_callSpecial?_slot (name:=Str.ofString "__next__") hI.ty dU (wpAny_call_entry dU hI.ty kD ?_ (lU _))))
 unfold Builtin.«set_iterator.__next__»;refine wpAny_bind (wpAny_of_eq (a:=(Value.ref I,[])) rfl ?_)
 try dsimp only
 refine wpAny_bind (wpAny_fieldsOf hoi hdi ?_)
 dsimp only [rawInt]
 refine wpAny_bind (wpAny_setEntries_of ho hd hf ?_);rw[if_neg (by simp)];refine wpAny_bind (wpAny_seqItems hot hdt ?_)
 dsimp only
 rw[bv,lh,ag,hp]
 dsimp only [ue]
 refine wpAny_bind (wpAny_setField hoi hdi (by simp) ?_);have h2:=Heap.get?_update_self (Obj.mapFields (·.setIfInBounds 0 (rawInt 0))) hoi (Obj.isFreed_of_fields (Obj.data_mapFields hdi _));refine wpAny_bind (wpAny_setField h2 (Obj.data_mapFields hdi _) (by simp) ?_);refine wpAny_mono (Hv (α:=Unit) (I:=I) (s0:=s) (Q:=Q) (E:=E) hh fun h' kp=>hQ h' fun b ob hb eb=>kp b ob ((Heap.get?_update_other _ _ (Ne.symm hb)).trans ((Heap.get?_update_other _ _ (Ne.symm hb)).trans eb))) (fun fin s' z=>z) fun e s' z=>z
theorem Iw {I a:Addr}{first:Value}{i n ep:Nat}{Q:Value->Shared->Prop}(hI:It s.heap I a first i n ep)(h:Q (.ref I) s):wpAny (model prog w) A (pyIter (.ref I)) Q E s:=by
 refine wpAny_pyIter_slot hI.ty xF (wpAny_call_entry xF hI.ty Fb ?_ (La _));show wpAny _ _ (ret (.ref I)) _ _ s;exact wpAny_pure ⟨_,rfl, "set_iterator",_,hI.ty,dU.lookup,h⟩
theorem zG {M:Model}{src:Source}{n:Nat}{Q:Nat->Shared->Prop}(hn:n≠0)(h:∀ i d,i<n->Q i { s with drawn:=d }):wpAny M A (choose src n) Q E s:=fun Γ p hΓ=>⟨hn,h _ _ (jc _ (kx hn))⟩
theorem Sz {α:Type}:∀ (xs:List α) (s:Shared) (Q:List α->Shared->Prop),(∀ ys d,ys.Perm xs->Q ys { s with drawn:=d })->wpAny (model prog w) A (drawOrder xs.length xs) Q E s:=by
 intro xs;generalize hn:xs.length=n
 induction n generalizing xs with
 | zero =>
  intro s Q h;obtain rfl:=a8.mp hn;rw[drawOrder];exact wpAny_pure (h [] s.drawn (ie _))
 | succ n ih =>
  intro s Q h
  cases xs with
  | nil=>cases hn
  | cons x xs =>
   rw[drawOrder]
   rotate_left
   ·intro z
    cases z
   refine wpAny_bind (zG (by simp) fun i d hi=>?_);rw[ac hi]
   dsimp only
   refine wpAny_bind (ih ((x::xs).eraseIdx i) (by rw[mw hi,hn];rfl) _ _ fun ys d2 hp=>wpAny_pure ?_);exact h _ d2 ((hp.cons _).trans (mQ _ i hi))
end
theorem Lx {prog:Program}{w:World}{A:Around}{a I:Addr}{o:Obj}{es:Array (Int×Value)}{ep:Nat}{t:SetTable}{L:List (Int×Value)}{slots:Nat->Nat}(hh:A.handled=none)(hne:a≠I)(hd:o.data = .set es ep t)(hf:t.fits es.size=true)
  (hN:∀ (i:Nat) (s:Shared) (A':Around) (E':Value->Shared->Prop) (Q':Option (Value×Nat)->Shared->Prop),s.heap.get? a=some o->i<=L.length->Q' ((L[i]?).map fun e=>(e.2,slots (i+1))) s->wpAny (model prog w) A' (setNext a (slots i) i ep) Q' E' s) :
  Walks prog w A I [I,a] [I] L.length (fun i v=>(L.map (·.2))[i]?=some v) (fun i h=>h.get? a=some o∧It h I a (rawInt (slots i:Int)) i es.size ep) where
 sub:=fun b hb=>by simp at hb;simp[hb]
 frame:=fun _ _ _ y hk=>⟨hk a (by simp) o y.1,y.2.at fun o e=>hk I (by simp) o e⟩
 item:=fun i s Q E hi y hQ=>by
  refine Px (x:=L[i].2) (nx:=slots (i+1)) y.2 hne y.1 hd hf (fun A' E' Q' q=>hN i s A' E' Q' y.1 (by omega) ?_) fun h' hit hs=>?_
  ·rw[ac hi]
   exact q
  ·exact hQ _ h' s.toks (by rw[ag,ac hi];rfl) ⟨(hs.2 a hne).trans y.1,hit⟩ fun b o hb eo=>hs.extBut b o (fun h=>hb (by simp[h])) eo
 done:=fun s Q E y hQ=>by
  refine Rn hh y.2 hne y.1 hd hf (fun A' E' Q' q=>hN L.length s A' E' Q' y.1 (ah _) ?_) fun h' he=>hQ h' s.toks fun b o hb eo=>he b o (fun h=>hb (by simp[h])) eo
  rw[ca (ah _)];exact q
 self:=fun _ _ _ _ y hQ=>Iw y.2 hQ
theorem Md {prog:Program}{w:World}{A:Around}{a I tp:Addr}{o ot:Obj}{es:Array (Int×Value)}{ep nt:Nat}{t:SetTable}{ps:List Nat}(hh:A.handled=none)(hne:a≠I)(hnt:tp≠I)(hd:o.data = .set es ep t)(hf:t.fits es.size=true)
  (hdt:ot.data = .seq (ps.map fun j:Nat=>rawInt (j:Int)).toArray nt) (hps:∀ p∈ps,p<es.size) :
  Walks prog w A I [I,a,tp] [I] ps.length (fun i v=>(ps.map fun p=>(es.getD p (0,.none)).2)[i]?=some v) (fun i h=>h.get? a=some o∧h.get? tp=some ot∧It h I a (.ref tp) i es.size ep) where
 sub:=fun b hb=>by simp at hb;simp[hb]
 frame:=fun _ _ _ y hk=>⟨hk a (by simp) o y.1,hk tp (by simp) ot y.2.1,y.2.2.at fun o e=>hk I (by simp) o e⟩
 item:=fun i s Q E hi y hQ=>by
  have hp:ps[i]?=some ps[i]:=ac hi;have hlt:=hps _ (di hi);have hx:es[ps[i]]?=some (es[ps[i]]'hlt):=my hlt;refine Ls y.2.2 y.1 hd hf y.2.1 hdt hp hx fun h' hit hs=>?_
  refine hQ _ h' s.toks ?_ ⟨(hs.2 a hne).trans y.1,(hs.2 tp hnt).trans y.2.1,hit⟩ fun b o hb eo=>hs.extBut b o (fun h=>hb (by simp[h])) eo
  rw[ag,hp];show some (es.getD ps[i] (0,Value.none)).2=_;rw[gu,hx];rfl
 done:=fun s Q E y hQ=>Sd hh y.2.2 y.1 hd hf y.2.1 hdt (ca (ah _)) fun h' he=>hQ h' s.toks fun b o hb eo=>he b o (fun h=>hb (by simp[h])) eo
 self:=fun _ _ _ _ y hQ=>Iw y.2.2 hQ
theorem Cw {w:World}:∀ L:List (Int×Value),(∀ e∈L,El w e)->StrsAre (L.map (·.2)) (L.map fun e=>nF e.2)
 | [],_=>.nil
 | e::L,h=>by
  obtain⟨_,tk,q⟩:=h e (ar ..);rw[au,au];have r:=Cw L fun x hx=>h x (am _ hx)
  have z:StrsAre (Value.str (nF e.2) tk::L.map (·.2)) (nF e.2::L.map fun e=>nF e.2):=.cons _ _ r;rw[<- q] at z;exact z
section
variable {prog:Program}{w:World}{A:Around}{E:Value->Shared->Prop}{s:Shared}
theorem Tb {a:Addr}{ms:List Str}{Q:Value->Shared->Prop}(hS:Is w s.heap a ms)
  (h:∀ (h':Heap) (d:Drawn) (I:Addr) (fp:List Addr) (xs:List Value) (ss:List Str) (St:Nat->Heap->Prop),(∀ A':Around,A'.handled=none->Walks prog w A' I fp [I] xs.length (fun i v=>xs[i]?=some v) St)->St 0 h' ->
   (∀ b o,s.heap.get? b=some o->h'.get? b=some o)->s.heap.objs.size<=I->(∀ b∈fp,b=a∨s.heap.objs.size<=b)->StrsAre xs ss->ss.Perm ms->Q (.ref I) { s with heap:=h',drawn:=d }) :
  wpAny (model prog w) A (pyIter (.ref a)) Q E s:=by
 obtain⟨o,es,ep,t,ho,hex,hd,hel,hnd,hb,hf,hl,hp⟩:=id hS;have hlt:=Heap.lt_size ho;have hps:t.place.size=es.size:=by
  simp only [SetTable.fits,df,beq_iff_eq] at hf;exact hf.1
 refine wpAny_pyIter_slot hS.ty F.slot_set_iter (wpAny_call_entry F.slot_set_iter hS.ty Ep ?_ (F.args_set_iter_1 _));unfold Builtin.«frozenset.__iter__»;refine wpAny_bind (m:=Builtin.Frozenset.slot0 "__iter__" ⟨[.ref a],[]⟩) (wpAny_of_eq (a:=a) rfl ?_)
 unfold Builtin.Frozenset.sizeOf;refine wpAny_bind (wpAny_bind (wpAny_setEntries_of ho hd hf (wpAny_pure ?_)));have hlist:∀ L:List (Int×Value),L.Perm es.toList->StrsAre (L.map (·.2)) (L.map fun e=>nF e.2)∧(L.map fun e=>nF e.2).Perm ms:=fun L hp=>⟨Cw L (hel.perm hp).1,(hel.perm hp).2⟩
 have fin:∀ (L:List (Int×Value)) (slots:Nat->Nat),slots 0=0->L.Perm es.toList->(∀ (i:Nat) (s:Shared) (A':Around) (E':Value->Shared->Prop) (Q':Option (Value×Nat)->Shared->Prop),s.heap.get? a=some o->i<=L.length->Q' ((L[i]?).map fun e=>(e.2,slots (i+1))) s->wpAny (model prog w) A' (setNext a (slots i) i ep) Q' E' s) ->
   wpAny (model prog w) A.in1 (setEpoch a >>= fun e=>newFields "set_iterator" [rawInt 0,rawInt 0,.ref a,rawInt (es.size:Int),rawInt (e:Int)] >>= ret) (fun fin s'=>∃ v,fin = .done (.ret v)∧∃ (T:String) (r:Value),s'.TypeIs v T∧typeLookup (.type T) "__next__" = pure (some r)∧Q v s') E s:=fun L slots h0 hL hN=>by
  refine wpAny_bind (wpAny_setEpoch_of ho hd hf ?_);have hI:It (s.heap.push { cls:=.type "set_iterator",data:=.fields #[rawInt 0,rawInt 0,.ref a,rawInt (es.size:Int),rawInt (ep:Int)] }) s.heap.objs.size a (rawInt (slots 0:Int)) 0 es.size ep:=⟨_,Heap.get?_push_size _ rfl,rfl,by rw[h0];rfl⟩
  obtain⟨q1,q2⟩:=hlist L hL;refine wpAny_bind (wpAny_newObj_type (wpAny_pure ⟨_,rfl, "set_iterator",_,⟨_,Heap.get?_push_size _ rfl,rfl⟩,dU.lookup,?_⟩))
  have z:=h (s.heap.push { cls:=.type "set_iterator",data:=.fields #[rawInt 0,rawInt 0,.ref a,rawInt (es.size:Int),rawInt (ep:Int)] }) s.drawn s.heap.objs.size [s.heap.objs.size,a] (L.map (·.2)) _ (fun i h=>h.get? a=some o∧It h s.heap.objs.size a (rawInt (slots i:Int)) i es.size ep) (fun A' hA'=>by
     rw[aR];exact Lx hA' (a9 hlt) hd hf hN) ⟨Heap.get?_push_of_some _ ho,hI⟩ (fun b o e=>Heap.get?_push_of_some _ e) (ah _) (fun b hb=>by
     rcases aw.mp hb with rfl | hb
     · exact .inr (ah _)
     · exact .inl (ax.mp hb)) q1 q2
  exact z
 have hdrw:∀ (Q':Bool->Shared->Prop),Q' (!byT w&&(!t.plain&&decide (es.size>1))) s->wpAny (model prog w) A.in1 (setDrawn a) Q' E s:=fun Q' q=>by
  unfold setDrawn;refine wpAny_bind (wpAny_setState_of ho hd hf ?_)
  dsimp only
  exact wpAny_bind (gK (wpAny_pure q))
 refine wpAny_bind (hdrw _ ?_);by_cases hby:byT w=true
 ·rw[hby]
  simp only [nh,ph,dq,↓reduceIte];refine wpAny_bind (wpAny_pure ?_);refine fin (pickOrder (w.params.setOrder a ep) es).toList (fun _=>0) rfl (xH _ _) fun i s' A' E' Q' ho' hi q=>?_
  unfold setNext;refine wpAny_bind (wpAny_setState_of ho' hd hf ?_)
  dsimp only
  refine wpAny_bind (gK ?_);rw[hby,if_pos rfl,bne_self_eq_false,if_neg aj];unfold setWalk;refine wpAny_bind (wpAny_bind (wpAny_setState_of ho' hd hf ?_))
  dsimp only
  refine wpAny_bind (gK ?_);rw[hby,if_pos rfl];refine wpAny_bind (wpAny_askSetting (wpAny_pure (wpAny_pure ?_)));rw[li] at q;exact q
 ·have hbf:byT w=false:=lc.mpr hby
  have hld:t.led=true:=hl.resolve_left hby;by_cases h1:es.size<=1
  ·have hnot:(!byT w&&(!t.plain&&decide (es.size>1)))=false:=by rw[decide_eq_false (by omega)];simp
   rw[hnot];simp only [dq,↓reduceIte];refine wpAny_bind (wpAny_pure ?_);have hN:∀ (slot i:Nat) (s':Shared) (A':Around) (E':Value->Shared->Prop) (Q':Option (Value×Nat)->Shared->Prop),s'.heap.get? a=some o ->
       Q' (match es[SetTable.below t.place slot]?,t.place[SetTable.below t.place slot]? with | some (_,x),some j=>some (x,j+1) | _,_=>none) s'->wpAny (model prog w) A' (setNext a slot i ep) Q' E' s':=fun slot i s' A' E' Q' ho' q=>by
     unfold setNext;refine wpAny_bind (wpAny_setState_of ho' hd hf ?_)
     dsimp only
     refine wpAny_bind (gK ?_);rw[hbf,if_neg aj];have hdr:(!t.plain&&decide (es.size>1))=false:=by rw[decide_eq_false (by omega)];simp
     show wpAny _ _ (if (!t.plain&&decide (es.size>1))=true then _ else _) _ _ s';rw[hdr,if_neg aj];refine wpAny_bind (m:=if (!t.led && !es.isEmpty)=true then unsupported "set:maker-not-led" else pure ()) ?_
     rw[hld];simp only [nh,ph,dq,↓reduceIte];exact wpAny_pure (wpAny_pure q)
   by_cases h0:es.size=0
   · have ee:es = #[]:=ln h0
     refine fin [] (fun _=>0) rfl (by rw[ee]) fun i s' A' E' Q' ho' hi q=>hN 0 i s' A' E' Q' ho' ?_
     rw[ee,Array.getElem?_eq_none (by simp)];exact q
   · obtain⟨e0,he0⟩:∃ e0,es = #[e0]:=by
       obtain⟨l⟩:=es
       match l,h0,h1 with
       | [e0],_,_=>exact⟨e0,rfl⟩
       | [],h,_=>exact absurd rfl h
       | _::_::_,_,h=>simp at h
     obtain⟨j,hj⟩:∃ j,t.place = #[j]:=by
       rw[he0] at hps
       cases hpl:t.place with
       | mk l =>
         rw[hpl] at hps
         match l,hps with
         | [j],_=>exact⟨j,rfl⟩
     refine fin [e0] (fun i=>if i=0 then 0 else j+1) rfl (by rw[he0]) fun i s' A' E' Q' ho' hi q=>hN _ i s' A' E' Q' ho' ?_
     have b0:SetTable.below #[j] 0=0:=by
       simp[SetTable.below,SetTable.below.go]
     have b1:SetTable.below #[j] (j+1)=1:=by
       simp[SetTable.below,SetTable.below.go]
     match i,hi with
     | 0,_ =>
       rw[if_pos rfl,hj,b0,he0];exact q
     | 1,_ =>
       rw[if_neg (by decide),hj,b1,he0];exact q
  ·have hpl:t.plain=false:=hp.resolve_left (by omega)
   have hyes:(!byT w&&(!t.plain&&decide (es.size>1)))=true:=by rw[hbf,hpl,decide_eq_true (by omega)];rfl
   rw[hyes,if_pos rfl];have hr:(bu es.size).length=es.size:=cn;refine wpAny_bind (m:=drawOrder es.size (bu es.size)) ?_;have dr:=Sz (prog:=prog) (w:=w) (A:=A.in1) (E:=E) (bu es.size) s;rw[hr] at dr;refine dr _ fun ps d hpp=>?_
   have hpl:ps.length=es.size:=by rw[hpp.length_eq,hr]
   have hs:sizeLine=16777216:=sizeLine_eq;have sb:scanBound=4096:=rfl;refine wpAny_bind (wpAny_newTuple ?_ (by rw[aR];omega));generalize hot:({ cls:=.type "tuple",data:=.seq (ps.map fun j:Nat=>rawInt (j:Int)).toArray }:Obj)=ot
   have hg:(s.heap.push ot).get? s.heap.objs.size=some ot:=Heap.get?_push_size _ (by rw[<- hot];rfl);have ho2:(s.heap.push ot).get? a=some o:=Heap.get?_push_of_some _ ho;refine wpAny_bind (wpAny_setEpoch_of (s:={ s with heap:=s.heap.push ot,drawn:=d }) ho2 hd hf ?_);refine wpAny_bind (wpAny_newObj_type (wpAny_pure ⟨_,rfl, "set_iterator",_,⟨_,Heap.get?_push_size _ rfl,rfl⟩,dU.lookup,?_⟩))
   have hsz:(s.heap.push ot).objs.size=s.heap.objs.size+1:=Heap.size_push _ _;have hfm:(ps.map fun p=>es.getD p (0,Value.none)).Perm es.toList:=by
     have e1:(bu es.size).map (fun p=>es.getD p (0,Value.none))=es.toList:=by
       apply List.ext_getElem
       · simp
       · intro i g1 g2
         have g3:i<es.size:=by simpa using g1
         simp[gu,g3]
     exact (hpp.map _).trans (by rw[e1])
   obtain⟨q1,q2⟩:=hlist _ hfm;rw[bx,bx] at q1;rw[bx] at q2;have hps':∀ p∈ps,p<es.size:=fun p hp=>ck.mp (hpp.mem_iff.mp hp)
   have hgo:∀ (o2:Obj),o2 = { cls:=.type "set_iterator",data:=.fields #[.ref s.heap.objs.size,rawInt 0,.ref a,rawInt (es.size:Int),rawInt (ep:Int)] }->Q (.ref (s.heap.objs.size+1)) { s with heap:=(s.heap.push ot).push o2,drawn:=d }:=fun o2 ho2'=>by
    refine h ((s.heap.push ot).push o2) d (s.heap.objs.size+1) [s.heap.objs.size+1,a,s.heap.objs.size] (ps.map fun p=>(es.getD p (0,Value.none)).2) _ (fun i h=>h.get? a=some o∧h.get? s.heap.objs.size=some ot∧It h (s.heap.objs.size+1) a (.ref s.heap.objs.size) i es.size ep) (fun A' hA'=>by
        rw[aR];exact Md (ot:=ot) (nt:=0) hA' (a9 (fh hlt)) (a9 (iu _)) hd hf (by rw[<- hot]) hps') ⟨Heap.get?_push_of_some _ ho2,Heap.get?_push_of_some _ hg,?_⟩ (fun b o e=>Heap.get?_push_of_some _ (Heap.get?_push_of_some _ e)) (jn _) (fun b hb=>?_) q1 q2
    · rw[<- hsz]
      exact⟨o2,Heap.get?_push_size _ (by rw[ho2'];rfl),by rw[ho2'],by rw[ho2'];rfl⟩
    · rcases aw.mp hb with rfl | hb
      · exact .inr (jn _)
      · rcases aw.mp hb with rfl | hb
        · exact .inl rfl
        · exact .inr (n8 (ax.mp hb).symm)
   have z:=hgo _ rfl;rw[<- hsz] at z;exact z
end
theorem Mm {xs:List Value}{acc:Array Value}(h:ItemsOf (fun i v=>xs[i]?=some v) acc xs.length):acc.toList=xs:=by
 apply ii;intro i;rw[li]
 cases e:acc[i]? with
 | some v=>exact (h.2 i v e).symm
 | none =>
  have:acc.size<=i:=by
   rcases fq i acc.size with z | z
   ·rw[my z] at e;cases e
   ·exact z
  rw[ca (by rw[<- h.1];exact this)]
section
variable {prog:Program}{w:World}{A:Around}{E:Value->Shared->Prop}{s:Shared}
theorem Qw {a:Addr}{ms:List Str}{Q:Bool->Shared->Prop}(hS:Is w s.heap a ms)(h:Q false s):wpAny (model prog w) A (Builtin.List.listLengthHint (.ref a)) Q E s:=by
 unfold Builtin.List.listLengthHint;refine wpAny_bind (wpAny_specialOf hS.ty F.slot_set_len.lookup ?_);generalize hid:("set.__len__" : String)=id0
 wp_delta
 rw[show splitId id0=some ("set", "__len__") from by subst hid;decide +kernel]
 subst hid;refine wpAny_bind (wpAny_isInstance (T := "set") (b:=true) hS.ty sub_set_self ?_)
 refine wpAny_ite_split (fun hab=>absurd hab (by decide)) (fun _=>?_);refine wpAny_ite_split (fun _=>?_) (fun hab=>absurd (by decide +kernel) hab);refine wpAny_bind (wpAny_typeOf hS.ty ?_);exact wpAny_pure h
theorem Kf {a:Addr}{ms:List Str}{R:Result->Shared->Prop}(hh:A.handled=none)(hS:Is w s.heap a ms)(hz:ms.length<=sizeLine)(S:Addr)(res:Value)(h1:S≠a)(hSl:s.heap.get? S=some { cls:=.type "list",data:=.seq #[] })
  (hR:∀ s' acc' c' ss,(∀ b o,b≠S->s.heap.get? b=some o->s'.heap.get? b=some o)->s'.gens=s.gens->s'.os=s.os->s'.heap.get? S=some { cls:=.type "list",dict:=none,data:=.seq acc' c',slots:=#[] }->StrsAre acc'.toList ss->ss.Perm ms->R (.ok (.ret res)) s') :
  wpAny (model prog w) A.in1 (Builtin.List.listExtendWith (.ref S) (.ref a) res)
   (fun fin s'=>match fin with | .done f=>R (.ok f) s' | .again c'=>c'.quiet=true∧codeAny (model prog w) A c' R s') (fun e s'=>R (.error e) s') s:=by
 unfold Builtin.List.listExtendWith;refine wpAny_bind (wpAny_typeOf hS.ty ?_);have g1:Builtin.List.listSameRef (.ref S) (.ref a)=false:=by simp[Builtin.List.listSameRef,h1]
 have g2:(Value.type "set" == Value.type "list")=false:=by decide
 have g3:(Value.type "set" == Value.type "tuple")=false:=by decide
 simp only [g1,g2,g3,jb,dq,if_false];refine wpAny_bind (Tb (A:=A.in1) hS fun h2 d I fp xs ss St W st0 kp hIs hfp hss hpm=>?_);have hlt:=Heap.lt_size hSl;have hSI:S≠I:=a9 (b7 hlt hIs);have hSf:S∉fp:=fun z=>by
  rcases hfp S z with e | e
  ·exact h1 e
  ·exact absurd hlt (qt.mpr e)
 have hS2:Is w h2 a ms:=hS.at fun o e=>kp a o e
 refine wpAny_bind (wpAny_holding (Qw (s:={ s with heap:=h2,drawn:=d }) hS2 ?_));have WS:=(W A.in1 hh).toS;have hxl:xs.length=ms.length:=by rw[hss.length,hpm.length_eq]
 have last:∀ (h0:Heap) (c0:Nat),(∀ b o,b≠S->h2.get? b=some o->h0.get? b=some o)->h0.get? S=some { cls:=.type "list",data:=.seq #[] c0 } ->
   wpAny (model prog w) A.in1 (again (.builtin "list.extend.loop" ⟨[.ref S,.ref I,res],[]⟩))
    (fun fin s'=>match fin with | .done f=>R (.ok f) s' | .again c'=>c'.quiet=true∧codeAny (model prog w) A c' R s') (fun e s'=>R (.error e) s') { s with heap:=h0,drawn:=d }:=fun h0 c0 hk0 hS0=>by
  refine wpAny_pure ⟨plainId_quiet F.plain_extend_loop _,codeAny_extend_loopS WS (by omega) S hSf res xs.length 0 _ #[] c0 rfl (b9 _) ?_ hS0 (ItemsOf.nil _) fun s' acc' c' hm hS' hacc=>?_⟩
  ·exact (W A.in1 hh).frame 0 h2 h0 st0 fun b hb o e=>hk0 b o (fun z=>hSf (z▸hb)) e
  ·refine hR s' acc' c' ss (fun b o hb e=>?_) hm.gens hm.os hS' (by rw[Mm hacc];exact hss) hpm
   by_cases hbI:b=I
   ·subst hbI
    exact absurd (Heap.lt_size e) (qt.mpr hIs)
   ·exact hm.heap b o (by simp[hb,hbI]) (hk0 b o hb (kp b o e))
 refine wpAny_ite_split (fun _=>?_) (fun hab=>absurd (by decide +kernel) hab);refine wpAny_bind (wpAny_rule ?_);have hSl2:h2.get? S=some { cls:=.type "list",data:=.seq #[] }:=kp S _ hSl
 refine wpAny_bind (m:=((do updateSeq S (fun z=>z.push .none);updateSeq S (fun z=>z.pop)):Sem Unit)) (wpAny_bind (wpAny_updateSeq (s:={ s with heap:=h2,drawn:=d }) hSl2 rfl ?_));have k1:=Heap.get?_update_self (Obj.mapSeq (fun z=>z.push .none)) hSl2 rfl;refine wpAny_updateSeq k1 rfl ?_;have k2:=Heap.get?_update_self (Obj.mapSeq (fun z=>z.pop)) k1 rfl;exact last _ _ (fun b o hb e=>(Heap.get?_update_other _ _ (Ne.symm hb)).trans ((Heap.get?_update_other _ _ (Ne.symm hb)).trans e)) k2
theorem Fm {a:Addr}{ms:List Str}{Q:List Value->Shared->Prop}(hh:A.handled=none)(hS:Is w s.heap a ms)(hz:ms.length<=sizeLine)
  (hQ:∀ s' vs ss,(∀ b o,s.heap.get? b=some o->s'.heap.get? b=some o)->s'.gens=s.gens->s'.os=s.os->StrsAre vs ss->ss.Perm ms->Q vs s'):wpAny (model prog w) A (collect (.ref a)) Q E s:=by
 have hlt:=Heap.lt_size hS.there.choose_spec;unfold collect;refine wpAny_bind (wpAny_runValue (codeAny_builtin F.entry_proto_collect ?_));rw[Around.under_plainId F.plain_proto_collect];refine wpAny_bind (m:=newList []) (wpAny_newObj_type (wpAny_pure ⟨plainId_quiet F.plain_list_iadd _,codeAny_builtin F.entry_list_iadd ?_⟩));rw[Around.under_plainId F.plain_list_iadd];have hSl:(s.heap.push { cls:=.type "list",data:=.seq #[] }).get? s.heap.objs.size=some { cls:=.type "list",data:=.seq #[] }:=Heap.get?_push_size _ rfl
 have go:∀ R:Result->Shared->Prop,(∀ s' acc' c' ss,(∀ b o,s.heap.get? b=some o->s'.heap.get? b=some o)->s'.gens=s.gens->s'.os=s.os->s'.heap.get? s.heap.objs.size=some { cls:=.type "list",dict:=none,data:=.seq acc' c',slots:=#[] }->StrsAre acc'.toList ss->ss.Perm ms->R (.ok (.ret (.ref s.heap.objs.size))) s') ->
   wpAny (model prog w) A.in1 (Builtin.List.listExtendWith (.ref s.heap.objs.size) (.ref a) (.ref s.heap.objs.size))
    (fun fin s'=>match fin with | .done f=>R (.ok f) s' | .again c'=>c'.quiet=true∧codeAny (model prog w) A c' R s') (fun e s'=>R (.error e) s') { s with heap:=s.heap.push { cls:=.type "list",data:=.seq #[] } }:=fun R hR =>
  Kf (A:=A) (s:={ s with heap:=s.heap.push { cls:=.type "list",data:=.seq #[] } }) hh (hS.at fun o e=>Heap.get?_push_of_some _ e) hz s.heap.objs.size (.ref s.heap.objs.size) (g0 hlt) hSl
   fun s' acc' c' ss kp g1 g2 e1 e2 e3=>hR s' acc' c' ss (fun b o e=>kp b o (a9 (Heap.lt_size e)) (Heap.get?_push_of_some _ e)) g1 g2 e1 e2 e3
 refine go (fun r s'=>match r with
  | .ok (.ret v)=>wpAny (model prog w) A (match v with
   | .ref a=>do
    match (<- load a).data with
    | .seq xs _=>pure xs.toList
    | _=>unsupported "internal:collect"
   | _=>unsupported "internal:collect") Q E s'
  | .ok _=>False
  | .error e=>E e s') fun s' acc' c' ss kp g1 g2 hS' e2 e3=>?_
 refine wpAny_bind (m:=load s.heap.objs.size) (wpAny_load hS' (wpAny_pure ?_));exact hQ s' acc'.toList ss kp g1 g2 e2 e3
theorem Kg (a:Value){Q₁:Value->Shared->Prop}(h:Q₁ (.ref s.heap.objs.size) { s with heap:=s.heap.push (dY w) }):codeAny (model prog w) A (.call (.builtin "set.__new__") ⟨[.type "set",a],[]⟩) (wants Q₁ E) s:=by
 refine codeAny_of_tree (show wpAny _ A.in1 (do checkBuiltinCall "set.__new__" ⟨[.type "set",a],[]⟩;again (.builtin "set.__new__" ⟨[.type "set",a],[]⟩)) _ _ s from ?_)
 refine wpAny_bind (wpAny_of_eq (F.newCall_set_1 a) (wpAny_pure ⟨plainId_quiet F.plain_set_new _,codeAny_builtin F.entry_set_new ?_⟩));rw[Around.under_plainId F.plain_set_new _];unfold Builtin.«set.__new__» Builtin.Frozenset.newClass;have hsub:=sub_set_self;obtain⟨hp,g,d,tk,os⟩:=s
 dsimp only
 wp_walk
 refine wpAny_askSetting (wpAny_pure ?_)
 dsimp only
 simp only [newObj];refine wpAny_bind (wpAny_alloc (wpAny_pure (wpAny_pure h)))
end
end SS
namespace L2
open PySem PySem.Spec PyProof.Rows
namespace SE
def Of (w:World)(h:Heap)(D:Addr)(ls:List (List Nat))(i:Nat):Prop:=∃ ms,SS.Is w h D ms∧(∀ x,x∈ms↔x∈(ls.take i).map tx)∧ms.length<=i
theorem Of.at {w:World}{h h':Heap}{D:Addr}{ls:List (List Nat)}{i:Nat}(x:Of w h D ls i)(k:∀ o,h.get? D=some o->h'.get? D=some o):Of w h' D ls i:=let ⟨ms,a,b⟩:=x;⟨ms,a.at k,b⟩
section
variable {prog:Program}{w:World}{A:Around}{R:Result->Shared->Prop}{J:Addr}{fp wr:List Addr}{G:Array GenState->Array GenState->Prop}{n:Nat}{P:Nat->Value->Prop}{St:Nat->Shared->Prop}
theorem Yu (W:WalksS prog w A.in1 J fp wr G n P St){D:Addr}(hD:D∉fp)(ls:List (List Nat))(hv:∀ i v,P i v->∃ t,v=Value.str (tx (ls.getD i [])) t)(hn:n+1<scanBound)(hnl:n<=ls.length) :
  ∀ (k i:Nat) (s:Shared),n-i=k->i<=n->St i s->Of w s.heap D ls i ->
   (∀ s',Moved (D::wr) G s s'->Of w s'.heap D ls n->R (.ok (.ret .none)) s')->codeAny (model prog w) A (.builtin "set.update.loop" ⟨[.ref D,.ref J],[]⟩) R s:=by
 have hDw:D∉wr:=fun z=>hD (W.sub _ z)
 have up:∀ b∈wr,b∈D::wr:=fun b hb=>.tail _ hb
 intro k
 induction k with
 | zero =>
  intro i s hk hi st hs hR;obtain rfl:i=n:=by omega
  refine codeAny_builtin gc ?_;rw[Around.under_plainId dl];refine wpAny_bind (m:=pyNext (.ref J)) (W.done s _ _ st fun s2 mv=>?_);exact (show wpAny _ A.in1 (ret Value.none) _ _ s2 from wpAny_pure (hR s2 (mv.mono up) (hs.at fun o e=>mv.heap D o hDw e)))
 | succ k ih =>
  intro i s hk hi st hs hR;have hlt:i<n:=by omega
  refine codeAny_builtin gc ?_;rw[Around.under_plainId dl];refine wpAny_bind (m:=pyNext (.ref J)) (W.item i s _ _ hlt st fun v s2 pv st2 mv=>?_);obtain⟨t,rfl⟩:=hv i v pv;have hs2:=hs.at fun o e=>mv.heap D o hDw e
  refine wpAny_bind (m:=holding [Value.str (tx (ls.getD i [])) t] (setAdd D (.str (tx (ls.getD i [])) t))) (wpAny_holding ?_);unfold setAdd;refine wpAny_holding (wpAny_bind ((fm prog w).pyHash (k:=tx (ls.getD i [])) (strKind_is _ _ _ _) ?_));obtain⟨ms,hi1,hi2,hi3⟩:=hs2;refine SS.On (s:={ s2 with toks:=s2.toks+1 }) hi1 (by omega) fun h3 ms3 sb i3 m3 l3=>?_
  have x4:Of w h3 D ls (i+1):=by
   refine⟨ms3,i3,fun x=>?_,by omega⟩;have e:ls.take (i+1)=ls.take i++[ls.getD i []]:=by
    rw[cx,ak,ac (by omega)];rfl
   rw[m3,hi2,e,bh,bt,au,ir,ax]
  refine wpAny_pure ⟨plainId_quiet dl _,ih (i+1) _ (by omega) hlt (W.frame _ s2 _ _ st2 (jn _) fun b hb o e=>(sb.2 b fun z=>hD (z▸hb)).trans e) x4 fun s5 m5 x5=>?_⟩;refine hR s5 (Moved.trans W.gtrans ((mv.mono up).then_heap (jn _) fun b o hb e=>(sb.2 b fun z=>hb (z▸.head _)).trans e) m5) x5
variable {E:Value->Shared->Prop}{s:Shared}
theorem Mr {l:Addr}{its:Array Value}{ls:List (List Nat)}{Q:Value->Shared->Prop}(hh:A.handled=none)(hl:s.heap.IsList l its)(hv:∀ i v,its[i]?=some v->∃ t,v=Value.str (tx (ls.getD i [])) t)(hn:its.size+1<scanBound)(hnl:its.size<=ls.length)
  (h:∀ (h':Heap) (tk:Nat),Of w h' s.heap.objs.size ls its.size->(∀ b o,s.heap.get? b=some o->h'.get? b=some o)->Q (.ref s.heap.objs.size) { s with heap:=h',toks:=tk }) :
  wpAny (model prog w) A (call (.type "set") [.ref l]) Q E s:=by
 obtain⟨mc,mt,f0⟩:=F.called_set.mro;have f1:=F.called_set.made;have f2:=F.called_set.sub;have f3:=F.called_set.notType;have f4:=F.called_set.canCreate;have f5:=F.typeCall_set_1 (.ref l);refine wpAny_call (codeAny_of_tree (show wpAny _ _ (callAny (.type "set") _) _ _ _ from wpAny_pure ⟨Code.quiet_builtin _ (by decide +kernel),codeAny_builtin F.entry_type_call ?_⟩))
 rw[Around.under_plain (weight_type_call_type "set" [.ref l] []) rfl]
 repeat (any_goals (first | wp_step | assumption))
 refine codeAny_mono (SS.Kg (.ref l) (E:=E) (Q₁:=fun ob s1=>ob = .ref s.heap.objs.size∧s1 = { s with heap:=s.heap.push (SS.dY w) }) ⟨rfl,rfl⟩) fun r s1 hr=>?_
 cases r with
 | error e=>exact hr
 | ok fl =>
  cases fl with
  | ret ob =>
   obtain⟨rfl,rfl⟩:=hr;generalize hob:SS.dY w=ob;have hD:(s.heap.push ob).get? s.heap.objs.size=some ob:=Heap.get?_push_size _ (by rw[<- hob];rfl);have hT:Shared.TypeIs { s with heap:=s.heap.push ob } (.ref s.heap.objs.size) "set" := ⟨_,hD,by rw[<- hob];rfl⟩
   have f6:=F.called_set.init.lookup;have f7:=F.called_set.init.bind (.ref s.heap.objs.size)
   repeat (any_goals (first | wp_step | assumption))
   refine codeAny_mono (codeAny_call_builtin (R:=wants (fun r s2=>r = .none∧∃ h' tk,s2 = { s with heap:=h',toks:=tk }∧Of w h' s.heap.objs.size ls its.size∧∀ b o,s.heap.get? b=some o->h'.get? b=some o) E)
    F.called_set.init.plain F.entry_set_init (check_set_init_1 hT ?_)) fun r2 s2 hr2=>?_
   ·obtain⟨⟨oc,od,odt,osl⟩,hol,hcl,nl,hdl⟩:=id hl
    simp only at hcl hdl;subst hcl hdl;have hol':(s.heap.push ob).get? l=some { cls:=.type "list",dict:=od,data:=.seq its nl,slots:=osl }:=Heap.get?_push_of_some _ hol
    have f8:=F.sub_list_set;have f9:=F.sub_list_frozenset;have f10:(Value.type "list" == Value.type "dict")=false:=by decide
    have hl1:(s.heap.push ob).IsList l its:=⟨_,hol',rfl,nl,rfl⟩;subst hob;unfold Builtin.«set.__init__» noKeywords Builtin.Frozenset.updateFrom;generalize hPI:pyIter=PI
    wp_walk
    subst hPI;refine wpAny_pyIter_list hl1 ?_;refine wpAny_bind (wpAny_runValue ?_);have hlt:l<s.heap.objs.size:=Heap.lt_size hol;have hh3:A.in1.in1.in1.handled=none:=by simp[hh]
    have hsz:(s.heap.push (SS.dY w)).objs.size=s.heap.objs.size+1:=Heap.size_push _ _;have hne:l≠(s.heap.push (SS.dY w)).objs.size:=by rw[hsz];exact a9 (fh hlt)
    have hfp:s.heap.objs.size∉[(s.heap.push (SS.dY w)).objs.size,l]:=by
     rw[hsz];intro z;rcases aw.mp z with e | e
     ·exact a9 (iu _) e
     ·exact g0 hlt (ax.mp e)
    refine Yu ((Walks.list hh3 _ l hne its).toS) (D:=s.heap.objs.size) hfp ls hv hn hnl (its.size-0) 0 _ (by omega) (b9 _) ⟨⟨_,Heap.get?_push_size _ rfl,rfl,rfl⟩,hl1.push _⟩ ?_ fun s3 mv x3=>?_
    ·have hg:((s.heap.push (SS.dY w)).push { cls:=.type "list_iterator",data:=.fields #[.ref l,.int 0 0] }).get? s.heap.objs.size=some (SS.dY w):=Heap.get?_push_of_some _ hD
     exact⟨[],(SS.Is.fresh s.heap).at fun o e=>Heap.get?_push_of_some _ e,fun x=>by simp,b9 _⟩
    ·obtain⟨h3,g3,d3,tk3,os3⟩:=s3
     obtain rfl:g3=s.gens:=mv.gens;obtain rfl:d3=s.drawn:=mv.drawn;obtain rfl:os3=s.os:=mv.os;refine wpAny_pure (show wpAny _ _ (ret Value.none) _ _ _ from wpAny_pure ⟨rfl,h3,tk3,rfl,x3,fun c o e=>?_⟩);have hc:=Heap.lt_size e;exact mv.heap c o (show c∉[s.heap.objs.size,(s.heap.push (SS.dY w)).objs.size] by
      rw[hsz];intro z;rcases aw.mp z with e | e
      ·exact a9 hc e
      ·exact a9 (fh hc) (ax.mp e)) (Heap.get?_push_of_some _ (Heap.get?_push_of_some _ e))
   ·cases r2 with
    | error e=>exact hr2
    | ok fl2 =>
     cases fl2 with
     | ret r =>
      obtain⟨rfl,h3,tk,rfl,x3,k3⟩:=hr2
      repeat (any_goals (first | wp_step | assumption))
      exact h _ _ x3 k3
     | _=>exact hr2.elim
  | _=>exact hr.elim
end
end SE
def oC (w:World)(D:Addr)(ms:List (List Nat)):HO:=.ext fun h=>SS.Is w h D (ms.map tx)
theorem uM {ls:List (List Nat)}{x:Str}:x∈ls.map tx↔x.cps.toList∈ls:=by
 rw[a5];constructor
 ·rintro⟨l,h,rfl⟩
  rw[eG];exact h
 ·intro h
  exact⟨_,h,kI x⟩
theorem Sr {w:World}{h:Heap}{D:Addr}{ms ms':List Str}(x:SS.Is w h D ms)(p:ms.Perm ms'):SS.Is w h D ms':=by
 obtain⟨o,es,ep,t,ho,hex,hd,hel,hnd,r⟩:=x;exact⟨o,es,ep,t,ho,hex,hd,⟨hel.1,hel.2.trans p⟩,p.nodup_iff.mp hnd,r⟩
theorem Dc {w:World}{h:Heap}{D:Addr}{ms:List Str}(x:SS.Is w h D ms):ms.Nodup:=let ⟨_,_,_,_,_,_,_,_,n,_⟩:=x;n
theorem Nm {ls:List (List Nat)}(h:ls.Nodup):(ls.map tx).Nodup:=by
 refine ja.mpr (h.imp fun hne e=>hne (hZ e))
section
variable {X:Cx}
theorem Ah {pins:List (Addr×Obj)}{σ:St}{H:Hp}{s:Shared}{D:Addr}{ms:List (List Nat)}(I:Inv X pins σ H s)(h:H D=some (oC X.w D ms)):SS.Is X.w s.heap D (ms.map tx):=by
 obtain⟨x,_⟩:=(show dB X.prog X.w H s.heap D (oC X.w D ms) from I.hok D _ h);exact x
theorem yK (hc:X.calm=true):fC X (.type "set") (fun xs H Q=>∃ (p:Addr) (ls:List (List Nat)),xs=[.ref p]∧SqL X.K H p (ls.map T)∧ls.length+1<4096∧∀ D,H D=none->Q (.ref D) (upd H D (oC X.w D (uniq ls)))):=by
 intro pins s σ H xs us Q I r h;obtain⟨p,ls,rfl,hq,hz,q⟩:=h;obtain⟨u,rfl,ru⟩:=gH r;cases ru;obtain⟨its,rv,pl,_⟩:=I.list hq;have hlen:=rv.length;rw[aR] at hlen;refine SE.Mr (I.ok.hd hc) pl.isList (ls:=ls) (fun i v e=>Gg rv (by simpa using e)) (by rw[ap];unfold scanBound;omega) (by rw[ap];omega) fun h' tk x k=>?_
 obtain⟨ms,i1,i2,_⟩:=x;have x:SS.Is X.w h' s.heap.objs.size ((uniq ls).map tx):=by
  refine Sr i1 ((d9 (Dc i1) (Nm (tY ls))).mpr fun y=>?_);rw[i2,uM,uM,iS,ap,<- hlen,c8]
 have hf:H s.heap.objs.size=none:=I.hok.fresh (ah _);refine⟨.ref s.heap.objs.size,_,I.laid (t':=tk) k (ah _) (o:=oC X.w s.heap.objs.size (uniq ls)) ⟨x,x.there,fun h1 h2 x1 kk=>x1.at kk⟩,rfl,q _ hf⟩
theorem Vo:OpR X (binaryOp .BitOr) (fun x y H Q=>∃ (a b:Addr) (ls ms:List (List Nat)),x = .ref a∧y = .ref b∧a≠b∧H a=some (oC X.w a ls)∧H b=some (oC X.w b ms)∧ls≠[]∧ls.length+ms.length<=128 ∧
  ∀ (D:Addr) (qs:List (List Nat)),H D=none->qs.Nodup->qs.length<=ls.length+ms.length->(∀ z,z∈qs↔z∈ls∨z∈ms)->Q (.ref D) (upd H D (oC X.w D qs))):=by
 intro pins s σ H x y v u Q I rx ry h;obtain⟨a,b,ls,ms,rfl,rfl,hab,h1,h2,hne,hsz,q⟩:=h;cases rx;cases ry;refine SS.Yv hab (Ah I h1) (Ah I h2) (fun z=>hne (List.map_eq_nil_iff.mp z)) (by rw[aR,aR];exact hsz) fun h' ms' kp i hm hl=>?_
 have em:(ms'.map fun x=>x.cps.toList).map tx=ms':=by
  rw[bx]
  conv=>rhs;rw[<- ky ms']
  exact br fun x _=>kI x
 have hnd:(ms'.map fun x=>x.cps.toList).Nodup:=ja.mpr ((Dc i).imp fun {a b} hne e=>hne ((kI a).symm.trans ((congrArg tx e).trans (kI b))));have x:SS.Is X.w h' s.heap.objs.size ((ms'.map fun x=>x.cps.toList).map tx):=by rw[em];exact i
 refine⟨.ref s.heap.objs.size,_,I.laid (t':=s.toks) kp (ah _) (o:=oC X.w s.heap.objs.size (ms'.map fun x=>x.cps.toList)) ⟨x,x.there,fun h1 h2 x1 kk=>x1.at kk⟩,rfl,q _ _ (I.hok.fresh (ah _)) hnd (by rw[aR];rw[aR,aR] at hl;exact hl) fun z=>?_⟩;have e:=hm (tx z);rw[uM,uM,eG] at e;rw[<- e,<- em,uM,eG,em]
end
structure nP (J:It)(H:Hp)(vs:List V):Prop where
 go:∀ i H',aL H H'->i<vs.length->J.go i H'
 yl:∀ i H' y H2,aL H H'->J.yld i H' y H2->H2=H'∧vs[i]?=some y
 st:∀ H',aL H H'->J.stop vs.length H'
theorem cT {K:af}{a:Addr}{H:Hp}{vs:List V}(h:SqL K H a vs):nP (Itl K a) H vs :=
 ⟨fun i H' s hi=>⟨vs,vs[i],s.seq h,ac hi⟩,fun i H' y H2 s ⟨e1,e2⟩=>⟨e1,e2 vs (s.seq h)⟩,fun H' s=>⟨vs,s.seq h,ah _⟩⟩
theorem lD {K:af}{H H':Hp}{p:Addr}{xs:List V}(s:aL H H')(h:SqT K H p xs):SqT K H' p xs:=by
 rcases h with (h | ⟨q,h⟩) | h
 ·exact .inl (.inl (s _ _ h))
 ·exact .inl (.inr ⟨q,s _ _ h⟩)
 ·exact .inr h
theorem iI {K:af}{a:Addr}{H:Hp}{vs:List V}(h:SqT K H a vs):nP (Itt K a) H vs :=
 ⟨fun i H' s hi=>⟨vs,vs[i],lD s h,ac hi⟩,fun i H' y H2 s ⟨e1,e2⟩=>⟨e1,e2 vs (lD s h)⟩,fun H' s=>⟨vs,lD s h,ah _⟩⟩
theorem oX {J:It}{vs:List V}{te:TE}{σ:St}{H:Hp}{Q:VK}(f:V->V)(rd:nP J H vs)(hn:vs.length<=sizeLine)
  (he:∀ x H',x∈vs->aL H H'->∀ N:V->Hp->Prop,(∀ H'',aL H' H''->N (f x) H'')->te (some x::σ) H' N)
  (hq:∀ D H',H D=none->aL H H'->H' D=some (.lst (vs.map f))->Q (.ref D) H'):jO te σ Q J H:=by
 intro D hD;refine⟨fun i m ys H2=>m=vs.length-i∧i<=vs.length∧ys=(vs.take i).map f∧aL H H2∧H2 D=some (.lst ys),⟨vs.length,rfl,b9 _,rfl,fun b o e=>?_,aD⟩,?_⟩
 ·rw[aG (aJ e hD)]
  exact e
 ·rintro i m ys H2 ⟨rfl,hi,rfl,hs,hd⟩
  by_cases hlt:i<vs.length
  ·have hx:vs[i]?=some vs[i]:=ac hlt
   refine .inr ⟨rd.go i H2 hs hlt,by rw[aR,b8];omega,fun v H'=>v=f vs[i]∧aL H2 H',fun v H' ⟨ev,hs'⟩=>⟨hs' D _ hd,vs.length-(i+1),by omega,rfl,hlt,?app,fun b o e=>?kp,aD⟩,fun y H' hy=>?stp⟩
   case app =>
    rw[ev,cx,hx,bh];rfl
   case kp =>
    rw[aG (aJ e hD)];exact hs' b o (hs b o e)
   case stp =>
    obtain⟨rfl,e2⟩:=rd.yl i H2 y H' hs hy;have e4:y=vs[i]:=by rw[hx] at e2;exact (ay e2).symm
    subst e4;exact he _ _ (di hlt) hs _ fun H'' h''=>⟨rfl,h''⟩
  ·have e:i=vs.length:=by omega
   subst e;rw[c8] at hd;exact .inl ⟨rd.st H2 hs,hq D H2 hD hs hd⟩
theorem qM {J:It}{vs:List V}{tc:TT}{te:TE}{σ:St}{H:Hp}{Q:VK}(p:V->Bool)(f:V->V)(rd:nP J H vs)(hn:vs.length<=sizeLine)
  (ht:∀ x H',x∈vs->aL H H'->∀ N:Bool->Hp->Prop,(∀ H'',aL H' H''->N (p x) H'')->tc (some x::σ) H' N)
  (he:∀ x H',x∈vs->p x=true->aL H H'->∀ N:V->Hp->Prop,(∀ H'',aL H' H''->N (f x) H'')->te (some x::σ) H' N)
  (hq:∀ D H',H D=none->aL H H'->H' D=some (.lst ((vs.filter p).map f))->Q (.ref D) H'):iW tc te σ Q J H:=by
 intro D hD;refine⟨fun i m ys H2=>m=vs.length-i∧i<=vs.length∧ys=((vs.take i).filter p).map f∧aL H H2∧H2 D=some (.lst ys),⟨vs.length,rfl,b9 _,rfl,fun b o e=>?_,aD⟩,?_⟩
 ·rw[aG (aJ e hD)]
  exact e
 ·rintro i m ys H2 ⟨rfl,hi,rfl,hs,hd⟩
  by_cases hlt:i<vs.length
  ·have hx:vs[i]?=some vs[i]:=ac hlt
   refine .inr ⟨rd.go i H2 hs hlt,by have:=sC p vs i;rw[aR];omega,fun v H'=>v=f vs[i]∧p vs[i]=true∧aL H2 H',fun v H' ⟨ev,hp,hs'⟩=>⟨hs' D _ hd,vs.length-(i+1),by omega,rfl,hlt,?app,fun b o e=>?kp,aD⟩,
    fun H'=>p vs[i]=false∧aL H2 H',fun H' ⟨hp,hs'⟩=>⟨vs.length-(i+1),by omega,rfl,hlt,?skp,fun b o e=>hs' b o (hs b o e),hs' D _ hd⟩,fun y H' hy=>?stp⟩
   case app =>
    rw[ev,rG p vs i _ hx,hp,bh];rfl
   case kp =>
    rw[aG (aJ e hD)];exact hs' b o (hs b o e)
   case skp =>
    rw[rG p vs i _ hx,hp];simp
   case stp =>
    obtain⟨rfl,e2⟩:=rd.yl i H2 y H' hs hy;have e4:y=vs[i]:=by rw[hx] at e2;exact (ay e2).symm
    subst e4;refine ht _ _ (di hlt) hs _ fun H'' h''=>?_
    by_cases hp:p vs[i]=true
    ·rw[if_pos hp]
     exact he _ _ (di hlt) hp (hs.trans h'') _ fun H3 h3=>⟨rfl,hp,h''.trans h3⟩
    ·rw[if_neg hp]
     exact⟨by simpa using hp,h''⟩
  ·have e:i=vs.length:=by omega
   subst e;rw[c8] at hd;exact .inl ⟨rd.st H2 hs,hq D H2 hD hs hd⟩
def unT:V->List Nat
 | .str x=>x.cps.toList
 | _=>[]
theorem fF (l:List Nat):unT (T l)=l:=eG l
section
variable {X:Cx}
theorem uB (K:af)(h:X.K=K):OpR X (compareOp .In) (rIn K false):=by subst h;exact Kr
theorem vZ (K:af)(h:X.K=K):OpR X (compareOp .NotIn) (rIn K true):=by subst h;exact kH
end
theorem oV {f:List Nat->V}(ls:List (List Nat)):(ls.map T).map (fun x=>f (unT x))=ls.map f:=by
 rw[bx];exact br fun l _=>by show f (unT (T l))=f l;rw[fF]
theorem fJ {p:List Nat->Bool}:∀ ls:List (List Nat),(ls.map T).filter (fun x=>p (unT x))=(ls.filter p).map T
 | []=>rfl
 | l::ls=>by
  rw[au,ft,ft,fF,fJ ls];split <;> rfl
end L2
namespace SS
open PySem PyProof.Rows L2
section
variable {prog:Program}{w:World}{A:Around}{E:Value->Shared->Prop}{s:Shared}
theorem Mf {a:Addr}{Q:Bool->Shared->Prop}(hS:s.TypeIs (.ref a) "dict")(h:Q false s):wpAny (model prog w) A (Builtin.List.listLengthHint (.ref a)) Q E s:=by
 unfold Builtin.List.listLengthHint;refine wpAny_bind (wpAny_specialOf hS F.slot_dict_len.lookup ?_);generalize hid:("dict.__len__" : String)=id0
 wp_delta
 rw[show splitId id0=some ("dict", "__len__") from by subst hid;decide +kernel]
 subst hid;refine wpAny_bind (wpAny_isInstance (T := "dict") (b:=true) hS F.sub_dict_dict ?_)
 refine wpAny_ite_split (fun hab=>absurd hab (by decide)) (fun _=>?_);refine wpAny_ite_split (fun _=>?_) (fun hab=>absurd (by decide +kernel) hab);refine wpAny_bind (wpAny_typeOf hS ?_);exact wpAny_pure h
def wT (vs:List (Key×Value))(i:Nat)(v:Value):Prop:=∃ k x,vs[i]?=some (k,x)∧vJ k v=true
theorem uV {h:Heap}{a:Addr}{vs:List (Key×Value)}{ep:Nat}{ob:Obj}(hD:Heap.DictAt (bH prog w) h a vs ep):Heap.DictAt (bH prog w) (h.push ob) a vs ep:=by
 obtain⟨o,es,g,r⟩:=hD;exact⟨o,es,Heap.get?_push_of_some _ g,r⟩
theorem Nr {a:Addr}{vs:List (Key×Value)}{ep:Nat}(hD:Heap.DictAt (bH prog w) s.heap a vs ep):s.TypeIs (.ref a) "dict" := by
 obtain⟨o,es,g,r⟩:=hD;exact (show Heap.DictOf (bH prog w) s.heap a vs from ⟨o,es,ep,g,r⟩).typeIs
theorem uY {a:Addr}{vs:List (Key×Value)}{ep:Nat}{R:Result->Shared->Prop}(hh:A.handled=none)(hd:(a==sysModules)=false)(hD:Heap.DictAt (bH prog w) s.heap a vs ep)(hz:vs.length<=sizeLine)(S:Addr)(res:Value)(h1:S≠a)(hSl:s.heap.get? S=some { cls:=.type "list",data:=.seq #[] })
  (hR:∀ s' acc' c',(∀ b o,b≠S->s.heap.get? b=some o->s'.heap.get? b=some o)->s'.gens=s.gens->s'.os=s.os->s'.heap.get? S=some { cls:=.type "list",dict:=none,data:=.seq acc' c',slots:=#[] }->ItemsOf (wT vs) acc' vs.length->R (.ok (.ret res)) s') :
  wpAny (model prog w) A.in1 (Builtin.List.listExtendWith (.ref S) (.ref a) res)
   (fun fin s'=>match fin with | .done f=>R (.ok f) s' | .again c'=>c'.quiet=true∧codeAny (model prog w) A c' R s') (fun e s'=>R (.error e) s') s:=by
 unfold Builtin.List.listExtendWith;refine wpAny_bind (wpAny_typeOf (Nr hD) ?_);have g1:Builtin.List.listSameRef (.ref S) (.ref a)=false:=by simp[Builtin.List.listSameRef,h1]
 have g2:(Value.type "dict" == Value.type "list")=false:=by decide
 have g3:(Value.type "dict" == Value.type "tuple")=false:=by decide
 simp only [g1,g2,g3,jb,dq,if_false];refine wpAny_bind (wpAny_pyIter_dict hd hD ?_);have hlt:=Heap.lt_size hSl;have hal:a<s.heap.objs.size:=by obtain⟨o,es,g,r⟩:=hD;exact Heap.lt_size g
 generalize hio:({ cls:=Value.type "dict_keyiterator",data:=Data.fields #[Value.ref a,Value.int 0 0,Value.int (↑vs.length) 0,Value.int (↑ep) 0] }:Obj)=io
 have hIs:s.heap.objs.size<=s.heap.objs.size:=ah _;have hSI:S≠s.heap.objs.size:=a9 hlt;have haI:a≠s.heap.objs.size:=a9 hal;have kp:∀ b o,s.heap.get? b=some o->(s.heap.push io).get? b=some o:=fun b o e=>Heap.get?_push_of_some _ e
 have W:=Walks.dictKeys (prog:=prog) (w:=w) (knd:=bH prog w) (A:=A.in1) hh s.heap.objs.size a haI vs ep;have hD2:Heap.DictAt (bH prog w) (s.heap.push io) a vs ep:=uV hD;have st0:(s.heap.push io).IsKeyIter s.heap.objs.size a 0 vs.length ep∧Heap.DictAt (bH prog w) (s.heap.push io) a vs ep:=by
  refine⟨⟨io,Heap.get?_push_size _ (by rw[<- hio];rfl),?_,?_⟩,hD2⟩
  ·rw[<- hio]
  ·rw[<- hio];rfl
 have hSf:S∉[s.heap.objs.size,a]:=by simp[hSI,h1]
 refine wpAny_bind (wpAny_holding (Mf (s:={ s with heap:=s.heap.push io }) (Nr (s:={ s with heap:=s.heap.push io }) hD2) ?_));have WS:=W.toS;have last:∀ (h0:Heap) (c0:Nat),(∀ b o,b≠S->(s.heap.push io).get? b=some o->h0.get? b=some o)->h0.get? S=some { cls:=.type "list",data:=.seq #[] c0 } ->
   wpAny (model prog w) A.in1 (again (.builtin "list.extend.loop" ⟨[.ref S,.ref s.heap.objs.size,res],[]⟩))
    (fun fin s'=>match fin with | .done f=>R (.ok f) s' | .again c'=>c'.quiet=true∧codeAny (model prog w) A c' R s') (fun e s'=>R (.error e) s') { s with heap:=h0 }:=fun h0 c0 hk0 hS0=>by
  refine wpAny_pure ⟨plainId_quiet F.plain_extend_loop _,codeAny_extend_loopS WS (by omega) S hSf res vs.length 0 _ #[] c0 rfl (b9 _) ?_ hS0 (ItemsOf.nil _) fun s' acc' c' hm hS' hacc=>?_⟩
  ·exact W.frame 0 (s.heap.push io) h0 st0 fun b hb o e=>hk0 b o (fun z=>hSf (z▸hb)) e
  ·refine hR s' acc' c' (fun b o hb e=>?_) hm.gens hm.os hS' hacc
   by_cases hbI:b=s.heap.objs.size
   ·subst hbI
    exact absurd (Heap.lt_size e) (qt.mpr hIs)
   ·exact hm.heap b o (by simp[hb,hbI]) (hk0 b o hb (kp b o e))
 refine wpAny_ite_split (fun _=>?_) (fun hab=>absurd (by decide +kernel) hab);refine wpAny_bind (wpAny_rule ?_);have hSl2:(s.heap.push io).get? S=some { cls:=.type "list",data:=.seq #[] }:=kp S _ hSl
 refine wpAny_bind (m:=((do updateSeq S (fun z=>z.push .none);updateSeq S (fun z=>z.pop)):Sem Unit)) (wpAny_bind (wpAny_updateSeq (s:={ s with heap:=s.heap.push io }) hSl2 rfl ?_));have k1:=Heap.get?_update_self (Obj.mapSeq (fun z=>z.push .none)) hSl2 rfl;refine wpAny_updateSeq k1 rfl ?_;have k2:=Heap.get?_update_self (Obj.mapSeq (fun z=>z.pop)) k1 rfl;exact last _ _ (fun b o hb e=>(Heap.get?_update_other _ _ (Ne.symm hb)).trans ((Heap.get?_update_other _ _ (Ne.symm hb)).trans e)) k2
theorem Bp {a:Addr}{vs:List (Key×Value)}{ep:Nat}{Q:List Value->Shared->Prop}(hh:A.handled=none)(hd:(a==sysModules)=false)(hD:Heap.DictAt (bH prog w) s.heap a vs ep)(hz:vs.length<=sizeLine)
  (hQ:∀ (s':Shared) (acc:Array Value),(∀ b o,s.heap.get? b=some o->s'.heap.get? b=some o)->s'.gens=s.gens->s'.os=s.os->ItemsOf (wT vs) acc vs.length->Q acc.toList s'):wpAny (model prog w) A (collect (.ref a)) Q E s:=by
 have hlt:a<s.heap.objs.size:=by obtain⟨o,es,g,r⟩:=hD;exact Heap.lt_size g
 unfold collect;refine wpAny_bind (wpAny_runValue (codeAny_builtin F.entry_proto_collect ?_));rw[Around.under_plainId F.plain_proto_collect];refine wpAny_bind (m:=newList []) (wpAny_newObj_type (wpAny_pure ⟨plainId_quiet F.plain_list_iadd _,codeAny_builtin F.entry_list_iadd ?_⟩));rw[Around.under_plainId F.plain_list_iadd];have hSl:(s.heap.push { cls:=.type "list",data:=.seq #[] }).get? s.heap.objs.size=some { cls:=.type "list",data:=.seq #[] }:=Heap.get?_push_size _ rfl
 have go:∀ R:Result->Shared->Prop,(∀ s' acc' c',(∀ b o,s.heap.get? b=some o->s'.heap.get? b=some o)->s'.gens=s.gens->s'.os=s.os->s'.heap.get? s.heap.objs.size=some { cls:=.type "list",dict:=none,data:=.seq acc' c',slots:=#[] }->ItemsOf (wT vs) acc' vs.length->R (.ok (.ret (.ref s.heap.objs.size))) s') ->
   wpAny (model prog w) A.in1 (Builtin.List.listExtendWith (.ref s.heap.objs.size) (.ref a) (.ref s.heap.objs.size))
    (fun fin s'=>match fin with | .done f=>R (.ok f) s' | .again c'=>c'.quiet=true∧codeAny (model prog w) A c' R s') (fun e s'=>R (.error e) s') { s with heap:=s.heap.push { cls:=.type "list",data:=.seq #[] } }:=fun R hR =>
  uY (A:=A) (s:={ s with heap:=s.heap.push { cls:=.type "list",data:=.seq #[] } }) hh hd (uV hD) hz s.heap.objs.size (.ref s.heap.objs.size) (g0 hlt) hSl
   fun s' acc' c' kp g1 g2 e1 e2=>hR s' acc' c' (fun b o e=>kp b o (a9 (Heap.lt_size e)) (Heap.get?_push_of_some _ e)) g1 g2 e1 e2
 refine go (fun r s'=>match r with
  | .ok (.ret v)=>wpAny (model prog w) A (match v with
   | .ref a=>do
    match (<- load a).data with
    | .seq xs _=>pure xs.toList
    | _=>unsupported "internal:collect"
   | _=>unsupported "internal:collect") Q E s'
  | .ok _=>False
  | .error e=>E e s') fun s' acc' c' kp g1 g2 hS' e2=>?_
 refine wpAny_bind (m:=load s.heap.objs.size) (wpAny_load hS' (wpAny_pure ?_));exact hQ s' acc' kp g1 g2 e2
end
end SS
namespace L2
open PySem PyProof.Rows
def tKs (ls:List (List Nat))(v:V):List (Key×V):=ls.map fun t=>(cc (tx t),v)
section
variable {X:Cx}
theorem Gy:∀ (ls:List Str) (us:List Value),us.length=ls.length->(∀ (i:Nat) (v:Value),us[i]?=some v->∃ x t,ls[i]?=some x∧v=Value.str x t)->StrsAre us ls
 | [],[],_,_=>.nil
 | [],_::_,h,_=>nomatch h
 | _::_,[],h,_=>nomatch h
 | y::ls,u::us,h,hp=>by
  obtain⟨x,t,e1,e2⟩:=hp 0 u rfl;have e3:y=x:=by simpa using e1
  rw[e2,<- e3];exact .cons _ _ (Gy ls us (by simpa using h) fun i v e=>by simpa using hp (i+1) v (by simpa using e))
theorem Pn:∀ {kvs:List (Key×V)} {vs:List (Key×Value)},KV kvs vs->vs.map (·.1)=kvs.map (·.1)
 | [],[],.nil=>rfl
 | _::_,_::_,.cons h r=>by rw[au,au,h.1,Pn r]
theorem xT {ls:List (List Nat)}{kvs:List (Key×V)}{vs:List (Key×Value)}{acc:Array Value}(hk:kvs.map (·.1)=ls.map fun t=>cc (tx t))(r:KV kvs vs)(h:ItemsOf (SS.wT vs) acc vs.length):StrsAre acc.toList (ls.map tx):=by
 have e0:vs.map (·.1)=(ls.map tx).map cc:=by rw[Pn r,hk,bx];rfl
 have el:vs.length=ls.length:=by have:=congrArg i7 e0;simpa using this
 refine Gy _ _ (by rw[bo,h.1,el,aR]) fun i v e=>?_
 obtain⟨k,x,g1,g2⟩:=h.2 i v (by rw[<- li];exact e);have g3:(vs.map (·.1))[i]?=some k:=by rw[ag,g1];rfl
 rw[e0,ag] at g3
 cases g4:(ls.map tx)[i]? with
 | none=>rw[g4] at g3;cases g3
 | some y =>
  rw[g4] at g3;obtain rfl:cc y=k:=ay g3;rcases cX g2 with ⟨j,t,q1,_⟩ | ⟨z,t,q1,q2⟩
  ·cases q1
  ·cases q1
   exact⟨y,t,rfl,q2⟩
end
open PySem.Spec
namespace SE
section
variable {prog:Program}{w:World}{A:Around}{E:Value->Shared->Prop}{s:Shared}
end
end SE
section
variable {X:Cx}
end
section
variable {X:Cx}{pins:List (Addr×Obj)}{σ:List (Option V)}{H H':Hp}{s:Shared}{h':Heap}
theorem Inv.turnedL {t':Nat}{ch:List Addr}(I:Inv X pins σ H s)(k:∀ b o,b∉ch->s.heap.get? b=some o->h'.get? b=some o)(hf:∀ b∈ch,nE X pins H b):Inv X pins σ H { s with heap:=h',toks:=t' }:=by
 have nit:∀ b u,H b=some u->b∉ch:=fun b u e z=>by rw[(hf b z).1] at e;cases e
 refine I.step (g':=s.gens) (d':=s.drawn) (ch:=ch) (fun b hb=>?_) (fun b o _ _ hc e _=>k b o hc e) (fun b o _ _ hc e _=>⟨o.slots,k b o hc e⟩) (fun _ _ _ _ n=>n)
  (fun b o hc e=>⟨o,k b o hc e⟩) (fun _ _ e=>e) (fun _ _ _ e=>e) (fun b ps e=>⟨#[],by rw[e];simp⟩) (fun m hm=>?_) (fun b u e=>?_) I.bare
 ·obtain⟨f0,f1,f2,f3,f4,f5⟩:=hf b hb
  exact⟨f3,f1,f4,f5⟩
 ·obtain⟨o,es,ep,ho,r⟩:=hm
  exact⟨o,es,ep,k _ o (fun z=>(hf _ z).2.1 rfl) ho,r⟩
 ·refine (I.hok b u e).stay (fun c v hc q=>k c v ?_ q) (fun _ q=>q) fun _ _ q=>q
  rcases hc with z | z
  ·rw[z];exact nit b u e
  ·exact nit c _ z
end
def Itz (K:af)(a b:Addr):It :=
 ⟨fun i H=>∃ xs ys x y,SqL K H a xs∧SqL K H b ys∧xs[i]?=some x∧ys[i]?=some y,
  fun i H x H'=>∃ (T:Addr) (u v:V),x = .ref T∧H T=none∧H'=upd H T (.tup [u,v])∧(∀ xs,SqL K H a xs->xs[i]?=some u)∧∀ ys,SqL K H b ys->ys[i]?=some v,
  fun i H=>∃ xs ys,SqL K H a xs∧SqL K H b ys∧(xs.length<=i∨ys.length<=i)⟩
theorem Mn {P:Program}{w:World}{K:af}{elts:List Expr}{x1}{pos:Pos}{a b z TI TO i1 i2:Addr}(D:ZipApart z TI TO i1 i2 a b) :
  vX P w K (.Tuple elts x1 pos) (Itz K a b) [z,TI,TO,i1,i2] z (fun i h=>IsZip h z TI TO .none∧IsPair h TI (.ref i1) (.ref i2)∧(∃ u v,IsPair h TO u v)∧h.IsListIter i1 a i∧h.IsListIter i2 b i) where
 mem:=by simp
 obj:=fun i h st c hc=>by
  obtain⟨h1,h2,⟨u,v,h3⟩,⟨o4,e4,c4,d4⟩,⟨o5,e5,c5,d5⟩⟩:=st;simp only [aw,fz,or_false] at hc;rcases hc with rfl | rfl | rfl | rfl | rfl
  ·exact⟨_,h1,fun v z=>by cases z⟩
  ·exact⟨_,h2,fun v z=>by cases z⟩
  ·exact⟨_,h3,fun v z=>by cases z⟩
  ·exact⟨_,e4,fun v z=>by rw[d4] at z;cases z⟩
  ·exact⟨_,e5,fun v z=>by rw[d5] at z;cases z⟩
 keep:=fun i h h' st k=>by
  obtain⟨h1,h2,⟨u,v,h3⟩,h4,h5⟩:=st;exact⟨k z (by simp) _ h1,k TI (by simp) _ h2,⟨u,v,k TO (by simp) _ h3⟩,h4.at fun o e=>k i1 (by simp) o e,h5.at fun o e=>k i2 (by simp) o e⟩
 item:=by
  intro X hP hw hK hc i pins s σ H E I hf st hg;subst hP hw hK;obtain⟨xs,ys,x,y,hq1,hq2,hx,hy⟩:=hg;obtain⟨its,rv,p,hz⟩:=I.list hq1;obtain⟨its2,rv2,p2,hz2⟩:=I.list hq2;obtain⟨u,hu,ru⟩:=rv.get hx;obtain⟨v,hv,rv'⟩:=rv2.get hy;obtain⟨h1,h2,⟨c1,c2,h3⟩,h4,h5⟩:=st;refine wpAny_pyNext_zip_item D h1 h2 h3 h4 h5 p.isList p2.isList (x:=u) (y:=v) (by simpa using hu) (by simpa using hv) fun h' z1 z2 z3 z4 z5 z6 z7=>?_
  refine⟨_,rfl,wpAny_letOwnedTupleGo_zip (s:={ s with heap:=h' }) z1 fun h'' y1 y2=>?_⟩;have hT:H s.heap.objs.size=none:=I.hok.fresh (ah _);have I1:Inv X pins σ (upd H s.heap.objs.size (.tup [x,y])) { s with heap:=s.heap.push { cls:=.type "tuple",data:=.seq #[u,v] },toks:=s.toks } :=
   I.laid (t':=s.toks) (fun b u e=>Heap.get?_push_of_some _ e) (ah _) ⟨(by show 2<=sizeLine;rw[sizeLine_eq];decide),[u,v],.cons ru (.cons rv' .nil),⟨_,Heap.get?_push_size _ rfl,rfl,_,rfl⟩⟩
  have nf:∀ c∈[z,TI,TO,i1,i2],c≠s.heap.objs.size:=fun c hc e=>by
   have lt:∃ o,s.heap.get? c=some o:=by
    obtain⟨o4,e4,_⟩:=id h4;obtain⟨o5,e5,_⟩:=id h5;simp only [aw,fz,or_false] at hc;rcases hc with rfl | rfl | rfl | rfl | rfl
    ·exact⟨_,h1⟩
    ·exact⟨_,h2⟩
    ·exact⟨_,h3⟩
    ·exact⟨_,e4⟩
    ·exact⟨_,e5⟩
   obtain⟨o,ho⟩:=lt
   have:=Heap.lt_size ho
   rw[e] at this;exact e9 _ this
  have hf1:∀ c∈[z,TI,TO,i1,i2],nE X pins (upd H s.heap.objs.size (.tup [x,y])) c:=fun c hc=>by
   obtain⟨f0,f⟩:=hf c hc;exact⟨by rw[aG (nf c hc)];exact f0,f⟩
  have I2:Inv X pins σ (upd H s.heap.objs.size (.tup [x,y])) { s with heap:=h'',toks:=s.toks } :=
   Inv.turnedL (s:={ s with heap:=s.heap.push { cls:=.type "tuple",data:=.seq #[u,v] },toks:=s.toks }) (t':=s.toks) (ch:=[z,TI,TO,i1,i2]) I1 (fun b o hb e=>by
    simp only [aw,fz,or_false,not_or] at hb;obtain⟨b1,b2,b3,b4,b5⟩:=hb;refine (y2.2 b b1).trans ?_;rcases Heap.get?_push_cases e with ⟨rfl,rfl⟩ | e
    ·exact z5
    ·exact z7 b o b1 b3 b4 b5 e) hf1
  refine⟨.ref s.heap.objs.size,_,I2,rfl,⟨s.heap.objs.size,x,y,rfl,hT,rfl,fun zs hzs=>by rw[I.list_inj hzs hq1];exact hx,fun zs hzs=>by rw[I.list_inj hzs hq2];exact hy⟩,⟨y1,?_,⟨u,v,?_⟩,?_,?_⟩,fun c hc=>(hf1 c hc).1⟩
  ·exact (y2.2 TI D.TIz).trans (z7 TI _ D.TIz D.TITO D.TIi1 D.TIi2 h2)
  ·exact (y2.2 TO D.TOz).trans z2
  ·exact z3.at fun o e=>(y2.2 i1 D.i1z).trans e
  ·exact z4.at fun o e=>(y2.2 i2 D.i2z).trans e
 done:=by
  intro X hP hw hK hc i pins s σ H E I hf st hg;subst hP hw hK;obtain⟨xs,ys,hq1,hq2,hl⟩:=hg;obtain⟨its,rv,p,hz⟩:=I.list hq1;obtain⟨its2,rv2,p2,hz2⟩:=I.list hq2;obtain⟨h1,h2,⟨c1,c2,h3⟩,h4,h5⟩:=st;have l1:=rv.length;have l2:=rv2.length;refine wpAny_pyNext_zip_end (I.ok.hd hc) D h1 h2 h3 h4 h5 p.isList p2.isList ?_ fun h' kk=>⟨rfl,?_⟩
  ·rcases hl with g | g
   ·exact .inl (by simp;omega)
   ·exact .inr (by simp;omega)
  ·exact I.turnedL (t':=s.toks) (ch:=[z,TI,TO,i1,i2]) (fun b o hb e=>by
    simp only [aw,fz,or_false,not_or] at hb;obtain⟨b1,b2,b3,b4,b5⟩:=hb;exact kk b o b1 b3 b4 b5 e) hf
 self:=fun _ _ _ _ _ st h=>wpAny_pyIter_zip st.1 h
section
variable {X:Cx}
def Zj (K:af)(ta:TA):TI:=fun σ H R=>ta σ H fun xs H1=>∃ a b:Addr,xs=[.ref a,.ref b]∧(∃ us,SqL K H1 a us)∧(∃ vs,SqL K H1 b vs)∧R (Itz K a b) H1
theorem Wv {a b:Expr}{ta:TA}{p pos pos':Pos}{elts:List Expr}{x1}(hg:Gl X "zip")(hm:X.mg "zip" = none)(ha:PA X [a,b] ta)(hs:starEach [a,b] X.env=[(false,eval a X.env),(false,eval b X.env)]:=by rfl)(hs2:starEach [b] X.env=[(false,eval b X.env)]:=by rfl) :
  PI X (.Tuple elts x1 pos') (.Call (.Name "zip" p) [a,b] [] pos) (Zj X.K ta):=by
 intro pins s σ H R I h;refine Call_ (pM I hg hm boot_zip (gt (thn (ha pos pins s σ H _ I h) fun us s1 ⟨vs,H1,I1,r1,q1⟩=>?_) (by rw[hs,hs2]) (by rw[hs2];rfl)));obtain⟨l1,l2,e,⟨us1,hq1⟩,⟨us2,hq2⟩,q⟩:=q1;subst e
 cases r1 with
 | cons r rr =>
  cases rr with
  | cons r' rr =>
   cases rr;cases r;cases r';obtain⟨its,rv,p,hz⟩:=I1.list hq1;obtain⟨its2,rv2,p2,hz2⟩:=I1.list hq2;obtain⟨o1,ho1,_⟩:=id p.isList;obtain⟨o2,ho2,_⟩:=id p2.isList;refine call_zip_2 p.isList p2.isList fun h' z1 z2 z3 z4 z5 z6 z7=>?_
   refine wpAny_pyIter_zip (s:={ s1 with heap:=h' }) z1 ?_;have fr:∀ c,s1.heap.objs.size<=c->nE X pins H1 c:=fun c hc=>I1.fpOk hc (I1.hok.fresh hc)
   refine⟨s1.heap.objs.size+4,[s1.heap.objs.size+4,s1.heap.objs.size+2,s1.heap.objs.size+3,s1.heap.objs.size,s1.heap.objs.size+1],_,_,H1,rfl,I1.kept (t':=s1.toks) z7,Mn (zipApart_new (Heap.lt_size ho1) (Heap.lt_size ho2)),⟨z1,z2,⟨_,_,z3⟩,z4,z5⟩,fun c hc=>fr c ?_,q⟩;simp only [aw,fz,or_false] at hc;rcases hc with rfl | rfl | rfl | rfl | rfl
   ·exact jm _ _
   ·exact jm _ _
   ·exact jm _ _
   ·exact ah _
   ·exact jm _ _
end
namespace ZS
section
variable {prog:Program}{w:World}{A:Around}{E:Value->Shared->Prop}{s:Shared}
end
end ZS
section
variable {X:Cx}
theorem Jz:MtM X "list.insert" (fun x vs H Q=>∃ (l:Addr) (xs:List V) (i:Nat) (y:V),x = .ref l∧vs=[.int (i:Nat),y]∧H l=some (.lst xs)∧i<=xs.length∧xs.length<=1000∧Q .non (upd H l (.lst (xs.take i++y::xs.drop i)))):=by
 intro pins s σ H x vs v us Q I rx rv h;obtain⟨l,xs,i,y,rfl,rfl,hH,hi,hn,q⟩:=h;cases rx;obtain⟨u,w',rfl,⟨t,rfl⟩,rw'⟩:=Zf rv;obtain⟨z,its,n,r,hl,e⟩:=I.lstM hH;have hs:sizeLine=16777216:=sizeLine_eq;have hln:=r.length;have hfit:¬ (!Builtin.List.listFitsIndex ((i:Nat):Int))=true:=by
  have h1:(-(2 ^ 63:Int)<=((i:Nat):Int)):=Int.le_trans (by decide) (qy i);have h2:((i:Nat):Int)<2 ^ 63:=Int.lt_of_le_of_lt (show ((i:Nat):Int)<=1000 by omega) (by decide);unfold Builtin.List.listFitsIndex;rw[decide_eq_true h1,decide_eq_true h2]
  decide
 have hsz:its.toArray.size<=sizeLine:=by rw[ap];omega
 have hk:(if ((i:Nat):Int)<0 then (((i:Nat):Int)+(its.toArray.size:Int)).toNat else min ((i:Nat):Int).toNat its.toArray.size)=i:=by
  rw[if_neg (by omega),bv,ap];exact et (by omega)
 generalize hx:((i:Nat):Int)=x at hfit hk ⊢;have M:=oz l its.toArray n x t w' hfit hsz;refine call_meets F.slot_list_insert ⟨_,e,rfl⟩ F.entry_list_insert (F.args_list_insert_3 _ _ _) M ⟨e,?_⟩;have hf:(fun xs:Array Value=>have k:=if x<0 then (x+(xs.size:Int)).toNat else min x.toNat xs.size;(xs.extract 0 k).push w'++xs.extract k) its.toArray=(its.take i++w'::its.drop i).toArray:=by
  show (its.toArray.extract 0 (if x<0 then (x+(its.toArray.size:Int)).toNat else min x.toNat its.toArray.size)).push w'++its.toArray.extract (if x<0 then (x+(its.toArray.size:Int)).toNat else min x.toNat its.toArray.size)=_;rw[hk];apply Array.toList_inj.mp;rw[Array.toList_append,m9,p9,p9];simp;exact cp (by rw[bf];omega)
 have hv:bK (xs.take i++y::xs.drop i) (its.take i++w'::its.drop i):=?hv;refine⟨.non,_,I.lset (its':=its.take i++w'::its.drop i) hH e hf hv ?_,rfl,q⟩
 ·rw[ai,b8,av,bf]
  omega
 case hv=>exact (r.take i).append (.cons rw' (r.drop i))
end
theorem on1 {α:Type}{C:List α->Prop}{us:List α}(h:us.length=1)(k:∀ a,C [a]):C us:=match us,h with | [a],_=>k a
theorem on2 {α:Type}{C:List α->Prop}{us:List α}(h:us.length=2)(k:∀ a b,C [a,b]):C us:=match us,h with | [a,b],_=>k a b
theorem on3 {α:Type}{C:List α->Prop}{us:List α}(h:us.length=3)(k:∀ a b c,C [a,b,c]):C us:=match us,h with | [a,b,c],_=>k a b c
theorem on4 {α:Type}{C:List α->Prop}{us:List α}(h:us.length=4)(k:∀ a b c d,C [a,b,c,d]):C us:=match us,h with | [a,b,c,d],_=>k a b c d
section
variable {X:Cx}
theorem Ox {st:List Stmt}:PSs X st (fun _ _ _=>False):=fun _ _ _ _ _ _ h=>h.elim
end
structure yS (N N':List Str)(sc scope:Scope)(x y2:Str):Prop where
 kind:scope.kind = .function
 cell:∀ y∈scope.names,y.2≠.cell
 names:∀ y∈scope.names,y.2 = .local->scope.names.lookup y.1=some .local
 var:scope.names.lookup x=some .local
 var2:scope.names.lookup y2=some .local
 ok:∀ y∈scope.names,y.2 = .free->sc.names.lookup y.1=some .cell∨sc.names.lookup y.1=some .free
 hd:N'[0]?=some x
 hd2:N'[1]?=some y2
 len:N'.length=N.length+2
 sub:∀ i,i<N.length->N'[i+2]?=N[i]?∨N'[i+2]?=some ("" : Str)
 noe:scope.names.lookup ("" : Str)=none
 nol:∀ y∈N'.tail.tail,scope.names.lookup y≠some .local
 nd:N'.Nodup
def zH (K:af)(te:TE)(σ:St)(Q:VK)(J:It)(H1:Hp):Prop:=∀ D,H1 D=none->∃ W:Nat->Nat->List V->Hp->Prop,(∃ m,W 0 m [] (upd H1 D (.lst [])))∧∀ i m ys H2,W i m ys H2 ->
 (J.stop i H2∧Q (.ref D) H2)∨(J.go i H2∧ys.length<sizeLine∧∃ N:V->Hp->Prop,(∀ v H',N v H'->H' D=some (.lst ys)∧∃ m',m'<m∧W (i+1) m' (ys++[v]) (upd H' D (.lst (ys++[v])))) ∧
  ∀ y H',J.yld i H2 y H'->∃ (a:Addr) (u v:V),y = .ref a∧SqT K H' a [u,v]∧te (some u::some v::σ) H' N)
def Wb (K:af)(wi:TI)(te:TE):TE:=fun σ H Q=>wi σ H (zH K te σ Q)
section
variable {X:Cx}{N':List Str}{scope:Scope}{x y2:Str}{px py py2 pt:Pos}{elt iter:Expr}{pos:Pos}{te:TE}{wi:TI}
theorem Fi (S:yS X.N N' X.env.scope scope x y2)(hc:X.calm=true)(he:∀ cl C s H fp,PE (bY X N' scope cl C s H fp) elt te)
  {pins:List (Addr×Obj)} {σ:St} {H:Hp} {s:Shared} {Q:VK} {E:Value->Shared->Prop} {RR:Value->Addr->Result->Shared->Prop} {it:Addr} {fp:List Addr} {tn:Nat->Heap->Prop} {J:It}
  (I:Inv X pins σ H s) (T:vX X.prog X.w X.K (.Tuple [.Name x px,.Name y2 py] 0 pt) J fp it tn) (st:tn 0 s.heap) (f2:∀ b∈fp,nE X pins H b)
  (hw:zH X.K te σ Q J H)
  (hRR:∀ D C s' H',Inv X pins σ H' s'->(∃ m,s'.heap.Ns C m)->C≠X.env.locals->(∀ y c,X.env.cells.lookup y=some c->c≠C)->H' C=none->X.s₀.heap.objs.size<=C->(∀ p∈X.pn++pins,p.1≠C)->Q (.ref D) H'->RR (.ref D) C (.ok .next) s') :
  ∃ cl,closureFor scope X.env=pure cl∧wpAny (model X.prog X.w) X.A (newList []) (fun acc s₃=>wpAny (model X.prog X.w) X.A (newFunctionEnv scope X.env.globals cl [] X.env.qual none .none (some X.env)) (fun cenv s₄ =>
   codeAny (model X.prog X.w) X.A (.compStart (.ListComp elt [⟨.Tuple [.Name x px,.Name y2 py] 0 pt,iter,[],0⟩] scope pos) 0 (.ref it) acc { cenv with scope:=relabel scope X.env }) (RR acc cenv.locals) s₄) E s₃) E s:=by
 have hfree:∀ z∈scope.names,z.2 = .free->∃ c,X.env.cells.lookup z.1=some c:=fun z hz hk=>by
  rcases S.ok z hz hk with q | q
  ·exact I.ok.has z.1 (.inl q)
  ·exact I.ok.has z.1 (.inr q)
 refine⟨_,iX hfree,?_⟩;have clS:∀ y c,(dX X.env.cells scope.names []).lookup y=some c->X.env.cells.lookup y=some c:=fun y c=>mU scope.names [] hfree fun q=>by cases q
 generalize hcl:dX X.env.cells scope.names []=cl at clS;have clH:∀ y,scope.names.lookup y=some .free->∃ c,cl.lookup y=some c:=fun y hy=>by
  rw[<- hcl];exact tS scope.names [] (eR hy)
 refine wpAny_newObj_type (wpAny_newFunctionEnv S.cell (by intro y hy;simp at hy) (fun h₁ hns₁ hsb₁=>?_) S.kind);have I3:Inv X pins σ (upd H s.heap.objs.size (.lst [])) { s with heap:=s.heap.push { cls:=.type "list",data:=.seq ([]:List Value).toArray } }:=I.lnew (t':=s.toks) .nil (b9 _)
 obtain⟨W,⟨m0,w0⟩,turn⟩:=hw s.heap.objs.size I.fresh
 dsimp only at hns₁ hsb₁ ⊢
 generalize hs3:({ s with heap:=s.heap.push { cls:=.type "list",data:=.seq ([]:List Value).toArray } }:Shared)=s3 at I3
 have hh3:s3.heap=s.heap.push { cls:=.type "list",data:=.seq ([]:List Value).toArray }:=by rw[<- hs3]
 have hsz3:s3.heap.objs.size=s.heap.objs.size+1:=by rw[hh3,Heap.size_push]
 rw[<- hh3] at hns₁ hsb₁ ⊢;have old:∀ b o,s3.heap.get? b=some o->h₁.get? b=some o:=fun b o e=>hsb₁.extBut b o (by have:=Heap.lt_size e;exact a9 this) (Heap.get?_push_of_some _ e)
 have old0:∀ b o,s.heap.get? b=some o->h₁.get? b=some o:=fun b o e=>old b o (by rw[hh3];exact Heap.get?_push_of_some _ e)
 have CneL:s3.heap.objs.size≠X.env.locals:=g0 I3.lt;have CneC:∀ y c,X.env.cells.lookup y=some c->c≠s3.heap.objs.size:=fun y c e z=>by
  obtain⟨v,q⟩:=I3.cell y c e
  have:=q.lt
  rw[z] at this;exact absurd this (e9 _)
 have CneP:∀ p∈X.pn++pins,p.1≠s3.heap.objs.size:=fun p hp z=>by
  have:=Heap.lt_size (I3.pin p hp).1
  rw[z] at this;exact absurd this (e9 _)
 have CfreeH:∀ b o,s3.heap.get? b=some o->b<s3.heap.objs.size:=fun b o e=>by have:=Heap.lt_size e;exact this
 have fpLt:∀ b∈fp,b<s3.heap.objs.size:=fun b hb=>by
  obtain⟨o,e,_⟩:=T.obj 0 s.heap st b hb;rw[hsz3];exact fh (Heap.lt_size e)
 have fpD:∀ b∈fp,b≠s.heap.objs.size:=fun b hb=>by
  obtain⟨o,e,_⟩:=T.obj 0 s.heap st b hb;exact a9 (Heap.lt_size e)
 have ok':(bY X N' scope cl s3.heap.objs.size s3 (upd H s.heap.objs.size (.lst [])) fp).Ok:=by
  refine⟨I3.ok.mod,?_,I3.ok.glob,I3.ok.blt,ah _,fun y z c h1 h2=>I3.ok.inj y z c (clS y c h1) (clS z c h2),fun y hy=>?_,fun y c hf=>(by cases hf),I3.ok.hd,I3.ok.frames,.inl rfl,fun b hb=>⟨a9 (fpLt b hb),fun y c e=>(f2 b hb).2.2.2.2.1 y c (clS y c e)⟩,
   fun b o e=>I3.bs b o e,az I3.ok.bsz I3.sz,fun b o e hb=>?_,fun b hb z=>?_,I3.stack,I3.stkFree⟩
  ·show (relabel scope X.env).kind = .function
   exact S.kind
  ·have hy':(relabel scope X.env).names.lookup y=some .cell∨(relabel scope X.env).names.lookup y=some .free:=hy
   rw[cR] at hy'
   cases q:scope.names.lookup y with
   | none=>rw[q] at hy';rcases hy' with z | z <;> cases z
   | some k =>
     have hm:=eR q
     cases k with
     | free=>exact clH y q
     | cell=>exact absurd rfl (S.cell _ hm)
     | «local» => rw[q] at hy';rcases hy' with z | z <;> simp at z
     | globalExplicit=>rw[q] at hy';rcases hy' with z | z <;> simp at z
     | globalImplicit=>rw[q] at hy';rcases hy' with z | z <;> simp at z
  ·rcases (f2 b hb).2.2.2.1 with z | z
   · exact I.ok.noex b o e z
   · exact absurd (b7 (Heap.lt_size e) (az I.ok.bsz z)) (e9 _)
  ·rcases aw.mp (I3.stkSub b z) with q | q
   · exact (f2 b hb).2.1 q
   · exact (f2 b hb).2.2.1 q
 have fpOk':∀ {H':Hp},(∀ b∈fp,H' b=none)->∀ b∈fp,nE (bY X N' scope cl s3.heap.objs.size s3 (upd H s.heap.objs.size (.lst [])) fp) pins H' b:=fun hn b hb =>
  ⟨hn b hb,a9 (fpLt b hb),fun z=>by
   rcases aw.mp (I3.stkSub b z) with q | q
   · exact (f2 b hb).2.1 q
   · exact (f2 b hb).2.2.1 q,.inl hb,fun y c e=>(f2 b hb).2.2.2.2.1 y c (clS y c e),(f2 b hb).2.2.2.2.2⟩
 have I4:Inv (bY X N' scope cl s3.heap.objs.size s3 (upd H s.heap.objs.size (.lst [])) fp) pins (none::none::σ) (upd H s.heap.objs.size (.lst [])) { s3 with heap:=h₁,toks:=s3.toks+([]:List (Str×Value)).length }:=by
  refine⟨ok',rfl,I3.bare,Un.kept old,⟨_,hns₁,fun i y v e1 e2 vis=>?_⟩,fun y c e=>?_,?_,fun y c e=>I3.freeC y c (clS y c e),fun p hp=>?_,I3.hok.kept old,?_⟩
  ·cases i with
   | zero=>cases e2
   | succ i =>
    cases i with
    | zero=>cases e2
    | succ i =>
     have e2':σ[i]?=some (some v):=by simpa using e2
     have hi:i<X.N.length:=by rw[<- I3.len];exact (al.mp e2').1
     have vis':(relabel scope X.env).names.lookup y=some .local∨(relabel scope X.env).names.lookup y=some .cell∨(relabel scope X.env).names.lookup y=some .free:=vis;have e1':N'[i+2]?=some y:=e1;rcases S.sub i hi with q | q
     ·rw[e1'] at q
      have hy:X.N[i]?=some y:=q.symm;have hmem:y∈N'.tail.tail:=by
       rw[pd];exact⟨i,by rw[mq,mq];exact e1'⟩
      have hfr:scope.names.lookup y=some .free:=by
       rw[cR] at vis'
       cases q2:scope.names.lookup y with
       | none=>rw[q2] at vis';rcases vis' with z | z | z <;> cases z
       | some k =>
        cases k with
        | free=>rfl
        | cell=>exact absurd rfl (S.cell _ (eR q2))
        | «local» => exact absurd q2 (S.nol y hmem)
        | globalExplicit=>rw[q2] at vis';rcases vis' with z | z | z <;> simp at z
        | globalImplicit=>rw[q2] at vis';rcases vis' with z | z | z <;> simp at z
      have hok:=S.ok (y,.free) (eR hfr) rfl;obtain⟨m,hn,hl⟩:=I3.loc;have visX:Vis X.env.scope y:=by
       rcases hok with z | z
       ·exact .inr (.inl z)
       ·exact .inr (.inr z)
      obtain⟨u,r,l⟩:=hl i y v hy e2' visX;refine⟨u,r,.inr ⟨?_,?_⟩⟩
      ·show (relabel scope X.env).names.lookup y=some .cell∨(relabel scope X.env).names.lookup y=some .free
       rw[cR,hfr,il];by_cases hcnd:(NameKind.free==NameKind.free&&X.env.scope.kind == .function&&X.env.kindOf y==some .cell)=true
       ·left
        rw[if_pos hcnd]
       ·right
        rw[if_neg hcnd]
      ·rcases l with ⟨k,_⟩ | ⟨k,c,e,z⟩
       ·have k':X.env.scope.names.lookup y=some .local:=k
        have hok':X.env.scope.names.lookup y=some .cell∨X.env.scope.names.lookup y=some .free:=hok;rw[k'] at hok';rcases hok' with z | z <;> cases z
       ·obtain⟨c',e'⟩:=clH y hfr
        have e3:=clS y c' e';rw[e] at e3;cases e3;obtain⟨o,ho,hd⟩:=z;exact⟨c,e',o,old c o ho,hd⟩
     ·rw[e1'] at q
      cases q;rw[cR,S.noe] at vis';rcases vis' with z | z | z <;> cases z
  ·obtain⟨v,o,ho,hd⟩:=I3.cell y c (clS y c e)
   exact⟨v,o,old c o ho,hd⟩
  ·show upd H s.heap.objs.size (.lst []) s3.heap.objs.size=none
   exact I3.hok.fresh (ah _)
  ·obtain⟨e,n,ne,nf,d⟩:=I3.pin p hp
   refine⟨old _ _ e,n,CneP p hp,fun z=>?_,d⟩;rcases aw.mp (I3.stkSub p.1 z) with q | q
   · exact ne q
   · exact nf q
  ·show (none::none::σ).length=N'.length
   rw[S.len,av,av,I3.len]
 have st4:tn 0 h₁:=T.keep 0 s.heap h₁ st fun b _ o e=>old0 b o e
 have loop:∀ s₄:Shared,s₄ = { s3 with heap:=h₁,toks:=s3.toks+([]:List (Str×Value)).length } ->
   codeAny (model X.prog X.w) X.A (.compLoop (.ListComp elt [⟨.Tuple [.Name x px,.Name y2 py] 0 pt,iter,[],0⟩] scope pos) 0 (.ref it) (.ref s.heap.objs.size) (compEnvC scope cl s3.heap.objs.size X.env)) (RR (.ref s.heap.objs.size) s3.heap.objs.size) s₄:=by
  rintro s₄ rfl;refine lK (fun n s'=>∃ i v0 v1 ys H',Inv (bY X N' scope cl s3.heap.objs.size s3 (upd H s.heap.objs.size (.lst [])) fp) pins (v0::v1::σ) H' s'∧tn i s'.heap∧(∀ b∈fp,H' b=none)∧W i n ys H') ?_ m0
   ⟨0,none,none,[],_,I4,st4,fun b hb=>by rw[aG (fpD b hb)];exact (f2 b hb).1,w0⟩
  rintro n s5 ⟨i,v0,v1,ys,H5,I5,st5,fr5,w5⟩;rcases turn i n ys H5 w5 with ⟨stop,qn⟩ | ⟨go,hz,N,hN,step⟩
  ·refine thn (T.done (bY X N' scope cl s3.heap.objs.size s3 (upd H s.heap.objs.size (.lst [])) fp) rfl rfl rfl hc i pins s5 (v0::v1::σ) H5 (fun _ _=>False) I5 (fpOk' fr5) st5 stop) fun r s6 ⟨hr,I6⟩=>?_
   subst hr;have hch:∀ b∈fp,(b∈X.ex∨X.s₀.heap.objs.size<=b)∧b≠X.env.locals∧(∀ x c,X.env.cells.lookup x=some c->c≠b)∧∀ p∈X.pn++pins,p.1≠b:=fun b hb =>
     ⟨(f2 b hb).2.2.2.1,(f2 b hb).2.1,(f2 b hb).2.2.2.2.1,(f2 b hb).2.2.2.2.2⟩
   have I7:Inv X pins σ H5 s6:=I3.call' (ch:=fp) I6.os I6.base I6.hok I6.bare hch;obtain⟨m,hm,_⟩:=I6.loc;exact hRR s.heap.objs.size s3.heap.objs.size s6 H5 I7 ⟨m,hm⟩ CneL CneC I6.free (az I3.sz (ah _)) CneP qn
  ·refine thn (T.item (bY X N' scope cl s3.heap.objs.size s3 (upd H s.heap.objs.size (.lst [])) fp) rfl rfl rfl hc i pins s5 (v0::v1::σ) H5 (fun _ _=>False) I5 (fpOk' fr5) st5 go) fun r s6 ⟨u,hr,h6⟩=>?_
   subst hr;refine thn h6 fun _ s7 ⟨y,H7,I7,r7,y7,st7,fr7⟩=>?_
   have I7':=I7.pinned (fpOk' fr7) (T.obj _ _ st7);obtain⟨aT,u0,u1,e7,hT7,step7⟩:=step y H7 y7;have I7c:Inv (bY X N' scope cl s3.heap.objs.size s3 (upd H s.heap.objs.size (.lst [])) fp) (pins++mP fp s7.heap) (v0::v1::σ) H7 s7:=I7';refine thn ((show PG _ _ _ from vD (X:=bY X N' scope cl s3.heap.objs.size s3 (upd H s.heap.objs.size (.lst [])) fp) (es:=[.Name x px,.Name y2 py]) (n:=2) hc
     (fG (bD (i:=0) S.nd S.hd (.inl (lookup_relabel_local S.var)) (.inr (lookup_relabel_local S.var))) (fG (bD (i:=1) S.nd S.hd2 (.inl (lookup_relabel_local S.var2)) (.inr (lookup_relabel_local S.var2))) oG)))
     _ s7 (v0::v1::σ) H7 y u (fun σ2 H2=>σ2=some u0::some u1::σ∧H2=H7) I7c r7 ⟨aT,[u0,u1],e7,hT7,rfl,u0,[u1],rfl,u1,[],rfl,rfl,rfl,rfl⟩) fun _ s8 ⟨σ8,H8,I8,e8,e8'⟩=>?_
   subst e8 e8';have I8':Inv (bY X N' scope cl s3.heap.objs.size s3 (upd H s.heap.objs.size (.lst [])) fp) (pins++mP fp s7.heap) (some u0::some u1::σ) H8 s8:=I8;refine thn (he cl s3.heap.objs.size s3 (upd H s.heap.objs.size (.lst [])) fp _ s8 (some u0::some u1::σ) _ N I8' step7) fun w s9 ⟨v,H9,I9,r9,q9⟩=>?_
   obtain⟨hD9,m',hm,w9⟩:=hN v H9 q9;refine thn (gO _ s9 (some u0::some u1::σ) H9 (.ref s.heap.objs.size) [v] (.ref s.heap.objs.size) [w] (fun z H10=>z = .non∧H10=upd H9 s.heap.objs.size (.lst (ys++[v]))) I9 rfl (.cons r9 .nil) ⟨s.heap.objs.size,ys,v,rfl,rfl,hD9,hz,rfl,rfl⟩) fun _ s10 ⟨z,H10,I10,_,ez,e10⟩=>?_
   subst e10;refine⟨m',hm,i+1,some u0,some u1,ys++[v],_,I10.unpinned,T.keep _ _ _ st7 fun b hb o e=>(I10.pin (b,o) (bn _ (bn _ (eP hb e)))).1,fun b hb=>?_,w9⟩;obtain⟨o,e,d⟩:=T.obj _ _ st7 b hb;exact (I10.pin (b,o) (bn _ (bn _ (eP hb e)))).2.1
 exact codeAny_compStart_list (loop _ (by rw[<- hs3])) (T.self X.A 0 _ _ _ st4 (loop _ (by rw[<- hs3])))
end
theorem Om {K:af}{a b:Addr}{xs ys:List V}{te:TE}{σ:St}{H:Hp}{Q:VK}(f:V->V->V)(hx:SqL K H a xs)(hy:SqL K H b ys)(he:xs.length=ys.length)(hn:xs.length<=sizeLine)
  (hs:∀ (i:Nat) (x y:V) (H':Hp),xs[i]?=some x->ys[i]?=some y->aL H H'->∀ N:V->Hp->Prop,(∀ H'',aL H' H''->N (f x y) H'')->te (some x::some y::σ) H' N)
  (hq:∀ D H',H D=none->aL H H'->H' D=some (.lst (ol f xs ys))->Q (.ref D) H'):zH K te σ Q (Itz K a b) H:=by
 have hzl:(ol f xs ys).length=xs.length:=by rw[qf,<- he,Nat.min_self]
 intro D hD;refine⟨fun i m zs H2=>m=xs.length-i∧i<=xs.length∧zs=(ol f xs ys).take i∧aL H H2∧H2 D=some (.lst zs),⟨xs.length,rfl,b9 _,rfl,fun b o e=>?_,aD⟩,?_⟩
 ·rw[aG (aJ e hD)]
  exact e
 ·rintro i m zs H2 ⟨rfl,hi,rfl,s2,hd⟩
  by_cases hlt:i<xs.length
  ·have h1:xs[i]?=some xs[i]:=ac hlt
   have h2:ys[i]?=some (ys[i]'(by omega)):=ac (by omega);refine .inr ⟨⟨xs,ys,_,_,s2.seq hx,s2.seq hy,h1,h2⟩,by rw[b8];omega,fun v H'=>v=f xs[i] (ys[i]'(by omega))∧aL H2 H',fun v H' ⟨ev,hs'⟩=>⟨hs' D _ hd,xs.length-(i+1),by omega,rfl,hlt,?app,fun b o e=>?kp,aD⟩,fun y H' hy'=>?stp⟩
   case app=>rw[ev,cx,lj,h1,h2];rfl
   case kp =>
    rw[aG (aJ e hD)];exact hs' b o (s2 b o e)
   case stp =>
    obtain⟨T,u,v,rfl,hT,rfl,y1,y3⟩:=hy';have t2:aL H2 (upd H2 T (.tup [u,v])):=fun b o e=>by rw[aG (aJ e hT)];exact e
    obtain rfl:=ay ((y1 xs (s2.seq hx)).symm.trans h1);obtain rfl:=ay ((y3 ys (s2.seq hy)).symm.trans h2);exact⟨T,_,_,rfl,SqT.of aD,hs i _ _ _ h1 h2 (s2.trans t2) _ fun H'' h''=>⟨rfl,t2.trans h''⟩⟩
  ·have e:i=xs.length:=by omega
   subst e;rw[cp (by omega)] at hd;exact .inl ⟨⟨xs,ys,s2.seq hx,s2.seq hy,.inl (ah _)⟩,hq D H2 hD s2 hd⟩
section
variable {X:Cx}{pins:List (Addr×Obj)}{σ:St}{H H':Hp}{s s':Shared}{a:Addr}{cls:Value}{E:Value->Shared->Prop}
end
section
variable {X:Cx}{pins:List (Addr×Obj)}{σ:St}{H H':Hp}{s s':Shared}{a:Addr}{cls:Value}
end
section
variable {P:Program}{w:World}{K:af}{mg:Str->Option Value}{base:Heap}{N:List Str}{qual:Str}{scope:Scope}{f:Addr}{cdv:Value}{A:Around}{outer:List Env}{s:Shared}{H:Hp}{E:XK}
end
section
variable {X:Cx}
end
section
variable {prog:Program}{w:World}{A:Around}{E:Value->Shared->Prop}{h:Heap}{g:Array GenState}{d:Drawn}{t:Nat}{os:OsState}
variable {nm q:Str}{Cl Ns:Addr}{bs tl:List Value}{hdct:Bool}{sn:List Str}{sub:List Value}{ab:Bool}{col:Option Bool}{dd:Option Addr}{k0 k1 k2 k3 k5:Option Value}
end
section
variable {M:Model}{A:Around}{E:Value->Shared->Prop}{s:Shared}{env:Env}
variable {nm q:Str}{Cl Ns:Addr}{bs tl:List Value}{hdct:Bool}{sn:List Str}{sub:List Value}{ab:Bool}{col:Option Bool}{dd:Option Addr}{k0 k1 k2 k3 k5:Option Value}{ni:String}
end
section
variable {X:Cx}
end
open PySem.Builtin PySem.Builtin.ObjectAttr
section
variable {prog:Program}{w:World}{A:Around}{E:Value->Shared->Prop}{K:af}{C f a x0:Addr}{F:Str}{v:Value}{s:Shared}
end
section
variable {X:Cx}
end
end L2
namespace L2
open PySem PySem.Spec PyProof.Rows
section
variable {X:Cx}{pins:List (Addr×Obj)}{σ:St}{H:Hp}{s:Shared}{a C x0:Addr}{E:Value->Shared->Prop}{od:Option Addr}
end
section
variable {X:Cx}
end
namespace EX
open PySem.W PySem.Calls PySem.Builtin PySem.Builtin.ObjectAttr PySem.Builtin.Getset_descriptor
variable {prog:Program}{w:World}{A:Around}{E:Value->Shared->Prop}{s:Shared}{K:af}{a C:Addr}
end EX
section
variable {X:Cx}
end
def Ite (K:af)(a:Addr):It :=
 ⟨fun i H=>∃ xs x,SqL K H a xs∧xs[i]?=some x,
  fun i H x H'=>∃ (T:Addr) (u:V),x = .ref T∧H T=none∧H'=upd H T (.tup [.int (i:Nat),u])∧∀ xs,SqL K H a xs->xs[i]?=some u,
  fun i H=>∃ xs,SqL K H a xs∧xs.length<=i⟩
theorem Kv {P:Program}{w:World}{K:af}{elts:List Expr}{x1}{pos:Pos}{a e it:Addr}(hne:e≠it) :
  vX P w K (.Tuple elts x1 pos) (Ite K a) [e,it] e (fun i h=>(∃ old,IsEnum h e it i old)∧h.IsListIter it a i) where
 mem:=by simp
 obj:=fun i h st c hc=>by
  obtain⟨⟨old,h1⟩,⟨o4,e4,c4,d4⟩⟩:=st;simp only [aw,fz,or_false] at hc;rcases hc with rfl | rfl
  ·exact⟨_,h1,fun v z=>by cases z⟩
  ·exact⟨_,e4,fun v z=>by rw[d4] at z;cases z⟩
 keep:=fun i h h' st k=>by
  obtain⟨⟨old,h1⟩,h4⟩:=st;exact⟨⟨old,k e (by simp) _ h1⟩,h4.at fun o e=>k it (by simp) o e⟩
 item:=by
  intro X hP hw hK hc i pins s σ H E I hf st hg;subst hP hw hK;obtain⟨xs,x,hq1,hx⟩:=hg;obtain⟨its,rv,p,hz⟩:=I.list hq1;obtain⟨u,hu,ru⟩:=rv.get hx;obtain⟨⟨old,h1⟩,h4⟩:=st;refine wpAny_pyNext_enum_item h1 h4 p.isList (x:=u) (by simpa using hu) hne fun h' z1 z2 z3 z4 z5=>?_
  refine⟨_,rfl,wpAny_letOwnedTupleGo_enum (s:={ s with heap:=h',toks:=s.toks+1 }) z1 fun h'' y1 y2=>?_⟩;have hT:H s.heap.objs.size=none:=I.hok.fresh (ah _);have I1:Inv X pins σ (upd H s.heap.objs.size (.tup [.int (i:Nat),x])) { s with heap:=s.heap.push { cls:=.type "tuple",data:=.seq #[.int i s.toks,u] },toks:=s.toks+1 } :=
   I.laid (t':=s.toks+1) (fun b u e=>Heap.get?_push_of_some _ e) (ah _) ⟨(by show 2<=sizeLine;rw[sizeLine_eq];decide),[.int i s.toks,u],.cons ⟨_,rfl⟩ (.cons ru .nil),⟨_,Heap.get?_push_size _ rfl,rfl,_,rfl⟩⟩
  have nf:∀ c∈[e,it],c≠s.heap.objs.size:=fun c hc e=>by
   have lt:∃ o,s.heap.get? c=some o:=by
    obtain⟨o4,e4,_⟩:=id h4;simp only [aw,fz,or_false] at hc;rcases hc with rfl | rfl
    ·exact⟨_,h1⟩
    ·exact⟨_,e4⟩
   obtain⟨o,ho⟩:=lt
   have:=Heap.lt_size ho
   rw[e] at this;exact e9 _ this
  have hf1:∀ c∈[e,it],nE X pins (upd H s.heap.objs.size (.tup [.int (i:Nat),x])) c:=fun c hc=>by
   obtain⟨f0,f⟩:=hf c hc;exact⟨by rw[aG (nf c hc)];exact f0,f⟩
  have I2:Inv X pins σ (upd H s.heap.objs.size (.tup [.int (i:Nat),x])) { s with heap:=h'',toks:=s.toks+1 } :=
   Inv.turnedL (s:={ s with heap:=s.heap.push { cls:=.type "tuple",data:=.seq #[.int i s.toks,u] },toks:=s.toks+1 }) (t':=s.toks+1) (ch:=[e,it]) I1 (fun b o hb e=>by
    simp only [aw,fz,or_false,not_or] at hb;obtain⟨b1,b2⟩:=hb;refine (y2.2 b b1).trans ?_;rcases Heap.get?_push_cases e with ⟨rfl,rfl⟩ | e
    ·exact z3
    ·exact z5 b o b1 b2 e) hf1
  refine⟨.ref s.heap.objs.size,_,I2,rfl,⟨s.heap.objs.size,x,rfl,hT,rfl,fun zs hzs=>by rw[I.list_inj hzs hq1];exact hx⟩,⟨⟨_,by exact_mod_cast y1⟩,?_⟩,fun c hc=>(hf1 c hc).1⟩;exact z2.at fun o e=>(y2.2 it (Ne.symm hne)).trans e
 done:=by
  intro X hP hw hK hc i pins s σ H E I hf st hg;subst hP hw hK;obtain⟨xs,hq1,hl⟩:=hg;obtain⟨its,rv,p,hz⟩:=I.list hq1;obtain⟨⟨old,h1⟩,h4⟩:=st;have l1:=rv.length;refine wpAny_pyNext_enum_end (I.ok.hd hc) h1 h4 p.isList (by simp;omega) fun h' kk=>⟨rfl,?_⟩
  exact I.turnedL (t':=s.toks) (ch:=[e,it]) (fun b o hb e=>by
   simp only [aw,fz,or_false,not_or] at hb;exact kk b o hb.2 e) hf
 self:=fun A i s Q E st h=>wpAny_pyIter_enum st.1.choose_spec h
section
variable {X:Cx}
def Xd (K:af)(ta:TA):TI:=fun σ H R=>ta σ H fun xs H1=>∃ a:Addr,xs=[.ref a]∧(∃ us,SqL K H1 a us)∧R (Ite K a) H1
theorem Sc {a:Expr}{ta:TA}{p pos pos':Pos}{elts:List Expr}{x1}(hg:Gl X "enumerate")(hm:X.mg "enumerate" = none)(ha:PA X [a] ta)(hs:starEach [a] X.env=[(false,eval a X.env)]:=by rfl) :
  PI X (.Tuple elts x1 pos') (.Call (.Name "enumerate" p) [a] [] pos) (Xd X.K ta):=by
 intro pins s σ H R I h;refine Call_ (pM I hg hm boot_enumerate (gt (thn (ha pos pins s σ H _ I h) fun us s1 ⟨vs,H1,I1,r1,q1⟩=>?_) (by rw[hs];rfl) (by rfl)));obtain⟨l1,e,⟨us1,hq1⟩,q⟩:=q1;subst e
 cases r1 with
 | cons r rr =>
  cases rr;cases r;obtain⟨its,rv,p,hz⟩:=I1.list hq1;refine call_enumerate_list p.isList fun h' z1 z2 z3 z4=>?_
  refine wpAny_pyIter_enum (s:={ s1 with heap:=h' }) z1 ?_;have fr:∀ c,s1.heap.objs.size<=c->nE X pins H1 c:=fun c hc=>I1.fpOk hc (I1.hok.fresh hc)
  refine⟨s1.heap.objs.size+1,[s1.heap.objs.size+1,s1.heap.objs.size],_,_,H1,rfl,I1.kept (t':=s1.toks) z4,Kv (Nat.succ_ne_self _),⟨⟨_,z1⟩,z2⟩,fun c hc=>fr c ?_,q⟩;simp only [aw,fz,or_false] at hc;rcases hc with rfl | rfl
  ·exact jm _ _
  ·exact ah _
theorem Qj {K:af}{a:Addr}{xs:List V}{g:TG}{tb:TS}{D:lE}{σ:St}{H:Hp}(Pv:Nat->St->Hp->Prop)(h0:Pv 0 σ H)(hl:∀ i σ H,i<=xs.length->Pv i σ H->SqL K H a xs)
  (hs:∀ i x T σ H,xs[i]?=some x->H T=none->Pv i σ H->g (.ref T) σ (upd H T (.tup [.int (i:Nat),x])) fun σ2 H2=>tb { D with nx:=Pv (i+1),ct:=Pv (i+1),bk:=D.nx } σ2 H2) (hd:∀ σ H,Pv xs.length σ H->D.nx σ H) :
  ∃ W:Nat->Nat->St->Hp->Prop,(∃ m,W 0 m σ H)∧∀ i m σ H,W i m σ H ->
   ((Ite K a).stop i H∧D.nx σ H)∨((Ite K a).go i H∧∃ N:St->Hp->Prop,(∀ σ' H',N σ' H'->∃ m',m'<m∧W (i+1) m' σ' H')∧∀ x H',(Ite K a).yld i H x H'->g x σ H' fun σ2 H2=>tb { D with nx:=N,ct:=N,bk:=D.nx } σ2 H2):=by
 refine⟨fun i m σ H=>m=xs.length-i∧i<=xs.length∧Pv i σ H,⟨xs.length,by simp,b9 _,h0⟩,?_⟩;rintro i m σ H ⟨rfl,hi,p⟩;have q1:=hl i σ H hi p;by_cases hlt:i<xs.length
 ·refine .inr ⟨⟨xs,xs[i],q1,by simp[hlt]⟩,Pv (i+1),fun σ' H' p'=>⟨xs.length-(i+1),by omega,rfl,hlt,p'⟩,fun x H' y=>?_⟩
  obtain⟨T,u,rfl,hT,rfl,y1⟩:=y;exact hs i u T σ _ (y1 xs q1) hT p
 ·have e:i=xs.length:=by omega
  subst e;exact .inl ⟨⟨xs,q1,ah _⟩,hd σ H p⟩
end
def Bg (i:Int):Prop:=i.natAbs<2 ^ 8000
theorem Bg.bits {i:Int}(h:Bg i):Builtin.Int.intBits i<=8000:=by
 unfold Builtin.Int.intBits;split
 ·exact b9 _
 ·rename_i hn
  have h0:i.natAbs≠0:=fun z=>hn (by rw[qz.mp z];rfl)
  exact (Nat.log2_lt h0).mpr h
theorem Bg.mulOk {i j:Int}(hi:Bg i)(hj:Bg j):IntMulOk i j:=by
 unfold IntMulOk Builtin.Int.intTooBig;have h1:=hi.bits;have h2:=hj.bits;have h3:(16000:Int)<=bitsLine:=by decide +kernel
 have h4:decide (((Builtin.Int.intBits i:Nat):Int)+((Builtin.Int.intBits j:Nat):Int)>(bitsLine:Int))=false:=decide_eq_false (by omega);rw[h4,ke];exact aj
theorem Bg.noPylong {i j:Int}(hj:Bg j):Builtin.divisionGoesByPylong i j=false:=by
 unfold Builtin.divisionGoesByPylong
 have:¬ ((if (j==0)=true then 0 else j.natAbs.log2/30+1)>300):=by
  split
  ·decide
  ·rename_i hn
   have h0:j.natAbs≠0:=fun z=>hn (by rw[qz.mp z];rfl)
   have:=(Nat.log2_lt h0).mpr hj
   omega
 dsimp only
 rw[decide_eq_false this];rfl
section
variable {X:Cx}
theorem eT:OpR X (binaryOp .Mult) (rI (fun i j=>Bg i∧Bg j) fun i j=>.int (i*j)):=opI fun _ _ _ _ _ _ _ hc q=>mul_int q (hc.1.mulOk hc.2)
theorem Lw:OpR X (binaryOp .FloorDiv) (rI (fun _ j=>0<j∧Bg j) fun i j=>.int (i/j)):=opI fun i j _ _ _ _ _ hc q=>by
 have h1:(0:Int)<j:=hc.1;exact floordiv_int (by omega) (by rw[ml i (by omega)];exact q) (.inl hc.2.noPylong)
end
section
variable {X:Cx}{N':List Str}{scope:Scope}{x y2:Str}{px py py2 pt:Pos}{elt iter:Expr}{pos:Pos}{te:TE}{wi:TI}
theorem Nd (S:yS X.N N' X.env.scope scope x y2)(hc:X.calm=true)(hi:PI X (.Tuple [.Name x px,.Name y2 py2] 0 pt) iter wi)(he:∀ cl C s H fp,PE (bY X N' scope cl C s H fp) elt te)
  (hs:∀ x,foldedSetIterable iter X.env x=pure x:=by intro _;rfl):PE X (.ListComp elt [⟨.Tuple [.Name x px,.Name y2 py2] 0 pt,iter,[],0⟩] scope pos) (Wb X.K wi te):=by
 intro pins s σ H Q I h;rw[eval_ListComp];have hfree:∀ z∈scope.names,z.2 = .free->∃ c,X.env.cells.lookup z.1=some c:=fun z hz hk=>by
  rcases S.ok z hz hk with q | q
  ·exact I.ok.has z.1 (.inl q)
  ·exact I.ok.has z.1 (.inr q)
 refine wpAny_comprehension_free (use:=none) rfl hs (iX hfree) S.kind S.names (thn (hi pins s σ H _ I h) fun xv s1 h1=>thn h1 fun itv s2 h2=>?_);obtain⟨it,fp,tn,J,H2,e,I2,T,st2,f2,hw⟩:=h2;subst e;obtain⟨cl,hcl,hrun⟩:=Fi (py:=py2) (pt:=pt) (elt:=elt) (iter:=iter) (pos:=pos) (px:=px) (E:=X.xe) (RR:=fun acc C=>compPost (model X.prog X.w) X.A X.xe none (EP X pins σ Q) acc C) S hc he I2 T st2 f2 hw (fun D C s' H' I' ⟨m,hm⟩ n1 n2 n3 n4 n5 q =>
  ⟨m,hm,fun h' hsb=>⟨.ref D,H',I'.turned (it:=C) (t':=s'.toks) (fun b o hb e=>(hsb.2 b hb).trans e) n3 n1 (.inr n4) n2 n5,rfl,q⟩⟩)
 have ecl:(pure (dX X.env.cells scope.names []):Sem (List (Str×Addr)))=pure cl:=(iX hfree).symm.trans hcl;have ecl':dX X.env.cells scope.names []=cl:=by
  injection ecl
 rw[ecl'];exact hrun
end
section
variable {X:Cx}
end
end L2
namespace SR
open PySem PyProof.Rows PySem.Spec
section
variable {prog:Program}{w:World}{A:Around}{E:Value->Shared->Prop}{s:Shared}
end
end SR
namespace L2
open PySem PyProof.Rows PySem.Spec
section
variable {X:Cx}
theorem Wg {ns:List Int}{its its2:List Value}{A:Around}{s:Shared}(r:bK (ns.map V.int) its)(r2:bK (ns.map V.int) its2)(m:Nat)(g1:m<its.toArray.size)(g2:m<its2.toArray.size):SeqAt.EqAt A s its.toArray[m] its2.toArray[m] true:=by
 have l1:=r.length;rw[aR] at l1;have hm:m<ns.length:=by rw[ap] at g1;omega
 obtain⟨u',e1,q1⟩:=r.get (i:=m) (x:=.int ns[m]) (by rw[ag,ac hm];rfl);obtain⟨w',e2,q2⟩:=r2.get (i:=m) (x:=.int ns[m]) (by rw[ag,ac hm];rfl);have e:=Ek (A:=A) (s:=s) q1 q2 rfl rfl;rw[show eqV (V.int ns[m]) (V.int ns[m])=true from by show (ns[m]==ns[m])=true;simp] at e;have a1:its.toArray[m]=u':=by rw[qa];exact (al.mp e1).2
 have a2:its2.toArray[m]=w':=by rw[qa];exact (al.mp e2).2
 rw[a1,a2];exact e
theorem Xa {its its2:List Value}(h:its.length=its2.length):((bu (min its.toArray.size its2.toArray.size)).all (fun _=>true)&&its.toArray.size==its2.toArray.size)=true:=by
 rw[show its.toArray.size=its2.toArray.size by rw[ap,ap];omega];simp
theorem Mi (hu:X.A.units<cLine):OpR X (compareOp .NotEq) (fun x y H Q=>∃ (p b:Addr) (ns:List Int),x = .ref p∧y = .ref b∧SqT X.K H p (ns.map V.int)∧SqT X.K H b (ns.map V.int)∧Q (.bl false) H):=by
 intro pins s σ H x y v u Q I rx ry h;obtain⟨p,b,ns,rfl,rfl,h1,h2,q⟩:=h;cases rx;cases ry;obtain⟨its,r,pl,_⟩:=I.tuple h1;obtain⟨its2,r2,pl2,_⟩:=I.tuple h2;refine SeqAt.RcNeAt.tuples (e:=fun _=>true) pl pl2 hu (fun m g1 g2=>Wg r r2 m g1 g2) _ _ _ _ ?_;rw[Xa (r.length.symm.trans r2.length)];exact⟨.bl false,H,I,rfl,q⟩
end
def tupIs (K:af)(a:Addr)(ns:List Int):Bool :=
 match K.lookup a with
 | some o=>match o.cls,o.data with
  | .type "tuple",.seq its _=>decide (its.size<=1000)&&(its.toList.map fun v=>match v with | .int i _=>some i | _=>none)==ns.map some
  | _,_=>false
 | none=>false
theorem SqT.tupIs {K:af}{a:Addr}{ns:List Int}{H:Hp}(h:tupIs K a ns=true):SqT K H a (ns.map V.int):=by
 unfold L2.tupIs at h
 cases hk:K.lookup a with
 | none=>rw[hk] at h;cases h
 | some o =>
  rw[hk] at h
  dsimp only at h
  split at h
  ·rename_i its n hc hd
   rw[df,decide_eq_true_iff,beq_iff_eq] at h;refine .inr ⟨o,its,n,hk,hc,hd,az h.1 (by rw[sizeLine_eq];decide),?_⟩;have key:∀ (ns:List Int) (us:List Value),(us.map fun v=>match v with | .int i _=>some i | _=>none)=ns.map some->bK (ns.map V.int) us:=fun ns=>by
    induction ns with
    | nil =>
     intro us hu
     cases us with
     | nil=>exact .nil
     | cons u us=>cases hu
    | cons i ns ih =>
     intro us hu
     cases us with
     | nil=>cases hu
     | cons u us =>
      rw[au,au] at hu;obtain⟨h1,h2⟩:=qh hu;refine .cons ?_ (ih us h2);split at h1
      ·rename_i j t
       obtain rfl:=ay h1;exact⟨_,rfl⟩
      ·cases h1
   exact key ns _ h.2
  ·cases h
section
variable {X:Cx}
end
def eD (K:af)(H:Hp)(as:List Addr)(M:List (List Int)):Prop:=as.length=M.length∧∀ (i:Nat) (a:Addr) (r:List Int),as[i]?=some a->M[i]?=some r->SqL K H a (r.map V.int)
section
variable {K:af}{H G:Hp}{as:List Addr}{M:List (List Int)}
theorem eD.on (h:eD K H as M)(s:aL H G):eD K G as M:=⟨h.1,fun i a r e1 e2=>s.seq (h.2 i a r e1 e2)⟩
theorem eD.at (h:eD K H as M){i:Nat}{v:V}(hv:(as.map V.ref)[i]?=some v):∃ (a:Addr) (r:List Int),v = .ref a∧M[i]?=some r∧SqL K H a (r.map V.int):=by
 rw[ag] at hv;obtain⟨a,ha,rfl⟩:=bj.mp hv;have hi:=(al.mp ha).1;obtain⟨r,hr⟩:∃ r,M[i]?=some r:=⟨_,ac (by rw[<- h.1];exact hi)⟩;exact⟨a,r,rfl,hr,h.2 i a r ha hr⟩
theorem eD.sub (h:eD K H as M)(f:Nat->Nat)(bs:List Addr)(N:List (List Int))(hl:bs.length=N.length)(h1:∀ i b,bs[i]?=some b->as[f i]?=some b)(h2:∀ i r,N[i]?=some r->M[f i]?=some r):eD K H bs N:=⟨hl,fun i a r e1 e2=>h.2 (f i) a r (h1 i a e1) (h2 i r e2)⟩
theorem eD.erase (h:eD K H as M)(p:Nat):eD K H (as.eraseIdx p) (M.eraseIdx p) :=
 h.sub (fun i=>if i<p then i else i+1) _ _ (by rw[i9,i9,h.1]) (fun i b e=>by rw[k8] at e;split <;> simp_all) (fun i b e=>by rw[k8] at e;split <;> simp_all)
end
theorem Xs {K:af}{J:It}{as:List Addr}{M:List (List Int)}{te:TE}{σ:St}{H:Hp}{Q:VK}(g:List Int->List Int)(rd:nP J H (as.map V.ref))(hR:eD K H as M)(hn:as.length<=sizeLine)
  (he:∀ a r H',r∈M->SqL K H' a (r.map V.int)->aL H H'->∀ N:V->Hp->Prop,(∀ c H'',aL H' H''->(H' c=none)->H'' c=some (.lst ((g r).map V.int))->N (.ref c) H'')->te (some (.ref a)::σ) H' N)
  (hq:∀ D bs H',H D=none->aL H H'->H' D=some (.lst (bs.map V.ref))->(∀ b∈bs,b≠D)->eD K H' bs (M.map g)->Q (.ref D) H'):jO te σ Q J H:=by
 intro D hD;refine⟨fun i m ys H2=>m=as.length-i∧i<=as.length∧aL H H2∧H2 D=some (.lst ys)∧∃ bs:List Addr,ys=bs.map V.ref∧bs.length=i∧∀ (j:Nat) (b:Addr) (r:List Int),bs[j]?=some b->M[j]?=some r->b≠D∧H2 b=some (.lst ((g r).map V.int)),⟨as.length,rfl,b9 _,fun b o e=>?_,aD,[],rfl,rfl,fun j b r e=>by simp at e⟩,?_⟩
 ·rw[aG (aJ e hD)]
  exact e
 ·rintro i m ys H2 ⟨rfl,hi,hs,hd,bs,rfl,hl,hb⟩
  by_cases hlt:i<as.length
  ·have hlt':i<(as.map V.ref).length:=by rw[aR];exact hlt
   obtain⟨a,r,ha,hr,_⟩:=hR.at (i:=i) (v:=(as.map V.ref)[i]) (ac hlt');refine .inr ⟨rd.go i H2 hs hlt',by rw[aR];omega,fun v H'=>aL H2 H'∧∃ c,v = .ref c∧c≠D∧H' c=some (.lst ((g r).map V.int)),fun v H' ⟨hs',c,ev,hcD,hc⟩=>⟨hs' D _ hd,as.length-(i+1),by omega,rfl,hlt,fun b o e=>?kp,aD,bs++[c],?app,by rw[ai,hl];rfl,fun j b r' e1 e2=>?la⟩,fun y H' hy=>?stp⟩
   case app =>
    rw[ev,bh];rfl
   case kp =>
    rw[aG (aJ e hD)];exact hs' b o (hs b o e)
   case la =>
    by_cases hj:j<bs.length
    ·rw[ej hj] at e1
     obtain⟨h1,h2⟩:=hb j b r' e1 e2;exact⟨h1,by rw[aG h1];exact hs' b _ h2⟩
    ·have hj':j=bs.length:=by
      have:=(al.mp e1).1
      rw[ai,ci] at this;omega
     subst hj';rw[d7 (ah _),rj] at e1;obtain rfl:c=b:=ay e1;rw[hl,hr] at e2;obtain rfl:=ay e2;exact⟨hcD,by rw[aG hcD];exact hc⟩
   case stp =>
    obtain⟨rfl,e2⟩:=rd.yl i H2 y H' hs hy;obtain⟨a2,r2,rfl,hr2,hs2⟩:=(hR.on hs).at e2;rw[hr] at hr2;obtain rfl:=ay hr2;exact he a2 r _ (aq hr) hs2 hs _ fun c H'' s'' hc hc2=>⟨s'',c,rfl,fun z=>(by rw[z,hd] at hc;cases hc),hc2⟩
  ·have e:i=as.length:=by omega
   have hst:=rd.st H2 hs;rw[aR] at hst;subst e;have hlM:=hR.1;refine .inl ⟨hst,hq D bs H2 hD hs hd (fun b hb'=>?_) ⟨by rw[hl,aR,hlM],fun j b r e1 e2=>?_⟩⟩
   ·obtain⟨j,hj⟩:=ic hb'
    have hjl:=(al.mp hj).1;exact (hb j b _ hj (ac (show j<M.length by omega))).1
   ·rw[ag] at e2
    obtain⟨r',hr',rfl⟩:=bj.mp e2;exact SqL.of (hb j b r' e1 hr').2
theorem Yf {K:af}{J:It}{as:List Addr}{M:List (List Int)}{te:TE}{σ:St}{H:Hp}{Q:VK}(g:List Int->Int)(rd:nP J H (as.map V.ref))(hR:eD K H as M)(hn:as.length<=sizeLine)
  (he:∀ a r H',r∈M->SqL K H' a (r.map V.int)->aL H H'->∀ N:V->Hp->Prop,(∀ H'',aL H' H''->N (.int (g r)) H'')->te (some (.ref a)::σ) H' N)
  (hq:∀ D H',H D=none->aL H H'->H' D=some (.lst ((M.map g).map V.int))->Q (.ref D) H'):jO te σ Q J H:=by
 intro D hD;have hlM:=hR.1;refine⟨fun i m ys H2=>m=as.length-i∧i<=as.length∧aL H H2∧H2 D=some (.lst ys)∧ys=((M.take i).map g).map V.int,⟨as.length,rfl,b9 _,fun b o e=>?_,aD,rfl⟩,?_⟩
 ·rw[aG (aJ e hD)]
  exact e
 ·rintro i m ys H2 ⟨rfl,hi,hs,hd,rfl⟩
  by_cases hlt:i<as.length
  ·have hlt':i<(as.map V.ref).length:=by rw[aR];exact hlt
   have hr:M[i]?=some (M[i]'(by omega)):=ac (by omega);refine .inr ⟨rd.go i H2 hs hlt',by rw[aR,aR,b8];omega,fun v H'=>v = .int (g (M[i]'(by omega)))∧aL H2 H',fun v H' ⟨ev,hs'⟩=>⟨hs' D _ hd,as.length-(i+1),by omega,rfl,hlt,fun b o e=>?kp,aD,?app⟩,fun y H' hy=>?stp⟩
   case app =>
    rw[ev,cx,hr,bh,bh];rfl
   case kp =>
    rw[aG (aJ e hD)];exact hs' b o (hs b o e)
   case stp =>
    obtain⟨rfl,e2⟩:=rd.yl i H2 y H' hs hy;obtain⟨a2,r2,rfl,hr2,hs2⟩:=(hR.on hs).at e2;obtain rfl:=ay (hr2.symm.trans hr);exact he a2 _ _ (aq hr) hs2 hs _ fun H'' s''=>⟨rfl,s''⟩
  ·have e:i=as.length:=by omega
   have hst:=rd.st H2 hs;rw[aR] at hst;subst e;rw[cp (by omega)] at hd;exact .inl ⟨hst,hq D H2 hD hs hd⟩
section
variable {X:Cx}{pins:List (Addr×Obj)}{σ:St}{H:Hp}{s:Shared}{a:Addr}{kvs:List (Key×V)}{k:Key}{A:Around}{E:Value->Shared->Prop}
theorem Mz {v:V}{u r:Value}{Q:Value->Shared->Prop}(I:Inv X pins σ H s)(e:H a=some (.dK kvs))(ry:bG (kV k) u)(rv:bG v r)(hz:kvs.length<sizeLine)
  (h1:∀ x,dR kvs k=some x->∀ w' s',Inv X pins σ H s'->bG x w'->Q w' s') (h2:dR kvs k=none->∀ s',Inv X pins σ (upd H a (.dK (fU kvs k v))) s'->Q r s') :
  wpAny (model X.prog X.w) A (call (.builtin "dict.setdefault") [.ref a,u,r]) Q E s:=by
 obtain⟨z,hd,vs,rel,dd⟩:=oB I.hok e;refine call_meetsIn l6 dd.typeIs PySem.F.entry_dict_setdefault (PySem.F.args_dict_setdefault_3 _ _ _) (kt_meets_setdefault (bH X.prog X.w) a (oE ry) hd r)
  ⟨vs,dd,by rw[<- rel.length];exact z,fun w' hw=>?_,fun hn h' dd' hs=>?_⟩
 ·cases l:dR kvs k with
  | none =>
   have:=jM.none_of (o:=valueAt vs k) (by rw[<- l];exact rel.val k)
   rw[this] at hw;cases hw
  | some x =>
   obtain⟨w2,hw2,rw2⟩:=jM.some_of (v:=x) (o:=valueAt vs k) (by rw[<- l];exact rel.val k);rw[hw] at hw2;obtain rfl:=ay hw2;exact h1 x l w' _ (I.tok _) rw2
 ·have l:dR kvs k=none:=by
   cases l:dR kvs k with
   | none=>rfl
   | some x =>
    obtain⟨w2,hw2,_⟩:=jM.some_of (v:=x) (o:=valueAt vs k) (by rw[<- l];exact rel.val k);rw[hn] at hw2;cases hw2
  have he:∃ q,h'.get? a=some q:=let ⟨q,_,_,hq,_⟩:=dd';⟨q,hq⟩
  have hl:(fU kvs k v).length<=sizeLine:=by have:=jB kvs k v;omega
  exact h2 l _ (nL I (by rw[e];exact True.intro) hs he (zE hl hd (rel.put k rv) dd'))
end
def Xl (td ty tx:TE):TE:=fun σ H Q=>td σ H fun x H1=>∃ a,x = .ref a∧(∃ kvs,H1 a=some (.dK kvs))∧ty σ H1 fun y H2=>tx σ H2 fun z H3=>∃ kvs k,H3 a=some (.dK kvs)∧y=kV k∧kvs.length<sizeLine∧(∀ v,dR kvs k=some v->Q v H3)∧(dR kvs k=none->Q z (upd H3 a (.dK (fU kvs k z))))
section
variable {X:Cx}{o e f:Expr}{apos cpos:Pos}{td ty tx:TE}
theorem Ex (ho:PE X o td)(he:PE X e ty)(hf:PE X f tx)(m:M2 X o "setdefault" apos e f cpos):PE X (.Call (.Attribute o "setdefault" apos) [e,f] [] cpos) (Xl td ty tx):=by
 intro pins s σ H Q I h;refine wpAny_Call_method m.base m.few m.line nz l6 PySem.F.type_dict_setdefault (thn (ho pins s σ H _ I h) fun u s1 ⟨x,H1,I1,rx,a,ex,⟨kvs0,d⟩,q1⟩=>?_);subst ex;obtain rfl:u=Value.ref a:=rx;obtain⟨z0,hd0,vs0,rel0,dd0⟩:=oB I1.hok d;refine⟨dd0.typeIs,fun b q=>?_,?_⟩
 ·cases q
  obtain⟨ob,_,_,g1,g2,_⟩:=dd0;exact⟨ob,g1,g2.2.1⟩
 rw[m.trees];refine Calls.callWith_builtin rfl (Calls.evalArgs_plain (Calls.spliced_cons (thn (he pins s1 σ H1 _ I1 q1) fun iv s2 ⟨y,H2,I2,ry,q2⟩ =>
  Calls.spliced_cons (thn (hf pins s2 σ H2 _ I2 q2) fun fv s3 ⟨z,H3,I3,rz,kvs,k,ea,ey,hz,q3,q4⟩=>Calls.spliced_nil ?_))))
 subst ey;exact Mz I3 ea ry rz hz (fun v l w' s4 I4 rw'=>⟨v,H3,I4,rw',q3 v l⟩) fun l s4 I4=>⟨z,_,I4,rz,q4 l⟩
end
end L2
namespace SS
open PySem PyProof.Rows L2
section
variable {prog:Program}{w:World}{A:Around}{E:Value->Shared->Prop}{s:Shared}
theorem Jr {a:Addr}{vs:List (Key×Value)}{ep:Nat}{R:Result->Shared->Prop}(hh:A.handled=none)(hd:(a==sysModules)=false)(hD:Heap.DictAt (bH prog w) s.heap a vs ep)(hz:vs.length<=sizeLine)(S:Addr)(h1:S≠a)(hS:s.heap.get? S=some { cls:=.type "list",data:=.seq #[] })
  (hR:∀ s' acc' c',(∀ b o,b≠S->s.heap.get? b=some o->s'.heap.get? b=some o)->s'.gens=s.gens->s'.os=s.os->s'.heap.get? S=some { cls:=.type "list",dict:=none,data:=.seq acc' c',slots:=#[] }->ItemsOf (wT vs) acc' vs.length->R (.ok (.ret .none)) s') :
  wpAny (model prog w) A.in1 (Builtin.«list.__init__» ⟨[.ref S,.ref a],[]⟩)
   (fun fin s'=>match fin with | .done f=>R (.ok f) s' | .again c'=>c'.quiet=true∧codeAny (model prog w) A c' R s') (fun e s'=>R (.error e) s') s:=by
 show wpAny _ _ (do let old <- Builtin.List.listItems (.ref S);Builtin.List.listUpdate (.ref S) (fun _=>#[]);letGo old.toList.reverse;Builtin.List.listExtendWith (.ref S) (.ref a) .none) _ _ s;refine wpAny_bind ?_;unfold Builtin.List.listItems;refine wpAny_bind (wpAny_seqItems hS rfl (wpAny_pure ?_));show wpAny _ _ (updateSeq S (fun _=>#[]) >>= fun _=>letGo (#[]:Array Value).toList.reverse >>= fun _=>Builtin.List.listExtendWith (.ref S) (.ref a) .none) _ _ s;refine wpAny_bind (wpAny_updateSeq hS rfl ?_);have hS₂:=Heap.get?_update_self (Obj.mapSeq (fun _=>(#[]:Array Value))) hS rfl;have oth:∀ b o,b≠S->s.heap.get? b=some o->(s.heap.update S (Obj.mapSeq (fun _=>(#[]:Array Value)))).get? b=some o :=
  fun b o hb e=>(Heap.get?_update_other _ _ (Ne.symm hb)).trans e
 refine wpAny_bind (wpAny_letGo ?_);have hD2:Heap.DictAt (bH prog w) (s.heap.update S (Obj.mapSeq (fun _=>(#[]:Array Value)))) a vs ep:=by
  obtain⟨o,es,g,r⟩:=hD;exact⟨o,es,oth a o (Ne.symm h1) g,r⟩
 refine uY (A:=A) (s:={ s with heap:=s.heap.update S (Obj.mapSeq (fun _=>(#[]:Array Value))) }) hh hd hD2 hz S .none h1 hS₂ fun s' acc' c' kp g1 g2 e1 e2=>?_
 exact hR s' acc' c' (fun b o hb e=>kp b o hb (oth b o hb e)) g1 g2 e1 e2
theorem tI {a:Addr}{vs:List (Key×Value)}{ep:Nat}{Q:Value->Shared->Prop}(hh:A.handled=none)(hd:(a==sysModules)=false)(hD:Heap.DictAt (bH prog w) s.heap a vs ep)(hz:vs.length<=sizeLine)
  (hQ:∀ (s':Shared) (acc:Array Value) (c':Nat),(∀ b o,s.heap.get? b=some o->s'.heap.get? b=some o)->s'.gens=s.gens->s'.os=s.os->s'.heap.get? s.heap.objs.size=some { cls:=.type "list",dict:=none,data:=.seq acc c',slots:=#[] }->ItemsOf (wT vs) acc vs.length->Q (.ref s.heap.objs.size) s') :
  wpAny (model prog w) A (call (.type "list") [.ref a]) Q E s:=by
 have hlt:a<s.heap.objs.size:=by obtain⟨o,es,g,r⟩:=hD;exact Heap.lt_size g
 refine callType_codes (Q₁:=fun obj s₁=>obj = .ref s.heap.objs.size∧s₁ = { s with heap:=s.heap.push { cls:=.type "list",data:=.seq #[] } }) F.called_list (F.typeCall_list_1 _) F.entry_list_init
  (code_list_new _ ⟨rfl,rfl⟩) fun obj s₁ h₁=>?_
 obtain⟨rfl,rfl⟩:=h₁;have hS:(s.heap.push { cls:=.type "list",data:=.seq #[] }).get? s.heap.objs.size=some { cls:=.type "list",data:=.seq #[] }:=Heap.get?_push_size _ rfl
 refine⟨⟨_,hS,rfl⟩,F.args_list_init_2 _ _,Jr (A:=A.in1) (s:={ s with heap:=s.heap.push { cls:=.type "list",data:=.seq #[] } }) hh hd (uV hD) hz _ (g0 hlt) hS fun s' acc' c' kp g1 g2 e1 e2=>?_⟩
 exact⟨rfl,hQ s' acc' c' (fun b o e=>kp b o (a9 (Heap.lt_size e)) (Heap.get?_push_of_some _ e)) g1 g2 e1 e2⟩
end
end SS
namespace L2
open PySem PyProof.Rows
section
variable {X:Cx}
theorem yG:∀ {us:List Value} {ls:List (List Nat)},StrsAre us (ls.map tx)->bK (ls.map T) us
 | [],[],_=>.nil
 | u::us,l::ls,h=>by
  cases h with
  | cons x t r=>exact .cons ⟨_,rfl⟩ (yG r)
theorem Ew (hc:X.calm=true):fC X (.type "list") (fun xs H Q=>∃ (p:Addr) (ls:List (List Nat)) (kvs:List (Key×V)),xs=[.ref p]∧H p=some (.dK kvs)∧kvs.map (·.1)=ls.map (fun t=>cc (tx t))∧∀ (D:Addr),H D=none->Q (.ref D) (upd H D (.lst (ls.map T)))):=by
 intro pins s σ H xs us Q I r h;obtain⟨p,ls,kvs,rfl,hq,hk,q⟩:=h;obtain⟨u,rfl,ru⟩:=gH r;cases ru;obtain⟨z,hd,vs,rel,dd⟩:=oB I.hok hq;obtain⟨o,es,ep,rest⟩:=dd;have hl:ls.length=kvs.length:=by have:=congrArg i7 hk;simpa using this.symm
 refine SS.tI (vs:=vs) (ep:=ep) (I.ok.hd hc) hd ⟨o,es,rest⟩ (by rw[<- rel.length];exact z) fun s' acc c' kp g1 g2 e1 e2=>?_
 have hv:=yG (xT hk rel e2);have hg:AllBare s'.gens:=by rw[g1];exact I.bare
 have hf:H s.heap.objs.size=none:=I.hok.fresh (ah _);have new:dB X.prog X.w (upd H s.heap.objs.size (.lst (ls.map T))) s'.heap s.heap.objs.size (.lst (ls.map T)):=⟨by rw[aR,hl];exact z,acc.toList,c',hv,by simpa using e1⟩;exact⟨.ref s.heap.objs.size,_,I.call' (ch:=[]) g2 (Un.laid kp (ah _) hf) (I.hok.laid kp (ah _) new) hg (fun _ z=>nomatch z),rfl,q _ hf⟩
end
theorem Uv {K:af}{J:It}{vs:List V}{te:TE}{σ:St}{H:Hp}{Q:VK}(g:V->List Int)(rd:nP J H vs)(hn:vs.length<=sizeLine)
  (he:∀ v H',v∈vs->aL H H'->∀ N:V->Hp->Prop,(∀ c H'',aL H' H''->H' c=none->H'' c=some (.lst ((g v).map V.int))->N (.ref c) H'')->te (some v::σ) H' N)
  (hq:∀ D bs H',H D=none->aL H H'->H' D=some (.lst (bs.map V.ref))->(∀ b∈bs,b≠D)->eD K H' bs (vs.map g)->Q (.ref D) H'):jO te σ Q J H:=by
 intro D hD;refine⟨fun i m ys H2=>m=vs.length-i∧i<=vs.length∧aL H H2∧H2 D=some (.lst ys)∧∃ bs:List Addr,ys=bs.map V.ref∧bs.length=i∧∀ (j:Nat) (b:Addr) (v:V),bs[j]?=some b->vs[j]?=some v->b≠D∧H2 b=some (.lst ((g v).map V.int)),⟨vs.length,rfl,b9 _,fun b o e=>?_,aD,[],rfl,rfl,fun j b r e=>by simp at e⟩,?_⟩
 ·rw[aG (aJ e hD)]
  exact e
 ·rintro i m ys H2 ⟨rfl,hi,hs,hd,bs,rfl,hl,hb⟩
  by_cases hlt:i<vs.length
  ·obtain⟨r,hr⟩:∃ r,vs[i]?=some r:=⟨_,ac hlt⟩
   refine .inr ⟨rd.go i H2 hs hlt,by rw[aR];omega,fun v H'=>aL H2 H'∧∃ c,v = .ref c∧c≠D∧H' c=some (.lst ((g r).map V.int)),fun v H' ⟨hs',c,ev,hcD,hc⟩=>⟨hs' D _ hd,vs.length-(i+1),by omega,rfl,hlt,fun b o e=>?kp,aD,bs++[c],?app,by rw[ai,hl];rfl,fun j b r' e1 e2=>?la⟩,fun y H' hy=>?stp⟩
   case app =>
    rw[ev,bh];rfl
   case kp =>
    rw[aG (aJ e hD)];exact hs' b o (hs b o e)
   case la =>
    by_cases hj:j<bs.length
    ·rw[ej hj] at e1
     obtain⟨h1,h2⟩:=hb j b r' e1 e2;exact⟨h1,by rw[aG h1];exact hs' b _ h2⟩
    ·have hj':j=bs.length:=by
      have:=(al.mp e1).1
      rw[ai,ci] at this;omega
     subst hj';rw[d7 (ah _),rj] at e1;obtain rfl:c=b:=ay e1;rw[hl,hr] at e2;obtain rfl:=ay e2;exact⟨hcD,by rw[aG hcD];exact hc⟩
   case stp =>
    obtain⟨rfl,e2⟩:=rd.yl i H2 y H' hs hy;rw[hr] at e2;obtain rfl:=ay e2;exact he r _ (aq hr) hs _ fun c H'' s'' hc hc2=>⟨s'',c,rfl,fun z=>(by rw[z,hd] at hc;cases hc),hc2⟩
  ·have e:i=vs.length:=by omega
   have hst:=rd.st H2 hs;subst e;refine .inl ⟨hst,hq D bs H2 hD hs hd (fun b hb'=>?_) ⟨by rw[hl,aR],fun j b r e1 e2=>?_⟩⟩
   ·obtain⟨j,hj⟩:=ic hb'
    have hjl:=(al.mp hj).1;exact (hb j b _ hj (ac (show j<vs.length by omega))).1
   ·rw[ag] at e2
    obtain⟨r',hr',rfl⟩:=bj.mp e2;exact SqL.of (hb j b r' e1 hr').2
section
variable {X:Cx}{pins:List (Addr×Obj)}{σ:List (Option V)}{H H':Hp}{s:Shared}
theorem Inv.reH (I:Inv X pins σ H s)(free:∀ b,H b=none->H' b=none)(tups:∀ b xs,X.H₀ b=some (.tup xs)->H' b=some (.tup xs))(frzs:∀ b o u,X.H₀ b=some (.frz o u)->H' b=some (.frz o u))(tbls:∀ b ps,X.H₀ b=some (.tbl ps)->∃ more,H' b=some (.tbl (ps++more)))
  (hok:HOk X.prog X.w H' s.heap):Inv X pins σ H' s :=
 ⟨I.ok,I.os,I.bare,⟨I.base.keep,I.base.slot,fun b o e n hx=>free b (I.base.free b o e n hx),I.base.there,tups,frzs,tbls⟩,I.loc,I.cell,free _ I.free,fun x c e=>free _ (I.freeC x c e),fun p hp=>⟨(I.pin p hp).1,free _ (I.pin p hp).2.1,(I.pin p hp).2.2⟩,hok,I.len⟩
theorem Hd {P:Program}{w:World}{h:Heap}{a:Addr}{u v:HO}(x:HOk P w H h)(ha:H a=some u)(h1:∀ y,u≠.own y)(h2:∀ xs,u≠.tup xs)(ok:dB P w H h a v):HOk P w (upd H a v) h:=by
 have ho:∀ y b,H b=some (.own y)->upd H a v b=some (.own y):=fun y b e=>by
  rw[aG (fun z=>by rw[z,ha] at e;exact h1 y (ay e))];exact e
 have ht:∀ b xs,H b=some (.tup xs)->upd H a v b=some (.tup xs):=fun b xs e=>by
  rw[aG (fun z=>by rw[z,ha] at e;exact h2 xs (ay e))];exact e
 intro b o e;by_cases c:b=a
 ·subst c
  rw[aD] at e;cases e;exact ok.stay (fun _ _ _ e=>e) (fun c=>ho b c) ht
 ·rw[aG c] at e
  exact (x b o e).stay (fun _ _ _ e=>e) (fun c=>ho b c) ht
theorem Inv.freeze {a:Addr}{kvs:List (Key×V)}(I:Inv X pins σ H s)(e:H a=some (.dK kvs)):∃ o,s.heap.get? a=some o∧Inv X pins σ (upd H a (.frz o (.dK kvs))) s:=by
 have hx:dB X.prog X.w H s.heap a (.dK kvs):=I.hok a _ e;obtain⟨o,ho⟩:∃ o,s.heap.get? a=some o:=by
  obtain⟨_,_,_,_,o,_,_,q,_⟩:=hx;exact⟨o,q⟩
 have ne:∀ b u,X.H₀ b=some u->H b=some u->(∀ k,u≠.dK k)->upd H a (.frz o (.dK kvs)) b=some u:=fun b u _ q n=>by
  rw[aG (fun z=>by rw[z,e] at q;exact n _ (ay q).symm)];exact q
 refine⟨o,ho,I.reH (fun b n=>?_) (fun b xs q=>ne b _ q (I.base.tups b xs q) (fun k z=>nomatch z)) (fun b o' u q=>ne b _ q (I.base.frzs b o' u q) (fun k z=>nomatch z)) (fun b ps q=>?_) (Hd I.hok e (fun y z=>nomatch z) (fun xs z=>nomatch z) ⟨ho,hx⟩)⟩
 ·rw[aG (fun z=>by rw[z,e] at n;cases n)];exact n
 ·obtain⟨m,q'⟩:=I.base.tbls b ps q
  exact⟨m,by rw[aG (fun z=>by rw[z,e] at q';cases q')];exact q'⟩
theorem Inv.thaw {a:Addr}{o:Obj}{kvs:List (Key×V)}(I:Inv X pins σ H s)(e:H a=some (.frz o (.dK kvs)))(h0:X.H₀ a=none):Inv X pins σ (upd H a (.dK kvs)) s:=by
 obtain⟨_,hx⟩:dB X.prog X.w H s.heap a (.frz o (.dK kvs)):=I.hok a _ e;refine I.reH (fun b n=>?_) (fun b xs q=>?_) (fun b o' u q=>?_) (fun b ps q=>?_) (Hd I.hok e (fun y z=>nomatch z) (fun xs z=>nomatch z) hx)
 ·rw[aG (fun z=>by rw[z,e] at n;cases n)];exact n
 ·rw[aG (fun z=>by rw[z,h0] at q;cases q)];exact I.base.tups b xs q
 ·rw[aG (fun z=>by rw[z,h0] at q;cases q)];exact I.base.frzs b o' u q
 ·rw[aG (fun z=>by rw[z,h0] at q;cases q)];exact I.base.tbls b ps q
end
def Itk (a:Addr)(o:Obj)(kvs:List (Key×V)):It :=
 ⟨fun i H=>H a=some (.frz o (.dK kvs))∧i<kvs.length,fun i H x H'=>H'=H∧∃ kv,kvs[i]?=some kv∧x=kV kv.1,fun i H=>H a=some (.frz o (.dK kvs))∧kvs.length<=i⟩
theorem Pp {P:Program}{w:World}{k:Key}{u:Value}(h:(bH P w).is k u=true):bG (kV k) u:=by
 cases k with
 | inl i =>
  have h:Value.isInt i u=true:=h
  have:∃ t,u = .int i t:=by cases u <;> simp_all [Value.isInt]
  obtain⟨t,rfl⟩:=this;exact⟨t,rfl⟩
 | inr x =>
  obtain⟨t,rfl⟩:=Value.isStrOf_shape (show Value.isStrOf x u=true from h);exact⟨t,rfl⟩
theorem Lc {P:Program}{w:World}{K:af}{tg:Expr}{a it:Addr}{o:Obj}{kvs:List (Key×V)}{vs:List (Key×Value)}{ep:Nat}(hK:KV kvs vs)(hd:∀ h:Heap,h.get? a=some o->h.DictAt (bH P w) a vs ep) :
  vX P w K tg (Itk a o kvs) [it] it (fun i h=>h.IsKeyIter it a i vs.length ep) where
 mem:=by simp
 obj:=fun i h st b hb=>by
  have e:b=it:=by simpa using hb
  subst e;obtain⟨o,e,c,d⟩:=st;exact⟨o,e,fun v z=>by rw[d] at z;cases z⟩
 keep:=fun i h h' st k=>st.at fun o e=>k it (by simp) o e
 item:=by
  intro X hP hw hK' hc i pins s σ H E I hf st hg;subst hP hw hK';obtain⟨ha,hi⟩:=hg;obtain⟨ho,_⟩:dB X.prog X.w H s.heap a (.frz o (.dK kvs)):=I.hok a _ ha;have hl:=hK.length;obtain⟨f0,f1,f2,f3,f4,f5⟩:=hf it (by simp);have hvi:vs[i]?=some vs[i]:=ac (by omega);have hki:kvs[i]?=some kvs[i]:=ac hi;have hkk:kvs[i].1=vs[i].1:=by
   have:=hK.keys
   have h1:(kvs.map (·.1))[i]?=(vs.map (·.1))[i]?:=by rw[this]
   rw[ag,ag,hki,hvi] at h1;exact ay h1
  refine wpAny_pyNext_dict_item (k:=vs[i].1) (v:=vs[i].2) st (hd _ ho) hvi fun key h' hkey st' sb=>?_
  have I1:Inv X pins σ H { s with heap:=h' }:=I.turned (t':=s.toks) (fun b o hb e=>(sb.2 b hb).trans e) f0 f1 f3 f4 f5;exact⟨key,rfl,letGo_keyiter (s':={ s with heap:=h' }) st' ⟨kV kvs[i].1,H,I1,by rw[hkk];exact Pp hkey,⟨rfl,_,hki,rfl⟩,st',fun b hb=>(hf b hb).1⟩⟩
 done:=by
  intro X hP hw hK' hc i pins s σ H E I hf st hg;subst hP hw hK';obtain⟨ha,hi⟩:=hg;obtain⟨ho,_⟩:dB X.prog X.w H s.heap a (.frz o (.dK kvs)):=I.hok a _ ha;have hl:=hK.length;obtain⟨f0,f1,f2,f3,f4,f5⟩:=hf it (by simp);exact wpAny_pyNext_dict_end (I.ok.hd hc) st (hd _ ho) (ca (by omega)) fun h' eb=>⟨rfl,I.turned (t':=s.toks) (fun b o hb e=>eb b o hb e) f0 f1 f3 f4 f5⟩
 self:=fun _ _ _ _ _ st h=>wpAny_pyIter_keyiter st h
def Yd (td:TE):TI:=fun σ H R=>td σ H fun x H1=>∃ a kvs,x = .ref a∧H1 a=some (.dK kvs)∧∀ o,R (Itk a o kvs) (upd H1 a (.frz o (.dK kvs)))
section
variable {X:Cx}{tg:Expr}
theorem Si {l:Expr}{tl:TE}(hl:PE X l tl):PI X tg l (Yd tl):=by
 intro pins s σ H R I h;refine thn (hl pins s σ H _ I h) fun v s1 ⟨x,H1,I1,r1,q1⟩=>?_
 obtain⟨a,kvs,e,ha,q⟩:=q1;subst e;cases r1;obtain⟨z,hsm,vs,rel,dd⟩:=oB I1.hok ha;obtain⟨ep,dat⟩:=dd.dictAt;obtain⟨o,ho,I2⟩:=I1.freeze ha;refine wpAny_pyIter_dict hsm dat ?_;refine⟨s1.heap.objs.size,[s1.heap.objs.size],_,_,_,rfl,I2.kept (t':=s1.toks) fun b o e=>Heap.get?_push_of_some _ e,Lc rel (fun h e=>dat.at' fun o' e'=>by rw[ho] at e';rw[<- e'];exact e),⟨_,Heap.get?_push_size _ rfl,rfl,rfl⟩,fun b hb=>?_,q o⟩;have e:b=s1.heap.objs.size:=by simpa using hb
 subst e;exact I2.fpOk (ah _) (I2.hok.fresh (ah _))
def Ym (H₀:Hp)(t:TE):TE:=fun σ H Q=>t σ H fun v H'=>∃ a o kvs,H' a=some (.frz o (.dK kvs))∧H₀ a=none∧Q v (upd H' a (.dK kvs))
theorem Qt {e:Expr}{t:TE}(h:PE X e t):PE X e (Ym X.H₀ t):=by
 intro pins s σ H Q I hw;refine thn (h pins s σ H _ I hw) fun v s1 ⟨x,H1,I1,r1,a,o,kvs,ha,h0,q⟩=>?_
 exact⟨x,_,I1.thaw ha h0,r1,q⟩
end
section
variable {X:Cx}{o:Expr}{td:TE}{apos cpos:Pos}
end
open PySem.Spec
section
variable {X:Cx}
end
end L2
namespace L2
open PySem PyProof.Rows
section
variable {X:Cx}{pins:List (Addr×Obj)}{σ:St}{H:Hp}{s:Shared}
end
section
variable {X:Cx}
end
theorem Ol {a:Addr}{o:Obj}{kvs:List (Key×V)}{g:TG}{tb:TS}{D:lE}{σ:St}{H:Hp}(Pv:Nat->St->Hp->Prop)(h0:Pv 0 σ H)(hl:∀ i σ H,i<=kvs.length->Pv i σ H->H a=some (.frz o (.dK kvs)))
  (hs:∀ i kv σ H,kvs[i]?=some kv->Pv i σ H->g (kV kv.1) σ H fun σ2 H2=>tb { D with nx:=Pv (i+1),ct:=Pv (i+1),bk:=D.nx } σ2 H2) (hd:∀ σ H,Pv kvs.length σ H->D.nx σ H) :
  ∃ W:Nat->Nat->St->Hp->Prop,(∃ m,W 0 m σ H)∧∀ i m σ H,W i m σ H ->
   ((Itk a o kvs).stop i H∧D.nx σ H)∨((Itk a o kvs).go i H∧∃ N:St->Hp->Prop,(∀ σ' H',N σ' H'->∃ m',m'<m∧W (i+1) m' σ' H')∧∀ x H',(Itk a o kvs).yld i H x H'->g x σ H' fun σ2 H2=>tb { D with nx:=N,ct:=N,bk:=D.nx } σ2 H2):=by
 refine⟨fun i m σ H=>m=kvs.length-i∧i<=kvs.length∧Pv i σ H,⟨kvs.length,by simp,b9 _,h0⟩,?_⟩;rintro i m σ H ⟨rfl,hi,p⟩;have hA:=hl i σ H hi p;by_cases hlt:i<kvs.length
 ·refine .inr ⟨⟨hA,hlt⟩,Pv (i+1),fun σ' H' p'=>⟨kvs.length-(i+1),by omega,rfl,hlt,p'⟩,fun x H' hy=>?_⟩
  obtain⟨rfl,kv,e,rfl⟩:=hy;exact hs i kv σ _ e p
 ·have e:i=kvs.length:=by omega
  subst e;exact .inl ⟨⟨hA,ah _⟩,hd σ H p⟩
open PySem.Spec
section
variable {M:Model}{A:Around}{E:Value->Shared->Prop}{s:Shared}
end
section
variable {X:Cx}{N':List Str}{scope:Scope}{x:Str}{px:Pos}{elt iter:Expr}{cds:List Expr}{pos:Pos}{te:TE}{tc:TT}{wi:TI}
end
section
variable {X:Cx}
end
section
variable {X:Cx}{N':List Str}{scope:Scope}{x:Str}{px:Pos}{elt iter cd:Expr}{pos:Pos}{te:TE}{tc:TT}{wi:TI}
end
end L2
namespace L2
open PySem PyProof.Rows
def SqA (K:af)(H:Hp)(a:Addr)(xs:List V):Prop:=SqL K H a xs∨SqT K H a xs
theorem SqA.on {K:af}{H H':Hp}{a:Addr}{xs:List V}(h:SqA K H a xs)(s:aL H H'):SqA K H' a xs:=h.elim (fun h=>.inl (s.seq h)) fun h=>.inr (lD s h)
def iSq (K:af)(tl:TE):TI:=fun σ H R=>tl σ H fun x H1=>∃ a xs H0,x = .ref a∧SqA K H0 a xs∧aL H0 H1∧∀ J,nP J H0 xs->R J H1
section
variable {X:Cx}{tg:Expr}
theorem Up {l:Expr}{tl:TE}(hl:PE X l tl):PI X tg l (iSq X.K tl):=by
 intro pins s σ H R I h;refine thn (hl pins s σ H _ I h) fun v s1 ⟨x,H1,I1,r1,q1⟩=>?_
 obtain⟨a,xs,H0,e,hq0 | hq0,s0,q0⟩:=q1
 ·have hq:=s0.seq hq0
  have q:=q0 _ (cT hq0);subst e;cases r1;obtain⟨its,rv,p,hz⟩:=I1.list hq;refine wpAny_pyIter_list p.isList ?_;refine⟨s1.heap.objs.size,[s1.heap.objs.size],_,_,H1,rfl,I1.kept (t':=s1.toks) fun b o e=>Heap.get?_push_of_some _ e,yI a _,⟨_,Heap.get?_push_size _ rfl,rfl,rfl⟩,fun b hb=>?_,q⟩;have e:b=s1.heap.objs.size:=by simpa using hb
  subst e;exact I1.fpOk (ah _) (I1.hok.fresh (ah _))
 ·have hq:=lD s0 hq0
  have q:=q0 _ (iI hq0);subst e;cases r1;obtain⟨its,rv,p,hz⟩:=I1.tuple hq;refine wpAny_pyIter_tuple (show s1.heap.IsTuple a its.toArray from p) ?_;refine⟨s1.heap.objs.size,[s1.heap.objs.size],_,_,H1,rfl,I1.kept (t':=s1.toks) fun b o e=>Heap.get?_push_of_some _ e,uE a _,⟨_,Heap.get?_push_size _ rfl,rfl,rfl⟩,fun b hb=>?_,q⟩;have e:b=s1.heap.objs.size:=by simpa using hb
  subst e;exact I1.fpOk (ah _) (I1.hok.fresh (ah _))
theorem zB (K:af)(hK:X.K=K){l:Expr}{tl:TE}(hl:PE X l tl):PI X tg l (iSq K tl):=by
 subst hK;exact Up hl
end
theorem Ks {J:It}{H0:Hp}{vs:List V}{g:TG}{tb:TS}{D:lE}{σ:St}{H:Hp}(rd:nP J H0 vs)(Pv:Nat->St->Hp->Prop)(h0:Pv 0 σ H)(hl:∀ i σ H,i<=vs.length->Pv i σ H->aL H0 H)
  (hs:∀ i x σ H,vs[i]?=some x->Pv i σ H->g x σ H fun σ2 H2=>tb { D with nx:=Pv (i+1),ct:=Pv (i+1),bk:=D.nx } σ2 H2) (hd:∀ σ H,Pv vs.length σ H->D.nx σ H) :
  ∃ W:Nat->Nat->St->Hp->Prop,(∃ m,W 0 m σ H)∧∀ i m σ H,W i m σ H ->
   (J.stop i H∧D.nx σ H)∨(J.go i H∧∃ N:St->Hp->Prop,(∀ σ' H',N σ' H'->∃ m',m'<m∧W (i+1) m' σ' H')∧∀ x H',J.yld i H x H'->g x σ H' fun σ2 H2=>tb { D with nx:=N,ct:=N,bk:=D.nx } σ2 H2):=by
 refine⟨fun i m σ H=>m=vs.length-i∧i<=vs.length∧Pv i σ H,⟨vs.length,by simp,b9 _,h0⟩,?_⟩;rintro i m σ H ⟨rfl,hi,p⟩;have hA:=hl i σ H hi p;by_cases hlt:i<vs.length
 ·refine .inr ⟨rd.go i H hA hlt,Pv (i+1),fun σ' H' p'=>⟨vs.length-(i+1),by omega,rfl,hlt,p'⟩,fun x H' hy=>?_⟩
  obtain⟨rfl,e⟩:=rd.yl i H x H' hA hy;exact hs i x σ _ e p
 ·have e:i=vs.length:=by omega
  subst e;exact .inl ⟨rd.st H hA,hd σ H p⟩
open PySem.Spec
section
variable {X:Cx}
theorem Bo (K:af)(hK:X.K=K)(hu:X.A.units<cLine):OpR X (compareOp .NotEq) (fun x y H Q=>∃ (p b:Addr) (ys:List V),x = .ref p∧y = .ref b∧SqL K H p ys∧SqL K H b []∧Q (.bl (!ys.isEmpty)) H):=by
 subst hK;intro pins s σ H x y v u Q I rx ry h;obtain⟨p,b,ys,rfl,rfl,h1,h2,q⟩:=h;cases rx;cases ry;obtain⟨its,r,pl,_⟩:=I.list h1;obtain⟨its2,r2,pl2,_⟩:=I.list h2;have l1:=r.length;have l2:=r2.length
 cases ys with
 | nil =>
  have e1:its=[]:=a8.mp l1.symm;have e2:its2=[]:=a8.mp l2.symm;subst e1 e2;refine SeqAt.RcNeAt.lists (e:=fun _=>true) pl.isList pl2.isList rfl hu (fun j g1 g2=>absurd g1 (by simp)) _ _ _ _ ?_;exact⟨.bl _,H,I,rfl,q⟩
 | cons y ys =>
  refine SeqAt.RcNeAt.lists_lengths pl.isList pl2.isList (by rw[ap,ap,bne_iff_ne];simp only [av,ku] at l1 l2;omega) hu _ _ _ _ ?_;exact⟨.bl _,H,I,rfl,q⟩
end
end L2
namespace L2
open PySem
theorem Pf {X:Cx}{st:Stmt}:PS X st (fun _ _ _=>False):=fun _ _ _ _ _ _ h=>h.elim
open PyProof.Rows PySem.Spec
section
variable {X:Cx}
theorem mW {pins:List (Addr×Obj)}{σ:St}{H:Hp}{s:Shared}{v:Value}{ls:List (List Nat)}{Q:VK}(h64:ls.length<64)
  (hc:∀ (A':Around) (Q':List Value->Shared->Prop),A'.handled=X.A.handled->(∀ (vs:List Value) (ss:List Str) (s1:Shared),StrsAre vs ss->ss.Perm (ls.map tx)->Inv X pins σ H s1->Q' vs s1)->wpAny (model X.prog X.w) A' (collect v) Q' X.xe s)
  (q:∀ (ms:List (List Nat)) (D:Addr),H D=none->ms.Perm ls->ms.Pairwise (fun a b=>¬ b<a)->Q (.ref D) (upd H D (.lst (ms.map T)))) :
  wpAny (model X.prog X.w) X.A (call (.builtin "sorted") [v]) (EP X pins σ Q) X.xe s:=by
 have hz:ls.length<=sizeLine:=by rw[sizeLine_eq];omega
 refine Calls.call_function_entry kind_sorted plain_sorted entry_sorted (args_sorted1 _) ?_;unfold Builtin.«sorted»;refine wpAny_bind (m:=checkCount "sorted" 1 1 _) (wpAny_pure (wpAny_bind (hc _ _ (by simp) fun vs ss s1 hS hp I1=>wpAny_bind (wpAny_newList ?_ (by rw[hS.length,hp.length_eq,aR];exact hz)))))
 have e2:(s1.heap.push (seqObj "list" vs.toArray 0)).get? s1.heap.objs.size=some (seqObj "list" vs.toArray 0):=Heap.get?_push_size _ rfl
 have hvl:vs.length=ls.length:=by rw[hS.length,hp.length_eq,aR]
 show wpAny _ _ _ _ _ { s1 with heap:=s1.heap.push (seqObj "list" vs.toArray 0) }
 have key:∀ (out:Array Value) (ss':List Str),StrsAre out.toList ss'->ss'.Perm ss->sortedS ss'=true->EP X pins σ Q (.ref s1.heap.objs.size) { s1 with heap:=sortedHeap (s1.heap.push (seqObj "list" vs.toArray 0)) s1.heap.objs.size vs out }:=fun out ss' b1 b2 b3=>by
  obtain⟨e,he⟩:=sortedHeap_at (out:=out) e2;have em:(ss'.map fun x=>x.cps.toList).map tx=ss':=by
   rw[bx]
   conv=>rhs;rw[<- ky ss']
   exact br fun x _=>kI x
  have hp':(ss'.map fun x=>x.cps.toList).Perm ls:=by
   have y:=(b2.trans hp).map fun x=>x.cps.toList
   rw[bx,show (fun x=>x.cps.toList)∘tx=id from funext eG,ky] at y;exact y
  refine⟨.ref _,_,I1.laid (t':=s1.toks) (fun b o eo=>?_) (ah _) (o:=.lst ((ss'.map fun x=>x.cps.toList).map T)) ⟨?_,out.toList,e,pE b1,by simpa using he⟩,rfl,q _ _ (I1.hok.fresh (ah _)) hp' (wV _ (by rw[em];exact b3))⟩
  ·have hlt:=Heap.lt_size eo
   rw[sortedHeap_old (a9 hlt) (by rw[size_push'];exact fh hlt)];exact Heap.get?_push_of_some _ eo
  ·rw[aR,hp'.length_eq]
   exact hz
 refine wpAny_bind (wpAny_holding (wpAny_call_entry slot_list_sort ⟨_,e2,rfl⟩ entry_list_sort (list_sort_treeK strKind_oneLt e2 hS.keysOf (fun v1 v2 r e=>?_) (by omega) fun st' a1 a2=>⟨_,rfl,wpAny_pure ⟨_,rfl,?_⟩⟩) (args_list_sort _)))
 ·have hS2:=hS
  rw[e] at hS2;exact keyKind_strs hS2
 ·obtain⟨ss',b1,b2,b3⟩:=sorted_out_str hS a1 a2
  exact key _ ss' b1 b2 b3
theorem wH (hc:X.calm=true):fC X (.builtin "sorted") (fun xs H Q=>∃ (p:Addr) (ls:List (List Nat)),xs=[.ref p]∧H p=some (oC X.w p ls)∧ls.length<64∧∀ (ms:List (List Nat)) (D:Addr),H D=none->ms.Perm ls->ms.Pairwise (fun a b=>¬ b<a)->Q (.ref D) (upd H D (.lst (ms.map T)))):=by
 intro pins s σ H xs us Q I r h;obtain⟨p,ls,rfl,hq,hz,q⟩:=h;obtain⟨u,rfl,ru⟩:=gH r;cases ru;have hs:sizeLine=16777216:=sizeLine_eq;refine mW hz (fun A' Q' hA hQ=>SS.Fm (by rw[hA];exact I.ok.hd hc) (Ah I hq) (by rw[aR];omega) fun s' vs ss kp g1 g2 e1 e2=>hQ vs ss s' e1 e2 ?_) q;have hg:AllBare s'.gens:=by rw[g1];exact I.bare
 exact I.call' (ch:=[]) g2 (Un.kept kp) (I.hok.kept kp) hg fun _ z=>nomatch z
theorem vV (hc:X.calm=true):fC X (.builtin "sorted") (fun xs H Q=>∃ (p:Addr) (ls:List (List Nat)) (kvs:List (Key×V)),xs=[.ref p]∧H p=some (.dK kvs)∧kvs.map (·.1)=ls.map (fun t=>cc (tx t))∧ls.length<64∧∀ (ms:List (List Nat)) (D:Addr),H D=none->ms.Perm ls->ms.Pairwise (fun a b=>¬ b<a)->Q (.ref D) (upd H D (.lst (ms.map T)))):=by
 intro pins s σ H xs us Q I r h;obtain⟨p,ls,kvs,rfl,hq,hk,h64,q⟩:=h;obtain⟨u,rfl,ru⟩:=gH r;cases ru;obtain⟨z,hd,vs,rel,dd⟩:=oB I.hok hq;obtain⟨o,es,ep,rest⟩:=dd;have hl:ls.length=kvs.length:=by have:=congrArg i7 hk;simpa using this.symm
 refine mW h64 (fun A' Q' hA hQ=>SS.Bp (vs:=vs) (ep:=ep) (by rw[hA];exact I.ok.hd hc) hd ⟨o,es,rest⟩ (by rw[<- rel.length];exact z) fun s' acc kp g1 g2 e1=>hQ _ (ls.map tx) s' (xT hk rel e1) (ie _) ?_) q;have hg:AllBare s'.gens:=by rw[g1];exact I.bare
 exact I.call' (ch:=[]) g2 (Un.kept kp) (I.hok.kept kp) hg fun _ z=>nomatch z
end
end L2
namespace SN
open PySem PyProof.Rows SS
def nF:Value->Int
 | .int x _=>x
 | _=>0
def El (w:World)(e:Int×Value):Prop:=e.1=hashInt (nF e.2)∧∃ t,e.2 = .int (nF e.2) t
def Els (w:World)(es:List (Int×Value))(ms:List Int):Prop:=(∀ e∈es,El w e)∧(es.map fun e=>nF e.2).Perm ms
def Rs (t:SetTable):Prop:=(∀ i j,i<j->j<t.place.size->t.place.getD i 0<t.place.getD j 0)∧t.dummies = #[]
def Is (w:World)(h:Heap)(a:Addr)(ms:List Int):Prop :=
 ∃ o es ep t,h.get? a=some o∧o.ExactSet∧o.data = .set es ep t∧Els w es.toList ms∧ms.Nodup∧es.size<scanBound∧t.fits es.size=true∧(byT w=true∨t.led=true)∧Rs t
section
variable {prog:Program}{w:World}{A:Around}{E:Value->Shared->Prop}{s:Shared}
end
end SN
namespace L2
open PySem PySem.Spec PyProof.Rows
namespace SEN
def Of (w:World)(h:Heap)(D:Addr)(ls:List Int)(i:Nat):Prop:=∃ ms,SN.Is w h D ms∧(∀ x,x∈ms↔x∈ls.take i)∧ms.length<=i
section
variable {prog:Program}{w:World}{A:Around}{R:Result->Shared->Prop}{J:Addr}{fp wr:List Addr}{G:Array GenState->Array GenState->Prop}{n:Nat}{P:Nat->Value->Prop}{St:Nat->Shared->Prop}
variable {E:Value->Shared->Prop}{s:Shared}
end
end SEN
section
variable {X:Cx}
end
end L2
namespace L2
open PySem PySem.W PyProof.Rows
section
variable {X:Cx}
theorem vA:fC X (.builtin "sorted") (fun xs H Q=>∃ (p:Addr) (ls:List (List Nat)),xs=[.ref p]∧SqT X.K H p (ls.map T)∧ls.length<64∧∀ (ms:List (List Nat)) (D:Addr),H D=none->ms.Perm ls->ms.Pairwise (fun a b=>¬ b<a)->Q (.ref D) (upd H D (.lst (ms.map T)))):=by
 intro pins s σ H xs us Q I r h;obtain⟨p,ls,rfl,hq,h64,q⟩:=h;obtain⟨u,rfl,ru⟩:=gH r;cases ru;obtain⟨its,rv,⟨o,ho,hc,n,hd⟩,hz⟩:=I.tuple hq;have hlen:=rv.length;rw[aR] at hlen hz;exact mW h64 (fun A' Q' _ hQ=>wpAny_collect_seq p (.inr rfl) ho hc hd (fun h' kp=>hQ _ _ _ (pV rv) (ie _) (I.kept (t':=s.toks) kp)) (by rw[ap];omega)) q
end
end L2
namespace L2
open PySem PyProof.Rows
section
variable {X:Cx}
end
open PySem.Spec
section
variable {X:Cx}
theorem Jj (hc:X.calm=true):fC X (.builtin "all") (fun xs H Q=>∃ (p:Addr) (bs:List Bool),xs=[.ref p]∧SqL X.K H p (bs.map V.bl)∧Q (.bl (bs.all id)) H):=by
 intro pins s σ H xs us Q I r h;obtain⟨p,bs,rfl,hq,q⟩:=h;obtain⟨u,rfl,ru⟩:=gH r;cases ru;obtain⟨its,rv,pl,_⟩:=I.list hq;have hlen:=rv.length;rw[aR] at hlen;have hat:∀ (i:Nat) (v:Value),its.toArray[i]?=some v->v = .bool (bs.getD i false):=fun i v e=>by
  have hi:i<bs.length:=by
   have:=(Array.getElem?_eq_some_iff.mp e).1
   rw[ap] at this;omega
  obtain⟨w',e1,q1⟩:=rv.get (i:=i) (x:=.bl bs[i]) (by rw[ag,ac hi];rfl);rw[lh,e1] at e;obtain rfl:=ay e;rw[ak,ac hi];exact q1
 have hall:(bu its.toArray.size).all (fun i=>bs.getD i false)=bs.all id:=by
  rw[ap,<- hlen,da,d8,d8];constructor
  ·intro h b hb
   obtain⟨i,hi⟩:=ic hb;have hil:=(al.mp hi).1
   have:=h i (ck.mpr hil)
   rw[ak,hi] at this;exact this
  ·intro h i hi
   have hil:=ck.mp hi;rw[ak,ac hil];exact h _ (di hil)
 have hne:p≠s.heap.objs.size:=by
  obtain⟨o,ho,_⟩:=id pl.isList;exact a9 (Heap.lt_size ho)
 refine call_all_walk (wpAny_pyIter_list pl.isList ⟨s.heap.objs.size,[s.heap.objs.size,p],[s.heap.objs.size],its.toArray.size,_,_,fun i=>bs.getD i false,rfl,Walks.list (A:=X.A.in1) (show X.A.in1.handled=none from I.ok.hd hc) s.heap.objs.size p hne its.toArray,⟨⟨_,Heap.get?_push_size _ rfl,rfl,rfl⟩,pl.isList.at fun o e=>Heap.get?_push_of_some _ e⟩,?_,fun h' tk hk=>?_⟩)
 ·intro i v s' Q' E' hP hQ
  rw[hat i v hP];exact wpAny_truthy_bool hQ
 ·rw[hall]
  exact⟨.bl _,H,I.kept (fun b o e=>hk b o (by simp;exact a9 (Heap.lt_size e)) (Heap.get?_push_of_some _ e)),rfl,q⟩
end
end L2
namespace L2
open PySem
section
variable {X:Cx}
theorem Tm {st:Stmt}{t t':TS}(h:PS X st t)(hw:∀ (D:lE) (σ:St) (H:Hp),t' D σ H->t D σ H):PS X st t':=fun pins s σ H D I q=>h pins s σ H D I (hw D σ H q)
end
open PyProof.Rows
section
variable {X:Cx}
end
open PySem.Spec
section
variable {X:Cx}
end
end L2
namespace LT
open PySem PyProof.Rows L2
section
variable {prog:Program}{w:World}{A:Around}{R:Result->Shared->Prop}{s:Shared}{l b:Addr}{its jts:Array Value}
end
section
variable {X:Cx}
end
end LT
namespace L2
open PySem PyProof.Rows PySem.Spec
section
variable {X:Cx}{e:Expr}{ta:TE}{f:Str}{pos:Pos}
end
section
variable {X:Cx}
end
structure Cmt (P:Program)(w:World)(K:af)(mg:Str->Option Value)(base:Heap)(CX:CXT)(C:Addr)(m:Str)(k:Nat)(ps:List Str)(sp:Sp):Prop where
 ex:∃ (f:Addr) (fd:FuncData),bN P w K mg base CX k f fd ps sp∧Rv K C m f∧Cls K C∧jQ K fd ps []
section
variable {X:Cx}
theorem Wy {CX:CXT}{C:Addr}{m:Str}{j k:Nat}{ps:List Str}{sp:Sp}{E:XK}{o e:Expr}{es:List Expr}{ta:TE}{t:TA}{apos pos:Pos}{pl:Sem Bool}(c:Cmt X.prog X.w X.K X.mg X.base CX C m j ps sp)(hr:fT k X.A)(hx:hX CX X E)(he:PE X o ta)(ha:PA X (e::es) t)
  (hjk:j<=k:=by decide) (hst:starEach (e::es) X.env=(false,eval e X.env)::starEach es X.env:=by rfl) (hpl:(backTo pos (starEach es X.env)).any (·.1)=false:=by rfl)
  (ht:eval (.Call (.Attribute o m apos) (e::es) [] pos) X.env=(do
   let ov <- eval o X.env
   standAt apos.atName
   let (f,first) <- holding [ov] (getMethod ov m pl)
   callWith pos f first (backTo pos (starEach (e::es) X.env)) (backToKw pos (keywordEach [] X.env))):=by rfl) :
  PE X (.Call (.Attribute o m apos) (e::es) [] pos) (Gr C m sp [] E ta t):=by
 obtain⟨f,fd,F,hm,cl,hb⟩:=c.ex;exact Rz he cl hm F (hr.mono hjk) hb .nil hx ha hst hpl ht
theorem dJ {CX:CXT}{C:Addr}{m:Str}{j k:Nat}{ps:List Str}{sp:Sp}{E:XK}{o:Expr}{ta:TE}{apos pos:Pos}{pl:Sem Bool}(c:Cmt X.prog X.w X.K X.mg X.base CX C m j ps sp)(hr:fT k X.A)(hx:hX CX X E)(he:PE X o ta)
  (hjk:j<=k:=by decide)
  (ht:eval (.Call (.Attribute o m apos) [] [] pos) X.env=(do
   let ov <- eval o X.env
   standAt apos.atName
   let (f,first) <- holding [ov] (getMethod ov m pl)
   callWith pos f first (backTo pos (starEach [] X.env)) (backToKw pos (keywordEach [] X.env))):=by rfl) :
  PE X (.Call (.Attribute o m apos) [] [] pos) (Gr C m sp [] E ta Sb):=by
 obtain⟨f,fd,F,hm,cl,hb⟩:=c.ex;exact Ow he cl hm F (hr.mono hjk) hb .nil hx ht
end
end L2
namespace K76
open PySem L2
seal L2.PSs L2.PS L2.PE L2.PA L2.PT L2.PW L2.PI L2.PG L2.PGs L2.PO L2.PTy L2.PH L2.OpR L2.fC L2.IxR L2.SlR L2.UnR L2.Vk
def top (i:Nat):Stmt:=mh.main.body.getD i (.Pass ⟨0,0,0,0⟩)
abbrev hV:Stmt:=top 44
abbrev qT:Stmt:=top 45
abbrev mD:Stmt:=top 46
abbrev dE:Stmt:=top 47
abbrev cL:Stmt:=top 48
abbrev gR:Stmt:=top 49
abbrev jL:Stmt:=top 50
abbrev iK:Stmt:=top 12
abbrev hU:Stmt:=top 13
abbrev pX:Stmt:=top 14
abbrev tZ:Stmt:=top 15
abbrev gT:Stmt:=top 16
abbrev fY:Stmt:=top 17
abbrev qJ:Stmt:=top 18
abbrev kP:Stmt:=top 22
abbrev gL:Stmt:=fI (top 23) 0
abbrev mX:Stmt:=top 24
abbrev vO:Stmt:=top 25
abbrev kY:Stmt:=top 26
abbrev lP:Stmt:=top 27
abbrev kC:Stmt:=top 28
abbrev pY:Stmt:=top 29
abbrev kZ:Stmt:=top 31
abbrev jI:Stmt:=top 32
abbrev mF:Stmt:=top 36
abbrev iZ:Stmt:=top 37
abbrev gD:Stmt:=top 52
abbrev eO:Stmt:=top 53
abbrev jP:Stmt:=top 55
abbrev nB:Stmt:=top 56
abbrev hG:Stmt:=top 57
abbrev pG:Stmt:=top 58
abbrev vC:Stmt:=top 59
abbrev kA:Stmt:=top 60
abbrev gM:Stmt:=top 34
abbrev qU:Stmt:=top 35
abbrev jZ:Stmt:=top 61
abbrev qB:Stmt:=top 62
abbrev jN:Stmt:=top 63
abbrev dW:Stmt:=fI (top 65) 1
abbrev fM:Stmt:=fI (top 65) 5
abbrev fQ:Stmt:=fI (top 65) 3
abbrev eS:Stmt:=fI (top 65) 4
abbrev fO:Stmt:=fI (top 65) 2
abbrev dL:Stmt:=fI (top 65) 6
abbrev fR:Stmt:=fI (top 65) 7
abbrev eZ:Stmt:=fI (top 65) 8
abbrev eY:Stmt:=fI (top 65) 9
abbrev fS:Stmt:=fI (top 65) 10
abbrev fL:Stmt:=fI (top 65) 0
abbrev jY:Stmt:=top 67
abbrev lB:Stmt:=top 68
abbrev jD:Stmt:=top 69
abbrev kJ:Stmt:=top 70
abbrev jG:Stmt:=top 71
abbrev gJ:Stmt:=top 72
abbrev gF:Stmt:=top 73
abbrev lN:Stmt:=top 74
abbrev iL:Stmt:=top 75
abbrev oK:Stmt:=top 76
theorem qK:aP ["place", "last", "times"] ["place", "last"] (aF hV):=⟨rfl,rfl,rfl,by decide +kernel,rfl,by decide +kernel,by decide +kernel⟩
theorem cU:aP ["number", "prime", "last", "rest", "last_times", "times", "quotient", "next_rest", "more_times"] ["number", "prime"] (aF qT):=⟨rfl,rfl,rfl,by decide +kernel,rfl,by decide +kernel,by decide +kernel⟩
theorem uZ:aP ["row", "top", "back", "prime", "times"] ["row", "top", "back", "prime"] (aF mD):=⟨rfl,rfl,rfl,by decide +kernel,rfl,by decide +kernel,by decide +kernel⟩
def wP:Scope:={ kind:=ba,names:=[ (ae ".0",ao),(ae "number",ao),(ae "above",ao),(ae "times",bz)],isGenerator:=false,isCoroutine:=false,more:=[]:dt }
theorem zO:yS ["row", "top", "back", "prime", "times"] ["number", "above", "row", "top", "back", "prime", "times"] (aF mD) wP "number" "above" := ⟨rfl,by decide +kernel,by decide +kernel,rfl,rfl,by decide +kernel,rfl,rfl,rfl,by decide +kernel,rfl,by decide +kernel,by decide +kernel⟩
theorem cZ:aP ["numbers", "place", "number"] ["numbers"] (aF dE):=⟨rfl,rfl,rfl,by decide +kernel,rfl,by decide +kernel,by decide +kernel⟩
theorem bF:aP ["square", "prime", "rows", "rest", "place", "top", "back"] ["square", "prime"] (aF cL):=⟨rfl,rfl,rfl,by decide +kernel,rfl,by decide +kernel,by decide +kernel⟩
def jW:Scope:={ kind:=ba,names:=[ (ae ".0",ao),(ae "row",ao),(ae "prime",bz)],isGenerator:=false,isCoroutine:=false,more:=[]:dt }
theorem kS:cM ["square", "prime", "rows", "rest", "place", "top", "back"] ["row", "square", "prime", "rows", "rest", "place", "top", "back"] (aF cL) jW "row" := ⟨rfl,by decide +kernel,by decide +kernel,rfl,by decide +kernel,rfl,rfl,by decide +kernel,rfl,by decide +kernel,by decide +kernel⟩
def kM:Scope:={ kind:=ba,names:=[ (ae ".0",ao),(ae "number",ao),(ae "prime",bz)],isGenerator:=false,isCoroutine:=false,more:=[]:dt }
theorem kW:cM ["square", "prime", "rows", "rest", "place", "top", "back"] ["number", "square", "prime", "rows", "rest", "place", "top", "back"] (aF cL) kM "number" := ⟨rfl,by decide +kernel,by decide +kernel,rfl,by decide +kernel,rfl,rfl,by decide +kernel,rfl,by decide +kernel,by decide +kernel⟩
def kN:Scope:={ kind:=ba,names:=[ (ae ".0",ao),(ae "row",ao),(ae "lowered",bi),(ae "back",bz),(ae "prime",bz),(ae "top",bz)],isGenerator:=false,isCoroutine:=false,more:=[]:dt }
theorem kT:cM ["square", "prime", "rows", "rest", "place", "top", "back"] ["row", "square", "prime", "rows", "rest", "place", "top", "back"] (aF cL) kN "row" := ⟨rfl,by decide +kernel,by decide +kernel,rfl,by decide +kernel,rfl,rfl,by decide +kernel,rfl,by decide +kernel,by decide +kernel⟩
theorem fX:aP ["square", "bound", "row"] ["square"] (aF gR):=⟨rfl,rfl,rfl,by decide +kernel,rfl,by decide +kernel,by decide +kernel⟩
def oY:Scope:={ kind:=ba,names:=[ (ae ".0",ao),(ae "number",ao),(ae "abs",bi)],isGenerator:=false,isCoroutine:=false,more:=[]:dt }
theorem pK:cM ["square", "bound", "row"] ["number", "square", "bound", "row"] (aF gR) oY "number" := ⟨rfl,by decide +kernel,by decide +kernel,rfl,by decide +kernel,rfl,rfl,by decide +kernel,rfl,by decide +kernel,by decide +kernel⟩
theorem bO:aP ["square", "bound", "result", "modulus", "place", "times", "prime", "lacking"] ["square"] (aF jL):=⟨rfl,rfl,rfl,by decide +kernel,rfl,by decide +kernel,by decide +kernel⟩
theorem sF:aP ["kinds"] ["kinds"] (aF iK):=⟨rfl,rfl,rfl,by decide +kernel,rfl,by decide +kernel,by decide +kernel⟩
theorem qD:aP ["length", "kinds"] ["length", "kinds"] (aF hU):=⟨rfl,rfl,rfl,by decide +kernel,rfl,by decide +kernel,by decide +kernel⟩
theorem Fy:aP ["kinds"] ["kinds"] (aF pX):=⟨rfl,rfl,rfl,by decide +kernel,rfl,by decide +kernel,by decide +kernel⟩
theorem qS:aP ["word", "kinds", "known", "sign"] ["word", "kinds"] (aF tZ):=⟨rfl,rfl,rfl,by decide +kernel,rfl,by decide +kernel,by decide +kernel⟩
theorem uX:aP ["text", "length"] ["text", "length"] (aF gT):=⟨rfl,rfl,rfl,by decide +kernel,rfl,by decide +kernel,by decide +kernel⟩
def nJ:Scope:={ kind:=ba,names:=[ (ae ".0",ao),(ae "place",ao),(ae "length",bz),(ae "text",bz)],isGenerator:=false,isCoroutine:=false,more:=[]:dt }
theorem qP:cM ["text", "length"] ["place", "text", "length"] (aF gT) nJ "place" := ⟨rfl,by decide +kernel,by decide +kernel,rfl,by decide +kernel,rfl,rfl,by decide +kernel,rfl,by decide +kernel,by decide +kernel⟩
theorem hJ:aP ["text", "length", "size", "around"] ["text", "length"] (aF fY):=⟨rfl,rfl,rfl,by decide +kernel,rfl,by decide +kernel,by decide +kernel⟩
def mT:Scope:={ kind:=ba,names:=[ (ae ".0",ao),(ae "place",ao),(ae "around",bz),(ae "length",bz)],isGenerator:=false,isCoroutine:=false,more:=[]:dt }
theorem oO:cM ["text", "length", "size", "around"] ["place", "text", "length", "size", "around"] (aF fY) mT "place" := ⟨rfl,by decide +kernel,by decide +kernel,rfl,by decide +kernel,rfl,rfl,by decide +kernel,rfl,by decide +kernel,by decide +kernel⟩
theorem Gf:aP ["text", "length", "ring"] ["text", "length", "ring"] (aF qJ):=⟨rfl,rfl,rfl,by decide +kernel,rfl,by decide +kernel,by decide +kernel⟩
theorem jK:aP ["words", "word"] ["words"] (aF kP):=⟨rfl,rfl,rfl,by decide +kernel,rfl,by decide +kernel,by decide +kernel⟩
theorem Dv:aP ["self", "words"] ["self", "words"] (aF gL):=⟨rfl,rfl,rfl,by decide +kernel,rfl,by decide +kernel,by decide +kernel⟩
theorem Az:aP ["word"] ["word"] (aF mX):=⟨rfl,rfl,rfl,by decide +kernel,rfl,by decide +kernel,by decide +kernel⟩
theorem Kd:aP ["word"] ["word"] (aF vO):=⟨rfl,rfl,rfl,by decide +kernel,rfl,by decide +kernel,by decide +kernel⟩
theorem Ko:aP ["web"] ["web"] (aF kY):=⟨rfl,rfl,rfl,by decide +kernel,rfl,by decide +kernel,by decide +kernel⟩
def Al:Scope:={ kind:=ba,names:=[ (ae ".0",ao),(ae "word",ao),(ae "begin_of",bi)],isGenerator:=false,isCoroutine:=false,more:=[]:dt }
theorem Ci:cM ["web"] ["word", "web"] (aF kY) Al "word" := ⟨rfl,by decide +kernel,by decide +kernel,rfl,by decide +kernel,rfl,rfl,by decide +kernel,rfl,by decide +kernel,by decide +kernel⟩
def zN:Scope:={ kind:=ba,names:=[ (ae ".0",ao),(ae "word",ao),(ae "end_of",bi)],isGenerator:=false,isCoroutine:=false,more:=[]:dt }
theorem Cy:cM ["web"] ["word", "web"] (aF kY) zN "word" := ⟨rfl,by decide +kernel,by decide +kernel,rfl,by decide +kernel,rfl,rfl,by decide +kernel,rfl,by decide +kernel,by decide +kernel⟩
theorem qW:aP ["web", "some", "going", "coming"] ["web", "some"] (aF lP):=⟨rfl,rfl,rfl,by decide +kernel,rfl,by decide +kernel,by decide +kernel⟩
def zR:Scope:={ kind:=ba,names:=[ (ae ".0",ao),(ae "word",ao),(ae "begin_of",bi),(ae "some",bz)],isGenerator:=false,isCoroutine:=false,more:=[]:dt }
theorem Bf:cM ["web", "some", "going", "coming"] ["word", "web", "some", "going", "coming"] (aF lP) zR "word" := ⟨rfl,by decide +kernel,by decide +kernel,rfl,by decide +kernel,rfl,rfl,by decide +kernel,rfl,by decide +kernel,by decide +kernel⟩
def Aj:Scope:={ kind:=ba,names:=[ (ae ".0",ao),(ae "word",ao),(ae "end_of",bi),(ae "some",bz)],isGenerator:=false,isCoroutine:=false,more:=[]:dt }
theorem Bm:cM ["web", "some", "going", "coming"] ["word", "web", "some", "going", "coming"] (aF lP) Aj "word" := ⟨rfl,by decide +kernel,by decide +kernel,rfl,by decide +kernel,rfl,rfl,by decide +kernel,rfl,by decide +kernel,by decide +kernel⟩
theorem cP:aP ["words", "piece", "found", "known", "word"] ["words", "piece"] (aF kC):=⟨rfl,rfl,rfl,by decide +kernel,rfl,by decide +kernel,by decide +kernel⟩
theorem Dz:aP ["web", "piece"] ["web", "piece"] (aF pY):=⟨rfl,rfl,rfl,by decide +kernel,rfl,by decide +kernel,by decide +kernel⟩
theorem kO:aP ["web", "every", "together"] ["web"] (aF kZ):=⟨rfl,rfl,rfl,by decide +kernel,rfl,by decide +kernel,by decide +kernel⟩
theorem lA:aP ["web", "piece"] ["web"] (aF jI):=⟨rfl,rfl,rfl,by decide +kernel,rfl,by decide +kernel,by decide +kernel⟩
theorem Fz:aP ["words", "word"] ["words", "word"] (aF mF):=⟨rfl,rfl,rfl,by decide +kernel,rfl,by decide +kernel,by decide +kernel⟩
def wK:Scope:={ kind:=ba,names:=[ (ae ".0",ao),(ae "other",ao),(ae "word",bz)],isGenerator:=false,isCoroutine:=false,more:=[]:dt }
theorem Aa:cM ["words", "word"] ["other", "words", "word"] (aF mF) wK "other" := ⟨rfl,by decide +kernel,by decide +kernel,rfl,by decide +kernel,rfl,rfl,by decide +kernel,rfl,by decide +kernel,by decide +kernel⟩
theorem oI:aP ["left", "piece", "reached"] ["left", "piece"] (aF iZ):=⟨rfl,rfl,rfl,by decide +kernel,rfl,by decide +kernel,by decide +kernel⟩
def sH:Scope:={ kind:=ba,names:=[ (ae ".0",ao),(ae "word",ao),(ae "begin_of",bi),(ae "reached",bz)],isGenerator:=false,isCoroutine:=false,more:=[]:dt }
theorem uA:cM ["left", "piece", "reached"] ["word", "left", "piece", "reached"] (aF iZ) sH "word" := ⟨rfl,by decide +kernel,by decide +kernel,rfl,by decide +kernel,rfl,rfl,by decide +kernel,rfl,by decide +kernel,by decide +kernel⟩
theorem mO:aP ["texts", "text", "words", "ends"] ["texts", "text", "words"] (aF gD):=⟨rfl,rfl,rfl,by decide +kernel,rfl,by decide +kernel,by decide +kernel⟩
def pO:Scope:={ kind:=ba,names:=[ (ae ".0",ao),(ae "word",ao),(ae "end_of",bi)],isGenerator:=false,isCoroutine:=false,more:=[]:dt }
theorem rY:cM ["texts", "text", "words", "ends"] ["word", "texts", "text", "words", "ends"] (aF gD) pO "word" := ⟨rfl,by decide +kernel,by decide +kernel,rfl,by decide +kernel,rfl,rfl,by decide +kernel,rfl,by decide +kernel,by decide +kernel⟩
def qC:Scope:={ kind:=ba,names:=[ (ae ".0",ao),(ae "other",ao),(ae "len",bi),(ae "ends",bz),(ae "text",bz)],isGenerator:=false,isCoroutine:=false,more:=[]:dt }
theorem rZ:cM ["texts", "text", "words", "ends"] ["other", "texts", "text", "words", "ends"] (aF gD) qC "other" := ⟨rfl,by decide +kernel,by decide +kernel,rfl,by decide +kernel,rfl,rfl,by decide +kernel,rfl,by decide +kernel,by decide +kernel⟩
theorem iJ:aP ["ways", "texts"] ["ways"] (aF eO):=⟨rfl,rfl,rfl,by decide +kernel,rfl,by decide +kernel,by decide +kernel⟩
def kU:Scope:={ kind:=ba,names:=[ (ae ".0",ao),(ae "text",ao),(ae "choice_row",bi),(ae "texts",bz),(ae "ways",bz)],isGenerator:=false,isCoroutine:=false,more:=[]:dt }
theorem lF:cM ["ways", "texts"] ["text", "ways", "texts"] (aF eO) kU "text" := ⟨rfl,by decide +kernel,by decide +kernel,rfl,by decide +kernel,rfl,rfl,by decide +kernel,rfl,by decide +kernel,by decide +kernel⟩
theorem mV:aP ["words", "one", "other", "begins", "ends"] ["words", "one", "other"] (aF jP):=⟨rfl,rfl,rfl,by decide +kernel,rfl,by decide +kernel,by decide +kernel⟩
def wI:Scope:={ kind:=ba,names:=[ (ae ".0",ao),(ae "word",ao),(ae "begin_of",bi)],isGenerator:=false,isCoroutine:=false,more:=[]:dt }
theorem yW:cM ["words", "one", "other", "begins", "ends"] ["word", "words", "one", "other", "begins", "ends"] (aF jP) wI "word" := ⟨rfl,by decide +kernel,by decide +kernel,rfl,by decide +kernel,rfl,rfl,by decide +kernel,rfl,by decide +kernel,by decide +kernel⟩
def wD:Scope:={ kind:=ba,names:=[ (ae ".0",ao),(ae "word",ao),(ae "end_of",bi)],isGenerator:=false,isCoroutine:=false,more:=[]:dt }
theorem zK:cM ["words", "one", "other", "begins", "ends"] ["word", "words", "one", "other", "begins", "ends"] (aF jP) wD "word" := ⟨rfl,by decide +kernel,by decide +kernel,rfl,by decide +kernel,rfl,rfl,by decide +kernel,rfl,by decide +kernel,by decide +kernel⟩
theorem lC:aP ["words", "ways", "word"] ["words"] (aF nB):=⟨rfl,rfl,rfl,by decide +kernel,rfl,by decide +kernel,by decide +kernel⟩
theorem eW:aP ["many", "product", "factor"] ["many"] (aF hG):=⟨rfl,rfl,rfl,by decide +kernel,rfl,by decide +kernel,by decide +kernel⟩
theorem iV:aP ["words", "one", "other", "ways", "orders", "text"] ["words", "one", "other"] (aF pG):=⟨rfl,rfl,rfl,by decide +kernel,rfl,by decide +kernel,by decide +kernel⟩
theorem dZ:aP ["words", "one", "other", "number", "text", "at", "left", "ahead", "word", "many"] ["words", "one", "other", "number"] (aF vC):=⟨rfl,rfl,rfl,by decide +kernel,rfl,by decide +kernel,by decide +kernel⟩
theorem dQ:aP ["words", "order", "other", "number", "left", "word", "lesser"] ["words", "order", "other"] (aF kA):=⟨rfl,rfl,rfl,by decide +kernel,rfl,by decide +kernel,by decide +kernel⟩
theorem oS:aP ["web", "text"] ["web", "text"] (aF gM):=⟨rfl,rfl,rfl,by decide +kernel,rfl,by decide +kernel,by decide +kernel⟩
theorem Gh:aP ["web", "text"] ["web", "text"] (aF qU):=⟨rfl,rfl,rfl,by decide +kernel,rfl,by decide +kernel,by decide +kernel⟩
theorem mM:aP ["web", "least"] ["web"] (aF jZ):=⟨rfl,rfl,rfl,by decide +kernel,rfl,by decide +kernel,by decide +kernel⟩
theorem mZ:aP ["web", "number", "least", "row"] ["web", "number"] (aF qB):=⟨rfl,rfl,rfl,by decide +kernel,rfl,by decide +kernel,by decide +kernel⟩
theorem tT:aP ["web", "ring"] ["web", "ring"] (aF jN):=⟨rfl,rfl,rfl,by decide +kernel,rfl,by decide +kernel,by decide +kernel⟩
theorem sB:aP ["self"] ["self"] (aF dW):=⟨rfl,rfl,rfl,by decide +kernel,rfl,by decide +kernel,by decide +kernel⟩
theorem Ax:aP ["self"] ["self"] (aF fM):=⟨rfl,rfl,rfl,by decide +kernel,rfl,by decide +kernel,by decide +kernel⟩
theorem yR:aP ["self"] ["self"] (aF fQ):=⟨rfl,rfl,rfl,by decide +kernel,rfl,by decide +kernel,by decide +kernel⟩
theorem oH:aP ["self", "met"] ["self"] (aF eS):=⟨rfl,rfl,rfl,by decide +kernel,rfl,by decide +kernel,by decide +kernel⟩
def rS:Scope:={ kind:=ba,names:=[ (ae ".0",ao),(ae "word",ao),(ae "met",bz)],isGenerator:=false,isCoroutine:=false,more:=[]:dt }
theorem vM:cM ["self", "met"] ["word", "self", "met"] (aF eS) rS "word" := ⟨rfl,by decide +kernel,by decide +kernel,rfl,by decide +kernel,rfl,rfl,by decide +kernel,rfl,by decide +kernel,by decide +kernel⟩
theorem zT:aP ["self"] ["self"] (aF fO):=⟨rfl,rfl,rfl,by decide +kernel,rfl,by decide +kernel,by decide +kernel⟩
theorem gQ:aP ["self", "left", "at", "behind"] ["self"] (aF dL):=⟨rfl,rfl,rfl,by decide +kernel,rfl,by decide +kernel,by decide +kernel⟩
def qE:Scope:={ kind:=ba,names:=[ (ae ".0",ao),(ae "word",ao),(ae "begin_of",bi),(ae "at",bz)],isGenerator:=false,isCoroutine:=false,more:=[]:dt }
theorem rX:cM ["self", "left", "at", "behind"] ["word", "self", "left", "at", "behind"] (aF dL) qE "word" := ⟨rfl,by decide +kernel,by decide +kernel,rfl,by decide +kernel,rfl,rfl,by decide +kernel,rfl,by decide +kernel,by decide +kernel⟩
def qV:Scope:={ kind:=ba,names:=[ (ae ".0",ao),(ae "word",ao),(ae "can_go_on",bi),(ae "without",bi),(ae "end_of",bi),(ae "left",bz)],isGenerator:=false,isCoroutine:=false,more:=[]:dt }
theorem rP:cM ["self", "left", "at", "behind"] ["word", "self", "left", "at", "behind"] (aF dL) qV "word" := ⟨rfl,by decide +kernel,by decide +kernel,rfl,by decide +kernel,rfl,rfl,by decide +kernel,rfl,by decide +kernel,by decide +kernel⟩
theorem zQ:aP ["self"] ["self"] (aF fR):=⟨rfl,rfl,rfl,by decide +kernel,rfl,by decide +kernel,by decide +kernel⟩
theorem wA:aP ["self"] ["self"] (aF eZ):=⟨rfl,rfl,rfl,by decide +kernel,rfl,by decide +kernel,by decide +kernel⟩
theorem wF:aP ["self", "letter"] ["self", "letter"] (aF eY):=⟨rfl,rfl,rfl,by decide +kernel,rfl,by decide +kernel,by decide +kernel⟩
theorem nU:aP ["self", "letter"] ["self"] (aF fS):=⟨rfl,rfl,rfl,by decide +kernel,rfl,by decide +kernel,by decide +kernel⟩
theorem nX:aP ["self", "web", "paper"] ["self", "web"] (aF fL):=⟨rfl,rfl,rfl,by decide +kernel,rfl,by decide +kernel,by decide +kernel⟩
theorem gP:aP ["base", "many", "made", "k"] ["base", "many"] (aF jY):=⟨rfl,rfl,rfl,by decide +kernel,rfl,by decide +kernel,by decide +kernel⟩
theorem nQ:aP ["cell", "k", "m"] ["cell", "k"] (aF lB):=⟨rfl,rfl,rfl,by decide +kernel,rfl,by decide +kernel,by decide +kernel⟩
theorem fZ:aP ["script", "many", "found", "k", "cell"] ["script", "many"] (aF jD):=⟨rfl,rfl,rfl,by decide +kernel,rfl,by decide +kernel,by decide +kernel⟩
theorem dP:aP ["length", "kinds", "words", "k", "longer", "word", "letter"] ["length", "kinds"] (aF kJ):=⟨rfl,rfl,rfl,by decide +kernel,rfl,by decide +kernel,by decide +kernel⟩
theorem bS:aP ["script", "words", "length", "kinds", "ends", "cells", "behind", "j", "order", "part", "c", "word"] ["script", "words", "length", "kinds"] (aF jG):=⟨rfl,rfl,rfl,by decide +kernel,rfl,by decide +kernel,by decide +kernel⟩
theorem eM:aP ["words", "part", "some", "word"] ["words", "part"] (aF gJ):=⟨rfl,rfl,rfl,by decide +kernel,rfl,by decide +kernel,by decide +kernel⟩
theorem bE:aP ["script", "n", "length", "kinds", "words", "behind", "kept", "met", "part", "word", "keep"] ["script", "n", "length", "kinds"] (aF gF):=⟨rfl,rfl,rfl,by decide +kernel,rfl,by decide +kernel,by decide +kernel⟩
theorem nK:aP ["n", "sizes"] ["n"] (aF lN):=⟨rfl,rfl,rfl,by decide +kernel,rfl,by decide +kernel,by decide +kernel⟩
theorem dI:aP ["web", "cells", "way", "desk", "seen", "cell", "nexts", "at"] ["web", "cells", "way"] (aF iL):=⟨rfl,rfl,rfl,by decide +kernel,rfl,by decide +kernel,by decide +kernel⟩
theorem fK:aP ["script", "n", "length", "kinds", "words", "web", "many", "cells", "way", "desk", "seen", "ring", "number", "ahead", "ways"] ["script"] (aF oK):=⟨rfl,rfl,rfl,by decide +kernel,rfl,by decide +kernel,by decide +kernel⟩
structure Adr where
 BadKinds:Addr
 BadWord:Addr
 TooMany:Addr
 NoSuch:Addr
 NotOne:Addr
 BadDeed:Addr
 Web:Addr
 Desk:Addr
 KNOWN_TIMES:Addr
 u_FIRST_PRIME:Value
 u_STEP:Value
 u_LETTERS:Value
 u_LONGEST:Value
 u_MOST_OF_A_WEB:Value
 u_LONGEST_OF_A_WEB:Value
structure Txt (K:af)(mg:Str->Option Value)(ad:Adr):Prop where
 b_abs:mg "abs" = none
 b_all:mg "all" = none
 b_enumerate:mg "enumerate" = none
 b_len:mg "len" = none
 b_list:mg "list" = none
 b_range:mg "range" = none
 b_set:mg "set" = none
 b_sorted:mg "sorted" = none
 b_sum:mg "sum" = none
 b_tuple:mg "tuple" = none
 b_zip:mg "zip" = none
 m_BadKinds:mg "BadKinds" = some (.ref ad.BadKinds)
 m_BadWord:mg "BadWord" = some (.ref ad.BadWord)
 m_TooMany:mg "TooMany" = some (.ref ad.TooMany)
 m_NoSuch:mg "NoSuch" = some (.ref ad.NoSuch)
 m_NotOne:mg "NotOne" = some (.ref ad.NotOne)
 m_BadDeed:mg "BadDeed" = some (.ref ad.BadDeed)
 m_Web:mg "Web" = some (.ref ad.Web)
 m_Desk:mg "Desk" = some (.ref ad.Desk)
 m_KNOWN_TIMES:mg "KNOWN_TIMES" = some (.ref ad.KNOWN_TIMES)
 x_BadKinds:Exc K mg "BadKinds" ad.BadKinds
 x_BadWord:Exc K mg "BadWord" ad.BadWord
 x_TooMany:Exc K mg "TooMany" ad.TooMany
 x_NoSuch:Exc K mg "NoSuch" ad.NoSuch
 x_NotOne:Exc K mg "NotOne" ad.NotOne
 x_BadDeed:Exc K mg "BadDeed" ad.BadDeed
 g_FIRST_PRIME:mg "FIRST_PRIME" = some ad.u_FIRST_PRIME
 r_FIRST_PRIME:bG (.int 2305843009213693951) ad.u_FIRST_PRIME
 g_STEP:mg "STEP" = some ad.u_STEP
 r_STEP:bG (.int 6277101735386680763835789423207666416102355444464034512896) ad.u_STEP
 g_LETTERS:mg "LETTERS" = some ad.u_LETTERS
 r_LETTERS:bG (T [97,98,99,100,101,102]) ad.u_LETTERS
 g_LONGEST:mg "LONGEST" = some ad.u_LONGEST
 r_LONGEST:bG (.int 24) ad.u_LONGEST
 g_MOST_OF_A_WEB:mg "MOST_OF_A_WEB" = some ad.u_MOST_OF_A_WEB
 r_MOST_OF_A_WEB:bG (.int 64) ad.u_MOST_OF_A_WEB
 g_LONGEST_OF_A_WEB:mg "LONGEST_OF_A_WEB" = some ad.u_LONGEST_OF_A_WEB
 r_LONGEST_OF_A_WEB:bG (.int 8) ad.u_LONGEST_OF_A_WEB
 kt:tupIs K ad.KNOWN_TIMES [133,211,598,652,721,850,1282,1417,1582,1681,1726,1837,1885,2017,2377,2383,2452,2476,2530,2611,2662,2698,2773,2878,2917,2980,2998,3082,3238,3250,3343,3421,3427,3670,3817,4162,4252,4447,4468,4621,4630,4747,4867,4891,4915,5128,5143,5236,5401,5587,5650,5803,5833,5923,5986,6202,6235,6286,6496,6526,6736,7093,7561,7696,7831,7855,7882,7927,8143,8248]=true
 cl_Web:Cls K ad.Web
 na_Web_words:jH K ad.Web "words"
 na_Web_length:jH K ad.Web "length"
 cl_Desk:Cls K ad.Desk
 na_Desk_web:jH K ad.Desk "web"
 na_Desk_text:jH K ad.Desk "text"
theorem bV {CX:CXT}{P:Program}{w:World}{K:af}{mg:Str->Option Value}{base:Heap}{N:List Str}{q:Str}{sc:Scope}{f:Addr}{cdv:Value}{A:Around}{outer:List Env}{s:Shared}{H:Hp}{E:XK}:(rW CX P w K mg base N q sc f cdv A outer s H E).nox.K=K:=rfl
section
variable {P:Program}{w:World}{K:af}{mg:Str->Option Value}{base:Heap}{ad:Adr}
theorem aAQ {m:Nat}(h:m<6):([97,98,99,100,101,102]:List Nat)[m]?=some (97+m):=by
 have key:∀ m:Nat,m<6->([97,98,99,100,101,102]:List Nat)[m]?=some (97+m):=by decide
 exact key m h
theorem Hz {k c:Nat}(hk:k<=6):c∈([97,98,99,100,101,102]:List Nat).take k↔97<=c∧c<97+k:=by
 have key:∀ k:Nat,k<7->([97,98,99,100,101,102]:List Nat).take k=(bu k).map (97 + ·):=by decide
 rw[key k (Nat.lt_succ_of_le hk),a5];exact⟨fun ⟨i,h,e⟩=>e▸⟨jm _ _,Nat.add_lt_add_left (ck.mp h) _⟩,fun ⟨h1,h2⟩=>⟨c-97,ck.mpr (Nat.sub_lt_left_of_lt_add h1 h2),qe h1⟩⟩
def vK (ad:Adr):Sp:=fun vs H Q E=>∃ k:Int,vs=[.int k]∧((1<=k∧k<=6)->Q .non H)∧(¬ (1<=k∧k<=6)->E (.ref ad.BadKinds) none H)
theorem rR {f:Addr}{fd:FuncData}(F:Fun K "looked_kinds" "looked_kinds" iK f fd)(tt:Txt K mg ad):bN P w K mg base (CX1 P w) 1 f fd ["kinds"] (vK ad):=by
 refine F.okX sF (fun vs H Q E h=>?_) (fun cdv A outer s H vs Q E hr h=>?_)
 ·obtain⟨k,rfl,_⟩:=h
  rfl
 ·obtain⟨k,rfl,q,x⟩:=h
  have hs:sizeLine=16777216:=sizeLine_eq;refine⟨_,(aE (bR (PW.pt (qX (aU oP (pv 0) aH (aY _)) (nA (aU oJ (pv 0) (aO bW (by rfl) tt.b_len a7 (aA (eK (by rfl) tt.g_LETTERS tt.r_LETTERS) aC)) (aY _))))) (aE (cI (E:=fun cls H'=>E cls none H') tt.x_BadKinds rfl (fun _ _ _ _ _ _ _ I hx q=>eJ I hx q) (aA (bX [107,105,110,100,115,32,97,114,101,32,97,32,119,104,111,108,101,32,110,117,109,98,101,114,32,102,114,111,109,32,49,32,116,111,32,54] (by decide +kernel)) aC))) aW)),?_⟩
  (try rw[bV]);(try rw[cxK1])
  refine⟨_,rfl,_,_,rfl,rfl,_,rfl,?_⟩;refine kF (fun h0=>zF ?_) (fun h0=>?_)
  ·have h1:k<1:=of_decide_eq_true h0
   exact⟨(by show 1<=sizeLine;omega),x fun z=>by omega⟩
  ·have h1:¬ k<1:=fun z=>h0 (decide_eq_true z)
   refine⟨_,rfl,_,rfl,(by show 6<=sizeLine;omega),_,_,rfl,rfl,_,rfl,?_⟩;refine kF (fun h2=>?_) (fun h2=>?_)
   ·have h3:(6:Int)<k:=of_decide_eq_true h2
    exact⟨(by show 1<=sizeLine;omega),x fun z=>by omega⟩
   ·have h3:¬ (6:Int)<k:=fun z=>h2 (decide_eq_true z)
    exact q ⟨by omega,by omega⟩
def Py (ad:Adr):Sp:=fun vs H Q E=>∃ n k:Int,vs=[.int n,.int k]∧((1<=k∧k<=6)->(1<=n∧n<=24)->Q .non H)∧(¬ (1<=k∧k<=6)->E (.ref ad.BadKinds) none H)∧((1<=k∧k<=6)->¬ (1<=n∧n<=24)->E (.ref ad.BadWord) none H)
theorem qA {f:Addr}{fd:FuncData}(F:Fun K "looked_length" "looked_length" hU f fd)(tt:Txt K mg ad)(C_looked_kinds:Cal P w K mg base (CX1 P w) "looked_kinds" 1 ["kinds"] (vK ad)) :
  bN P w K mg base (CX1 P w) 2 f fd ["length", "kinds"] (Py ad):=by
 refine F.okX qD (fun vs H Q E h=>?_) (fun cdv A outer s H vs Q E hr h=>?_)
 ·obtain⟨n,k,rfl,_⟩:=h
  rfl
 ·obtain⟨n,k,rfl,q,x1,x2⟩:=h
  have hs:sizeLine=16777216:=sizeLine_eq;refine⟨_,(aB (eL (aK C_looked_kinds hr oQ (aA (pv 1) aC)))
   (aE (bR (PW.pt (qX (aU oP (pv 0) aH (aY _)) (nA (aU oJ (pv 0) (eK (by rfl) tt.g_LONGEST tt.r_LONGEST) (aY _))))) (aE (cI (E:=fun cls H'=>E cls none H') tt.x_BadWord rfl (fun _ _ _ _ _ _ _ I hx q=>eJ I hx q) (aA (bX [97,32,119,111,114,100,32,104,97,115,32,49,32,116,111,32,50,52,32,108,101,116,116,101,114,115] (by decide +kernel)) aC))) aW))),?_⟩
  (try rw[bV]);(try rw[cxK1])
  refine⟨_,rfl,k,rfl,fun hk=>?_,x1⟩;refine⟨_,rfl,_,_,rfl,rfl,_,rfl,?_⟩;refine kF (fun h0=>zF ?_) (fun h0=>?_)
  ·have h1:n<1:=of_decide_eq_true h0
   exact⟨(by show 1<=sizeLine;omega),x2 hk fun z=>by omega⟩
  ·have h1:¬ n<1:=fun z=>h0 (decide_eq_true z)
   refine⟨_,rfl,_,_,rfl,rfl,_,rfl,?_⟩;refine kF (fun h2=>?_) (fun h2=>?_)
   ·have h3:(24:Int)<n:=of_decide_eq_true h2
    exact⟨(by show 1<=sizeLine;omega),x2 hk fun z=>by omega⟩
   ·have h3:¬ (24:Int)<n:=fun z=>h2 (decide_eq_true z)
    exact q hk ⟨by omega,by omega⟩
def tH (ad:Adr):Sp:=fun vs H Q E=>∃ k:Int,vs=[.int k]∧(∀ kn:Nat,k=(kn:Nat)->(1<=kn∧kn<=6)->Q (T (([97,98,99,100,101,102]:List Nat).take kn)) H)∧(¬ (1<=k∧k<=6)->E (.ref ad.BadKinds) none H)
theorem Fo {f:Addr}{fd:FuncData}(F:Fun K "letters" "letters" pX f fd)(tt:Txt K mg ad)(C_looked_kinds:Cal P w K mg base (CX1 P w) "looked_kinds" 1 ["kinds"] (vK ad)):bN P w K mg base (CX1 P w) 2 f fd ["kinds"] (tH ad):=by
 refine F.okX Fy (fun vs H Q E h=>?_) (fun cdv A outer s H vs Q E hr h=>?_)
 ·obtain⟨k,rfl,_⟩:=h
  rfl
 ·obtain⟨k,rfl,q,x⟩:=h
  have hs:sizeLine=16777216:=sizeLine_eq;refine⟨_,(aB (eL (aK C_looked_kinds hr oQ (aA (pv 0) aC)))
   (aE (aS (bU wC (eK (by rfl) tt.g_LETTERS tt.r_LETTERS) cW (cC (pv 0)))))),?_⟩
  (try rw[bV]);(try rw[cxK1])
  refine⟨_,rfl,k,rfl,fun hk=>?_,x⟩;obtain⟨kn,rfl⟩:∃ kn:Nat,k=(kn:Nat):=⟨k.toNat,by omega⟩;refine⟨_,rfl,_,rfl,_,rfl,(by show 6<=sizeLine;omega),?_⟩;rw[zP (by show kn<=6;omega)];exact q kn rfl ⟨by omega,by omega⟩
def vY (w:List Nat)(kn:Nat):Prop:=(1<=w.length∧w.length<=24)∧∀ c∈w,97<=c∧c<97+kn
def xY (ad:Adr):Sp:=fun vs H Q E=>∃ (w:List Nat) (k:Int),vs=[T w,.int k]∧w.length<=100000∧(¬ (1<=k∧k<=6)->E (.ref ad.BadKinds) none H) ∧
 ∀ kn:Nat,k=(kn:Nat)->(1<=kn∧kn<=6)->(vY w kn->Q .non H)∧(¬ vY w kn->E (.ref ad.BadWord) none H)
theorem Kz {f:Addr}{fd:FuncData}(F:Fun K "looked" "looked" tZ f fd)(tt:Txt K mg ad)(C_looked_length:Cal P w K mg base (CX1 P w) "looked_length" 2 ["length", "kinds"] (Py ad))
  (C_letters:Cal P w K mg base (CX1 P w) "letters" 2 ["kinds"] (tH ad)):bN P w K mg base (CX1 P w) 3 f fd ["word", "kinds"] (xY ad):=by
 refine F.okX qS (fun vs H Q E h=>?_) (fun cdv A outer s H vs Q E hr h=>?_)
 ·obtain⟨w,k,rfl,_⟩:=h
  rfl
 ·obtain⟨w,k,rfl,hw,x1,q⟩:=h
  have hs:sizeLine=16777216:=sizeLine_eq;refine⟨_,(aB (eL (aK C_looked_length hr oQ (aA (aO bW (by rfl) tt.b_len a7 (aA (pv 0) aC)) (aA (pv 1) aC))))
   (aB (aI (i:=2) qS.nd rfl (Or.inl rfl) (aK C_letters hr oQ (aA (pv 1) aC)))
   (aE (cN PassesOwn.leaving rfl (Og (pv 0)) (bD (i:=3) qS.nd rfl (Or.inl rfl)) (aE (bR (aU Cu (pv 3) (pv 2) (by with_unfolding_all rfl)) (aE (cI (E:=fun cls H'=>E cls none H') tt.x_BadWord rfl (fun _ _ _ _ _ _ _ I hx q=>eJ I hx q) (aA (bX [97,32,119,111,114,100,32,104,97,115,32,108,101,116,116,101,114,115,32,111,102,32,105,116,115,32,107,105,110,100,115,32,97,108,111,110,101] (by decide +kernel)) aC))) aW)))))),?_⟩
  (try rw[bV]);(try rw[cxK1])
  refine⟨_,rfl,_,rfl,(by omega),_,rfl,_,k,rfl,fun hk hn=>?_,x1,fun hk hn=>?_⟩
  rotate_left
  ·obtain⟨kn,rfl⟩:∃ kn:Nat,k=(kn:Nat):=⟨k.toNat,by omega⟩
   exact (q kn rfl ⟨by omega,by omega⟩).2 fun z=>hn ⟨by have:=z.1;omega,by have:=z.1;omega⟩
  obtain⟨kn,rfl⟩:∃ kn:Nat,k=(kn:Nat):=⟨k.toNat,by omega⟩;obtain⟨q1,q2⟩:=q kn rfl ⟨by omega,by omega⟩;refine⟨_,rfl,_,rfl,fun kn' ek hk'=>?_,fun z=>absurd hk z⟩;obtain rfl:kn=kn':=by omega
  refine⟨_,rfl,_,rfl,?_⟩;refine Ca (l:=w) (fun i σ H2=>H=H2∧(∀ c∈w.take i,97<=c∧c<97+kn)∧∃ v,σ=[some (T w),some (.int (kn:Nat)),some (T (([97,98,99,100,101,102]:List Nat).take kn)),v]) ⟨rfl,fun c hc=>(by simp at hc),none,rfl⟩ ?_ ?_
  ·rintro i c σ H2 hi ⟨rfl,hall,v,rfl⟩
   refine⟨_,rfl,_,rfl,_,rfl,_,rfl,_,rfl,?_⟩;refine kF (fun h0=>?_) (fun h0=>?_)
   ·have h1:¬ c∈([97,98,99,100,101,102]:List Nat).take kn:=fun z=>by
     rw[decide_eq_true z] at h0;cases h0
    refine⟨(by show 1<=sizeLine;omega),q2 fun z=>h1 ?_⟩;exact (Hz (by omega)).mpr (z.2 c (aq hi))
   ·have h1:c∈([97,98,99,100,101,102]:List Nat).take kn:=by
     apply bc;intro z;rw[decide_eq_false z] at h0;exact h0 rfl
    refine⟨rfl,fun d hd=>?_,_,rfl⟩;have hil:=(al.mp hi).1;rw[cx,hi] at hd;rcases bt.mp hd with z | z
    ·exact hall d z
    ·have:d=c:=by simpa using z
     subst this;exact (Hz (by omega)).mp h1
  ·rintro σ H2 ⟨rfl,hall,v,rfl⟩
   rw[c8] at hall;exact q1 ⟨⟨by omega,by omega⟩,hall⟩
def Qi:Sp:=fun vs H Q _=>∃ (t:List Nat) (n:Nat),vs=[T t,.int (n:Nat)]∧(t.length<=5000∧1<=n∧n<=5000)∧∀ D H',H D=none->aL H H'->H' D=some (.lst ((Wd.bJ t n).map T))->Q (.ref D) H'
theorem uL {f:Addr}{fd:FuncData}(F:Fun K "row_windows" "row_windows" gT f fd)(tt:Txt K mg ad):bN P w K mg base (CX1 P w) 1 f fd ["text", "length"] Qi:=by
 refine F.okN uX (fun vs H Q E h=>?_) (fun cdv A outer s H vs Q E hr h=>?_)
 ·obtain⟨t,n,rfl,_⟩:=h
  rfl
 ·obtain⟨t,n,rfl,hn,q⟩:=h
  have hs:sizeLine=16777216:=sizeLine_eq;refine⟨_,(aE (aS (fB qP rfl (fA (by rfl) tt.b_range (aA (aQ eC (aQ fW (aO bW (by rfl) tt.b_len a7 (aA (pv 0) aC)) (pv 1)) aH) aC)) (fun cl C s' H' fp=>(bU wC (pv 1) (cC (pv 0)) (cC (aQ eC (pv 0) (pv 2)))))))),?_⟩
  (try rw[bV]);(try rw[cxK1])
  refine⟨_,rfl,_,rfl,(by omega),_,rfl,_,_,rfl,rfl,_,_,rfl,rfl,_,rfl,by omega,by omega,?_⟩;have en:(((t.length:Nat):Int)-((n:Nat):Int)+1).toNat=t.length+1-n:=by omega
  rw[en];refine vQ (lo:=0) (n:=t.length+1-n) (fun i=>T (Wd.bA t n i)) (by omega) (fun i H4 hi s4 N hN=>?_) fun D H4 hD s4 hd4=>?_
  ·refine⟨_,rfl,_,rfl,_,rfl,_,rfl,_,rfl,_,_,rfl,rfl,_,rfl,_,rfl,by omega,?_⟩
   have e:iG t (some (0+(i:Int))) (some (0+(i:Int)+((n:Nat):Int)))=Wd.bA t n i:=by
    rw[gx,<- jv,Ch (by omega) (by omega),Nat.add_sub_cancel_left];exact Wd.qI (by omega)
   rw[e];exact hN H4 (aL.refl _)
  ·exact q D H4 hD s4 (by rw[hd4,Wd.bJ,bx];rfl)
def Iv:Sp:=fun vs H Q _=>∃ (t:List Nat) (n:Nat),vs=[T t,.int (n:Nat)]∧(t.length<=5000∧1<=n∧n<=5000)∧∀ D H',H D=none->aL H H'->H' D=some (.lst ((Wd.cJ t n).map T))->Q (.ref D) H'
theorem sE {f:Addr}{fd:FuncData}(F:Fun K "ring_windows" "ring_windows" fY f fd)(tt:Txt K mg ad):bN P w K mg base (CX1 P w) 1 f fd ["text", "length"] Iv:=by
 refine F.okN hJ (fun vs H Q E h=>?_) (fun cdv A outer s H vs Q E hr h=>?_)
 ·obtain⟨t,n,rfl,_⟩:=h
  rfl
 ·obtain⟨t,n,rfl,hn,q⟩:=h
  have hs:sizeLine=16777216:=sizeLine_eq;refine⟨_,(aB (bR (aU sO (pv 0) (bX [] (by decide +kernel)) (aY _)) (aE (aS (dF aC))) aW)
   (aB (aI (i:=2) hJ.nd rfl (Or.inl rfl) (aO bW (by rfl) tt.b_len a7 (aA (pv 0) aC)))
   (aB (aI (i:=3) hJ.nd rfl (Or.inr rfl) (aQ Pm (pv 0) (aQ eC (aQ gS (pv 1) (pv 2)) aH)))
   (aE (aS (fB oO rfl (fA (by rfl) tt.b_range (aA (pv 2) aC)) (fun cl C s' H' fp=>(bU wC (pv 4) (cC (pv 0)) (cC (aQ eC (pv 0) (pv 2))))))))))),?_⟩
  (try rw[bV]);(try rw[cxK1])
  refine⟨_,rfl,_,rfl,_,rfl,_,rfl,?_⟩;refine kF (fun h0=>?_) (fun h0=>?_)
  ·have e:t=[]:=of_decide_eq_true h0
   subst e;exact⟨(by show 0<=sizeLine;omega),fun D hD=>q D _ hD (fun b o e=>by rw[aG (aJ e hD)];exact e) aD⟩
  ·have hne:t≠[]:=fun z=>h0 (decide_eq_true z)
   have hp:0<t.length:=cq.mpr hne;have hdv:((n:Nat):Int)/((t.length:Nat):Int)+2=((n/t.length+2:Nat):Int):=by rw[<- Int.natCast_ediv];rfl
   have hdm:n/t.length*t.length+n % t.length=n:=by rw[de];exact jw n t.length
   have hml:=jc n hp;have hdl:n/t.length<=n:=ox _ _;have hcl:(n/t.length+2)*t.length=n/t.length*t.length+2*t.length:=by rw[ia]
   refine⟨_,rfl,_,rfl,(by omega),?_⟩;refine⟨_,rfl,_,rfl,_,rfl,_,_,rfl,rfl,⟨by omega,by omega⟩,_,_,rfl,rfl,_,rfl,n/t.length+2,congrArg V.int hdv,⟨by omega,by omega⟩,?_⟩;refine⟨_,rfl,_,rfl,by omega,by omega,?_⟩;rw[bv];refine vQ (lo:=0) (n:=t.length) (fun i=>T (Wd.bA t n i)) (by omega) (fun i H4 hi s4 N hN=>?_) fun D H4 hD s4 hd4=>?_
   ·refine⟨_,rfl,_,rfl,_,rfl,_,rfl,_,rfl,_,_,rfl,rfl,_,rfl,_,rfl,(by rw[Wd.nY];omega),?_⟩
    have e:iG (Wd.rep (n/t.length+2) t) (some (0+(i:Int))) (some (0+(i:Int)+((n:Nat):Int)))=Wd.bA t n i:=by
     rw[show 0+(i:Int)+((n:Nat):Int)=((i+n:Nat):Int) by omega,gx,Ch (by rw[Wd.nY];omega) (by omega),show i+n-i=n by omega];exact Wd.Qq (by omega) hp
    rw[e];exact hN H4 (aL.refl _)
   ·exact q D H4 hD s4 (by rw[hd4,Wd.cJ,bx];rfl)
def Bu:Sp:=fun vs H Q _=>∃ (t:List Nat) (n:Nat) (b:Bool),vs=[T t,.int (n:Nat),.bl b]∧(t.length<=5000∧1<=n∧n<=5000)∧∀ D H',H D=none->aL H H'->H' D=some (.lst ((Wd.win t n b).map T))->Q (.ref D) H'
theorem Eu {f:Addr}{fd:FuncData}(F:Fun K "windows" "windows" qJ f fd)(tt:Txt K mg ad)(C_row_windows:Cal P w K mg base (CX1 P w) "row_windows" 1 ["text", "length"] Qi)(C_ring_windows:Cal P w K mg base (CX1 P w) "ring_windows" 1 ["text", "length"] Iv) :
  bN P w K mg base (CX1 P w) 2 f fd ["text", "length", "ring"] Bu:=by
 refine F.okN Gf (fun vs H Q E h=>?_) (fun cdv A outer s H vs Q E hr h=>?_)
 ·obtain⟨t,n,b,rfl,_⟩:=h
  rfl
 ·obtain⟨t,n,b,rfl,hn,q⟩:=h
  refine⟨_,(aB (bR (qH (pv 2)) (aE (aS (aK C_ring_windows hr aN (aA (pv 0) (aA (pv 1) aC))))) aW)
   (aE (aS (aK C_row_windows hr aN (aA (pv 0) (aA (pv 1) aC)))))),?_⟩
  (try rw[bV]);(try rw[cxK1])
  refine⟨_,rfl,_,rfl,?_⟩;refine kF (fun h0=>?_) (fun h0=>?_)
  ·rw[Wd.win,if_pos h0] at q
   exact⟨_,rfl,_,rfl,t,n,rfl,hn,q⟩
  ·rw[Wd.win,if_neg h0] at q
   exact⟨_,rfl,_,rfl,t,n,rfl,hn,q⟩
def Oq (k:Nat)(ls:List (List Nat)):Prop:=∃ ps:List (List Nat),ps.length<=k∧∀ w∈ls,w.take (w.length-1)∈ps∧w.drop 1∈ps
def Few (ls:List (List Nat)):Prop:=Oq 61 ls
theorem Oq.len {k:Nat}{ls:List (List Nat)}(h:2*ls.length<=k):Oq k ls:=⟨ls.map (fun w=>w.take (w.length-1))++ls.map (fun w=>w.drop 1),by rw[ai,aR,aR];omega,fun w hw=>⟨bt.mpr (.inl (a5.mpr ⟨w,hw,rfl⟩)),bt.mpr (.inr (a5.mpr ⟨w,hw,rfl⟩))⟩⟩
theorem Dh {ls:List (List Nat)}(h:ls.Nodup):(uniq ls).length=ls.length:=((d9 (tY ls) h).mpr fun x=>iS ls x).length_eq
theorem Va {H:Hp}{p x C dx:Addr}{fs:List (Str×V)}{xs:List V}{o:HO}(h:SqL K H p xs)(hx:H x=some (.ins C dx fs)):SqL K (upd H x o) p xs:=by
 rcases h with (h | ⟨q,h⟩) | h
 ·exact .inl (.inl (by rw[aG (fun z=>by subst z;rw[hx] at h;cases h)];exact h))
 ·exact .inl (.inr ⟨q,by rw[aG (fun z=>by subst z;rw[hx] at h;cases h)];exact h⟩)
 ·exact .inr h
theorem Vd {H:Hp}{p x C dx:Addr}{fs:List (Str×V)}{xs:List V}{o:HO}(h:SqT K H p xs)(hx:H x=some (.ins C dx fs)):SqT K (upd H x o) p xs:=by
 rcases h with (h | ⟨q,h⟩) | h
 ·exact .inl (.inl (by rw[aG (fun z=>by subst z;rw[hx] at h;cases h)];exact h))
 ·exact .inl (.inr ⟨q,by rw[aG (fun z=>by subst z;rw[hx] at h;cases h)];exact h⟩)
 ·exact .inr h
def Sq (K:af)(H:Hp)(p:Addr)(xs:List V):Prop:=SqL K H p xs∨SqT K H p xs
def jS (ls:List (List Nat))(n:Nat):Prop:=ls≠[]∧ls.length<=60∧((1<=n∧n<=8)∧Few ls)∧(∀ x∈ls,x.length=n∧∀ c∈x,97<=c∧c<103)∧ls.Nodup
def Ot (K:af):Sp:=fun vs H Q _=>∃ (p:Addr) (ls:List (List Nat)) (n:Nat),vs=[.ref p]∧Sq K H p (ls.map T)∧jS ls n∧∀ H',aL H H'->Q .non H'
theorem wG {f:Addr}{fd:FuncData}(F:Fun K "looked_web" "looked_web" kP f fd)(tt:Txt K mg ad)(C_looked:Cal P w K mg base (CX1 P w) "looked" 3 ["word", "kinds"] (xY ad)) :
  bN P w K mg base (CX1 P w) 4 f fd ["words"] (Ot K):=by
 refine F.okX jK (fun vs H Q E h=>?_) (fun cdv A outer s H vs Q E hr h=>?_)
 ·obtain⟨p,ls,n,rfl,_⟩:=h
  rfl
 ·obtain⟨p,ls,n,rfl,hS,⟨hne,h64,hn,hx,hnd⟩,q⟩:=h
  have hs:sizeLine=16777216:=sizeLine_eq;have hl0:0<ls.length:=cq.mpr hne;obtain⟨x0,hx0⟩:∃ x0,ls[0]?=some x0:=⟨_,ac hl0⟩;have hx0l:=(hx x0 (aq hx0)).1;rcases hS with hS | hS
  ·refine⟨_,(aB (bR (aU oJ (aO aX (by rfl) tt.b_len a7 (aA (pv 0) aC)) (eK (by rfl) tt.g_MOST_OF_A_WEB tt.r_MOST_OF_A_WEB) (aY _)) (aE (cI (E:=fun cls H'=>E cls none H') tt.x_TooMany rfl (fun _ _ _ _ _ _ _ I hx q=>eJ I hx q) (aA (bX [97,32,119,101,98,32,104,97,115,32,97,116,32,109,111,115,116,32,54,52,32,119,111,114,100,115] (by decide +kernel)) aC))) aW)
   (aB (bR (aU iD (aO aX (by rfl) tt.b_len a7 (aA (pv 0) aC)) aH (aY _)) (aE (cI (E:=fun cls H'=>E cls none H') tt.x_BadWord rfl (fun _ _ _ _ _ _ _ I hx q=>eJ I hx q) (aA (bX [97,32,119,101,98,32,104,97,115,32,97,116,32,108,101,97,115,116,32,111,110,101,32,119,111,114,100] (by decide +kernel)) aC))) aW)
   (aB (cN PassesOwn.leaving rfl (cG (pv 0)) (bD (i:=1) jK.nd rfl (Or.inl rfl)) (aB (eL (aK C_looked hr oQ (aA (pv 1) (aA (aO bW (by rfl) tt.b_len a7 (aA (eK (by rfl) tt.g_LETTERS tt.r_LETTERS) aC)) aC))))
   (aB (bR (aU oJ (aO bW (by rfl) tt.b_len a7 (aA (pv 1) aC)) (eK (by rfl) tt.g_LONGEST_OF_A_WEB tt.r_LONGEST_OF_A_WEB) (aY _)) (aE (cI (E:=fun cls H'=>E cls none H') tt.x_BadWord rfl (fun _ _ _ _ _ _ _ I hx q=>eJ I hx q) (aA (bX [97,32,119,111,114,100,32,111,102,32,97,32,119,101,98,32,104,97,115,32,97,116,32,109,111,115,116,32,56,32,108,101,116,116,101,114,115] (by decide +kernel)) aC))) aW)
   (aE (bR (aU iC (aO bW (by rfl) tt.b_len a7 (aA (pv 1) aC)) (aO bW (by rfl) tt.b_len a7 (aA (cK cF (pv 0) aH (fun _ _=>rfl)) aC)) (aY _)) (aE (cI (E:=fun cls H'=>E cls none H') tt.x_BadWord rfl (fun _ _ _ _ _ _ _ I hx q=>eJ I hx q) (aA (bX [116,104,101,32,119,111,114,100,115,32,111,102,32,97,32,119,101,98,32,104,97,118,101,32,111,110,101,32,108,101,110,103,116,104] (by decide +kernel)) aC))) aW)))))
   (aE (bR (aU iC (aO wQ (by rfl) tt.b_len a7 (aA (dH (Lh rfl) (by rfl) tt.b_set (by decide +kernel) (aA (pv 0) aC)) aC)) (aO aX (by rfl) tt.b_len a7 (aA (pv 0) aC)) (aY _)) (aE (cI (E:=fun cls H'=>E cls none H') tt.x_BadWord rfl (fun _ _ _ _ _ _ _ I hx q=>eJ I hx q) (aA (bX [97,32,119,111,114,100,32,115,116,97,110,100,115,32,105,110,32,97,32,119,101,98,32,111,110,99,101] (by decide +kernel)) aC))) aW))))),?_⟩
   (try rw[bV]);(try rw[cxK1])
   refine⟨_,rfl,p,_,rfl,.inl hS,_,_,rfl,rfl,_,rfl,?_⟩;rw[aR];refine kF (fun h0=>absurd (of_decide_eq_true h0) (by omega)) (fun _=>?_);refine⟨_,rfl,p,_,rfl,.inl hS,_,rfl,_,rfl,_,rfl,?_⟩;rw[aR];refine kF (fun h0=>absurd (of_decide_eq_true h0) (by omega)) (fun _=>?_);refine⟨_,rfl,p,rfl,⟨_,hS⟩,?_⟩;refine eE (K:=K) (a:=p) (xs:=ls.map T) (fun i σ H2=>H2=H∧∃ v,σ=[some (.ref p),v]) ⟨rfl,none,rfl⟩ (fun i σ H2 _ h=>by rw[h.1];exact hS) ?_ ?_
   ·rintro i y σ H2 hi ⟨rfl,v,rfl⟩
    obtain⟨x,hxi,rfl⟩:∃ x,ls[i]?=some x∧y=T x:=by
     rw[ag] at hi;obtain⟨x,h1,h2⟩:=bj.mp hi;exact⟨x,h1,h2.symm⟩
    obtain⟨hxl,hxc⟩:=hx x (aq hxi);have hg:∀ kn:Nat,(6:Int)=(kn:Nat)->vY x kn:=fun kn e=>⟨⟨by omega,by omega⟩,fun c hc=>by have:=hxc c hc;omega⟩
    refine⟨_,rfl,_,rfl,(by show 6<=sizeLine;omega),x,6,rfl,(by omega),fun z=>absurd ⟨by decide,by decide⟩ z,fun kn ek hk=>⟨fun _=>?_,fun z=>absurd (hg kn ek) z⟩⟩;refine⟨_,rfl,_,rfl,(by omega),_,_,rfl,rfl,_,rfl,?_⟩;refine kF (fun h0=>absurd (of_decide_eq_true h0) (by omega)) (fun _=>?_);refine⟨_,rfl,_,rfl,(by omega),_,rfl,p,_,_,_,rfl,rfl,hS,bC (j:=0) (by rw[ag,hx0];rfl),_,rfl,(by omega),_,rfl,_,rfl,_,rfl,?_⟩;refine Hk (by rw[hxl,hx0l]) ?_;exact⟨rfl,_,rfl⟩
   ·rintro σ H2 ⟨rfl,v,rfl⟩
    refine⟨_,rfl,p,ls,rfl,hS,(by omega),fun D hD=>?_⟩;have sD:aL H2 (upd H2 D (Cv P w D (uniq ls))):=fun b o e=>by rw[aG (aJ e hD)];exact e
    refine⟨D,_,rfl,aD,_,rfl,p,_,rfl,.inl (sD.seq hS),_,rfl,_,rfl,_,rfl,?_⟩;refine Hk (by rw[aR,Dh hnd]) ?_;exact q _ sD
  ·refine⟨_,(aB (bR (aU oJ (aO aX (by rfl) tt.b_len a7 (aA (pv 0) aC)) (eK (by rfl) tt.g_MOST_OF_A_WEB tt.r_MOST_OF_A_WEB) (aY _)) (aE (cI (E:=fun cls H'=>E cls none H') tt.x_TooMany rfl (fun _ _ _ _ _ _ _ I hx q=>eJ I hx q) (aA (bX [97,32,119,101,98,32,104,97,115,32,97,116,32,109,111,115,116,32,54,52,32,119,111,114,100,115] (by decide +kernel)) aC))) aW)
   (aB (bR (aU iD (aO aX (by rfl) tt.b_len a7 (aA (pv 0) aC)) aH (aY _)) (aE (cI (E:=fun cls H'=>E cls none H') tt.x_BadWord rfl (fun _ _ _ _ _ _ _ I hx q=>eJ I hx q) (aA (bX [97,32,119,101,98,32,104,97,115,32,97,116,32,108,101,97,115,116,32,111,110,101,32,119,111,114,100] (by decide +kernel)) aC))) aW)
   (aB (cN PassesOwn.leaving rfl (mY (pv 0)) (bD (i:=1) jK.nd rfl (Or.inl rfl)) (aB (eL (aK C_looked hr oQ (aA (pv 1) (aA (aO bW (by rfl) tt.b_len a7 (aA (eK (by rfl) tt.g_LETTERS tt.r_LETTERS) aC)) aC))))
   (aB (bR (aU oJ (aO bW (by rfl) tt.b_len a7 (aA (pv 1) aC)) (eK (by rfl) tt.g_LONGEST_OF_A_WEB tt.r_LONGEST_OF_A_WEB) (aY _)) (aE (cI (E:=fun cls H'=>E cls none H') tt.x_BadWord rfl (fun _ _ _ _ _ _ _ I hx q=>eJ I hx q) (aA (bX [97,32,119,111,114,100,32,111,102,32,97,32,119,101,98,32,104,97,115,32,97,116,32,109,111,115,116,32,56,32,108,101,116,116,101,114,115] (by decide +kernel)) aC))) aW)
   (aE (bR (aU iC (aO bW (by rfl) tt.b_len a7 (aA (pv 1) aC)) (aO bW (by rfl) tt.b_len a7 (aA (cK jX (pv 0) aH (fun _ _=>rfl)) aC)) (aY _)) (aE (cI (E:=fun cls H'=>E cls none H') tt.x_BadWord rfl (fun _ _ _ _ _ _ _ I hx q=>eJ I hx q) (aA (bX [116,104,101,32,119,111,114,100,115,32,111,102,32,97,32,119,101,98,32,104,97,118,101,32,111,110,101,32,108,101,110,103,116,104] (by decide +kernel)) aC))) aW)))))
   (aE (bR (aU iC (aO wQ (by rfl) tt.b_len a7 (aA (dH (Fn rfl) (by rfl) tt.b_set (by decide +kernel) (aA (pv 0) aC)) aC)) (aO aX (by rfl) tt.b_len a7 (aA (pv 0) aC)) (aY _)) (aE (cI (E:=fun cls H'=>E cls none H') tt.x_BadWord rfl (fun _ _ _ _ _ _ _ I hx q=>eJ I hx q) (aA (bX [97,32,119,111,114,100,32,115,116,97,110,100,115,32,105,110,32,97,32,119,101,98,32,111,110,99,101] (by decide +kernel)) aC))) aW))))),?_⟩
   (try rw[bV]);(try rw[cxK1])
   refine⟨_,rfl,p,_,rfl,.inr hS,_,_,rfl,rfl,_,rfl,?_⟩;rw[aR];refine kF (fun h0=>absurd (of_decide_eq_true h0) (by omega)) (fun _=>?_);refine⟨_,rfl,p,_,rfl,.inr hS,_,rfl,_,rfl,_,rfl,?_⟩;rw[aR];refine kF (fun h0=>absurd (of_decide_eq_true h0) (by omega)) (fun _=>?_);refine⟨_,rfl,p,rfl,⟨_,hS⟩,?_⟩;refine Hi (K:=K) (a:=p) (xs:=ls.map T) (fun i σ H2=>H2=H∧∃ v,σ=[some (.ref p),v]) ⟨rfl,none,rfl⟩ (fun i σ H2 _ h=>by rw[h.1];exact hS) ?_ ?_
   ·rintro i y σ H2 hi ⟨rfl,v,rfl⟩
    obtain⟨x,hxi,rfl⟩:∃ x,ls[i]?=some x∧y=T x:=by
     rw[ag] at hi;obtain⟨x,h1,h2⟩:=bj.mp hi;exact⟨x,h1,h2.symm⟩
    obtain⟨hxl,hxc⟩:=hx x (aq hxi);have hg:∀ kn:Nat,(6:Int)=(kn:Nat)->vY x kn:=fun kn e=>⟨⟨by omega,by omega⟩,fun c hc=>by have:=hxc c hc;omega⟩
    refine⟨_,rfl,_,rfl,(by show 6<=sizeLine;omega),x,6,rfl,(by omega),fun z=>absurd ⟨by decide,by decide⟩ z,fun kn ek hk=>⟨fun _=>?_,fun z=>absurd (hg kn ek) z⟩⟩;refine⟨_,rfl,_,rfl,(by omega),_,_,rfl,rfl,_,rfl,?_⟩;refine kF (fun h0=>absurd (of_decide_eq_true h0) (by omega)) (fun _=>?_);refine⟨_,rfl,_,rfl,(by omega),_,rfl,p,_,_,_,rfl,rfl,hS,bC (j:=0) (by rw[ag,hx0];rfl),_,rfl,(by omega),_,rfl,_,rfl,_,rfl,?_⟩;refine Hk (by rw[hxl,hx0l]) ?_;exact⟨rfl,_,rfl⟩
   ·rintro σ H2 ⟨rfl,v,rfl⟩
    refine⟨_,rfl,p,ls,rfl,hS,(by omega),fun D hD=>?_⟩;have sD:aL H2 (upd H2 D (Cv P w D (uniq ls))):=fun b o e=>by rw[aG (aJ e hD)];exact e
    refine⟨D,_,rfl,aD,_,rfl,p,_,rfl,.inr (lD sD hS),_,rfl,_,rfl,_,rfl,?_⟩;refine Hk (by rw[aR,Dh hnd]) ?_;exact q _ sD
def yT (tp:Addr)(n:Int):List (Str×V):=eF "length" (.int n) (eF "words" (.ref tp) [])
theorem dG (tp:Addr)(n:Int):(yT tp n).lookup ("words" : Str)=some (.ref tp):=by
 unfold yT;rw[cY,if_neg (by decide +kernel),cY,if_pos rfl]
theorem uP (tp:Addr)(n:Int):(yT tp n).lookup ("length" : Str)=some (.int n):=by
 unfold yT;rw[cY,if_pos rfl]
def zJ (K:af)(C:Addr):Sp:=fun vs H Q _=>∃ (x dx p:Addr) (ls:List (List Nat)) (n:Nat),vs=[.ref x,.ref p]∧H x=some (.ins C dx [])∧Sq K H p (ls.map T)∧jS ls n ∧
 ∀ (tp:Addr) (ms:List (List Nat)) (H':Hp),ms.Perm ls->ms.Pairwise (fun a b=>¬ b<a)->(∀ b o,H b=some o->b≠x->H' b=some o)->H' x=some (.ins C dx (yT tp (n:Nat)))->H' tp=some (.tup (ms.map T))->Q .non H'
theorem Cj {f:Addr}{fd:FuncData}(F:Fun K "__init__" "Web.__init__" gL f fd)(tt:Txt K mg ad)(C_looked_web:Cal P w K mg base (CX1 P w) "looked_web" 4 ["words"] (Ot K)) :
  bN P w K mg base (CX1 P w) 5 f fd ["self", "words"] (zJ K ad.Web):=by
 refine F.okX Dv (fun vs H Q E h=>?_) (fun cdv A outer s H vs Q E hr h=>?_)
 ·obtain⟨x,dx,p,ls,n,rfl,_⟩:=h
  rfl
 ·obtain⟨x,dx,p,ls,n,rfl,hx,hS,hok,q⟩:=h
  have hs:sizeLine=16777216:=sizeLine_eq;obtain⟨hne,h64,hn,hxs,hnd⟩:=id hok;have hl0:0<ls.length:=cq.mpr hne;obtain⟨x0,hx0⟩:∃ x0,ls[0]?=some x0:=⟨_,ac hl0⟩;have hx0l:=(hxs x0 (aq hx0)).1;rcases hS with hS | hS
  ·refine⟨_,(aB (eL (aK C_looked_web hr oQ (aA (pv 1) aC)))
   (aB (kX (pv 0) (dH jJ (by rfl) tt.b_tuple (by decide +kernel) (aA (aO gB (by rfl) tt.b_sorted dw (aA (pv 1) aC)) aC)) rfl)
   (aE (kX (pv 0) (aO bW (by rfl) tt.b_len a7 (aA (cK cF (pv 1) aH (fun _ _=>rfl)) aC)) rfl)))),?_⟩
   (try rw[bV]);(try rw[cxK1])
   refine⟨_,rfl,p,ls,n,rfl,.inl hS,hok,fun H1 s1=>?_⟩;refine⟨_,rfl,p,ls,rfl,s1.seq hS,(by omega),fun ms D hD hperm hpw=>?_⟩;have s2:aL H1 (upd H1 D (.lst (ms.map T))):=fun b o e=>by rw[aG (aJ e hD)];exact e
   refine⟨D,_,rfl,.inl ⟨SqL.of aD,fun tp htp=>?_⟩⟩;have s3:aL (upd H1 D (.lst (ms.map T))) (upd (upd H1 D (.lst (ms.map T))) tp (.tup (ms.map T))):=fun b o e=>by rw[aG (aJ e htp)];exact e
   generalize hH3:upd (upd H1 D (.lst (ms.map T))) tp (.tup (ms.map T))=H3 at s3;have htp3:H3 tp=some (.tup (ms.map T)):=by rw[<- hH3];exact aD
   have s13:aL H H3:=s1.trans (s2.trans s3);have hx3:=s13 x _ hx;have hxt:tp≠x:=fun z=>by subst z;rw[htp3] at hx3;cases hx3
   refine⟨_,rfl,x,ad.Web,dx,[],rfl,hx3,tt.cl_Web,tt.na_Web_words,(by show 0<1000;decide),?_⟩;have hS4:SqL K (upd H3 x (.ins ad.Web dx (eF "words" (.ref tp) []))) p (ls.map T):=Va (s13.seq hS) hx3
   refine⟨_,rfl,p,_,_,_,rfl,rfl,hS4,bC (j:=0) (by rw[ag,hx0];rfl),_,rfl,(by omega),_,rfl,x,ad.Web,dx,_,rfl,aD,tt.cl_Web,tt.na_Web_length,(by show 1<1000;decide),?_⟩;refine q tp ms _ hperm hpw (fun b o e hb=>?_) ?_ ?_
   ·rw[aG hb,aG hb]
    exact s13 b o e
   ·rw[aD,hx0l]
    rfl
   ·rw[aG hxt,aG hxt]
    exact htp3
  ·refine⟨_,(aB (eL (aK C_looked_web hr oQ (aA (pv 1) aC)))
   (aB (kX (pv 0) (dH jJ (by rfl) tt.b_tuple (by decide +kernel) (aA (aO vA (by rfl) tt.b_sorted dw (aA (pv 1) aC)) aC)) rfl)
   (aE (kX (pv 0) (aO bW (by rfl) tt.b_len a7 (aA (cK jX (pv 1) aH (fun _ _=>rfl)) aC)) rfl)))),?_⟩
   (try rw[bV]);(try rw[cxK1])
   refine⟨_,rfl,p,ls,n,rfl,.inr hS,hok,fun H1 s1=>?_⟩;refine⟨_,rfl,p,ls,rfl,lD s1 hS,(by omega),fun ms D hD hperm hpw=>?_⟩;have s2:aL H1 (upd H1 D (.lst (ms.map T))):=fun b o e=>by rw[aG (aJ e hD)];exact e
   refine⟨D,_,rfl,.inl ⟨SqL.of aD,fun tp htp=>?_⟩⟩;have s3:aL (upd H1 D (.lst (ms.map T))) (upd (upd H1 D (.lst (ms.map T))) tp (.tup (ms.map T))):=fun b o e=>by rw[aG (aJ e htp)];exact e
   generalize hH3:upd (upd H1 D (.lst (ms.map T))) tp (.tup (ms.map T))=H3 at s3;have htp3:H3 tp=some (.tup (ms.map T)):=by rw[<- hH3];exact aD
   have s13:aL H H3:=s1.trans (s2.trans s3);have hx3:=s13 x _ hx;have hxt:tp≠x:=fun z=>by subst z;rw[htp3] at hx3;cases hx3
   refine⟨_,rfl,x,ad.Web,dx,[],rfl,hx3,tt.cl_Web,tt.na_Web_words,(by show 0<1000;decide),?_⟩;have hS4:SqT K (upd H3 x (.ins ad.Web dx (eF "words" (.ref tp) []))) p (ls.map T):=Vd (lD s13 hS) hx3
   refine⟨_,rfl,p,_,_,_,rfl,rfl,hS4,bC (j:=0) (by rw[ag,hx0];rfl),_,rfl,(by omega),_,rfl,x,ad.Web,dx,_,rfl,aD,tt.cl_Web,tt.na_Web_length,(by show 1<1000;decide),?_⟩;refine q tp ms _ hperm hpw (fun b o e hb=>?_) ?_ ?_
   ·rw[aG hb,aG hb]
    exact s13 b o e
   ·rw[aD,hx0l]
    rfl
   ·rw[aG hxt,aG hxt]
    exact htp3
def gX (C:Addr)(H:Hp)(x tp:Addr)(n:Nat)(ms:List (List Nat)):Prop:=(∃ dx,H x=some (.ins C dx (yT tp (n:Nat))))∧H tp=some (.tup (ms.map T))
theorem gX.on {C:Addr}{H H':Hp}{x tp:Addr}{n:Nat}{ms:List (List Nat)}(h:gX C H x tp n ms)(s:aL H H'):gX C H' x tp n ms:=let ⟨⟨dx,e⟩,t⟩:=h;⟨⟨dx,s _ _ e⟩,s _ _ t⟩
def eU:Sp:=fun vs H Q _=>∃ t:List Nat,vs=[T t]∧(1<=t.length∧t.length<=1000)∧Q (T (t.take (t.length-1))) H
theorem wW {t:List Nat}(h:1<=t.length):iG t none (some (-1))=t.take (t.length-1):=by
 unfold iG;rw[HT.gU,gi,k9];show t.take (if (-1:Int)<0 then ((-1:Int)+(t.length:Int)).toNat else min (-1:Int).toNat t.length)=_;rw[if_pos (by decide),show ((-1:Int)+(t.length:Int)).toNat=t.length-1 by omega]
theorem Dm {f:Addr}{fd:FuncData}(F:Fun K "begin_of" "begin_of" mX f fd)(tt:Txt K mg ad):bN P w K mg base (CX1 P w) 1 f fd ["word"] eU:=by
 refine F.okN Az (fun vs H Q E h=>?_) (fun cdv A outer s H vs Q E hr h=>?_)
 ·obtain⟨t,rfl,_⟩:=h
  rfl
 ·obtain⟨t,rfl,hl,q⟩:=h
  have hs:sizeLine=16777216:=sizeLine_eq;refine⟨_,(aE (aS (bU wC (pv 0) cW (cC (rC lL aH))))),?_⟩
  (try rw[bV]);(try rw[cxK1])
  refine⟨_,rfl,_,rfl,_,rfl,_,rfl,(by omega),?_⟩;rw[show -(1:Int) = -1 from rfl,wW hl.1];exact q
def kQ:Sp:=fun vs H Q _=>∃ t:List Nat,vs=[T t]∧(1<=t.length∧t.length<=1000)∧Q (T (t.drop 1)) H
theorem Li {f:Addr}{fd:FuncData}(F:Fun K "end_of" "end_of" vO f fd)(tt:Txt K mg ad):bN P w K mg base (CX1 P w) 1 f fd ["word"] kQ:=by
 refine F.okN Kd (fun vs H Q E h=>?_) (fun cdv A outer s H vs Q E hr h=>?_)
 ·obtain⟨t,rfl,_⟩:=h
  rfl
 ·obtain⟨t,rfl,hl,q⟩:=h
  have hs:sizeLine=16777216:=sizeLine_eq;refine⟨_,(aE (aS (bU wC (pv 0) (cC aH) cW))),?_⟩
  (try rw[bV]);(try rw[cxK1])
  refine⟨_,rfl,_,rfl,_,rfl,(by omega),?_⟩;have e:iG t (some 1) none=t.drop 1:=yC (k:=1) hl.1;rw[e];exact q
theorem aM {H:Hp}{D:Addr}{o:HO}(h:H D=none):aL H (upd H D o):=fun b u e=>by rw[aG (aJ e h)];exact e
theorem Wt {H G:Hp}{D:Addr}{o:HO}(s:aL H (upd G D o)):∃ H',H'=upd G D o∧aL H H'∧H' D=some o:=⟨_,rfl,s,aD⟩
theorem Sq.on {K:af}{H H':Hp}{p:Addr}{xs:List V}(h:Sq K H p xs)(s:aL H H'):Sq K H' p xs:=h.elim (fun z=>.inl (s.seq z)) fun z=>.inr (lD s z)
def beg (l:List Nat):List Nat:=l.take (l.length-1)
theorem rJ {t:List Nat}:∀ {ls:List (List Nat)},inV (T t) (ls.map T)=decide (t∈ls)
 | []=>by simp[inV]
 | l::ls=>by
  have ih:=@rJ t ls;have e:inV (T t) ((l::ls).map T)=(eqV (T l) (T t)||inV (T t) (ls.map T)):=rfl;have e2:eqV (T l) (T t)=decide (t=l):=by
   show (tx l==tx t)=decide (t=l);rw[da,beq_iff_eq,decide_eq_true_iff];exact⟨fun h=>(hZ h).symm,fun h=>by rw[h]⟩
  rw[e,ih,e2,da,jx,decide_eq_true_iff,decide_eq_true_iff,decide_eq_true_iff,aw]
theorem Bd (ls:List (List Nat)):(ls.map T).map (fun v=>v)=ls.map T:=ky _
theorem itP {c A B:Prop}[Decidable c](hc:c)(h:A):if c then A else B:=by rw[if_pos hc];exact h
theorem itN {c A B:Prop}[Decidable c](hc:¬ c)(h:B):if c then A else B:=by rw[if_neg hc];exact h
theorem tM {xs:List V}{k:Nat}(h:k<=xs.length):iN xs (some (k:Int)) none=xs.drop k:=by
 unfold iN;rw[HT.gU,show HT.sIx xs.length 0 (some (k:Int))=min k xs.length from HT.fH _ _ k,et h,cp (by rw[bf];exact ah _)]
theorem Vf {xs:List V}{k:Nat}(h:k<=xs.length):iN xs none (some (k:Int))=xs.take k:=by
 unfold iN;rw[HT.gU,gi,k9,HT.fH,et h]
theorem fN {i:Int}{n:Nat}(h:i.natAbs<=n)(hn:n<2 ^ 8000):Bg i:=gk h hn
theorem kL {n k:Nat}(h:n<2 ^ k)(hk:k<=8000):n<2 ^ 8000:=b7 h (dm (by decide) hk)
theorem lX {ns:List Int}{j:Nat}(h:j<ns.length):(ns.map V.int)[j]?=some (.int (ns.getD j 0)):=by
 rw[ag,ak,ac h];rfl
def Ge:Sp:=fun vs H Q _=>∃ (num:Int) (pr:Nat),vs=[.int num,.int (pr:Nat)]∧Dt.eB pr∧pr<2 ^ 1000∧num % (pr:Int)≠0∧∀ inv:Int,Dt.Cg pr (inv*num) 1->0<=inv∧inv<pr->Q (.int inv) H
theorem Fq {f:Addr}{fd:FuncData}(F:Fun K "inverse" "inverse" qT f fd)(tt:Txt K mg ad):bN P w K mg base (CX1 P w) 1 f fd ["number", "prime"] Ge:=by
 refine F.okN cU (fun vs H Q E h=>?_) (fun cdv A outer s H vs Q E hr h=>?_)
 ·obtain⟨num,pr,rfl,_⟩:=h
  rfl
 ·obtain⟨num,pr,rfl,hp,hpl,h0,q⟩:=h
  have hp1:=hp.1;have hpos:(0:Int)<(pr:Int):=by omega
  have h8:=kL hpl (by decide);obtain⟨r,hr'⟩:∃ r:Nat,num % (pr:Int)=r:=⟨(num % pr).toNat,by have:=d0 num (show (pr:Int)≠0 by omega);omega⟩;have hrl:r<pr:=by have:=dk num hpos;omega
  refine⟨_,(aB (aI (i:=2) cU.nd rfl (Or.inl rfl) (pv 1))
   (aB (aI (i:=3) cU.nd rfl (Or.inl rfl) (aQ dD (pv 0) (pv 1)))
   (aB (aI (i:=4) cU.nd rfl (Or.inl rfl) aH)
   (aB (aI (i:=5) cU.nd rfl (Or.inl rfl) aH)
   (aB (iM PassesOwn.never (aU iC (pv 3) aH (aY _)) (aB (aI (i:=6) cU.nd rfl (Or.inl rfl) (aQ Lw (pv 2) (pv 3)))
   (aB (aI (i:=7) cU.nd rfl (Or.inl rfl) (aQ fW (pv 2) (aQ eT (pv 6) (pv 3))))
   (aB (aI (i:=2) cU.nd rfl (Or.inl rfl) (pv 3))
   (aB (aI (i:=3) cU.nd rfl (Or.inl rfl) (pv 7))
   (aB (aI (i:=8) cU.nd rfl (Or.inl rfl) (aQ fW (pv 4) (aQ eT (pv 6) (pv 5))))
   (aB (aI (i:=4) cU.nd rfl (Or.inl rfl) (pv 5))
   (aE (aI (i:=5) cU.nd rfl (Or.inl rfl) (pv 8))))))))))
   (aE (aS (aQ dD (pv 5) (pv 1))))))))),?_⟩
  (try rw[bV]);(try rw[cxK1])
  refine⟨_,rfl,?_⟩;refine⟨_,rfl,_,rfl,_,_,rfl,rfl,hpos,?_⟩;refine⟨fun m σ H2=>H2=H∧∃ (last rest:Nat) (lt t:Int) (v6 v7 v8:Option V),m=rest∧Dt.Euc pr num last rest lt t∧(last<=pr∧rest<=pr)∧σ=[some (.int num),some (.int (pr:Nat)),some (.int (last:Nat)),some (.int (rest:Nat)),some (.int lt),some (.int t),v6,v7,v8],
   ⟨_,rfl,pr,r,0,1,none,none,none,rfl,Dt.Euc.init hp hr' (by omega),⟨ah _,by omega⟩,by rw[<- hr'];rfl⟩,?_⟩
  rintro m σ H2 ⟨rfl,last,rest,lt,t,v6,v7,v8,rfl,he,⟨hl,hrp⟩,rfl⟩;have hpo:=he.pos;obtain⟨ht,hlt⟩:=he.tle;refine⟨_,rfl,_,rfl,_,rfl,_,rfl,?_⟩;by_cases h1:m=1
  ·refine itN (by rw[decide_eq_true (by omega)];exact aj) ?_
   exact⟨_,rfl,_,rfl,_,_,rfl,rfl,hpos,q _ (he.fin h1) ⟨d0 _ (by omega),dk _ hpos⟩⟩
  ·refine itP (by rw[decide_eq_false (by omega)];rfl) ?_
   refine⟨_,fun σ' H' z=>z,?_⟩;have hq1:=ox last m;have bm:Bg ((m:Nat):Int):=fN (n:=pr) (by rw[fj];exact hrp) h8;have bq:Bg ((last/m:Nat):Int):=fN (n:=pr) (by rw[fj];omega) h8;refine⟨_,rfl,_,rfl,_,_,rfl,rfl,⟨by show (0:Int)<(m:Int);omega,bm⟩,?_⟩;refine⟨_,rfl,_,rfl,_,rfl,_,_,rfl,rfl,⟨bq,bm⟩,_,_,rfl,rfl,?_⟩;have e1:((last:Nat):Int)-((last/m:Nat):Int)*((m:Nat):Int)=((last % m:Nat):Int):=by
    have h:=congrArg (fun n:Nat=>(n:Int)) (jw last m);simp only [jv,fk] at h;rw[g7] at h;omega
   refine⟨_,rfl,?_⟩;refine⟨_,rfl,?_⟩;refine⟨_,rfl,_,rfl,_,rfl,_,_,rfl,rfl,⟨bq,fN ht h8⟩,_,_,rfl,rfl,?_⟩;refine⟨_,rfl,?_⟩;refine⟨_,rfl,?_⟩;have hml:=jc last (show m>0 by omega);exact⟨last % m,hml,rfl,m,last % m,t,_,_,_,_,rfl,he.step h1,⟨hrp,by omega⟩,by rw[<- e1];rfl⟩
def low (back:Int)(pr:Nat)(top row:List Int):List Int:=ol (fun x y=>x-row.getD 0 0*back % (pr:Int)*y) (row.drop 1) (top.drop 1)
structure By (back:Int)(pr n:Nat)(top row:List Int):Prop where
 l1:row.length=n+1
 l2:top.length=n+1
 sz:n<=1000
 pos:0<pr
 ps:pr<2 ^ 1000
 b0:Bg (row.getD 0 0)
 bk:back.natAbs<=pr
 tp:∀ y∈top,y.natAbs<=pr
def Tt (K:af):Sp:=fun vs H Q _=>∃ (a b:Addr) (back:Int) (pr n:Nat) (row top:List Int),vs=[.ref a,.ref b,.int back,.int (pr:Nat)]∧SqL K H a (row.map V.int)∧SqL K H b (top.map V.int)∧By back pr n top row∧∀ D H',H D=none->aL H H'->H' D=some (.lst ((low back pr top row).map V.int))->Q (.ref D) H'
theorem Fu {f:Addr}{fd:FuncData}(F:Fun K "lowered" "lowered" mD f fd)(tt:Txt K mg ad):bN P w K mg base (CX1 P w) 1 f fd ["row", "top", "back", "prime"] (Tt K):=by
 refine F.okN uZ (fun vs H Q E h=>?_) (fun cdv A outer s H vs Q E hr h=>?_)
 ·obtain⟨a,b,back,pr,n,row,top,rfl,_⟩:=h
  rfl
 ·obtain⟨a,b,back,pr,n,row,top,rfl,hA,hB,ok,q⟩:=h
  have hs:sizeLine=16777216:=sizeLine_eq;obtain⟨l1,l2,sz,pos,ps,b0,bk,tp⟩:=ok;have hpos:(0:Int)<(pr:Int):=by omega
  have h8:=kL ps (by decide);have t0:=d0 (row.getD 0 0*back) (show (pr:Int)≠0 by omega);have t1:=dk (row.getD 0 0*back) hpos;refine⟨_,(aB (aI (i:=4) uZ.nd rfl (Or.inr rfl) (aQ dD (aQ eT (cK cF (pv 0) aH (fun _ _=>rfl)) (pv 2)) (pv 3)))
   (aB (bR (aU iD (pv 4) aH (aY _)) (aE (aS (bU kE (pv 0) (cC aH) cW))) aW)
   (aE (aS (Nd zO rfl (Wv (by rfl) tt.b_zip (aA (bU kE (pv 0) (cC aH) cW) (aA (bU kE (pv 1) (cC aH) cW) aC))) (fun cl C s' H' fp=>(aQ fW (pv 0) (aQ eT (pv 6) (pv 1))))))))),?_⟩
  (try rw[bV]);(try rw[cxK1])
  refine⟨_,rfl,a,_,_,_,rfl,rfl,hA,bC (j:=0) (lX (by omega)),_,rfl,_,_,rfl,rfl,⟨b0,fN bk h8⟩,_,rfl,_,_,rfl,rfl,hpos,?_⟩;refine⟨_,rfl,_,rfl,_,rfl,_,rfl,?_⟩;have cA:iN (row.map V.int) (some (1:Int)) none=(row.drop 1).map V.int:=by rw[jy];exact tM (k:=1) (by rw[aR];omega)
  have cB:iN (top.map V.int) (some (1:Int)) none=(top.drop 1).map V.int:=by rw[jy];exact tM (k:=1) (by rw[aR];omega)
  by_cases hz:row.getD 0 0*back % (pr:Int)=0
  ·refine itP (decide_eq_true hz) ?_
   refine⟨_,rfl,_,rfl,a,_,rfl,hA,fun p hp=>?_⟩;rw[cA];refine q p _ hp (aM hp) ?_;rw[aD]
   congr 3
   unfold low;rw[hz];refine ii fun i=>?_
   rw[lj];by_cases hi:i<n
   ·rw[ac (l:=row.drop 1) (by rw[bf];omega),ac (l:=top.drop 1) (by rw[bf];omega)]
    show some _=some _;rw[oa,me]
   ·rw[ca (by rw[bf];omega)]
  ·refine itN (fun z=>hz (of_decide_eq_true z)) ?_
   refine⟨_,rfl,_,rfl,a,_,rfl,hA,fun p1 hp1=>?_⟩;rw[cA];have t1':=aM (o:=.lst ((row.drop 1).map V.int)) hp1;refine⟨_,rfl,_,rfl,b,_,rfl,t1'.seq hB,fun p2 hp2=>?_⟩;rw[cB];have t2':=aM (o:=.lst ((top.drop 1).map V.int)) hp2;refine⟨p1,p2,rfl,⟨_,SqL.of (t2' p1 _ aD)⟩,⟨_,SqL.of aD⟩,?_⟩;refine Om (fun x y=>match x,y with | .int i,.int j=>.int (i-row.getD 0 0*back % (pr:Int)*j) | _,_=>.non) (SqL.of (t2' p1 _ aD)) (SqL.of aD) (by rw[aR,aR,bf,bf,l1,l2]) (by rw[aR,bf];omega) (fun i x y H' hx hy s' N hN=>?_) fun D H' hD s' hd=>?_
   ·rw[ag] at hx hy
    obtain⟨i1,hi1,rfl⟩:=bj.mp hx;obtain⟨j1,hj1,rfl⟩:=bj.mp hy;have hj2:=tp j1 (kf (aq hj1));exact⟨_,rfl,_,rfl,_,rfl,_,_,rfl,rfl,⟨fN (n:=pr) (by omega) h8,fN hj2 h8⟩,_,_,rfl,rfl,hN H' (aL.refl _)⟩
   ·have hD0:H D=none:=by
     cases e:H D with
     | none=>rfl
     | some o=>have:=(t1'.trans t2') D o e;rw[hD] at this;cases this
    refine q D H' hD0 (t1'.trans (t2'.trans s')) ?_;rw[hd]
    congr 3
    unfold low;rw[List.zipWith_map,List.map_zipWith]
def Gm (K:af):Sp:=fun vs H Q _=>∃ (a:Addr) (ns:List Int),vs=[.ref a]∧SqL K H a (ns.map V.int)∧(∀ H',aL H H'->(∀ x∈ns,x=0)->Q .non H')∧∀ (p:Nat) (H':Hp),aL H H'->p<ns.length->ns.getD p 0≠0->Q (.int (p:Nat)) H'
theorem iQ {f:Addr}{fd:FuncData}(F:Fun K "first_other_than_nought" "first_other_than_nought" dE f fd)(tt:Txt K mg ad):bN P w K mg base (CX1 P w) 1 f fd ["numbers"] (Gm K):=by
 refine F.okN cZ (fun vs H Q E h=>?_) (fun cdv A outer s H vs Q E hr h=>?_)
 ·obtain⟨a,ns,rfl,_⟩:=h
  rfl
 ·obtain⟨a,ns,rfl,hA,q0,q1⟩:=h
  refine⟨_,(aB (cN PassesOwn.never rfl (Sc (by rfl) tt.b_enumerate (aA (pv 0) aC)) (vD rfl (fG (bD (i:=1) cZ.nd rfl (Or.inl rfl)) (fG (bD (i:=2) cZ.nd rfl (Or.inl rfl)) oG))) (aE (bR (aU iC (pv 2) aH (aY _)) (aE (aS (pv 1))) aW)))
   (aE (aS Ec))),?_⟩
  (try rw[bV]);(try rw[cxK1])
  refine⟨_,rfl,a,rfl,⟨_,hA⟩,?_⟩;refine Qj (K:=K) (a:=a) (xs:=ns.map V.int) (fun i σ H2=>aL H H2∧(∀ j,j<i->ns.getD j 0=0)∧∃ v1 v2:Option V,σ=[some (.ref a),v1,v2]) ⟨aL.refl _,fun j hj=>absurd hj (Nat.not_lt_zero j),none,none,rfl⟩ (fun i σ H2 _ h=>h.1.seq hA) ?_ ?_
  ·rintro i x p σ H2 hx hp ⟨s2,hz,v1,v2,rfl⟩
   have hi:i<ns.length:=by have:=(al.mp hx).1;rwa [aR] at this
   rw[lX hi] at hx;obtain rfl:=ay hx;have t2:=aM (o:=.tup [.int (i:Nat),.int (ns.getD i 0)]) hp;refine⟨p,_,rfl,SqT.of aD,rfl,_,_,rfl,_,_,rfl,rfl,?_⟩;refine⟨_,rfl,_,rfl,_,rfl,_,rfl,?_⟩;by_cases h0:ns.getD i 0=0
   ·refine itN (by rw[decide_eq_true h0];exact aj) ?_
    exact⟨s2.trans t2,fun j hj=>by
     rcases fq j i with z | z
     ·exact hz j z
     ·rw[show j=i by omega];exact h0,_,_,rfl⟩
   ·refine itP (by rw[decide_eq_false h0];rfl) ?_
    exact⟨_,rfl,q1 i _ (s2.trans t2) hi h0⟩
  ·rintro σ H2 ⟨s2,hz,v1,v2,rfl⟩
   rw[aR] at hz;exact q0 H2 s2 fun x hx=>by
    obtain⟨j,hj⟩:=ic hx;have hjl:=(al.mp hj).1
    have:=hz j hjl
    rwa [ak,hj] at this
structure Oo (M:List (List Int))(n pr E:Nat):Prop where
 len:M.length=n
 row:∀ r∈M,r.length=n
 sz:n<=100
 pm:Dt.eB pr
 ps:pr<2 ^ 1000
 be:∀ r∈M,∀ x∈r,x.natAbs<=E
 bd:E+n*(pr*pr)<2 ^ 8000
def Pt (K:af):Sp:=fun vs H Q _=>∃ (a:Addr) (as:List Addr) (M:List (List Int)) (n pr E:Nat),vs=[.ref a,.int (pr:Nat)]∧SqL K H a (as.map V.ref)∧eD K H as M∧Oo M n pr E∧∀ (r:Int) (H':Hp),aL H H'->0<=r∧r<pr->Dt.Cg pr r (Dt.det n (Dt.ent M))->Q (.int r) H'
theorem oT {ns:List Int}{j:Nat}(h:j<ns.length):ns.getD j 0∈ns:=by
 rw[ak,ac h];exact di h
theorem Ht {back:Int}{pr n:Nat}{top row:List Int}(h:By back pr n top row):(low back pr top row).length=n:=by
 unfold low
 have:=h.l1
 have:=h.l2
 rw[qf,bf,bf];omega
theorem Hq {back:Int}{pr n:Nat}{top row:List Int}(h:By back pr n top row){k:Nat}(hk:k<n):(low back pr top row).getD k 0=row.getD (k+1) 0-row.getD 0 0*back % (pr:Int)*top.getD (k+1) 0:=by
 have h1:=h.l1;have h2:=h.l2;unfold low;rw[ak,lj,gz,gz,jq 1 k,ac (show k+1<row.length by omega),ac (show k+1<top.length by omega),ak (l:=row) (i:=k+1),ac (show k+1<row.length by omega),ak (l:=top),ac (show k+1<top.length by omega)];rfl
theorem Qo {back:Int}{pr n E:Nat}{top row:List Int}(h:By back pr n top row)(hE:∀ x∈row,x.natAbs<=E):∀ x∈low back pr top row,x.natAbs<=E+pr*pr:=fun x hx=>by
 obtain⟨k,hk⟩:=ic hx;have hkl:=(al.mp hk).1;rw[Ht h] at hkl;have h1:=h.l1;have h2:=h.l2;have e:=Hq h hkl;rw[ak,hk] at e;have e:x=_:=e;have b1:=hE _ (oT (ns:=row) (j:=k+1) (by omega));have b2:=h.tp _ (oT (ns:=top) (j:=k+1) (by omega));have hp:=h.pos;have t0:=d0 (row.getD 0 0*back) (show (pr:Int)≠0 by omega);have t1:=dk (row.getD 0 0*back) (show (0:Int)<pr by omega);have b3:=rh (row.getD (k+1) 0) (row.getD 0 0*back % (pr:Int)*top.getD (k+1) 0);rw[mo] at b3;have b4:(row.getD 0 0*back % (pr:Int)).natAbs*(top.getD (k+1) 0).natAbs<=pr*pr:=ib (by omega) b2;rw[e];omega
theorem mH {f:Addr}{fd:FuncData}(F:Fun K "determinant_rest" "determinant_rest" cL f fd)(tt:Txt K mg ad)(C_first_other_than_nought:Cal P w K mg base (CX1 P w) "first_other_than_nought" 1 ["numbers"] (Gm K))(C_inverse:Cal P w K mg base (CX1 P w) "inverse" 1 ["number", "prime"] Ge)(C_lowered:Cal P w K mg base (CX1 P w) "lowered" 1 ["row", "top", "back", "prime"] (Tt K)):bN P w K mg base (CX1 P w) 2 f fd ["square", "prime"] (Pt K):=by
 refine F.okN bF (fun vs H Q E h=>?_) (fun cdv A outer s H vs Q E hr h=>?_)
 ·obtain⟨a,as,M,n,pr,E0,rfl,_⟩:=h
  rfl
 ·obtain⟨a,as,M,n,pr,B,rfl,hA,hR,ok,q⟩:=h
  have hs:sizeLine=16777216:=sizeLine_eq;have hu:=gg (eA hr);obtain⟨len,row,sz,pm,ps,be,bd⟩:=ok;have hp1:=pm.1;have hpos:(0:Int)<(pr:Int):=by omega
  have h8:=kL ps (by decide);refine⟨_,(aB (aI (i:=2) bF.nd rfl (Or.inl rfl) (dH iF (by rfl) tt.b_list (by decide +kernel) (aA (pv 0) aC)))
   (aB (aI (i:=3) bF.nd rfl (Or.inl rfl) aH)
   (aB (iM PassesOwn.never (aU (Bo K rfl hu) (pv 2) (dF aC) (aY _)) (aB (aI (i:=4) bF.nd rfl (Or.inl rfl) (aK C_first_other_than_nought hr aN (aA (fB kS rfl (cG (pv 2)) (fun cl C s' H' fp=>(aQ dD (cK (Lj K rfl) (pv 0) aH (fun _ _=>rfl)) (pv 2)))) aC)))
   (aB (bR (jF (No (pv 4))) (aE (aS aH)) aW)
   (aB (aI (i:=5) bF.nd rfl (Or.inr rfl) (fB kW rfl (cG (cK cF (pv 2) (pv 4) (fun _ _=>rfl))) (fun cl C s' H' fp=>(aQ dD (pv 0) (pv 2)))))
   (aB (aI (i:=6) bF.nd rfl (Or.inr rfl) (aK C_inverse hr aN (aA (cK cF (pv 5) aH (fun _ _=>rfl)) (aA (pv 1) aC))))
   (aB (aI (i:=3) bF.nd rfl (Or.inl rfl) (aQ dD (aQ eT (pv 3) (cK cF (pv 5) aH (fun _ _=>rfl))) (pv 1)))
   (aB (Tm (t':=(fun D σ H=>∃ (x0 x2:V) (pr:Nat) (rst:Int) (p:Nat) (v5 v6:Option V),σ=[some x0,some (.int (pr:Nat)),some x2,some (.int rst),some (.int (p:Nat)),v5,v6]∧D.nx [some x0,some (.int (pr:Nat)),some x2,some (.int (if p % 2=1 then (pr:Int)-rst else rst)),some (.int (p:Nat)),v5,v6] H)) (bR (aU iD (aQ dD (pv 4) aH) aH (aY _)) (aE (aI (i:=3) bF.nd rfl (Or.inl rfl) (aQ fW (pv 1) (pv 3)))) aW) ?rA)
   (aE (Es (i:=2) kT rfl (cG (aQ sR (bU kE (pv 2) cW (cC (pv 4))) (bU kE (pv 2) (cC (aQ eC (pv 4) aH)) cW))) (fun cl C s' H' fp=>(aK C_lowered hr aN (aA (pv 0) (aA (pv 6) (aA (pv 7) (aA (pv 2) aC)))))) bF.nd rfl rfl)))))))))
   (aE (aS (pv 3)))))),?_⟩
  (try rw[bV]);(try rw[cxK1])
  case rA =>
   rintro D σ H ⟨x0,x2,pr,rst,p,v5,v6,rfl,nxt⟩;refine⟨_,rfl,_,_,rfl,rfl,(by show (0:Int)<2;decide),_,rfl,_,rfl,_,rfl,?_⟩;by_cases h2:p % 2=1
   ·refine itP (decide_eq_true (by omega)) ?_
    refine⟨_,rfl,_,rfl,_,_,rfl,rfl,?_⟩;rw[if_pos h2] at nxt;exact nxt
   ·refine itN (fun z=>h2 (by have:=of_decide_eq_true z;omega)) ?_
    rw[if_neg h2] at nxt;exact nxt
  refine⟨_,rfl,a,_,rfl,.inl hA,fun L0 hL0=>?_⟩;have t0:=aM (o:=.lst (as.map V.ref)) hL0;refine⟨fun m σ G=>∃ (Lr:Addr) (bs:List Addr) (N:List (List Int)) (k:Nat) (rest:Int) (v4 v5 v6:Option V),aL H G∧G Lr=some (.lst (bs.map V.ref))∧eD K G bs N∧N.length=m∧(∀ r∈N,r.length=m)∧m+k=n∧(∀ r∈N,∀ x∈r,x.natAbs<=B+k*(pr*pr))∧(0<rest∧rest<pr)∧Dt.Cg pr (rest*Dt.det m (Dt.ent N)) (Dt.det n (Dt.ent M))∧σ=[some (.ref a),some (.int (pr:Nat)),some (.ref Lr),some (.int rest),v4,v5,v6],
   ⟨n,L0,as,M,0,1,none,none,none,t0,aD,hR.on t0,len,row,by omega,fun r hr x hx=>by rw[rc];exact be r hr x hx,⟨by decide,by omega⟩,by rw[jo];exact Dt.Cg.refl _,rfl⟩,?_⟩
  rintro m σ G ⟨Lr,bs,N,k,rest,v4,v5,v6,sG,hL,hN,hNl,hNr,hmk,hNb,hrest,hcg,rfl⟩;have hbl:=hN.1;refine⟨_,rfl,(by show 0<=sizeLine;omega),fun E1 hE1=>?_⟩;have tE:=aM (o:=.lst []) hE1;refine⟨Lr,E1,_,rfl,rfl,SqL.of (tE Lr _ hL),SqL.of aD,_,rfl,?_⟩
  cases m with
  | zero =>
   obtain rfl:bs=[]:=a8.mp (by omega);refine pD ?_;refine⟨_,rfl,q rest _ (sG.trans tE) ⟨by omega,hrest.2⟩ ?_⟩;have e:rest*Dt.det 0 (Dt.ent N)=rest:=lu rest;rw[e] at hcg;exact hcg
  | succ m =>
   refine itP (by cases bs with | nil=>rw[ku] at hbl;omega | cons y r=>rfl) ?_;refine⟨_,fun σ' H' z=>z,?_⟩;have hL2:=tE Lr _ hL;have hN2:=hN.on tE;generalize upd G E1 (.lst [])=G2 at tE hL2 hN2;refine⟨_,rfl,Lr,rfl,⟨_,SqL.of hL2⟩,?_⟩;refine Yf (fun r=>r.getD 0 0 % (pr:Int)) (cT (SqL.of hL2)) hN2 (by omega) (fun a' r G' hrm hS s' N' hN'=>?_) fun D1 G3 hD1 s3 hd3=>?_
   ·exact⟨_,rfl,a',_,_,_,rfl,rfl,hS,bC (j:=0) (lX (by rw[hNr r hrm];omega)),_,rfl,_,_,rfl,rfl,hpos,hN' G' (aL.refl _)⟩
   have hL3:=s3 Lr _ hL2;have hN3:=hN2.on s3;have sG3:=sG.trans (tE.trans s3);refine⟨D1,_,rfl,SqL.of hd3,fun G4 s4 hall=>?_,fun p G4 s4 hp hne=>?_⟩
   ·refine⟨_,rfl,_,rfl,zF ?_⟩
    refine q 0 G4 (sG3.trans s4) ⟨Int.le_refl _,hpos⟩ ?_;have h0:=Dt.Yq (m:=pr) (M:=N) (n:=m) (fun r hrm=>Int.dvd_of_emod_eq_zero (hall _ (a5.mpr ⟨r,hrm,rfl⟩))) hNl;have h1:=(Dt.Cg.refl (m:=pr) rest).mul h0;rw[g8] at h1;exact h1.symm.trans hcg
   ·rw[aR] at hp
    obtain⟨rp,hrp⟩:∃ rp,N[p]?=some rp:=⟨_,ac hp⟩;obtain⟨bp,hbp⟩:∃ bp,bs[p]?=some bp:=⟨_,ac (by omega)⟩;have hrpm:=aq hrp;have hrl:=hNr rp hrpm;have hne2:rp.getD 0 0 % (pr:Int)≠0:=by
     rw[ak,ag,hrp] at hne;exact hne
    refine⟨_,rfl,_,rfl,pD ?_⟩;have hL4:=s4 Lr _ hL3;have hN4:=hN3.on s4;have hS4:=hN4.2 p bp rp hbp hrp;refine⟨_,rfl,_,rfl,Lr,_,_,_,rfl,rfl,SqL.of hL4,bC (j:=p) (by rw[ag,hbp];rfl),bp,rfl,⟨_,hS4⟩,?_⟩;refine oX (fun v=>match v with | .int i=>.int (i % (pr:Int)) | _=>.non) (cT hS4) (by rw[aR];omega) (fun v G' hv s' N' hN'=>?_) fun D2 G5 hD2 s5 hd5=>?_
    ·obtain⟨i,hi,rfl⟩:=a5.mp hv
     exact⟨_,rfl,_,rfl,_,_,rfl,rfl,hpos,hN' G' (aL.refl _)⟩
    have hd5:G5 D2=some (.lst ((rp.map fun i=>i % (pr:Int)).map V.int)):=by rw[hd5,bx,bx];rfl
    have htl:(rp.map fun i=>i % (pr:Int)).length=m+1:=by rw[aR,hrl]
    have htop:∀ k,k<m+1->(rp.map fun i=>i % (pr:Int)).getD k 0=rp.getD k 0 % (pr:Int):=fun k hk=>by
     rw[ak,ag,ak,ac (by omega)];rfl
    have htb:∀ y∈rp.map (fun i=>i % (pr:Int)),y.natAbs<=pr:=fun y hy=>by
     obtain⟨i,_,rfl⟩:=a5.mp hy
     have:=d0 i (show (pr:Int)≠0 by omega)
     have:=dk i hpos
     omega
    have ht0:(rp.map fun i=>i % (pr:Int)).getD 0 0 % (pr:Int)≠0:=by rw[htop 0 (by omega),Int.emod_emod];exact hne2
    have htc:∀ k,k<m+1->Dt.Cg pr ((rp.map fun i=>i % (pr:Int)).getD k 0) ((N.getD p []).getD k 0):=fun k hk=>by
     rw[htop k hk,ak (l:=N),hrp];exact Dt.pH _
    generalize rp.map (fun i=>i % (pr:Int))=top at hd5 htl htop htb ht0 htc;have sG5:=sG3.trans (s4.trans s5);have hL5:=s5 Lr _ hL4;have hN5:=hN4.on s5;refine⟨_,rfl,D2,_,_,_,rfl,rfl,SqL.of hd5,bC (j:=0) (lX (by omega)),_,rfl,top.getD 0 0,pr,rfl,pm,ps,ht0,fun inv hinv hib=>?_⟩;have ht0b:=htb _ (oT (ns:=top) (j:=0) (by omega));refine⟨_,rfl,_,rfl,D2,_,_,_,rfl,rfl,SqL.of hd5,bC (j:=0) (lX (by omega)),_,_,rfl,rfl,⟨fN (n:=pr) (by omega) h8,fN ht0b h8⟩,_,rfl,_,_,rfl,rfl,hpos,?_⟩;refine⟨_,_,pr,_,p,_,_,rfl,?_⟩;have hpl:p<=bs.length:=by omega
    have c1:iN (bs.map V.ref) none (some ((p:Nat):Int))=(bs.take p).map V.ref:=by rw[km];exact Vf (by rw[aR];omega)
    have c2:iN (bs.map V.ref) (some ((p:Nat)+1:Int)) none=(bs.drop (p+1)).map V.ref:=by rw[jy];exact tM (k:=p+1) (by rw[aR];omega)
    refine⟨_,rfl,_,rfl,_,rfl,Lr,_,rfl,SqL.of hL5,fun p1 hp1=>?_⟩;rw[c1];have u1:=aM (o:=.lst ((bs.take p).map V.ref)) hp1;refine⟨_,rfl,_,rfl,_,_,rfl,rfl,_,rfl,Lr,_,rfl,SqL.of (u1 Lr _ hL5),fun p2 hp2=>?_⟩;rw[c2];have u2:=aM (o:=.lst ((bs.drop (p+1)).map V.ref)) hp2;refine⟨p1,p2,_,_,rfl,rfl,SqL.of (u2 p1 _ aD),SqL.of aD,(by rw[aR,aR,b8,bf];omega),fun p3 hp3=>?_⟩;rw[show (bs.take p).map V.ref++(bs.drop (p+1)).map V.ref=(bs.eraseIdx p).map V.ref by rw[<- bh,List.eraseIdx_eq_take_drop_succ]];have u3:=aM (o:=.lst ((bs.eraseIdx p).map V.ref)) hp3;have u123:=u1.trans (u2.trans u3);refine⟨p3,rfl,⟨_,SqL.of aD⟩,?_⟩;have hlok:∀ r∈N,By inv pr m top r:=fun r hrm=>⟨hNr r hrm,htl,by omega,by omega,ps,fN (hNb r hrm _ (oT (by rw[hNr r hrm];omega))) (gk (ki (gq _ (show k<=n by omega)) B) bd),by omega,htb⟩
    have hsub:∀ r∈N.eraseIdx p,r∈N:=fun r hr=>List.mem_of_mem_eraseIdx hr
    refine Xs (low inv pr top) (cT (SqL.of aD)) ((hN5.erase p).on u123) (by rw[i9];split <;> omega) (fun a' r G' hrm hS s' N' hN'=>?_) fun D4 cs G6 hD4 s6 hd6 _ hR6=>?_
    ·exact⟨_,rfl,_,rfl,_,rfl,_,rfl,a',D2,inv,pr,m,r,top,rfl,hS,SqL.of (s' D2 _ (u123 D2 _ hd5)),hlok r (hsub r hrm),fun D G'' hD s'' hd=>hN' D G'' s'' hD hd⟩
    ·have hel:=Dt.elim (m:=pr) (n:=m) (p:=p) (M:=N) (top:=top) (back:=inv) (t:=fun r=>r.getD 0 0*inv % (pr:Int)) (low:=low inv pr top) (by omega) hNl htc (by rw[g7];exact hinv) (fun r _=>Dt.pH _) fun r hrm k hk=>Hq (hlok r hrm) hk
     obtain⟨r1,r2⟩:=Dt.Lo hrest hinv hel hcg;refine⟨m,iu m,D4,cs,(N.eraseIdx p).map (low inv pr top),k+1,_,_,_,_,sG5.trans (u123.trans s6),hd6,hR6,by rw[aR,i9,if_pos (by omega)];omega,fun r hr=>?_,by omega,fun r hr=>?_,r1,r2,rfl⟩
     ·obtain⟨r',hr',rfl⟩:=a5.mp hr
      exact Ht (hlok r' (hsub r' hr'))
     ·obtain⟨r',hr',rfl⟩:=a5.mp hr
      rw[ia,gy,<- lr];exact Qo (hlok r' (hsub r' hr')) (hNb r' (hsub r' hr'))
structure Ck (M:List (List Int))(n:Nat):Prop where
 len:M.length=n
 row:∀ r∈M,r.length=n
 sz:n<=64
 sm:∀ r∈M,Dt.rs n r<=2 ^ 110
theorem Ck.part {M:List (List Int)}{n:Nat}(h:Ck M n)(i:Nat):Dt.pL ((M.take i).map (Dt.rs n))<2 ^ 8000:=by
 have h1:=Dt.Ml (R:=2 ^ 110) (l:=(M.take i).map (Dt.rs n)) fun x hx=>by
  obtain⟨r,hr,rfl⟩:=a5.mp hx;exact h.sm r (List.mem_of_mem_take hr)
 rw[aR,b8,<- j9] at h1
 have:=h.len
 have:=h.sz
 exact gk h1 (lx (by decide) (by omega))
def Ic (K:af):Sp:=fun vs H Q _=>∃ (a:Addr) (as:List Addr) (M:List (List Int)) (n:Nat),vs=[.ref a]∧SqL K H a (as.map V.ref)∧eD K H as M∧Ck M n∧∀ H',aL H H'->Q (.int (Dt.pL (M.map (Dt.rs n)):Nat)) H'
theorem tU {f:Addr}{fd:FuncData}(F:Fun K "greatest_of" "greatest_of" gR f fd)(tt:Txt K mg ad):bN P w K mg base (CX1 P w) 1 f fd ["square"] (Ic K):=by
 refine F.okN fX (fun vs H Q E h=>?_) (fun cdv A outer s H vs Q E hr h=>?_)
 ·obtain⟨a,as,M,n,rfl,_⟩:=h
  rfl
 ·obtain⟨a,as,M,n,rfl,hA,hR,ok,q⟩:=h
  have hs:sizeLine=16777216:=sizeLine_eq;have hrl:=hR.1;have hlen:=ok.len;have hsz:=ok.sz;refine⟨_,(aB (aI (i:=1) fX.nd rfl (Or.inl rfl) aH)
   (aB (cN PassesOwn.never rfl (cG (pv 0)) (bD (i:=2) fX.nd rfl (Or.inl rfl)) (aE (aI (i:=1) fX.nd rfl (Or.inl rfl) (aQ eT (pv 1) (aO (xP rfl) (by rfl) tt.b_sum pe (aA (fB pK rfl (cG (pv 2)) (fun cl C s' H' fp=>(aO Nu (by rfl) tt.b_abs PyProof.Rows.boot_abs (aA (pv 0) aC)))) aC))))))
   (aE (aS (pv 1))))),?_⟩
  (try rw[bV]);(try rw[cxK1])
  refine⟨_,rfl,a,rfl,⟨_,hA⟩,?_⟩;refine eE (K:=K) (a:=a) (xs:=as.map V.ref) (fun i σ G=>aL H G∧∃ v2:Option V,σ=[some (.ref a),some (.int (Dt.pL ((M.take i).map (Dt.rs n)):Nat)),v2]) ⟨aL.refl _,none,rfl⟩ (fun i σ G _ h=>h.1.seq hA) ?_ ?_
  ·rintro i v σ G hi ⟨sG,v2,rfl⟩
   obtain⟨a',r,rfl,hr',hS⟩:=(hR.on sG).at hi;have hrm:=aq hr';have hrl2:=ok.row r hrm;refine⟨_,rfl,_,rfl,a',rfl,⟨_,hS⟩,?_⟩;refine oX (fun v=>match v with | .int i=>.int (if i<0 then -i else i) | _=>.non) (cT hS) (by rw[aR];omega) (fun v G' hv s' N' hN'=>?_) fun D2 G5 hD2 s5 hd5=>?_
   ·obtain⟨i,hi,rfl⟩:=a5.mp hv
    exact⟨_,rfl,_,rfl,hN' G' (aL.refl _)⟩
   have hd5:G5 D2=some (.lst ((r.map fun i=>if i<0 then -i else i).map V.int)):=by rw[hd5,bx,bx];rfl
   refine⟨D2,_,rfl,SqL.of hd5,?_⟩;rw[Dt.Ri hrl2];have e:Dt.pL ((M.take (i+1)).map (Dt.rs n))=Dt.pL ((M.take i).map (Dt.rs n))*Dt.rs n r:=by rw[cx,hr',bh];exact Dt.Hn _ _
   refine⟨_,_,rfl,rfl,⟨fN (by rw[fj];exact ah _) (ok.part i),fN (n:=2 ^ 110) (by rw[fj];exact ok.sm r hrm) (kL (k:=111) (by decide +kernel) (by decide))⟩,?_⟩;refine⟨sG.trans s5,some (.ref a'),?_⟩;rw[e,fk];rfl
  ·rintro σ G ⟨sG,v2,rfl⟩
   rw[aR,cp (by omega)];exact⟨_,rfl,q G sG⟩
def kts:List Int:=[133,211,598,652,721,850,1282,1417,1582,1681,1726,1837,1885,2017,2377,2383,2452,2476,2530,2611,2662,2698,2773,2878,2917,2980,2998,3082,3238,3250,3343,3421,3427,3670,3817,4162,4252,4447,4468,4621,4630,4747,4867,4891,4915,5128,5143,5236,5401,5587,5650,5803,5833,5923,5986,6202,6235,6286,6496,6526,6736,7093,7561,7696,7831,7855,7882,7927,8143,8248]
def Ih:Sp:=fun vs H Q _=>∃ (j:Nat) (last:Int),vs=[.int (j:Nat),.int last]∧j<7∧Q (.int (kts.getD j 0)) H
theorem pQ {f:Addr}{fd:FuncData}(F:Fun K "further_times" "further_times" hV f fd)(tt:Txt K mg ad):bN P w K mg base (CX1 P w) 1 f fd ["place", "last"] Ih:=by
 refine F.okN qK (fun vs H Q E h=>?_) (fun cdv A outer s H vs Q E hr h=>?_)
 ·obtain⟨j,last,rfl,_⟩:=h
  rfl
 ·obtain⟨j,last,rfl,hj,q⟩:=h
  have hkt:SqT K H ad.KNOWN_TIMES (kts.map V.int):=SqT.tupIs tt.kt;have hkl:(kts.map V.int).length=70:=rfl;refine⟨_,(aB (bR (aU oP (pv 0) (aO aX (by rfl) tt.b_len a7 (aA (eK (v:=.ref ad.KNOWN_TIMES) (by rfl) tt.m_KNOWN_TIMES rfl) aC)) (aY _)) (aE (aS (cK jX (eK (v:=.ref ad.KNOWN_TIMES) (by rfl) tt.m_KNOWN_TIMES rfl) (pv 0) (fun _ _=>rfl)))) aW)
   Ox),?_⟩
  (try rw[bV]);(try rw[cxK1])
  refine⟨_,rfl,ad.KNOWN_TIMES,_,rfl,.inr hkt,_,_,rfl,rfl,_,rfl,?_⟩;rw[hkl];refine itP (decide_eq_true (by omega)) ?_;exact⟨_,rfl,ad.KNOWN_TIMES,_,_,_,rfl,rfl,hkt,bC (j:=j) (lX (by show j<70;omega)),q⟩
theorem Yw:∀ j,j<7->kts.getD j 0*6277101735386680763835789423207666416102355444464034512896+1=((Dt.pr j:Nat):Int):=by decide +kernel
theorem Vr:∀ j,j<7->(kts.getD j 0).natAbs<2 ^ 20:=by decide +kernel
def Ty (K:af):Sp:=fun vs H Q _=>∃ (a:Addr) (as:List Addr) (M:List (List Int)) (n:Nat),vs=[.ref a]∧SqL K H a (as.map V.ref)∧eD K H as M∧Ck M n∧2*Dt.pL (M.map (Dt.rs n))<Dt.md 7∧∀ H',aL H H'->Q (.int (Dt.det n (Dt.ent M))) H'
theorem Vg {n p:Nat}(hn:n<=64)(hp:p<2 ^ 250):2 ^ 110+n*(p*p)<2 ^ 8000:=by
 have h1:n*(p*p)<=64*(2 ^ 250*2 ^ 250):=ib hn (ib (i6 hp) (i6 hp));exact gk (ki h1 _) (by decide +kernel)
theorem Ck.rest {M:List (List Int)}{n p:Nat}(h:Ck M n)(hp:Dt.eB p)(hl:p<2 ^ 250):Oo M n p (2 ^ 110) :=
 ⟨h.len,h.row,az h.sz (by decide),hp,b7 hl (dm (by decide) (by decide)),fun r hr x hx=>az (Dt.Uu (h.row r hr) hx) (h.sm r hr),Vg h.sz hl⟩
theorem uO {f:Addr}{fd:FuncData}(F:Fun K "determinant" "determinant" jL f fd)(tt:Txt K mg ad)(C_greatest_of:Cal P w K mg base (CX1 P w) "greatest_of" 1 ["square"] (Ic K))(C_determinant_rest:Cal P w K mg base (CX1 P w) "determinant_rest" 2 ["square", "prime"] (Pt K))(C_further_times:Cal P w K mg base (CX1 P w) "further_times" 1 ["place", "last"] Ih)(C_inverse:Cal P w K mg base (CX1 P w) "inverse" 1 ["number", "prime"] Ge) :
  bN P w K mg base (CX1 P w) 3 f fd ["square"] (Ty K):=by
 refine F.okN bO (fun vs H Q E h=>?_) (fun cdv A outer s H vs Q E hr h=>?_)
 ·obtain⟨a,as,M,n,rfl,_⟩:=h
  rfl
 ·obtain⟨a,as,M,n,rfl,hA,hR,ok,hlt,q⟩:=h
  have hs:sizeLine=16777216:=sizeLine_eq;have hdet:=Dt.Vb (M:=M) ok.len;have hbnd:=ok.part n;rw[cp (by rw[ok.len];exact ah _)] at hbnd;generalize hB:Dt.pL (M.map (Dt.rs n))=B at hlt hdet hbnd;generalize hDD:Dt.det n (Dt.ent M)=DD at q hdet;have bB:Bg ((B:Nat):Int):=fN (by rw[fj];exact ah _) hbnd;refine⟨_,(aB (aI (i:=1) bO.nd rfl (Or.inl rfl) (aK C_greatest_of hr aN (aA (pv 0) aC)))
   (aB (aI (i:=2) bO.nd rfl (Or.inl rfl) (aK C_determinant_rest hr aN (aA (pv 0) (aA (eK (by rfl) tt.g_FIRST_PRIME tt.r_FIRST_PRIME) aC))))
   (aB (aI (i:=3) bO.nd rfl (Or.inl rfl) (eK (by rfl) tt.g_FIRST_PRIME tt.r_FIRST_PRIME))
   (aB (aI (i:=4) bO.nd rfl (Or.inl rfl) aH)
   (aB (aI (i:=5) bO.nd rfl (Or.inl rfl) aH)
   (aB (iM PassesOwn.never (aU Th (pv 3) (aQ eT aH (pv 1)) (aY _)) (aB (aI (i:=5) bO.nd rfl (Or.inl rfl) (aK C_further_times hr aN (aA (pv 4) (aA (pv 5) aC))))
   (aB (aI (i:=4) bO.nd rfl (Or.inl rfl) (aQ eC (pv 4) aH))
   (aB (aI (i:=6) bO.nd rfl (Or.inl rfl) (aQ eC (aQ eT (pv 5) (eK (by rfl) tt.g_STEP tt.r_STEP)) aH))
   (aB (aI (i:=7) bO.nd rfl (Or.inl rfl) (aQ fW (aK C_determinant_rest hr aN (aA (pv 0) (aA (pv 6) aC))) (pv 2)))
   (aB (aI (i:=2) bO.nd rfl (Or.inl rfl) (aQ eC (pv 2) (aQ eT (aQ dD (aQ eT (pv 7) (aK C_inverse hr aN (aA (pv 3) (aA (pv 6) aC)))) (pv 6)) (pv 3))))
   (aE (aI (i:=3) bO.nd rfl (Or.inl rfl) (aQ eT (pv 3) (pv 6))))))))))
   (aB (bR (aU oJ (pv 2) (pv 1) (aY _)) (aE (aS (aQ fW (pv 2) (pv 3)))) aW)
   (aE (aS (pv 2)))))))))),?_⟩
  (try rw[bV]);(try rw[cxK1])
  refine⟨_,rfl,a,as,M,n,rfl,hA,hR,ok,fun G1 s1=>?_⟩;rw[hB];refine⟨_,rfl,a,as,M,n,2305843009213693951,2 ^ 110,rfl,s1.seq hA,hR.on s1,ok.rest Dt.aAI (by decide +kernel),fun res G2 s2 hres hcg=>?_⟩;rw[hDD] at hcg;refine⟨fun m σ G=>∃ (j:Nat) (res times:Int) (v6 v7:Option V),m=7-j∧j<=7∧aL H G∧(0<=res∧res<(Dt.md j:Nat))∧Dt.Cg (Dt.md j:Nat) res DD∧σ=[some (.ref a),some (.int (B:Nat)),some (.int res),some (.int (Dt.md j:Nat)),some (.int (j:Nat)),some (.int times),v6,v7],
   ⟨_,0,res,0,none,none,rfl,by omega,s1.trans s2,hres,hcg,rfl⟩,?_⟩
  rintro m σ G ⟨j,res,times,v6,v7,rfl,hj,sG,hres,hcg,rfl⟩;refine⟨_,rfl,_,rfl,_,_,rfl,rfl,⟨fN (n:=2) (by decide) (by decide +kernel),bB⟩,_,_,rfl,rfl,_,rfl,?_⟩;by_cases hle:Dt.md j<=2*B
  ·refine itP (decide_eq_true (by omega)) ?_
   have hj7:j<7:=by
    rcases fq j 7 with z | z
    ·exact z
    ·rw[show j=7 by omega] at hle
     omega
   obtain⟨k1,k2,k3,k4⟩:=Dt.Zb j hj7;have ePr:=Yw j hj7;have hpp:=Dt.Qb hj7;have hp1:=hpp.1;have l1:=kL k1 (by decide);have l3:=kL k3 (by decide);have l4:=kL k4 (by decide);have bP:Bg ((Dt.pr j:Nat):Int):=fN (by rw[fj];exact ah _) l1;have bM:Bg ((Dt.md j:Nat):Int):=fN (by rw[fj];exact ah _) l3;refine⟨_,fun σ' H' z=>z,?_⟩;refine⟨_,rfl,_,rfl,j,times,rfl,hj7,?_⟩;refine⟨_,rfl,_,_,rfl,rfl,?_⟩;refine⟨_,rfl,_,_,rfl,rfl,⟨fN (i6 (Vr j hj7)) (kL (k:=21) (by decide +kernel) (by decide)),fN (n:=2 ^ 200) (by decide +kernel) (kL (k:=201) (by decide +kernel) (by decide))⟩,_,_,rfl,rfl,?_⟩;refine⟨_,rfl,_,rfl,a,as,M,n,Dt.pr j,2 ^ 110,congrArg (fun z=>[V.ref a,V.int z]) ePr,sG.seq hA,hR.on sG,ok.rest hpp k1,fun r2 G3 s3 hr2 hc2=>?_⟩;rw[hDD] at hc2;refine⟨_,rfl,_,_,rfl,rfl,?_⟩;refine⟨_,rfl,_,rfl,_,rfl,_,rfl,((Dt.md j:Nat):Int),Dt.pr j,congrArg (fun z=>[V.int ((Dt.md j:Nat):Int),V.int z]) ePr,hpp,b7 k1 (dm (by decide) (by decide)),(fun z=>k2 (by exact_mod_cast z)),fun inv hi hib=>?_⟩;have q1:=d0 ((r2-res)*inv) (show ((Dt.pr j:Nat):Int)≠0 by omega);have q2:=dk ((r2-res)*inv) (show (0:Int)<((Dt.pr j:Nat):Int) by omega);obtain⟨c1,c2,c3⟩:=Dt.crt (M1:=Dt.md j) (pr:=Dt.pr j) (D:=DD) (res:=res) (r2:=r2) (inv:=inv) (by omega) (by omega) hcg hc2 hi hres;refine⟨_,_,rfl,rfl,⟨fN (n:=Dt.md j+Dt.pr j) (by omega) (b7 (Nat.add_lt_add k3 k1) (by decide +kernel)),fN (n:=Dt.pr j) (by omega) l1⟩,_,rfl,_,_,rfl,rfl,(by show (0:Int)<_;rw[ePr];omega),_,rfl,_,_,rfl,rfl,⟨?_,bM⟩,_,_,rfl,rfl,?_⟩
   ·show Bg ((r2-res)*inv % _)
    rw[ePr];exact fN (n:=Dt.pr j) (by omega) l1
   refine⟨_,rfl,_,rfl,_,_,rfl,rfl,⟨bM,by rw[ePr];exact bP⟩,?_⟩;refine⟨7-(j+1),by omega,j+1,res+(r2-res)*inv % (Dt.pr j:Nat)*(Dt.md j:Nat),kts.getD j 0,some (.int (kts.getD j 0*6277101735386680763835789423207666416102355444464034512896+1)),some (.int (r2-res)),rfl,by omega,sG.trans s3,⟨c2,c3⟩,c1,?_⟩;rw[<- ePr,show ((Dt.md (j+1):Nat):Int)=(Dt.md j:Nat)*(kts.getD j 0*6277101735386680763835789423207666416102355444464034512896+1) by rw[ePr];exact fk ..];rfl
  ·refine itN (fun z=>hle (by have:=of_decide_eq_true z;omega)) ?_
   have hfr:=Dt.Jm (M:=Dt.md j) (D:=DD) (res:=res) (bd:=(B:Nat)) (by omega) (by omega) hcg hres;refine⟨_,rfl,_,rfl,_,_,rfl,rfl,_,rfl,?_⟩;by_cases hgt:((B:Nat):Int)<res
   ·rw[if_pos hgt] at hfr
    refine itP (decide_eq_true hgt) ?_;refine⟨_,rfl,_,rfl,_,_,rfl,rfl,?_⟩;rw[<- hfr] at q;exact q G sG
   ·rw[if_neg hgt] at hfr
    refine itN (fun z=>hgt (of_decide_eq_true z)) ?_;rw[<- hfr] at q;exact⟨_,rfl,q G sG⟩
def vB (words:List (List Nat))(o:List Nat):Int:=((words.countP fun w=>decide (w.drop 1=o):Nat):Int)
def vS (texts:List (List Nat))(t:List Nat)(words:List (List Nat)):List Int:=texts.map fun o=>if o=t then ((words.length:Nat):Int)-vB words t else-vB words o
theorem Ia {words:List (List Nat)}{o:List Nat}:((((words.map fun w=>w.drop 1).map T).countP fun y=>eqV y (T o):Nat):Int)=vB words o:=by
 unfold vB;rw[bx,List.countP_map]
 congr 2
 funext w
 show (tx (w.drop 1)==tx o)=decide (w.drop 1=o);rw[da,beq_iff_eq,decide_eq_true_iff];exact⟨fun h=>hZ h,fun h=>by rw[h]⟩
def Nl (K:af):Sp:=fun vs H Q _=>∃ (a b:Addr) (texts words:List (List Nat)) (t:List Nat),vs=[.ref a,T t,.ref b]∧SqL K H a (texts.map T)∧SqL K H b (words.map T)∧(texts.length<=200∧words.length<=200∧∀ x∈words,1<=x.length∧x.length<=1000)∧∀ D H',H D=none->aL H H'->H' D=some (.lst ((vS texts t words).map V.int))->Q (.ref D) H'
theorem wO {f:Addr}{fd:FuncData}(F:Fun K "choice_row" "choice_row" gD f fd)(tt:Txt K mg ad)(C_end_of:Cal P w K mg base (CX1 P w) "end_of" 1 ["word"] kQ):bN P w K mg base (CX1 P w) 2 f fd ["texts", "text", "words"] (Nl K):=by
 refine F.okN mO (fun vs H Q E h=>?_) (fun cdv A outer s H vs Q E hr h=>?_)
 ·obtain⟨a,b,texts,words,t,rfl,_⟩:=h
  rfl
 ·obtain⟨a,b,texts,words,t,rfl,hA,hB,⟨h1,h2,h3⟩,q⟩:=h
  have hs:sizeLine=16777216:=sizeLine_eq;refine⟨_,(aB (aI (i:=3) mO.nd rfl (Or.inr rfl) (fB rY rfl (cG (pv 2)) (fun cl C s' H' fp=>(aK C_end_of hr aN (aA (pv 0) aC)))))
   (aE (aS (fB rZ rfl (cG (pv 0)) (fun cl C s' H' fp=>(Ny (aU sO (pv 0) (pv 2) (aY _)) (aQ fW (aO (Gb K rfl) (by rfl) tt.b_len a7 (aA (pv 4) aC)) (Ob K rfl ed kz n0 (xL K rfl) (pv 4) (aA (pv 2) aC))) (rC lL (Ob K rfl ed kz n0 (xL K rfl) (pv 4) (aA (pv 0) aC))))))))),?_⟩
  (try rw[bV]);(try rw[cxK1])
  refine⟨_,rfl,b,rfl,⟨_,hB⟩,?_⟩;refine oX (fun v=>T ((unT v).drop 1)) (cT hB) (by rw[aR];omega) (fun v G hv sg N hN=>?_) fun D1 G1 hD1 s1 hd1=>?_
  ·obtain⟨l,hl,rfl⟩:=a5.mp hv
   have z:=hN G (aL.refl _);rw[fF] at z;have hx:=h3 l hl;exact⟨_,rfl,l,rfl,⟨by omega,by omega⟩,z⟩
  have hd1:G1 D1=some (.lst ((words.map fun w=>w.drop 1).map T)):=by
   rw[hd1,bx,bx];refine congrArg (fun l=>some (HO.lst l)) (br fun m _=>?_);show T ((unT (T m)).drop 1)=T (m.drop 1);rw[fF]
  refine⟨_,rfl,a,rfl,⟨_,s1.seq hA⟩,?_⟩;refine oX (fun v=>.int (if unT v=t then ((words.length:Nat):Int)-vB words t else-vB words (unT v))) (cT (s1.seq hA)) (by rw[aR];omega) (fun v G hv sg N hN=>?_) fun D2 G2 hD2 s2 hd2=>?_
  ·obtain⟨o,ho,rfl⟩:=a5.mp hv
   have z:=hN G (aL.refl _);rw[fF] at z;have hdG:=sg D1 _ hd1;refine⟨_,rfl,_,rfl,_,rfl,_,rfl,_,rfl,?_⟩;by_cases hot:o=t
   ·rw[if_pos hot] at z
    refine itP (decide_eq_true hot) ?_;refine⟨_,rfl,D1,_,rfl,.inl (SqL.of hdG),_,rfl,.inl ⟨rfl,_,SqL.of hdG⟩,_,rfl,D1,_,_,rfl,rfl,SqL.of hdG,iU _,rfl,_,_,rfl,rfl,?_⟩;rw[Ia,aR,aR];exact z
   ·rw[if_neg hot] at z
    refine itN (fun y=>hot (of_decide_eq_true y)) ?_;refine⟨_,rfl,.inl ⟨rfl,_,SqL.of hdG⟩,_,rfl,D1,_,_,rfl,rfl,SqL.of hdG,iU _,rfl,_,rfl,?_⟩;rw[Ia];exact z
  have hD0:H D2=none:=by
   cases e:H D2 with
   | none=>rfl
   | some o=>have:=s1 D2 o e;rw[hD2] at this;cases this
  refine q D2 G2 hD0 (s1.trans s2) ?_;rw[hd2];unfold vS;rw[bx,bx];refine congrArg (fun l=>some (HO.lst l)) (br fun m _=>?_);show V.int (if unT (T m)=t then _ else _)=V.int (if m=t then _ else _);rw[fF]
inductive bI (H:Hp)(g:List Nat->List (List Nat)):List (List Nat)->List (Key×V)->Prop
 | nil:bI H g [] []
 | cons {o:List Nat} {a:Addr} {ls:List (List Nat)} {kvs:List (Key×V)}:H a=some (.lst ((g o).map T))->bI H g ls kvs->bI H g (o::ls) ((cc (tx o),.ref a)::kvs)
theorem bI.keys {H:Hp}{g:List Nat->List (List Nat)}{ls:List (List Nat)}{kvs:List (Key×V)}(h:bI H g ls kvs):kvs.map (·.1)=ls.map fun t=>cc (tx t):=by
 induction h with
 | nil=>rfl
 | cons _ _ ih=>rw[au,au,ih]
theorem bI.len {H:Hp}{g:List Nat->List (List Nat)}{ls:List (List Nat)}{kvs:List (Key×V)}(h:bI H g ls kvs):kvs.length=ls.length:=by
 have:=congrArg i7 h.keys
 rwa [aR,aR] at this
theorem bI.mono {H H':Hp}{g:List Nat->List (List Nat)}{ls:List (List Nat)}{kvs:List (Key×V)}(s:aL H H')(h:bI H g ls kvs):bI H' g ls kvs:=by
 induction h with
 | nil=>exact .nil
 | cons e _ ih=>exact .cons (s _ _ e) ih
theorem bI.updD {H:Hp}{g:List Nat->List (List Nat)}{ls:List (List Nat)}{kvs k:List (Key×V)}{D:Addr}{o:HO}(hd:H D=some (.dK k))(h:bI H g ls kvs):bI (upd H D o) g ls kvs:=by
 induction h with
 | nil=>exact .nil
 | @cons _ a _ _ e _ ih =>
  have hne:a≠D:=fun z=>by rw[z,hd] at e;cases e
  exact .cons (by rw[aG hne];exact e) ih
theorem bI.snoc {H:Hp}{g:List Nat->List (List Nat)}{ls:List (List Nat)}{kvs:List (Key×V)}{o:List Nat}{a:Addr}(h:bI H g ls kvs)(e:H a=some (.lst ((g o).map T))):bI H g (ls++[o]) (kvs++[(cc (tx o),.ref a)]):=by
 induction h with
 | nil=>exact .cons e .nil
 | cons e1 _ ih=>exact .cons e1 ih
theorem bI.get {H:Hp}{g:List Nat->List (List Nat)}{ls:List (List Nat)}{kvs:List (Key×V)}{o:List Nat}(h:bI H g ls kvs)(ho:o∈ls):∃ a,dR kvs (cc (tx o))=some (.ref a)∧H a=some (.lst ((g o).map T)):=by
 induction h with
 | nil=>cases ho
 | @cons o' a _ _ e _ ih =>
  by_cases hoo:o'=o
  ·subst hoo
   exact⟨a,dA rfl,e⟩
  ·obtain⟨b,h1,h2⟩:=ih ((aw.mp ho).resolve_left (Ne.symm hoo))
   exact⟨b,by rw[cV (fun z=>hoo (hZ (j7 z)))];exact h1,h2⟩
theorem rM {H G:Hp}{D:Addr}(s:aL H G)(h:G D=none):H D=none:=by
 cases e:H D with
 | none=>rfl
 | some o=>exact absurd ((s D o e).symm.trans h) (fun z=>nomatch z)
def kR (ls:List (List Nat))(g:List Nat->List (List Nat)):List (List Int):=ls.map fun t=>vS ls t (g t)
def xN (K:af):Sp:=fun vs H Q _=>∃ (a:Addr) (ls:List (List Nat)) (kvs:List (Key×V)) (g:List Nat->List (List Nat)),vs=[.ref a]∧H a=some (.dK kvs)∧bI H g ls kvs∧(ls.length<=64∧∀ o∈ls,(g o).length<=200∧∀ x∈g o,1<=x.length∧x.length<=1000) ∧
 Ck (kR ls g) ls.length∧2*Dt.pL ((kR ls g).map (Dt.rs ls.length))<Dt.md 7∧∀ H',aL H H'->Q (.int (Dt.det ls.length (Dt.ent (kR ls g)))) H'
theorem nD {f:Addr}{fd:FuncData}(F:Fun K "choices_counted" "choices_counted" eO f fd)(tt:Txt K mg ad)(C_determinant:Cal P w K mg base (CX1 P w) "determinant" 3 ["square"] (Ty K))(C_choice_row:Cal P w K mg base (CX1 P w) "choice_row" 2 ["texts", "text", "words"] (Nl K)) :
  bN P w K mg base (CX1 P w) 4 f fd ["ways"] (xN K):=by
 refine F.okN iJ (fun vs H Q E h=>?_) (fun cdv A outer s H vs Q E hr h=>?_)
 ·obtain⟨a,ls,kvs,g,rfl,_⟩:=h
  rfl
 ·obtain⟨a,ls,kvs,g,rfl,hd,hwa,⟨h64,hg⟩,hsq,hpl,q⟩:=h
  have hs:sizeLine=16777216:=sizeLine_eq;refine⟨_,(aB (aI (i:=1) iJ.nd rfl (Or.inr rfl) (dH (Ew rfl) (by rfl) tt.b_list (by decide +kernel) (aA (pv 0) aC)))
   (aE (aS (aK C_determinant hr aN (aA (fB lF rfl (cG (pv 1)) (fun cl C s' H' fp=>(aK C_choice_row hr aN (aA (pv 2) (aA (pv 0) (aA (oR (eA hr) (pv 1) (pv 0) (fun _ _=>rfl)) aC)))))) aC))))),?_⟩
  (try rw[bV]);(try rw[cxK1])
  refine⟨_,rfl,a,ls,kvs,rfl,hd,hwa.keys,fun D1 hD1=>?_⟩;have s1:=aM (o:=.lst (ls.map T)) hD1;refine⟨_,rfl,D1,rfl,⟨_,SqL.of aD⟩,?_⟩;refine Uv (K:=K) (fun v=>vS ls (unT v) (g (unT v))) (cT (SqL.of aD)) (by rw[aR];omega) (fun v G hv sg N hN=>?_) fun D2 bs G2 hD2 s2 hd2 hne2 hR2=>?_
  ·obtain⟨t,ht,rfl⟩:=a5.mp hv
   rw[fF] at hN;obtain⟨b,hb1,hb2⟩:=((hwa.mono s1).mono sg).get ht;have hget:iR G a (T t) (some (.ref b)):=by rw[<- hb1];exact iR.k (k:=cc (tx t)) (sg a _ (s1 a _ hd))
   have hgt:=hg t ht;exact⟨_,rfl,_,rfl,_,rfl,_,rfl,a,_,rfl,hget,D1,b,ls,g t,t,rfl,SqL.of (sg D1 _ aD),SqL.of hb2,⟨by omega,hgt.1,hgt.2⟩,fun D H' hD s' hd'=>hN D H' s' hD hd'⟩
  rw[show (ls.map T).map (fun v=>vS ls (unT v) (g (unT v)))=kR ls g from by
   unfold kR;rw[bx];refine br fun m _=>?_
   show vS ls (unT (T m)) (g (unT (T m)))=_;rw[fF]] at hR2
  exact⟨D2,bs,kR ls g,ls.length,rfl,SqL.of hd2,hR2,hsq,hpl,fun H' s'=>q H' ((s1.trans s2).trans s')⟩
def Kp (D:Addr)(H H':Hp):Prop:=∀ b o,b≠D->H b=some o->H' b=some o
theorem wZ {H:Hp}{g:List Nat->List (List Nat)}{ls:List (List Nat)}{kvs:List (Key×V)}(h:bI H g ls kvs){o:List Nat}(ho:o∉ls):dR kvs (cc (tx o))=none:=by
 induction h with
 | nil=>rfl
 | @cons o' a _ _ e _ ih =>
  rw[cV (fun z=>ho (by rw[hZ (j7 z)];exact ar ..))];exact ih fun z=>ho (am _ z)
theorem bI.cong {H:Hp}{g g':List Nat->List (List Nat)}{ls:List (List Nat)}{kvs:List (Key×V)}(h:bI H g ls kvs)(e:∀ t∈ls,g t=g' t):bI H g' ls kvs:=by
 induction h with
 | nil=>exact .nil
 | @cons o a _ _ e1 _ ih=>exact .cons (by rw[<- e o (ar ..)];exact e1) (ih fun t ht=>e t (am _ ht))
theorem Jg {words:List (List Nat)}{o:List Nat}:(vB words o).natAbs<=words.length:=by
 unfold vB
 have:=List.countP_le_length (p:=fun w=>decide (w.drop 1=o)) (l:=words)
 omega
theorem Na {texts words:List (List Nat)}{t:List Nat}{x:Int}(hx:x∈vS texts t words):x.natAbs<=words.length:=by
 obtain⟨o,_,rfl⟩:=a5.mp hx;have h1:=Jg (words:=words) (o:=t);have h2:=Jg (words:=words) (o:=o);have h3:0<=vB words t:=qy _;show (if o=t then ((words.length:Nat):Int)-vB words t else-vB words o).natAbs<=_;split <;> omega
theorem Mu {f:Nat->Nat}{c:Nat}:∀ {n:Nat},(∀ j,j<n->f j<=c)->Dt.sN n f<=n*c:=fun {n} h=>by
 have h1:Dt.sN n f<=Dt.sN n fun _=>1*c:=Dt.Ma fun j hj=>by rw[gy];exact h j hj
 have h2:∀ n:Nat,Dt.sN n (fun _=>1)=n:=fun n=>by
  induction n with
  | zero=>rfl
  | succ n ih=>show Dt.sN n (fun _=>1)+1=n+1;rw[ih]
 rw[Dt.Fv,h2] at h1;exact h1
theorem Qc {ls:List (List Nat)}{g:List Nat->List (List Nat)}(h64:ls.length<=64)(hg:∀ o∈ls,(g o).length<=64):Ck (kR ls g) ls.length∧2*Dt.pL ((kR ls g).map (Dt.rs ls.length))<Dt.md 7:=by
 have hrow:∀ r∈kR ls g,Dt.rs ls.length r<=4096:=fun r hr=>by
  obtain⟨t,ht,rfl⟩:=a5.mp hr;have h1:Dt.rs ls.length (vS ls t (g t))<=ls.length*64:=Mu fun j hj=>by
   have hl:j<(vS ls t (g t)).length:=by unfold vS;rw[aR];exact hj
   rw[ak,ac hl];exact az (Na (di hl)) (hg t ht)
  omega
 have hlen:(kR ls g).length=ls.length:=aR ..;refine⟨⟨hlen,fun r hr=>?_,h64,fun r hr=>az (hrow r hr) (by decide)⟩,?_⟩
 ·obtain⟨t,_,rfl⟩:=a5.mp hr
  exact aR ..
 ·have h1:=Dt.Ml (R:=4096) (l:=(kR ls g).map (Dt.rs ls.length)) fun x hx=>by
   obtain⟨r,hr,rfl⟩:=a5.mp hx;exact hrow r hr
  rw[aR,hlen] at h1;have h2:4096 ^ ls.length<=4096 ^ 64:=dm (by decide) h64;have h3:2*4096 ^ 64<Dt.md 7:=by decide +kernel
  exact gk (jh 2 (az h1 h2)) h3
theorem Ue {ts:List (List Nat)}(nd:ts.Nodup)(g:List Nat->List (List Nat)):Dt.det ts.length (Dt.ent (kR ts g))=((Dt.nC ts g:Nat):Int):=Dt.Us nd g
def Mh (K:af):Sp:=fun vs H Q _=>∃ (a:Addr) (ms:List (List Nat)) (one other:List Nat),vs=[.ref a,T one,T other]∧SqA K H a (ms.map T)∧(ms.length<=60∧∀ x∈ms,1<=x.length∧x.length<=1000)∧∀ (b:Bool) (H':Hp),aL H H'->(b=true↔Wd.Bal ms one other)->Q (.bl b) H'
theorem Ed {f:Addr}{fd:FuncData}(F:Fun K "is_even" "is_even" jP f fd)(tt:Txt K mg ad)(C_begin_of:Cal P w K mg base (CX1 P w) "begin_of" 1 ["word"] eU)(C_end_of:Cal P w K mg base (CX1 P w) "end_of" 1 ["word"] kQ):bN P w K mg base (CX1 P w) 2 f fd ["words", "one", "other"] (Mh K):=by
 refine F.okN mV (fun vs H Q E h=>?_) (fun cdv A outer s H vs Q E hr h=>?_)
 ·obtain⟨a,ms,one,other,rfl,_⟩:=h
  rfl
 ·obtain⟨a,ms,one,other,rfl,hS,⟨hl,hx⟩,q⟩:=h
  have hs:sizeLine=16777216:=sizeLine_eq;have hu:=gg (eA hr);refine⟨_,(aB (aI (i:=3) mV.nd rfl (Or.inl rfl) (aQ sR (fB yW rfl (zB K rfl (pv 0)) (fun cl C s' H' fp=>(aK C_begin_of hr aN (aA (pv 0) aC)))) (dF (aA (pv 2) aC))))
   (aB (aI (i:=4) mV.nd rfl (Or.inl rfl) (aQ sR (fB zK rfl (zB K rfl (pv 0)) (fun cl C s' H' fp=>(aK C_end_of hr aN (aA (pv 0) aC)))) (dF (aA (pv 1) aC))))
   (aE (aS (nR (nZ hu) (aO gB (by rfl) tt.b_sorted dw (aA (pv 3) aC)) (aO gB (by rfl) tt.b_sorted dw (aA (pv 4) aC)) (aY _)))))),?_⟩
  (try rw[bV]);(try rw[cxK1])
  refine⟨_,rfl,a,ms.map T,_,rfl,hS,aL.refl _,fun J rd=>?_⟩;refine oX (fun v=>T (beg (unT v))) rd (by rw[aR];omega) (fun v G hv sg N hN=>?_) fun D1 H1 hD1 s1 hd1=>?_
  ·obtain⟨l,hl,rfl⟩:=a5.mp hv
   have z:=hN G (aL.refl _);rw[fF] at z;have hx:=hx l hl;exact⟨_,rfl,l,rfl,⟨by omega,by omega⟩,z⟩
  rw[oV (f:=fun l=>T (beg l)),show ms.map (fun l=>T (beg l))=(ms.map beg).map T by rw[bx];rfl] at hd1;refine⟨_,rfl,(by show 1<=sizeLine;omega),fun e1 he1=>?_⟩;have t1:=aM (o:=.lst [T other]) he1;refine⟨D1,e1,_,_,rfl,rfl,SqL.of (t1 D1 _ hd1),SqL.of aD,(by rw[aR,aR];show _+1<=sizeLine;omega),fun D2 hD2=>?_⟩;have t2:=s1.trans (t1.trans (aM (o:=.lst ((ms.map beg).map T++[T other])) hD2));have hd2:upd (upd H1 e1 (.lst [T other])) D2 (.lst ((ms.map beg).map T++[T other])) D2=some (.lst ((ms.map beg++[other]).map T)):=by rw[aD,bh];rfl
  generalize upd (upd H1 e1 (.lst [T other])) D2 (.lst ((ms.map beg).map T++[T other]))=H2 at t2 hd2;refine⟨_,rfl,a,ms.map T,_,rfl,hS.on t2,aL.refl _,fun J rd=>?_⟩;refine oX (fun v=>T ((unT v).drop 1)) rd (by rw[aR];omega) (fun v G hv sg N hN=>?_) fun D3 H3 hD3 s3 hd3=>?_
  ·obtain⟨l,hl,rfl⟩:=a5.mp hv
   have z:=hN G (aL.refl _);rw[fF] at z;have hx:=hx l hl;exact⟨_,rfl,l,rfl,⟨by omega,by omega⟩,z⟩
  rw[oV (f:=fun l=>T (l.drop 1)),show ms.map (fun l=>T (l.drop 1))=(ms.map fun l=>l.drop 1).map T by rw[bx];rfl] at hd3;refine⟨_,rfl,(by show 1<=sizeLine;omega),fun e2 he2=>?_⟩;have t3:=aM (o:=.lst [T one]) he2;refine⟨D3,e2,_,_,rfl,rfl,SqL.of (t3 D3 _ hd3),SqL.of aD,(by rw[aR,aR];show _+1<=sizeLine;omega),fun D4 hD4=>?_⟩;have t4:=s3.trans (t3.trans (aM (o:=.lst ((ms.map fun l=>l.drop 1).map T++[T one])) hD4));have hd4:upd (upd H3 e2 (.lst [T one])) D4 (.lst ((ms.map fun l=>l.drop 1).map T++[T one])) D4=some (.lst (((ms.map fun l=>l.drop 1)++[one]).map T)):=by rw[aD,bh];rfl
  generalize upd (upd H3 e2 (.lst [T one])) D4 (.lst ((ms.map fun l=>l.drop 1).map T++[T one]))=H4 at t4 hd4;refine⟨_,rfl,D2,ms.map beg++[other],rfl,SqL.of (t4 D2 _ hd2),(by rw[ai,aR];show _+1<64;omega),fun so1 E1 hE1 hp1 hw1=>?_⟩;have t5:=aM (o:=.lst (so1.map T)) hE1;refine⟨_,rfl,D4,(ms.map fun l=>l.drop 1)++[one],rfl,SqL.of (t5 D4 _ hd4),(by rw[ai,aR];show _+1<64;omega),fun so2 E2 hE2 hp2 hw2=>?_⟩;have t6:=aM (o:=.lst (so2.map T)) hE2;refine⟨E1,E2,so1,so2,rfl,rfl,SqL.of (t6 E1 _ aD),SqL.of aD,?_⟩;refine q _ _ (t2.trans (t4.trans (t5.trans t6))) ?_;rw[decide_eq_true_iff,<- Dt.Sg];constructor
  ·intro e
   subst e;exact hp1.symm.trans hp2
  ·intro h
   exact Wd.gW (hp1.trans (oy h hp2.symm)) hw1 hw2
theorem bI.app {G:Hp}{g:List Nat->List (List Nat)}{ts:List (List Nat)}{kvs:List (Key×V)}{t x:List Nat}{b:Addr}(h:bI G g ts kvs):ts.Nodup->(kvs.map (·.2)).Nodup->t∈ts->dR kvs (cc (tx t))=some (.ref b)->bI (upd G b (.lst ((g t++[x]).map T))) (fun u=>if u=t then g t++[x] else g u) ts kvs:=by
 have vm:∀ {kvs:List (Key×V)} {k:Key} {v:V},dR kvs k=some v->v∈kvs.map (·.2):=fun {kvs k v}=>by
  induction kvs with
  | nil=>intro e;cases e
  | cons kv kvs ih =>
   intro e;obtain⟨k',v'⟩:=kv;by_cases hk:k'=k
   ·rw[dA hk] at e
    cases e;exact ar ..
   ·rw[cV hk] at e
    exact am _ (ih e)
 have no:∀ {ts:List (List Nat)} {kvs:List (Key×V)},bI G g ts kvs->t∉ts->V.ref b∉kvs.map (·.2)->bI (upd G b (.lst ((g t++[x]).map T))) (fun u=>if u=t then g t++[x] else g u) ts kvs:=fun {ts kvs} h=>by
  induction h with
  | nil=>intro _ _;exact .nil
  | @cons o a _ _ e _ ih =>
   intro h1 h2;have hne:o≠t:=fun z=>h1 (z▸ar ..)
   have hab:a≠b:=fun z=>h2 (z▸ar ..)
   exact .cons (by rw[aG hab,if_neg hne];exact e) (ih (fun z=>h1 (am _ z)) fun z=>h2 (am _ z))
 induction h with
 | nil=>intro _ _ h;cases h
 | @cons o a _ _ e hr ih =>
  intro nd nv ht hv;rw[cy] at nd;rw[au,cy] at nv;by_cases hot:o=t
  ·subst hot
   rw[dA rfl] at hv;cases hv;exact .cons (by rw[aD,if_pos rfl]) (no hr nd.1 nv.1)
  ·rw[cV (fun z=>hot (hZ (j7 z)))] at hv
   have hab:a≠b:=fun z=>nv.1 (z▸vm hv)
   exact .cons (by rw[aG hab,if_neg hot];exact e) (ih nd.2 nv.2 ((aw.mp ht).resolve_left (Ne.symm hot)) hv)
theorem Gq {us:List (List Nat)}{x t:List Nat}:Dt.og (us++[x]) t=if t=beg x then Dt.og us t++[x] else Dt.og us t:=by
 unfold Dt.og;rw[ju];by_cases h:t=beg x
 ·rw[if_pos h,dj (p:=fun w=>decide (Wd.beg w=t)) (decide_eq_true h.symm),l7]
 ·rw[if_neg h,c9 (p:=fun w=>decide (Wd.beg w=t)) (fun z=>h (of_decide_eq_true z).symm),l7,du]
def Go (K:af):Sp:=fun vs H Q _=>∃ (a:Addr) (ms:List (List Nat)),vs=[.ref a]∧SqA K H a (ms.map T)∧(ms.length<=1000∧∀ x∈ms,1<=x.length∧x.length<=1000)∧∀ (D:Addr) (kvs:List (Key×V)) (ts:List (List Nat)) (H':Hp),H D=none->aL H H'->H' D=some (.dK kvs)->bI H' (Dt.og ms) ts kvs->ts.Nodup->(∀ t,t∈ts↔∃ x∈ms,beg x=t)->Q (.ref D) H'
theorem Db {f:Addr}{fd:FuncData}(F:Fun K "by_begin" "by_begin" nB f fd)(tt:Txt K mg ad)(C_begin_of:Cal P w K mg base (CX1 P w) "begin_of" 1 ["word"] eU):bN P w K mg base (CX1 P w) 2 f fd ["words"] (Go K):=by
 refine F.okN lC (fun vs H Q E h=>?_) (fun cdv A outer s H vs Q E hr h=>?_)
 ·obtain⟨a,ms,rfl,_⟩:=h
  rfl
 ·obtain⟨a,ms,rfl,hS,⟨hl,hx⟩,q⟩:=h
  have hs:sizeLine=16777216:=sizeLine_eq;refine⟨_,(aB (aI (i:=1) lC.nd rfl (Or.inl rfl) uW)
   (aB (cN PassesOwn.never rfl (zB K rfl (pv 0)) (bD (i:=2) lC.nd rfl (Or.inl rfl)) (aE (eL (vN ed g9 h9 gO (Ex (pv 1) (aK C_begin_of hr aN (aA (pv 2) aC)) (dF aC) ⟨rfl,rfl,rfl,rfl⟩) (aA (pv 2) aC)))))
   (aE (aS (pv 1))))),?_⟩
  (try rw[bV]);(try rw[cxK1])
  refine fun D hD=>?_
  have sD:=aM (o:=.dK []) hD;refine⟨_,rfl,a,ms.map T,_,rfl,hS,sD,fun J rd=>?_⟩;refine Ks rd (fun i σ G=>aL H G∧∃ (kvs:List (Key×V)) (ts:List (List Nat)) (v2:Option V),G D=some (.dK kvs)∧bI G (Dt.og (ms.take i)) ts kvs∧ts.Nodup∧(kvs.map (·.2)).Nodup∧(∀ b,V.ref b∈kvs.map (·.2)->H b=none)∧ts.length<=i∧(∀ t,t∈ts↔∃ x∈ms.take i,beg x=t)∧σ=[some (.ref a),some (.ref D),v2])
   ⟨sD,[],[],none,aD,.nil,ig,ig,fun b h=>(nomatch h),ah _,fun t=>⟨fun h=>(nomatch h),fun ⟨x,h,_⟩=>by rw[ix] at h;cases h⟩,rfl⟩ (fun i σ G _ h=>h.1) ?_ ?_
  ·rintro i y σ G hi ⟨sG,kvs,ts,v2,hd,hwa,nd,nv,hf,hlt,hm,rfl⟩
   obtain⟨x,hxi,rfl⟩:∃ x,ms[i]?=some x∧T x=y:=by rw[ag] at hi;exact bj.mp hi
   have hil:=(al.mp hxi).1;have hxx:=hx x (aq hxi);have htk:ms.take (i+1)=ms.take i++[x]:=by rw[cx,hxi];rfl
   have hm2:∀ t,(∃ y∈ms.take (i+1),beg y=t)↔(∃ y∈ms.take i,beg y=t)∨t=beg x:=fun t=>by
    rw[htk];constructor
    ·rintro⟨y,h1,h2⟩
     rcases bt.mp h1 with z | z
     ·exact .inl ⟨y,z,h2⟩
     ·rw[ax.mp z] at h2
      exact .inr h2.symm
    ·rintro (⟨y,h1,h2⟩ | h)
     ·exact⟨y,fi _ h1,h2⟩
     ·exact⟨x,bn _ (ax.mpr rfl),h.symm⟩
   have hgl:∀ t,(Dt.og (ms.take i) t).length<=1000:=fun t=>az (cj ..) (by rw[b8];omega)
   refine⟨_,rfl,D,rfl,⟨_,hd⟩,_,rfl,x,rfl,⟨hxx.1,hxx.2⟩,(by show 0<=sizeLine;omega),fun e he=>?_⟩;have s1:=aM (o:=.lst []) he;have h1:upd G e (.lst []) e=some (.lst []):=aD;have heH:H e=none:=rM sG he;have heD:e≠D:=fun z=>by rw[z,hd] at he;cases he
   have hd1:=s1 D _ hd;have hwa1:=hwa.mono s1;have sG1:=sG.trans s1;have hev:V.ref e∉kvs.map (·.2):=fun z=>by
    have key:∀ {ts:List (List Nat)} {kvs:List (Key×V)},bI G (Dt.og (ms.take i)) ts kvs->V.ref e∉kvs.map (·.2):=fun {ts kvs} h=>by
     induction h with
     | nil=>intro z;cases z
     | @cons o a' _ _ e1 _ ih =>
      intro z;rcases aw.mp z with z | z
      ·cases z;rw[he] at e1;cases e1
      ·exact ih z
    exact key hwa z
   generalize upd G e (.lst [])=G1 at s1 h1 hd1 hwa1 sG1;refine⟨kvs,cc (tx (beg x)),hd1,rfl,by rw[hwa.len];omega,fun v hv=>?_,fun hn=>?_⟩
   ·have hol:beg x∈ts:=Decidable.byContradiction fun z=>by rw[wZ hwa z] at hv;cases hv
    obtain⟨b,hb1,hb2⟩:=hwa1.get hol;obtain rfl:v = .ref b:=by rw[hb1] at hv;exact (ay hv).symm
    have hbH:=hf b (by
     have vm:∀ {kvs:List (Key×V)} {k:Key} {v:V},dR kvs k=some v->v∈kvs.map (·.2):=fun {kvs k v}=>by
      induction kvs with
      | nil=>intro e;cases e
      | cons kv kvs ih =>
       intro e;obtain⟨k',v'⟩:=kv;by_cases hk:k'=k
       ·rw[dA hk] at e;cases e;exact ar ..
       ·rw[cV hk] at e;exact am _ (ih e)
     exact vm hv)
    have hbD:b≠D:=fun z=>by rw[z,hd1] at hb2;cases hb2
    refine⟨.inl ⟨rfl,_,SqL.of hb2⟩,_,rfl,b,_,_,rfl,rfl,hb2,(by rw[aR];have:=hgl (beg x);omega),?_⟩;have hw2:=hwa1.app (x:=x) nd nv hol hb1;refine⟨fun b' o e'=>by rw[aG (fun z=>by rw[z,hbH] at e';cases e')];exact sG1 b' o e',kvs,ts,_,by rw[aG hbD.symm];exact hd1,?_,nd,nv,hf,by omega,fun t=>?_,rfl⟩
    ·rw[bh] at hw2
     refine hw2.cong fun t _=>?_
     rw[htk,Gq];by_cases z:t=beg x
     ·rw[if_pos z,if_pos z,z]
     ·rw[if_neg z,if_neg z]
    ·rw[hm2,hm]
     exact⟨.inl,fun h=>h.elim id fun z=>z▸(hm _).mp hol⟩
   ·have hol:beg x∉ts:=fun z=>by obtain⟨a,h1,_⟩:=hwa1.get z;rw[h1] at hn;cases hn
    have hep:upd G1 D (.dK (fU kvs (cc (tx (beg x))) (.ref e))) e=some (.lst []):=by rw[aG heD];exact h1
    refine⟨.inl ⟨rfl,_,SqL.of hep⟩,_,rfl,e,_,_,rfl,rfl,hep,(by show 0<sizeLine;omega),?_⟩;have hpk:fU kvs (cc (tx (beg x))) (.ref e)=kvs++[(cc (tx (beg x)),.ref e)]:=by
     unfold fU;rw[if_neg];intro z;obtain⟨kv,z1,z2⟩:=sq.mp z;have h3:kv.1∈kvs.map (·.1):=gb z1;rw[hwa.keys,of_decide_eq_true z2] at h3;obtain⟨t,h4,h5⟩:=a5.mp h3;exact hol (hZ (j7 h5)▸h4)
    have og0:Dt.og (ms.take i) (beg x)=[]:=fu.mpr fun u hu z=>hol ((hm _).mpr ⟨u,hu,of_decide_eq_true z⟩)
    have hne:∀ b' o,H b'=some o->b'≠e∧b'≠D:=fun b' o e'=>⟨fun z=>(by rw[z,heH] at e';cases e'),fun z=>(by rw[z,hD] at e';cases e')⟩
    refine⟨fun b' o e'=>by rw[aG (hne b' o e').1,aG (hne b' o e').2];exact sG1 b' o e',_,ts++[beg x],_,by rw[aG heD.symm];exact aD,?_,?_,?_,?_,by rw[ai];show _+1<=_;omega,fun t=>?_,rfl⟩
    ·have hw2:bI (upd (upd G1 D (.dK (fU kvs (cc (tx (beg x))) (.ref e)))) e (.lst ([]++[T x]))) (fun t=>if t=beg x then [x] else Dt.og (ms.take i) t) ts kvs:=by
      have hw3:=hwa1.updD (o:=.dK (fU kvs (cc (tx (beg x))) (.ref e))) hd1;have key:∀ {G':Hp} {ts:List (List Nat)} {kvs:List (Key×V)},bI G' (Dt.og (ms.take i)) ts kvs->V.ref e∉kvs.map (·.2)->beg x∉ts->bI (upd G' e (.lst ([]++[T x]))) (fun t=>if t=beg x then [x] else Dt.og (ms.take i) t) ts kvs:=fun {G' ts kvs} h=>by
       induction h with
       | nil=>intro _ _;exact .nil
       | @cons o a' _ _ e1 _ ih =>
        intro z1 z2;have n1:a'≠e:=fun z=>z1 (z▸ar ..)
        have n2:o≠beg x:=fun z=>z2 (z▸ar ..)
        exact .cons (by rw[aG n1,if_neg n2];exact e1) (ih (fun z=>z1 (am _ z)) fun z=>z2 (am _ z))
      exact key hw3 hev hol
     rw[hpk];rw[hpk] at hw2;refine (hw2.snoc (a:=e) (by rw[aD,if_pos rfl];rfl)).cong fun t _=>?_
     rw[htk,Gq];by_cases z:t=beg x
     ·rw[if_pos z,if_pos z,z,og0];rfl
     ·rw[if_neg z,if_neg z]
    ·exact ge.mpr ⟨nd,by simp,fun a' ha c hc z=>hol (by rw[<- ax.mp hc,<- z];exact ha)⟩
    ·rw[hpk,bh]
     exact ge.mpr ⟨nv,by simp,fun a' ha c hc z=>hev (by have hc:c=V.ref e:=ax.mp hc;rw[<- hc,<- z];exact ha)⟩
    ·intro b hb
     rw[hpk,bh] at hb;rcases bt.mp hb with z | z
     ·exact hf b z
     ·have z:V.ref b=V.ref e:=ax.mp z
      cases z;exact heH
    ·rw[hm2,bt,hm,ax]
  ·rintro σ G ⟨sG,kvs,ts,v2,hd,hwa,nd,nv,hf,hlt,hm,rfl⟩
   rw[aR,c8] at hwa;rw[aR,c8] at hm;exact⟨_,rfl,q D kvs ts G hD sG hd hwa nd hm⟩
def Qe:Sp:=fun vs H Q _=>∃ (k:Nat),vs=[.int (k:Nat)]∧k<=1000∧Q (.int (Dt.fct k:Nat)) H
theorem pS {f:Addr}{fd:FuncData}(F:Fun K "product_up_to" "product_up_to" hG f fd)(tt:Txt K mg ad):bN P w K mg base (CX1 P w) 1 f fd ["many"] Qe:=by
 refine F.okN eW (fun vs H Q E h=>?_) (fun cdv A outer s H vs Q E hr h=>?_)
 ·obtain⟨k,rfl,_⟩:=h
  rfl
 ·obtain⟨k,rfl,hk,q⟩:=h
  refine⟨_,(aB (aI (i:=1) eW.nd rfl (Or.inl rfl) aH)
   (aB (cN PassesOwn.never rfl (Km (by rfl) tt.b_range (aA aH (aA (aQ eC (pv 0) aH) aC))) (bD (i:=2) eW.nd rfl (Or.inl rfl)) (aE (aI (i:=1) eW.nd rfl (Or.inl rfl) (aQ kG (pv 1) (pv 2)))))
   (aE (aS (pv 1))))),?_⟩
  (try rw[bV]);(try rw[cxK1])
  refine⟨_,rfl,_,_,rfl,rfl,_,_,rfl,⟨by decide,by decide,by omega,by omega⟩,?_⟩;rw[show (((k:Nat):Int)+1-1).toNat=k by omega];refine fP (fun j σ G=>G=H∧∃ v2:Option V,σ=[some (.int (k:Nat)),some (.int (Dt.fct j:Nat)),v2]) ⟨rfl,none,rfl⟩ ?_ ?_
  ·rintro j σ G hj ⟨rfl,v2,rfl⟩
   refine⟨_,rfl,_,rfl,_,_,rfl,rfl,.inr ⟨by omega,by omega⟩,rfl,some (.int (1+(j:Int))),?_⟩;show [_,some (V.int (((Dt.fct j:Nat):Int)*(1+(j:Int)))),_]=[_,some (V.int (((j+1)*Dt.fct j:Nat):Int)),_];rw[show (((j+1)*Dt.fct j:Nat):Int)=((Dt.fct j:Nat):Int)*(1+(j:Int)) by rw[fk,g7,jv,Int.add_comm];rfl]
  ·rintro σ G ⟨rfl,v2,rfl⟩
   exact⟨_,rfl,q⟩
theorem bI.drop {H:Hp}{g:List Nat->List (List Nat)}{ts:List (List Nat)}{kvs:List (Key×V)}{o:List Nat}(h:bI H g ts kvs):bI H g (ts.filter fun t=>decide (t≠o)) (vF kvs (cc (tx o))):=by
 unfold vF
 induction h with
 | nil=>exact .nil
 | @cons o' a _ _ e _ ih =>
  by_cases z:o'=o
  ·subst z
   rw[c9 (by simp),c9 (by simp)];exact ih
  ·rw[dj (by simp[z]),dj (by
    have:(cc (tx o'):Key)≠cc (tx o):=fun y=>z (hZ (j7 y))
    simp[this])]
   exact .cons e ih
theorem Pw {n:Nat}(h:n<=64 ^ 200):Bg ((n:Nat):Int):=by
 show ((n:Nat):Int).natAbs<2 ^ 8000;rw[fj];exact gk h (by
  rw[show (64:Nat)=2 ^ 6 from rfl,<- j9];exact lx (by decide) (by decide))
def lM (K:af):Sp:=fun vs H Q _=>∃ (a:Addr) (ms:List (List Nat)) (one other:List Nat),vs=[.ref a,T one,T other]∧SqA K H a (ms.map T)∧(ms.Nodup∧ms.length<=60∧∀ x∈ms,1<=x.length∧x.length<=1000)∧∀ (H':Hp),aL H H'->Q (.int (Dt.eN ms one other:Nat)) H'
theorem Fe {f:Addr}{fd:FuncData}(F:Fun K "ways_on" "ways_on" pG f fd)(tt:Txt K mg ad)(C_is_even:Cal P w K mg base (CX1 P w) "is_even" 2 ["words", "one", "other"] (Mh K))(C_by_begin:Cal P w K mg base (CX1 P w) "by_begin" 2 ["words"] (Go K))(C_product_up_to:Cal P w K mg base (CX1 P w) "product_up_to" 1 ["many"] Qe)(C_choices_counted:Cal P w K mg base (CX1 P w) "choices_counted" 4 ["ways"] (xN K)) :
  bN P w K mg base (CX1 P w) 5 f fd ["words", "one", "other"] (lM K):=by
 refine F.okN iV (fun vs H Q E h=>?_) (fun cdv A outer s H vs Q E hr h=>?_)
 ·obtain⟨a,ms,one,other,rfl,_⟩:=h
  rfl
 ·obtain⟨a,ms,one,other,rfl,hS,⟨hnd,hl,hx⟩,q⟩:=h
  have hs:sizeLine=16777216:=sizeLine_eq;refine⟨_,(aB (bR (zL (qH (aK C_is_even hr aN (aA (pv 0) (aA (pv 1) (aA (pv 2) aC)))))) (aE (aS aH)) aW)
   (aB (aI (i:=3) iV.nd rfl (Or.inl rfl) (aK C_by_begin hr aN (aA (pv 0) aC)))
   (aB (Tm (t':=(fun D σ H=>∃ (a d:Addr) (one other:List Nat) (ms ts:List (List Nat)) (kvs:List (Key×V)),σ=[some (.ref a),some (T one),some (T other),some (.ref d),none,none]∧H d=some (.dK kvs)∧bI H (Dt.og ms) ts kvs∧(∀ t,t∈ts↔∃ x∈ms,beg x=t)∧ms.length<=60∧∀ (H3:Hp) (k3:List (Key×V)),(∀ b o,b≠d->H b=some o->H3 b=some o)->H3 d=some (.dK k3)->bI H3 (Dt.og ms) (ts.filter fun t=>decide (t≠other)) k3->D.nx [some (.ref a),some (T one),some (T other),some (.ref d),some (.int (Dt.fct (Wd.cnt Wd.beg ms other):Nat)),none] H3)) (aI (i:=4) iV.nd rfl (Or.inl rfl) (aK C_product_up_to hr aN (aA (aO aX (by rfl) tt.b_len a7 (aA (Ng (pv 3) (pv 2) (dF aC) ⟨rfl,rfl,rfl,rfl⟩) aC)) aC))) ?rA)
   (aB (cN PassesOwn.never rfl (Si (pv 3)) (bD (i:=5) iV.nd rfl (Or.inl rfl)) (aE (aI (i:=4) iV.nd rfl (Or.inl rfl) (aQ eT (pv 4) (aK C_product_up_to hr aN (aA (aQ fW (aO aX (by rfl) tt.b_len a7 (aA (oR (eA hr) (pv 3) (pv 5) (fun _ _=>rfl)) aC)) aH) aC))))))
   (aE (aS (aQ eT (Qt (pv 4)) (aK C_choices_counted hr aN (aA (pv 3) aC))))))))),?_⟩
  (try rw[bV]);(try rw[cxK1])
  case rA =>
   rintro D0 σ G ⟨a,d,one,other,ms,ts,kvs,rfl,hd,hwa,hm,hl,nxt⟩;have hgl:(Dt.og ms other).length<=60:=az (cj ..) hl;refine⟨_,rfl,d,rfl,.inl ⟨_,.inl hd⟩,_,rfl,(by show 0<=sizeLine;omega),fun e he=>?_⟩;have s1:=aM (o:=.lst []) he;have h1:upd G e (.lst []) e=some (.lst []):=aD;have hed:e≠d:=fun z=>by rw[z,hd] at he;cases he
   generalize upd G e (.lst [])=G1 at s1 h1;have hwd:=(hwa.mono s1).drop (o:=other);refine⟨kvs,cc (tx other),s1 d _ hd,rfl,fun v hv=>?_,fun hn=>?_⟩
   ·have hol:other∈ts:=Decidable.byContradiction fun z=>by rw[wZ hwa z] at hv;cases hv
    obtain⟨b,hb1,hb2⟩:=(hwa.mono s1).get hol;obtain rfl:v = .ref b:=by rw[hb1] at hv;exact (ay hv).symm
    have hbd:b≠d:=fun z=>by rw[z,s1 d _ hd] at hb2;cases hb2
    refine⟨b,_,rfl,.inl (SqL.of (by rw[aG hbd];exact hb2)),(Dt.og ms other).length,congrArg (fun z=>[V.int z]) (by rw[aR]),by omega,?_⟩;exact nxt _ _ (fun b' o hb' e'=>by rw[aG hb'];exact s1 b' o e') aD (hwd.updD (s1 d _ hd))
   ·have hol:other∉ts:=fun z=>by obtain⟨b,h1,_⟩:=hwa.get z;rw[h1] at hn;cases hn
    have e0:Dt.og ms other=[]:=fu.mpr fun u hu z=>hol ((hm _).mpr ⟨u,hu,of_decide_eq_true z⟩)
    have e1:Wd.cnt Wd.beg ms other=0:=congrArg i7 e0;refine⟨e,_,rfl,.inl (SqL.of h1),0,rfl,by omega,?_⟩;rw[e1] at nxt;have ef:ts.filter (fun t=>decide (t≠other))=ts:=iq.mpr fun t ht=>decide_eq_true fun z=>hol (z▸ht)
    exact nxt G1 kvs (fun b' o _ e'=>s1 b' o e') (s1 d _ hd) (by rw[ef];exact hwa.mono s1)
  refine⟨_,rfl,_,rfl,_,rfl,a,ms,one,other,rfl,hS,⟨hl,hx⟩,fun b H1 s1 hb=>⟨_,rfl,?_⟩⟩;by_cases hbal:Wd.Bal ms one other
  ·obtain rfl:=hb.mpr hbal
   refine pD ?_;refine⟨_,rfl,a,ms,rfl,hS.on s1,⟨by omega,hx⟩,fun D kvs ts H2 hD s2 hd hwa nd hm=>?_⟩;have hDH:H D=none:=rM s1 hD;have hgl:∀ t,(Dt.og ms t).length<=60:=fun t=>az (cj ..) hl
   have htl:ts.length<=60:=by
    have z:ts.length<=(ms.map beg).length:=nd.length_le_of_subset fun z hz=>by
     obtain⟨w,hw,h⟩:=(hm z).mp hz;exact h▸gb hw
    rw[aR] at z;omega
   refine⟨a,D,one,other,ms,ts,kvs,rfl,hd,hwa,hm,hl,fun H3 k3 k23 hd3 hwa3=>?_⟩;have s3:aL H H3:=fun b o e=>k23 b o (aJ e hDH) (s2 b o (s1 b o e))
   obtain⟨us,hus⟩:∃ us,us=ts.filter fun t=>decide (t≠other):=⟨_,rfl⟩
   rw[<- hus] at hwa3;have ndu:us.Nodup:=hus▸nd.sublist ff;have hul:us.length<=60:=az (hus▸cj ..) htl;have hum:∀ t,t∈us↔t≠other∧∃ x∈ms,beg x=t:=fun t=>by rw[hus,cf,hm,decide_eq_true_iff];exact⟨fun h=>⟨h.2,h.1⟩,fun h=>⟨h.2,h.1⟩⟩
   have hcb:Dt.fct (Wd.cnt Wd.beg ms other)<=64 ^ 60:=az (Dt.zI (az (hgl other) (by decide))) (dm (by decide) (hgl other));have hpb:∀ l:List (List Nat),l.Nodup->Dt.pF (Wd.cnt Wd.beg ms) l<=64 ^ 60:=fun l hl'=>az (Dt.Ua fun t _=>az (hgl t) (by decide)) (dm (by decide) (az (Dt.zC hl') hl))
   have hob:∀ l:List (List Nat),l.Nodup->Bg ((Dt.fct (Wd.cnt Wd.beg ms other)*Dt.pF (Wd.cnt Wd.beg ms) l:Nat):Int):=fun l hl'=>Pw (az (ib hcb (hpb l hl')) (by rw[<- jp];exact dm (by decide) (by decide)))
   have hklen:=hwa3.len;refine⟨_,rfl,D,k3,rfl,hd3,fun o=>?_⟩;have hfr:upd H3 D (.frz o (.dK k3)) D=some (.frz o (.dK k3)):=aD;have hwf:bI (upd H3 D (.frz o (.dK k3))) (Dt.og ms) us k3:=hwa3.updD hd3;refine Ol (fun i σ G=>G=upd H3 D (.frz o (.dK k3))∧∃ v5:Option V,σ=[some (.ref a),some (T one),some (T other),some (.ref D),some (.int (Dt.fct (Wd.cnt Wd.beg ms other)*Dt.pF (Wd.cnt Wd.beg ms) (us.take i):Nat)),v5]) ⟨rfl,none,by rw[ix];show _=[_,_,_,_,some (V.int ((Dt.fct (Wd.cnt Wd.beg ms other)*1:Nat):Int)),_];rw[p0]⟩ (fun i σ G _ h=>by rw[h.1];exact hfr) ?_ ?_
   ·rintro i kv σ G hi ⟨rfl,v5,rfl⟩
    have hik:(k3.map (·.1))[i]?=some kv.1:=by rw[ag,hi];rfl
    rw[hwa3.keys,ag] at hik;obtain⟨t,hti,hkt⟩:=bj.mp hik;rw[show kV kv.1=T t by rw[<- hkt];rfl];have htk:us.take (i+1)=us.take i++[t]:=by rw[cx,hti];rfl
    have htu:=aq hti;obtain⟨b,hb1,hb2⟩:=hwf.get htu;have hpos:0<(Dt.og ms t).length:=by
     obtain⟨_,x,h1,h2⟩:=(hum t).mp htu;exact fo (Dt.dC.mpr ⟨h1,h2⟩)
    have hgt:=hgl t;refine⟨_,rfl,_,rfl,_,rfl,D,_,rfl,.inl ⟨k3,cc (tx t),.inr ⟨o,hfr⟩,rfl,hb1.symm⟩,b,_,rfl,.inl (SqL.of hb2),_,_,rfl,rfl,(Dt.og ms t).length-1,congrArg (fun z=>[V.int z]) (by rw[aR];omega),by omega,_,_,rfl,rfl,⟨hob _ (ndu.sublist (m4 i us)),Pw (az (Dt.zI (by omega)) (dm (by decide) (by omega)))⟩,?_⟩;refine⟨rfl,some (T t),?_⟩;rw[htk,Dt.Ii,<- eg,fk];rfl
   ·rintro σ G ⟨rfl,v5,rfl⟩
    rw[hklen,c8];refine⟨_,rfl,D,o,k3,hfr,hDH,?_⟩;have back:upd (upd H3 D (.frz o (.dK k3))) D (.dK k3)=H3:=by
     rw[yP]
     funext b
     by_cases hb:b=D
     ·subst hb
      rw[aD,hd3]
     ·rw[aG hb]
    rw[back];obtain⟨hsq,hpl⟩:=Qc (ls:=us) (g:=Dt.og ms) (by omega) fun t _=>az (hgl t) (by decide)
    refine⟨_,rfl,D,us,k3,Dt.og ms,rfl,hd3,hwa3,⟨by omega,fun t _=>⟨az (hgl t) (by decide),fun y hy=>hx y (cf.mp hy).1⟩⟩,hsq,hpl,fun H4 s4=>?_⟩;rw[Ue ndu];have hcn:Dt.nC us (Dt.og ms)<=64 ^ 60:=az Dt.Xt (az (dm (by decide) (az (Dt.zC ndu) hl)) (Nat.pow_le_pow_left (by decide) 60));refine⟨_,_,rfl,rfl,⟨hob us ndu,Pw (az hcn (dm (by decide) (by decide)))⟩,?_⟩;have e:=Dt.Qs ms.length rfl hnd hbal (ts:=us) ⟨ndu,hum⟩;have z:=q H4 (s3.trans s4);rw[e] at z;unfold Dt.bst at z;rw[fk] at z;exact z
  ·cases b with
   | true=>exact absurd (hb.mp rfl) hbal
   | false =>
    refine zF ?_
    have:=q H1 s1
    rw[Dt.Kj hnd hbal] at this;exact this
def lZ (K:af):Sp:=fun vs H Q _=>∃ (a:Addr) (ls:List (List Nat)) (w:List Nat),vs=[.ref a,T w]∧SqL K H a (ls.map T)∧ls.length<=1000∧∀ (D:Addr) (H':Hp),H D=none->aL H H'->H' D=some (.lst ((Dt.rm ls w).map T))->Q (.ref D) H'
theorem Fx {f:Addr}{fd:FuncData}(F:Fun K "without" "without" mF f fd)(tt:Txt K mg ad):bN P w K mg base (CX1 P w) 1 f fd ["words", "word"] (lZ K):=by
 refine F.okN Fz (fun vs H Q E h=>?_) (fun cdv A outer s H vs Q E hr h=>?_)
 ·obtain⟨a,ls,wd,rfl,_⟩:=h
  rfl
 ·obtain⟨a,ls,wd,rfl,hS,hl,q⟩:=h
  have hs:sizeLine=16777216:=sizeLine_eq;refine⟨_,(aE (aS (vL Aa rfl (cG (pv 0)) (fun cl C s' H' fp=>(aU Hh (pv 0) (pv 2) (aY _))) (fun cl C s' H' fp=>(pv 0))))),?_⟩
  (try rw[bV]);(try rw[cxK1])
  refine⟨_,rfl,a,rfl,⟨_,hS⟩,?_⟩;refine qM (fun v=>!decide (unT v=wd)) (fun v=>v) (cT hS) (by rw[aR];omega) (fun v G5 hv s5 N hN=>?_) (fun v G5 hv hp s5 N hN=>?_) fun D5 G5 hD5 s5 hd5=>?_
  ·obtain⟨l,hl,rfl⟩:=a5.mp hv
   have z:=hN G5 (aL.refl _);rw[fF] at z;exact⟨_,rfl,_,rfl,_,rfl,_,rfl,_,rfl,z⟩
  ·exact⟨_,rfl,hN G5 (aL.refl _)⟩
  ·refine q D5 G5 hD5 s5 ?_
   rw[hd5,show (ls.map T).filter (fun v=>!decide (unT v=wd))=(ls.filter fun o=>!decide (o=wd)).map T from fJ (p:=fun o=>!decide (o=wd)) ls,r6];rfl
theorem Ap {w:List Nat}(h:1<=w.length):atI w (-1)=some (Wd.aV w):=by
 show (ixN w.length (-1)).bind _=_;unfold ixN;rw[if_neg (by decide),if_pos (by omega),show ((-1:Int)+((w.length:Nat):Int)).toNat=w.length-1 by omega];show w[w.length-1]?=_;unfold Wd.aV;rw[ak,ac (by omega)];rfl
def IsP (ms:List (List Nat))(z:List Nat):Prop:=∃ w∈ms,z=beg w∨z=w.drop 1
theorem Nc {k:Nat}{ls ps:List (List Nat)}{p:List Nat}(h:Oq k ls)(hn:ps.Nodup)(hm:∀ z∈ps,z=p∨IsP ls z):ps.length<=k+1:=by
 obtain⟨qs,h1,h2⟩:=h
 have:=Hg.pJ (ms:=p::qs) hn fun z hz=>by
  rcases hm z hz with rfl | ⟨w,hw,rfl | rfl⟩
  ·exact ar ..
  ·exact am _ (h2 w hw).1
  ·exact am _ (h2 w hw).2
 rw[av] at this;omega
theorem Tw {ls ps:List (List Nat)}{p:List Nat}(h:Few ls)(hn:ps.Nodup)(hm:∀ z∈ps,z=p∨IsP ls z):ps.length<64:=by
 have:=Nc h hn hm
 omega
def nN (C:Addr):Sp:=fun vs H Q _=>∃ (x tp:Addr) (n:Nat) (ms:List (List Nat)),vs=[.ref x]∧gX C H x tp n ms∧jS ms n ∧
 ∀ (D:Addr) (ps:List (List Nat)) (H':Hp),H D=none->aL H H'->H' D=some (.lst (ps.map T))->ps.Pairwise (fun a b=>¬ b<a)->ps.Nodup->(∀ z,z∈ps↔IsP ms z)->Q (.ref D) H'
theorem Jo {f:Addr}{fd:FuncData}(F:Fun K "pieces" "pieces" kY f fd)(tt:Txt K mg ad)(C_begin_of:Cal P w K mg base (CX1 P w) "begin_of" 1 ["word"] eU)(C_end_of:Cal P w K mg base (CX1 P w) "end_of" 1 ["word"] kQ) :
  bN P w K mg base (CX1 P w) 2 f fd ["web"] (nN ad.Web):=by
 refine F.okN Ko (fun vs H Q E h=>?_) (fun cdv A outer s H vs Q E hr h=>?_)
 ·obtain⟨x,tp,n,ms,rfl,_⟩:=h
  rfl
 ·obtain⟨x,tp,n,ms,rfl,hW,hok,q⟩:=h
  have hs:sizeLine=16777216:=sizeLine_eq;obtain⟨⟨dx,hx⟩,htp⟩:=id hW;obtain⟨hne,h64,hn,hxs,hnd⟩:=id hok;have ulen:∀ ls:List (List Nat),(uniq ls).length<=ls.length:=fun ls=>pU ls _
  refine⟨_,(aE (aS (aO (wH rfl) (by rfl) tt.b_sorted dw (aA (aQ Vo (dH (yK rfl) (by rfl) tt.b_set (by decide +kernel) (aA (fB Ci rfl (mY (bL (pv 0) rfl)) (fun cl C s' H' fp=>(aK C_begin_of hr aN (aA (pv 0) aC)))) aC)) (dH (yK rfl) (by rfl) tt.b_set (by decide +kernel) (aA (fB Cy rfl (mY (bL (pv 0) rfl)) (fun cl C s' H' fp=>(aK C_end_of hr aN (aA (pv 0) aC)))) aC))) aC)))),?_⟩
  (try rw[bV]);(try rw[cxK1])
  refine⟨_,rfl,x,ad.Web,dx,_,_,rfl,hx,tt.cl_Web,tt.na_Web_words,dG _ _,tp,rfl,⟨_,SqT.of htp⟩,?_⟩;refine oX (fun v=>T (beg (unT v))) (iI (SqT.of htp)) (by rw[aR];omega) (fun v H2 hv s2 N hN=>?_) fun D1 H2 hD1 s2 hd2=>?_
  ·obtain⟨l,hl,rfl⟩:=a5.mp hv
   have hll:=(hxs l hl).1;have z:=hN H2 (aL.refl _);rw[fF] at z;exact⟨_,rfl,l,rfl,⟨by omega,by omega⟩,z⟩
  rw[oV (f:=fun l=>T (beg l)),show ms.map (fun l=>T (beg l))=(ms.map beg).map T by rw[bx];rfl] at hd2;refine⟨D1,ms.map beg,rfl,SqL.of hd2,(by rw[aR];omega),fun S1 hS1=>?_⟩;have s3:=s2.trans (aM (o:=oC w S1 (uniq (ms.map beg))) hS1);have hd3:upd H2 S1 (oC w S1 (uniq (ms.map beg))) S1=some (oC w S1 (uniq (ms.map beg))):=aD;refine⟨_,rfl,x,ad.Web,dx,_,_,rfl,s3 x _ hx,tt.cl_Web,tt.na_Web_words,dG _ _,tp,rfl,⟨_,SqT.of (s3 tp _ htp)⟩,?_⟩;refine oX (fun v=>T ((unT v).drop 1)) (iI (SqT.of (s3 tp _ htp))) (by rw[aR];omega) (fun v H4 hv s4 N hN=>?_) fun D2 H4 hD2 s4 hd4=>?_
  ·obtain⟨l,hl,rfl⟩:=a5.mp hv
   have hll:=(hxs l hl).1;have z:=hN H4 (aL.refl _);rw[fF] at z;exact⟨_,rfl,l,rfl,⟨by omega,by omega⟩,z⟩
  rw[oV (f:=fun l=>T (l.drop 1)),show ms.map (fun l=>T (l.drop 1))=(ms.map fun l=>l.drop 1).map T by rw[bx];rfl] at hd4;refine⟨D2,ms.map (fun l=>l.drop 1),rfl,SqL.of hd4,(by rw[aR];omega),fun S2 hS2=>?_⟩;have s5:=aM (o:=oC w S2 (uniq (ms.map fun l=>l.drop 1))) hS2;have l1:=ulen (ms.map beg);have l2:=ulen (ms.map fun l=>l.drop 1);rw[aR] at l1 l2;have hS1':=s5 S1 _ (s4 S1 _ hd3);have ne12:S1≠S2:=fun z=>by
   have g:=s4 S1 _ hd3;rw[z,hS2] at g;cases g
  refine⟨S1,S2,_,_,rfl,rfl,ne12,hS1',aD,(fun z=>?_),(by omega),fun D5 qs hD5 hqn hql hqm=>?_⟩
  ·obtain⟨m0,hm0⟩:∃ m0,m0∈ms:=iy _ hne
   have:beg m0∈uniq (ms.map beg):=(iS _ _).mpr (gb hm0)
   rw[z] at this;cases this
  have s6:=aM (o:=oC w D5 qs) hD5;refine⟨D5,qs,rfl,aD,(Tw (p:=[]) hok.2.2.1.2 hqn fun z hz=>.inr ?few),fun ps D6 hD6 hp6 hw6=>?_⟩
  case few =>
   rw[hqm,iS,iS,a5,a5] at hz;rcases hz with ⟨l,hl,rfl⟩ | ⟨l,hl,rfl⟩
   ·exact⟨l,hl,.inl rfl⟩
   ·exact⟨l,hl,.inr rfl⟩
  have s7:=aM (o:=.lst (ps.map T)) hD6;have sall:=s3.trans (s4.trans (s5.trans (s6.trans s7)));have hD6':H D6=none:=by
   cases e:H D6 with
   | none=>rfl
   | some o =>
    have g:=(s3.trans (s4.trans (s5.trans s6))) D6 o e;exact absurd (g.symm.trans hD6) (fun z=>nomatch z)
  refine q D6 ps _ hD6' sall aD hw6 (hp6.nodup_iff.mpr hqn) fun z=>?_
  rw[hp6.mem_iff,hqm,iS,iS,a5,a5];constructor
  ·rintro (⟨l,hl,rfl⟩ | ⟨l,hl,rfl⟩)
   ·exact⟨l,hl,.inl rfl⟩
   ·exact⟨l,hl,.inr rfl⟩
  ·rintro⟨l,hl,rfl | rfl⟩
   ·exact .inl ⟨l,hl,rfl⟩
   ·exact .inr ⟨l,hl,rfl⟩
def exc (ms so:List (List Nat)):Int:=((ms.filter fun l=>decide (beg l∈so)).length:Int)-((ms.filter fun l=>decide (l.drop 1∈so)).length:Int)
def Bk (K:af)(C:Addr):Sp:=fun vs H Q _=>∃ (x tp b:Addr) (n:Nat) (ms so:List (List Nat)),vs=[.ref x,.ref b]∧gX C H x tp n ms∧jS ms n∧Sq K H b (so.map T)∧∀ (H':Hp),aL H H'->Q (.int (exc ms so)) H'
theorem Kq {f:Addr}{fd:FuncData}(F:Fun K "excess" "excess" lP f fd)(tt:Txt K mg ad)(C_begin_of:Cal P w K mg base (CX1 P w) "begin_of" 1 ["word"] eU)(C_end_of:Cal P w K mg base (CX1 P w) "end_of" 1 ["word"] kQ) :
  bN P w K mg base (CX1 P w) 2 f fd ["web", "some"] (Bk K ad.Web):=by
 refine F.okN qW (fun vs H Q E h=>?_) (fun cdv A outer s H vs Q E hr h=>?_)
 ·obtain⟨x,tp,b,n,ms,so,rfl,_⟩:=h
  rfl
 ·obtain⟨x,tp,b,n,ms,so,rfl,hW,hok,hB,q⟩:=h
  have hs:sizeLine=16777216:=sizeLine_eq;obtain⟨⟨dx,hx⟩,htp⟩:=id hW;obtain⟨hne,h64,hn,hxs,hnd⟩:=id hok;refine⟨_,(aB (lH (i:=2) Bf rfl (mY (bL (pv 0) rfl)) (fun cl C s' H' fp=>(aU (uB K rfl) (aK C_begin_of hr aN (aA (pv 0) aC)) (pv 2) (by with_unfolding_all rfl))) (fun cl C s' H' fp=>(pv 0)) qW.nd rfl rfl)
   (aB (lH (i:=3) Bm rfl (mY (bL (pv 0) rfl)) (fun cl C s' H' fp=>(aU (uB K rfl) (aK C_end_of hr aN (aA (pv 0) aC)) (pv 2) (by with_unfolding_all rfl))) (fun cl C s' H' fp=>(pv 0)) qW.nd rfl rfl)
   (aE (aS (aQ fW (aO aX (by rfl) tt.b_len a7 (aA (pv 2) aC)) (aO aX (by rfl) tt.b_len a7 (aA (pv 3) aC))))))),?_⟩
  (try rw[bV]);(try rw[cxK1])
  refine⟨_,rfl,x,ad.Web,dx,_,_,rfl,hx,tt.cl_Web,tt.na_Web_words,dG _ _,tp,rfl,⟨_,SqT.of htp⟩,?_⟩;refine qM (fun v=>decide (beg (unT v)∈so)) (fun v=>v) (iI (SqT.of htp)) (by rw[aR];omega) (fun v H2 hv s2 N hN=>?_) (fun v H2 hv hp s2 N hN=>?_) fun D1 H2 hD1 s2 hd2=>?_
  ·obtain⟨l,hl,rfl⟩:=a5.mp hv
   have hll:=(hxs l hl).1;have z:=hN H2 (aL.refl _);rw[fF] at z;refine⟨_,rfl,l,rfl,⟨by omega,by omega⟩,_,rfl,b,_,rfl,hB.on s2,rfl,iU so,_,rfl,?_⟩;show N (inV (T (beg l)) (so.map T)) H2;rw[rJ];exact z
  ·exact⟨_,rfl,hN H2 (aL.refl _)⟩
  rw[show (ms.map T).filter (fun v=>decide (beg (unT v)∈so))=(ms.filter fun l=>decide (beg l∈so)).map T from fJ (p:=fun l=>decide (beg l∈so)) ms,Bd] at hd2;refine⟨_,rfl,x,ad.Web,dx,_,_,rfl,s2 x _ hx,tt.cl_Web,tt.na_Web_words,dG _ _,tp,rfl,⟨_,SqT.of (s2 tp _ htp)⟩,?_⟩;refine qM (fun v=>decide ((unT v).drop 1∈so)) (fun v=>v) (iI (SqT.of (s2 tp _ htp))) (by rw[aR];omega) (fun v H3 hv s3 N hN=>?_) (fun v H3 hv hp s3 N hN=>?_) fun D2 H3 hD2 s3 hd3=>?_
  ·obtain⟨l,hl,rfl⟩:=a5.mp hv
   have hll:=(hxs l hl).1;have z:=hN H3 (aL.refl _);rw[fF] at z;refine⟨_,rfl,l,rfl,⟨by omega,by omega⟩,_,rfl,b,_,rfl,(hB.on s2).on s3,rfl,iU so,_,rfl,?_⟩;show N (inV (T (l.drop 1)) (so.map T)) H3;rw[rJ];exact z
  ·exact⟨_,rfl,hN H3 (aL.refl _)⟩
  rw[show (ms.map T).filter (fun v=>decide ((unT v).drop 1∈so))=(ms.filter fun l=>decide (l.drop 1∈so)).map T from fJ (p:=fun l=>decide (l.drop 1∈so)) ms,Bd] at hd3;refine⟨_,rfl,D1,_,rfl,.inl (SqL.of (s3 D1 _ hd2)),_,rfl,D2,_,rfl,.inl (SqL.of hd3),_,_,rfl,rfl,?_⟩;rw[aR,aR];exact q H3 (s2.trans s3)
abbrev En (l:List Nat):List Nat:=l.drop 1
abbrev Rc (ms:List (List Nat))(p z:List Nat):Prop:=Hg.Rch beg En ms p z
theorem mE {t:List Nat}{v:V}:∀ {ls:List (List Nat)},dR (tKs ls v) (cc (tx t))=if t∈ls then some v else none
 | []=>by simp[tKs,dR]
 | l::ls=>by
  have ih:=@mE t v ls;unfold tKs dR at ih ⊢;rw[au,i0];by_cases e:l=t
  ·subst e
   simp
  ·have e2:¬ (cc (tx l):Key)=cc (tx t):=fun z=>e (hZ (j7 z))
   have e3:¬ t=l:=fun z=>e z.symm
   simp only [e2,decide_false,aw,e3,false_or];exact ih
theorem iB {t:List Nat}{v:V}{ls:List (List Nat)}:fU (tKs ls v) (cc (tx t)) v=tKs (Hg.oA ls t) v:=by
 have e:((tKs ls v).any fun kv=>decide (kv.1=cc (tx t)))=decide (t∈ls):=by
  rw[da,sq,decide_eq_true_iff];constructor
  ·rintro⟨kv,h1,h2⟩
   obtain⟨l,hl,rfl⟩:=a5.mp h1
   have:=hZ (j7 (of_decide_eq_true h2))
   exact this▸hl
  ·exact fun h=>⟨_,gb h,decide_eq_true rfl⟩
 unfold fU Hg.oA;rw[e];by_cases h:t∈ls
 ·rw[if_pos (decide_eq_true h),if_pos h]
  conv=>rhs;rw[<- ky (tKs ls v)]
  refine br fun kv hkv=>?_
  obtain⟨l,_,rfl⟩:=a5.mp hkv;split
  ·rfl
  ·rfl
 ·rw[if_neg (by rw[decide_eq_false h];exact aj),if_neg h]
  unfold tKs;rw[bh];rfl
theorem Mb (ls:List (List Nat))(v:V):(tKs ls v).map (·.1)=ls.map fun t=>cc (tx t):=by
 unfold tKs;rw[bx];rfl
theorem eX (ls:List (List Nat))(v:V):(tKs ls v).length=ls.length:=by unfold tKs;rw[aR]
theorem Xz {ms:List (List Nat)}{p z:List Nat}(h:Rc ms p z):z=p∨IsP ms z:=by
 rcases Hg.Ej h with rfl | g
 ·exact .inl rfl
 ·rcases bt.mp g with g | g
  ·obtain⟨l,hl,e⟩:=a5.mp g
   exact .inr ⟨l,hl,.inl e.symm⟩
  ·obtain⟨l,hl,e⟩:=a5.mp g
   exact .inr ⟨l,hl,.inr e.symm⟩
def Pb (K:af):Sp:=fun vs H Q _=>∃ (a:Addr) (ms:List (List Nat)) (p:List Nat),vs=[.ref a,T p]∧(SqT K H a (ms.map T)∨SqL K H a (ms.map T))∧(ms.length<=64∧∀ x∈ms,1<=x.length∧x.length<=1000) ∧
 ∀ (D:Addr) (H':Hp) (ls:List (List Nat)),H D=none->aL H H'->H' D=some (.dK (tKs ls (.bl true)))->ls.Nodup->(∀ z,z∈ls↔Rc ms p z)->Q (.ref D) H'
theorem vU {f:Addr}{fd:FuncData}(F:Fun K "hanging_by" "hanging_by" kC f fd)(tt:Txt K mg ad)(C_begin_of:Cal P w K mg base (CX1 P w) "begin_of" 1 ["word"] eU)(C_end_of:Cal P w K mg base (CX1 P w) "end_of" 1 ["word"] kQ) :
  bN P w K mg base (CX1 P w) 2 f fd ["words", "piece"] (Pb K):=by
 refine F.okN cP (fun vs H Q E h=>?_) (fun cdv A outer s H vs Q E hr h=>?_)
 ·obtain⟨a,ms,p,rfl,_⟩:=h
  rfl
 ·obtain⟨a,ms,p,rfl,hS,⟨h64,hxl⟩,q⟩:=h
  have hs:sizeLine=16777216:=sizeLine_eq;rcases hS with hS | hS
  ·refine⟨_,(aB (aI (i:=2) cP.nd rfl (Or.inl rfl) (Hr (Bn (pv 1) gZ Jc) rfl rfl (fun z=>nomatch z) (by decide)))
    (aB (aI (i:=3) cP.nd rfl (Or.inl rfl) aH)
    (aB (iM PassesOwn.never (aU oP (pv 3) (aO mG (by rfl) tt.b_len a7 (aA (pv 2) aC)) (aY _)) (aB (aI (i:=3) cP.nd rfl (Or.inl rfl) (aO mG (by rfl) tt.b_len a7 (aA (pv 2) aC)))
    (aE (cN PassesOwn.never rfl (mY (pv 0)) (bD (i:=4) cP.nd rfl (Or.inl rfl)) (aE (bR (PW.pt (qX (jF (sW (eA hr) (aK C_begin_of hr aN (aA (pv 4) aC)) (pv 2))) (nA (jF (sW (eA hr) (aK C_end_of hr aN (aA (pv 4) aC)) (pv 2)))))) (aB (lS (eA hr) (pv 2) (aK C_begin_of hr aN (aA (pv 4) aC)) gZ rfl)
    (aE (lS (eA hr) (pv 2) (aK C_end_of hr aN (aA (pv 4) aC)) gZ rfl))) aW))))))
    (aE (aS (pv 2)))))),?_⟩
   (try rw[bV]);(try rw[cxK1])
   intro D hD;refine⟨_,rfl,aD,[(cc (tx p),.bl true)],rfl,(by show 1<=15;decide),?_⟩;have sD:aL H (upd H D (.dK (tKs [p] (.bl true)))):=aM hD;have e1:upd (upd H D (.dK [])) D (.dK (mS [] [(cc (tx p),.bl true)]))=upd H D (.dK (tKs [p] (.bl true))):=by
    rw[yP];rfl
   rw[e1];refine⟨fun m σ H2=>∃ (fs:List (List Nat)) (kn:Nat) (v4:Option V),m=2*ms.length+2-kn∧aL H H2∧H2 D=some (.dK (tKs fs (.bl true)))∧fs.Nodup∧p∈fs∧(∀ z∈fs,Rc ms p z)∧kn<=fs.length∧(kn=fs.length->∀ x∈ms,Hg.Cl beg En fs x)∧σ=[some (.ref a),some (T p),some (.ref D),some (.int (kn:Nat)),v4],
    ⟨_,[p],0,none,rfl,sD,aD,by simp,by simp,(fun z hz=>by rw[ax.mp hz];exact .self),b9 _,(fun z=>nomatch z),rfl⟩,?_⟩
   rintro m σ H2 ⟨fs,kn,v4,hm,s2,hd2,hnd,hp,hrc,hkn,hcl,rfl⟩;have hfl:=Hg.yQ hnd hrc;refine⟨_,rfl,_,rfl,D,_,rfl,hd2,_,_,rfl,rfl,_,rfl,?_⟩;rw[eX];refine kF (fun h0=>?_) (fun h0=>?_)
   ·have h0':kn<fs.length:=by have:=of_decide_eq_true h0;omega
    refine⟨fun σ' H'=>∃ m'<m,∃ (fs:List (List Nat)) (kn:Nat) (v4:Option V),m'=2*ms.length+2-kn∧aL H H'∧H' D=some (.dK (tKs fs (.bl true)))∧fs.Nodup∧p∈fs∧(∀ z∈fs,Rc ms p z)∧kn<=fs.length∧(kn=fs.length->∀ x∈ms,Hg.Cl beg En fs x)∧σ'=[some (.ref a),some (T p),some (.ref D),some (.int (kn:Nat)),v4],fun σ' H' z=>z,?_⟩;refine⟨_,rfl,D,_,rfl,hd2,?_⟩;rw[eX];refine⟨_,rfl,a,rfl,⟨_,lD s2 hS⟩,?_⟩;refine Hi (K:=K) (a:=a) (xs:=ms.map T) (fun i σ H3=>aL H H3∧∃ (ls:List (List Nat)) (v4:Option V),H3 D=some (.dK (tKs ls (.bl true)))∧Hg.Pass beg En ms p fs i ls∧σ=[some (.ref a),some (T p),some (.ref D),some (.int (fs.length:Nat)),v4]) ⟨s2,fs,v4,hd2,.zero hnd hrc,rfl⟩ (fun i σ H3 _ h=>lD h.1 hS) ?_ ?_
    ·rintro i y σ H3 hi ⟨s3,ls,v4,hd3,hps,rfl⟩
     obtain⟨x,hx,rfl⟩:∃ x,ms[i]?=some x∧T x=y:=by rw[ag] at hi;exact bj.mp hi
     have hxx:=hxl x (aq hx);have hdx:∀ t:List Nat,iR H3 D (T t) (if t∈ls then some (.bl true) else none):=fun t=>by have g:=iR.k (k:=cc (tx t)) hd3;rwa [mE] at g
     have l3:=Hg.yQ hps.nd hps.rch;have sameD:∀ {G:Hp} {o1 o2:HO},aL H G->aL H (upd (upd G D o1) D o2):=fun sg b o e=>by
      rw[aG (aJ e hD),aG (aJ e hD)];exact sg b o e
     refine⟨_,rfl,x,rfl,hxx,_,rfl,D,_,rfl,hdx _,_,rfl,?_⟩;by_cases hb:beg x∈ls
     ·refine itP (by show (if beg x∈ls then some (V.bl true) else none).isSome=true;rw[if_pos hb];rfl) ?_
      refine⟨_,rfl,_,rfl,x,rfl,hxx,D,_,rfl,oU.k (k:=cc (tx (beg x))) hd3 (by rw[eX];omega),?_⟩;rw[iB];refine⟨_,rfl,_,rfl,x,rfl,hxx,D,_,rfl,oU.k (k:=cc (tx (En x))) aD (by rw[eX];have:=Hg.nG ls (beg x);omega),?_⟩;rw[iB];exact⟨sameD s3,_,some (T x),aD,hps.yes hx (.inl hb),rfl⟩
     ·refine itN (by show ¬ (if beg x∈ls then some (V.bl true) else none).isSome=true;rw[if_neg hb];exact aj) ?_
      refine⟨_,rfl,x,rfl,hxx,_,rfl,D,_,rfl,hdx _,_,rfl,?_⟩;by_cases he:En x∈ls
      ·refine itP (by show (if En x∈ls then some (V.bl true) else none).isSome=true;rw[if_pos he];rfl) ?_
       refine⟨_,rfl,_,rfl,x,rfl,hxx,D,_,rfl,oU.k (k:=cc (tx (beg x))) hd3 (by rw[eX];omega),?_⟩;rw[iB];refine⟨_,rfl,_,rfl,x,rfl,hxx,D,_,rfl,oU.k (k:=cc (tx (En x))) aD (by rw[eX];have:=Hg.nG ls (beg x);omega),?_⟩;rw[iB];exact⟨sameD s3,_,some (T x),aD,hps.yes hx (.inr he),rfl⟩
      ·refine itN (by show ¬ (if En x∈ls then some (V.bl true) else none).isSome=true;rw[if_neg he];exact aj) ?_
       exact⟨s3,ls,some (T x),hd3,hps.no hx hb he,rfl⟩
    ·rintro σ H3 ⟨s3,ls,v4,hd3,hps,rfl⟩
     have l1:=hps.pre.length_le;refine⟨_,?_,ls,fs.length,v4,rfl,s3,hd3,hps.nd,hps.pre.subset hp,hps.rch,l1,(fun e x hx=>?_),rfl⟩
     ·omega
     ·have hc:=hps.cl e.symm x (by rw[aR,c8];exact hx)
      rwa [hps.pre.eq_of_length e] at hc
   ·have h0':kn=fs.length:=by have z:¬ ((kn:Int)<(fs.length:Int)):=fun z=>h0 (decide_eq_true z);omega
    exact⟨_,rfl,q D H2 fs hD s2 hd2 hnd fun z=>⟨hrc z,fun hz=>hz.inside hp (hcl h0')⟩⟩
  ·refine⟨_,(aB (aI (i:=2) cP.nd rfl (Or.inl rfl) (Hr (Bn (pv 1) gZ Jc) rfl rfl (fun z=>nomatch z) (by decide)))
    (aB (aI (i:=3) cP.nd rfl (Or.inl rfl) aH)
    (aB (iM PassesOwn.never (aU oP (pv 3) (aO mG (by rfl) tt.b_len a7 (aA (pv 2) aC)) (aY _)) (aB (aI (i:=3) cP.nd rfl (Or.inl rfl) (aO mG (by rfl) tt.b_len a7 (aA (pv 2) aC)))
    (aE (cN PassesOwn.never rfl (cG (pv 0)) (bD (i:=4) cP.nd rfl (Or.inl rfl)) (aE (bR (PW.pt (qX (jF (sW (eA hr) (aK C_begin_of hr aN (aA (pv 4) aC)) (pv 2))) (nA (jF (sW (eA hr) (aK C_end_of hr aN (aA (pv 4) aC)) (pv 2)))))) (aB (lS (eA hr) (pv 2) (aK C_begin_of hr aN (aA (pv 4) aC)) gZ rfl)
    (aE (lS (eA hr) (pv 2) (aK C_end_of hr aN (aA (pv 4) aC)) gZ rfl))) aW))))))
    (aE (aS (pv 2)))))),?_⟩
   (try rw[bV]);(try rw[cxK1])
   intro D hD;refine⟨_,rfl,aD,[(cc (tx p),.bl true)],rfl,(by show 1<=15;decide),?_⟩;have sD:aL H (upd H D (.dK (tKs [p] (.bl true)))):=aM hD;have e1:upd (upd H D (.dK [])) D (.dK (mS [] [(cc (tx p),.bl true)]))=upd H D (.dK (tKs [p] (.bl true))):=by
    rw[yP];rfl
   rw[e1];refine⟨fun m σ H2=>∃ (fs:List (List Nat)) (kn:Nat) (v4:Option V),m=2*ms.length+2-kn∧aL H H2∧H2 D=some (.dK (tKs fs (.bl true)))∧fs.Nodup∧p∈fs∧(∀ z∈fs,Rc ms p z)∧kn<=fs.length∧(kn=fs.length->∀ x∈ms,Hg.Cl beg En fs x)∧σ=[some (.ref a),some (T p),some (.ref D),some (.int (kn:Nat)),v4],
    ⟨_,[p],0,none,rfl,sD,aD,by simp,by simp,(fun z hz=>by rw[ax.mp hz];exact .self),b9 _,(fun z=>nomatch z),rfl⟩,?_⟩
   rintro m σ H2 ⟨fs,kn,v4,hm,s2,hd2,hnd,hp,hrc,hkn,hcl,rfl⟩;have hfl:=Hg.yQ hnd hrc;refine⟨_,rfl,_,rfl,D,_,rfl,hd2,_,_,rfl,rfl,_,rfl,?_⟩;rw[eX];refine kF (fun h0=>?_) (fun h0=>?_)
   ·have h0':kn<fs.length:=by have:=of_decide_eq_true h0;omega
    refine⟨fun σ' H'=>∃ m'<m,∃ (fs:List (List Nat)) (kn:Nat) (v4:Option V),m'=2*ms.length+2-kn∧aL H H'∧H' D=some (.dK (tKs fs (.bl true)))∧fs.Nodup∧p∈fs∧(∀ z∈fs,Rc ms p z)∧kn<=fs.length∧(kn=fs.length->∀ x∈ms,Hg.Cl beg En fs x)∧σ'=[some (.ref a),some (T p),some (.ref D),some (.int (kn:Nat)),v4],fun σ' H' z=>z,?_⟩;refine⟨_,rfl,D,_,rfl,hd2,?_⟩;rw[eX];refine⟨_,rfl,a,rfl,⟨_,s2.seq hS⟩,?_⟩;refine eE (K:=K) (a:=a) (xs:=ms.map T) (fun i σ H3=>aL H H3∧∃ (ls:List (List Nat)) (v4:Option V),H3 D=some (.dK (tKs ls (.bl true)))∧Hg.Pass beg En ms p fs i ls∧σ=[some (.ref a),some (T p),some (.ref D),some (.int (fs.length:Nat)),v4]) ⟨s2,fs,v4,hd2,.zero hnd hrc,rfl⟩ (fun i σ H3 _ h=>(h.1).seq hS) ?_ ?_
    ·rintro i y σ H3 hi ⟨s3,ls,v4,hd3,hps,rfl⟩
     obtain⟨x,hx,rfl⟩:∃ x,ms[i]?=some x∧T x=y:=by rw[ag] at hi;exact bj.mp hi
     have hxx:=hxl x (aq hx);have hdx:∀ t:List Nat,iR H3 D (T t) (if t∈ls then some (.bl true) else none):=fun t=>by have g:=iR.k (k:=cc (tx t)) hd3;rwa [mE] at g
     have l3:=Hg.yQ hps.nd hps.rch;have sameD:∀ {G:Hp} {o1 o2:HO},aL H G->aL H (upd (upd G D o1) D o2):=fun sg b o e=>by
      rw[aG (aJ e hD),aG (aJ e hD)];exact sg b o e
     refine⟨_,rfl,x,rfl,hxx,_,rfl,D,_,rfl,hdx _,_,rfl,?_⟩;by_cases hb:beg x∈ls
     ·refine itP (by show (if beg x∈ls then some (V.bl true) else none).isSome=true;rw[if_pos hb];rfl) ?_
      refine⟨_,rfl,_,rfl,x,rfl,hxx,D,_,rfl,oU.k (k:=cc (tx (beg x))) hd3 (by rw[eX];omega),?_⟩;rw[iB];refine⟨_,rfl,_,rfl,x,rfl,hxx,D,_,rfl,oU.k (k:=cc (tx (En x))) aD (by rw[eX];have:=Hg.nG ls (beg x);omega),?_⟩;rw[iB];exact⟨sameD s3,_,some (T x),aD,hps.yes hx (.inl hb),rfl⟩
     ·refine itN (by show ¬ (if beg x∈ls then some (V.bl true) else none).isSome=true;rw[if_neg hb];exact aj) ?_
      refine⟨_,rfl,x,rfl,hxx,_,rfl,D,_,rfl,hdx _,_,rfl,?_⟩;by_cases he:En x∈ls
      ·refine itP (by show (if En x∈ls then some (V.bl true) else none).isSome=true;rw[if_pos he];rfl) ?_
       refine⟨_,rfl,_,rfl,x,rfl,hxx,D,_,rfl,oU.k (k:=cc (tx (beg x))) hd3 (by rw[eX];omega),?_⟩;rw[iB];refine⟨_,rfl,_,rfl,x,rfl,hxx,D,_,rfl,oU.k (k:=cc (tx (En x))) aD (by rw[eX];have:=Hg.nG ls (beg x);omega),?_⟩;rw[iB];exact⟨sameD s3,_,some (T x),aD,hps.yes hx (.inr he),rfl⟩
      ·refine itN (by show ¬ (if En x∈ls then some (V.bl true) else none).isSome=true;rw[if_neg he];exact aj) ?_
       exact⟨s3,ls,some (T x),hd3,hps.no hx hb he,rfl⟩
    ·rintro σ H3 ⟨s3,ls,v4,hd3,hps,rfl⟩
     have l1:=hps.pre.length_le;refine⟨_,?_,ls,fs.length,v4,rfl,s3,hd3,hps.nd,hps.pre.subset hp,hps.rch,l1,(fun e x hx=>?_),rfl⟩
     ·omega
     ·have hc:=hps.cl e.symm x (by rw[aR,c8];exact hx)
      rwa [hps.pre.eq_of_length e] at hc
   ·have h0':kn=fs.length:=by have z:¬ ((kn:Int)<(fs.length:Int)):=fun z=>h0 (decide_eq_true z);omega
    exact⟨_,rfl,q D H2 fs hD s2 hd2 hnd fun z=>⟨hrc z,fun hz=>hz.inside hp (hcl h0')⟩⟩
def Oi (C:Addr)(ad:Adr):Sp:=fun vs H Q E=>∃ (x tp:Addr) (n:Nat) (ms:List (List Nat)) (p:List Nat),vs=[.ref x,T p]∧gX C H x tp n ms∧jS ms n∧(¬ IsP ms p->∀ H',aL H H'->E (.ref ad.NoSuch) none H') ∧
 (IsP ms p->∀ (D:Addr) (ps:List (List Nat)) (H':Hp),H D=none->aL H H'->H' D=some (.lst (ps.map T))->ps.Pairwise (fun a b=>¬ b<a)->ps.Nodup->(∀ z,z∈ps↔Rc ms p z)->Q (.ref D) H')
theorem iH {H G:Hp}{D:Addr}(s:aL H G)(h:G D=none):H D=none:=by
 cases e:H D with
 | none=>rfl
 | some o=>exact absurd ((s D o e).symm.trans h) (fun z=>nomatch z)
theorem Fc {f:Addr}{fd:FuncData}(F:Fun K "hanging" "hanging" pY f fd)(tt:Txt K mg ad)(C_pieces:Cal P w K mg base (CX1 P w) "pieces" 2 ["web"] (nN ad.Web))(C_hanging_by:Cal P w K mg base (CX1 P w) "hanging_by" 2 ["words", "piece"] (Pb K)) :
  bN P w K mg base (CX1 P w) 3 f fd ["web", "piece"] (Oi ad.Web ad):=by
 refine F.okX Dz (fun vs H Q E h=>?_) (fun cdv A outer s H vs Q E hr h=>?_)
 ·obtain⟨x,tp,n,ms,p,rfl,_⟩:=h
  rfl
 ·obtain⟨x,tp,n,ms,p,rfl,hW,hok,xn,q⟩:=h
  have hs:sizeLine=16777216:=sizeLine_eq;obtain⟨⟨dx,hx⟩,htp⟩:=id hW;obtain⟨hne,h64,hn,hxs,hnd⟩:=id hok;refine⟨_,(aB (bR (aU kH (pv 1) (aK C_pieces hr aN (aA (pv 0) aC)) (by with_unfolding_all rfl)) (aE (cI (E:=fun cls H'=>E cls none H') tt.x_NoSuch rfl (fun _ _ _ _ _ _ _ I hx q=>eJ I hx q) (aA (bX [116,104,101,32,119,101,98,32,104,97,115,32,110,111,32,115,117,99,104,32,112,105,101,99,101] (by decide +kernel)) aC))) aW)
   (aE (aS (aO (vV rfl) (by rfl) tt.b_sorted dw (aA (aK C_hanging_by hr aN (aA (bL (pv 0) rfl) (aA (pv 1) aC))) aC))))),?_⟩
  (try rw[bV]);(try rw[cxK1])
  refine⟨_,rfl,_,rfl,x,tp,n,ms,rfl,hW,hok,fun D1 ps H1 hD1 s1 hd1 hpw hpn hpm=>?_⟩;refine⟨D1,_,rfl,.inl (SqL.of hd1),rfl,iU ps,_,rfl,?_⟩;by_cases hp:p∈ps
  ·refine itN (by rw[rJ,decide_eq_true hp];exact aj) ?_
   refine⟨_,rfl,x,ad.Web,dx,_,_,rfl,s1 x _ hx,tt.cl_Web,tt.na_Web_words,dG _ _,_,rfl,tp,ms,p,rfl,.inl (SqT.of (s1 tp _ htp)),⟨by omega,fun y hy=>by have:=(hxs y hy).1;omega⟩,fun D2 H2 ls hD2 s2 hd2 hln hlm=>?_⟩;refine⟨D2,ls,_,rfl,hd2,Mb _ _,Tw hok.2.2.1.2 hln (fun z hz=>Xz ((hlm z).mp hz)),fun qs D3 hD3 hp3 hw3=>?_⟩;exact q ((hpm p).mp hp) D3 qs _ (iH (s1.trans s2) hD3) (s1.trans (s2.trans (aM hD3))) aD hw3 (hp3.nodup_iff.mpr hln) fun z=>by rw[hp3.mem_iff,hlm]
  ·refine itP (by rw[rJ,decide_eq_false hp];rfl) ?_
   exact⟨(by show 1<=sizeLine;omega),xn (fun z=>hp ((hpm p).mpr z)) H1 s1⟩
def Yp:List Nat:=[117,110,101,118,101,110]
def Vi:List Nat:=[97,112,97,114,116]
theorem Qh {ls ms so:List (List Nat)}(p:ms.Perm ls):exc ms so=exc ls so:=by
 unfold exc;rw[(p.filter fun l=>decide (beg l∈so)).length_eq,(p.filter fun l=>decide (l.drop 1∈so)).length_eq]
abbrev Pap:=Option (List Nat×List (List Nat))
def Tj (H:Hp)(v:V):Pap->Prop
 | none=>v = .non
 | some (kd,so)=>∃ p b:Addr,v = .ref p∧H p=some (.tup [T kd,.ref b])∧H b=some (.tup (so.map T))
def Pcs (ms ev:List (List Nat)):Prop:=ev.Pairwise (fun a b=>¬ b<a)∧ev.Nodup∧∀ z,z∈ev↔IsP ms z
theorem Pcs.uniq {ms ls ev eu:List (List Nat)}(h:Pcs ms ev)(g:Pcs ls eu)(p:ms.Perm ls):ev=eu:=Wd.gW ((d9 h.2.1 g.2.1).mpr fun z=>by rw[h.2.2,g.2.2];exact⟨fun ⟨w,h1,h2⟩=>⟨w,p.mem_iff.mp h1,h2⟩,fun ⟨w,h1,h2⟩=>⟨w,p.mem_iff.mpr h1,h2⟩⟩) h.1 g.1
def Pi (ms ev:List (List Nat))(r:Pap):Prop:=∃ (z0:List Nat) (so:List (List Nat)),ev[0]?=some z0∧so.Pairwise (fun a b=>¬ b<a)∧so.Nodup∧(∀ z,z∈so↔Rc ms z0 z)∧r=if so.length=ev.length then none else some (Vi,so)
def Oh (C:Addr):Sp:=fun vs H Q _=>∃ (x tp:Addr) (n:Nat) (ms:List (List Nat)),vs=[.ref x]∧gX C H x tp n ms∧jS ms n ∧
 ∀ (ev:List (List Nat)) (r:Pap) (v:V) (H':Hp),Pcs ms ev->Pi ms ev r->Tj H' v r->aL H H'->Q v H'
theorem Wz {ms ev:List (List Nat)}(h:Pcs ms ev)(hne:ms≠[]):∃ z0,ev[0]?=some z0∧IsP ms z0:=by
 obtain⟨l,hl⟩:=iy _ hne;have hm:=(h.2.2 (beg l)).mpr ⟨l,hl,.inl rfl⟩;have h0:=fo hm;exact⟨_,ac h0,(h.2.2 _).mp (di h0)⟩
theorem yM {f:Addr}{fd:FuncData}(F:Fun K "why_apart" "why_apart" kZ f fd)(tt:Txt K mg ad)(C_pieces:Cal P w K mg base (CX1 P w) "pieces" 2 ["web"] (nN ad.Web))(C_hanging:Cal P w K mg base (CX1 P w) "hanging" 3 ["web", "piece"] (Oi ad.Web ad)) :
  bN P w K mg base (CX1 P w) 4 f fd ["web"] (Oh ad.Web):=by
 refine F.okN kO (fun vs H Q E h=>?_) (fun cdv A outer s H vs Q E hr h=>?_)
 ·obtain⟨x,tp,n,ms,rfl,_⟩:=h
  rfl
 ·obtain⟨x,tp,n,ms,rfl,hW,hok,q⟩:=h
  have hs:sizeLine=16777216:=sizeLine_eq;refine⟨_,(aB (aI (i:=1) kO.nd rfl (Or.inl rfl) (aK C_pieces hr aN (aA (pv 0) aC)))
   (aB (aI (i:=2) kO.nd rfl (Or.inl rfl) (aK C_hanging hr aN (aA (pv 0) (aA (cK cF (pv 1) aH (fun _ _=>rfl)) aC))))
   (aB (bR (aU iD (aO aX (by rfl) tt.b_len a7 (aA (pv 2) aC)) (aO aX (by rfl) tt.b_len a7 (aA (pv 1) aC)) (aY _)) (aE (aS Ec)) aW)
   (aE (aS (lI (aA (bX [97,112,97,114,116] (by decide +kernel)) (aA (dH jJ (by rfl) tt.b_tuple (by decide +kernel) (aA (pv 2) aC)) aC)))))))),?_⟩
  (try rw[bV]);(try rw[cxK1])
  refine⟨_,rfl,x,tp,n,ms,rfl,hW,hok,fun D1 ev H1 hD1 s1 hd1 hpw hpn hpm=>?_⟩;have hpc:Pcs ms ev:=⟨hpw,hpn,hpm⟩;obtain⟨z0,hz0,hz0p⟩:=Wz hpc hok.1;refine⟨_,rfl,_,rfl,D1,_,_,_,rfl,rfl,SqL.of hd1,bC (j:=0) (by rw[ag,hz0];rfl),x,tp,n,ms,z0,rfl,hW.on s1,hok,fun z=>absurd hz0p z,fun _ D2 so H2 hD2 s2 hd2 hw2 hn2 hm2=>?_⟩;have hwy:Pi ms ev (if so.length=ev.length then none else some (Vi,so)):=⟨z0,so,hz0,hw2,hn2,hm2,rfl⟩;have s12:=s1.trans s2;refine⟨_,rfl,D2,_,rfl,.inl (SqL.of hd2),_,rfl,D1,_,rfl,.inl (SqL.of (s2 D1 _ hd1)),_,rfl,_,rfl,_,rfl,?_⟩;rw[aR,aR];by_cases he:so.length=ev.length
  ·refine itP (decide_eq_true (by rw[he])) ?_
   rw[if_pos he] at hwy;exact q ev none .non H2 hpc hwy rfl s12
  ·refine itN (fun z=>he (by have:=of_decide_eq_true z;omega)) ?_
   rw[if_neg he] at hwy;refine⟨_,rfl,D2,_,rfl,.inl ⟨SqL.of hd2,fun b hb=>?_⟩⟩;have t3:=aM (o:=.tup (so.map T)) hb;refine⟨(by show 2<=sizeLine;omega),fun pp hpp=>?_⟩;have t4:=aM (o:=.tup [T Vi,.ref b]) hpp;exact q ev _ _ _ hpc hwy ⟨pp,b,rfl,aD,t4 b _ aD⟩ (s12.trans (t3.trans t4))
def Uo (ms ev:List (List Nat))(r:Pap):Prop:=(∃ z,ev.find? (fun z=>!decide (exc ms [z]=0))=some z∧r=some (Yp,[z]))∨(ev.find? (fun z=>!decide (exc ms [z]=0))=none∧Pi ms ev r)
def Fk (C:Addr):Sp:=fun vs H Q _=>∃ (x tp:Addr) (n:Nat) (ms:List (List Nat)),vs=[.ref x]∧gX C H x tp n ms∧jS ms n ∧
 ∀ (ev:List (List Nat)) (r:Pap) (v:V) (H':Hp),Pcs ms ev->Uo ms ev r->Tj H' v r->aL H H'->Q v H'
theorem tR {p:List Nat->Bool}{ev:List (List Nat)}{i:Nat}{z:List Nat}(h:(ev.take i).find? p=none)(hz:ev[i]?=some z):(p z=false->(ev.take (i+1)).find? p=none)∧(p z=true->ev.find? p=some z):=by
 constructor
 ·intro hp
  rw[cx,hz,r8,h];simp[hp]
 ·intro hp
  have e:ev=ev.take i++z::ev.drop (i+1):=by
   have g:=(al.mp hz);rw[<- g.2,<- iz g.1,j3]
  rw[e,r8,h];simp[hp]
theorem vG {f:Addr}{fd:FuncData}(F:Fun K "why_no_ring" "why_no_ring" jI f fd)(tt:Txt K mg ad)(C_pieces:Cal P w K mg base (CX1 P w) "pieces" 2 ["web"] (nN ad.Web))(C_excess:Cal P w K mg base (CX1 P w) "excess" 2 ["web", "some"] (Bk K ad.Web))(C_why_apart:Cal P w K mg base (CX1 P w) "why_apart" 4 ["web"] (Oh ad.Web)) :
  bN P w K mg base (CX1 P w) 5 f fd ["web"] (Fk ad.Web):=by
 refine F.okN lA (fun vs H Q E h=>?_) (fun cdv A outer s H vs Q E hr h=>?_)
 ·obtain⟨x,tp,n,ms,rfl,_⟩:=h
  rfl
 ·obtain⟨x,tp,n,ms,rfl,hW,hok,q⟩:=h
  have hs:sizeLine=16777216:=sizeLine_eq;refine⟨_,(aB (cN PassesOwn.never rfl (cG (aK C_pieces hr aN (aA (pv 0) aC))) (bD (i:=1) lA.nd rfl (Or.inl rfl)) (aE (bR (aU iC (aK C_excess hr aN (aA (pv 0) (aA (dF (aA (pv 1) aC)) aC))) aH (aY _)) (aE (aS (lI (aA (bX [117,110,101,118,101,110] (by decide +kernel)) (aA (lI (aA (pv 1) aC)) aC))))) aW)))
   (aE (aS (aK C_why_apart hr aN (aA (pv 0) aC))))),?_⟩
  (try rw[bV]);(try rw[cxK1])
  refine⟨_,rfl,x,tp,n,ms,rfl,hW,hok,fun D1 ev H1 hD1 s1 hd1 hpw hpn hpm=>?_⟩;have hpc:Pcs ms ev:=⟨hpw,hpn,hpm⟩;refine⟨D1,rfl,⟨_,SqL.of hd1⟩,?_⟩;refine eE (K:=K) (a:=D1) (xs:=ev.map T) (fun i σ H2=>aL H1 H2∧(ev.take i).find? (fun z=>!decide (exc ms [z]=0))=none∧∃ v1:Option V,σ=[some (.ref x),v1]) ⟨aL.refl _,rfl,none,rfl⟩ (fun i σ H2 _ h=>SqL.of (h.1 D1 _ hd1)) ?_ ?_
  ·rintro i y σ H2 hi ⟨s2,hfn,v1,rfl⟩
   obtain⟨pc,hpc',rfl⟩:∃ pc,ev[i]?=some pc∧T pc=y:=by rw[ag] at hi;exact bj.mp hi
   obtain⟨fn,fy⟩:=tR hfn hpc';refine⟨_,rfl,_,rfl,(by show 1<=sizeLine;omega),fun p3 hp3=>?_⟩;have t3:=aM (o:=.lst ([pc].map T)) hp3;refine⟨x,tp,p3,n,ms,[pc],rfl,hW.on (s1.trans (s2.trans t3)),hok,.inl (SqL.of aD),fun H4 s4=>?_⟩;refine⟨_,rfl,_,rfl,_,rfl,?_⟩;by_cases h0:exc ms [pc]=0
   ·refine itN (by rw[decide_eq_true h0];exact aj) ?_
    exact⟨s2.trans (t3.trans s4),fn (by rw[decide_eq_true h0];rfl),some (T pc),rfl⟩
   ·refine itP (by rw[decide_eq_false h0];rfl) ?_
    refine⟨_,rfl,(by show 1<=sizeLine;omega),fun b hb=>?_⟩;have t5:=aM (o:=.tup ([pc].map T)) hb;refine⟨(by show 2<=sizeLine;omega),fun pp hpp=>?_⟩;have t6:=aM (o:=.tup [T Yp,.ref b]) hpp;exact q ev _ _ _ hpc (.inl ⟨pc,fy (by rw[decide_eq_false h0];rfl),rfl⟩) ⟨pp,b,rfl,aD,t6 b _ aD⟩ (s1.trans (s2.trans (t3.trans (s4.trans (t5.trans t6)))))
  ·rintro σ H2 ⟨s2,hfn,v1,rfl⟩
   rw[aR,c8] at hfn;refine⟨_,rfl,x,tp,n,ms,rfl,hW.on (s1.trans s2),hok,fun eu r v H3 hpu hr' hv s3=>?_⟩;obtain rfl:=hpu.uniq hpc (ie ms);exact q eu r v H3 hpc (.inr ⟨hfn,hr'⟩) hv (s1.trans (s2.trans s3))
abbrev Tr (p:List Nat)(ls:List (List Nat))(q:List Nat):Prop:=Hg.Tr beg En p ls q
theorem Wm {p q:List Nat}{ls ms so:List (List Nat)}(h:Tr p ls q)(hp:ms.Perm ls):exc ms so=(if p∈so then 1 else 0)-(if q∈so then 1 else 0):=by
 rw[Qh hp]
 have:=Hg.Tr.exc (fun z=>decide (z∈so)) h
 unfold exc
 simpa using this
theorem Wq {p q:List Nat}{ls ms:List (List Nat)}(h:Tr p ls q)(hp:ms.Perm ls){z0 z:List Nat}(h0:IsP ms z0)(h1:IsP ms z):Rc ms z0 z:=by
 have key:∀ z,IsP ms z->Rc ms p z:=fun z hz=>by
  obtain⟨l,hl,g⟩:=hz
  have:=Hg.Tr.rch (ms:=ms) (p:=p) h (fun w hw=>hp.mem_iff.mpr hw) .self l (hp.mem_iff.mp hl)
  rcases g with rfl | rfl
  ·exact this.1
  ·exact this.2
 exact (key z0 h0).symm.trans (key z h1)
theorem Oe {ms:List (List Nat)}{p z:List Nat}(hp:IsP ms p)(h:Rc ms p z):IsP ms z:=by
 rcases Hg.Ej h with rfl | g
 ·exact hp
 ·rcases bt.mp g with g | g
  ·obtain⟨l,hl,e⟩:=a5.mp g
   exact⟨l,hl,.inl e.symm⟩
  ·obtain⟨l,hl,e⟩:=a5.mp g
   exact⟨l,hl,.inr e.symm⟩
theorem Jt {p q:List Nat}{ls ms ev:List (List Nat)}{r:Pap}(h:Tr p ls q)(hp:ms.Perm ls)(hc:Pcs ms ev)(hw:Pi ms ev r):r=none:=by
 obtain⟨z0,so,a1,a2,a3,a4,rfl⟩:=hw;have hz0:=(hc.2.2 z0).mp (aq a1);rw[if_pos];refine ((d9 a3 hc.2.1).mpr fun z=>?_).length_eq;rw[a4,hc.2.2];exact⟨fun g=>Oe hz0 g,fun g=>Wq h hp hz0 g⟩
theorem wX {p:List Nat}{ls ms ev:List (List Nat)}{r:Pap}(h:Tr p ls p)(hp:ms.Perm ls)(hc:Pcs ms ev)(hw:Uo ms ev r):r=none:=by
 rcases hw with ⟨z,hz,_⟩ | ⟨_,hw⟩
 ·have:=t7 hz
  rw[Wm h hp,Int.sub_self] at this;exact absurd this (by decide)
 ·exact Jt h hp hc hw
theorem Jf {ms:List (List Nat)}{p:List Nat}:(∀ e∈ms,Rc ms p (beg e))↔Wd.gY ms p:=by
 constructor
 ·intro h χ hp hc e he
  have key:∀ {z},Rc ms p z->χ z:=fun {z} hz=>by
   induction hz with
   | self=>exact hp
   | fw hw _ ih=>exact (hc _ hw).mp ih
   | bw hw _ ih=>exact (hc _ hw).mpr ih
  exact key (h e he)
 ·intro h e he
  exact h (fun z=>Rc ms p z) .self (fun e he=>⟨fun z=>.fw he z,fun z=>.bw he z⟩) e he
def Ie (K:af):Sp:=fun vs H Q _=>∃ (a:Addr) (ms:List (List Nat)) (p:List Nat),vs=[.ref a,T p]∧SqL K H a (ms.map T)∧(ms.length<=64∧∀ x∈ms,1<=x.length∧x.length<=1000)∧∀ (b:Bool) (H':Hp),aL H H'->(b=true↔Wd.gY ms p)->Q (.bl b) H'
theorem yV {f:Addr}{fd:FuncData}(F:Fun K "can_go_on" "can_go_on" iZ f fd)(tt:Txt K mg ad)(C_hanging_by:Cal P w K mg base (CX1 P w) "hanging_by" 2 ["words", "piece"] (Pb K))(C_begin_of:Cal P w K mg base (CX1 P w) "begin_of" 1 ["word"] eU):bN P w K mg base (CX1 P w) 3 f fd ["left", "piece"] (Ie K):=by
 refine F.okN oI (fun vs H Q E h=>?_) (fun cdv A outer s H vs Q E hr h=>?_)
 ·obtain⟨a,ms,p,rfl,_⟩:=h
  rfl
 ·obtain⟨a,ms,p,rfl,hS,⟨h64,hxl⟩,q⟩:=h
  have hs:sizeLine=16777216:=sizeLine_eq;refine⟨_,(aB (aI (i:=2) oI.nd rfl (Or.inr rfl) (aK C_hanging_by hr aN (aA (pv 0) (aA (pv 1) aC))))
   (aE (aS (aO (Jj rfl) (by rfl) tt.b_all PyProof.Rows.boot_all (aA (fB uA rfl (cG (pv 0)) (fun cl C s' H' fp=>(Ug (sW (eA hr) (aK C_begin_of hr aN (aA (pv 0) aC)) (pv 3))))) aC))))),?_⟩
  (try rw[bV]);(try rw[cxK1])
  refine⟨_,rfl,_,rfl,a,ms,p,rfl,.inr hS,⟨h64,hxl⟩,fun D H1 ls hD s1 hd1 hln hlm=>?_⟩;refine⟨_,rfl,a,rfl,⟨_,s1.seq hS⟩,?_⟩;refine oX (fun v=>V.bl (decide (beg (unT v)∈ls))) (cT (s1.seq hS)) (by rw[aR];omega) (fun v G5 hv s5 N hN=>?_) fun D5 G5 hD5 s5 hd5=>?_
  ·obtain⟨wd,hwd,rfl⟩:=a5.mp hv
   have g:=hN G5 (aL.refl _);rw[fF] at g;have hdx:iR G5 D (T (beg wd)) (if beg wd∈ls then some (.bl true) else none):=by have g:=iR.k (k:=cc (tx (beg wd))) (s5 D _ hd1);rwa [mE] at g
   refine⟨_,rfl,wd,rfl,hxl wd hwd,_,rfl,D,_,rfl,hdx,?_⟩;rw[show (if beg wd∈ls then some (V.bl true) else none).isSome=decide (beg wd∈ls) by by_cases h:beg wd∈ls <;> simp[h]];exact g
  ·have hd5:G5 D5=some (.lst ((ms.map fun w=>decide (beg w∈ls)).map V.bl)):=by
    rw[hd5,bx,bx];refine congrArg (fun l=>some (HO.lst l)) (br fun m _=>?_);show V.bl (decide (beg (unT (T m))∈ls))=_;rw[fF];rfl
   refine⟨D5,_,rfl,SqL.of hd5,?_⟩;refine q _ _ (s1.trans s5) ?_;rw[uv,d8,<- Jf];exact⟨fun h e he=>(hlm _).mp (of_decide_eq_true (h e he)),fun h e he=>decide_eq_true ((hlm _).mpr (h e he))⟩
def Gv (us ms:List (List Nat))(p q:List Nat):Prop:=Hg.Tr Wd.beg Wd.fin p us q∧us.Perm ms
theorem Rp {ms:List (List Nat)}{v:List Nat}:exc ms [v]=((Wd.cnt Wd.beg ms v:Nat):Int)-((Wd.cnt Wd.fin ms v:Nat):Int):=by
 unfold exc Wd.cnt;simp only [ax];rfl
theorem Nb {ms:List (List Nat)}{v:List Nat}{g:List Nat->List Nat}(h:∀ l∈ms,g l≠v):Wd.cnt g ms v=0:=by
 unfold Wd.cnt;rw[a8,fu];exact fun l hl z=>h l hl (of_decide_eq_true z)
theorem Le {ms ev:List (List Nat)}(hc:Pcs ms ev)(hw:Pi ms ev none):∃ z0,IsP ms z0∧Wd.gY ms z0:=by
 obtain⟨z0,so,h0,_,hsn,hsm,e⟩:=hw;have hz0:=(hc.2.2 z0).mp (aq h0);have hl:so.length=ev.length:=bc fun z=>by rw[if_neg z] at e;cases e
 refine⟨z0,hz0,Jf.mp fun l hl'=>(hsm _).mp ?_⟩;exact Wd.full hsn (fun x hx=>(hc.2.2 x).mpr (Oe hz0 ((hsm x).mp hx))) (by omega) ((hc.2.2 _).mpr ⟨l,hl',.inl rfl⟩)
theorem Pu {ms ev:List (List Nat)}(hc:Pcs ms ev)(hw:Uo ms ev none):∃ us p,Gv us ms p p:=by
 rcases hw with ⟨z,_,e⟩ | ⟨hf,hA⟩
 ·cases e
 obtain⟨z0,hz0,hcon⟩:=Le hc hA;have hb:Wd.Bal ms z0 z0:=fun v=>by
  have key:Wd.cnt Wd.beg ms v=Wd.cnt Wd.fin ms v:=by
   by_cases hv:IsP ms v
   ·have:=qv.mp hf v ((hc.2.2 v).mpr hv)
    have h0:exc ms [v]=0:=bc fun z=>this (by rw[decide_eq_false z];rfl)
    rw[Rp] at h0;omega
   ·rw[Nb (g:=Wd.beg) fun l hl z=>hv ⟨l,hl,.inl z.symm⟩,Nb (g:=Wd.fin) fun l hl z=>hv ⟨l,hl,.inr z.symm⟩]
  rw[key]
 obtain⟨us,h1,h2⟩:=Wd.Ti hb hcon;exact⟨us,z0,h2,h1⟩
theorem sQ {α β:Type}(f:α->β):∀ (l:List α) (i:Nat) (a:α),(l.map f).set i (f a)=(l.set i a).map f
 | [],_,_=>rfl
 | _::_,0,_=>rfl
 | _::l,i+1,a=>by
  rw[au,ra,sQ f l i a,ra,au]
theorem Rh {n i:Nat}(h:i<n):ixN n (i:Int)=some i:=by
 unfold ixN;rw[if_pos (by omega),if_pos (by omega),bv]
def Tp:Sp:=fun vs H Q _=>∃ k n:Nat,vs=[.int (k:Nat),.int (n:Nat)]∧(k<=1000∧n<=1000)∧Q (.int ((k ^ n:Nat):Int)) H
theorem wJ {f:Addr}{fd:FuncData}(F:Fun K "_law_power" "_law_power" jY f fd)(tt:Txt K mg ad):bN P w K mg base (CX1 P w) 1 f fd ["base", "many"] Tp:=by
 refine F.okN gP (fun vs H Q E h=>?_) (fun cdv A outer s H vs Q E hr h=>?_)
 ·obtain⟨k,n,rfl,_⟩:=h
  rfl
 ·obtain⟨k,n,rfl,hn,q⟩:=h
  refine⟨_,(aB (aI (i:=2) gP.nd rfl (Or.inl rfl) aH)
   (aB (cN PassesOwn.never rfl (fA (by rfl) tt.b_range (aA (pv 1) aC)) (bD (i:=3) gP.nd rfl (Or.inl rfl)) (aE (aI (i:=2) gP.nd rfl (Or.inl rfl) (aQ kG (pv 2) (pv 0)))))
   (aE (aS (pv 2))))),?_⟩
  (try rw[bV]);(try rw[cxK1])
  refine⟨_,rfl,_,rfl,by omega,by omega,?_⟩;rw[bv];refine fP (fun i σ H2=>H2=H∧∃ v,σ=[some (.int (k:Nat)),some (.int (n:Nat)),some (.int ((k ^ i:Nat):Int)),v]) ⟨rfl,none,rfl⟩ ?_ ?_
  ·rintro i σ H2 hi ⟨rfl,v,rfl⟩
   refine⟨_,rfl,_,rfl,_,_,rfl,rfl,.inr ⟨by omega,by omega⟩,?_⟩;refine⟨rfl,some (.int (0+(i:Int))),?_⟩;rw[gv,fk];rfl
  ·rintro σ H2 ⟨rfl,v,rfl⟩
   exact⟨_,rfl,q⟩
def mJ (c k:Int):Int:=(c % 1000000007*48271+(k+1)*(k+1)*69621) % 2147483647*((c % 1000000007*48271+(k+1)*(k+1)*69621) % 2147483647) % 2147483629
def Aw:Sp:=fun vs H Q _=>∃ (c k:Int),vs=[.int c,.int k]∧(0<=k∧k<=1000)∧Q (.int (mJ c k)) H
theorem An {f:Addr}{fd:FuncData}(F:Fun K "_law_stir" "_law_stir" lB f fd)(tt:Txt K mg ad):bN P w K mg base (CX1 P w) 1 f fd ["cell", "k"] Aw:=by
 refine F.okN nQ (fun vs H Q E h=>?_) (fun cdv A outer s H vs Q E hr h=>?_)
 ·obtain⟨c,k,rfl,_⟩:=h
  rfl
 ·obtain⟨c,k,rfl,hk,q⟩:=h
  refine⟨_,(aB (aI (i:=2) nQ.nd rfl (Or.inl rfl) (aQ dD (aQ eC (aQ kG (aQ dD (pv 0) aH) aH) (aQ kG (aQ kG (aQ eC (pv 1) aH) (aQ eC (pv 1) aH)) aH)) aH))
   (aE (aS (aQ dD (aQ kG (pv 2) (pv 2)) aH)))),?_⟩
  (try rw[bV]);(try rw[cxK1])
  refine⟨_,rfl,_,_,rfl,rfl,(by show (0:Int)<1000000007;decide),_,_,rfl,rfl,.inr ⟨by decide,by decide⟩,_,rfl,_,_,rfl,rfl,_,rfl,_,_,rfl,rfl,_,_,rfl,rfl,.inl ⟨by omega,by omega⟩,_,_,rfl,rfl,.inr ⟨by decide,by decide⟩,_,_,rfl,rfl,_,_,rfl,rfl,(by show (0:Int)<2147483647;decide),?_⟩
  dsimp only
  have h1:=d0 (c % 1000000007*48271+(k+1)*(k+1)*69621) (show (2147483647:Int)≠0 by decide);have h2:=dk (c % 1000000007*48271+(k+1)*(k+1)*69621) (show (0:Int)<2147483647 by decide);unfold mJ at q;exact⟨_,rfl,_,rfl,_,_,rfl,rfl,.inl ⟨by omega,by omega⟩,_,_,rfl,rfl,(by show (0:Int)<2147483629;decide),q⟩
theorem Ln {k:Nat}(h:k<=6):([97,98,99,100,101,102]:List Nat).take k=(bu k).map (97 + ·):=by
 have key:∀ k:Nat,k<7->([97,98,99,100,101,102]:List Nat).take k=(bu k).map (97 + ·):=by decide
 exact key k (by omega)
theorem Vn {k:Nat}(l:List (List Nat)):(l.flatMap fun w=>(bu k).map fun c=>w++[97+c]).length=l.length*k:=by
 induction l with
 | nil=>simp
 | cons a l ih=>rw[eh,ai,ih,aR,cn,av,ia];omega
def Dl:Sp:=fun vs H Q _=>∃ nn kn:Nat,vs=[.int (nn:Nat),.int (kn:Nat)]∧((1<=kn∧kn<=6)∧nn<=24∧kn ^ nn<=4096)∧∀ D H',H D=none->aL H H'->H' D=some (.lst ((Wd.dO kn nn).map T))->Q (.ref D) H'
theorem wL {f:Addr}{fd:FuncData}(F:Fun K "_law_words" "_law_words" kJ f fd)(tt:Txt K mg ad):bN P w K mg base (CX1 P w) 1 f fd ["length", "kinds"] Dl:=by
 refine F.okN dP (fun vs H Q E h=>?_) (fun cdv A outer s H vs Q E hr h=>?_)
 ·obtain⟨nn,kn,rfl,_⟩:=h
  rfl
 ·obtain⟨n,k,rfl,⟨hk,hn,hpw⟩,q⟩:=h
  have hs:sizeLine=16777216:=sizeLine_eq;refine⟨_,(aB (aI (i:=2) dP.nd rfl (Or.inl rfl) (dF (aA (bX [] (by decide +kernel)) aC)))
   (aB (cN PassesOwn.never rfl (fA (by rfl) tt.b_range (aA (pv 0) aC)) (bD (i:=3) dP.nd rfl (Or.inl rfl)) (aB (aI (i:=4) dP.nd rfl (Or.inl rfl) (dF aC))
   (aB (cN PassesOwn.never rfl (cG (pv 2)) (bD (i:=5) dP.nd rfl (Or.inl rfl)) (aE (cN PassesOwn.never rfl (Og (bU wC (bX [97,98,99,100,101,102] (by decide +kernel)) cW (cC (pv 1)))) (bD (i:=6) dP.nd rfl (Or.inl rfl)) (aE (eL (vN ed g9 h9 gO (pv 4) (aA (aQ lR (pv 5) (pv 6)) aC)))))))
   (aE (aI (i:=2) dP.nd rfl (Or.inl rfl) (pv 4))))))
   (aE (aS (pv 2))))),?_⟩
  (try rw[bV]);(try rw[cxK1])
  refine⟨(by show 1<=sizeLine;omega),fun p hp=>?_⟩;refine⟨_,rfl,_,rfl,by omega,by omega,?_⟩;rw[bv];refine fP (fun i σ H2=>aL H H2∧∃ (D:Addr) (v1 v2 v3 v4:Option V),H D=none∧H2 D=some (.lst ((Wd.dO k i).map T))∧σ=[some (.int (n:Nat)),some (.int (k:Nat)),some (.ref D),v1,v2,v3,v4])
   ⟨(fun b o e=>by rw[aG (aJ e hp)];exact e),p,none,none,none,none,hp,aD,rfl⟩ ?_ ?_
  ·rintro i σ H2 hi ⟨s2,D,v1,v2,v3,v4,hD,hd,rfl⟩
   have hpi:k ^ i*k<=4096:=by
    rw[<- gv];exact az (dm (by omega) (by omega)) hpw
   refine⟨(by show 0<=sizeLine;omega),fun L hL=>?_⟩;have sA:aL H2 (upd H2 L (.lst [])):=aM hL;refine⟨_,rfl,D,rfl,⟨_,SqL.of (sA D _ hd)⟩,?_⟩;refine eE (K:=K) (a:=D) (xs:=(Wd.dO k i).map T) (fun j σ H3=>aL H2 H3∧∃ (v3 v4:Option V),H3 L=some (.lst ((((Wd.dO k i).take j).flatMap fun w=>(bu k).map fun c=>w++[97+c]).map T))∧σ=[some (.int (n:Nat)),some (.int (k:Nat)),some (.ref D),some (.int (0+(i:Int))),some (.ref L),v3,v4])
    ⟨sA,_,_,aD,rfl⟩ (fun j σ H3 _ h=>SqL.of (h.1 D _ hd)) ?_ ?_
   ·rintro j y σ H3 hj ⟨s3,v3,v4,hLd,rfl⟩
    have hjl:j<(Wd.dO k i).length:=by
     have:=(al.mp hj).1
     rw[aR] at this;exact this
    have hjx:(Wd.dO k i)[j]?=some (Wd.dO k i)[j]:=ac hjl;obtain rfl:y=T (Wd.dO k i)[j]:=by
     rw[ag,hjx] at hj;exact (ay hj).symm
    have hwl:((Wd.dO k i)[j]).length=i:=((Wd.oN (by omega)).mp (di hjl)).1;generalize (Wd.dO k i)[j]=wd at hjx hwl hj;rw[Wd.lQ] at hjl;refine⟨_,rfl,_,rfl,_,rfl,(by show 6<=sizeLine;omega),?_⟩;rw[Kb,Ln hk.2];refine⟨_,rfl,?_⟩;refine Ca (l:=(bu k).map (97 + ·)) (fun m σ H4=>aL H2 H4∧∃ (v4:Option V),H4 L=some (.lst (((((Wd.dO k i).take j).flatMap fun w=>(bu k).map fun c=>w++[97+c])++((((bu k).map (97 + ·)).take m).map fun c=>wd++[c])).map T))∧σ=[some (.int (n:Nat)),some (.int (k:Nat)),some (.ref D),some (.int (0+(i:Int))),some (.ref L),some (T wd),v4])
     ⟨s3,v4,by rw[ix,ir,du];exact hLd,rfl⟩ ?_ ?_
    ·rintro m c σ H4 hm ⟨s4,v4,hL4,rfl⟩
     have hml:m<k:=by
      have:=(al.mp hm).1
      rw[aR,cn] at this;exact this
     refine⟨_,rfl,.inl ⟨rfl,_,SqL.of hL4⟩,_,rfl,_,rfl,_,rfl,_,rfl,(by show wd.length+1<=sizeLine;omega),L,_,_,rfl,rfl,hL4,?_,?_⟩
     ·rw[aR,ai,Vn,aR,b8,b8,Wd.lQ,aR,cn]
      have:min j (k ^ i)*k<=k ^ i*k:=gq _ (sh _ _)
      omega
     ·refine⟨fun b o e=>by rw[aG (aJ e hL)];exact s4 b o e,some (T [c]),?_,rfl⟩
      rw[cx,hm];refine aD.trans ?_;simp
    ·rintro σ H4 ⟨s4,v4,hL4,rfl⟩
     refine⟨s4,_,_,?_,rfl⟩;rw[hL4,c8,cx,hjx,qd,bx];simp
   ·rintro σ H3 ⟨s3,v3,v4,hLd,rfl⟩
    rw[aR,c8,<- Wd.Ke k i (by omega)] at hLd;refine⟨_,rfl,s2.trans s3,L,_,_,_,_,?_,hLd,rfl⟩
    cases hq:H L with
    | none=>rfl
    | some o=>have:=s2 _ _ hq;rw[hL] at this;cases this
  ·rintro σ H2 ⟨s2,D,v1,v2,v3,v4,hD,hd,rfl⟩
   exact⟨_,rfl,q D H2 hD s2 hd⟩
def tW (K:af):Sp:=fun vs H Q _=>∃ (a:Addr) (ns:List Int) (m:Nat),vs=[.ref a,.int (m:Nat)]∧SqL K H a (ns.map V.int)∧(ns.length<=63∧1<=m∧m<=1000)∧∀ (D:Addr) (zs:List Int) (H':Hp),aL H H'->H' D=some (.lst (zs.map V.int))->zs.length=m->Q (.ref D) H'
theorem vE {f:Addr}{fd:FuncData}(F:Fun K "_law_folded" "_law_folded" jD f fd)(tt:Txt K mg ad):bN P w K mg base (CX1 P w) 1 f fd ["script", "many"] (tW K):=by
 refine F.okN fZ (fun vs H Q E h=>?_) (fun cdv A outer s H vs Q E hr h=>?_)
 ·obtain⟨a,ns,m,rfl,_⟩:=h
  rfl
 ·obtain⟨a,ns,m,rfl,hS,⟨h63,hm1,hm2⟩,q⟩:=h
  have hs:sizeLine=16777216:=sizeLine_eq;refine⟨_,(aB (aI (i:=2) fZ.nd rfl (Or.inl rfl) (aQ Qr (dF (aA aH aC)) (pv 1)))
   (aB (cN PassesOwn.never rfl (fA (by rfl) tt.b_range (aA (aO aX (by rfl) tt.b_len a7 (aA (pv 0) aC)) aC)) (bD (i:=3) fZ.nd rfl (Or.inl rfl)) (aB (aI (i:=4) fZ.nd rfl (Or.inl rfl) (aQ dD (cK cF (pv 0) (pv 3) (fun _ _=>rfl)) aH))
   (aE (Gd (aQ dD (aQ eC (aQ eC (aQ kG (cK cF (pv 2) (aQ dD (pv 3) (pv 1)) (fun _ _=>rfl)) aH) (pv 4)) aH) aH) (Ut (pv 2) (aQ dD (pv 3) (pv 1)) Nh)))))
   (aE (aS (pv 2))))),?_⟩
  (try rw[bV]);(try rw[cxK1])
  refine⟨(by show 1<=sizeLine;omega),fun p1 hp1=>?_⟩;have t1:=aM (o:=.lst [.int 0]) hp1;refine⟨_,rfl,p1,m,_,rfl,rfl,SqL.of aD,⟨by omega,by show 1*m<=sizeLine;omega⟩,fun D hD=>?_⟩;have t2:=t1.trans (aM (o:=.lst (c7 m [V.int 0]).flatten) hD);have hrep:∀ m:Nat,(c7 m [V.int 0]).flatten=(c7 m (0:Int)).map V.int:=fun m=>by
   induction m with
   | zero=>rfl
   | succ m ih=>rw[fe,i8,ih,fe,au];rfl
  rw[hrep] at t2 ⊢;obtain⟨H2,hH2,s2,hd2⟩:=Wt t2;rw[<- hH2];refine⟨_,rfl,a,_,rfl,.inl (s2.seq hS),_,rfl,by omega,(by rw[aR];omega),?_⟩;rw[aR,bv];refine fP (fun i σ H3=>aL H H3∧∃ (zs:List Int) (v3 v4:Option V),H3 D=some (.lst (zs.map V.int))∧zs.length=m∧σ=[some (.ref a),some (.int (m:Nat)),some (.ref D),v3,v4]) ⟨s2,_,none,none,hd2,o8 ..,rfl⟩ ?_ ?_
  ·rintro i σ H3 hi ⟨s3,zs,v3,v4,hd3,hzl,rfl⟩
   obtain⟨w1,hw1⟩:∃ w1,ns[i]?=some w1:=⟨_,ac hi⟩;have z0:=d0 ((i:Nat):Int) (show ((m:Nat):Int)≠0 by omega);have z1:=dk ((i:Nat):Int) (show (0:Int)<((m:Nat):Int) by omega);obtain⟨j,hj⟩:∃ j:Nat,(0+((i:Nat):Int)) % ((m:Nat):Int)=(j:Int):=⟨((0+((i:Nat):Int)) % ((m:Nat):Int)).toNat,by rw[gx];omega⟩;have hjm:j<m:=by rw[gx] at hj;omega
   obtain⟨w2,hw2⟩:∃ w2,zs[j]?=some w2:=⟨_,ac (by omega)⟩;have hDn:H D=none:=by
    cases e:H D with
    | none=>rfl
    | some o=>exact absurd ((t1 D o e).symm.trans hD) (fun z=>nomatch z)
   have hm0:(0:Int)<((m:Nat):Int):=by omega
   refine⟨_,rfl,_,rfl,a,_,_,_,rfl,rfl,s3.seq hS,(by rw[gx];exact bC (by rw[ag,hw1];rfl)),_,_,rfl,rfl,(by show (0:Int)<1000000007;decide),?_⟩;refine⟨_,rfl,_,rfl,_,rfl,_,_,rfl,rfl,hm0,D,_,_,_,rfl,rfl,SqL.of hd3,(show atI _ ((0+((i:Nat):Int)) % ((m:Nat):Int))=_ by rw[hj];exact bC (by rw[ag,hw2];rfl)),_,_,rfl,rfl,.inr ⟨by decide,by decide⟩,_,rfl,_,_,rfl,rfl,_,_,rfl,rfl,_,_,rfl,rfl,(by show (0:Int)<1000000007;decide),?_⟩;refine⟨_,rfl,_,rfl,_,rfl,_,_,rfl,rfl,hm0,D,_,_,j,rfl,rfl,hd3,(show ixN _ ((0+((i:Nat):Int)) % ((m:Nat):Int))=_ by rw[hj];exact Rh (by rw[aR];omega)),?_⟩;rw[sQ V.int];exact⟨fun b o e=>by rw[aG (aJ e hDn)];exact s3 b o e,_,_,_,aD,by rw[tm];exact hzl,rfl⟩
  ·rintro σ H3 ⟨s3,zs,v3,v4,hd3,hzl,rfl⟩
   exact⟨_,rfl,q D zs H3 s3 hd3 hzl⟩
def Gw (K:af):Sp:=fun vs H Q _=>∃ (b:Addr) (ws:List (List Nat)) (c:Int),vs=[.ref b,.int c]∧SqL K H b (ws.map T)∧ws.length<=1000∧∀ (D:Addr) (us:List (List Nat)) (H':Hp),aL H H'->SqL K H' D (us.map T)->us.Sublist ws->(ws≠[]->us≠[])->Q (.ref D) H'
theorem oZ {f:Addr}{fd:FuncData}(F:Fun K "_law_by_digits" "_law_by_digits" gJ f fd)(tt:Txt K mg ad):bN P w K mg base (CX1 P w) 1 f fd ["words", "part"] (Gw K):=by
 refine F.okN eM (fun vs H Q E h=>?_) (fun cdv A outer s H vs Q E hr h=>?_)
 ·obtain⟨b,ws,c,rfl,_⟩:=h
  rfl
 ·obtain⟨b,ws,c,rfl,hB,hwl,q⟩:=h
  have hs:sizeLine=16777216:=sizeLine_eq;have hu:=gg (eA hr);refine⟨_,(aB (aI (i:=2) eM.nd rfl (Or.inl rfl) (dF aC))
   (aB (cN PassesOwn.never rfl (cG (pv 0)) (bD (i:=3) eM.nd rfl (Or.inl rfl)) (aB (bR (aU iD (aQ dD (pv 1) aH) aH (aY _)) (aE (eL (vN ed g9 h9 gO (pv 2) (aA (pv 3) aC)))) aW)
   (aE (aI (i:=1) eM.nd rfl (Or.inl rfl) (aQ gS (pv 1) aH)))))
   (aB (bR (aU (nZ hu) (pv 2) (dF aC) (aY _)) (aE (aS (pv 0))) aW)
   (aE (aS (pv 2)))))),?_⟩
  (try rw[bV]);(try rw[cxK1])
  refine⟨(by show 0<=sizeLine;omega),fun D hD=>?_⟩;have sD:=aM (o:=.lst []) hD;refine⟨_,rfl,b,rfl,⟨_,sD.seq hB⟩,?_⟩;refine eE (K:=K) (a:=b) (xs:=ws.map T) (fun i σ G=>aL H G∧∃ (us:List (List Nat)) (c':Int) (v3:Option V),G D=some (.lst (us.map T))∧us.Sublist (ws.take i)∧σ=[some (.ref b),some (.int c'),some (.ref D),v3])
   ⟨sD,[],c,none,aD,List.nil_sublist _,rfl⟩ (fun i σ G _ h=>h.1.seq hB) ?_ ?_
  ·rintro i y σ G hi ⟨sG,us,c',v3,hdG,hsub,rfl⟩
   obtain⟨wd,hwi,rfl⟩:∃ wd,ws[i]?=some wd∧T wd=y:=by rw[ag] at hi;exact bj.mp hi
   have htk:ws.take (i+1)=ws.take i++[wd]:=by rw[cx,hwi];rfl
   have hul:us.length<=1000:=by have:=hsub.length_le;rw[b8] at this;omega
   refine⟨_,rfl,_,_,rfl,rfl,(by show (0:Int)<2;decide),_,rfl,_,rfl,_,rfl,?_⟩;refine kF (fun h1=>?_) (fun h1=>?_)
   ·refine⟨_,rfl,.inl ⟨rfl,_,SqL.of hdG⟩,_,rfl,D,_,_,rfl,rfl,hdG,(by rw[aR];omega),?_⟩
    refine⟨_,rfl,_,_,rfl,rfl,⟨by decide,by decide⟩,?_⟩;refine⟨fun b' o' e'=>by rw[aG (aJ e' hD)];exact sG b' o' e',us++[wd],_,_,by rw[aD,bh];rfl,?_,rfl⟩;rw[htk];exact hsub.append (sd _)
   ·refine⟨_,rfl,_,_,rfl,rfl,⟨by decide,by decide⟩,?_⟩
    refine⟨sG,us,_,_,hdG,?_,rfl⟩;rw[htk];exact hsub.trans (List.sublist_append_left ..)
  ·rintro σ G ⟨sG,us,c',v3,hdG,hsub,rfl⟩
   rw[aR,c8] at hsub;refine⟨_,rfl,(by show 0<=sizeLine;omega),fun E0 hE0=>?_⟩;have tE:=aM (o:=.lst []) hE0;refine⟨D,E0,us,[],rfl,rfl,SqL.of (tE D _ hdG),SqL.of aD,_,rfl,?_⟩;by_cases he:us=[]
   ·refine itP (decide_eq_true he) ?_
    exact⟨_,rfl,q b ws _ (sG.trans tE) ((sG.trans tE).seq hB) (sd _) id⟩
   ·refine itN (fun z=>he (of_decide_eq_true z)) ?_
    exact⟨_,rfl,q D us _ (sG.trans tE) (SqL.of (tE D _ hdG)) hsub fun _=>he⟩
theorem Kh (c:Nat):Wd.Bc (c+1)=Wd.Bc c++[97+c]:=by
 unfold Wd.Bc;rw[kr,bh];rfl
theorem Ph {os:List Nat}{c m:Nat}(h:os.Perm (Wd.Bc c)):(os.take m++(97+c)::os.drop m).Perm (Wd.Bc (c+1)):=by
 rw[Kh];refine List.perm_middle.trans ?_;rw[j3];exact (h.cons _).trans (mr _ _).symm
theorem Rr {os:List Nat}{x m:Nat}:((os.map fun c=>[c]).map T).take m++T [x]::((os.map fun c=>[c]).map T).drop m=(((os.take m++x::os.drop m).map fun c=>[c]).map T):=by
 rw[bh,bh,au,au,km,km,jy,jy]
theorem Xf {E kn c j:Nat}(hc:c<kn)(hj:j<E):c*E+j<E*kn:=by
 have:(c+1)*E<=kn*E:=gq _ hc
 rw[k7] at this;rw[de E kn];omega
theorem Cc (k:Nat):(Wd.Bc k).length=k:=by rw[Wd.Bc,aR,cn]
def Beh (kn nn:Nat)(kvs:List (Key×V))(S:List Nat->Prop):Prop:=(∀ x v,dR kvs (cc (tx x))=some v->∃ y∈Wd.dO kn nn,v=T y)∧∀ x∈Wd.dO kn nn,S x->(dR kvs (cc (tx x))).isSome=true
theorem Beh.put {kn nn:Nat}{kvs:List (Key×V)}{S:List Nat->Prop}{x y:List Nat}(h:Beh kn nn kvs S)(hy:y∈Wd.dO kn nn):Beh kn nn (fU kvs (cc (tx x)) (T y)) fun z=>S z∨z=x:=by
 refine⟨fun z v hv=>?_,fun z hz hs=>?_⟩
 ·rw[Co] at hv
  by_cases e:(cc (tx z):Key)=cc (tx x)
  ·rw[if_pos e] at hv
   exact⟨y,hy,(ay hv).symm⟩
  ·rw[if_neg e] at hv
   exact h.1 z v hv
 ·rw[Co]
  by_cases e:(cc (tx z):Key)=cc (tx x)
  ·rw[if_pos e]
   rfl
  ·rw[if_neg e]
   rcases hs with hs | hs
   ·exact h.2 z hz hs
   ·exact absurd (by rw[hs]) e
theorem Sl {kvs:List (Key×V)}{k:Key}{v:V}:(fU kvs k v).length<=kvs.length+1:=by
 unfold fU;split
 ·rw[aR];omega
 ·rw[ai];exact ah _
def Ts (K:af):Sp:=fun vs H Q _=>∃ (a b:Addr) (ns:List Int) (nn kn:Nat),vs=[.ref a,.ref b,.int (nn:Nat),.int (kn:Nat)]∧SqL K H a (ns.map V.int)∧ns.length<=63∧SqL K H b ((Wd.dO kn nn).map T)∧((1<=kn∧kn<=6)∧1<=nn∧nn<=8∧kn ^ nn<=64) ∧
 ∀ (D:Addr) (kvs:List (Key×V)) (H':Hp),aL H H'->H' D=some (.dK kvs)->(∀ x∈Wd.dO kn nn,∃ y∈Wd.dO kn nn,dR kvs (cc (tx x))=some (T y))->Q (.ref D) H'
theorem tX {f:Addr}{fd:FuncData}(F:Fun K "_law_behind" "_law_behind" jG f fd)(tt:Txt K mg ad)(C__law_power:Cal P w K mg base (CX1 P w) "_law_power" 1 ["base", "many"] Tp)(C__law_folded:Cal P w K mg base (CX1 P w) "_law_folded" 1 ["script", "many"] (tW K))(C__law_stir:Cal P w K mg base (CX1 P w) "_law_stir" 1 ["cell", "k"] Aw) :
  bN P w K mg base (CX1 P w) 2 f fd ["script", "words", "length", "kinds"] (Ts K):=by
 refine F.okN bS (fun vs H Q E h=>?_) (fun cdv A outer s H vs Q E hr h=>?_)
 ·obtain⟨a,b,ns,nn,kn,rfl,_⟩:=h
  rfl
 ·obtain⟨a,b,ns,nn,kn,rfl,hS,hlen,hB,⟨hk,hn1,hn2,hpw⟩,q⟩:=h
  have hs:sizeLine=16777216:=sizeLine_eq;have hE:kn ^ (nn-1)*kn=kn ^ nn:=by rw[<- gv,show (nn-1).succ=nn by omega]
  have hE0:0<kn ^ (nn-1):=lw (by omega);have hal:(Wd.dO kn nn).length=kn ^ nn:=Wd.lQ ..;refine⟨_,(aB (aI (i:=4) bS.nd rfl (Or.inl rfl) (aK C__law_power hr aN (aA (pv 3) (aA (aQ fW (pv 2) aH) aC))))
   (aB (aI (i:=5) bS.nd rfl (Or.inl rfl) (aK C__law_folded hr aN (aA (pv 0) (aA (pv 4) aC))))
   (aB (aI (i:=6) bS.nd rfl (Or.inl rfl) uW)
   (aB (cN PassesOwn.never rfl (fA (by rfl) tt.b_range (aA (pv 4) aC)) (bD (i:=7) bS.nd rfl (Or.inl rfl)) (aB (aI (i:=8) bS.nd rfl (Or.inl rfl) (dF aC))
   (aB (aI (i:=9) bS.nd rfl (Or.inl rfl) (aK C__law_stir hr aN (aA (cK cF (pv 5) (pv 7) (fun _ _=>rfl)) (aA (pv 7) aC))))
   (aB (cN PassesOwn.never rfl (fA (by rfl) tt.b_range (aA (pv 3) aC)) (bD (i:=10) bS.nd rfl (Or.inl rfl)) (aB (eL (vN ed PySem.F.slot_list_insert PySem.F.type_list_insert Jz (pv 8) (aA (aQ dD (aQ gS (pv 9) aH) (aQ eC (pv 10) aH)) (aA (cK Pq (bX [97,98,99,100,101,102] (by decide +kernel)) (pv 10) (fun _ _=>rfl)) aC))))
   (aE (aI (i:=9) bS.nd rfl (Or.inl rfl) (aQ gS (aQ gS (pv 9) aH) (aQ eC (pv 10) aH))))))
   (aE (cN PassesOwn.never rfl (fA (by rfl) tt.b_range (aA (pv 3) aC)) (bD (i:=10) bS.nd rfl (Or.inl rfl)) (aB (aI (i:=11) bS.nd rfl (Or.inl rfl) (cK cF (pv 1) (aQ eC (aQ kG (pv 10) (pv 4)) (pv 7)) (fun _ _=>rfl)))
   (aE (lS (eA hr) (pv 6) (pv 11) (aQ lR (bU wC (pv 11) (cC aH) cW) (cK cF (pv 8) (pv 10) (fun _ _=>rfl))) rfl)))))))))
   (aE (aS (pv 6))))))),?_⟩
  (try rw[bV]);(try rw[cxK1])
  refine⟨_,rfl,_,rfl,_,_,rfl,rfl,kn,nn-1,(by show [V.int (kn:Nat),V.int (((nn:Nat):Int)-1)]=_;rw[show ((nn:Nat):Int)-1=((nn-1:Nat):Int) by omega]),⟨by omega,by omega⟩,?_⟩
  dsimp only
  generalize kn ^ (nn-1)=E at hE hE0 ⊢;have hE64:E<=64:=az (Nat.le_mul_of_pos_right E hk.1) (by omega);refine⟨_,rfl,_,rfl,a,ns,E,rfl,hS,⟨hlen,by omega,by omega⟩,fun C zs H1 s1 hdC hzl=>?_⟩;refine fun D hD=>?_
  have t1:=aM (o:=.dK []) hD;have hDn:H D=none:=iH s1 hD;refine⟨_,rfl,_,rfl,by omega,by omega,?_⟩;rw[bv];refine fP (fun j σ H3=>aL H H3∧H3 C=some (.lst (zs.map V.int))∧∃ (kvs:List (Key×V)) (v7 v8 v9 v10 v11:Option V),H3 D=some (.dK kvs)∧kvs.length<=j*kn∧Beh kn nn kvs (fun x=>∃ c i,c<kn∧i<j∧(Wd.dO kn nn)[c*E+i]?=some x)∧σ=[some (.ref a),some (.ref b),some (.int (nn:Nat)),some (.int (kn:Nat)),some (.int (E:Nat)),some (.ref C),some (.ref D),v7,v8,v9,v10,v11])
   ⟨s1.trans t1,t1 C _ hdC,[],none,none,none,none,none,aD,b9 _,⟨(fun x v hv=>by cases hv),fun x _ ⟨c,i,_,h,_⟩=>absurd h (by omega)⟩,rfl⟩ ?_ ?_
  ·rintro j σ H3 hj ⟨s3,c3,kvs,v7,v8,v9,v10,v11,d3,hkl,hbe,rfl⟩
   refine⟨(by show 0<=sizeLine;omega),fun O hO=>?_⟩;have t5:=aM (o:=.lst []) hO;have hOD:O≠D:=fun z=>by rw[z,d3] at hO;cases hO
   obtain⟨zj,hzj⟩:∃ zj,zs[j]?=some zj:=⟨_,ac (by omega)⟩;refine⟨_,rfl,_,rfl,C,_,_,_,rfl,rfl,SqL.of (t5 C _ c3),(by rw[gx];exact bC (by rw[ag,hzj];rfl)),_,rfl,_,_,rfl,⟨by omega,by omega⟩,?_⟩;generalize mJ zj (0+((j:Nat):Int))=pt;refine⟨_,rfl,_,rfl,by omega,by omega,?_⟩;rw[bv];have o7:upd H3 O (.lst []) O=some (.lst []):=aD;generalize upd H3 O (.lst [])=H4 at t5 o7;refine fP (fun c σ H5=>(∀ b o,b≠O->H4 b=some o->H5 b=some o)∧∃ (os:List Nat) (pt:Int) (v10:Option V),os.Perm (Wd.Bc c)∧H5 O=some (.lst ((os.map fun c=>[c]).map T))∧σ=[some (.ref a),some (.ref b),some (.int (nn:Nat)),some (.int (kn:Nat)),some (.int (E:Nat)),some (.ref C),some (.ref D),some (.int (0+((j:Nat):Int))),some (.ref O),some (.int pt),v10,v11])
    ⟨fun b o _ e=>e,[],pt,_,ie _,o7,rfl⟩ ?_ ?_
   ·rintro c σ H5 hc ⟨k5,os,pt,v10,hperm,o5,rfl⟩
    have hol:os.length=c:=by rw[hperm.length_eq,Cc]
    obtain⟨m,hm,hml⟩:∃ m:Nat,pt/7 % (0+((c:Nat):Int)+1)=(m:Int)∧m<=c:=⟨(pt/7 % (0+((c:Nat):Int)+1)).toNat,by have:=d0 (pt/7) (show 0+((c:Nat):Int)+1≠0 by omega);omega,by have:=d0 (pt/7) (show 0+((c:Nat):Int)+1≠0 by omega);have:=dk (pt/7) (show 0<0+((c:Nat):Int)+1 by omega);omega⟩;have hch:atI [97,98,99,100,101,102] (0+((c:Nat):Int))=some (97+c):=by
     have:∀ k:Nat,k<6->([97,98,99,100,101,102]:List Nat)[k]?=some (97+k):=by decide
     rw[gx];exact bC (this c (by omega))
    refine⟨_,rfl,.inl ⟨rfl,_,SqL.of o5⟩,_,rfl,_,_,rfl,rfl,⟨by decide,by decide⟩,_,rfl,_,_,rfl,rfl,_,_,rfl,rfl,(by show (0:Int)<0+((c:Nat):Int)+1;omega),_,rfl,_,rfl,_,rfl,(by show 6<=sizeLine;omega),_,hch,O,_,m,T [97+c],rfl,(by show [V.int (pt/7 % (0+((c:Nat):Int)+1)),T [97+c]]=_;rw[hm]),o5,(by rw[aR,aR,hol];exact hml),(by rw[aR,aR];omega),?_⟩;rw[Rr];refine⟨_,rfl,_,_,rfl,rfl,⟨by decide,by decide⟩,_,rfl,_,_,rfl,rfl,_,_,rfl,rfl,⟨by show (0:Int)<0+((c:Nat):Int)+1;omega,by show 0+((c:Nat):Int)+1<_;omega⟩,?_⟩;exact⟨fun b o hb e=>by rw[aG hb];exact k5 b o hb e,_,_,_,Ph hperm,aD,rfl⟩
   ·rintro σ H5 ⟨k5,os,pt,v10,hperm,o5,rfl⟩
    have hol:os.length=kn:=by rw[hperm.length_eq,Cc]
    have hOn:∀ b o,H3 b=some o->b≠O:=fun b o e z=>by rw[z,hO] at e;cases e
    have s35:aL H3 H5:=fun b o e=>k5 b o (hOn b o e) (t5 b o e)
    refine⟨_,rfl,_,rfl,by omega,by omega,?_⟩;rw[bv];refine fP (fun c σ H6=>aL H H6∧H6 C=some (.lst (zs.map V.int))∧H6 O=some (.lst ((os.map fun c=>[c]).map T))∧∃ (kvs:List (Key×V)) (v10 v11:Option V),H6 D=some (.dK kvs)∧kvs.length<=j*kn+c∧Beh kn nn kvs (fun x=>(∃ c i,c<kn∧i<j∧(Wd.dO kn nn)[c*E+i]?=some x)∨∃ c',c'<c∧(Wd.dO kn nn)[c'*E+j]?=some x)∧σ=[some (.ref a),some (.ref b),some (.int (nn:Nat)),some (.int (kn:Nat)),some (.int (E:Nat)),some (.ref C),some (.ref D),some (.int (0+((j:Nat):Int))),some (.ref O),some (.int pt),v10,v11])
     ⟨s3.trans s35,s35 C _ c3,o5,kvs,v10,v11,s35 D _ d3,by omega,⟨hbe.1,fun x hx h=>h.elim (hbe.2 x hx) fun ⟨c',h,_⟩=>absurd h (by omega)⟩,rfl⟩ ?_ ?_
    ·rintro c σ H6 hc ⟨s6,c6,o6,kvs,v10,v11,d6,hkl6,hbe6,rfl⟩
     obtain⟨x,hx⟩:∃ x,os[c]?=some x:=⟨_,ac (by omega)⟩;have hlt:=Xf (E:=E) hc hj;have hce:c*E<=64:=by omega
     obtain⟨wd,hwd⟩:∃ wd,(Wd.dO kn nn)[c*E+j]?=some wd:=⟨_,ac (by omega)⟩;have hwm:=aq hwd;obtain⟨hwl,hwo⟩:=(Wd.oN (by omega)).mp hwm;have hxl:97<=x∧x<97+kn:=by
      have h1:=hperm.mem_iff.mp (aq hx);obtain⟨r,h2,h3⟩:=a5.mp h1
      have:=ck.mp h2
      omega
     have hnew:wd.drop 1++[x]∈Wd.dO kn nn:=(Wd.oN (by omega)).mpr ⟨by rw[ai,bf];show _+1=nn;omega,fun d hd=>(bt.mp hd).elim (fun h=>hwo d (kf h)) fun h=>by rw[ax.mp h];exact hxl⟩;refine⟨_,rfl,_,rfl,_,rfl,_,_,rfl,rfl,.inl ⟨by omega,by omega⟩,_,rfl,_,_,rfl,rfl,b,_,_,_,rfl,rfl,s6.seq hB,(show atI _ ((0+((c:Nat):Int))*((E:Nat):Int)+(0+((j:Nat):Int)))=some (T wd) by rw[gx,gx,<- fk,<- jv];exact bC (by rw[ag,hwd];rfl)),?_⟩;have ce:iG wd (some 1) none=wd.drop 1:=yC (k:=1) (by omega);refine⟨_,rfl,_,rfl,_,rfl,(by omega),?_⟩;rw[ce];refine⟨_,rfl,_,rfl,O,_,_,_,rfl,rfl,SqL.of o6,(by rw[gx];exact bC (by rw[ag,ag,hx];rfl)),_,rfl,_,rfl,(by rw[bf];show _+1<=sizeLine;omega),?_⟩;have hjk:j*kn<=E*kn:=gq _ (i6 hj);refine⟨_,rfl,_,rfl,D,_,rfl,oU.k (k:=cc (tx wd)) d6 (by omega),?_⟩;have hCD:C≠D:=fun z=>by rw[z,d6] at c6;cases c6
     refine⟨fun b' o' e'=>by rw[aG (aJ e' hDn)];exact s6 b' o' e',by rw[aG hCD];exact c6,by rw[aG hOD];exact o6,_,_,_,aD,az Sl (by omega),⟨(hbe6.put hnew).1,fun z hz h=>(hbe6.put (x:=wd) hnew).2 z hz ?_⟩,rfl⟩;rcases h with h | ⟨c',h1,h2⟩
     ·exact .inl (.inl h)
     ·rcases fq c' c with h3 | h3
      ·exact .inl (.inr ⟨c',h3,h2⟩)
      ·obtain rfl:c'=c:=by omega
       rw[hwd] at h2;exact .inr (ay h2).symm
    ·rintro σ H6 ⟨s6,c6,o6,kvs,v10,v11,d6,hkl6,hbe6,rfl⟩
     refine⟨s6,c6,kvs,_,_,_,_,_,d6,by rw[ia,gy];exact hkl6,⟨hbe6.1,fun x hx ⟨c,i,hc,hi,e⟩=>hbe6.2 x hx ?_⟩,rfl⟩;rcases fq i j with h | h
     ·exact .inl ⟨c,i,hc,h,e⟩
     ·obtain rfl:i=j:=by omega
      exact .inr ⟨c,hc,e⟩
  ·rintro σ H3 ⟨s3,c3,kvs,v7,v8,v9,v10,v11,d3,hkl,hbe,rfl⟩
   refine⟨_,rfl,q D kvs H3 s3 d3 fun x hx=>?_⟩;obtain⟨m,hm1,hm2⟩:=qb.mp hx;have h1:=hbe.2 x hx ⟨m/E,m % E,p7 (by omega),jc _ hE0,by rw[Nat.div_add_mod' m E,ac hm1,hm2]⟩;obtain⟨v,hv⟩:=kj.mp h1;obtain⟨y,hy,rfl⟩:=hbe.1 x v hv;exact⟨y,hy,hv⟩
def Gx (K:af):Sp:=fun vs H Q _=>∃ (a:Addr) (ns:List Int) (c:Int) (nn kn:Nat),vs=[.ref a,.int c,.int (nn:Nat),.int (kn:Nat)]∧SqL K H a (ns.map V.int)∧ns.length<=63∧((1<=kn∧kn<=6)∧1<=nn∧nn<=8∧kn ^ nn<64) ∧
 ∀ (D:Addr) (us:List (List Nat)) (H':Hp),aL H H'->SqL K H' D (us.map T)->us≠[]->us.Pairwise (· < ·)->(∀ x∈us,x∈Wd.dO kn nn)->Q (.ref D) H'
theorem mR {f:Addr}{fd:FuncData}(F:Fun K "_law_even_words" "_law_even_words" gF f fd)(tt:Txt K mg ad)(C__law_words:Cal P w K mg base (CX1 P w) "_law_words" 1 ["length", "kinds"] Dl)(C__law_by_digits:Cal P w K mg base (CX1 P w) "_law_by_digits" 1 ["words", "part"] (Gw K))(C__law_behind:Cal P w K mg base (CX1 P w) "_law_behind" 2 ["script", "words", "length", "kinds"] (Ts K))(C__law_stir:Cal P w K mg base (CX1 P w) "_law_stir" 1 ["cell", "k"] Aw) :
  bN P w K mg base (CX1 P w) 3 f fd ["script", "n", "length", "kinds"] (Gx K):=by
 refine F.okN bE (fun vs H Q E h=>?_) (fun cdv A outer s H vs Q E hr h=>?_)
 ·obtain⟨a,ns,c,nn,kn,rfl,_⟩:=h
  rfl
 ·obtain⟨a,ns,c,nn,kn,rfl,hS,hlen,⟨hk,hn1,hn2,hpw⟩,q⟩:=h
  have hs:sizeLine=16777216:=sizeLine_eq;have hu:=gg (eA hr);have hal:(Wd.dO kn nn).length=kn ^ nn:=Wd.lQ ..;have hasc:=Wd.Ds (k:=kn) (n:=nn) (by omega);have hand:(Wd.dO kn nn).Nodup:=hasc.imp fun h e=>absurd (e▸h) (gh _)
  have hane:Wd.dO kn nn≠[]:=fun z=>by
   rw[z] at hal
   have:0<kn ^ nn:=lw (by omega)
   rw[<- hal] at this;exact absurd this (by decide)
  refine⟨_,(aB (aI (i:=4) bE.nd rfl (Or.inl rfl) (aK C__law_words hr aN (aA (pv 2) (aA (pv 3) aC))))
   (aB (bR (aU iD (aQ dD (cK cF (aQ sR (pv 0) (dF (aA aH aC))) aH (fun _ _=>rfl)) aH) aH (aY _)) (aE (aS (aK C__law_by_digits hr aN (aA (pv 4) (aA (aQ gS (cK cF (pv 0) aH (fun _ _=>rfl)) aH) aC))))) aW)
   (aB (aI (i:=5) bE.nd rfl (Or.inl rfl) (aK C__law_behind hr aN (aA (pv 0) (aA (pv 4) (aA (pv 2) (aA (pv 3) aC))))))
   (aB (aI (i:=6) bE.nd rfl (Or.inl rfl) (dF aC))
   (aB (aI (i:=7) bE.nd rfl (Or.inl rfl) uW)
   (aB (aI (i:=8) bE.nd rfl (Or.inl rfl) (aQ gS (aK C__law_stir hr aN (aA (pv 1) (aA aH aC))) aH))
   (aB (cN PassesOwn.never rfl (cG (pv 4)) (bD (i:=9) bE.nd rfl (Or.inl rfl)) (aB (aI (i:=10) bE.nd rfl (Or.inl rfl) (nR oJ (aQ dD (pv 8) aH) aH (aY _)))
   (aB (bR (jF (yB (eA hr) (pv 9) (pv 7))) (aE (aI (i:=8) bE.nd rfl (Or.inl rfl) (aQ gS (pv 8) aH))) aW)
   (aE (iM PassesOwn.never (jF (yB (eA hr) (pv 9) (pv 7))) (aB (lS (eA hr) (pv 7) (pv 9) gZ rfl)
   (aB (bR (qH (pv 10)) (aE (eL (vN ed g9 h9 gO (pv 6) (aA (pv 9) aC)))) aW)
   (aE (aI (i:=9) bE.nd rfl (Or.inl rfl) (oR (eA hr) (pv 5) (pv 9) (fun _ _=>rfl)))))))))))
   (aB (bR (aU (nZ hu) (pv 6) (dF aC) (aY _)) (aE (aS (pv 4))) aW)
   (aE (aS (aO gB (by rfl) tt.b_sorted dw (aA (pv 6) aC)))))))))))),?_⟩
  (try rw[bV]);(try rw[cxK1])
  refine⟨_,rfl,_,rfl,nn,kn,rfl,⟨hk,by omega,by omega⟩,fun W H1 hW s1 hd1=>?_⟩;obtain⟨z0,hz0,hz1⟩:∃ z0:Int,atI (ns.map V.int++[V.int 0]) 0=some (V.int z0)∧(z0 % 2=1->atI (ns.map V.int) 0=some (V.int z0)):=by
   cases ns with
   | nil=>exact⟨0,bC (j:=0) rfl,fun z=>absurd z (by decide)⟩
   | cons n ns=>exact⟨n,bC (j:=0) rfl,fun _=>bC (j:=0) rfl⟩
  refine⟨_,rfl,(by show 1<=sizeLine;omega),fun p2 hp2=>?_⟩;have t2:=aM (o:=.lst [.int 0]) hp2;refine⟨a,p2,_,_,rfl,rfl,(s1.trans t2).seq hS,SqL.of aD,(by rw[aR];show ns.length+1<=sizeLine;omega),fun p3 hp3=>⟨p3,_,_,_,rfl,rfl,SqL.of aD,hz0,?_⟩⟩;have t3:=t2.trans (aM (o:=.lst (ns.map V.int++[V.int 0])) hp3);generalize upd (upd H1 p2 (.lst [.int 0])) p3 (.lst (ns.map V.int++[V.int 0]))=H3 at t3 ⊢;have s13:=s1.trans t3;have hd3:=t3 W _ hd1;refine⟨_,_,rfl,rfl,(by show (0:Int)<2;decide),_,rfl,_,rfl,_,rfl,?_⟩;refine kF (fun h=>?_) (fun h=>?_)
  ·refine⟨_,rfl,_,rfl,a,_,_,_,rfl,rfl,s13.seq hS,hz1 (of_decide_eq_true h),_,_,rfl,rfl,⟨by decide,by decide⟩,W,_,_,rfl,SqL.of hd3,(by omega),fun D us H4 s4 hd4 hsub hne=>?_⟩
   exact q D us H4 (s13.trans s4) hd4 (hne hane) (hasc.sublist hsub) fun x hx=>hsub.subset hx
  refine⟨_,rfl,_,rfl,_,rfl,_,rfl,a,W,ns,nn,kn,rfl,s13.seq hS,hlen,SqL.of hd3,⟨hk,hn1,hn2,by omega⟩,fun B kvs H4 s4 hd4 hbeh=>?_⟩;refine⟨(by show 0<=sizeLine;omega),fun Kp hKp=>?_⟩;have t5:=aM (o:=.lst []) hKp;refine fun M hM=>?_
  have t6:=aM (o:=.dK []) hM;have hK6:upd (upd H4 Kp (.lst [])) M (.dK []) Kp=some (.lst []):=t6 Kp _ aD;have hM6:upd (upd H4 Kp (.lst [])) M (.dK []) M=some (.dK []):=aD;have s46:=t5.trans t6;have hKn:H4 Kp=none:=hKp;have hMn:H4 M=none:=iH t5 hM;have hKM:Kp≠M:=fun z=>by rw[<- z,aD] at hM;cases hM
  generalize upd (upd H4 Kp (.lst [])) M (.dK [])=H6 at hK6 hM6 s46
  let Ev:Hp->List (List Nat)->List (List Nat)->Prop:=fun G ks us=>aL H4 G∧G M=some (.dK (tKs ks (.bl true)))∧ks.Nodup∧(∀ x∈ks,x∈Wd.dO kn nn)∧G Kp=some (.lst (us.map T))∧us.Nodup∧∀ x∈us,x∈ks
  have hkl:∀ {ks:List (List Nat)},ks.Nodup->(∀ x∈ks,x∈Wd.dO kn nn)->ks.length<=kn ^ nn:=fun h1 h2=>by rw[<- hal];exact h1.length_le_of_subset h2
  refine⟨_,rfl,_,_,rfl,⟨by decide,by decide⟩,_,_,rfl,rfl,⟨by decide,by decide⟩,?_⟩;generalize mJ c 50=pt;have hW4:=s4 W _ hd3;refine⟨_,rfl,W,rfl,⟨_,SqL.of (s46 W _ hW4)⟩,?_⟩;refine eE (K:=K) (a:=W) (xs:=(Wd.dO kn nn).map T) (fun i σ G=>∃ (ks us:List (List Nat)) (pt:Int) (v9 v10:Option V),Ev G ks us∧σ=[some (.ref a),some (.int c),some (.int (nn:Nat)),some (.int (kn:Nat)),some (.ref W),some (.ref B),some (.ref Kp),some (.ref M),some (.int pt),v9,v10])
   ⟨[],[],_,none,none,⟨s46,hM6,ig,(fun x hx=>by cases hx),hK6,ig,fun x hx=>by cases hx⟩,rfl⟩ (fun i σ G _ ⟨_,_,_,_,_,h,_⟩=>SqL.of (h.1 W _ hW4)) ?_ ?_
  ·rintro i y σ G hi ⟨ks,us,pt,v9,v10,hev,rfl⟩
   obtain⟨x,hxi,rfl⟩:∃ x,(Wd.dO kn nn)[i]?=some x∧T x=y:=by rw[ag] at hi;exact bj.mp hi
   have hxm:=aq hxi;refine⟨_,rfl,_,_,rfl,rfl,(by show (0:Int)<4;decide),_,_,rfl,rfl,?_⟩;have hl0:=hkl hev.2.2.1 hev.2.2.2.1;refine⟨_,rfl,_,rfl,M,_,rfl,iR.k (k:=cc (tx x)) hev.2.1,_,rfl,?_⟩;rw[mE];by_cases hx:x∈ks;rw[if_pos hx];refine pD ?_
   rotate_left
   rw[if_neg hx];refine zF ?_;refine⟨_,rfl,_,_,rfl,rfl,⟨by decide,by decide⟩,?_⟩
   all_goals
    refine⟨fun m σ G2=>∃ (ks us:List (List Nat)) (pt2:Int) (x2:List Nat),m+ks.length=kn ^ nn∧Ev G2 ks us∧x2∈Wd.dO kn nn∧σ=[some (.ref a),some (.int c),some (.int (nn:Nat)),some (.int (kn:Nat)),some (.ref W),some (.ref B),some (.ref Kp),some (.ref M),some (.int pt2),some (T x2),some (.bl (decide ((0:Int)<pt % 4)))],
     ⟨kn ^ nn-ks.length,ks,us,_,x,by omega,hev,hxm,rfl⟩,?_⟩
    rintro m σ G2 ⟨ks2,us2,pt2,x2,hm,hev2,hx2,rfl⟩;refine⟨_,rfl,_,rfl,M,_,rfl,iR.k (k:=cc (tx x2)) hev2.2.1,_,rfl,?_⟩;rw[mE];by_cases hx3:x2∈ks2
    ·rw[if_pos hx3]
     refine pD ?_;exact⟨ks2,us2,pt2,_,_,hev2,rfl⟩
    rw[if_neg hx3];refine zF ?_;refine⟨_,fun σ' H' z=>z,?_⟩;obtain⟨e1,e2,e3,e4,e5,e6,e7⟩:=hev2;have hnd:(ks2++[x2]).Nodup:=ge.mpr ⟨e3,by simp,fun a' ha d hd e=>hx3 (by rw[<- ax.mp hd,<- e];exact ha)⟩;have hsb:∀ z∈ks2++[x2],z∈Wd.dO kn nn:=fun z hz=>(bt.mp hz).elim (e4 z) fun h=>by rw[ax.mp h];exact hx2
    have hl2:=hkl hnd hsb;rw[ai] at hl2;have hl3:ks2.length+1<=kn ^ nn:=hl2;have hul:us2.length<=ks2.length:=e6.length_le_of_subset e7;refine⟨_,rfl,_,rfl,M,_,rfl,oU.k (k:=cc (tx x2)) e2 (by rw[eX];omega),?_⟩;rw[iB,show Hg.oA ks2 x2=ks2++[x2] from if_neg hx3];have g1:aL H4 (upd G2 M (.dK (tKs (ks2++[x2]) (.bl true)))):=fun b' o' e'=>by rw[aG (aJ e' hMn)];exact e1 b' o' e'
    have g2:upd G2 M (.dK (tKs (ks2++[x2]) (.bl true))) M=some (.dK (tKs (ks2++[x2]) (.bl true))):=aD;have g3:upd G2 M (.dK (tKs (ks2++[x2]) (.bl true))) Kp=some (.lst (us2.map T)):=by rw[aG hKM];exact e5
    generalize upd G2 M (.dK (tKs (ks2++[x2]) (.bl true)))=G3 at g1 g2 g3;obtain⟨y2,hy2,hv2⟩:=hbeh x2 hx2;refine⟨_,rfl,_,rfl,?_⟩;refine kF (fun hk2=>?_) (fun hk2=>?_)
    ·refine⟨_,rfl,.inl ⟨rfl,_,SqL.of g3⟩,_,rfl,Kp,_,_,rfl,rfl,g3,(by rw[aR];omega),?_⟩
     have hB3:upd G3 Kp (.lst (us2.map T++[T x2])) B=some (.dK kvs):=by rw[aG (fun z=>by rw[z,hKn] at hd4;cases hd4)];exact g1 B _ hd4
     refine⟨_,rfl,_,rfl,B,_,rfl,(by have y:=iR.k (k:=cc (tx x2)) hB3;rw[hv2] at y;exact y),?_⟩;refine⟨m-1,by omega,ks2++[x2],us2++[x2],pt2,y2,by rw[ai];show m-1+(ks2.length+1)=_;omega,⟨fun b' o' e'=>by rw[aG (aJ e' hKn)];exact g1 b' o' e',by rw[aG hKM.symm];exact g2,hnd,hsb,by rw[aD,bh];rfl,ge.mpr ⟨e6,by simp,fun a' ha d hd e=>hx3 (by rw[<- ax.mp hd,<- e];exact e7 a' ha)⟩,fun z hz=>(bt.mp hz).elim (fun h=>fi _ (e7 z h)) fun h=>bn _ h⟩,hy2,rfl⟩
    ·refine⟨_,rfl,_,rfl,B,_,rfl,(by have y:=iR.k (k:=cc (tx x2)) (g1 B _ hd4);rw[hv2] at y;exact y),?_⟩
     exact⟨m-1,by omega,ks2++[x2],us2,pt2,y2,by rw[ai];show m-1+(ks2.length+1)=_;omega,⟨g1,g2,hnd,hsb,g3,e6,fun z hz=>fi _ (e7 z hz)⟩,hy2,rfl⟩
  ·rintro σ G ⟨ks,us,pt,v9,v10,⟨e1,e2,e3,e4,e5,e6,e7⟩,rfl⟩
   have s0:=s13.trans (s4.trans e1);refine⟨_,rfl,(by show 0<=sizeLine;omega),fun E0 hE0=>?_⟩;have tE:=aM (o:=.lst []) hE0;refine⟨Kp,E0,us,[],rfl,rfl,SqL.of (tE Kp _ e5),SqL.of aD,_,rfl,?_⟩;by_cases he:us=[]
   ·refine itP (decide_eq_true he) ?_
    exact⟨_,rfl,q W _ _ (s0.trans tE) (SqL.of (tE W _ (e1 W _ hW4))) hane hasc fun x hx=>hx⟩
   ·refine itN (fun z=>he (of_decide_eq_true z)) ?_
    have hul:us.length<=ks.length:=e6.length_le_of_subset e7;have hkl0:=hkl e3 e4;refine⟨_,rfl,Kp,us,rfl,SqL.of (tE Kp _ e5),(by omega),fun ms D hD hp hw=>?_⟩;exact q D ms _ (s0.trans (tE.trans (aM hD))) (SqL.of aD) (fun z=>he (a8.mp (by rw[<- hp.length_eq,z];rfl))) (Dt.Pg (hp.nodup_iff.mpr e6) hw) fun x hx=>e4 x (e7 x (hp.mem_iff.mp hx))
def jC (x:Addr)(t:List Nat):List (Str×V):=eF "text" (T t) (eF "web" (.ref x) [])
theorem mC (x:Addr)(t:List Nat):(jC x t).lookup ("web" : Str)=some (.ref x):=by
 unfold jC;rw[cY,if_neg (by decide +kernel),cY,if_pos rfl]
theorem kB (x:Addr)(t:List Nat):(jC x t).lookup ("text" : Str)=some (T t):=by
 unfold jC;rw[cY,if_pos rfl]
theorem cD (x:Addr)(t:List Nat){m:Str}(h1:¬ m=("web" : Str))(h2:¬ m=("text" : Str)):(jC x t).lookup m=none:=by
 unfold jC;rw[cY,if_neg h2,cY,if_neg h1];rfl
def cQ (C W:Addr)(H:Hp)(y x tp:Addr)(n:Nat)(ms:List (List Nat))(t:List Nat):Prop:=(∃ dy,H y=some (.ins C dy (jC x t)))∧gX W H x tp n ms
theorem cQ.on {C W:Addr}{H H':Hp}{y x tp:Addr}{n:Nat}{ms:List (List Nat)}{t:List Nat}(h:cQ C W H y x tp n ms t)(s:aL H H'):cQ C W H' y x tp n ms t:=let ⟨⟨dy,e⟩,w⟩:=h;⟨⟨dy,s _ _ e⟩,w.on s⟩
def fE (ms:List (List Nat))(n:Nat)(t:List Nat):Prop:=(1<=n∧n<=8)∧n<=t.length∧t.length<=1000∧ms≠[]∧ms.length<=60∧∀ w∈ms,w.length=n
def xD (C W:Addr):Sp:=fun vs H Q _=>∃ (y x tp:Addr) (n:Nat) (ms:List (List Nat)) (t:List Nat),vs=[.ref y]∧cQ C W H y x tp n ms t∧Q (T t) H
theorem rQ {f:Addr}{fd:FuncData}(F:Fun K "written" "Desk.written" dW f fd)(tt:Txt K mg ad):bN P w K mg base (CX1 P w) 1 f fd ["self"] (xD ad.Desk ad.Web):=by
 refine F.okN sB (fun vs H Q E h=>?_) (fun cdv A outer s H vs Q E hr h=>?_)
 ·obtain⟨y,x,tp,n,ms,t,rfl,_⟩:=h
  rfl
 ·obtain⟨y,x,tp,n,ms,t,rfl,⟨⟨dy,hy⟩,hW⟩,q⟩:=h
  refine⟨_,(aE (aS (bL (pv 0) rfl))),?_⟩
  (try rw[bV]);(try rw[cxK1])
  exact⟨_,rfl,y,ad.Desk,dy,_,_,rfl,hy,tt.cl_Desk,tt.na_Desk_text,kB _ _,q⟩
def zS (C W:Addr):Sp:=fun vs H Q _=>∃ (y x tp:Addr) (n:Nat) (ms:List (List Nat)) (t m0:List Nat),vs=[.ref y]∧cQ C W H y x tp n ms t∧ms[0]?=some m0∧(1<=m0.length∧m0.length<=1000)∧Q (T (beg m0)) H
theorem Ad {f:Addr}{fd:FuncData}(F:Fun K "home" "Desk.home" fM f fd)(tt:Txt K mg ad)(C_begin_of:Cal P w K mg base (CX1 P w) "begin_of" 1 ["word"] eU):bN P w K mg base (CX1 P w) 2 f fd ["self"] (zS ad.Desk ad.Web):=by
 refine F.okN Ax (fun vs H Q E h=>?_) (fun cdv A outer s H vs Q E hr h=>?_)
 ·obtain⟨y,x,tp,n,ms,t,m0,rfl,_⟩:=h
  rfl
 ·obtain⟨y,x,tp,n,ms,t,m0,rfl,⟨⟨dy,hy⟩,⟨⟨dx,hx⟩,htp⟩⟩,h0,hl,q⟩:=h
  refine⟨_,(aE (aS (aK C_begin_of hr aN (aA (cK jX (bL (bL (pv 0) rfl) rfl) aH (fun _ _=>rfl)) aC)))),?_⟩
  (try rw[bV]);(try rw[cxK1])
  exact⟨_,rfl,y,ad.Desk,dy,_,_,rfl,hy,tt.cl_Desk,tt.na_Desk_web,mC _ _,x,ad.Web,dx,_,_,rfl,hx,tt.cl_Web,tt.na_Web_words,dG _ _,tp,_,_,_,rfl,rfl,SqT.of htp,bC (j:=0) (by rw[ag,h0];rfl),m0,rfl,hl,q⟩
def qR (C W:Addr):Sp:=fun vs H Q _=>∃ (y x tp:Addr) (n:Nat) (ms:List (List Nat)) (t:List Nat),vs=[.ref y]∧cQ C W H y x tp n ms t∧fE ms n t∧∀ (D:Addr) (H':Hp),H D=none->aL H H'->H' D=some (.lst ((Wd.bJ t n).map T))->Q (.ref D) H'
theorem At {f:Addr}{fd:FuncData}(F:Fun K "gone" "Desk.gone" fQ f fd)(tt:Txt K mg ad)(C_windows:Cal P w K mg base (CX1 P w) "windows" 2 ["text", "length", "ring"] Bu):bN P w K mg base (CX1 P w) 3 f fd ["self"] (qR ad.Desk ad.Web):=by
 refine F.okN yR (fun vs H Q E h=>?_) (fun cdv A outer s H vs Q E hr h=>?_)
 ·obtain⟨y,x,tp,n,ms,t,rfl,_⟩:=h
  rfl
 ·obtain⟨y,x,tp,n,ms,t,rfl,⟨⟨dy,hy⟩,⟨⟨dx,hx⟩,htp⟩⟩,⟨hn,h1,h2,_⟩,q⟩:=h
  refine⟨_,(aE (aS (aK C_windows hr aN (aA (bL (pv 0) rfl) (aA (bL (bL (pv 0) rfl) rfl) (aA gZ aC)))))),?_⟩
  (try rw[bV]);(try rw[cxK1])
  refine⟨_,rfl,y,ad.Desk,dy,_,_,rfl,hy,tt.cl_Desk,tt.na_Desk_text,kB _ _,_,rfl,y,ad.Desk,dy,_,_,rfl,hy,tt.cl_Desk,tt.na_Desk_web,mC _ _,x,ad.Web,dx,_,_,rfl,hx,tt.cl_Web,tt.na_Web_length,uP _ _,t,n,false,rfl,⟨by omega,by omega,by omega⟩,fun D H' hD s' hd=>q D H' hD s' ?_⟩;rw[hd,Wd.win,if_neg aj]
def aZ (ms:List (List Nat))(t:List Nat)(n:Nat):List (List Nat):=ms.filter fun l=>!decide (l∈Wd.bJ t n)
def tD (C W:Addr):Sp:=fun vs H Q _=>∃ (y x tp:Addr) (n:Nat) (ms:List (List Nat)) (t:List Nat),vs=[.ref y]∧cQ C W H y x tp n ms t∧fE ms n t∧∀ (D:Addr) (H':Hp),H D=none->aL H H'->H' D=some (.lst ((aZ ms t n).map T))->Q (.ref D) H'
theorem zZ {f:Addr}{fd:FuncData}(F:Fun K "left" "Desk.left" eS f fd)(tt:Txt K mg ad)(C_Desk_gone:Cmt P w K mg base (CX1 P w) ad.Desk "gone" 3 ["self"] (qR ad.Desk ad.Web)):bN P w K mg base (CX1 P w) 4 f fd ["self"] (tD ad.Desk ad.Web):=by
 refine F.okN oH (fun vs H Q E h=>?_) (fun cdv A outer s H vs Q E hr h=>?_)
 ·obtain⟨y,x,tp,n,ms,t,rfl,_⟩:=h
  rfl
 ·obtain⟨y,x,tp,n,ms,t,rfl,hD,hok,q⟩:=h
  have hs:sizeLine=16777216:=sizeLine_eq;obtain⟨⟨dy,hy⟩,⟨⟨dx,hx⟩,htp⟩⟩:=id hD;refine⟨_,(aB (aI (i:=1) oH.nd rfl (Or.inr rfl) (dJ C_Desk_gone hr aN (pv 0)))
   (aE (aS (vL vM rfl (mY (bL (bL (pv 0) rfl) rfl)) (fun cl C s' H' fp=>(aU (vZ K rfl) (pv 0) (pv 2) (by with_unfolding_all rfl))) (fun cl C s' H' fp=>(pv 0)))))),?_⟩
  (try rw[bV]);(try rw[cxK1])
  refine⟨_,rfl,y,dy,_,rfl,hy,cD _ _ (by decide +kernel) (by decide +kernel),y,x,tp,n,ms,t,rfl,hD,hok,fun D1 H1 hD1 s1 hd1=>?_⟩;refine⟨_,rfl,y,ad.Desk,dy,_,_,rfl,s1 y _ hy,tt.cl_Desk,tt.na_Desk_web,mC _ _,x,ad.Web,dx,_,_,rfl,s1 x _ hx,tt.cl_Web,tt.na_Web_words,dG _ _,tp,rfl,⟨_,SqT.of (s1 tp _ htp)⟩,?_⟩;refine qM (fun v=>!decide (unT v∈Wd.bJ t n)) (fun v=>v) (iI (SqT.of (s1 tp _ htp))) (by rw[aR];have:=hok.2.2.2.2.1;omega) (fun v G hv sg N hN=>?_) (fun v G hv hp sg N hN=>?_) fun D2 G2 hD2 s2 hd2=>?_
  ·obtain⟨l,hl,rfl⟩:=a5.mp hv
   have z:=hN G (aL.refl _);rw[fF,<- rJ] at z;exact⟨_,rfl,_,rfl,D1,_,rfl,.inl (SqL.of (sg D1 _ hd1)),rfl,iU _,_,rfl,z⟩
  ·exact⟨_,rfl,hN G (aL.refl _)⟩
  rw[show (ms.map T).filter (fun v=>!decide (unT v∈Wd.bJ t n))=(ms.filter fun l=>!decide (l∈Wd.bJ t n)).map T from fJ (p:=fun l=>!decide (l∈Wd.bJ t n)) ms,r6] at hd2;exact q D2 G2 (iH s1 hD2) (s1.trans s2) hd2
theorem Jd (xs:List V)(y:V):atI (xs++[y]) (-1)=some y:=by
 show (ixN (xs++[y]).length (-1)).bind _=_;rw[show (xs++[y]).length=xs.length+1 by simp];unfold ixN;rw[if_neg (by decide),if_pos (by omega),show ((-1:Int)+((xs.length+1:Nat):Int)).toNat=xs.length by omega];show (xs++[y])[xs.length]?=_;simp
def cO (t:List Nat)(n:Nat):List Nat:=(Wd.bJ t n).getLastD []
theorem lO {t:List Nat}{n:Nat}(hn:1<=n)(h:n<=t.length):(∃ xs,Wd.bJ t n=xs++[cO t n])∧(cO t n).length=n:=by
 have hl:(Wd.bJ t n).length=t.length+1-n:=by unfold Wd.bJ;rw[aR,cn]
 have hne:Wd.bJ t n≠[]:=fun z=>by rw[z] at hl;have:(0:Nat)=t.length+1-n:=hl;omega
 have e:cO t n=(Wd.bJ t n).getLast hne:=by
  unfold cO;rw[List.getLastD_eq_getLast?,List.getLast?_eq_some_getLast hne];rfl
 refine⟨⟨(Wd.bJ t n).dropLast,by rw[e];exact (er hne).symm⟩,?_⟩;have hm:=List.getLast_mem hne;rw[<- e] at hm;unfold Wd.bJ at hm;obtain⟨i,hi,h2⟩:=a5.mp hm;rw[<- h2];exact Wd.gI ..
open Classical in
def nxL (ms:List (List Nat))(t:List Nat)(n:Nat):List (List Nat):=((aZ ms t n).filter fun l=>decide (beg l=(cO t n).drop 1)).filter fun l=>decide (Wd.gY (Dt.rm (aZ ms t n) l) (l.drop 1))
def Gk (C W:Addr):Sp:=fun vs H Q _=>∃ (y x tp:Addr) (n:Nat) (ms:List (List Nat)) (t:List Nat),vs=[.ref y]∧cQ C W H y x tp n ms t∧fE ms n t∧∀ H',aL H H'->(aZ ms t n≠[]->Q .non H')∧(aZ ms t n=[]->Q (T (iG t none (some ((ms.length:Nat):Int)))) H')
theorem yZ {f:Addr}{fd:FuncData}(F:Fun K "done" "Desk.done" fO f fd)(tt:Txt K mg ad)(C_Desk_left:Cmt P w K mg base (CX1 P w) ad.Desk "left" 4 ["self"] (tD ad.Desk ad.Web)):bN P w K mg base (CX1 P w) 5 f fd ["self"] (Gk ad.Desk ad.Web):=by
 refine F.okN zT (fun vs H Q E h=>?_) (fun cdv A outer s H vs Q E hr h=>?_)
 ·obtain⟨y,x,tp,n,ms,t,rfl,_⟩:=h
  rfl
 ·obtain⟨y,x,tp,n,ms,t,rfl,hD,hok,q⟩:=h
  have hs:sizeLine=16777216:=sizeLine_eq;have hu:=gg (eA hr);obtain⟨⟨dy,hy⟩,⟨⟨dx,hx⟩,htp⟩⟩:=id hD;refine⟨_,(aB (bR (aU (Pa hu) (dJ C_Desk_left hr aN (pv 0)) (dF aC) (aY _)) (aE (aS Ec)) aW)
   (aE (aS (bU wC (bL (pv 0) rfl) cW (cC (aO aX (by rfl) tt.b_len a7 (aA (bL (bL (pv 0) rfl) rfl) aC))))))),?_⟩
  (try rw[bV]);(try rw[cxK1])
  refine⟨_,rfl,y,dy,_,rfl,hy,cD _ _ (by decide +kernel) (by decide +kernel),y,x,tp,n,ms,t,rfl,hD,hok,fun D1 H1 hD1 s1 hd1=>?_⟩;refine⟨(by show 0<=sizeLine;omega),fun E0 hE0=>?_⟩;have tE:=aM (o:=.lst []) hE0;refine⟨D1,E0,_,[],rfl,rfl,SqL.of (tE D1 _ hd1),SqL.of aD,_,rfl,?_⟩;have s1E:=s1.trans tE;by_cases he:aZ ms t n=[]
  ·refine itN (by rw[decide_eq_true he];exact aj) ?_
   exact⟨_,rfl,y,ad.Desk,dy,_,_,rfl,s1E y _ hy,tt.cl_Desk,tt.na_Desk_text,kB _ _,_,rfl,y,ad.Desk,dy,_,_,rfl,s1E y _ hy,tt.cl_Desk,tt.na_Desk_web,mC _ _,x,ad.Web,dx,_,_,rfl,s1E x _ hx,tt.cl_Web,tt.na_Web_words,dG _ _,tp,_,rfl,.inr (SqT.of (s1E tp _ htp)),_,rfl,_,rfl,(by have:=hok.2.2.1;omega),by rw[aR];exact (q _ s1E).2 he⟩
  ·refine itP (by rw[decide_eq_false he];rfl) ?_
   exact (q _ s1E).1 he
def sL (C W:Addr):Sp:=fun vs H Q _=>∃ (y x tp:Addr) (n:Nat) (ms:List (List Nat)) (t:List Nat),vs=[.ref y]∧cQ C W H y x tp n ms t∧fE ms n t∧∀ (D:Addr) (H':Hp),H D=none->aL H H'->H' D=some (.lst (((nxL ms t n).map fun l=>[Wd.aV l]).map T))->Q (.ref D) H'
open Classical in
theorem vR {f:Addr}{fd:FuncData}(F:Fun K "nexts" "Desk.nexts" dL f fd)(tt:Txt K mg ad)(C_Desk_left:Cmt P w K mg base (CX1 P w) ad.Desk "left" 4 ["self"] (tD ad.Desk ad.Web))(C_Desk_gone:Cmt P w K mg base (CX1 P w) ad.Desk "gone" 3 ["self"] (qR ad.Desk ad.Web))(C_end_of:Cal P w K mg base (CX1 P w) "end_of" 1 ["word"] kQ)(C_begin_of:Cal P w K mg base (CX1 P w) "begin_of" 1 ["word"] eU)(C_can_go_on:Cal P w K mg base (CX1 P w) "can_go_on" 3 ["left", "piece"] (Ie K))(C_without:Cal P w K mg base (CX1 P w) "without" 1 ["words", "word"] (lZ K)):bN P w K mg base (CX1 P w) 5 f fd ["self"] (sL ad.Desk ad.Web):=by
 refine F.okN gQ (fun vs H Q E h=>?_) (fun cdv A outer s H vs Q E hr h=>?_)
 ·obtain⟨y,x,tp,n,ms,t,rfl,_⟩:=h
  rfl
 ·obtain⟨y,x,tp,n,ms,t,rfl,hD,hok,q⟩:=h
  have hs:sizeLine=16777216:=sizeLine_eq;obtain⟨⟨dy,hy⟩,hW⟩:=id hD;obtain⟨hn,h1,h2,h3,h4,h5⟩:=id hok;obtain⟨⟨xs,hrow⟩,hgl⟩:=lO hn.1 h1;have hlm:∀ l∈aZ ms t n,l.length=n:=fun l hl=>h5 l (cf.mp hl).1
  have hll:(aZ ms t n).length<=60:=az (cj ..) h4;refine⟨_,(aB (aI (i:=1) gQ.nd rfl (Or.inr rfl) (dJ C_Desk_left hr aN (pv 0)))
   (aB (aI (i:=2) gQ.nd rfl (Or.inr rfl) (aK C_end_of hr aN (aA (cK cF (dJ C_Desk_gone hr aN (pv 0)) (rC lL aH) (fun _ _=>rfl)) aC)))
   (aB (lH (i:=3) rX rfl (cG (pv 1)) (fun cl C s' H' fp=>(aU sO (aK C_begin_of hr aN (aA (pv 0) aC)) (pv 3) (aY _))) (fun cl C s' H' fp=>(pv 0)) gQ.nd rfl rfl)
   (aE (aS (vL rP rfl (cG (pv 3)) (fun cl C s' H' fp=>(qH (aK C_can_go_on hr aN (aA (aK C_without hr aN (aA (pv 2) (aA (pv 0) aC))) (aA (aK C_end_of hr aN (aA (pv 0) aC)) aC))))) (fun cl C s' H' fp=>(cK Pq (pv 0) (rC lL aH) (fun _ _=>rfl))))))))),?_⟩
  (try rw[bV]);(try rw[cxK1])
  refine⟨_,rfl,y,dy,_,rfl,hy,cD _ _ (by decide +kernel) (by decide +kernel),y,x,tp,n,ms,t,rfl,hD,hok,fun D1 H1 hD1 s1 hd1=>?_⟩;refine⟨_,rfl,y,dy,_,rfl,s1 y _ hy,cD _ _ (by decide +kernel) (by decide +kernel),y,x,tp,n,ms,t,rfl,hD.on s1,hok,fun D2 H2 hD2 s2 hd2=>?_⟩;refine⟨_,rfl,D2,_,_,_,rfl,rfl,SqL.of hd2,(by rw[hrow,bh];exact Jd _ _),cO t n,rfl,⟨by omega,by omega⟩,?_⟩;have s12:=s1.trans s2;have hd12:=s2 D1 _ hd1;refine⟨_,rfl,D1,rfl,⟨_,SqL.of hd12⟩,?_⟩;refine qM (fun v=>decide (beg (unT v)=(cO t n).drop 1)) (fun v=>v) (cT (SqL.of hd12)) (by rw[aR];omega) (fun v G hv sg N hN=>?_) (fun v G hv hp sg N hN=>?_) fun D3 H3 hD3 s3 hd3=>?_
  ·obtain⟨l,hl,rfl⟩:=a5.mp hv
   have hl1:=hlm l hl;have z:=hN G (aL.refl _);rw[fF] at z;exact⟨_,rfl,l,rfl,⟨by omega,by omega⟩,_,rfl,_,rfl,_,rfl,_,rfl,z⟩
  ·exact⟨_,rfl,hN G (aL.refl _)⟩
  rw[show ((aZ ms t n).map T).filter (fun v=>decide (beg (unT v)=(cO t n).drop 1))=((aZ ms t n).filter fun l=>decide (beg l=(cO t n).drop 1)).map T from fJ (p:=fun l=>decide (beg l=(cO t n).drop 1)) _,r6] at hd3;have s13:=s12.trans s3;have hd13:=s3 D1 _ hd12;refine⟨_,rfl,D3,rfl,⟨_,SqL.of hd3⟩,?_⟩;refine qM (fun v=>decide (Wd.gY (Dt.rm (aZ ms t n) (unT v)) ((unT v).drop 1))) (fun v=>T [Wd.aV (unT v)]) (cT (SqL.of hd3)) (by rw[aR];have:=cj (fun l=>decide (beg l=(cO t n).drop 1)) (aZ ms t n);omega) (fun v G hv sg N hN=>?_) (fun v G hv hp sg N hN=>?_) fun D4 H4 hD4 s4 hd4=>?_
  ·obtain⟨l,hl,rfl⟩:=a5.mp hv
   have hlL:=(cf.mp hl).1;have hl1:=hlm l hlL;rw[fF] at hN;refine⟨_,rfl,_,rfl,D1,aZ ms t n,l,rfl,SqL.of (sg D1 _ hd13),(by omega),fun D5 H5 hD5 s5 hd5=>?_⟩;refine⟨_,rfl,l,rfl,⟨by omega,by omega⟩,D5,Dt.rm (aZ ms t n) l,l.drop 1,rfl,SqL.of hd5,⟨az (cj ..) (by omega),fun z hz=>by have:=hlm z (cf.mp hz).1;omega⟩,fun b H6 s6 hb=>⟨_,rfl,?_⟩⟩;rw[show b=decide (Wd.gY (Dt.rm (aZ ms t n) l) (l.drop 1)) from da.mpr (hb.trans decide_eq_true_iff.symm)];exact hN H6 (s5.trans s6)
  ·obtain⟨l,hl,rfl⟩:=a5.mp hv
   have hl1:=hlm l (cf.mp hl).1;rw[fF] at hN;exact⟨_,rfl,_,rfl,l,rfl,_,rfl,(by omega),_,Ap (by omega),hN G (aL.refl _)⟩
  refine q D4 H4 (iH s13 hD4) (s13.trans s4) ?_;rw[hd4];refine congrArg (fun z=>some (HO.lst z)) ?_;unfold nxL;rw[show ((((aZ ms t n).filter fun l=>decide (beg l=(cO t n).drop 1)).map T).filter fun v=>decide (Wd.gY (Dt.rm (aZ ms t n) (unT v)) ((unT v).drop 1)))=(((aZ ms t n).filter fun l=>decide (beg l=(cO t n).drop 1)).filter fun l=>decide (Wd.gY (Dt.rm (aZ ms t n) l) (l.drop 1))).map T from fJ (p:=fun l=>decide (Wd.gY (Dt.rm (aZ ms t n) l) (l.drop 1))) _,oV (f:=fun l=>T [Wd.aV l]),bx];rfl
theorem tG {f:Str}{u v:V}:∀ fs:List (Str×V),eF f v (eF f u fs)=eF f v fs
 | []=>by show (if f=f then _ else _)=_;rw[if_pos rfl];rfl
 | (g,x)::r=>by
  by_cases e:g=f
  ·show eF f v (if g=f then (g,u)::r else _)=(if g=f then (g,v)::r else _)
   rw[if_pos e,if_pos e];show (if g=f then (g,v)::r else _)=_;rw[if_pos e]
  ·show eF f v (if g=f then _ else (g,x)::eF f u r)=(if g=f then _ else (g,x)::eF f v r)
   rw[if_neg e,if_neg e];show (if g=f then _ else (g,x)::eF f v (eF f u r))=_;rw[if_neg e,tG r]
theorem xU (x:Addr)(t t':List Nat):eF "text" (T t') (jC x t)=jC x t':=tG _
theorem xC (x:Addr)(t:List Nat):(jC x t).length<1000:=by
 have h:∀ (f:Str) (v:V) (fs:List (Str×V)),(eF f v fs).length<=fs.length+1:=fun f v fs=>by
  induction fs with
  | nil=>exact ah _
  | cons p r ih =>
   obtain⟨g,z⟩:=p;show (if g=f then (g,v)::r else (g,z)::eF f v r).length<=_;split
   ·show r.length+1<=r.length+1+1;omega
   ·show (eF f v r).length+1<=r.length+1+1;omega
 have h1:=h "text" (T t) (eF "web" (.ref x) [])
 have h2:=h "web" (.ref x) []
 unfold jC;have h3:([]:List (Str×V)).length=0:=rfl;omega
def But (y:Addr)(H G:Hp):Prop:=∀ b o,b≠y->H b=some o->G b=some o
theorem cQ.put {C W:Addr}{H:Hp}{y x tp:Addr}{n:Nat}{ms:List (List Nat)}{t t':List Nat}{dy:Addr}(h:cQ C W H y x tp n ms t)(hy:H y=some (.ins C dy (jC x t))):cQ C W (upd H y (.ins C dy (jC x t'))) y x tp n ms t'∨x=y∨tp=y:=by
 by_cases e1:x=y
 ·exact .inr (.inl e1)
 by_cases e2:tp=y
 ·exact .inr (.inr e2)
 obtain⟨_,⟨dx,hx⟩,ht⟩:=h;exact .inl ⟨⟨dy,aD⟩,⟨dx,by rw[aG e1];exact hx⟩,by rw[aG e2];exact ht⟩
theorem cQ.apart {C W:Addr}{H:Hp}{y x tp:Addr}{n:Nat}{ms:List (List Nat)}{t:List Nat}(h:cQ C W H y x tp n ms t):x≠y∧tp≠y:=by
 obtain⟨⟨dy,hy⟩,⟨dx,hx⟩,ht⟩:=h;refine⟨fun e=>?_,fun e=>by rw[e,hy] at ht;cases ht⟩;rw[e,hy] at hx;have h1:jC x t=yT tp (n:Nat):=by injection (ay hx)
 have h2:=dG tp (n:Nat);rw[<- h1,cD _ _ (by decide +kernel) (by decide +kernel)] at h2;cases h2
def yN (C W:Addr)(ad:Adr):Sp:=fun vs H Q E=>∃ (y x tp:Addr) (n:Nat) (ms:List (List Nat)) (t c:List Nat),vs=[.ref y,T c]∧cQ C W H y x tp n ms t∧fE ms n t∧c.length<=1000∧(c∉(nxL ms t n).map (fun l=>[Wd.aV l])->∀ H',aL H H'->E (.ref ad.BadDeed) none H') ∧
 (c∈(nxL ms t n).map (fun l=>[Wd.aV l])->∀ H',But y H H'->cQ C W H' y x tp n ms (t++c)->Q (.bl true) H')
theorem wE {f:Addr}{fd:FuncData}(F:Fun K "write" "Desk.write" eY f fd)(tt:Txt K mg ad)(C_Desk_nexts:Cmt P w K mg base (CX1 P w) ad.Desk "nexts" 5 ["self"] (sL ad.Desk ad.Web)):bN P w K mg base (CX1 P w) 6 f fd ["self", "letter"] (yN ad.Desk ad.Web ad):=by
 refine F.okX wF (fun vs H Q E h=>?_) (fun cdv A outer s H vs Q E hr h=>?_)
 ·obtain⟨y,x,tp,n,ms,t,c,rfl,_⟩:=h
  rfl
 ·obtain⟨y,x,tp,n,ms,t,c,rfl,hD,hok,hcl,qx,q⟩:=h
  have hs:sizeLine=16777216:=sizeLine_eq;obtain⟨⟨dy,hy⟩,hW⟩:=id hD;have htl:=hok.2.2.1;refine⟨_,(aB (bR (aU kH (pv 1) (dJ C_Desk_nexts hr aN (pv 0)) (by with_unfolding_all rfl)) (aE (cI (E:=fun cls H'=>E cls none H') tt.x_BadDeed rfl (fun _ _ _ _ _ _ _ I hx q=>eJ I hx q) (aA (bX [116,104,105,115,32,105,115,32,110,111,32,108,101,116,116,101,114,32,116,104,97,116,32,99,97,110,32,99,111,109,101] (by decide +kernel)) aC))) aW)
   (aB (kX (pv 0) (aQ lR (bL (pv 0) rfl) (pv 1)) rfl)
   (aE (aS gZ)))),?_⟩
  (try rw[bV]);(try rw[cxK1])
  refine⟨_,rfl,_,rfl,y,dy,_,rfl,hy,cD _ _ (by decide +kernel) (by decide +kernel),y,x,tp,n,ms,t,rfl,hD,hok,fun D1 H1 hD1 s1 hd1=>?_⟩;refine⟨D1,_,rfl,.inl (SqL.of hd1),rfl,iU _,_,rfl,?_⟩;by_cases hc:c∈(nxL ms t n).map fun l=>[Wd.aV l]
  ·refine itN (by rw[rJ,decide_eq_true hc];exact aj) ?_
   refine⟨_,rfl,y,ad.Desk,dy,_,_,rfl,s1 y _ hy,tt.cl_Desk,tt.na_Desk_text,kB _ _,_,rfl,_,rfl,_,rfl,(by omega),_,rfl,y,ad.Desk,dy,_,rfl,s1 y _ hy,tt.cl_Desk,tt.na_Desk_text,xC _ _,?_⟩;rw[xU];obtain⟨a1,a2⟩:=hD.apart;refine q hc _ (fun b o hb e=>by rw[aG hb];exact s1 b o e) ?_;exact ((hD.on s1).put (s1 y _ hy)).resolve_right fun z=>z.elim a1 a2
  ·refine itP (by rw[rJ,decide_eq_false hc];rfl) ?_
   exact⟨(by show 1<=sizeLine;omega),qx hc H1 s1⟩
def Pk (C W:Addr)(ad:Adr):Sp:=fun vs H Q E=>∃ (y x tp:Addr) (n:Nat) (ms:List (List Nat)) (t:List Nat),vs=[.ref y]∧cQ C W H y x tp n ms t∧fE ms n t∧(t.length=n->∀ H',aL H H'->E (.ref ad.NoSuch) none H')∧(t.length≠n->∀ H',But y H H'->cQ C W H' y x tp n ms (beg t)->Q (T [Wd.aV t]) H')
theorem Ae {f:Addr}{fd:FuncData}(F:Fun K "back" "Desk.back" fS f fd)(tt:Txt K mg ad):bN P w K mg base (CX1 P w) 1 f fd ["self"] (Pk ad.Desk ad.Web ad):=by
 refine F.okX nU (fun vs H Q E h=>?_) (fun cdv A outer s H vs Q E hr h=>?_)
 ·obtain⟨y,x,tp,n,ms,t,rfl,_⟩:=h
  rfl
 ·obtain⟨y,x,tp,n,ms,t,rfl,hD,hok,qx,q⟩:=h
  have hs:sizeLine=16777216:=sizeLine_eq;obtain⟨⟨dy,hy⟩,⟨⟨dx,hx⟩,htp⟩⟩:=id hD;obtain⟨hn,h1,htl,_⟩:=id hok;refine⟨_,(aB (bR (aU iD (aO bW (by rfl) tt.b_len a7 (aA (bL (pv 0) rfl) aC)) (bL (bL (pv 0) rfl) rfl) (aY _)) (aE (cI (E:=fun cls H'=>E cls none H') tt.x_NoSuch rfl (fun _ _ _ _ _ _ _ I hx q=>eJ I hx q) (aA (bX [110,111,116,104,105,110,103,32,119,97,115,32,119,114,105,116,116,101,110,32,98,101,104,105,110,100,32,116,104,101,32,108,101,97,115,116,32,119,111,114,100] (by decide +kernel)) aC))) aW)
   (aB (aI (i:=1) nU.nd rfl (Or.inl rfl) (cK Pq (bL (pv 0) rfl) (rC lL aH) (fun _ _=>rfl)))
   (aB (kX (pv 0) (bU wC (bL (pv 0) rfl) cW (cC (rC lL aH))) rfl)
   (aE (aS (pv 1)))))),?_⟩
  (try rw[bV]);(try rw[cxK1])
  refine⟨_,rfl,y,ad.Desk,dy,_,_,rfl,hy,tt.cl_Desk,tt.na_Desk_text,kB _ _,t,rfl,(by omega),_,rfl,y,ad.Desk,dy,_,_,rfl,hy,tt.cl_Desk,tt.na_Desk_web,mC _ _,x,ad.Web,dx,_,_,rfl,hx,tt.cl_Web,tt.na_Web_length,uP _ _,_,rfl,_,rfl,_,rfl,?_⟩;by_cases hl:t.length=n
  ·refine itP (decide_eq_true (by omega)) ?_
   exact⟨(by show 1<=sizeLine;omega),qx hl H (aL.refl _)⟩
  refine itN (fun z=>hl (by have:=of_decide_eq_true z;omega)) ?_;refine⟨_,rfl,y,ad.Desk,dy,_,_,rfl,hy,tt.cl_Desk,tt.na_Desk_text,kB _ _,_,rfl,t,rfl,_,rfl,(by omega),_,Ap (by omega),?_⟩;refine⟨_,rfl,y,ad.Desk,dy,_,_,rfl,hy,tt.cl_Desk,tt.na_Desk_text,kB _ _,_,rfl,_,rfl,t,rfl,(by omega),_,rfl,y,ad.Desk,dy,_,rfl,hy,tt.cl_Desk,tt.na_Desk_text,xC _ _,?_⟩;have hcb:iG t none (some (-(1:Int)))=beg t:=wW (by omega);rw[hcb,xU];obtain⟨a1,a2⟩:=hD.apart;refine⟨_,rfl,q hl _ (fun b o hb e=>by rw[aG hb];exact e) ?_⟩;exact (hD.put hy).resolve_right fun z=>z.elim a1 a2
def Af (C W:Addr):Sp:=fun vs H Q _=>∃ (y x tp:Addr) (n:Nat) (ms:List (List Nat)) (t m0:List Nat),vs=[.ref y]∧cQ C W H y x tp n ms t∧fE ms n t∧ms[0]?=some m0∧ms.Nodup∧∀ H',aL H H'->Q (.int (Dt.eN (aZ ms t n) ((cO t n).drop 1) (beg m0):Nat)) H'
theorem yX {f:Addr}{fd:FuncData}(F:Fun K "ways" "Desk.ways" fR f fd)(tt:Txt K mg ad)(C_Desk_left:Cmt P w K mg base (CX1 P w) ad.Desk "left" 4 ["self"] (tD ad.Desk ad.Web))(C_Desk_gone:Cmt P w K mg base (CX1 P w) ad.Desk "gone" 3 ["self"] (qR ad.Desk ad.Web))(C_Desk_home:Cmt P w K mg base (CX1 P w) ad.Desk "home" 2 ["self"] (zS ad.Desk ad.Web))(C_end_of:Cal P w K mg base (CX1 P w) "end_of" 1 ["word"] kQ)(C_ways_on:Cal P w K mg base (CX1 P w) "ways_on" 5 ["words", "one", "other"] (lM K)):bN P w K mg base (CX1 P w) 7 f fd ["self"] (Af ad.Desk ad.Web):=by
 refine F.okN zQ (fun vs H Q E h=>?_) (fun cdv A outer s H vs Q E hr h=>?_)
 ·obtain⟨y,x,tp,n,ms,t,m0,rfl,_⟩:=h
  rfl
 ·obtain⟨y,x,tp,n,ms,t,m0,rfl,hD,hok,h0,hnd,q⟩:=h
  have hs:sizeLine=16777216:=sizeLine_eq;obtain⟨⟨dy,hy⟩,hW⟩:=id hD;obtain⟨hn,h1,h2,h3,h4,h5⟩:=id hok;obtain⟨⟨xs,hrow⟩,hgl⟩:=lO hn.1 h1;have hm0:=h5 m0 (aq h0);have hll:(aZ ms t n).length<=60:=az (cj ..) h4;refine⟨_,(aE (aS (aK C_ways_on hr aN (aA (dJ C_Desk_left hr aN (pv 0)) (aA (aK C_end_of hr aN (aA (cK cF (dJ C_Desk_gone hr aN (pv 0)) (rC lL aH) (fun _ _=>rfl)) aC)) (aA (dJ C_Desk_home hr aN (pv 0)) aC)))))),?_⟩
  (try rw[bV]);(try rw[cxK1])
  refine⟨_,rfl,y,dy,_,rfl,hy,cD _ _ (by decide +kernel) (by decide +kernel),y,x,tp,n,ms,t,rfl,hD,hok,fun D1 H1 hD1 s1 hd1=>?_⟩;refine⟨_,rfl,y,dy,_,rfl,s1 y _ hy,cD _ _ (by decide +kernel) (by decide +kernel),y,x,tp,n,ms,t,rfl,hD.on s1,hok,fun D2 H2 hD2 s2 hd2=>?_⟩;have s12:=s1.trans s2;refine⟨_,rfl,D2,_,_,_,rfl,rfl,SqL.of hd2,(by rw[hrow,bh];exact Jd _ _),cO t n,rfl,⟨by omega,by omega⟩,?_⟩;refine⟨_,rfl,y,dy,_,rfl,s12 y _ hy,cD _ _ (by decide +kernel) (by decide +kernel),y,x,tp,n,ms,t,m0,rfl,hD.on s12,h0,⟨by omega,by omega⟩,?_⟩;exact⟨D1,aZ ms t n,_,_,rfl,.inl (SqL.of (s2 D1 _ hd1)),⟨hnd.sublist ff,hll,fun z hz=>by have:=h5 z (cf.mp hz).1;omega⟩,fun H' s'=>q H' (s12.trans s')⟩
def sZ (K:af):Sp:=fun vs H Q _=>∃ (a b:Addr) (ms us:List (List Nat)) (other:List Nat),vs=[.ref a,.ref b,T other]∧SqA K H a (ms.map T)∧SqL K H b (us.map T)∧(ms.Nodup∧ms.length<=60∧∀ x∈ms,1<=x.length∧x.length<=1000)∧(us.Nodup∧∀ y∈us,y∈ms)∧∀ (H':Hp),aL H H'->Q (.int (Dt.rk other ms us:Nat)) H'
theorem vT {f:Addr}{fd:FuncData}(F:Fun K "way_number" "way_number" kA f fd)(tt:Txt K mg ad)(C_by_begin:Cal P w K mg base (CX1 P w) "by_begin" 2 ["words"] (Go K))(C_begin_of:Cal P w K mg base (CX1 P w) "begin_of" 1 ["word"] eU)(C_ways_on:Cal P w K mg base (CX1 P w) "ways_on" 5 ["words", "one", "other"] (lM K))(C_without:Cal P w K mg base (CX1 P w) "without" 1 ["words", "word"] (lZ K))(C_end_of:Cal P w K mg base (CX1 P w) "end_of" 1 ["word"] kQ) :
  bN P w K mg base (CX1 P w) 6 f fd ["words", "order", "other"] (sZ K):=by
 refine F.okN dQ (fun vs H Q E h=>?_) (fun cdv A outer s H vs Q E hr h=>?_)
 ·obtain⟨a,b,ms,us,other,rfl,_⟩:=h
  rfl
 ·obtain⟨a,b,ms,us,other,rfl,hS,hB,⟨hnd,hl,hx⟩,hp,q⟩:=h
  have hs:sizeLine=16777216:=sizeLine_eq;refine⟨_,(aB (aI (i:=3) dQ.nd rfl (Or.inl rfl) aH)
   (aB (aI (i:=4) dQ.nd rfl (Or.inl rfl) (dH iF (by rfl) tt.b_list (by decide +kernel) (aA (pv 0) aC)))
   (aB (cN PassesOwn.never rfl (cG (pv 1)) (bD (i:=5) dQ.nd rfl (Or.inl rfl)) (aB (cN PassesOwn.never rfl (cG (oR (eA hr) (aK C_by_begin hr aN (aA (pv 4) aC)) (aK C_begin_of hr aN (aA (pv 5) aC)) (fun _ _=>rfl))) (bD (i:=6) dQ.nd rfl (Or.inl rfl)) (aE (bR (aU Qz (pv 6) (pv 5) (aY _)) (aE (aI (i:=3) dQ.nd rfl (Or.inl rfl) (aQ eC (pv 3) (aK C_ways_on hr aN (aA (aK C_without hr aN (aA (pv 4) (aA (pv 6) aC))) (aA (aK C_end_of hr aN (aA (pv 6) aC)) (aA (pv 2) aC))))))) aW)))
   (aE (aI (i:=4) dQ.nd rfl (Or.inl rfl) (aK C_without hr aN (aA (pv 4) (aA (pv 5) aC)))))))
   (aE (aS (pv 3)))))),?_⟩
  (try rw[bV]);(try rw[cxK1])
  refine⟨_,rfl,a,_,rfl,hS,fun L0 hL0=>?_⟩;have t0:=aM (o:=.lst (ms.map T)) hL0;refine⟨_,rfl,b,rfl,⟨_,t0.seq hB⟩,?_⟩;refine eE (K:=K) (a:=b) (xs:=us.map T) (fun i σ G=>aL H G∧∃ (Lf:Addr) (lf:List (List Nat)) (acc:Nat) (v5 v6:Option V),G Lf=some (.lst (lf.map T))∧lf.Nodup∧((us.drop i).Nodup∧∀ y∈us.drop i,y∈lf)∧(∀ y∈lf,y∈ms)∧lf.length<=60∧acc+Dt.rk other lf (us.drop i)=Dt.rk other ms us∧σ=[some (.ref a),some (.ref b),some (T other),some (.int (acc:Nat)),some (.ref Lf),v5,v6])
   ⟨t0,L0,ms,0,none,none,aD,hnd,by rw[gi];exact hp,fun y hy=>hy,hl,by rw[gi,gj],rfl⟩ (fun i σ G _ h=>h.1.seq hB) ?_ ?_
  ·rintro i y σ G hi ⟨sG,Lf,lf,acc,v5,v6,hL,hlnd,hpl,hsub,hll,hacc,rfl⟩
   obtain⟨wd,hwi,rfl⟩:∃ wd,us[i]?=some wd∧T wd=y:=by rw[ag] at hi;exact bj.mp hi
   have hdr:us.drop i=wd::us.drop (i+1):=by
    obtain⟨hi1,hi2⟩:=al.mp hwi;rw[iz hi1,hi2]
   rw[hdr] at hpl hacc;have hwl:wd∈lf:=hpl.2 wd (ar ..);have hlx:∀ y∈lf,1<=y.length∧y.length<=1000:=fun y hy=>hx y (hsub y hy)
   have hwx:=hlx wd hwl;refine⟨_,rfl,Lf,lf,rfl,.inl (SqL.of hL),⟨by omega,hlx⟩,fun D kvs ts G1 hD s1 hd hwa nd hmt=>?_⟩;have hat:Wd.beg wd∈ts:=(hmt _).mpr ⟨wd,hwl,rfl⟩;obtain⟨c,hb1,hb2⟩:=hwa.get hat;have hL1:=s1 Lf _ hL;refine⟨_,rfl,wd,rfl,⟨hwx.1,hwx.2⟩,D,_,rfl,(by have z:=iR.k (k:=cc (tx (Wd.beg wd))) hd;rw[hb1] at z;exact z),c,rfl,⟨_,SqL.of hb2⟩,?_⟩;have hstep:∀ (l:List (List Nat)) (x:List Nat),((((l++[x]).filter fun x=>decide (x<wd)).map fun x=>Dt.eN (Dt.rm lf x) (Wd.fin x) other).sum:Nat)=((l.filter fun x=>decide (x<wd)).map fun x=>Dt.eN (Dt.rm lf x) (Wd.fin x) other).sum+if x<wd then Dt.eN (Dt.rm lf x) (Wd.fin x) other else 0:=fun l x=>by
    rw[ju];by_cases h:x<wd
    ·rw[if_pos h,dj (p:=fun x=>decide (x<wd)) (decide_eq_true h),l7,bh,l5]
     show _+(Dt.eN (Dt.rm lf x) (Wd.fin x) other+0)=_;omega
    ·rw[if_neg h,c9 (p:=fun x=>decide (x<wd)) (fun z=>h (of_decide_eq_true z)),l7,du,jt]
   refine eE (K:=K) (a:=c) (xs:=(Dt.og lf (Wd.beg wd)).map T) (fun j σ G'=>aL G1 G'∧∃ (v6:Option V),σ=[some (.ref a),some (.ref b),some (T other),some (.int ((acc+((((Dt.og lf (Wd.beg wd)).take j).filter fun x=>decide (x<wd)).map fun x=>Dt.eN (Dt.rm lf x) (Wd.fin x) other).sum:Nat):Int)),some (.ref Lf),some (T wd),v6])
    ⟨aL.refl _,v6,rfl⟩ (fun j σ G' _ h=>SqL.of (h.1 c _ hb2)) ?_ ?_
   ·rintro j y σ G' hj ⟨sG',v6,rfl⟩
    obtain⟨x,hxj,rfl⟩:∃ x,(Dt.og lf (Wd.beg wd))[j]?=some x∧T x=y:=by rw[ag] at hj;exact bj.mp hj
    obtain⟨hxl,hxb⟩:=Dt.dC.mp (aq hxj);have hxx:=hlx x hxl;have htk:(Dt.og lf (Wd.beg wd)).take (j+1)=(Dt.og lf (Wd.beg wd)).take j++[x]:=by rw[cx,hxj];rfl
    refine⟨_,rfl,_,rfl,_,rfl,_,rfl,_,rfl,?_⟩;by_cases hlt:x<wd
    ·refine itP (decide_eq_true hlt) ?_
     refine⟨_,rfl,_,rfl,_,rfl,Lf,lf,x,rfl,SqL.of (sG' Lf _ hL1),by omega,fun D2 G2 hD2 s2 hd2=>?_⟩;have hrl:=Dt.iO hlnd hxl;refine⟨_,rfl,x,rfl,⟨hxx.1,hxx.2⟩,_,rfl,D2,Dt.rm lf x,Wd.fin x,other,rfl,.inl (SqL.of hd2),⟨Dt.gE hlnd,by omega,fun y hy=>hlx y (Dt.fD.mp hy).1⟩,fun G3 s3=>?_⟩;refine⟨_,_,rfl,rfl,sG'.trans (s2.trans s3),some (T x),?_⟩;rw[htk,hstep,if_pos hlt,<- lr,jv (acc+_)];rfl
    ·refine itN (fun z=>hlt (of_decide_eq_true z)) ?_
     refine⟨sG',some (T x),?_⟩;rw[htk,hstep,if_neg hlt,jt];rfl
   ·rintro σ G' ⟨sG',v6,rfl⟩
    rw[aR,c8];refine⟨_,rfl,_,rfl,Lf,lf,wd,rfl,SqL.of (sG' Lf _ hL1),by omega,fun D4 G4 hD4 s4 hd4=>?_⟩;have hrl:=Dt.iO hlnd hwl;refine⟨sG.trans (s1.trans (sG'.trans s4)),D4,Dt.rm lf wd,_,_,_,hd4,Dt.gE hlnd,⟨(cy.mp hpl.1).2,fun y hy=>Dt.fD.mpr ⟨hpl.2 y (am _ hy),fun e=>(cy.mp hpl.1).1 (e▸hy)⟩⟩,fun y hy=>hsub y (Dt.fD.mp hy).1,by omega,?_,rfl⟩;rw[<- hacc];exact lr _ _ _
  ·rintro σ G ⟨sG,Lf,lf,acc,v5,v6,hL,hlnd,hpl,hsub,hll,hacc,rfl⟩
   rw[aR,sr] at hacc;have e:acc=Dt.rk other ms us:=by
    rw[<- hacc];show acc=acc+0;omega
   rw[e];exact⟨_,rfl,q G sG⟩
theorem Dj {ls:List (List Nat)}{k:Nat}(h:k<=ls.length):iN (ls.map T) (some (k:Int)) none=(ls.drop k).map T:=by
 unfold iN;rw[HT.fH,HT.gU,aR,et h,<- jy,<- km,cp (by rw[bf];omega)]
theorem Gp (ls:List (List Nat)):iN (ls.map T) (some (1:Int)) none=(ls.drop 1).map T:=by
 cases ls with
 | nil=>rfl
 | cons x r=>exact Dj (k:=1) (by simp)
def sM (C W:Addr):Sp:=fun vs H Q _=>∃ (y x tp:Addr) (n:Nat) (ms:List (List Nat)) (t m0:List Nat),vs=[.ref y]∧cQ C W H y x tp n ms t∧fE ms n t∧ms[0]?=some m0∧ms.Nodup∧(((Wd.bJ t n).drop 1).Nodup∧∀ z∈(Wd.bJ t n).drop 1,z∈ms.drop 1)∧∀ H',aL H H'->Q (.int (Dt.rk (beg m0) (ms.drop 1) ((Wd.bJ t n).drop 1):Nat)) H'
theorem wB {f:Addr}{fd:FuncData}(F:Fun K "ahead" "Desk.ahead" eZ f fd)(tt:Txt K mg ad)(C_Desk_gone:Cmt P w K mg base (CX1 P w) ad.Desk "gone" 3 ["self"] (qR ad.Desk ad.Web))(C_Desk_home:Cmt P w K mg base (CX1 P w) ad.Desk "home" 2 ["self"] (zS ad.Desk ad.Web))(C_way_number:Cal P w K mg base (CX1 P w) "way_number" 6 ["words", "order", "other"] (sZ K)):bN P w K mg base (CX1 P w) 7 f fd ["self"] (sM ad.Desk ad.Web):=by
 refine F.okN wA (fun vs H Q E h=>?_) (fun cdv A outer s H vs Q E hr h=>?_)
 ·obtain⟨y,x,tp,n,ms,t,m0,rfl,_⟩:=h
  rfl
 ·obtain⟨y,x,tp,n,ms,t,m0,rfl,hD,hok,h0,hnd,hgo,q⟩:=h
  have hs:sizeLine=16777216:=sizeLine_eq;obtain⟨⟨dy,hy⟩,⟨⟨dx,hx⟩,htp⟩⟩:=id hD;obtain⟨hn,h1,h2,h3,h4,h5⟩:=id hok;have hm0:=h5 m0 (aq h0);refine⟨_,(aE (aS (aK C_way_number hr aN (aA (bU Ao (bL (bL (pv 0) rfl) rfl) (cC aH) cW) (aA (bU kE (dJ C_Desk_gone hr aN (pv 0)) (cC aH) cW) (aA (dJ C_Desk_home hr aN (pv 0)) aC)))))),?_⟩
  (try rw[bV]);(try rw[cxK1])
  refine⟨_,rfl,y,ad.Desk,dy,_,_,rfl,hy,tt.cl_Desk,tt.na_Desk_web,mC _ _,x,ad.Web,dx,_,_,rfl,hx,tt.cl_Web,tt.na_Web_words,dG _ _,_,rfl,tp,_,rfl,SqT.of htp,?_,fun p1 hp1=>?_⟩
  ·rintro⟨z,_⟩
   cases ms with
   | nil=>exact h3 rfl
   | cons m ms =>
    rw[aR,av] at z;simp[HT.sIx] at z
  rw[Gp];have t1:=aM (o:=.tup ((ms.drop 1).map T)) hp1;refine⟨_,rfl,y,dy,_,rfl,t1 y _ hy,cD _ _ (by decide +kernel) (by decide +kernel),y,x,tp,n,ms,t,rfl,hD.on t1,hok,fun D2 H2 hD2 s2 hd2=>?_⟩;refine⟨_,rfl,D2,_,rfl,SqL.of hd2,fun p3 hp3=>?_⟩;rw[Gp];have t3:=aM (o:=.lst (((Wd.bJ t n).drop 1).map T)) hp3;have s13:=t1.trans (s2.trans t3);refine⟨_,rfl,y,dy,_,rfl,s13 y _ hy,cD _ _ (by decide +kernel) (by decide +kernel),y,x,tp,n,ms,t,m0,rfl,hD.on s13,h0,⟨by omega,by omega⟩,?_⟩;exact⟨p1,p3,ms.drop 1,(Wd.bJ t n).drop 1,_,rfl,.inr (SqT.of ((s2.trans t3) p1 _ aD)),SqL.of aD,⟨hnd.sublist (se ..),by rw[bf];omega,fun z hz=>by have:=h5 z (kf hz);omega⟩,hgo,fun H' s'=>q H' (s13.trans s')⟩
def zD (C W:Addr):Sp:=fun vs H Q _=>∃ (y dy x0 tp0:Addr) (n:Nat) (ms:List (List Nat)) (m0:List Nat),vs=[.ref y,.ref x0]∧H y=some (.ins C dy [])∧gX W H x0 tp0 n ms∧jS ms n∧ms.Pairwise (fun a b=>¬ b<a)∧ms[0]?=some m0∧(∃ us p,Gv us ms p p) ∧
 ∀ (x tp:Addr) (H':Hp),But y H H'->cQ C W H' y x tp n ms m0->Q .non H'
theorem zW {f:Addr}{fd:FuncData}(F:Fun K "__init__" "Desk.__init__" fL f fd)(tt:Txt K mg ad)(C_why_no_ring:Cal P w K mg base (CX1 P w) "why_no_ring" 5 ["web"] (Fk ad.Web))(C_Web_init:Cam P w K mg base (CX1 P w) "Web" ad.Web 5 ["self", "words"] (zJ K ad.Web)):bN P w K mg base (CX1 P w) 7 f fd ["self", "web"] (zD ad.Desk ad.Web):=by
 refine F.okX nX (fun vs H Q E h=>?_) (fun cdv A outer s H vs Q E hr h=>?_)
 ·obtain⟨y,dy,x0,tp0,n,ms,m0,rfl,_⟩:=h
  rfl
 ·obtain⟨y,dy,x0,tp0,n,ms,m0,rfl,hy,hW,hok,hso,h0,⟨us,p,hway⟩,q⟩:=h
  have hs:sizeLine=16777216:=sizeLine_eq;refine⟨_,(aB (aI (i:=2) nX.nd rfl (Or.inl rfl) (aK C_why_no_ring hr aN (aA (pv 1) aC)))
   (aB (bR (jF (Hm (pv 2))) (aE Pf) aW)
   (aB (kX (pv 0) (Gj C_Web_init hr oQ (aA (bL (pv 1) rfl) aC)) rfl)
   (aE (kX (pv 0) (cK jX (bL (pv 1) rfl) aH (fun _ _=>rfl)) rfl))))),?_⟩
  (try rw[bV]);(try rw[cxK1])
  refine⟨_,rfl,x0,tp0,n,ms,rfl,hW,hok,fun ev r v H1 hpc hwy hv s1=>?_⟩;obtain rfl:=wX (show Tr p us p from hway.1) hway.2.symm hpc hwy;obtain rfl:v = .non:=hv;refine⟨_,rfl,_,rfl,pD ?_⟩;obtain⟨⟨dx0,hx0⟩,htp0⟩:=hW.on s1;have hy1:=s1 y _ hy;refine⟨_,rfl,x0,ad.Web,dx0,_,_,rfl,hx0,tt.cl_Web,tt.na_Web_words,dG _ _,?_⟩;intro x dx nx ndx nex;have s2:aL H1 (upd (upd H1 dx (.own x)) x (.ins ad.Web dx [])):=fun b o e=>by
   rw[aG (aJ e nx),aG (aJ e ndx)];exact e
  refine⟨x,dx,tp0,ms,n,rfl,aD,.inr (SqT.of (s2 tp0 _ htp0)),hok,fun tp ms2 H2 hp2 hw2 k2 hx2 ht2=>⟨rfl,?_⟩⟩;obtain rfl:ms2=ms:=Wd.gW hp2 hw2 hso;have s12:aL H1 H2:=fun b o e=>k2 b o (s2 b o e) (aJ e nx)
  have hy2:=s12 y _ hy1;have hxy:x≠y:=fun z=>by rw[z,hy1] at nx;cases nx
  have htpy:tp≠y:=fun z=>by rw[z,hy2] at ht2;cases ht2
  refine⟨_,rfl,y,ad.Desk,dy,_,rfl,hy2,tt.cl_Desk,tt.na_Desk_web,(by show 0<1000;decide),?_⟩;have htp3:upd H2 y (.ins ad.Desk dy (eF "web" (.ref x) [])) tp0=some (.tup (ms2.map T)):=by
   have e1:=s12 tp0 _ htp0;rw[aG (fun z=>by rw[z,hy2] at e1;cases e1)];exact e1
  have hx3:upd H2 y (.ins ad.Desk dy (eF "web" (.ref x) [])) x0=some (.ins ad.Web dx0 (yT tp0 (n:Nat))):=by
   have e1:=s12 x0 _ hx0;rw[aG (fun z=>by
    rw[z,hy2] at e1;have h1:([]:List (Str×V))=yT tp0 (n:Nat):=by injection (ay e1)
    have h2:=dG tp0 (n:Nat);rw[<- h1] at h2;cases h2)]
   exact e1
  refine⟨_,rfl,x0,ad.Web,dx0,_,_,rfl,hx3,tt.cl_Web,tt.na_Web_words,dG _ _,tp0,_,_,_,rfl,rfl,SqT.of htp3,bC (j:=0) (by rw[ag,h0];rfl),_,rfl,y,ad.Desk,dy,_,rfl,aD,tt.cl_Desk,tt.na_Desk_text,(by show 1<1000;decide),?_⟩;refine q x tp _ (fun b o hb e=>?_) ⟨⟨dy,aD⟩,⟨dx,?_⟩,?_⟩
  ·rw[aG hb,aG hb]
   exact s12 b o (s1 b o e)
  ·rw[aG hxy,aG hxy]
   exact hx2
  ·rw[aG htpy,aG htpy]
   exact ht2
def Hl (K:af):Sp:=fun vs H Q _=>∃ (a:Addr) (ms us:List (List Nat)) (one other:List Nat) (k:Nat),vs=[.ref a,T one,T other,.int (k:Nat)]∧SqA K H a (ms.map T)∧(ms.Nodup∧ms.length<=60∧one.length<=1000∧∀ x∈ms,1<=x.length∧x.length<=1000)∧(Dt.jE ms.length ms one other)[k]?=some us∧∀ (H':Hp),aL H H'->Q (T (one++us.map Wd.aV)) H'
theorem Kn {f:Addr}{fd:FuncData}(F:Fun K "way_by" "way_by" vC f fd)(tt:Txt K mg ad)(C_by_begin:Cal P w K mg base (CX1 P w) "by_begin" 2 ["words"] (Go K))(C_ways_on:Cal P w K mg base (CX1 P w) "ways_on" 5 ["words", "one", "other"] (lM K))(C_without:Cal P w K mg base (CX1 P w) "without" 1 ["words", "word"] (lZ K))(C_end_of:Cal P w K mg base (CX1 P w) "end_of" 1 ["word"] kQ) :
  bN P w K mg base (CX1 P w) 6 f fd ["words", "one", "other", "number"] (Hl K):=by
 refine F.okN dZ (fun vs H Q E h=>?_) (fun cdv A outer s H vs Q E hr h=>?_)
 ·obtain⟨a,ms,us,one,other,k,rfl,_⟩:=h
  rfl
 ·obtain⟨a,ms,us,one,other,k,rfl,hS,⟨hnd,hl,hol,hx⟩,hus,q⟩:=h
  have hs:sizeLine=16777216:=sizeLine_eq;have hu:=gg (eA hr);have husl:us.length=ms.length:=(Dt.uF hnd hus).1.length_eq;refine⟨_,(aB (aI (i:=4) dZ.nd rfl (Or.inl rfl) (pv 1))
   (aB (aI (i:=5) dZ.nd rfl (Or.inl rfl) (pv 1))
   (aB (aI (i:=6) dZ.nd rfl (Or.inl rfl) (dH iF (by rfl) tt.b_list (by decide +kernel) (aA (pv 0) aC)))
   (aB (aI (i:=7) dZ.nd rfl (Or.inl rfl) (pv 3))
   (aB (iM PassesOwn.never (aU (Bo K rfl hu) (pv 6) (dF aC) (aY _)) (aB (cN PassesOwn.never rfl (cG (oR (eA hr) (aK C_by_begin hr aN (aA (pv 6) aC)) (pv 5) (fun _ _=>rfl))) (bD (i:=8) dZ.nd rfl (Or.inl rfl)) (aB (aI (i:=9) dZ.nd rfl (Or.inl rfl) (aK C_ways_on hr aN (aA (aK C_without hr aN (aA (pv 6) (aA (pv 8) aC))) (aA (aK C_end_of hr aN (aA (pv 8) aC)) (aA (pv 2) aC)))))
   (aB (bR (aU oP (pv 7) (pv 9) (aY _)) (aE Lu) aW)
   (aE (aI (i:=7) dZ.nd rfl (Or.inl rfl) (aQ fW (pv 7) (pv 9)))))))
   (aB (aI (i:=4) dZ.nd rfl (Or.inl rfl) (aQ lR (pv 4) (cK Pq (pv 8) (rC lL aH) (fun _ _=>rfl))))
   (aB (aI (i:=5) dZ.nd rfl (Or.inl rfl) (aK C_end_of hr aN (aA (pv 8) aC)))
   (aE (aI (i:=6) dZ.nd rfl (Or.inl rfl) (aK C_without hr aN (aA (pv 6) (aA (pv 8) aC)))))))))
   (aE (aS (pv 4)))))))),?_⟩
  (try rw[bV]);(try rw[cxK1])
  refine⟨_,rfl,?_⟩;refine⟨_,rfl,?_⟩;refine⟨_,rfl,a,_,rfl,hS,fun L0 hL0=>?_⟩;have t0:=aM (o:=.lst (ms.map T)) hL0;refine⟨_,rfl,?_⟩;refine⟨fun m σ G=>∃ (Lf:Addr) (lf gs rs:List (List Nat)) (at':List Nat) (j:Nat) (v8 v9:Option V),m=lf.length∧aL H G∧G Lf=some (.lst (lf.map T))∧(∀ y∈lf,y∈ms)∧lf.length<=60∧lf.Nodup∧(Dt.jE lf.length lf at' other)[j]?=some rs∧gs++rs=us∧σ=[some (.ref a),some (T one),some (T other),some (.int (k:Nat)),some (T (one++gs.map Wd.aV)),some (T at'),some (.ref Lf),some (.int (j:Nat)),v8,v9],
   ⟨_,L0,ms,[],us,one,k,none,none,rfl,t0,aD,fun y hy=>hy,hl,hnd,hus,rfl,by rw[ir,du];rfl⟩,?_⟩
  rintro m σ G ⟨Lf,lf,gs,rs,at',j,v8,v9,hm,sG,hL,hsub,hll,hlnd,hrs,hgr,rfl⟩;refine⟨_,rfl,(by show 0<=sizeLine;omega),fun E0 hE0=>?_⟩;have tE:=aM (o:=.lst []) hE0;refine⟨Lf,E0,_,rfl,rfl,SqL.of (tE Lf _ hL),SqL.of aD,_,rfl,?_⟩;by_cases hle:lf=[]
  ·subst hle
   refine pD ?_;refine⟨_,rfl,?_⟩;have h1:rs=[]:=by
    have:=(Dt.uF hlnd hrs).1
    exact ng.mp this
   rw[h1,du] at hgr;rw[hgr];exact q _ (sG.trans tE)
  ·refine itP (by cases lf with | nil=>exact absurd rfl hle | cons y r=>rfl) ?_
   refine⟨_,fun σ' H' z=>z,?_⟩;obtain⟨n,hn⟩:∃ n,lf.length=n+1:=⟨lf.length-1,by have:=cq.mpr hle;omega⟩;have hlx:∀ y∈lf,1<=y.length∧y.length<=1000:=fun y hy=>hx y (hsub y hy)
   have hgl:gs.length<=60:=by
    have:=congrArg i7 hgr
    rw[ai] at this;omega
   refine⟨_,rfl,Lf,lf,rfl,.inl (SqL.of (tE Lf _ hL)),⟨by omega,hlx⟩,fun D kvs ts G1 hD s1 hd hwa nd hmt=>?_⟩;have hat:at'∈ts:=by
    obtain⟨h1,h2⟩:=Dt.uF hlnd hrs
    cases rs with
    | nil=>have:=h1.length_eq;rw[hn] at this;cases this
    | cons w r=>exact (hmt _).mpr ⟨w,h1.mem_iff.mp (ar ..),h2.1⟩
   obtain⟨b,hb1,hb2⟩:=hwa.get hat;have sG1:=sG.trans (tE.trans s1);have hL1:=s1 Lf _ (tE Lf _ hL);refine⟨_,rfl,D,_,rfl,(by have z:=iR.k (k:=cc (tx at')) hd;rw[hb1] at z;exact z),b,rfl,⟨_,SqL.of hb2⟩,?_⟩;refine eE (K:=K) (a:=b) (xs:=(Dt.og lf at').map T) (fun i σ G'=>aL G1 G'∧∃ (j':Nat) (v8 v9:Option V),(((Dt.og lf at').drop i).flatMap fun w=>(Dt.jE n (Dt.rm lf w) (Wd.fin w) other).map fun us=>w::us)[j']?=some rs∧σ=[some (.ref a),some (T one),some (T other),some (.int (k:Nat)),some (T (one++gs.map Wd.aV)),some (T at'),some (.ref Lf),some (.int (j':Nat)),v8,v9])
    ⟨aL.refl _,j,v8,v9,by rw[gi];rw[hn] at hrs;exact hrs,rfl⟩ (fun i σ G' _ h=>SqL.of (h.1 b _ hb2)) ?_ ?_
   ·rintro i y σ G' hi ⟨sG',j',v8,v9,hj',rfl⟩
    obtain⟨wd,hwi,rfl⟩:∃ wd,(Dt.og lf at')[i]?=some wd∧T wd=y:=by rw[ag] at hi;exact bj.mp hi
    obtain⟨hwl,hwb⟩:=Dt.dC.mp (aq hwi);have hwx:=hlx wd hwl;have hrl:(Dt.rm lf wd).length=n:=by have:=Dt.iO hlnd hwl;omega
    have hdr:(Dt.og lf at').drop i=wd::(Dt.og lf at').drop (i+1):=by
     obtain⟨hi1,hi2⟩:=al.mp hwi;rw[iz hi1,hi2]
    rw[hdr,Dt.Fh] at hj';have hel:((Dt.jE n (Dt.rm lf wd) (Wd.fin wd) other).map fun us=>wd::us).length=Dt.eN (Dt.rm lf wd) (Wd.fin wd) other:=by rw[aR];unfold Dt.eN;rw[hrl]
    rw[hel] at hj';refine⟨_,rfl,_,rfl,Lf,lf,wd,rfl,SqL.of (sG' Lf _ hL1),by omega,fun D2 G2 hD2 s2 hd2=>?_⟩;refine⟨_,rfl,wd,rfl,⟨hwx.1,hwx.2⟩,_,rfl,D2,Dt.rm lf wd,Wd.fin wd,other,rfl,.inl (SqL.of hd2),⟨Dt.gE hlnd,by omega,fun y hy=>hlx y (Dt.fD.mp hy).1⟩,fun G3 s3=>?_⟩;have t3:=s2.trans s3;refine⟨_,rfl,_,rfl,_,_,rfl,rfl,_,rfl,?_⟩;by_cases hlt:j'<Dt.eN (Dt.rm lf wd) (Wd.fin wd) other
    ·refine itP (decide_eq_true (by omega)) ?_
     rw[if_pos hlt,ag] at hj';obtain⟨rs',hrs',hrr⟩:=bj.mp hj';have hL3:=t3 Lf _ (sG' Lf _ hL1);refine⟨_,rfl,_,rfl,_,rfl,_,rfl,_,rfl,(by omega),_,Ap (by omega),_,rfl,_,rfl,(by rw[ai,aR];show _+_+1<=sizeLine;omega),?_⟩;refine⟨_,rfl,wd,rfl,⟨by omega,by omega⟩,?_⟩;refine⟨_,rfl,_,rfl,Lf,lf,wd,rfl,SqL.of hL3,by omega,fun D4 G4 hD4 s4 hd4=>?_⟩;refine⟨(Dt.rm lf wd).length,by omega,D4,Dt.rm lf wd,gs++[wd],rs',Wd.fin wd,j',some (T wd),some (.int ((Dt.eN (Dt.rm lf wd) (Wd.fin wd) other:Nat):Int)),rfl,sG1.trans (sG'.trans (t3.trans s4)),hd4,fun y hy=>hsub y (Dt.fD.mp hy).1,by omega,Dt.gE hlnd,by rw[hrl];exact hrs',?_,?_⟩
     ·rw[db]
      show gs++(wd::rs')=us;rw[hrr];exact hgr
     ·rw[bh,<- db]
      rfl
    ·refine itN (fun z=>hlt (by have:=of_decide_eq_true z;omega)) ?_
     rw[if_neg hlt] at hj';refine⟨_,rfl,_,rfl,_,_,rfl,rfl,?_⟩;refine⟨sG'.trans t3,j'-Dt.eN (Dt.rm lf wd) (Wd.fin wd) other,some (T wd),some (.int ((Dt.eN (Dt.rm lf wd) (Wd.fin wd) other:Nat):Int)),hj',?_⟩;rw[show ((j'-Dt.eN (Dt.rm lf wd) (Wd.fin wd) other:Nat):Int)=((j':Nat):Int)-((Dt.eN (Dt.rm lf wd) (Wd.fin wd) other:Nat):Int) by omega];rfl
   ·rintro σ G' ⟨sG',j',v8,v9,hj',rfl⟩
    rw[aR,sr] at hj';cases hj'
def uJ (t:List Nat)(n:Nat)(ms:List (List Nat)):Prop:=(Wd.cJ t n).Perm ms
def Qm (C:Addr):Sp:=fun vs H Q _=>∃ (x tp:Addr) (t:List Nat) (n:Nat) (ms:List (List Nat)),vs=[.ref x,T t]∧gX C H x tp n ms∧ms.Pairwise (fun a b=>¬ b<a)∧(t.length<=60∧1<=n∧n<=5000) ∧
 ∀ (b:Bool) (H':Hp),aL H H'->(b=true↔uJ t n ms)->Q (.bl b) H'
theorem pC {f:Addr}{fd:FuncData}(F:Fun K "is_turned_ring" "is_turned_ring" gM f fd)(tt:Txt K mg ad)(C_windows:Cal P w K mg base (CX1 P w) "windows" 2 ["text", "length", "ring"] Bu) :
  bN P w K mg base (CX1 P w) 3 f fd ["web", "text"] (Qm ad.Web):=by
 refine F.okN oS (fun vs H Q E h=>?_) (fun cdv A outer s H vs Q E hr h=>?_)
 ·obtain⟨x,tp,t,n,ms,rfl,_⟩:=h
  rfl
 ·obtain⟨x,tp,t,n,ms,rfl,hW,hsm,hn,q⟩:=h
  have hs:sizeLine=16777216:=sizeLine_eq;have hu:=gg (eA hr);obtain⟨⟨dx,hx⟩,htp⟩:=id hW;refine⟨_,(aE (aS (nR (nZ hu) (aO gB (by rfl) tt.b_sorted dw (aA (aK C_windows hr aN (aA (pv 1) (aA (bL (pv 0) rfl) (aA gZ aC)))) aC)) (dH iF (by rfl) tt.b_list (by decide +kernel) (aA (bL (pv 0) rfl) aC)) (aY _)))),?_⟩
  (try rw[bV]);(try rw[cxK1])
  refine⟨_,rfl,_,rfl,x,ad.Web,dx,_,_,rfl,hx,tt.cl_Web,tt.na_Web_length,uP _ _,t,n,true,rfl,⟨by omega,hn.2⟩,fun D H1 hD s1 hd=>?_⟩;have hw:Wd.win t n true=Wd.cJ t n:=if_pos rfl;rw[hw] at hd;refine⟨D,_,rfl,SqL.of hd,(by rw[Wd.gN];omega),fun qs D2 hD2 hp2 hw2=>?_⟩;have s2:aL H1 (upd H1 D2 (.lst (qs.map T))):=fun b o e=>by rw[aG (aJ e hD2)];exact e
  have s12:=s1.trans s2;refine⟨_,rfl,x,ad.Web,dx,_,_,rfl,s12 x _ hx,tt.cl_Web,tt.na_Web_words,dG _ _,tp,_,rfl,.inr (SqT.of (s12 tp _ htp)),fun l hl=>?_⟩;have s3:aL (upd H1 D2 (.lst (qs.map T))) (upd (upd H1 D2 (.lst (qs.map T))) l (.lst (ms.map T))):=fun b o e=>by rw[aG (aJ e hl)];exact e
  refine⟨D2,l,qs,ms,rfl,rfl,SqL.of (s3 D2 _ aD),SqL.of aD,?_⟩;refine q _ _ (s12.trans s3) ⟨fun z=>?_,fun z=>decide_eq_true ?_⟩
  ·have e:qs=ms:=of_decide_eq_true z
   subst e;exact hp2.symm
  ·exact Wd.gW (hp2.trans z) hw2 hsm
def uG (C:Addr):Sp:=fun vs H Q _=>∃ (x tp:Addr) (t m0:List Nat) (n:Nat) (ms:List (List Nat)),vs=[.ref x,T t]∧gX C H x tp n ms∧ms.Pairwise (fun a b=>¬ b<a)∧(t.length<=60∧1<=n∧n<=5000)∧ms[0]?=some m0 ∧
 ∀ (b:Bool) (H':Hp),aL H H'->(b=true↔uJ t n ms∧Wd.bA t n 0=m0)->Q (.bl b) H'
theorem Ff {f:Addr}{fd:FuncData}(F:Fun K "is_ring" "is_ring" qU f fd)(tt:Txt K mg ad)(C_is_turned_ring:Cal P w K mg base (CX1 P w) "is_turned_ring" 3 ["web", "text"] (Qm ad.Web))(C_windows:Cal P w K mg base (CX1 P w) "windows" 2 ["text", "length", "ring"] Bu) :
  bN P w K mg base (CX1 P w) 4 f fd ["web", "text"] (uG ad.Web):=by
 refine F.okN Gh (fun vs H Q E h=>?_) (fun cdv A outer s H vs Q E hr h=>?_)
 ·obtain⟨x,tp,t,m0,n,ms,rfl,_⟩:=h
  rfl
 ·obtain⟨x,tp,t,m0,n,ms,rfl,hW,hsm,hn,hm0,q⟩:=h
  have hs:sizeLine=16777216:=sizeLine_eq;refine⟨_,(aE (aS (Wh (aK C_is_turned_ring hr aN (aA (pv 0) (aA (pv 1) aC))) (Vw (nR sO (cK cF (aK C_windows hr aN (aA (pv 1) (aA (bL (pv 0) rfl) (aA gZ aC)))) aH (fun _ _=>rfl)) (cK jX (bL (pv 0) rfl) aH (fun _ _=>rfl)) (aY _)))))),?_⟩
  (try rw[bV]);(try rw[cxK1])
  refine⟨_,rfl,_,rfl,x,tp,t,n,ms,rfl,hW,hsm,hn,fun b H1 s1 hb=>⟨b,rfl,?_⟩⟩;refine kF (fun h0=>?_) (fun h0=>?_)
  ·have hR:=hb.mp h0
   have hl:=hR.length_eq;have hl0:0<ms.length:=(al.mp hm0).1;rw[Wd.gN] at hl;obtain⟨⟨dx,hx⟩,htp⟩:=hW.on s1;refine⟨_,rfl,_,rfl,x,ad.Web,dx,_,_,rfl,hx,tt.cl_Web,tt.na_Web_length,uP _ _,t,n,true,rfl,⟨by omega,hn.2⟩,fun D H2 hD s2 hd=>?_⟩;have hw:Wd.win t n true=Wd.cJ t n:=if_pos rfl;rw[hw] at hd;refine⟨D,_,_,_,rfl,rfl,SqL.of hd,bC (j:=0) (by rw[ag,Wd.pP (by omega)];rfl),?_⟩;refine⟨_,rfl,x,ad.Web,dx,_,_,rfl,s2 x _ hx,tt.cl_Web,tt.na_Web_words,dG _ _,tp,_,_,_,rfl,rfl,SqT.of (s2 tp _ htp),bC (j:=0) (by rw[ag,hm0];rfl),_,rfl,_,rfl,?_⟩;exact q _ H2 (s1.trans s2) ⟨fun z=>⟨hR,of_decide_eq_true z⟩,fun z=>decide_eq_true z.2⟩
  ·exact q false H1 s1 ⟨fun z=>(by cases z),fun z=>absurd (hb.mpr z.1) h0⟩
theorem sP {ms:List (List Nat)}{m0:List Nat}(hnd:ms.Nodup)(h:ms[0]?=some m0):ms=m0::ms.drop 1∧ms.drop 1=Dt.rm ms m0:=by
 cases ms with
 | nil=>cases h
 | cons x r =>
  have e:x=m0:=by simpa using h
  subst e;refine⟨rfl,?_⟩;rw[cy] at hnd;show r=((x::r).filter fun y=>!decide (y=x));rw[c9 (by simp),iq.mpr fun y hy=>by have:y≠x:=fun z=>hnd.1 (z▸hy);simp[this]]
theorem lW {ls:List (List Nat)}{k:Nat}(h:k<=ls.length):iN (ls.map T) (some (k:Int)) none=(ls.drop k).map T:=by
 unfold iN;rw[HT.fH,HT.gU,aR,et h,<- jy,<- km,cp (by rw[bf];omega)]
theorem As {ls:List (List Nat)}(h:0<ls.length):¬ (HT.sIx (ls.map T).length 0 (some (1:Int))=0∧HT.sIx (ls.map T).length (ls.map T).length none=(ls.map T).length):=fun z=>by
 have z1:=z.1;rw[show HT.sIx (ls.map T).length 0 (some (1:Int))=min 1 (ls.map T).length from HT.fH _ _ 1,aR] at z1;omega
def yO (C:Addr):Sp:=fun vs H Q _=>∃ (x tp:Addr) (n:Nat) (ms:List (List Nat)) (m0:List Nat),vs=[.ref x]∧gX C H x tp n ms∧jS ms n∧ms[0]?=some m0∧∀ (H':Hp),aL H H'->Q (.int (Dt.eN (Dt.rm ms m0) (Wd.fin m0) (Wd.beg m0):Nat)) H'
theorem wM {f:Addr}{fd:FuncData}(F:Fun K "ring_count" "ring_count" jZ f fd)(tt:Txt K mg ad)(C_ways_on:Cal P w K mg base (CX1 P w) "ways_on" 5 ["words", "one", "other"] (lM K))(C_end_of:Cal P w K mg base (CX1 P w) "end_of" 1 ["word"] kQ)(C_begin_of:Cal P w K mg base (CX1 P w) "begin_of" 1 ["word"] eU):bN P w K mg base (CX1 P w) 6 f fd ["web"] (yO ad.Web):=by
 refine F.okN mM (fun vs H Q E h=>?_) (fun cdv A outer s H vs Q E hr h=>?_)
 ·obtain⟨x,tp,n,ms,m0,rfl,_⟩:=h
  rfl
 ·obtain⟨x,tp,n,ms,m0,rfl,hW,hok,hm0,q⟩:=h
  have hs:sizeLine=16777216:=sizeLine_eq;obtain⟨⟨dx,hx⟩,htp⟩:=id hW;obtain⟨hne,h64,hn,hxs,hnd⟩:=id hok;have hm0m:=aq hm0;have hm0l:=(hxs m0 hm0m).1;obtain⟨hd0,hdr⟩:=sP hnd hm0;have hpos:=cq.mpr hne;refine⟨_,(aB (aI (i:=1) mM.nd rfl (Or.inl rfl) (cK jX (bL (pv 0) rfl) aH (fun _ _=>rfl)))
   (aE (aS (aK C_ways_on hr aN (aA (bU Ao (bL (pv 0) rfl) (cC aH) cW) (aA (aK C_end_of hr aN (aA (pv 1) aC)) (aA (aK C_begin_of hr aN (aA (pv 1) aC)) aC))))))),?_⟩
  (try rw[bV]);(try rw[cxK1])
  refine⟨_,rfl,x,ad.Web,dx,_,_,rfl,hx,tt.cl_Web,tt.na_Web_words,dG _ _,tp,_,_,_,rfl,rfl,SqT.of htp,bC (j:=0) (by rw[ag,hm0];rfl),?_⟩;refine⟨_,rfl,x,ad.Web,dx,_,_,rfl,hx,tt.cl_Web,tt.na_Web_words,dG _ _,_,rfl,tp,_,rfl,SqT.of htp,As hpos,fun p1 hp1=>?_⟩;rw[show iN (ms.map T) (some (1:Int)) none=(ms.drop 1).map T from lW (k:=1) hpos,hdr];have s1:=aM (o:=.tup ((Dt.rm ms m0).map T)) hp1;refine⟨_,rfl,m0,rfl,⟨by omega,by omega⟩,_,rfl,m0,rfl,⟨by omega,by omega⟩,p1,Dt.rm ms m0,Wd.fin m0,Wd.beg m0,rfl,.inr (SqT.of aD),⟨Dt.gE hnd,az (cj ..) h64,fun y hy=>by have:=(hxs y (Dt.fD.mp hy).1).1;omega⟩,fun G2 s2=>q G2 (s1.trans s2)⟩
def Dq (C:Addr)(ad:Adr):Sp:=fun vs H Q E=>∃ (x tp:Addr) (n:Nat) (ms:List (List Nat)) (m0:List Nat) (k:Int),vs=[.ref x,.int k]∧gX C H x tp n ms∧jS ms n∧ms[0]?=some m0∧(¬ (0<=k∧k<((Dt.eN (Dt.rm ms m0) (Wd.fin m0) (Wd.beg m0):Nat):Int))->∀ (H':Hp),aL H H'->E (.ref ad.NoSuch) none H') ∧
 (∀ (j:Nat) (us:List (List Nat)),k=(j:Int)->(Dt.jE (Dt.rm ms m0).length (Dt.rm ms m0) (Wd.fin m0) (Wd.beg m0))[j]?=some us->∀ (H':Hp),aL H H'->Q (T (Dt.rT m0 us)) H')
theorem Ea {f:Addr}{fd:FuncData}(F:Fun K "ring_by" "ring_by" qB f fd)(tt:Txt K mg ad)(C_ring_count:Cal P w K mg base (CX1 P w) "ring_count" 6 ["web"] (yO ad.Web))(C_way_by:Cal P w K mg base (CX1 P w) "way_by" 6 ["words", "one", "other", "number"] (Hl K))(C_end_of:Cal P w K mg base (CX1 P w) "end_of" 1 ["word"] kQ)(C_begin_of:Cal P w K mg base (CX1 P w) "begin_of" 1 ["word"] eU) :
  bN P w K mg base (CX1 P w) 7 f fd ["web", "number"] (Dq ad.Web ad):=by
 refine F.okX mZ (fun vs H Q E h=>?_) (fun cdv A outer s H vs Q E hr h=>?_)
 ·obtain⟨x,tp,n,ms,m0,k,rfl,_⟩:=h
  rfl
 ·obtain⟨x,tp,n,ms,m0,k,rfl,hW,hok,hm0,xn,q⟩:=h
  have hs:sizeLine=16777216:=sizeLine_eq;obtain⟨⟨dx,hx⟩,htp⟩:=id hW;obtain⟨hne,h64,hn,hxs,hnd⟩:=id hok;have hm0m:=aq hm0;have hm0l:=(hxs m0 hm0m).1;obtain⟨hd0,hdr⟩:=sP hnd hm0;have hpos:=cq.mpr hne;refine⟨_,(aB (bR (PW.pt (qX (aU oP (pv 1) aH (aY _)) (nA (aU Zg (pv 1) (aK C_ring_count hr aN (aA (pv 0) aC)) (aY _))))) (aE (cI (E:=fun cls H'=>E cls none H') tt.x_NoSuch rfl (fun _ _ _ _ _ _ _ I hx q=>eJ I hx q) (aA (bX [116,104,101,32,119,101,98,32,104,97,115,32,110,111,32,114,105,110,103,32,111,102,32,116,104,105,115,32,110,117,109,98,101,114] (by decide +kernel)) aC))) aW)
   (aB (aI (i:=2) mZ.nd rfl (Or.inl rfl) (cK jX (bL (pv 0) rfl) aH (fun _ _=>rfl)))
   (aB (aI (i:=3) mZ.nd rfl (Or.inl rfl) (aQ lR (cK Pq (pv 2) aH (fun _ _=>rfl)) (aK C_way_by hr aN (aA (bU Ao (bL (pv 0) rfl) (cC aH) cW) (aA (aK C_end_of hr aN (aA (pv 2) aC)) (aA (aK C_begin_of hr aN (aA (pv 2) aC)) (aA (pv 1) aC)))))))
   (aE (aS (bU wC (pv 3) cW (cC (aO aX (by rfl) tt.b_len a7 (aA (bL (pv 0) rfl) aC))))))))),?_⟩
  (try rw[bV]);(try rw[cxK1])
  refine⟨_,rfl,_,_,rfl,rfl,_,rfl,?_⟩;by_cases hk0:k<0
  ·refine itP (decide_eq_true hk0) ?_
   refine itP rfl ?_;exact⟨(by show 1<=sizeLine;omega),xn (fun z=>by omega) H (aL.refl _)⟩
  ·refine itN (fun z=>hk0 (of_decide_eq_true z)) ?_
   refine⟨_,rfl,_,rfl,x,tp,n,ms,m0,rfl,hW,hok,hm0,fun G1 s1=>?_⟩;refine⟨_,_,rfl,rfl,_,rfl,?_⟩;by_cases hk1:k≥((Dt.eN (Dt.rm ms m0) (Wd.fin m0) (Wd.beg m0):Nat):Int)
   ·refine itP (decide_eq_true hk1) ?_
    exact⟨(by show 1<=sizeLine;omega),xn (fun z=>by omega) G1 s1⟩
   ·refine itN (fun z=>hk1 (of_decide_eq_true z)) ?_
    obtain⟨j,hj⟩:∃ j:Nat,k=(j:Int):=⟨k.toNat,by omega⟩;subst hj;have hjl:j<(Dt.jE (Dt.rm ms m0).length (Dt.rm ms m0) (Wd.fin m0) (Wd.beg m0)).length:=by
     have:j<Dt.eN (Dt.rm ms m0) (Wd.fin m0) (Wd.beg m0):=by omega
     exact this
    obtain⟨us,hus⟩:∃ us,(Dt.jE (Dt.rm ms m0).length (Dt.rm ms m0) (Wd.fin m0) (Wd.beg m0))[j]?=some us:=⟨_,ac hjl⟩;have husl:=(Dt.uF (Dt.gE hnd) hus).1.length_eq;have hrl:=Dt.iO hnd hm0m;have hxG:=s1 x _ hx;have htG:=s1 tp _ htp;refine⟨_,rfl,x,ad.Web,dx,_,_,rfl,hxG,tt.cl_Web,tt.na_Web_words,dG _ _,tp,_,_,_,rfl,rfl,SqT.of htG,bC (j:=0) (by rw[ag,hm0];rfl),?_⟩;obtain⟨c0,hc0⟩:∃ c0,m0[0]?=some c0:=⟨m0[0]'(by omega),ac _⟩;have hm00:m0=c0::m0.drop 1:=by
     cases m0 with
     | nil=>cases hc0
     | cons y r =>
      have:y=c0:=by simpa using hc0
      rw[this];rfl
    refine⟨_,rfl,_,rfl,_,rfl,(by omega),c0,bC (j:=0) hc0,?_⟩;refine⟨_,rfl,x,ad.Web,dx,_,_,rfl,hxG,tt.cl_Web,tt.na_Web_words,dG _ _,_,rfl,tp,_,rfl,SqT.of htG,As hpos,fun p1 hp1=>?_⟩;rw[show iN (ms.map T) (some (1:Int)) none=(ms.drop 1).map T from lW (k:=1) hpos,hdr];have s2:=aM (o:=.tup ((Dt.rm ms m0).map T)) hp1;refine⟨_,rfl,m0,rfl,⟨by omega,by omega⟩,_,rfl,m0,rfl,⟨by omega,by omega⟩,_,rfl,p1,Dt.rm ms m0,us,Wd.fin m0,Wd.beg m0,j,rfl,.inr (SqT.of aD),⟨Dt.gE hnd,az (cj ..) h64,by show (m0.drop 1).length<=1000;rw[bf];omega,fun y hy=>by have:=(hxs y (Dt.fD.mp hy).1).1;omega⟩,hus,fun G2 s3=>?_⟩;have hfl:(Wd.fin m0++us.map Wd.aV).length=n-1+us.length:=by rw[ai,aR];show (m0.drop 1).length+_=_;rw[bf];omega
    refine⟨_,rfl,_,rfl,(by show 1+_<=sizeLine;omega),?_⟩;have sG2:=s1.trans (s2.trans s3);refine⟨_,rfl,_,rfl,x,ad.Web,dx,_,_,rfl,sG2 x _ hx,tt.cl_Web,tt.na_Web_words,dG _ _,tp,_,rfl,.inr (SqT.of (sG2 tp _ htp)),_,rfl,_,rfl,(by rw[ai];show 1+_<=sizeLine;omega),?_⟩;rw[aR];have e1:[c0]++(Wd.fin m0++us.map Wd.aV)=Wd.beg m0++(m0::us).map Wd.aV:=by
     rw[<- db,au,show [c0]++Wd.fin m0=m0 from hm00.symm]
     conv=>lhs;rw[Wd.Ai (w:=m0) (by omega)]
     rw[db];rfl
    rw[e1,show iG (Wd.beg m0++(m0::us).map Wd.aV) none (some ((ms.length:Nat):Int))=(Wd.beg m0++(m0::us).map Wd.aV).take ms.length from zP (by rw[ai,aR,av];omega),show ms.length=us.length+1 by omega];exact q j us rfl hus G2 sG2
def Iy (C:Addr)(ad:Adr):Sp:=fun vs H Q E=>∃ (x tp:Addr) (n:Nat) (ms:List (List Nat)) (m0 t:List Nat),vs=[.ref x,T t]∧gX C H x tp n ms∧jS ms n∧ms.Pairwise (fun a b=>¬ b<a)∧t.length<=60∧ms[0]?=some m0∧(¬ (uJ t n ms∧Wd.bA t n 0=m0)->∀ (H':Hp),aL H H'->E (.ref ad.NotOne) none H') ∧
 (∀ (us:List (List Nat)),uJ t n ms->Wd.cJ t n=m0::us->∀ (H':Hp),aL H H'->Q (.int (Dt.rk (Wd.beg m0) (Dt.rm ms m0) us:Nat)) H')
theorem uD {f:Addr}{fd:FuncData}(F:Fun K "ring_number" "ring_number" jN f fd)(tt:Txt K mg ad)(C_is_ring:Cal P w K mg base (CX1 P w) "is_ring" 4 ["web", "text"] (uG ad.Web))(C_way_number:Cal P w K mg base (CX1 P w) "way_number" 6 ["words", "order", "other"] (sZ K))(C_windows:Cal P w K mg base (CX1 P w) "windows" 2 ["text", "length", "ring"] Bu)(C_begin_of:Cal P w K mg base (CX1 P w) "begin_of" 1 ["word"] eU) :
  bN P w K mg base (CX1 P w) 7 f fd ["web", "ring"] (Iy ad.Web ad):=by
 refine F.okX tT (fun vs H Q E h=>?_) (fun cdv A outer s H vs Q E hr h=>?_)
 ·obtain⟨x,tp,n,ms,m0,t,rfl,_⟩:=h
  rfl
 ·obtain⟨x,tp,n,ms,m0,t,rfl,hW,hok,hsm,htl,hm0,xn,q⟩:=h
  have hs:sizeLine=16777216:=sizeLine_eq;obtain⟨hne,h64,hn,hxs,hnd⟩:=id hok;have hm0m:=aq hm0;have hm0l:=(hxs m0 hm0m).1;obtain⟨hd0,hdr⟩:=sP hnd hm0;have hpos:=cq.mpr hne;refine⟨_,(aB (bR (zL (qH (aK C_is_ring hr aN (aA (pv 0) (aA (pv 1) aC))))) (aE (cI (E:=fun cls H'=>E cls none H') tt.x_NotOne rfl (fun _ _ _ _ _ _ _ I hx q=>eJ I hx q) (aA (bX [116,104,101,32,116,101,120,116,32,105,115,32,110,111,32,114,105,110,103,32,111,102,32,116,104,101,32,119,101,98,44,32,116,111,108,100,32,102,114,111,109,32,105,116,115,32,108,101,97,115,116,32,119,111,114,100] (by decide +kernel)) aC))) aW)
   (aE (aS (aK C_way_number hr aN (aA (bU Ao (bL (pv 0) rfl) (cC aH) cW) (aA (bU kE (aK C_windows hr aN (aA (pv 1) (aA (bL (pv 0) rfl) (aA gZ aC)))) (cC aH) cW) (aA (aK C_begin_of hr aN (aA (cK jX (bL (pv 0) rfl) aH (fun _ _=>rfl)) aC)) aC))))))),?_⟩
  (try rw[bV]);(try rw[cxK1])
  refine⟨_,rfl,_,rfl,x,tp,t,m0,n,ms,rfl,hW,hsm,⟨by omega,by omega,by omega⟩,hm0,fun b G1 s1 hb=>⟨_,rfl,?_⟩⟩
  cases b with
  | false =>
   refine zF ?_;exact⟨(by show 1<=sizeLine;omega),xn (fun z=>by have:=hb.mpr z;cases this) G1 s1⟩
  | true =>
   refine pD ?_;obtain⟨hR,hR0⟩:=hb.mp rfl;obtain⟨us,hus,_,_⟩:=Dt.Iz (by omega) (fun w hw=>(hxs w hw).1) hR hne hR0;obtain⟨⟨dx,hx⟩,htp⟩:=hW.on s1;refine⟨_,rfl,x,ad.Web,dx,_,_,rfl,hx,tt.cl_Web,tt.na_Web_words,dG _ _,_,rfl,tp,_,rfl,SqT.of htp,As hpos,fun p1 hp1=>?_⟩;rw[show iN (ms.map T) (some (1:Int)) none=(ms.drop 1).map T from lW (k:=1) hpos,hdr];have s2:=aM (o:=.tup ((Dt.rm ms m0).map T)) hp1;refine⟨_,rfl,_,rfl,x,ad.Web,dx,_,_,rfl,s2 x _ hx,tt.cl_Web,tt.na_Web_length,uP _ _,t,n,true,rfl,⟨by omega,by omega,by omega⟩,fun D3 G3 hD3 s3 hd3=>?_⟩;rw[show Wd.win t n true=Wd.cJ t n from if_pos rfl,hus] at hd3;refine⟨_,rfl,D3,_,rfl,SqL.of hd3,fun p4 hp4=>?_⟩;rw[show iN ((m0::us).map T) (some (1:Int)) none=us.map T from lW (ls:=m0::us) (k:=1) (by simp)];have s4:=aM (o:=.lst (us.map T)) hp4;have s24:=s2.trans (s3.trans s4);refine⟨_,rfl,x,ad.Web,dx,_,_,rfl,s24 x _ hx,tt.cl_Web,tt.na_Web_words,dG _ _,tp,_,_,_,rfl,rfl,SqT.of (s24 tp _ htp),bC (j:=0) (by rw[ag,hm0];rfl),m0,rfl,⟨by omega,by omega⟩,p1,p4,Dt.rm ms m0,us,Wd.beg m0,rfl,.inr (SqT.of ((s3.trans s4) p1 _ aD)),SqL.of aD,⟨Dt.gE hnd,az (cj ..) h64,fun y hy=>by have:=(hxs y (Dt.fD.mp hy).1).1;omega⟩,?_,fun G5 s5=>q us hR hus G5 (s1.trans (s24.trans s5))⟩;have hR':(Wd.cJ t n).Perm ms:=hR;rw[hus] at hR';have hpz:=(hR'.trans (Dt.gA hnd hm0m)).cons_inv;exact⟨hpz.nodup_iff.mpr (Dt.gE hnd),fun y hy=>hpz.mem_iff.mp hy⟩
theorem lV {t:List Nat}{n:Nat}{e:List Nat}{xs:List (List Nat)}(h:Wd.bJ t n=xs++[e]):cO t n=e:=by
 unfold cO;rw[h];simp
theorem Mg {t:List Nat}{n:Nat}(hn:1<=n)(h:n<=t.length):cO t n=t.drop (t.length-n):=by
 obtain⟨r,c,rfl⟩:∃ r c,t=r++[c]:=⟨t.dropLast,t.getLast (fun z=>by rw[z] at h;have:n<=0:=h;omega),(er _).symm⟩;rw[ai,ci] at h ⊢;rw[lV (Wd.jT hn h),gf (by omega)]
theorem qL {t:List Nat}{n:Nat}(hn:1<=n)(h:n<=t.length):(cO t n).drop 1=t.drop (t.length+1-n):=by
 rw[Mg hn h,ub]
 congr 1
 omega
theorem pZ {t e:List Nat}{n:Nat}(hn:1<=n)(h:n<=t.length)(hl:e.length=n)(hb:Wd.beg e=(cO t n).drop 1):Wd.bJ (t++[Wd.aV e]) n=Wd.bJ t n++[e]:=by
 rw[Wd.jT hn (by omega),<- qL hn h,<- hb,<- Wd.Ai (by omega)]
theorem uT {t e:List Nat}{n:Nat}(hn:1<=n)(h:n<=t.length)(hl:e.length=n)(hb:Wd.beg e=(cO t n).drop 1):cO (t++[Wd.aV e]) n=e:=lV (pZ hn h hl hb)
theorem sX {ms:List (List Nat)}{t e:List Nat}{n:Nat}(hn:1<=n)(h:n<=t.length)(hl:e.length=n)(hb:Wd.beg e=(cO t n).drop 1):aZ ms (t++[Wd.aV e]) n=Dt.rm (aZ ms t n) e:=by
 unfold aZ Dt.rm;rw[pZ hn h hl hb,gl];refine ij fun x _=>?_
 by_cases e1:x=e <;> by_cases e2:x∈Wd.bJ t n <;> simp[e1,e2]
theorem Ba {e:List Nat}:∀ {l:List (List Nat)} {i:Nat},l.Pairwise (· < ·)->l[i]?=some e->l.filter (fun x=>decide (x<e))=l.take i
 | [],i,_,h=>by simp at h
 | a::l,0,hp,h=>by
  obtain rfl:a=e:=by simpa using h
  rw[ix,fu];intro x hx z;have z:=of_decide_eq_true z;rcases aw.mp hx with rfl | hx
  ·exact gh _ z
  ·exact gh _ (qi z ((gm.mp hp).1 x hx))
 | a::l,i+1,hp,h=>by
  have h':l[i]?=some e:=by simpa using h
  have hlt:a<e:=(gm.mp hp).1 e (aq h');rw[dj (p:=fun x=>decide (x<e)) (decide_eq_true hlt),List.take_succ_cons,Ba (gm.mp hp).2 h']
def eI (ms:List (List Nat))(t:List Nat)(n:Nat)(m0:List Nat):Prop:=ms[0]?=some m0∧ms.Pairwise (· < ·)∧aZ ms t n≠[]∧Wd.Bal (aZ ms t n) ((cO t n).drop 1) (beg m0)∧Wd.gY (aZ ms t n) ((cO t n).drop 1)∧(((Wd.bJ t n).drop 1).Nodup∧∀ z∈(Wd.bJ t n).drop 1,z∈ms.drop 1)∧((Wd.bJ t n).drop 1).foldl Dt.rm (ms.drop 1)=aZ ms t n
def rV (ms:List (List Nat))(t:List Nat)(n:Nat)(m0:List Nat)(l:List (List Nat)):Nat:=(l.map fun x=>Dt.eN (Dt.rm (aZ ms t n) x) (Wd.fin x) (beg m0)).sum
theorem eI.nd {ms:List (List Nat)}{t m0:List Nat}{n:Nat}(h:eI ms t n m0):ms.Nodup:=h.2.1.imp fun z e=>absurd (e▸z) (gh _)
open Classical in
theorem tN {ms:List (List Nat)}{t e:List Nat}{n:Nat}(h:e∈nxL ms t n):e∈aZ ms t n∧Wd.beg e=(cO t n).drop 1∧Wd.gY (Dt.rm (aZ ms t n) e) (Wd.fin e):=by
 obtain⟨h1,h2⟩:=cf.mp h;obtain⟨h3,h4⟩:=cf.mp h1;exact⟨h3,of_decide_eq_true h4,of_decide_eq_true h2⟩
open Classical in
theorem Sy {ms:List (List Nat)}{t m0:List Nat}{n:Nat}(h:eI ms t n m0):nxL ms t n≠[]:=by
 obtain⟨_,_,hne,hb,hc,_⟩:=id h;obtain⟨e,he,h1,h2⟩:=Wd.Vh hb hc hne;have hn2:(aZ ms t n).Nodup:=h.nd.sublist ff;have h3:=h2.perm ((gr he).symm.trans (Dt.gA hn2 he)).cons_inv;intro z;have hm:e∈nxL ms t n:=cf.mpr ⟨cf.mpr ⟨he,decide_eq_true h1⟩,decide_eq_true h3⟩;rw[z] at hm;cases hm
theorem Uq {ms:List (List Nat)}{t m0:List Nat}{n:Nat}(h:eI ms t n m0):(nxL ms t n).Pairwise (· < ·):=((h.2.1.filter _).filter _).filter _
theorem Yi {ms:List (List Nat)}{t m0 e:List Nat}{n i:Nat}(h:eI ms t n m0)(he:(nxL ms t n)[i]?=some e):Dt.rk (beg m0) (ms.drop 1) ((Wd.bJ t n).drop 1++[e])=Dt.rk (beg m0) (ms.drop 1) ((Wd.bJ t n).drop 1)+rV ms t n m0 ((nxL ms t n).take i):=by
 have hn2:(aZ ms t n).Nodup:=h.nd.sublist ff;obtain⟨h1,h2,h3⟩:=tN (aq he);rw[Dt.Je,h.2.2.2.2.2.2,h2,Dt.uN hn2];unfold rV;rw[<- Ba (Uq h) he];unfold nxL;refine congrArg (fun l:List (List Nat)=>Dt.rk (beg m0) (ms.drop 1) ((Wd.bJ t n).drop 1)+(l.map fun x=>Dt.eN (Dt.rm (aZ ms t n) x) (Wd.fin x) (beg m0)).sum) ?_;rw[gl,gl];refine ij fun x _=>?_
 rw[ur];rfl
theorem Vy {ms:List (List Nat)}{t m0:List Nat}{n:Nat}(h:eI ms t n m0):Dt.eN (aZ ms t n) ((cO t n).drop 1) (beg m0)=rV ms t n m0 (nxL ms t n):=by
 have hn2:(aZ ms t n).Nodup:=h.nd.sublist ff;rw[Dt.Il hn2 h.2.2.1,Dt.uN hn2];rfl
theorem Fl {ms:List (List Nat)}{n c:Nat}{t:List Nat}(h:fE ms n t)(hl:t.length<=900):fE ms n (t++[c]):=⟨h.1,by rw[ai];have:=h.2.1;omega,by rw[ai];show _+1<=1000;omega,h.2.2.2⟩
theorem Bi {ms:List (List Nat)}{t m0 e:List Nat}{n:Nat}(hok:fE ms n t)(h:eI ms t n m0)(he:e∈nxL ms t n):(Wd.bJ (t++[Wd.aV e]) n).drop 1=(Wd.bJ t n).drop 1++[e]∧(((Wd.bJ (t++[Wd.aV e]) n).drop 1).Nodup∧∀ z∈(Wd.bJ (t++[Wd.aV e]) n).drop 1,z∈ms.drop 1):=by
 obtain⟨h1,h2,_⟩:=tN he;obtain⟨⟨xs,hx⟩,_⟩:=lO hok.1.1 hok.2.1;have hl:e.length=n:=hok.2.2.2.2.2 e (cf.mp h1).1;have e1:(Wd.bJ (t++[Wd.aV e]) n).drop 1=(Wd.bJ t n).drop 1++[e]:=by
  rw[pZ hok.1.1 hok.2.1 hl h2,gf (by rw[hx,ai];show 1<=_+1;omega)]
 refine⟨e1,?_⟩;rw[e1];have h3:=h.2.2.2.2.2.2;rw[Dt.Dw] at h3;rw[<- h3] at h1;obtain⟨h4,h5⟩:=cf.mp h1;have h6:e∉(Wd.bJ t n).drop 1:=fun z=>by rw[decide_eq_true z] at h5;cases h5
 refine⟨ge.mpr ⟨h.2.2.2.2.2.1.1,by simp,fun a' ha d hd q=>h6 (by rw[<- ax.mp hd,<- q];exact ha)⟩,fun z hz=>?_⟩;rcases bt.mp hz with hz | hz
 ·exact h.2.2.2.2.2.1.2 z hz
 ·rw[ax.mp hz];exact h4
theorem Ll {ms:List (List Nat)}{t m0 e:List Nat}{n i:Nat}(he:(nxL ms t n)[i]?=some e):rV ms t n m0 ((nxL ms t n).take (i+1))=rV ms t n m0 ((nxL ms t n).take i)+Dt.eN (Dt.rm (aZ ms t n) e) (Wd.fin e) (beg m0):=by
 unfold rV;rw[cx,he,bh,l5];rfl
def szL:List (Int×Int):=[(4,2),(3,2),(2,3),(2,4),(1,5),(2,2),(1,6),(1,1),(3,1)]
def Mv (nn kn:Nat):Prop:=(1<=kn∧kn<=6)∧1<=nn∧nn<=8∧kn ^ nn<=30
theorem Vt:∀ z∈szL,∃ nn kn:Nat,z=(((nn:Nat):Int),((kn:Nat):Int))∧Mv nn kn:=by
 intro z hz;have key:∀ z∈szL,0<=z.1∧0<=z.2∧(1<=z.2.toNat∧z.2.toNat<=6)∧1<=z.1.toNat∧z.1.toNat<=8∧z.2.toNat ^ z.1.toNat<=30:=by decide
 obtain⟨h1,h2,h3⟩:=key z hz;exact⟨z.1.toNat,z.2.toNat,by rw[l9 h1,l9 h2],h3⟩
def Gz:Sp:=fun vs H Q _=>∃ c:Int,vs=[.int c]∧∀ (tp:Addr) (nn kn:Nat) (H':Hp),aL H H'->H' tp=some (.tup [.int (nn:Nat),.int (kn:Nat)])->Mv nn kn->Q (.ref tp) H'
theorem yU {f:Addr}{fd:FuncData}(F:Fun K "_law_size" "_law_size" lN f fd)(tt:Txt K mg ad):bN P w K mg base (CX1 P w) 1 f fd ["n"] Gz:=by
 refine F.okN nK (fun vs H Q E h=>?_) (fun cdv A outer s H vs Q E hr h=>?_)
 ·obtain⟨c,rfl,_⟩:=h
  rfl
 ·obtain⟨c,rfl,q⟩:=h
  have hs:sizeLine=16777216:=sizeLine_eq;refine⟨_,(aB (aI (i:=1) nK.nd rfl (Or.inl rfl) (dF (Cq [((_,_,_),(_,_,_),_,_),((_,_,_),(_,_,_),_,_),((_,_,_),(_,_,_),_,_),((_,_,_),(_,_,_),_,_),((_,_,_),(_,_,_),_,_),((_,_,_),(_,_,_),_,_),((_,_,_),(_,_,_),_,_),((_,_,_),(_,_,_),_,_),((_,_,_),(_,_,_),_,_)])))
   (aE (aS (cK cF (pv 1) (aQ dD (pv 0) (aO aX (by rfl) tt.b_len a7 (Xv (pv 1) aC))) (fun _ _=>rfl))))),?_⟩
  (try rw[bV]);(try rw[cxK1])
  refine yH _ fun vs H1 hl1 s1 hv1=>?_
  have hl1:vs.length=9:=hl1;refine⟨(by rw[hl1,hs];decide),fun D hD=>?_⟩;have t1:=aM (o:=.lst vs) hD;obtain⟨i,hi,hil⟩:∃ i:Nat,c % 9=(i:Int)∧i<9:=⟨(c % 9).toNat,by omega,by omega⟩;obtain⟨z,hz⟩:∃ z,szL[i]?=some z:=⟨_,ac (show i<szL.length from hil)⟩;obtain⟨tp,e1,e2⟩:=hv1 i z (show szL[i]?=some z from hz);obtain⟨nn,kn,rfl,hok⟩:=Vt z (aq hz);exact⟨_,rfl,_,rfl,_,rfl,D,_,rfl,.inl (SqL.of aD),_,_,rfl,rfl,(by rw[hl1];show (0:Int)<9;decide),D,_,_,_,rfl,rfl,SqL.of aD,(show atI vs (c % ((vs.length:Nat):Int))=some (.ref tp) by rw[hl1];show atI vs (c % 9)=_;rw[hi];exact bC e1),q tp nn kn _ (s1.trans t1) (t1 _ _ e2) hok⟩
theorem eI.next {ms:List (List Nat)}{t m0 e:List Nat}{n:Nat}(hok:fE ms n t)(h:eI ms t n m0)(he:e∈nxL ms t n)(hne:Dt.rm (aZ ms t n) e≠[]):eI ms (t++[Wd.aV e]) n m0:=by
 obtain⟨h0,hasc,_,hbal,_,hgo,hfo⟩:=id h;obtain⟨h1,h2,h3⟩:=tN he;have hl:e.length=n:=hok.2.2.2.2.2 e (cf.mp h1).1;have hn2:(aZ ms t n).Nodup:=h.nd.sublist ff;have e1:=sX (ms:=ms) hok.1.1 hok.2.1 hl h2;have e2:=uT hok.1.1 hok.2.1 hl h2;obtain⟨g1,g2⟩:=Bi hok h he;refine⟨h0,hasc,by rw[e1];exact hne,?_,?_,g2,?_⟩
 ·rw[e1,e2]
  exact (hbal.step h1 h2).perm ((gr h1).symm.trans (Dt.gA hn2 h1)).cons_inv
 ·rw[e1,e2]
  exact h3
 ·rw[g1,m7,hfo,e1]
  rfl
theorem eI.first {ms:List (List Nat)}{m0:List Nat}{n:Nat}(hn:1<=n)(hl:m0.length=n)(h0:ms[0]?=some m0)(hasc:ms.Pairwise (· < ·))(hne:ms.drop 1≠[])(hb:Wd.Bal (ms.drop 1) (Wd.fin m0) (beg m0))(hc:Wd.gY (ms.drop 1) (Wd.fin m0)):eI ms m0 n m0∧aZ ms m0 n=ms.drop 1:=by
 obtain⟨rs,rfl⟩:∃ rs,ms=m0::rs:=by
  cases ms with
  | nil=>cases h0
  | cons a rs=>exact⟨rs,by cases h0;rfl⟩
 have e0:Wd.bJ m0 n=[m0]:=by
  obtain⟨r,c,rfl⟩:∃ r c,m0=r++[c]:=⟨m0.dropLast,m0.getLast (fun z=>by rw[z] at hl;have:(0:Nat)=n:=hl;omega),(er _).symm⟩;rw[ai] at hl;have hl:r.length+1=n:=hl;rw[Wd.jT hn (by omega)];have e1:Wd.bJ r n=[]:=by
   unfold Wd.bJ;rw[show r.length+1-n=0 by omega];rfl
  rw[e1,show r.length+1-n=0 by omega];rfl
 have e2:cO m0 n=m0:=lV (xs:=[]) e0;have e3:aZ (m0::rs) m0 n=rs:=by
  unfold aZ;rw[e0,c9 (by simp),iq.mpr];intro x hx;have hlt:=(gm.mp hasc).1 x hx;have hne:x≠m0:=fun z=>gh _ (z▸hlt)
  simp[hne]
 refine⟨⟨rfl,hasc,by rw[e3];exact hne,by rw[e3,e2];exact hb,by rw[e3,e2];exact hc,?_,?_⟩,e3⟩
 ·rw[e0]
  exact⟨ig,fun z hz=>by cases hz⟩
 ·rw[e0,e3]
  rfl
def Tc (ms:List (List Nat))(t:List Nat)(n:Nat)(m0:List Nat):Prop:=eI ms t n m0∨(aZ ms t n=[]∧(cO t n).drop 1=beg m0)
theorem Ij {a b:List Nat}(h:Wd.Bal [] a b):a=b:=by
 have:=h b
 simp[Wd.cnt] at this;exact this.symm
theorem eI.go {ms:List (List Nat)}{t m0 e:List Nat}{n:Nat}(hok:fE ms n t)(h:eI ms t n m0)(he:e∈nxL ms t n):Tc ms (t++[Wd.aV e]) n m0∧aZ ms (t++[Wd.aV e]) n=Dt.rm (aZ ms t n) e∧(aZ ms (t++[Wd.aV e]) n).length+1=(aZ ms t n).length∧cO (t++[Wd.aV e]) n=e:=by
 obtain⟨h0,hasc,_,hbal,_,hgo,hfo⟩:=id h;obtain⟨h1,h2,h3⟩:=tN he;have hl:e.length=n:=hok.2.2.2.2.2 e (cf.mp h1).1;have hn2:(aZ ms t n).Nodup:=h.nd.sublist ff;have e1:=sX (ms:=ms) hok.1.1 hok.2.1 hl h2;have e2:=uT hok.1.1 hok.2.1 hl h2;refine⟨?_,e1,by rw[e1];exact Dt.iO hn2 h1,e2⟩;by_cases hne:Dt.rm (aZ ms t n) e=[]
 ·refine .inr ⟨by rw[e1,hne],?_⟩
  rw[e2];have hb:=Dt.Mj hn2 h1 (by rw[h2];exact hbal);rw[hne] at hb;exact Ij hb
 ·exact .inl (h.next hok he hne)
theorem Qa {ms:List (List Nat)}{m0:List Nat}{n:Nat}(hn:1<=n)(hl:m0.length=n)(h0:ms[0]?=some m0)(hasc:ms.Pairwise (· < ·)):cO m0 n=m0∧aZ ms m0 n=ms.drop 1:=by
 obtain⟨rs,rfl⟩:∃ rs,ms=m0::rs:=by
  cases ms with
  | nil=>cases h0
  | cons a rs=>exact⟨rs,by cases h0;rfl⟩
 have e0:Wd.bJ m0 n=[m0]:=by
  obtain⟨r,c,rfl⟩:∃ r c,m0=r++[c]:=⟨m0.dropLast,m0.getLast (fun z=>by rw[z] at hl;have:(0:Nat)=n:=hl;omega),(er _).symm⟩;rw[ai] at hl;have hl:r.length+1=n:=hl;rw[Wd.jT hn (by omega)];have e1:Wd.bJ r n=[]:=by
   unfold Wd.bJ;rw[show r.length+1-n=0 by omega];rfl
  rw[e1,show r.length+1-n=0 by omega];rfl
 refine⟨lV (xs:=[]) e0,?_⟩;unfold aZ;rw[e0,c9 (by simp),iq.mpr]
 ·rfl
 intro x hx;have hlt:=(gm.mp hasc).1 x hx;have hne:x≠m0:=fun z=>gh _ (z▸hlt)
 simp[hne]
def Std (ms:List (List Nat))(t:List Nat)(n:Nat)(m0:List Nat):Prop:=fE ms n t∧Tc ms t n m0∧(((Wd.bJ t n).drop 1).Nodup∧∀ z∈(Wd.bJ t n).drop 1,z∈ms.drop 1)∧((Wd.bJ t n).drop 1).foldl Dt.rm (ms.drop 1)=aZ ms t n∧∃ r,t=m0++r
def fV (ms:List (List Nat))(t:List Nat)(n:Nat)(m0:List Nat):Nat:=Dt.rk (beg m0) (ms.drop 1) ((Wd.bJ t n).drop 1)
def iE (ms:List (List Nat))(t:List Nat)(n:Nat)(m0:List Nat):Nat:=Dt.eN (aZ ms t n) ((cO t n).drop 1) (beg m0)
theorem Std.first {ms us:List (List Nat)}{m0 p:List Nat}{n:Nat}(hok:fE ms n m0)(hl:m0.length=n)(h0:ms[0]?=some m0)(hasc:ms.Pairwise (· < ·))(hw:Gv us ms p p):Std ms m0 n m0∧aZ ms m0 n=ms.drop 1∧fV ms m0 n m0=0∧iE ms m0 n m0=Dt.eN (ms.drop 1) (Wd.fin m0) (beg m0):=by
 have hm0:=aq h0;obtain⟨ws,ht1,ht2⟩:=Wd.Sn hw.1 hw.2 hm0;have hdr:ms=m0::ms.drop 1:=by
  cases ms with
  | nil=>cases h0
  | cons m r=>cases h0;rfl
 have hwp:ws.Perm (ms.drop 1):=by
  have z:=ht2;rw[hdr] at z;exact z.cons_inv
 have hbal:Wd.Bal (ms.drop 1) (Wd.fin m0) (beg m0):=(Wd.Ar ht1.2).perm hwp;have hcon:Wd.gY (ms.drop 1) (Wd.fin m0):=(Wd.sI ht1.2).perm hwp;obtain⟨g1,g2⟩:=Qa hok.1.1 hl h0 hasc;have e0:(Wd.bJ m0 n).drop 1=[]:=by
  obtain⟨⟨xs,hx⟩,_⟩:=lO hok.1.1 hok.2.1;have hln:=Wd.Bt m0 n;rw[hx,ai] at hln
  have:xs.length+1=m0.length+1-n:=hln
  obtain rfl:xs=[]:=a8.mp (by omega);rw[hx];rfl
 refine⟨⟨hok,?_,?_,?_,[],by rw[du]⟩,g2,?_,?_⟩
 ·by_cases hz0:ms.drop 1=[]
  ·refine .inr ⟨by rw[g2,hz0],?_⟩
   rw[g1];rw[hz0] at hbal;exact Ij hbal
  ·exact .inl (eI.first hok.1.1 hl h0 hasc hz0 hbal hcon).1
 ·rw[e0]
  exact⟨ig,fun z hz=>by cases hz⟩
 ·rw[e0,g2]
  rfl
 ·unfold fV
  rw[e0];rfl
 ·unfold iE
  rw[g1,g2];rfl
theorem Std.go {ms:List (List Nat)}{t m0 e:List Nat}{n j:Nat}(h:Std ms t n m0)(hs:eI ms t n m0)(hl:t.length<=900)(he:(nxL ms t n)[j]?=some e):Std ms (t++[Wd.aV e]) n m0∧(aZ ms (t++[Wd.aV e]) n).length+1=(aZ ms t n).length∧fV ms t n m0<=fV ms (t++[Wd.aV e]) n m0 ∧
  fV ms (t++[Wd.aV e]) n m0+iE ms (t++[Wd.aV e]) n m0<=fV ms t n m0+iE ms t n m0∧(j=0->fV ms (t++[Wd.aV e]) n m0=fV ms t n m0)∧(j+1=(nxL ms t n).length->fV ms (t++[Wd.aV e]) n m0+iE ms (t++[Wd.aV e]) n m0=fV ms t n m0+iE ms t n m0):=by
 obtain⟨hok,hA,hgo,hfo,r,hr⟩:=id h;have hem:=aq he;obtain⟨g1,g2,g3,g4⟩:=hs.go hok hem;obtain⟨k1,k2⟩:=Bi hok hs hem;have e1:fV ms (t++[Wd.aV e]) n m0=fV ms t n m0+rV ms t n m0 ((nxL ms t n).take j):=by
  unfold fV;rw[k1];exact Yi hs he
 have e2:iE ms (t++[Wd.aV e]) n m0=Dt.eN (Dt.rm (aZ ms t n) e) (Wd.fin e) (beg m0):=by
  unfold iE;rw[g2,g4];rfl
 have e3:iE ms t n m0=rV ms t n m0 (nxL ms t n):=Vy hs;have e4:=Ll (m0:=m0) he;have e5:rV ms t n m0 (nxL ms t n)=rV ms t n m0 ((nxL ms t n).take (j+1))+rV ms t n m0 ((nxL ms t n).drop (j+1)):=by
  unfold rV;rw[<- l5,<- bh,j3]
 refine⟨⟨Fl hok hl,g1,k2,?_,r++[Wd.aV e],by rw[hr,db]⟩,g3,by omega,by omega,fun hj=>?_,fun hj=>?_⟩
 ·rw[k1,m7,hfo,g2]
  rfl
 ·rw[e1,hj,ix]
  rfl
 ·rw[cp (by omega)] at e4
  omega
theorem Std.ring {ms:List (List Nat)}{t m0:List Nat}{n:Nat}(h:Std ms t n m0)(hnd:ms.Nodup)(h0:ms[0]?=some m0)(hl:aZ ms t n=[]):∃ us,Wd.bJ t n=m0::us∧us.Perm (ms.drop 1)∧Hg.Tr Wd.beg Wd.fin (Wd.fin m0) us (Wd.beg m0)∧t.take ms.length=Dt.rT m0 us∧fV ms t n m0=Dt.rk (beg m0) (ms.drop 1) us∧iE ms t n m0=1∧t.length=ms.length+n-1:=by
 obtain⟨hok,hA,⟨hg1,hg2⟩,hfo,r,hr⟩:=id h;obtain⟨hn,h1,h2,h3,h4,h5⟩:=id hok;have hhome:(cO t n).drop 1=beg m0:=(hA.resolve_left fun z=>z.2.2.1 hl).2;have hm0l:=h5 m0 (aq h0);obtain⟨⟨xs,hx⟩,_⟩:=lO hn.1 h1;have hrl:=Wd.Bt t n;have hhead:(Wd.bJ t n)[0]?=some m0:=by
  unfold Wd.bJ;rw[ag,ga (by omega)];show some (Wd.bA t n 0)=_;rw[<- Wd.qI (by omega),gi,hr,<- hm0l,List.take_left'];rfl
 obtain⟨us,hus⟩:∃ us,Wd.bJ t n=m0::us:=by
  cases hc:Wd.bJ t n with
  | nil=>rw[hc] at hhead;cases hhead
  | cons a us=>rw[hc] at hhead;cases hhead;exact⟨us,rfl⟩
 rw[hus] at hg1 hg2 hfo;have hg1:us.Nodup:=hg1;have hg2:∀ z∈us,z∈ms.drop 1:=hg2;have hfo:us.foldl Dt.rm (ms.drop 1)=aZ ms t n:=hfo;have hdn:(ms.drop 1).Nodup:=hnd.sublist (se ..);have hperm:us.Perm (ms.drop 1):=(d9 hg1 hdn).mpr fun z=>⟨hg2 z,fun hz=>by
  rw[hl,Dt.Dw] at hfo
  have:=fu.mp hfo z hz
  apply bc;intro hc;exact this (by rw[decide_eq_false hc];rfl)⟩
 have htr:=Wd.Ul (t:=t) hn.1 (by omega);rw[hus,<- qL hn.1 h1,hhome] at htr;have htk:t.take (n-1)=Wd.beg m0:=htr.1.symm;have hul:=hperm.length_eq;rw[bf] at hul;have hmp:=cq.mpr h3;rw[hus,av] at hrl;have htl:t.length=ms.length+n-1:=by omega
 have hdp:t.drop ms.length=t.take (n-1):=by
  rw[htk];have e:(cO t n).drop 1=t.drop (t.length+1-n):=qL hn.1 h1;rw[hhome] at e;rw[show ms.length=t.length+1-n by omega];exact e.symm
 have hcl:=Wd.rE (t:=t) (s:=ms.length) hmp hn.1 htl hdp;have hdr:ms=m0::ms.drop 1:=by
  cases ms with
  | nil=>cases h0
  | cons m r=>cases h0;rfl
 have hrp:(Wd.cJ (t.take ms.length) n).Perm ms:=by
  rw[hcl,hus]
  conv=>rhs;rw[hdr]
  exact hperm.cons m0
 have hra:Wd.bA (t.take ms.length) n 0=m0:=by
  have h1:(Wd.cJ (t.take ms.length) n)[0]?=some (Wd.bA (t.take ms.length) n 0):=Wd.pP (by rw[b8];omega);rw[hcl,hus] at h1;exact (ay h1).symm
 obtain⟨us2,hu1,hu2,hu3⟩:=Dt.Iz hn.1 h5 hrp h3 hra;rw[hcl,hus] at hu1;obtain rfl:us=us2:=(qh hu1).2;refine⟨us,hus,hperm,hu3.2,hu2,?_,?_,htl⟩
 ·unfold fV
  rw[hus];rfl
 ·unfold iE
  rw[hl,hhome];show (Dt.jE 0 [] (beg m0) (beg m0)).length=1;unfold Dt.jE;rw[if_pos rfl];rfl
def Prs (G:Hp)(as:List Addr)(ps:List (Nat×Nat)):Prop:=as.length=ps.length∧∀ (i:Nat) (a:Addr) (p:Nat×Nat),as[i]?=some a->ps[i]?=some p->G a=some (.tup [.int (p.1:Nat),.int (p.2:Nat)])
theorem Prs.mem {G:Hp}{as:List Addr}{ps:List (Nat×Nat)}(h:Prs G as ps){a:Addr}(ha:a∈as):∃ p∈ps,G a=some (.tup [.int (p.1:Nat),.int (p.2:Nat)]):=by
 obtain⟨i,hi,rfl⟩:=qb.mp ha;have h1:i<ps.length:=by rw[<- h.1];exact hi
 exact⟨ps[i],di h1,h.2 i _ _ (ac hi) (ac h1)⟩
theorem Prs.to {G G':Hp}{as:List Addr}{ps:List (Nat×Nat)}(h:Prs G as ps)(s:∀ (a:Addr) (l:List V),G a=some (.tup l)->G' a=some (.tup l)):Prs G' as ps:=⟨h.1,fun i a p h1 h2=>s a _ (h.2 i a p h1 h2)⟩
theorem Prs.snoc {G:Hp}{as:List Addr}{ps:List (Nat×Nat)}{a:Addr}{p:Nat×Nat}(h:Prs G as ps)(ha:G a=some (.tup [.int (p.1:Nat),.int (p.2:Nat)])):Prs G (as++[a]) (ps++[p]):=by
 refine⟨by rw[ai,ai,h.1];rfl,fun i b q h1 h2=>?_⟩;rcases fq i as.length with hi | hi
 ·rw[ej hi] at h1
  rw[ej (by rw[<- h.1];exact hi)] at h2;exact h.2 i b q h1 h2
 ·rw[d7 hi] at h1
  rw[d7 (by rw[<- h.1];exact hi),<- h.1] at h2;have hi0:i-as.length=0:=by
   have:=(al.mp h1).1
   rw[ci] at this;omega
  rw[hi0] at h1 h2;cases h1;cases h2;exact ha
theorem cQ.putL {C W:Addr}{H:Hp}{y x tp S:Addr}{n:Nat}{ms:List (List Nat)}{t:List Nat}{l l':List V}(h:cQ C W H y x tp n ms t)(hS:H S=some (.lst l)):cQ C W (upd H S (.lst l')) y x tp n ms t:=by
 obtain⟨⟨dy,hy⟩,⟨dx,hx⟩,ht⟩:=h;have hne:∀ {b o},H b=some o->(∀ l,o≠.lst l)->b≠S:=fun {b o} e1 e2 e3=>by rw[e3,hS] at e1;exact e2 _ (ay e1).symm
 exact⟨⟨dy,by rw[aG (hne hy (fun l z=>by cases z))];exact hy⟩,⟨dx,by rw[aG (hne hx (fun l z=>by cases z))];exact hx⟩,by rw[aG (hne ht (fun l z=>by cases z))];exact ht⟩
def sY (wy many:Nat)(A N:Nat)(ps:List (Nat×Nat)):Prop:=ps[0]?=some (0,many)∧(∀ p∈ps,p.1<=A∧A+N<=p.1+p.2)∧(wy=0->A=0)∧(wy=1->A+N=many)
theorem sY.snoc {wy many A N A' N':Nat}{ps:List (Nat×Nat)}(h:sY wy many A N ps)(h1:A<=A')(h2:A'+N'<=A+N)(h3:wy=0->A'=A)(h4:wy=1->A'+N'=A+N):sY wy many A' N' (ps++[(A',N')]):=by
 obtain⟨g1,g2,g3,g4⟩:=h;refine⟨?_,fun p hp=>?_,fun z=>by rw[h3 z];exact g3 z,fun z=>by rw[h4 z];exact g4 z⟩
 ·cases ps with
  | nil=>cases g1
  | cons p ps=>exact g1
 ·rcases bt.mp hp with hp | hp
  ·have:=g2 p hp;omega
  ·rw[ax.mp hp]
   exact⟨ah _,ah _⟩
def Nt (K:af)(C W:Addr):Sp:=fun vs H Q _=>∃ (x0 tp0 cb:Addr) (wy n:Nat) (ms:List (List Nat)) (m0:List Nat) (zs:List Int),vs=[.ref x0,.ref cb,.int (wy:Nat)]∧gX W H x0 tp0 n ms∧jS ms n∧ms.Pairwise (· < ·)∧ms[0]?=some m0∧(∃ us p,Gv us ms p p)∧SqL K H cb (zs.map V.int)∧zs.length=ms.length∧wy<3 ∧
 ∀ (pr y x tp S:Addr) (t:List Nat) (as:List Addr) (ps:List (Nat×Nat)) (H':Hp),aL H H'->H' pr=some (.tup [.ref y,.ref S])->cQ C W H' y x tp n ms t->Std ms t n m0->aZ ms t n=[]->H' S=some (.lst (as.map V.ref))->Prs H' as ps->as.length<=100->sY wy (Dt.eN (ms.drop 1) (Wd.fin m0) (beg m0)) (fV ms t n m0) (iE ms t n m0) ps->Q (.ref pr) H'
theorem rO {f:Addr}{fd:FuncData}(F:Fun K "_law_written" "_law_written" iL f fd)(tt:Txt K mg ad)(C_Desk_init:Cam P w K mg base (CX1 P w) "Desk" ad.Desk 7 ["self", "web"] (zD ad.Desk ad.Web))(C_Desk_ahead:Cmt P w K mg base (CX1 P w) ad.Desk "ahead" 7 ["self"] (sM ad.Desk ad.Web))(C_Desk_ways:Cmt P w K mg base (CX1 P w) ad.Desk "ways" 7 ["self"] (Af ad.Desk ad.Web))
  (C_Desk_nexts:Cmt P w K mg base (CX1 P w) ad.Desk "nexts" 5 ["self"] (sL ad.Desk ad.Web)) (C__law_stir:Cal P w K mg base (CX1 P w) "_law_stir" 1 ["cell", "k"] Aw) (C_Desk_write:Cmt P w K mg base (CX1 P w) ad.Desk "write" 6 ["self", "letter"] (yN ad.Desk ad.Web ad)):bN P w K mg base (CX1 P w) 9 f fd ["web", "cells", "way"] (Nt K ad.Desk ad.Web):=by
 refine F.okN dI (fun vs H Q E h=>?_) (fun cdv A outer s H vs Q E hr h=>?_)
 ·obtain⟨x0,tp0,cb,wy,n,ms,m0,zs,rfl,_⟩:=h
  rfl
 ·obtain⟨x0,tp0,cb,wy,n,ms,m0,zs,rfl,hW,hok,hasc,h0,⟨us,p,hway⟩,hcb,hzl,hwy,q⟩:=h
  have hs:sizeLine=16777216:=sizeLine_eq;have hu:=gg (eA hr);have hso:ms.Pairwise (fun a b=>¬ b<a):=hasc.imp fun h g=>gh _ (qi h g)
  obtain⟨hne,h60,hn,hxs,hnd⟩:=id hok;have hm0l:=(hxs m0 (aq h0)).1;have hmp:=cq.mpr hne;refine⟨_,(aB (aI (i:=3) dI.nd rfl (Or.inl rfl) (Gj C_Desk_init hr aN (aA (pv 0) aC)))
   (aB (aI (i:=4) dI.nd rfl (Or.inl rfl) (dF (aA (lI (aA (dJ C_Desk_ahead hr aN (pv 3)) (aA (dJ C_Desk_ways hr aN (pv 3)) aC))) aC)))
   (aB (cN PassesOwn.never rfl (cG (pv 1)) (bD (i:=5) dI.nd rfl (Or.inl rfl)) (aB (aI (i:=6) dI.nd rfl (Or.inl rfl) (dJ C_Desk_nexts hr aN (pv 3)))
   (aE (bR (aU oJ (aO aX (by rfl) tt.b_len a7 (aA (pv 6) aC)) aH (aY _)) (aB (aI (i:=7) dI.nd rfl (Or.inl rfl) (cK cF (dF (aA aH (aA (aQ fW (aO aX (by rfl) tt.b_len a7 (aA (pv 6) aC)) aH) (aA (aQ dD (aQ gS (aK C__law_stir hr aN (aA (pv 5) (aA aH aC))) aH) (aO aX (by rfl) tt.b_len a7 (aA (pv 6) aC))) aC)))) (pv 2) (fun _ _=>rfl)))
   (aB (eL (Wy C_Desk_write hr aN (pv 3) (aA (cK cF (pv 6) (pv 7) (fun _ _=>rfl)) aC)))
   (aE (eL (vN ed g9 h9 gO (pv 4) (aA (lI (aA (dJ C_Desk_ahead hr aN (pv 3)) (aA (dJ C_Desk_ways hr aN (pv 3)) aC))) aC)))))) aW))))
   (aE (aS (lI (aA (pv 3) (aA (pv 4) aC)))))))),?_⟩
  (try rw[bV]);(try rw[cxK1])
  refine⟨_,rfl,?_⟩;intro y dy ny ndy ney;have s1:aL H (upd (upd H dy (.own y)) y (.ins ad.Desk dy [])):=fun b o e=>by
   rw[aG (aJ e ny),aG (aJ e ndy)];exact e
  refine⟨y,dy,x0,tp0,n,ms,m0,rfl,aD,hW.on s1,hok,hso,h0,⟨us,p,hway⟩,fun x tp H1 b1 hD1=>⟨rfl,?_⟩⟩;have s1:aL H H1:=fun b o e=>b1 b o (aJ e ny) (s1 b o e)
  have hdok:fE ms n m0:=⟨hn.1,by omega,by omega,hne,by omega,fun w hw=>(hxs w hw).1⟩;obtain⟨hst,hlf,ha0,hw0⟩:=Std.first hdok hm0l h0 hasc hway;obtain⟨⟨dy1,hy1⟩,_⟩:=id hD1;refine⟨_,rfl,y,dy1,_,rfl,hy1,cD _ _ (by decide +kernel) (by decide +kernel),y,x,tp,n,ms,m0,m0,rfl,hD1,hdok,h0,hnd,hst.2.2.1,fun H2 s2=>?_⟩;refine⟨_,rfl,y,dy1,_,rfl,s2 y _ hy1,cD _ _ (by decide +kernel) (by decide +kernel),y,x,tp,n,ms,m0,m0,rfl,hD1.on s2,hdok,h0,hnd,fun H3 s3=>?_⟩;rw[show Dt.rk (beg m0) (ms.drop 1) ((Wd.bJ m0 n).drop 1)=fV ms m0 n m0 from rfl,show Dt.eN (aZ ms m0 n) ((cO m0 n).drop 1) (beg m0)=iE ms m0 n m0 from rfl];refine⟨(by show 2<=sizeLine;omega),fun a0 ha=>?_⟩;have t4:=aM (o:=.tup [.int (fV ms m0 n m0:Nat),.int (iE ms m0 n m0:Nat)]) ha;refine⟨(by show 1<=sizeLine;omega),fun S hS=>?_⟩;have t5:=aM (o:=.lst [.ref a0]) hS;have sA:=s2.trans (s3.trans (t4.trans t5));have hHS:H S=none:=iH (s1.trans (s2.trans (s3.trans t4))) hS;have hA0:=t5 a0 _ aD;have hSS:upd (upd H3 a0 (.tup [.int (fV ms m0 n m0:Nat),.int (iE ms m0 n m0:Nat)])) S (.lst [.ref a0]) S=some (.lst ([a0].map V.ref)):=aD;have s0A:=s1.trans sA;have hDA:=hD1.on sA;generalize upd (upd H3 a0 (.tup [.int (fV ms m0 n m0:Nat),.int (iE ms m0 n m0:Nat)])) S (.lst [.ref a0])=HA at sA hA0 hSS s0A hDA;refine⟨_,rfl,cb,rfl,⟨_,s0A.seq hcb⟩,?_⟩;refine eE (K:=K) (a:=cb) (xs:=zs.map V.int) (fun i σ G=>∃ (t:List Nat) (as:List Addr) (ps:List (Nat×Nat)) (v5 v6 v7:Option V),aL H G∧cQ ad.Desk ad.Web G y x tp n ms t∧Std ms t n m0∧(aZ ms t n).length<=ms.length-1-i∧t.length<=n+i∧G S=some (.lst (as.map V.ref))∧Prs G as ps∧as.length<=i+1∧sY wy (Dt.eN (ms.drop 1) (Wd.fin m0) (beg m0)) (fV ms t n m0) (iE ms t n m0) ps∧σ=[some (.ref x0),some (.ref cb),some (.int (wy:Nat)),some (.ref y),some (.ref S),v5,v6,v7])
   ⟨m0,[a0],[(fV ms m0 n m0,iE ms m0 n m0)],none,none,none,s0A,hDA,hst,by rw[hlf,bf];omega,by omega,hSS,⟨rfl,fun i a p h1 h2=>?ini⟩,ah _,⟨by rw[ha0,hw0];rfl,fun p hp=>by rw[ax.mp hp];exact⟨ah _,ah _⟩,fun _=>ha0,fun _=>by rw[ha0,hw0,gj]⟩,rfl⟩ (fun i σ G _ ⟨_,_,_,_,_,_,h,_⟩=>h.seq hcb) ?_ ?_
  case ini =>
   have hi:i=0:=by
    have:=(al.mp h1).1
    rw[ci] at this;omega
   subst hi;cases h1;cases h2;exact hA0
  ·rintro i v σ G hi ⟨t,as,ps,v5,v6,v7,sG,hDG,hstG,hll,htl,hSG,hpr,hal,hseen,rfl⟩
   obtain⟨zc,hzc,rfl⟩:∃ zc,zs[i]?=some zc∧V.int zc=v:=by rw[ag] at hi;exact bj.mp hi
   have hil:=(al.mp hzc).1;obtain⟨⟨dyG,hyG⟩,_⟩:=id hDG;have hokG:=hstG.1;refine⟨_,rfl,y,dyG,_,rfl,hyG,cD _ _ (by decide +kernel) (by decide +kernel),y,x,tp,n,ms,t,rfl,hDG,hokG,fun F0 G1 hF0 s1' hd1=>?_⟩;refine⟨_,rfl,F0,_,rfl,.inl (SqL.of hd1),_,_,rfl,rfl,_,rfl,?_⟩;rw[aR,aR];have hS1:=s1' S _ hSG;by_cases hnx:nxL ms t n=[]
   ·refine itN (by rw[hnx];decide) ?_
    have hlf0:aZ ms t n=[]:=by
     rcases hstG.2.1 with z | z
     ·exact absurd hnx (Sy z)
     ·exact z.1
    exact⟨t,as,ps,_,_,_,sG.trans s1',hDG.on s1',hstG,by rw[hlf0];exact b9 _,by omega,hS1,hpr.to fun a l e=>s1' a _ e,by omega,hseen,rfl⟩
   have hpos:=cq.mpr hnx;refine itP (decide_eq_true (by omega)) ?_;have hso1:eI ms t n m0:=hstG.2.1.resolve_right fun z=>hnx (jk.mpr fun e he=>by
    have:=(tN he).1
    rw[z.1] at this;cases this)
   have hlp:=cq.mpr hso1.2.2.1;have hll2:(((nxL ms t n).map fun l=>[Wd.aV l]).map T).length=(nxL ms t n).length:=by rw[aR,aR]
   have hnl:(nxL ms t n).length<=60:=az (cj ..) (az (cj ..) (az (cj ..) h60));obtain⟨j,e,hje,hat,hj0,hj1⟩:∃ (j:Nat) (e:List Nat),(nxL ms t n)[j]?=some e∧atI [V.int 0,.int (((((nxL ms t n).map fun l=>[Wd.aV l]).map T).length:Nat)-1),.int (mJ zc 13/7 % (((((nxL ms t n).map fun l=>[Wd.aV l]).map T).length:Nat):Int))] ((wy:Nat):Int)=some (V.int (j:Nat))∧(wy=0->j=0)∧(wy=1->j+1=(nxL ms t n).length):=by
    rw[hll2];obtain rfl | rfl | rfl:wy=0∨wy=1∨wy=2:=by omega
    ·exact⟨0,_,ac hpos,bC (j:=0) rfl,fun _=>rfl,fun z=>absurd z (by decide)⟩
    ·refine⟨(nxL ms t n).length-1,_,ac (by omega),?_,fun z=>absurd z (by decide),fun _=>by omega⟩
     rw[show (((nxL ms t n).length-1:Nat):Int)=(((nxL ms t n).length:Nat):Int)-1 by omega];exact bC (j:=1) rfl
    ·have z0:=d0 (mJ zc 13/7) (show (((nxL ms t n).length:Nat):Int)≠0 by omega)
     have z1:=dk (mJ zc 13/7) (show (0:Int)<(((nxL ms t n).length:Nat):Int) by omega);obtain⟨r,hr⟩:∃ r:Nat,mJ zc 13/7 % (((nxL ms t n).length:Nat):Int)=(r:Int):=⟨_,(l9 z0).symm⟩;rw[hr] at z0 z1 ⊢;exact⟨r,_,ac (by omega),bC (j:=2) rfl,fun z=>absurd z (by decide),fun z=>absurd z (by decide)⟩
   have hem:=aq hje;refine⟨_,rfl,F0,_,rfl,.inl (SqL.of hd1),_,_,rfl,rfl,_,rfl,_,_,rfl,⟨by decide,by decide⟩,_,_,rfl,rfl,⟨by decide,by decide⟩,_,rfl,F0,_,rfl,.inl (SqL.of hd1),_,_,rfl,rfl,(by rw[hll2];omega),(by show 3<=sizeLine;omega),fun L3 hL3=>?_⟩;have t3:=aM (o:=.lst [V.int 0,.int (((((nxL ms t n).map fun l=>[Wd.aV l]).map T).length:Nat)-1),.int (mJ zc 13/7 % (((((nxL ms t n).map fun l=>[Wd.aV l]).map T).length:Nat):Int))]) hL3;refine⟨_,rfl,L3,_,_,_,rfl,rfl,SqL.of aD,hat,?_⟩;have s2':=s1'.trans t3;generalize upd G1 L3 (.lst [V.int 0,.int (((((nxL ms t n).map fun l=>[Wd.aV l]).map T).length:Nat)-1),.int (mJ zc 13/7 % (((((nxL ms t n).map fun l=>[Wd.aV l]).map T).length:Nat):Int))])=G2 at t3 s2';have hD2:=hDG.on s2';refine⟨_,rfl,y,dyG,_,rfl,s2' y _ hyG,cD _ _ (by decide +kernel) (by decide +kernel),_,rfl,_,rfl,F0,_,_,_,rfl,rfl,SqL.of (t3 F0 _ hd1),bC (by rw[ag,ag,hje];rfl),y,x,tp,n,ms,t,[Wd.aV e],rfl,hD2,hokG,(by show 1<=1000;decide),fun z=>absurd (gb (f:=fun l=>[Wd.aV l]) hem) z,fun _ G3 b3 hD3=>?_⟩;obtain⟨hst3,hl3,hn1,hn2,hn3,hn4⟩:=hstG.go hso1 (by omega) hje;have hSy:S≠y:=fun z=>by rw[z,hyG] at hSG;cases hSG
   have hS3:=b3 S _ hSy (s2' S _ hSG);have hpr3:Prs G3 as ps:=(hpr.to fun a l e=>s2' a _ e).to fun a l e=>b3 a _ (fun z=>by rw[z,s2' y _ hyG] at e;cases e) e
   have sG3:aL H G3:=fun b o e=>b3 b o (aJ e ny) ((sG.trans s2') b o e)
   obtain⟨⟨dy3,hy3⟩,_⟩:=id hD3;refine⟨_,rfl,.inl ⟨rfl,_,SqL.of hS3⟩,_,rfl,y,dy3,_,rfl,hy3,cD _ _ (by decide +kernel) (by decide +kernel),y,x,tp,n,ms,t++[Wd.aV e],m0,rfl,hD3,hst3.1,h0,hnd,hst3.2.2.1,fun G4 s4=>?_⟩;refine⟨_,rfl,y,dy3,_,rfl,s4 y _ hy3,cD _ _ (by decide +kernel) (by decide +kernel),y,x,tp,n,ms,t++[Wd.aV e],m0,rfl,hD3.on s4,hst3.1,h0,hnd,fun G5 s5=>?_⟩;rw[show Dt.rk (beg m0) (ms.drop 1) ((Wd.bJ (t++[Wd.aV e]) n).drop 1)=fV ms (t++[Wd.aV e]) n m0 from rfl,show Dt.eN (aZ ms (t++[Wd.aV e]) n) ((cO (t++[Wd.aV e]) n).drop 1) (beg m0)=iE ms (t++[Wd.aV e]) n m0 from rfl];refine⟨(by show 2<=sizeLine;omega),fun a6 ha6=>?_⟩;have t6:=aM (o:=.tup [.int (fV ms (t++[Wd.aV e]) n m0:Nat),.int (iE ms (t++[Wd.aV e]) n m0:Nat)]) ha6;have hA6:upd G5 a6 (.tup [.int (fV ms (t++[Wd.aV e]) n m0:Nat),.int (iE ms (t++[Wd.aV e]) n m0:Nat)]) a6=some (.tup [.int (fV ms (t++[Wd.aV e]) n m0:Nat),.int (iE ms (t++[Wd.aV e]) n m0:Nat)]):=aD;have s36:=s4.trans (s5.trans t6);generalize upd G5 a6 (.tup [.int (fV ms (t++[Wd.aV e]) n m0:Nat),.int (iE ms (t++[Wd.aV e]) n m0:Nat)])=G6 at t6 hA6 s36;have hS6:=s36 S _ hS3;refine⟨S,_,_,rfl,rfl,hS6,(by rw[aR];omega),?_⟩;have htp:∀ (a:Addr) (l:List V),G6 a=some (.tup l)->upd G6 S (.lst (as.map V.ref++[V.ref a6])) a=some (.tup l):=fun a l e=>by rw[aG (fun z=>by rw[z,hS6] at e;cases e)];exact e
   refine⟨t++[Wd.aV e],as++[a6],ps++[(fV ms (t++[Wd.aV e]) n m0,iE ms (t++[Wd.aV e]) n m0)],_,_,_,fun b o e0=>by rw[aG (aJ e0 hHS)];exact (sG3.trans s36) b o e0,(hD3.on s36).putL hS6,hst3,by omega,by rw[ai];show t.length+1<=_;omega,by rw[aD,bh];rfl,((hpr3.to fun a l e=>s36 a _ e).snoc hA6).to htp,by rw[ai];show as.length+1<=_;omega,hseen.snoc hn1 hn2 (fun z=>hn3 (hj0 z)) (fun z=>hn4 (hj1 z)),rfl⟩
  ·rintro σ G ⟨t,as,ps,v5,v6,v7,sG,hDG,hstG,hll,htl,hSG,hpr,hal,hseen,rfl⟩
   rw[aR] at hll hal;have hlf0:aZ ms t n=[]:=a8.mp (by omega);refine⟨_,rfl,_,rfl,(by show 2<=sizeLine;omega),fun pr hp=>?_⟩;have t9:=aM (o:=.tup [.ref y,.ref S]) hp;exact q pr y x tp S t as ps _ (sG.trans t9) aD (hDG.on t9) hstG hlf0 (t9 S _ hSG) (hpr.to fun a l e=>t9 a _ e) (by omega) hseen
def Id (K:af):Sp:=fun vs H Q _=>∃ (a:Addr) (ns:List Int),vs=[.ref a]∧SqL K H a (ns.map V.int)∧ns.length<=63∧∀ H',Q (.bl true) H'
theorem Vm {us:List (List Nat)}{kn nn:Nat}(hp:kn ^ nn<=30)(hn:us.Nodup)(hm:∀ x∈us,x∈Wd.dO kn nn):us.length<=30:=by
 have:=hn.length_le_of_subset hm
 rw[Wd.lQ] at this;omega
theorem Wk {us:List (List Nat)}{kn nn:Nat}(hz:Mv nn kn)(hne:us≠[])(ha:us.Pairwise (· < ·))(hm:∀ x∈us,x∈Wd.dO kn nn):jS us nn∧us.length<=30:=by
 have hnd:us.Nodup:=ha.imp fun z e=>absurd (e▸z) (gh _)
 have hl:=Vm hz.2.2.2 hnd hm;refine⟨⟨hne,by omega,⟨⟨hz.2.1,hz.2.2.1⟩,Oq.len (by omega)⟩,fun x hx=>?_,hnd⟩,hl⟩;obtain⟨h1,h2⟩:=(Wd.oN (by have:=hz.1;omega)).mp (hm x hx);exact⟨h1,fun c hc=>by have:=h2 c hc;have:=hz.1;omega⟩
theorem Wc {f:Addr}{fd:FuncData}(F:Fun K "law" "law" oK f fd)(tt:Txt K mg ad)(C__law_size:Cal P w K mg base (CX1 P w) "_law_size" 1 ["n"] Gz)(C__law_even_words:Cal P w K mg base (CX1 P w) "_law_even_words" 3 ["script", "n", "length", "kinds"] (Gx K))(C_Web_init:Cam P w K mg base (CX1 P w) "Web" ad.Web 5 ["self", "words"] (zJ K ad.Web))(C_why_no_ring:Cal P w K mg base (CX1 P w) "why_no_ring" 5 ["web"] (Fk ad.Web))
  (C_ring_count:Cal P w K mg base (CX1 P w) "ring_count" 6 ["web"] (yO ad.Web)) (C__law_folded:Cal P w K mg base (CX1 P w) "_law_folded" 1 ["script", "many"] (tW K)) (C__law_written:Cal P w K mg base (CX1 P w) "_law_written" 9 ["web", "cells", "way"] (Nt K ad.Desk ad.Web)) (C_Desk_done:Cmt P w K mg base (CX1 P w) ad.Desk "done" 5 ["self"] (Gk ad.Desk ad.Web)) (C_is_ring:Cal P w K mg base (CX1 P w) "is_ring" 4 ["web", "text"] (uG ad.Web))
  (C_Desk_ahead:Cmt P w K mg base (CX1 P w) ad.Desk "ahead" 7 ["self"] (sM ad.Desk ad.Web)) (C_ring_number:Cal P w K mg base (CX1 P w) "ring_number" 7 ["web", "ring"] (Iy ad.Web ad)) (C_ring_by:Cal P w K mg base (CX1 P w) "ring_by" 7 ["web", "number"] (Dq ad.Web ad)):bN P w K mg base (CX1 P w) 10 f fd ["script"] (Id K):=by
 refine F.okN fK (fun vs H Q E h=>?_) (fun cdv A outer s H vs Q E hr h=>?_)
 ·obtain⟨a,ns,rfl,_⟩:=h
  rfl
 ·obtain⟨a,ns,rfl,hS,hlen,q⟩:=h
  have hs:sizeLine=16777216:=sizeLine_eq;have hu:=gg (eA hr);refine⟨_,(aB (aI (i:=1) fK.nd rfl (Or.inl rfl) (aQ dD (aQ kG (aO (xP rfl) (by rfl) tt.b_sum pe (aA (pv 0) aC)) aH) aH))
   (aB (Gd (aK C__law_size hr aN (aA (aQ gS (pv 1) aH) aC)) (vD rfl (fG (bD (i:=2) fK.nd rfl (Or.inl rfl)) (fG (bD (i:=3) fK.nd rfl (Or.inl rfl)) oG))))
   (aB (aI (i:=4) fK.nd rfl (Or.inl rfl) (aK C__law_even_words hr aN (aA (pv 0) (aA (pv 1) (aA (pv 2) (aA (pv 3) aC))))))
   (aB (aI (i:=5) fK.nd rfl (Or.inl rfl) (Gj C_Web_init hr aN (aA (pv 4) aC)))
   (aB (bR (jF (Hm (aK C_why_no_ring hr aN (aA (pv 5) aC)))) (aE (aS (nR iD (aK C_ring_count hr aN (aA (pv 5) aC)) aH (aY _)))) aW)
   (aB (aI (i:=6) fK.nd rfl (Or.inl rfl) (aK C_ring_count hr aN (aA (pv 5) aC)))
   (aB (aI (i:=7) fK.nd rfl (Or.inl rfl) (aK C__law_folded hr aN (aA (pv 0) (aA (aO aX (by rfl) tt.b_len a7 (aA (pv 4) aC)) aC))))
   (aB (cN PassesOwn.never rfl (fA (by rfl) tt.b_range (aA aH aC)) (bD (i:=8) fK.nd rfl (Or.inl rfl)) (aB (Gd (aK C__law_written hr aN (aA (pv 5) (aA (pv 7) (aA (pv 8) aC)))) (vD rfl (fG (bD (i:=9) fK.nd rfl (Or.inl rfl)) (fG (bD (i:=10) fK.nd rfl (Or.inl rfl)) oG))))
   (aB (aI (i:=11) fK.nd rfl (Or.inl rfl) (dJ C_Desk_done hr aN (pv 9)))
   (aB (bR (PW.pt (qX (jF (No (pv 11))) (nA (zL (qH (aK C_is_ring hr aN (aA (pv 5) (aA (pv 11) aC)))))))) (aE (aS gZ)) aW)
   (aB (aI (i:=12) fK.nd rfl (Or.inl rfl) (dJ C_Desk_ahead hr aN (pv 9)))
   (aB (bR (PW.pt (qX (aU (Mi hu) (cK cF (pv 10) aH (fun _ _=>rfl)) (lI (aA aH (aA (pv 6) aC))) (aY _)) (qX (aU iC (aK C_ring_number hr aN (aA (pv 5) (aA (pv 11) aC))) (pv 12) (aY _)) (nA (aU Hh (aK C_ring_by hr aN (aA (pv 5) (aA (pv 12) aC))) (pv 11) (aY _)))))) (aE (aS gZ)) aW)
   (aB (bR (PW.pt (Vl (aU oP (pv 8) aH (aY _)) (Rk (aU iC (pv 12) (cK cF (dF (aA aH (aA (aQ fW (pv 6) aH) aC))) (pv 8) (fun _ _=>rfl)) (aY _))))) (aE (aS gZ)) aW)
   (aE (cN PassesOwn.never rfl (cG (pv 10)) (vD rfl (fG (bD (i:=13) fK.nd rfl (Or.inl rfl)) (fG (bD (i:=14) fK.nd rfl (Or.inl rfl)) oG))) (aE (bR (zL (Mc Th oP (pv 13) (pv 12) (aQ eC (pv 13) (pv 14)))) (aE (aS gZ)) aW)))))))))))
   (aE (aS gZ)))))))))),?_⟩
  (try rw[bV]);(try rw[cxK1])
  refine⟨_,rfl,a,ns,rfl,hS,_,_,rfl,rfl,.inr ⟨by decide,by decide⟩,_,_,rfl,rfl,(by show (0:Int)<2147483647;decide),?_⟩
  dsimp only
  generalize ns.sum*69621 % 2147483647=z;refine⟨_,rfl,_,_,rfl,rfl,⟨by decide,by decide⟩,_,rfl,fun tq nn kn H1 s1 htq hz=>?_⟩;refine⟨tq,_,rfl,SqT.of htq,rfl,_,_,rfl,_,_,rfl,rfl,?_⟩;have hz64:kn ^ nn<64:=by have:=hz.2.2.2;omega
  refine⟨_,rfl,_,rfl,_,rfl,_,rfl,a,ns,z,nn,kn,rfl,s1.seq hS,hlen,⟨hz.1,hz.2.1,hz.2.2.1,hz64⟩,fun D us H2 s2 hd2 hne hasc hall=>?_⟩;obtain⟨hok,h30⟩:=Wk hz hne hasc hall;have hus0:us.Pairwise (fun a b=>¬ b<a):=hasc.imp fun h g=>gh _ (qi h g)
  have hnd:=hok.2.2.2.2;refine⟨_,rfl,?_⟩;intro x0 dx0 nx ndx nex;have s3:aL H2 (upd (upd H2 dx0 (.own x0)) x0 (.ins ad.Web dx0 [])):=fun b o e=>by
   rw[aG (aJ e nx),aG (aJ e ndx)];exact e
  refine⟨x0,dx0,D,us,nn,rfl,aD,.inl (s3.seq hd2),hok,fun tp0 ms H3 hp2 hw2 k2 hx2 ht2=>⟨rfl,?_⟩⟩;obtain rfl:ms=us:=Wd.gW hp2 hw2 hus0;have s3:aL H2 H3:=fun b o e=>k2 b o (s3 b o e) (aJ e nx)
  have hW3:gX ad.Web H3 x0 tp0 nn ms:=⟨⟨dx0,hx2⟩,ht2⟩;obtain⟨m0,h0⟩:∃ m0,ms[0]?=some m0:=⟨_,ac (cq.mpr hne)⟩;have hm0:=aq h0;have hm0l:=(hok.2.2.2.1 m0 hm0).1;have hn:=hok.2.2.1.1;refine⟨_,rfl,x0,tp0,nn,ms,rfl,hW3,hok,fun ev r v H4 hpc hwy hv s4=>?_⟩;have s34:=s3.trans s4;obtain⟨hm00,hdr⟩:=sP hnd h0;obtain⟨pr,rfl⟩ | rfl:(∃ pr,r=some pr)∨r=none:=by
   cases r with
   | none=>exact .inr rfl
   | some pr=>exact .inl ⟨pr,rfl⟩
  ·obtain⟨kd,so⟩:=pr
   obtain⟨pp,bb,rfl,_,_⟩:=hv;refine⟨_,rfl,zF ?_⟩;refine⟨_,rfl,x0,tp0,nn,ms,m0,rfl,hW3.on s4,hok,h0,fun H5 s5=>?_⟩;refine⟨_,rfl,_,rfl,?_⟩;have hz:Dt.eN (Dt.rm ms m0) (Wd.fin m0) (Wd.beg m0)=0:=by
    apply bc;intro hc;obtain⟨us,hus⟩:∃ us,(Dt.jE (Dt.rm ms m0).length (Dt.rm ms m0) (Wd.fin m0) (Wd.beg m0))[0]?=some us:=⟨_,ac (kx hc)⟩;obtain⟨hu1,hu2⟩:=Dt.uF (Dt.gE hnd) hus;have hpm:(m0::us).Perm ms:=(hu1.cons m0).trans (Dt.gA hnd hm0).symm
    have:=wX (show Tr (beg m0) (m0::us) (beg m0) from ⟨rfl,hu2⟩) hpm.symm hpc hwy
    cases this
   rw[hz];exact q _
  obtain rfl:v = .non:=hv;refine⟨_,rfl,pD ?_⟩;obtain⟨vs,pz,hway⟩:=Pu hpc hwy;refine⟨_,rfl,x0,tp0,nn,ms,m0,rfl,hW3.on s4,hok,h0,fun H5 s5=>?_⟩;have s35:=s4.trans s5;have s25:=s3.trans s35;have hlm:(ms.map T).length=ms.length:=aR ..;have hml:1<=ms.length:=cq.mpr hne;have s15:aL H H5:=s1.trans (s2.trans s25);refine⟨_,rfl,_,rfl,D,_,rfl,.inl (s25.seq hd2),a,ns,_,rfl,s15.seq hS,⟨hlen,by rw[hlm];omega,by rw[hlm];omega⟩,fun C zs H7 s7 hdC hzl=>?_⟩;rw[hlm] at hzl;have hW7:=hW3.on (s35.trans s7);refine⟨_,rfl,by decide,by decide,?_⟩;refine fP (fun k σ G=>aL H7 G∧∃ v8 v9 v10 v11 v12 v13 v14:Option V,σ=[some (.ref a),some (.int z),some (.int (nn:Nat)),some (.int (kn:Nat)),some (.ref D),some (.ref x0),some (.int (Dt.eN (Dt.rm ms m0) (Wd.fin m0) (Wd.beg m0):Nat)),some (.ref C),v8,v9,v10,v11,v12,v13,v14])
   ⟨aL.refl _,none,none,none,none,none,none,none,rfl⟩ ?_ ?_
  ·rintro k σ G hk ⟨sG,v8,v9,v10,v11,v12,v13,v14,rfl⟩
   have hk3:k<3:=hk;refine⟨_,rfl,_,rfl,_,rfl,x0,tp0,C,k,nn,ms,m0,zs,(by rw[gx];rfl),hW7.on sG,hok,hasc,h0,⟨vs,pz,hway⟩,SqL.of (sG C _ hdC),hzl,hk3,fun pr y x tp S t as ps G1 s1' hpr hD1 hst hlf hSS hps hal hseen=>?_⟩;refine⟨pr,_,rfl,SqT.of hpr,rfl,_,_,rfl,_,_,rfl,rfl,?_⟩;obtain⟨us,hus,hperm,htr,htk,haN,hwN,htl⟩:=hst.ring hnd h0 hlf;obtain⟨⟨dy1,hy1⟩,_⟩:=id hD1;have hokD:=hst.1;refine⟨_,rfl,y,dy1,_,rfl,hy1,cD _ _ (by decide +kernel) (by decide +kernel),y,x,tp,nn,ms,t,rfl,hD1,hokD,fun G2 s2'=>⟨fun z=>absurd hlf z,fun _=>?_⟩⟩;rw[show iG t none (some ((ms.length:Nat):Int))=t.take ms.length from zP (by omega),htk];refine⟨_,rfl,_,rfl,pD ?_⟩;have sG2:=sG.trans (s1'.trans s2');have hfull:∀ w∈m0::us,w.length=nn:=fun w hw=>by
    rcases aw.mp hw with z | z
    ·rw[z];exact hm0l
    ·exact (hok.2.2.2.1 w (kf (hperm.mem_iff.mp z))).1
   have htt:Hg.Tr Wd.beg Wd.fin (Wd.beg m0) (m0::us) (Wd.beg m0):=⟨rfl,htr⟩;have hwin:=Dt.Wl hn.1 hfull htt;have hrl:=Dt.Wf hn.1 hfull;have hul:=hperm.length_eq;rw[bf] at hul;have hperm2:us.Perm (Dt.rm ms m0):=by rw[<- hdr];exact hperm
   have hpm:(m0::us).Perm ms:=(hperm2.cons m0).trans (Dt.gA hnd hm0).symm;have hat0:Wd.bA (Dt.rT m0 us) nn 0=m0:=by
    have h1:(Wd.cJ (Dt.rT m0 us) nn)[0]?=some (Wd.bA (Dt.rT m0 us) nn 0):=Wd.pP (by omega);rw[hwin] at h1;exact (ay h1).symm
   have hRO:uJ (Dt.rT m0 us) nn ms:=by show (Wd.cJ _ nn).Perm ms;rw[hwin];exact hpm
   refine⟨_,rfl,_,rfl,x0,tp0,Dt.rT m0 us,m0,nn,ms,rfl,hW7.on sG2,hw2,⟨by omega,by omega,by omega⟩,h0,fun b G3 s3' hb=>⟨_,rfl,?_⟩⟩;obtain rfl:b=true:=hb.mpr ⟨hRO,hat0⟩;refine pD ?_;have sD3:=s2'.trans s3';refine⟨_,rfl,y,dy1,_,rfl,sD3 y _ hy1,cD _ _ (by decide +kernel) (by decide +kernel),y,x,tp,nn,ms,t,m0,rfl,hD1.on sD3,hokD,h0,hnd,hst.2.2.1,fun G4 s4'=>?_⟩;rw[show Dt.rk (beg m0) (ms.drop 1) ((Wd.bJ t nn).drop 1)=fV ms t nn m0 from rfl,haN,hdr];rw[haN,hdr,hwN] at hseen;have sD4:=sD3.trans s4';have hps4:=hps.to fun a l e=>sD4 a _ e
   have hSS4:=sD4 S _ hSS;have hrs:(Dt.rm ms m0).Pairwise (fun a b=>¬ b<a):=hw2.filter _;have hrn:=Dt.gE (w:=m0) hnd;have hrkl:=Dt.Yz hrn hrs hperm2 htr;have hrkg:=Dt.Ei rfl hrn hrs hperm2 htr;obtain⟨a0,ha0⟩:∃ a0,as[0]?=some a0:=⟨_,ac (by rw[hps.1];exact (al.mp hseen.1).1)⟩;have hA0:=hps4.2 0 a0 _ ha0 hseen.1;refine⟨_,rfl,S,_,_,_,rfl,rfl,SqL.of hSS4,bC (j:=0) (by rw[ag,ha0];rfl),_,rfl,(by show 2<=sizeLine;omega),fun p6 hp6=>?_⟩;have t6:=aM (o:=.tup [.int 0,.int (Dt.eN (Dt.rm ms m0) (Wd.fin m0) (Wd.beg m0):Nat)]) hp6;refine⟨a0,p6,[0,(Dt.eN (Dt.rm ms m0) (Wd.fin m0) (Wd.beg m0):Nat)],rfl,rfl,SqT.of (t6 a0 _ hA0),SqT.of aD,_,rfl,?_⟩;refine pD ?_;have sG6:=sG2.trans (s3'.trans (s4'.trans t6));have hSS6:=t6 S _ hSS4;have hps6:=hps4.to fun a l e=>t6 a _ e
   generalize upd G4 p6 (.tup [.int 0,.int (Dt.eN (Dt.rm ms m0) (Wd.fin m0) (Wd.beg m0):Nat)])=G6 at t6 sG6 hSS6 hps6;refine⟨_,rfl,_,rfl,x0,tp0,nn,ms,m0,Dt.rT m0 us,rfl,hW7.on sG6,hok,hw2,by omega,h0,fun z=>absurd ⟨hRO,hat0⟩ z,fun us3 _ hus3 G7 s7'=>?_⟩;obtain rfl:us=us3:=by rw[hwin] at hus3;exact (qh hus3).2
   refine⟨_,rfl,_,rfl,_,rfl,_,rfl,?_⟩;refine itN (by rw[show decide (((Dt.rk (Wd.beg m0) (Dt.rm ms m0) us:Nat):Int)=((Dt.rk (beg m0) (Dt.rm ms m0) us:Nat):Int))=true from decide_eq_true rfl];exact aj) ?_;have sG7:=sG6.trans s7';refine⟨_,rfl,_,rfl,x0,tp0,nn,ms,m0,_,rfl,hW7.on sG7,hok,h0,fun z=>absurd ⟨by omega,by show ((Dt.rk (beg m0) (Dt.rm ms m0) us:Nat):Int)<_;have:Dt.rk (beg m0) (Dt.rm ms m0) us<Dt.eN (Dt.rm ms m0) (Wd.fin m0) (Wd.beg m0):=hrkl;omega⟩ z,fun j2 us2 e2 hus2 G8 s8=>?_⟩;obtain rfl:Dt.rk (beg m0) (Dt.rm ms m0) us=j2:=by omega
   obtain rfl:us2=us:=by rw[show (Dt.jE (Dt.rm ms m0).length (Dt.rm ms m0) (Wd.fin m0) (Wd.beg m0))[Dt.rk (beg m0) (Dt.rm ms m0) us]?=some us from hrkg] at hus2;exact (ay hus2).symm
   refine⟨_,rfl,_,rfl,_,rfl,_,rfl,?_⟩;refine itN (by rw[decide_eq_true rfl];exact aj) ?_;have sG8:=sG7.trans s8;have hSS8:=(s7'.trans s8) S _ hSS6;have hps8:=hps6.to fun a l e=>(s7'.trans s8) a _ e
   obtain⟨hse1,hse2,hse3,hse4⟩:=hseen;refine⟨_,rfl,_,_,rfl,rfl,_,rfl,?_⟩;by_cases hk2:k<2;refine itP (decide_eq_true (by omega)) ?_;refine⟨_,rfl,_,rfl,_,_,rfl,rfl,(by show 2<=sizeLine;omega),fun L9 hL9=>?_⟩;have s9:=aM (o:=.lst [V.int 0,.int (((Dt.eN (Dt.rm ms m0) (Wd.fin m0) (Wd.beg m0):Nat):Int)-1)]) hL9;refine⟨_,rfl,L9,_,_,V.int (Dt.rk (beg m0) (Dt.rm ms m0) us2:Nat),rfl,rfl,SqL.of aD,?atw,_,rfl,_,rfl,_,rfl,?_⟩
   case atw =>
    rw[gx];obtain rfl | rfl:k=0∨k=1:=by omega
    ·rw[hse3 rfl]
     exact bC (j:=0) rfl
    ·have h1:=hse4 rfl
     have h1:Dt.rk (beg m0) (Dt.rm ms m0) us2+1=Dt.eN (Dt.rm ms m0) (Wd.fin m0) (Wd.beg m0):=h1;rw[show ((Dt.rk (beg m0) (Dt.rm ms m0) us2:Nat):Int)=((Dt.eN (Dt.rm ms m0) (Wd.fin m0) (Wd.beg m0):Nat):Int)-1 by omega];exact bC (j:=1) rfl
   refine itN (by rw[decide_eq_true rfl];exact aj) ?_;generalize upd G8 L9 (.lst [V.int 0,.int (((Dt.eN (Dt.rm ms m0) (Wd.fin m0) (Wd.beg m0):Nat):Int)-1)])=G9 at s9 ⊢
   rotate_left
   refine itN (fun z=>hk2 (by have:=of_decide_eq_true z;omega)) ?_;refine pD ?_;obtain⟨G9,s9,hG9⟩:∃ G9,aL G8 G9∧G8=G9:=⟨G8,aL.refl _,rfl⟩;rw[hG9]
   all_goals
    have hSS9:=s9 S _ hSS8;have hps9:=hps8.to fun a l e=>s9 a _ e
    refine⟨_,rfl,S,rfl,⟨_,SqL.of hSS9⟩,?_⟩;refine eE (K:=K) (a:=S) (xs:=as.map V.ref) (fun i σ G'=>aL G9 G'∧∃ v13 v14:Option V,σ=[some (.ref a),some (.int z),some (.int (nn:Nat)),some (.int (kn:Nat)),some (.ref D),some (.ref x0),some (.int (Dt.eN (Dt.rm ms m0) (Wd.fin m0) (Wd.beg m0):Nat)),some (.ref C),some (.int (0+((k:Nat):Int))),some (.ref y),some (.ref S),some (T (Dt.rT m0 us2)),some (.int (Dt.rk (beg m0) (Dt.rm ms m0) us2:Nat)),v13,v14])
     ⟨aL.refl _,_,_,rfl⟩ (fun i σ G' _ h=>SqL.of (h.1 S _ hSS9)) ?_ ?_
    ·rintro i v σ G' hi ⟨sG',v13,v14,rfl⟩
     obtain⟨aa,haa,rfl⟩:∃ aa,as[i]?=some aa∧V.ref aa=v:=by rw[ag] at hi;exact bj.mp hi
     obtain⟨p,hp,hA⟩:=hps9.mem (aq haa);have hpb:=hse2 p hp;refine⟨aa,_,rfl,SqT.of (sG' aa _ hA),rfl,_,_,rfl,_,_,rfl,rfl,?_⟩;refine⟨_,rfl,_,rfl,_,_,rfl,rfl,_,rfl,?_⟩;refine itP (decide_eq_true (by omega)) ?_;refine⟨_,rfl,_,rfl,_,_,rfl,rfl,_,_,rfl,rfl,_,rfl,?_⟩;refine itN (by rw[decide_eq_true (by omega)];exact aj) ?_;exact⟨sG',_,_,rfl⟩
    ·rintro σ G' ⟨sG',v13,v14,rfl⟩
     exact⟨sG8.trans (s9.trans sG'),_,_,_,_,_,_,_,rfl⟩
  ·rintro σ G ⟨sG,v8,v9,v10,v11,v12,v13,v14,rfl⟩
   exact q _
end
def HF (K:af)(f:Addr)(nm:Str)(st:Stmt):Prop:=∃ (oc:Value) (od:Option Addr) (kV dc pm:Value) (an:Option Addr) (cd ct:Value) (sl:Array (Option Value)),cm K mainGlobals nm=some (some (.ref f))∧K.lookup f=some ⟨oc,od,.func (dg nm nm (cS st) (cH st) (aF st) .none kV dc pm an cd ct),sl⟩∧dh K cd nm=true∧cr K (.ref f)=true
theorem HF.go {K:af}{f:Addr}{nm:Str}{st:Stmt}(h:HF K f nm st):∃ fd,Fun K nm nm st f fd∧cm K mainGlobals nm=some (some (.ref f)):=by
 obtain⟨oc,od,kV,dc,pm,an,cd,ct,sl,a,l,c,k⟩:=h;exact⟨_,gC (st:=st) l c k,a⟩
theorem hf_mk {K:af}{f:Addr}{nm:Str}{st:Stmt}{oc:Value}{od:Option Addr}{kV dc pm:Value}{an:Option Addr}{cd ct:Value}{sl:Array (Option Value)}(a:cm K mainGlobals nm=some (some (.ref f)))(l:K.lookup f=some ⟨oc,od,.func (dg nm nm (cS st) (cH st) (aF st) .none kV dc pm an cd ct),sl⟩)(c:dh K cd nm=true)(k:cr K (.ref f)=true):HF K f nm st:=⟨oc,od,kV,dc,pm,an,cd,ct,sl,a,l,c,k⟩
theorem mkC (P:Program)(w:World){K:af}{mg:Str->Option Value}{h:Heap}(base:Heap)(X:K.In h)(G:h.Ns mainGlobals mg){nm:Str}{st:Stmt}{f:Addr}{fd:FuncData}{k:Nat}{ps:List Str}{sp:Sp}(a:cm K mainGlobals nm=some (some (.ref f)))(F:Fun K nm nm st f fd)(ok:bN P w K mg base (CX1 P w) k f fd ps sp)(b:jQ K fd ps []):Cal P w K mg base (CX1 P w) nm k ps sp:=⟨⟨_,_,ok,cu X G a,F.kp,b⟩⟩
theorem all_mk {l:ou}{w:World}{K:af}{h:Heap}{mg:Str->Option Value}{fa:Addr}(X:K.In h)(G:h.Ns mainGlobals mg)(hfa:mg "law" = some (.ref fa))
  {f_0 f_1 f_2 f_3 f_4 f_5 f_6 f_7 f_8 f_9 f_10 f_11 f_12 f_13 f_14:Addr}
  {f_15:Addr} {od_15 an_15:Option Addr} {sl_15:Array (Option Value)} {oc_15 kV_15 dc_15 pm_15 cd_15 ct_15:Value}
  {f_16 f_17 f_18 f_19 f_20 f_21 f_22 f_23 f_24 f_25 f_26 f_27 f_28 f_29 f_30 f_31 f_32 f_33 f_34 f_35 f_36 f_37 f_38:Addr}
  {f_39:Addr} {od_39 an_39:Option Addr} {sl_39:Array (Option Value)} {oc_39 kV_39 dc_39 pm_39 cd_39 ct_39:Value}
  {f_40:Addr} {od_40 an_40:Option Addr} {sl_40:Array (Option Value)} {oc_40 kV_40 dc_40 pm_40 cd_40 ct_40:Value}
  {f_41:Addr} {od_41 an_41:Option Addr} {sl_41:Array (Option Value)} {oc_41 kV_41 dc_41 pm_41 cd_41 ct_41:Value}
  {f_42:Addr} {od_42 an_42:Option Addr} {sl_42:Array (Option Value)} {oc_42 kV_42 dc_42 pm_42 cd_42 ct_42:Value}
  {f_43:Addr} {od_43 an_43:Option Addr} {sl_43:Array (Option Value)} {oc_43 kV_43 dc_43 pm_43 cd_43 ct_43:Value}
  {f_44:Addr} {od_44 an_44:Option Addr} {sl_44:Array (Option Value)} {oc_44 kV_44 dc_44 pm_44 cd_44 ct_44:Value}
  {f_45:Addr} {od_45 an_45:Option Addr} {sl_45:Array (Option Value)} {oc_45 kV_45 dc_45 pm_45 cd_45 ct_45:Value}
  {f_46:Addr} {od_46 an_46:Option Addr} {sl_46:Array (Option Value)} {oc_46 kV_46 dc_46 pm_46 cd_46 ct_46:Value}
  {f_47:Addr} {od_47 an_47:Option Addr} {sl_47:Array (Option Value)} {oc_47 kV_47 dc_47 pm_47 cd_47 ct_47:Value}
  {f_48:Addr} {od_48 an_48:Option Addr} {sl_48:Array (Option Value)} {oc_48 kV_48 dc_48 pm_48 cd_48 ct_48:Value}
  {f_49:Addr} {od_49 an_49:Option Addr} {sl_49:Array (Option Value)} {oc_49 kV_49 dc_49 pm_49 cd_49 ct_49:Value}
  {f_50 f_51 f_52 f_53 f_54 f_55 f_56 f_57 f_58:Addr}
  {f_59:Addr} {od_59 an_59:Option Addr} {sl_59:Array (Option Value)} {oc_59 kV_59 dc_59 pm_59 cd_59 ct_59:Value}
  {c_BadKinds:Addr}
  {c_BadWord:Addr}
  {c_TooMany:Addr}
  {c_NoSuch:Addr}
  {c_NotOne:Addr}
  {c_BadDeed:Addr}
  {c_Web:Addr}
  {c_Desk:Addr}
  {c_KNOWN_TIMES:Addr}
  {u_FIRST_PRIME:Value}
  {u_STEP:Value}
  {u_LETTERS:Value}
  {u_LONGEST:Value}
  {u_MOST_OF_A_WEB:Value}
  {u_LONGEST_OF_A_WEB:Value}
  (h_0:HF K f_0 "further_times" hV)
  (h_1:HF K f_1 "inverse" qT)
  (h_2:HF K f_2 "lowered" mD)
  (h_3:HF K f_3 "first_other_than_nought" dE)
  (h_4:HF K f_4 "determinant_rest" cL)
  (h_5:HF K f_5 "greatest_of" gR)
  (h_6:HF K f_6 "determinant" jL)
  (h_7:HF K f_7 "looked_kinds" iK)
  (h_8:HF K f_8 "looked_length" hU)
  (h_9:HF K f_9 "letters" pX)
  (h_10:HF K f_10 "looked" tZ)
  (h_11:HF K f_11 "row_windows" gT)
  (h_12:HF K f_12 "ring_windows" fY)
  (h_13:HF K f_13 "windows" qJ)
  (h_14:HF K f_14 "looked_web" kP)
  (a_15:cg K (.ref c_Web) "__init__" = some (some (.ref f_15))) (l_15:K.lookup f_15=some ⟨oc_15,od_15,.func (dg "__init__" "Web.__init__" (cS gL) (cH gL) (aF gL) .none kV_15 dc_15 pm_15 an_15 cd_15 ct_15),sl_15⟩) (c_15:dh K cd_15 "Web.__init__" = true) (k_15:cr K (.ref f_15)=true) (i_Web_init:fg K (.ref f_15)=true)
  (h_16:HF K f_16 "begin_of" mX)
  (h_17:HF K f_17 "end_of" vO)
  (h_18:HF K f_18 "pieces" kY)
  (h_19:HF K f_19 "excess" lP)
  (h_20:HF K f_20 "hanging_by" kC)
  (h_21:HF K f_21 "hanging" pY)
  (h_22:HF K f_22 "why_apart" kZ)
  (h_23:HF K f_23 "why_no_ring" jI)
  (h_24:HF K f_24 "without" mF)
  (h_25:HF K f_25 "can_go_on" iZ)
  (h_26:HF K f_26 "choice_row" gD)
  (h_27:HF K f_27 "choices_counted" eO)
  (h_28:HF K f_28 "is_even" jP)
  (h_29:HF K f_29 "by_begin" nB)
  (h_30:HF K f_30 "product_up_to" hG)
  (h_31:HF K f_31 "ways_on" pG)
  (h_32:HF K f_32 "way_by" vC)
  (h_33:HF K f_33 "way_number" kA)
  (h_34:HF K f_34 "is_turned_ring" gM)
  (h_35:HF K f_35 "is_ring" qU)
  (h_36:HF K f_36 "ring_count" jZ)
  (h_37:HF K f_37 "ring_by" qB)
  (h_38:HF K f_38 "ring_number" jN)
  (a_39:cg K (.ref c_Desk) "written" = some (some (.ref f_39))) (l_39:K.lookup f_39=some ⟨oc_39,od_39,.func (dg "written" "Desk.written" (cS dW) (cH dW) (aF dW) .none kV_39 dc_39 pm_39 an_39 cd_39 ct_39),sl_39⟩) (c_39:dh K cd_39 "Desk.written" = true) (k_39:cr K (.ref f_39)=true) (i_Desk_written:fg K (.ref f_39)=true)
  (a_40:cg K (.ref c_Desk) "home" = some (some (.ref f_40))) (l_40:K.lookup f_40=some ⟨oc_40,od_40,.func (dg "home" "Desk.home" (cS fM) (cH fM) (aF fM) .none kV_40 dc_40 pm_40 an_40 cd_40 ct_40),sl_40⟩) (c_40:dh K cd_40 "Desk.home" = true) (k_40:cr K (.ref f_40)=true) (i_Desk_home:fg K (.ref f_40)=true)
  (a_41:cg K (.ref c_Desk) "gone" = some (some (.ref f_41))) (l_41:K.lookup f_41=some ⟨oc_41,od_41,.func (dg "gone" "Desk.gone" (cS fQ) (cH fQ) (aF fQ) .none kV_41 dc_41 pm_41 an_41 cd_41 ct_41),sl_41⟩) (c_41:dh K cd_41 "Desk.gone" = true) (k_41:cr K (.ref f_41)=true) (i_Desk_gone:fg K (.ref f_41)=true)
  (a_42:cg K (.ref c_Desk) "left" = some (some (.ref f_42))) (l_42:K.lookup f_42=some ⟨oc_42,od_42,.func (dg "left" "Desk.left" (cS eS) (cH eS) (aF eS) .none kV_42 dc_42 pm_42 an_42 cd_42 ct_42),sl_42⟩) (c_42:dh K cd_42 "Desk.left" = true) (k_42:cr K (.ref f_42)=true) (i_Desk_left:fg K (.ref f_42)=true)
  (a_43:cg K (.ref c_Desk) "done" = some (some (.ref f_43))) (l_43:K.lookup f_43=some ⟨oc_43,od_43,.func (dg "done" "Desk.done" (cS fO) (cH fO) (aF fO) .none kV_43 dc_43 pm_43 an_43 cd_43 ct_43),sl_43⟩) (c_43:dh K cd_43 "Desk.done" = true) (k_43:cr K (.ref f_43)=true) (i_Desk_done:fg K (.ref f_43)=true)
  (a_44:cg K (.ref c_Desk) "nexts" = some (some (.ref f_44))) (l_44:K.lookup f_44=some ⟨oc_44,od_44,.func (dg "nexts" "Desk.nexts" (cS dL) (cH dL) (aF dL) .none kV_44 dc_44 pm_44 an_44 cd_44 ct_44),sl_44⟩) (c_44:dh K cd_44 "Desk.nexts" = true) (k_44:cr K (.ref f_44)=true) (i_Desk_nexts:fg K (.ref f_44)=true)
  (a_45:cg K (.ref c_Desk) "ways" = some (some (.ref f_45))) (l_45:K.lookup f_45=some ⟨oc_45,od_45,.func (dg "ways" "Desk.ways" (cS fR) (cH fR) (aF fR) .none kV_45 dc_45 pm_45 an_45 cd_45 ct_45),sl_45⟩) (c_45:dh K cd_45 "Desk.ways" = true) (k_45:cr K (.ref f_45)=true) (i_Desk_ways:fg K (.ref f_45)=true)
  (a_46:cg K (.ref c_Desk) "ahead" = some (some (.ref f_46))) (l_46:K.lookup f_46=some ⟨oc_46,od_46,.func (dg "ahead" "Desk.ahead" (cS eZ) (cH eZ) (aF eZ) .none kV_46 dc_46 pm_46 an_46 cd_46 ct_46),sl_46⟩) (c_46:dh K cd_46 "Desk.ahead" = true) (k_46:cr K (.ref f_46)=true) (i_Desk_ahead:fg K (.ref f_46)=true)
  (a_47:cg K (.ref c_Desk) "write" = some (some (.ref f_47))) (l_47:K.lookup f_47=some ⟨oc_47,od_47,.func (dg "write" "Desk.write" (cS eY) (cH eY) (aF eY) .none kV_47 dc_47 pm_47 an_47 cd_47 ct_47),sl_47⟩) (c_47:dh K cd_47 "Desk.write" = true) (k_47:cr K (.ref f_47)=true) (i_Desk_write:fg K (.ref f_47)=true)
  (a_48:cg K (.ref c_Desk) "back" = some (some (.ref f_48))) (l_48:K.lookup f_48=some ⟨oc_48,od_48,.func (dg "back" "Desk.back" (cS fS) (cH fS) (aF fS) .none kV_48 dc_48 pm_48 an_48 cd_48 ct_48),sl_48⟩) (c_48:dh K cd_48 "Desk.back" = true) (k_48:cr K (.ref f_48)=true) (i_Desk_back:fg K (.ref f_48)=true)
  (a_49:cg K (.ref c_Desk) "__init__" = some (some (.ref f_49))) (l_49:K.lookup f_49=some ⟨oc_49,od_49,.func (dg "__init__" "Desk.__init__" (cS fL) (cH fL) (aF fL) .none kV_49 dc_49 pm_49 an_49 cd_49 ct_49),sl_49⟩) (c_49:dh K cd_49 "Desk.__init__" = true) (k_49:cr K (.ref f_49)=true) (i_Desk_init:fg K (.ref f_49)=true)
  (h_50:HF K f_50 "_law_power" jY)
  (h_51:HF K f_51 "_law_stir" lB)
  (h_52:HF K f_52 "_law_folded" jD)
  (h_53:HF K f_53 "_law_words" kJ)
  (h_54:HF K f_54 "_law_behind" jG)
  (h_55:HF K f_55 "_law_by_digits" gJ)
  (h_56:HF K f_56 "_law_even_words" gF)
  (h_57:HF K f_57 "_law_size" lN)
  (h_58:HF K f_58 "_law_written" iL)
  (a_59:cm K mainGlobals "law" = some (some (.ref f_59))) (l_59:K.lookup f_59=some ⟨oc_59,od_59,.func (dg "law" "law" (cS oK) (cH oK) (aF oK) .none kV_59 dc_59 pm_59 an_59 cd_59 ct_59),sl_59⟩) (c_59:dh K cd_59 "law" = true) (k_59:cr K (.ref f_59)=true)
  (z_abs:cm K mainGlobals "abs" = some none)
  (z_all:cm K mainGlobals "all" = some none)
  (z_enumerate:cm K mainGlobals "enumerate" = some none)
  (z_len:cm K mainGlobals "len" = some none)
  (z_list:cm K mainGlobals "list" = some none)
  (z_range:cm K mainGlobals "range" = some none)
  (z_set:cm K mainGlobals "set" = some none)
  (z_sorted:cm K mainGlobals "sorted" = some none)
  (z_sum:cm K mainGlobals "sum" = some none)
  (z_tuple:cm K mainGlobals "tuple" = some none)
  (z_zip:cm K mainGlobals "zip" = some none)
  (y_BadKinds:cm K mainGlobals "BadKinds" = some (some (.ref c_BadKinds)))
  (y_BadWord:cm K mainGlobals "BadWord" = some (some (.ref c_BadWord)))
  (y_TooMany:cm K mainGlobals "TooMany" = some (some (.ref c_TooMany)))
  (y_NoSuch:cm K mainGlobals "NoSuch" = some (some (.ref c_NoSuch)))
  (y_NotOne:cm K mainGlobals "NotOne" = some (some (.ref c_NotOne)))
  (y_BadDeed:cm K mainGlobals "BadDeed" = some (some (.ref c_BadDeed)))
  (y_Web:cm K mainGlobals "Web" = some (some (.ref c_Web)))
  (y_Desk:cm K mainGlobals "Desk" = some (some (.ref c_Desk)))
  (y_KNOWN_TIMES:cm K mainGlobals "KNOWN_TIMES" = some (some (.ref c_KNOWN_TIMES)))
  (e_BadKinds:je K c_BadKinds Bz "ValueError.__new__" = true)
  (e_BadWord:je K c_BadWord Bz "ValueError.__new__" = true)
  (e_TooMany:je K c_TooMany Bz "ValueError.__new__" = true)
  (e_NoSuch:je K c_NoSuch Bz "ValueError.__new__" = true)
  (e_NotOne:je K c_NotOne Bz "ValueError.__new__" = true)
  (e_BadDeed:je K c_BadDeed Bz "ValueError.__new__" = true)
  (g_FIRST_PRIME:cm K mainGlobals "FIRST_PRIME" = some (some u_FIRST_PRIME)) (r_FIRST_PRIME:bG (.int 2305843009213693951) u_FIRST_PRIME)
  (g_STEP:cm K mainGlobals "STEP" = some (some u_STEP)) (r_STEP:bG (.int 6277101735386680763835789423207666416102355444464034512896) u_STEP)
  (g_LETTERS:cm K mainGlobals "LETTERS" = some (some u_LETTERS)) (r_LETTERS:bG (T [97,98,99,100,101,102]) u_LETTERS)
  (g_LONGEST:cm K mainGlobals "LONGEST" = some (some u_LONGEST)) (r_LONGEST:bG (.int 24) u_LONGEST)
  (g_MOST_OF_A_WEB:cm K mainGlobals "MOST_OF_A_WEB" = some (some u_MOST_OF_A_WEB)) (r_MOST_OF_A_WEB:bG (.int 64) u_MOST_OF_A_WEB)
  (g_LONGEST_OF_A_WEB:cm K mainGlobals "LONGEST_OF_A_WEB" = some (some u_LONGEST_OF_A_WEB)) (r_LONGEST_OF_A_WEB:bG (.int 8) u_LONGEST_OF_A_WEB)
  (kt:tupIs K c_KNOWN_TIMES [133,211,598,652,721,850,1282,1417,1582,1681,1726,1837,1885,2017,2377,2383,2452,2476,2530,2611,2662,2698,2773,2878,2917,2980,2998,3082,3238,3250,3343,3421,3427,3670,3817,4162,4252,4447,4468,4621,4630,4747,4867,4891,4915,5128,5143,5236,5401,5587,5650,5803,5833,5923,5986,6202,6235,6286,6496,6526,6736,7093,7561,7696,7831,7855,7882,7927,8143,8248]=true)
  (pg_Web:jj K c_Web Str.empty=true) (hd_Web:j4 K c_Web=true) (po_Web:k6 K c_Web=true) (sa_Web:cg K (.ref c_Web) "__setattr__" = some (some (.builtin "object.__setattr__"))) (mk_Web:l0 K c_Web=true) (kc_Web:cr K (.ref c_Web)=true)
  (na_Web_words:cg K (.ref c_Web) "words" = some none)
  (na_Web_length:cg K (.ref c_Web) "length" = some none)
  (pg_Desk:jj K c_Desk Str.empty=true) (hd_Desk:j4 K c_Desk=true) (po_Desk:k6 K c_Desk=true) (sa_Desk:cg K (.ref c_Desk) "__setattr__" = some (some (.builtin "object.__setattr__"))) (mk_Desk:l0 K c_Desk=true) (kc_Desk:cr K (.ref c_Desk)=true)
  (na_Desk_web:cg K (.ref c_Desk) "web" = some none)
  (na_Desk_text:cg K (.ref c_Desk) "text" = some none) :
  ∃ fd:FuncData,(∀ (s:Shared) (v:Value),BindsTo s fd ⟨[v],[]⟩ [("script",v)])∧∀ base:Heap,K.In base->base.Ns mainGlobals mg->bN l.prog w K mg base (CX1 l.prog w) 10 fa fd ["script"] (Id K):=by
 have e:=hfa.symm.trans (cu X G a_59);cases e;have tt:Txt K mg ⟨c_BadKinds,c_BadWord,c_TooMany,c_NoSuch,c_NotOne,c_BadDeed,c_Web,c_Desk,c_KNOWN_TIMES,u_FIRST_PRIME,u_STEP,u_LETTERS,u_LONGEST,u_MOST_OF_A_WEB,u_LONGEST_OF_A_WEB⟩:=⟨dz X G z_abs,dz X G z_all,dz X G z_enumerate,dz X G z_len,dz X G z_list,dz X G z_range,dz X G z_set,dz X G z_sorted,dz X G z_sum,dz X G z_tuple,dz X G z_zip,cu X G y_BadKinds,cu X G y_BadWord,cu X G y_TooMany,cu X G y_NoSuch,cu X G y_NotOne,cu X G y_BadDeed,cu X G y_Web,cu X G y_Desk,cu X G y_KNOWN_TIMES,⟨cu X G y_BadKinds,e_BadKinds⟩,⟨cu X G y_BadWord,e_BadWord⟩,⟨cu X G y_TooMany,e_TooMany⟩,⟨cu X G y_NoSuch,e_NoSuch⟩,⟨cu X G y_NotOne,e_NotOne⟩,⟨cu X G y_BadDeed,e_BadDeed⟩,cu X G g_FIRST_PRIME,r_FIRST_PRIME,cu X G g_STEP,r_STEP,cu X G g_LETTERS,r_LETTERS,cu X G g_LONGEST,r_LONGEST,cu X G g_MOST_OF_A_WEB,r_MOST_OF_A_WEB,cu X G g_LONGEST_OF_A_WEB,r_LONGEST_OF_A_WEB,kt,⟨pg_Web,hd_Web,po_Web,sa_Web⟩,na_Web_words,na_Web_length,⟨pg_Desk,hd_Desk,po_Desk,sa_Desk⟩,na_Desk_web,na_Desk_text⟩;obtain⟨_,F_0,a_0⟩:=h_0.go;have b_0:=F_0.binds (ps:=["place", "last"]) fun _ _ _ _ _ _ us hl=>L2.on2 (C:=fun us=>bindArgs _ ⟨us,[]⟩=pure (b6 _ us)) hl fun _ _=>rfl
 obtain⟨_,F_1,a_1⟩:=h_1.go;have b_1:=F_1.binds (ps:=["number", "prime"]) fun _ _ _ _ _ _ us hl=>L2.on2 (C:=fun us=>bindArgs _ ⟨us,[]⟩=pure (b6 _ us)) hl fun _ _=>rfl
 obtain⟨_,F_2,a_2⟩:=h_2.go;have b_2:=F_2.binds (ps:=["row", "top", "back", "prime"]) fun _ _ _ _ _ _ us hl=>L2.on4 (C:=fun us=>bindArgs _ ⟨us,[]⟩=pure (b6 _ us)) hl fun _ _ _ _=>rfl
 obtain⟨_,F_3,a_3⟩:=h_3.go;have b_3:=F_3.binds (ps:=["numbers"]) fun _ _ _ _ _ _ us hl=>L2.on1 (C:=fun us=>bindArgs _ ⟨us,[]⟩=pure (b6 _ us)) hl fun _=>rfl
 obtain⟨_,F_4,a_4⟩:=h_4.go;have b_4:=F_4.binds (ps:=["square", "prime"]) fun _ _ _ _ _ _ us hl=>L2.on2 (C:=fun us=>bindArgs _ ⟨us,[]⟩=pure (b6 _ us)) hl fun _ _=>rfl
 obtain⟨_,F_5,a_5⟩:=h_5.go;have b_5:=F_5.binds (ps:=["square"]) fun _ _ _ _ _ _ us hl=>L2.on1 (C:=fun us=>bindArgs _ ⟨us,[]⟩=pure (b6 _ us)) hl fun _=>rfl
 obtain⟨_,F_6,a_6⟩:=h_6.go;have b_6:=F_6.binds (ps:=["square"]) fun _ _ _ _ _ _ us hl=>L2.on1 (C:=fun us=>bindArgs _ ⟨us,[]⟩=pure (b6 _ us)) hl fun _=>rfl
 obtain⟨_,F_7,a_7⟩:=h_7.go;have b_7:=F_7.binds (ps:=["kinds"]) fun _ _ _ _ _ _ us hl=>L2.on1 (C:=fun us=>bindArgs _ ⟨us,[]⟩=pure (b6 _ us)) hl fun _=>rfl
 obtain⟨_,F_8,a_8⟩:=h_8.go;have b_8:=F_8.binds (ps:=["length", "kinds"]) fun _ _ _ _ _ _ us hl=>L2.on2 (C:=fun us=>bindArgs _ ⟨us,[]⟩=pure (b6 _ us)) hl fun _ _=>rfl
 obtain⟨_,F_9,a_9⟩:=h_9.go;have b_9:=F_9.binds (ps:=["kinds"]) fun _ _ _ _ _ _ us hl=>L2.on1 (C:=fun us=>bindArgs _ ⟨us,[]⟩=pure (b6 _ us)) hl fun _=>rfl
 obtain⟨_,F_10,a_10⟩:=h_10.go;have b_10:=F_10.binds (ps:=["word", "kinds"]) fun _ _ _ _ _ _ us hl=>L2.on2 (C:=fun us=>bindArgs _ ⟨us,[]⟩=pure (b6 _ us)) hl fun _ _=>rfl
 obtain⟨_,F_11,a_11⟩:=h_11.go;have b_11:=F_11.binds (ps:=["text", "length"]) fun _ _ _ _ _ _ us hl=>L2.on2 (C:=fun us=>bindArgs _ ⟨us,[]⟩=pure (b6 _ us)) hl fun _ _=>rfl
 obtain⟨_,F_12,a_12⟩:=h_12.go;have b_12:=F_12.binds (ps:=["text", "length"]) fun _ _ _ _ _ _ us hl=>L2.on2 (C:=fun us=>bindArgs _ ⟨us,[]⟩=pure (b6 _ us)) hl fun _ _=>rfl
 obtain⟨_,F_13,a_13⟩:=h_13.go;have b_13:=F_13.binds (ps:=["text", "length", "ring"]) fun _ _ _ _ _ _ us hl=>L2.on3 (C:=fun us=>bindArgs _ ⟨us,[]⟩=pure (b6 _ us)) hl fun _ _ _=>rfl
 obtain⟨_,F_14,a_14⟩:=h_14.go;have b_14:=F_14.binds (ps:=["words"]) fun _ _ _ _ _ _ us hl=>L2.on1 (C:=fun us=>bindArgs _ ⟨us,[]⟩=pure (b6 _ us)) hl fun _=>rfl
 have F_15:=gC (st:=gL) l_15 c_15 k_15;have b_15:=F_15.binds (ps:=["self", "words"]) fun _ _ _ _ _ _ us hl=>L2.on2 (C:=fun us=>bindArgs _ ⟨us,[]⟩=pure (b6 _ us)) hl fun _ _=>rfl
 obtain⟨_,F_16,a_16⟩:=h_16.go;have b_16:=F_16.binds (ps:=["word"]) fun _ _ _ _ _ _ us hl=>L2.on1 (C:=fun us=>bindArgs _ ⟨us,[]⟩=pure (b6 _ us)) hl fun _=>rfl
 obtain⟨_,F_17,a_17⟩:=h_17.go;have b_17:=F_17.binds (ps:=["word"]) fun _ _ _ _ _ _ us hl=>L2.on1 (C:=fun us=>bindArgs _ ⟨us,[]⟩=pure (b6 _ us)) hl fun _=>rfl
 obtain⟨_,F_18,a_18⟩:=h_18.go;have b_18:=F_18.binds (ps:=["web"]) fun _ _ _ _ _ _ us hl=>L2.on1 (C:=fun us=>bindArgs _ ⟨us,[]⟩=pure (b6 _ us)) hl fun _=>rfl
 obtain⟨_,F_19,a_19⟩:=h_19.go;have b_19:=F_19.binds (ps:=["web", "some"]) fun _ _ _ _ _ _ us hl=>L2.on2 (C:=fun us=>bindArgs _ ⟨us,[]⟩=pure (b6 _ us)) hl fun _ _=>rfl
 obtain⟨_,F_20,a_20⟩:=h_20.go;have b_20:=F_20.binds (ps:=["words", "piece"]) fun _ _ _ _ _ _ us hl=>L2.on2 (C:=fun us=>bindArgs _ ⟨us,[]⟩=pure (b6 _ us)) hl fun _ _=>rfl
 obtain⟨_,F_21,a_21⟩:=h_21.go;have b_21:=F_21.binds (ps:=["web", "piece"]) fun _ _ _ _ _ _ us hl=>L2.on2 (C:=fun us=>bindArgs _ ⟨us,[]⟩=pure (b6 _ us)) hl fun _ _=>rfl
 obtain⟨_,F_22,a_22⟩:=h_22.go;have b_22:=F_22.binds (ps:=["web"]) fun _ _ _ _ _ _ us hl=>L2.on1 (C:=fun us=>bindArgs _ ⟨us,[]⟩=pure (b6 _ us)) hl fun _=>rfl
 obtain⟨_,F_23,a_23⟩:=h_23.go;have b_23:=F_23.binds (ps:=["web"]) fun _ _ _ _ _ _ us hl=>L2.on1 (C:=fun us=>bindArgs _ ⟨us,[]⟩=pure (b6 _ us)) hl fun _=>rfl
 obtain⟨_,F_24,a_24⟩:=h_24.go;have b_24:=F_24.binds (ps:=["words", "word"]) fun _ _ _ _ _ _ us hl=>L2.on2 (C:=fun us=>bindArgs _ ⟨us,[]⟩=pure (b6 _ us)) hl fun _ _=>rfl
 obtain⟨_,F_25,a_25⟩:=h_25.go;have b_25:=F_25.binds (ps:=["left", "piece"]) fun _ _ _ _ _ _ us hl=>L2.on2 (C:=fun us=>bindArgs _ ⟨us,[]⟩=pure (b6 _ us)) hl fun _ _=>rfl
 obtain⟨_,F_26,a_26⟩:=h_26.go;have b_26:=F_26.binds (ps:=["texts", "text", "words"]) fun _ _ _ _ _ _ us hl=>L2.on3 (C:=fun us=>bindArgs _ ⟨us,[]⟩=pure (b6 _ us)) hl fun _ _ _=>rfl
 obtain⟨_,F_27,a_27⟩:=h_27.go;have b_27:=F_27.binds (ps:=["ways"]) fun _ _ _ _ _ _ us hl=>L2.on1 (C:=fun us=>bindArgs _ ⟨us,[]⟩=pure (b6 _ us)) hl fun _=>rfl
 obtain⟨_,F_28,a_28⟩:=h_28.go;have b_28:=F_28.binds (ps:=["words", "one", "other"]) fun _ _ _ _ _ _ us hl=>L2.on3 (C:=fun us=>bindArgs _ ⟨us,[]⟩=pure (b6 _ us)) hl fun _ _ _=>rfl
 obtain⟨_,F_29,a_29⟩:=h_29.go;have b_29:=F_29.binds (ps:=["words"]) fun _ _ _ _ _ _ us hl=>L2.on1 (C:=fun us=>bindArgs _ ⟨us,[]⟩=pure (b6 _ us)) hl fun _=>rfl
 obtain⟨_,F_30,a_30⟩:=h_30.go;have b_30:=F_30.binds (ps:=["many"]) fun _ _ _ _ _ _ us hl=>L2.on1 (C:=fun us=>bindArgs _ ⟨us,[]⟩=pure (b6 _ us)) hl fun _=>rfl
 obtain⟨_,F_31,a_31⟩:=h_31.go;have b_31:=F_31.binds (ps:=["words", "one", "other"]) fun _ _ _ _ _ _ us hl=>L2.on3 (C:=fun us=>bindArgs _ ⟨us,[]⟩=pure (b6 _ us)) hl fun _ _ _=>rfl
 obtain⟨_,F_32,a_32⟩:=h_32.go;have b_32:=F_32.binds (ps:=["words", "one", "other", "number"]) fun _ _ _ _ _ _ us hl=>L2.on4 (C:=fun us=>bindArgs _ ⟨us,[]⟩=pure (b6 _ us)) hl fun _ _ _ _=>rfl
 obtain⟨_,F_33,a_33⟩:=h_33.go;have b_33:=F_33.binds (ps:=["words", "order", "other"]) fun _ _ _ _ _ _ us hl=>L2.on3 (C:=fun us=>bindArgs _ ⟨us,[]⟩=pure (b6 _ us)) hl fun _ _ _=>rfl
 obtain⟨_,F_34,a_34⟩:=h_34.go;have b_34:=F_34.binds (ps:=["web", "text"]) fun _ _ _ _ _ _ us hl=>L2.on2 (C:=fun us=>bindArgs _ ⟨us,[]⟩=pure (b6 _ us)) hl fun _ _=>rfl
 obtain⟨_,F_35,a_35⟩:=h_35.go;have b_35:=F_35.binds (ps:=["web", "text"]) fun _ _ _ _ _ _ us hl=>L2.on2 (C:=fun us=>bindArgs _ ⟨us,[]⟩=pure (b6 _ us)) hl fun _ _=>rfl
 obtain⟨_,F_36,a_36⟩:=h_36.go;have b_36:=F_36.binds (ps:=["web"]) fun _ _ _ _ _ _ us hl=>L2.on1 (C:=fun us=>bindArgs _ ⟨us,[]⟩=pure (b6 _ us)) hl fun _=>rfl
 obtain⟨_,F_37,a_37⟩:=h_37.go;have b_37:=F_37.binds (ps:=["web", "number"]) fun _ _ _ _ _ _ us hl=>L2.on2 (C:=fun us=>bindArgs _ ⟨us,[]⟩=pure (b6 _ us)) hl fun _ _=>rfl
 obtain⟨_,F_38,a_38⟩:=h_38.go;have b_38:=F_38.binds (ps:=["web", "ring"]) fun _ _ _ _ _ _ us hl=>L2.on2 (C:=fun us=>bindArgs _ ⟨us,[]⟩=pure (b6 _ us)) hl fun _ _=>rfl
 have F_39:=gC (st:=dW) l_39 c_39 k_39;have b_39:=F_39.binds (ps:=["self"]) fun _ _ _ _ _ _ us hl=>L2.on1 (C:=fun us=>bindArgs _ ⟨us,[]⟩=pure (b6 _ us)) hl fun _=>rfl
 have F_40:=gC (st:=fM) l_40 c_40 k_40;have b_40:=F_40.binds (ps:=["self"]) fun _ _ _ _ _ _ us hl=>L2.on1 (C:=fun us=>bindArgs _ ⟨us,[]⟩=pure (b6 _ us)) hl fun _=>rfl
 have F_41:=gC (st:=fQ) l_41 c_41 k_41;have b_41:=F_41.binds (ps:=["self"]) fun _ _ _ _ _ _ us hl=>L2.on1 (C:=fun us=>bindArgs _ ⟨us,[]⟩=pure (b6 _ us)) hl fun _=>rfl
 have F_42:=gC (st:=eS) l_42 c_42 k_42;have b_42:=F_42.binds (ps:=["self"]) fun _ _ _ _ _ _ us hl=>L2.on1 (C:=fun us=>bindArgs _ ⟨us,[]⟩=pure (b6 _ us)) hl fun _=>rfl
 have F_43:=gC (st:=fO) l_43 c_43 k_43;have b_43:=F_43.binds (ps:=["self"]) fun _ _ _ _ _ _ us hl=>L2.on1 (C:=fun us=>bindArgs _ ⟨us,[]⟩=pure (b6 _ us)) hl fun _=>rfl
 have F_44:=gC (st:=dL) l_44 c_44 k_44;have b_44:=F_44.binds (ps:=["self"]) fun _ _ _ _ _ _ us hl=>L2.on1 (C:=fun us=>bindArgs _ ⟨us,[]⟩=pure (b6 _ us)) hl fun _=>rfl
 have F_45:=gC (st:=fR) l_45 c_45 k_45;have b_45:=F_45.binds (ps:=["self"]) fun _ _ _ _ _ _ us hl=>L2.on1 (C:=fun us=>bindArgs _ ⟨us,[]⟩=pure (b6 _ us)) hl fun _=>rfl
 have F_46:=gC (st:=eZ) l_46 c_46 k_46;have b_46:=F_46.binds (ps:=["self"]) fun _ _ _ _ _ _ us hl=>L2.on1 (C:=fun us=>bindArgs _ ⟨us,[]⟩=pure (b6 _ us)) hl fun _=>rfl
 have F_47:=gC (st:=eY) l_47 c_47 k_47;have b_47:=F_47.binds (ps:=["self", "letter"]) fun _ _ _ _ _ _ us hl=>L2.on2 (C:=fun us=>bindArgs _ ⟨us,[]⟩=pure (b6 _ us)) hl fun _ _=>rfl
 have F_48:=gC (st:=fS) l_48 c_48 k_48;have b_48:=F_48.binds (ps:=["self"]) fun _ _ _ _ _ _ us hl=>L2.on1 (C:=fun us=>bindArgs _ ⟨us,[]⟩=pure (b6 _ us)) hl fun _=>rfl
 have F_49:=gC (st:=fL) l_49 c_49 k_49;have b_49:=F_49.binds (ps:=["self", "web"]) fun _ _ _ _ _ _ us hl=>L2.on2 (C:=fun us=>bindArgs _ ⟨us,[]⟩=pure (b6 _ us)) hl fun _ _=>rfl
 obtain⟨_,F_50,a_50⟩:=h_50.go;have b_50:=F_50.binds (ps:=["base", "many"]) fun _ _ _ _ _ _ us hl=>L2.on2 (C:=fun us=>bindArgs _ ⟨us,[]⟩=pure (b6 _ us)) hl fun _ _=>rfl
 obtain⟨_,F_51,a_51⟩:=h_51.go;have b_51:=F_51.binds (ps:=["cell", "k"]) fun _ _ _ _ _ _ us hl=>L2.on2 (C:=fun us=>bindArgs _ ⟨us,[]⟩=pure (b6 _ us)) hl fun _ _=>rfl
 obtain⟨_,F_52,a_52⟩:=h_52.go;have b_52:=F_52.binds (ps:=["script", "many"]) fun _ _ _ _ _ _ us hl=>L2.on2 (C:=fun us=>bindArgs _ ⟨us,[]⟩=pure (b6 _ us)) hl fun _ _=>rfl
 obtain⟨_,F_53,a_53⟩:=h_53.go;have b_53:=F_53.binds (ps:=["length", "kinds"]) fun _ _ _ _ _ _ us hl=>L2.on2 (C:=fun us=>bindArgs _ ⟨us,[]⟩=pure (b6 _ us)) hl fun _ _=>rfl
 obtain⟨_,F_54,a_54⟩:=h_54.go;have b_54:=F_54.binds (ps:=["script", "words", "length", "kinds"]) fun _ _ _ _ _ _ us hl=>L2.on4 (C:=fun us=>bindArgs _ ⟨us,[]⟩=pure (b6 _ us)) hl fun _ _ _ _=>rfl
 obtain⟨_,F_55,a_55⟩:=h_55.go;have b_55:=F_55.binds (ps:=["words", "part"]) fun _ _ _ _ _ _ us hl=>L2.on2 (C:=fun us=>bindArgs _ ⟨us,[]⟩=pure (b6 _ us)) hl fun _ _=>rfl
 obtain⟨_,F_56,a_56⟩:=h_56.go;have b_56:=F_56.binds (ps:=["script", "n", "length", "kinds"]) fun _ _ _ _ _ _ us hl=>L2.on4 (C:=fun us=>bindArgs _ ⟨us,[]⟩=pure (b6 _ us)) hl fun _ _ _ _=>rfl
 obtain⟨_,F_57,a_57⟩:=h_57.go;have b_57:=F_57.binds (ps:=["n"]) fun _ _ _ _ _ _ us hl=>L2.on1 (C:=fun us=>bindArgs _ ⟨us,[]⟩=pure (b6 _ us)) hl fun _=>rfl
 obtain⟨_,F_58,a_58⟩:=h_58.go;have b_58:=F_58.binds (ps:=["web", "cells", "way"]) fun _ _ _ _ _ _ us hl=>L2.on3 (C:=fun us=>bindArgs _ ⟨us,[]⟩=pure (b6 _ us)) hl fun _ _ _=>rfl
 have F_59:=gC (st:=oK) l_59 c_59 k_59;refine⟨dg "law" "law" (cS oK) (cH oK) (aF oK) .none kV_59 dc_59 pm_59 an_59 cd_59 ct_59,fun s v=>.of_eq rfl,fun base _ _=>?_⟩
 have C_0:=mkC l.prog w base X G a_0 F_0 (pQ F_0 tt) b_0;have C_1:=mkC l.prog w base X G a_1 F_1 (Fq F_1 tt) b_1;have C_2:=mkC l.prog w base X G a_2 F_2 (Fu F_2 tt) b_2;have C_3:=mkC l.prog w base X G a_3 F_3 (iQ F_3 tt) b_3;have C_4:=mkC l.prog w base X G a_4 F_4 (mH F_4 tt C_3 C_1 C_2) b_4;have C_5:=mkC l.prog w base X G a_5 F_5 (tU F_5 tt) b_5;have C_6:=mkC l.prog w base X G a_6 F_6 (uO F_6 tt C_5 C_4 C_0 C_1) b_6;have C_7:=mkC l.prog w base X G a_7 F_7 (rR F_7 tt) b_7;have C_8:=mkC l.prog w base X G a_8 F_8 (qA F_8 tt C_7) b_8;have C_9:=mkC l.prog w base X G a_9 F_9 (Fo F_9 tt C_7) b_9;have C_10:=mkC l.prog w base X G a_10 F_10 (Kz F_10 tt C_8 C_9) b_10;have C_11:=mkC l.prog w base X G a_11 F_11 (uL F_11 tt) b_11;have C_12:=mkC l.prog w base X G a_12 F_12 (sE F_12 tt) b_12;have C_13:=mkC l.prog w base X G a_13 F_13 (Eu F_13 tt C_11 C_12) b_13;have C_14:=mkC l.prog w base X G a_14 F_14 (wG F_14 tt C_10) b_14;have C_15:Cam l.prog w K mg base (CX1 l.prog w) "Web" c_Web 5 ["self", "words"] (zJ K _):=⟨⟨_,_,Cj F_15 tt C_14,⟨mk_Web,a_15,i_Web_init,kc_Web⟩,cu X G y_Web,b_15⟩⟩
 have C_16:=mkC l.prog w base X G a_16 F_16 (Dm F_16 tt) b_16;have C_17:=mkC l.prog w base X G a_17 F_17 (Li F_17 tt) b_17;have C_18:=mkC l.prog w base X G a_18 F_18 (Jo F_18 tt C_16 C_17) b_18;have C_19:=mkC l.prog w base X G a_19 F_19 (Kq F_19 tt C_16 C_17) b_19;have C_20:=mkC l.prog w base X G a_20 F_20 (vU F_20 tt C_16 C_17) b_20;have C_21:=mkC l.prog w base X G a_21 F_21 (Fc F_21 tt C_18 C_20) b_21;have C_22:=mkC l.prog w base X G a_22 F_22 (yM F_22 tt C_18 C_21) b_22;have C_23:=mkC l.prog w base X G a_23 F_23 (vG F_23 tt C_18 C_19 C_22) b_23;have C_24:=mkC l.prog w base X G a_24 F_24 (Fx F_24 tt) b_24;have C_25:=mkC l.prog w base X G a_25 F_25 (yV F_25 tt C_20 C_16) b_25;have C_26:=mkC l.prog w base X G a_26 F_26 (wO F_26 tt C_17) b_26;have C_27:=mkC l.prog w base X G a_27 F_27 (nD F_27 tt C_6 C_26) b_27;have C_28:=mkC l.prog w base X G a_28 F_28 (Ed F_28 tt C_16 C_17) b_28;have C_29:=mkC l.prog w base X G a_29 F_29 (Db F_29 tt C_16) b_29;have C_30:=mkC l.prog w base X G a_30 F_30 (pS F_30 tt) b_30;have C_31:=mkC l.prog w base X G a_31 F_31 (Fe F_31 tt C_28 C_29 C_30 C_27) b_31;have C_32:=mkC l.prog w base X G a_32 F_32 (Kn F_32 tt C_29 C_31 C_24 C_17) b_32;have C_33:=mkC l.prog w base X G a_33 F_33 (vT F_33 tt C_29 C_16 C_31 C_24 C_17) b_33;have C_34:=mkC l.prog w base X G a_34 F_34 (pC F_34 tt C_13) b_34;have C_35:=mkC l.prog w base X G a_35 F_35 (Ff F_35 tt C_34 C_13) b_35;have C_36:=mkC l.prog w base X G a_36 F_36 (wM F_36 tt C_31 C_17 C_16) b_36;have C_37:=mkC l.prog w base X G a_37 F_37 (Ea F_37 tt C_36 C_32 C_17 C_16) b_37;have C_38:=mkC l.prog w base X G a_38 F_38 (uD F_38 tt C_35 C_33 C_13 C_16) b_38;have C_39:Cmt l.prog w K mg base (CX1 l.prog w) c_Desk "written" 1 ["self"] (xD c_Desk c_Web):=⟨⟨_,_,rQ F_39 tt,⟨a_39,i_Desk_written,k_39⟩,tt.cl_Desk,b_39⟩⟩
 have C_40:Cmt l.prog w K mg base (CX1 l.prog w) c_Desk "home" 2 ["self"] (zS c_Desk c_Web):=⟨⟨_,_,Ad F_40 tt C_16,⟨a_40,i_Desk_home,k_40⟩,tt.cl_Desk,b_40⟩⟩
 have C_41:Cmt l.prog w K mg base (CX1 l.prog w) c_Desk "gone" 3 ["self"] (qR c_Desk c_Web):=⟨⟨_,_,At F_41 tt C_13,⟨a_41,i_Desk_gone,k_41⟩,tt.cl_Desk,b_41⟩⟩
 have C_42:Cmt l.prog w K mg base (CX1 l.prog w) c_Desk "left" 4 ["self"] (tD c_Desk c_Web):=⟨⟨_,_,zZ F_42 tt C_41,⟨a_42,i_Desk_left,k_42⟩,tt.cl_Desk,b_42⟩⟩
 have C_43:Cmt l.prog w K mg base (CX1 l.prog w) c_Desk "done" 5 ["self"] (Gk c_Desk c_Web):=⟨⟨_,_,yZ F_43 tt C_42,⟨a_43,i_Desk_done,k_43⟩,tt.cl_Desk,b_43⟩⟩
 have C_44:Cmt l.prog w K mg base (CX1 l.prog w) c_Desk "nexts" 5 ["self"] (sL c_Desk c_Web):=⟨⟨_,_,vR F_44 tt C_42 C_41 C_17 C_16 C_25 C_24,⟨a_44,i_Desk_nexts,k_44⟩,tt.cl_Desk,b_44⟩⟩
 have C_45:Cmt l.prog w K mg base (CX1 l.prog w) c_Desk "ways" 7 ["self"] (Af c_Desk c_Web):=⟨⟨_,_,yX F_45 tt C_42 C_41 C_40 C_17 C_31,⟨a_45,i_Desk_ways,k_45⟩,tt.cl_Desk,b_45⟩⟩
 have C_46:Cmt l.prog w K mg base (CX1 l.prog w) c_Desk "ahead" 7 ["self"] (sM c_Desk c_Web):=⟨⟨_,_,wB F_46 tt C_41 C_40 C_33,⟨a_46,i_Desk_ahead,k_46⟩,tt.cl_Desk,b_46⟩⟩
 have C_47:Cmt l.prog w K mg base (CX1 l.prog w) c_Desk "write" 6 ["self", "letter"] (yN c_Desk c_Web _):=⟨⟨_,_,wE F_47 tt C_44,⟨a_47,i_Desk_write,k_47⟩,tt.cl_Desk,b_47⟩⟩
 have C_48:Cmt l.prog w K mg base (CX1 l.prog w) c_Desk "back" 1 ["self"] (Pk c_Desk c_Web _):=⟨⟨_,_,Ae F_48 tt,⟨a_48,i_Desk_back,k_48⟩,tt.cl_Desk,b_48⟩⟩
 have C_49:Cam l.prog w K mg base (CX1 l.prog w) "Desk" c_Desk 7 ["self", "web"] (zD c_Desk c_Web):=⟨⟨_,_,zW F_49 tt C_23 C_15,⟨mk_Desk,a_49,i_Desk_init,kc_Desk⟩,cu X G y_Desk,b_49⟩⟩
 have C_50:=mkC l.prog w base X G a_50 F_50 (wJ F_50 tt) b_50;have C_51:=mkC l.prog w base X G a_51 F_51 (An F_51 tt) b_51;have C_52:=mkC l.prog w base X G a_52 F_52 (vE F_52 tt) b_52;have C_53:=mkC l.prog w base X G a_53 F_53 (wL F_53 tt) b_53;have C_54:=mkC l.prog w base X G a_54 F_54 (tX F_54 tt C_50 C_52 C_51) b_54;have C_55:=mkC l.prog w base X G a_55 F_55 (oZ F_55 tt) b_55;have C_56:=mkC l.prog w base X G a_56 F_56 (mR F_56 tt C_53 C_55 C_54 C_51) b_56;have C_57:=mkC l.prog w base X G a_57 F_57 (yU F_57 tt) b_57;have C_58:=mkC l.prog w base X G a_58 F_58 (rO F_58 tt C_49 C_46 C_45 C_44 C_51 C_47) b_58;exact Wc F_59 tt C_57 C_56 C_15 C_23 C_36 C_52 C_58 C_43 C_35 C_46 C_38 C_37
theorem walk {l : ou} {q : Program} {loose : List Str} {XP : (Str → Option Value) → Heap → Prop} {YP : World → Heap → Prop} {d : DefRec} {K : Params → af} (hn : l.most = some 63) (hdf : d.params.defaults = [])
  (hY : ∀ (w : World) (h : Heap), YP w h → (K w.params).In h)
  (F : ∀ (w : World) (mg : Str → Option Value) (fa : Addr) (h : Heap), (K w.params).In h → h.Ns mainGlobals mg → mg d.name = some (.ref fa) →
   ∃ fd : FuncData, (∀ (s : Shared) (u : Value), BindsTo s fd ⟨[u], []⟩ [("script", u)]) ∧ ∀ base : Heap, (K w.params).In base → base.Ns mainGlobals mg → bN l.prog w (K w.params) mg base (CX1 l.prog w) 10 fa fd ["script"] (Id (K w.params))) :
  uo q loose XP YP l.row.toRowW d [] (fun f vs => ua f vs) :=
 L2.Qv (n := 63) (k := 10) (x := "script") (CX := fun w => CX1 l.prog w) (sp := fun w => Id (K w.params)) hn (by decide) hdf ⟨rfl, by decide, by decide⟩ hY F (fun _ _ a ns hl _ hS => ⟨a, ns, rfl, hS, hl, fun _ => rfl⟩) fun _ _ _ _ _ ⟨_, _, _, _, _, z⟩ => z
end K76
theorem PySem.W.Fast.tw873740018845918080:True:=trivial
theorem PySem.W.Fast.tw2778889399204806785:True:=trivial
theorem PySem.W.Fast.tw6079948495420093569:True:=trivial
theorem PySem.W.Fast.tw2425848451890722017:True:=trivial
theorem PySem.W.Fast.tw172628406814714625:True:=trivial
theorem PySem.W.Fast.tw13365712306140353473:True:=trivial
theorem PySem.W.Fast.tw14855495240952698242:True:=trivial
theorem PySem.W.Fast.tw13691876733815576066:True:=trivial
theorem PySem.W.Fast.tw1514254330930271970:True:=trivial
theorem PySem.W.Fast.tw16344524886465741762:True:=trivial
theorem PySem.W.Fast.tw11694809275709267267:True:=trivial
theorem PySem.W.Fast.tw18249344217326074787:True:=trivial
theorem PySem.W.Fast.tw673926138057868227:True:=trivial
theorem PySem.W.Fast.tw5868349699995553156:True:=trivial
theorem PySem.W.Fast.tw8076141159809791684:True:=trivial
theorem PySem.W.Fast.tw3014543617409948452:True:=trivial
theorem PySem.W.Fast.tw1634528965879840580:True:=trivial
theorem PySem.W.Fast.tw12108028856546595046:True:=trivial
theorem PySem.W.Fast.tw17801959333274352966:True:=trivial
theorem PySem.W.Fast.tw18384145004797782438:True:=trivial
theorem PySem.W.Fast.tw11286291428154996326:True:=trivial
theorem PySem.W.Fast.tw1310462253357337608:True:=trivial
theorem PySem.W.Fast.tw10042586757850815848:True:=trivial
theorem PySem.W.Fast.tw2361734135243154216:True:=trivial
theorem PySem.W.Fast.tw4759719675218123913:True:=trivial
theorem PySem.W.Fast.tw10784776879547513993:True:=trivial
theorem PySem.W.Fast.tw5904620809328966121:True:=trivial
theorem PySem.W.Fast.te8852670709876522761:True:=trivial
theorem PySem.W.Fast.tw12904940447593026634:True:=trivial
theorem PySem.W.Fast.tw14026873219959543946:True:=trivial
theorem PySem.W.Fast.tw5175845481838732042:True:=trivial
theorem PySem.W.Fast.tw10885474628347952970:True:=trivial
theorem PySem.W.Fast.tw2088602543888232619:True:=trivial
theorem PySem.W.Fast.tw219151890976432748:True:=trivial
theorem PySem.W.Fast.tw13894958640617485453:True:=trivial
theorem PySem.W.Fast.tw17405309789569596077:True:=trivial
theorem PySem.W.Fast.tw183813232164753326:True:=trivial
theorem PySem.W.Fast.tw13568488038660752463:True:=trivial
theorem PySem.W.Fast.tw4852066580635793103:True:=trivial
theorem PySem.W.Fast.tw15704948255908770639:True:=trivial
theorem PySem.W.Fast.tw8592184571697353872:True:=trivial
theorem PySem.W.Fast.tw2348804384798698064:True:=trivial
theorem PySem.W.Fast.tw14228833954015371473:True:=trivial
theorem PySem.W.Fast.tw3754578446523296306:True:=trivial
theorem PySem.W.Fast.tw2729334258720468468:True:=trivial
theorem PySem.W.Fast.tw12459454408396964724:True:=trivial
theorem PySem.W.Fast.tw10472789204631945429:True:=trivial
theorem PySem.W.Fast.tw10967495183136077045:True:=trivial
theorem PySem.W.Fast.tw13096059112904053301:True:=trivial
theorem PySem.W.Fast.tw4390816954337379157:True:=trivial
theorem PySem.W.Fast.tw15522885170767644565:True:=trivial
theorem PySem.W.Fast.tw13379096779814891606:True:=trivial
theorem PySem.W.Fast.tw4343691027921205238:True:=trivial
theorem PySem.W.Fast.tw2424630675892507735:True:=trivial
theorem PySem.W.Fast.tw15035374394177876503:True:=trivial
theorem PySem.W.Fast.tw12063244770911971319:True:=trivial
theorem PySem.W.Fast.tw9862646093804529432:True:=trivial
theorem PySem.W.Fast.tw16142546037656322521:True:=trivial
theorem PySem.W.Fast.tw10955704146421128825:True:=trivial
theorem PySem.W.Fast.tw12342694922465681305:True:=trivial
theorem PySem.W.Fast.tw8834048697157507065:True:=trivial
theorem PySem.W.Fast.tw7092891153488987322:True:=trivial
theorem PySem.W.Fast.tw15059234620159555930:True:=trivial
theorem PySem.W.Fast.tw8433008889595482650:True:=trivial
theorem PySem.W.Fast.tw13294245821774588538:True:=trivial
theorem PySem.W.Fast.tw12776874276064310938:True:=trivial
theorem PySem.W.Fast.tw2722260822625615131:True:=trivial
theorem PySem.W.Fast.tw17271809112727114107:True:=trivial
theorem PySem.W.Fast.tw15264749365593386651:True:=trivial
theorem PySem.W.Fast.tw17336648192719500059:True:=trivial
theorem PySem.W.Fast.tw14467494461056723389:True:=trivial
theorem PySem.W.Fast.tw13965134785533672349:True:=trivial
theorem PySem.W.Fast.tw2232916004855901246:True:=trivial
theorem PySem.W.Fast.tw7625385086793712062:True:=trivial
theorem PySem.W.Fast.tw8076136231219019774:True:=trivial
theorem PySem.W.Fast.tw16651025664937902207:True:=trivial
theorem PySem.W.Fast.tw7868082480346045375:True:=trivial
theorem PySem.W.Fast.tw1085112627607807999:True:=trivial
def PySem.W.Fast.tw2782646021672713560:=PySem.Challenge.pw_onceround_k76_whole_desk_numbers
theorem PySem.W.Fast.te2782646021672713560:PySem.Challenge.pw_onceround_k76_whole_desk_numbers=PySem.W.Fast.tw2782646021672713560:=rfl
end
open PySem PySem.W PyProof.Rows
set_option maxRecDepth 100000 in
set_option maxHeartbeats 0 in
theorem PySem.Challenge.cw_onceround_k76_whole_desk_numbers_holds : PySem.Challenge.rw_onceround_k76_whole_desk_numbers.Holds := by
  w_on; o_law; k_head; (case hw=>w_witness2)
  k_fill
  refine K76.walk (l := PySem.Challenge.rw_onceround_k76_whole_desk_numbers) rfl rfl (fun w h Y => PySem.W.kIn_of Y) ?F
  case F =>
    intro w mg fa h KX G hmg
    refine' K76.all_mk KX G hmg ?h_0 ?h_1 ?h_2 ?h_3 ?h_4 ?h_5 ?h_6 ?h_7 ?h_8 ?h_9 ?h_10 ?h_11 ?h_12 ?h_13 ?h_14 ?a_15 ?l_15 ?c_15 ?k_15 ?i_Web_init ?h_16 ?h_17 ?h_18 ?h_19 ?h_20 ?h_21 ?h_22 ?h_23 ?h_24 ?h_25 ?h_26 ?h_27 ?h_28 ?h_29 ?h_30 ?h_31 ?h_32 ?h_33 ?h_34 ?h_35 ?h_36 ?h_37 ?h_38 ?a_39 ?l_39 ?c_39 ?k_39 ?i_Desk_written ?a_40 ?l_40 ?c_40 ?k_40 ?i_Desk_home ?a_41 ?l_41 ?c_41 ?k_41 ?i_Desk_gone ?a_42 ?l_42 ?c_42 ?k_42 ?i_Desk_left ?a_43 ?l_43 ?c_43 ?k_43 ?i_Desk_done ?a_44 ?l_44 ?c_44 ?k_44 ?i_Desk_nexts ?a_45 ?l_45 ?c_45 ?k_45 ?i_Desk_ways ?a_46 ?l_46 ?c_46 ?k_46 ?i_Desk_ahead ?a_47 ?l_47 ?c_47 ?k_47 ?i_Desk_write ?a_48 ?l_48 ?c_48 ?k_48 ?i_Desk_back ?a_49 ?l_49 ?c_49 ?k_49 ?i_Desk_init ?h_50 ?h_51 ?h_52 ?h_53 ?h_54 ?h_55 ?h_56 ?h_57 ?h_58 ?a_59 ?l_59 ?c_59 ?k_59 ?z_abs ?z_all ?z_enumerate ?z_len ?z_list ?z_range ?z_set ?z_sorted ?z_sum ?z_tuple ?z_zip ?y_BadKinds ?y_BadWord ?y_TooMany ?y_NoSuch ?y_NotOne ?y_BadDeed ?y_Web ?y_Desk ?y_KNOWN_TIMES ?e_BadKinds ?e_BadWord ?e_TooMany ?e_NoSuch ?e_NotOne ?e_BadDeed ?g_FIRST_PRIME ?r_FIRST_PRIME ?g_STEP ?r_STEP ?g_LETTERS ?r_LETTERS ?g_LONGEST ?r_LONGEST ?g_MOST_OF_A_WEB ?r_MOST_OF_A_WEB ?g_LONGEST_OF_A_WEB ?r_LONGEST_OF_A_WEB ?kt ?pg_Web ?hd_Web ?po_Web ?sa_Web ?mk_Web ?kc_Web ?na_Web_words ?na_Web_length ?pg_Desk ?hd_Desk ?po_Desk ?sa_Desk ?mk_Desk ?kc_Desk ?na_Desk_web ?na_Desk_text
    (case y_Desk=>k_is)
    (all_goals try (apply K76.hf_mk <;> k_is));(case y_Web=>k_is);(case a_15=>k_is);(case l_15=>k_is);(case c_15=>k_is);(case k_15=>k_is);(case a_39=>k_is);(case l_39=>k_is);(case c_39=>k_is);(case k_39=>k_is);(case a_40=>k_is);(case l_40=>k_is);(case c_40=>k_is);(case k_40=>k_is);(case a_41=>k_is);(case l_41=>k_is);(case c_41=>k_is);(case k_41=>k_is);(case a_42=>k_is);(case l_42=>k_is);(case c_42=>k_is);(case k_42=>k_is);(case a_43=>k_is);(case l_43=>k_is);(case c_43=>k_is);(case k_43=>k_is);(case a_44=>k_is);(case l_44=>k_is);(case c_44=>k_is);(case k_44=>k_is);(case a_45=>k_is);(case l_45=>k_is);(case c_45=>k_is);(case k_45=>k_is);(case a_46=>k_is);(case l_46=>k_is);(case c_46=>k_is);(case k_46=>k_is);(case a_47=>k_is);(case l_47=>k_is);(case c_47=>k_is);(case k_47=>k_is);(case a_48=>k_is);(case l_48=>k_is);(case c_48=>k_is);(case k_48=>k_is);(case a_49=>k_is);(case l_49=>k_is);(case c_49=>k_is);(case k_49=>k_is);(case a_59=>k_is);(case l_59=>k_is);(case c_59=>k_is);(case k_59=>k_is);(case z_abs=>k_is);(case z_all=>k_is);(case z_enumerate=>k_is);(case z_len=>k_is);(case z_list=>k_is);(case z_range=>k_is);(case z_set=>k_is);(case z_sorted=>k_is);(case z_sum=>k_is);(case z_tuple=>k_is);(case z_zip=>k_is);(case y_BadKinds=>k_is);(case y_BadWord=>k_is);(case y_TooMany=>k_is);(case y_NoSuch=>k_is);(case y_NotOne=>k_is);(case y_BadDeed=>k_is);(case y_KNOWN_TIMES=>k_is);(case e_BadKinds=>kernel_rfl);(case e_BadWord=>kernel_rfl);(case e_TooMany=>kernel_rfl);(case e_NoSuch=>kernel_rfl);(case e_NotOne=>kernel_rfl);(case e_BadDeed=>kernel_rfl);(case g_FIRST_PRIME=>k_is);(case r_FIRST_PRIME=>exact ⟨_, rfl⟩);(case g_STEP=>k_is);(case r_STEP=>exact ⟨_, rfl⟩);(case g_LETTERS=>k_is);(case r_LETTERS=>exact ⟨_, rfl⟩);(case g_LONGEST=>k_is);(case r_LONGEST=>exact ⟨_, rfl⟩);(case g_MOST_OF_A_WEB=>k_is);(case r_MOST_OF_A_WEB=>exact ⟨_, rfl⟩);(case g_LONGEST_OF_A_WEB=>k_is);(case r_LONGEST_OF_A_WEB=>exact ⟨_, rfl⟩);(case kt=>kernel_rfl);(case pg_Web=>k_is);(case hd_Web=>k_is);(case po_Web=>k_is);(case sa_Web=>k_is);(case mk_Web=>k_is);(case kc_Web=>k_is);(case na_Web_words=>k_is);(case na_Web_length=>k_is);(case pg_Desk=>k_is);(case hd_Desk=>k_is);(case po_Desk=>k_is);(case sa_Desk=>k_is);(case mk_Desk=>k_is);(case kc_Desk=>k_is);(case na_Desk_web=>k_is);(case na_Desk_text=>k_is);(case i_Web_init=>k_is);(case i_Desk_init=>k_is);(case i_Desk_written=>k_is);(case i_Desk_done=>k_is);(case i_Desk_gone=>k_is);(case i_Desk_left=>k_is);(case i_Desk_home=>k_is);(case i_Desk_nexts=>k_is);(case i_Desk_ways=>k_is);(case i_Desk_ahead=>k_is);(case i_Desk_write=>k_is);(case i_Desk_back=>k_is)
#print axioms PySem.Challenge.cw_onceround_k76_whole_desk_numbers_holds
