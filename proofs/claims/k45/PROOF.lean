import PyProof.Rows.All
import Wide.All
import OpenK.AllK
import Wide.FinOn
import Lean
import PyProof.EqAt
import PyProof.EqKinds
import PyProof.TupleCall
import PyProof.NeKinds
import PyProof.SetNew
import PyProof.SetRoads
import PyProof.Rows.SetFrom
import PyProof.CollectStr
import PyProof.ZipIter
import PyProof.Rows.StrNews2
import PyProof.Rows.StrCut
import KE.KRevIter
import PySem.Challenge.RW_nearfind_k45_whole_found_in_kept
open Array renaming length_toList->ax,getElem_mem->bx,getElem?_toList->bV,getElem?_eq_getElem->cw,mem_toList_iff->c8,toList_extract->dc,getElem_extract->dq,getElem?_eq_some_iff->dv,toList_push->dy,getElem_toList->dB,toList_append->dL,append_empty->dR,getD_eq_getD_getElem?->em,toList_reverse->eJ,toList_zip->fO,size_extract->gu,toList_setIfInBounds->gD,perm_iff_toList_perm->gF,ext'->iP,reverse_empty->i3,toList->kF
open Bool renaming false_ne_true->a8,false_eq_true->bm,and_false->d8,and_eq_true->eD,not_true->eM,eq_iff_iff->fV,or_false->iW,or_eq_true_iff->iX,or_true->je,true_or->jh,not_eq_true'->jq,and_true->kf,and_self->km
open Classical renaming propDecidable->k7
open Decidable renaming byContradiction->dC
open Eq renaming trans->jI
open False renaming elim->cf
open ForInStep renaming yield->fY
open Int renaming eq_ofNat_of_zero_le->bv,toNat_natCast->de,emod_lt_of_pos->dj,emod_nonneg->du,le_trans->dH,zero_add->dI,natCast_nonneg->dU,mul_le_mul_of_nonneg_right->dW,le_refl->dY,add_zero->f6,fdiv_eq_ediv_of_nonneg->gz,natCast_ediv->jJ,mul_nonneg->j8,le_total->k5
open List renaming mem_cons_of_mem->al,length_map->am,range->aq,mem_cons_self->av,length_append->ay,mem_append_right->aA,getElem?_map->aD,map_cons->aE,replicate->aF,length_cons->aI,mem_cons->aN,getElem?_eq_some_iff->aP,mem_singleton->aT,getElem?_eq_getElem->aU,nodup_cons->aW,size_toArray->a7,getElem?_set->bo,mem_append->bu,length_range->bz,mem_append_left->bA,length_take->bB,getElem?_range->bC,getD_eq_getElem?_getD->bE,append_nil->bF,append_assoc->bG,drop_eq_getElem_cons->bK,map_append->bM,nodup_append->bN,mem_range->bR,map_congr_left->bX,lookup_cons->bZ,map_nil->b5,getElem?_append_left->b6,zip_cons_cons->b8,foldl_cons->cc,lookup->cj,mem_map->cv,length_singleton->cy,range_succ->cA,getElem?_append_right->cD,take_of_length_le->cF,pairwise_iff_getElem->cH,extract_eq_drop_take->cI,length_dropLast->cL,flatMap_cons->cN,nil_append->cO,length_nil->cQ,replicate_succ->cS,zipWith_cons_cons->cV,length_drop->cY,all_eq_true->cZ,length_replicate->c6,getElem?_take_of_lt->c9,mem_of_getElem?->da,map_map->db,getElem?_cons_succ->dg,getElem?_eq_none->dm,cons_lt_cons_iff->dr,flatten_cons->dw,pairwise_append->dz,range'->dD,getElem?_replicate->dM,mem_filter->dP,take_append_drop->ef,zipWith->ej,map_snd_zip->eE,isEmpty_nil->eF,mem_iff_getElem->eG,mergeSort_perm->eN,flatMap_append->eO,mem_filterMap->eS,pairwise_cons->eV,nodup_nil->eY,getElem?_cons_zero->e9,length_eq_zero_iff->fg,pairwise_singleton->fq,pairwise_mergeSort->fw,reverse_cons->fC,drop_eq_nil_of_le->fG,find?_cons_of_pos->fH,find?_cons_of_neg->fI,sum_cons->fJ,drop_length->fK,ext_getElem->fL,take_length->fM,not_mem_nil->fQ,perm_append_comm->fT,length_filter_le->fU,eq_nil_of_length_eq_zero->f7,filterMap_cons->gb,length->gh,getElem?_drop->gw,all_cons->gA,length_eraseIdx_of_lt->gC,pairwise_map->gJ,getElem?_eq_none_iff->gM,getLast?_eq_getElem?->gO,getLast?_eq_some_iff->gQ,getLast?_eq_none_iff->gR,cons_append->gZ,getElem_mem->g6,filter_cons_of_pos->hG,filter_cons_of_neg->hJ,of_mem_zip->ic,length_set->ie,length_zip->ij,range_zero->ik,getElem?_set_self->iq,map_id->iy,pairwise_lt_range->iA,dropLast_eq_take->iG,drop_zero->iH,pairwise_reverse->iJ,set_append_right->iK,countP_mono_left->iM,getElem?_set_ne->iN,getElem?_of_mem->iQ,dropLast_concat->iR,range'_append_1->iS,range_eq_range'->iU,take_succ_cons->iY,length_pos_iff->iZ,length_reverse->i6,map_singleton->jg,take_sublist->jm,foldl_append->jn,ext_getElem?->jo,getElem_drop->jp,reverse_perm->jr,map_dropLast->jw,getLast?_map->jx,not_lt->jB,map_fst_zip->jE,countP_cons->jF,getElem_map->jG,nil_sublist->jH,mem_flatMap->jK,map_flatMap->jL,flatMap_nil->jM,foldl->jO,forIn_cons->jR,filter_nil->jY,count_cons->jZ,forIn_nil->j0,take_zero->j4,drop_drop->j6,map->lZ
open List.Pairwise renaming nil->lR
open List.Perm renaming eq_of_pairwise->kY
open List.cons renaming inj->mh
open Nat renaming le_refl->ak,le_trans->aJ,zero_le->aO,lt_of_lt_of_le->aZ,ne_of_lt->bf,zero_add->bq,le_of_lt->bH,lt_irrefl->ca,le_succ->cE,lt_succ_of_lt->cM,lt_succ_self->dh,add_lt_of_lt_sub->dA,add_le_add_left->dJ,add_sub_cancel_left->dO,add_sub_cancel->dS,le_of_eq->dZ,add_comm->d9,min_le_right->eA,le_add_right->eH,min_eq_left->eP,ne_of_gt->eR,lt_of_le_of_lt->eU,lt_of_not_le->fN,lt_trans->fZ,not_lt->gN,add_zero->g5,sub_self->jd,min_eq_right->jD,min_le_left->jT,not_lt_zero->jV,add_assoc->kj,sub_zero->kU,min_self->kW,mod_lt->lv
open Ne renaming symm->cx
open Option renaming some->aa,none->ab,bind_some->aQ,bind->bY,map_some->cJ,join_some->eK,getD_none->gU,map_eq_some_iff->iC,none->ld,map->ly
open Option.some renaming inj->bg,injEq->lU
open Or renaming inl->az,inr->br
open Prod renaming snd->lY,fst->l6
open PyProof.Rows renaming wpS_bind->au,wpS_pure->aC,pendingOf->bn,wpS_forRange->ce,callWith_type1->cB,callWith_builtin1->fW,callWith_kw->kT
open PyProof.Rows.F renaming plain_set_update_loop->fz,entry_set_update_loop->g9
open PyProof.Rows.SortSt renaming mk'->eX
open PySem renaming Value->ae,Addr->af,Shared->ag,wpAny_bind->ai,wpAny_pure->ar,wpAny->aw,mainGlobals->aB,Program->aL,Around->aS,World->aX,bootBuiltins->a9,Heap->ba,sizeLine->be,starEach->bj,compareOp->bI,wpAny_holding->bO,FuncData->bQ,assignEach->bS,wpAny_mono->bU,mem_of_lookup->bW,foldedSetIterable->cg,sizeLine_eq->ci,attributeBase->ck,wpAny_Call_Name_kw->cC,Within->i9,call->jQ
open PySem.Around renaming under_plainId->cu,under->ja
open PySem.AutoListH renaming list___mul___list_int_3->jA
open PySem.Builtin.Builtins renaming bindParams->gk
open PySem.Builtin.Frozenset renaming updateFrom->j7,newClass->kg,addrOf->kZ,sizeOf->k0,slot0->k8
open PySem.Builtin.List renaming listExtendWith->cR,listTooLong->dE,listSameRef->dG,listLengthHint->ek,listUpdate->g8,listItems->iz,listTouch->lj
open PySem.Builtin.Range renaming rangeSize->k6
open PySem.Builtin.Str renaming strSliceIndices->cP,occurrences->eZ
open PySem.Builtin.Tuple renaming tupleHashOf->kE
open PySem.Calls renaming spliced_cons->gi,Name_function_global->gy,spliced_nil->gI,call_function_entry->gP,callWith_builtin->iw
open PySem.Code renaming isFrame->jb,frames->lb
open PySem.Data renaming seq->lV
open PySem.DictEntry renaming refKey->lW
open PySem.EqMixed renaming eq_bool_str->ku,eq_str_bool->kx,ne_bool_str->kC,ne_str_bool->kD,eq_int_str->kJ,eq_str_int->kL,ne_int_str->kQ,ne_str_int->kS
open PySem.EqNone renaming eq_none_none->ko,eq_none_bool->kr,eq_bool_none->kt,ne_none_none->ky,ne_none_bool->kz,ne_bool_none->kB,eq_none_int->kG,eq_none_str->kH,eq_int_none->kI,eq_str_none->kK,ne_none_int->kM,ne_none_str->kO,ne_int_none->kP,ne_str_none->kR
open PySem.Expr renaming Call->lP
open PySem.F renaming plain_min_loop->b7,called_set->dF,plainAttrs_list->dN,entry_min_loop->dX,slot_dict_get->fS,slot_list_append->gW,type_list_append->gX,plainAttrs_dict->g7,type_dict_get->iI,plain_extend_loop->i5,plain_list_iadd->jv,slot_int_rmul->jP,plain_set_new->jS,slot_set_iter->jX
open PySem.Heap renaming get?_push_of_some->aj,get?_push_size->aG,lt_size->aH,get?_update_other->bT,size_push->b9,get?_update_self->cK,SameBut->eQ,size_update->fP,get?_update_ne->i4,get?_push_ne->jt
open PySem.Heap.DictOf renaming new->l9
open PySem.Heap.IsList renaming push->l8
open PySem.Heap.IsSliceOf renaming new->lL
open PySem.Heap.IsTuple renaming push->lT
open PySem.Heap.SameBut renaming update->lI
open PySem.IsL renaming update->lX
open PySem.ItemsOf renaming nil->lh
open PySem.NameKind renaming free->bD,cell->cX
open PySem.Obj renaming mapSeq->bL,putSet->jW
open PySem.Paired renaming length->kc
open PySem.PassesOwn renaming never->mf
open PySem.SeqAt renaming EqAt->iO
open PySem.SeqAt.EqAt renaming of_refs->gq,same->ig,int_str->i7,str_int->i8,none_bool->lm,bool_none->ln,bool_bool->lq,none_int->lA,none_str->lB,bool_int->lC,bool_str->lD,int_none->lE,int_bool->lF,str_none->lG,str_bool->lH,int_int->lM,str_str->lN
open PySem.SeqAt.RcAt renaming lists_lengths->kX,tuples->lS,lists->l7
open PySem.SetTable renaming below->cn,insertAt->fF,orStandIn->jc,has->jf,slot->kh,fits->ki
open PySem.SetTable.below renaming go->fD
open PySem.SetTable.probe renaming go->ju
open PySem.Shared renaming TypeIs->gB
open PySem.Str renaming ofString->cU,length->jN,empty->lK
open PySem.StrLaws renaming strSliceIndices_plain->f9
open PySem.Txt renaming slice_le->gY,slice->j9
open PySem.Value renaming ref->bw,int->cr,type->di,none->eW,str->fR,bool->gL,isInt->ip,isStrOf->iV,isInt_shape->ji,float->jz,bytes->k9
open PySem.W renaming Frag->ah,nsIn->aK,keepIn->aM,codeIn->aR,fnOf->aV,mg_of->aY,findIn->bJ,mg_none_of->bP,kia_one->cz,emptyDict->cG,instObj->c7,plainGet->eu,isFn->eT,hasDictIn->fB,plainGet_of->gc,lookIn->gg,callWith_K->gj,methodObj->gG,plainOver->gH,takerIn->hU,makesIn->hZ,OpenLaw->ii,binds_K->im,cellsFrom_some->iu,kitOne->iE,methodCall_KW->iF,specialIn->jj,kitx_list->jk,kitx_dict->jl,handedIn->jC,kat_nil->jU,WalkO->ke
open PySem.W.Looks renaming here->lJ
open PySem.W.WData renaming int->lO
open PySem.W.WShape renaming has->lr
open PySem.Walks renaming list->lu
open PySem.Within renaming cons->lQ
open Sum renaming inr->bp,inl->gT
open Sum.inr renaming inj->jy
open True renaming intro->dQ
noncomputable section
set_option Elab.async false
set_option linter.all false
set_option maxRecDepth 100000
namespace L2
open PySem PySem.Spec PyProof.Rows
abbrev Key:=Sum Int Str
def keyIs:Key->ae->Bool
 | .inl k,v=>ip k v
 | .inr x,v=>iV x v
def keyH(w:aX):Key->Int
 | .inl k=>hashInt k
 | .inr x=>hashStr w x
theorem za8:∀ {k:Key} {v:ae},keyIs k v=true->(∃ i t,k=gT i/\v=cr i t) \/ (∃ x t,k=bp x/\v=fR x t)
 | .inl i,v,h=>by
  obtain⟨t,e⟩:=ji (k:=i) (v:=v) h
  exact .inl ⟨i,t,rfl,e⟩
 | .inr x,v,h=>by
  obtain⟨t,e⟩:=Value.isStrOf_shape (x:=x) (v:=v) h
  exact .inr ⟨x,t,rfl,e⟩
theorem key_ll(a b:Int):decide ((gT a:Key)=gT b)=(a == b):=by
 by_cases e:a=b
 ·subst e;simp
 ·have h:¬ (gT a:Key)=gT b:=fun q=>e (Sum.inl.inj q)
  rw[decide_eq_false h]
  exact(beq_eq_false_iff_ne.mpr e).symm
theorem key_rr(a b:Str):decide ((bp a:Key)=bp b)=decide (a=b):=by
 by_cases e:a=b
 ·subst e;simp
 ·have h:¬ (bp a:Key)=bp b:=fun q=>e (jy q)
  rw[decide_eq_false h,decide_eq_false e]
theorem key_lr(a:Int)(b:Str):decide ((gT a:Key)=bp b)=false:=decide_eq_false (fun q=>nomatch q)
theorem key_rl(a:Str)(b:Int):decide ((bp a:Key)=gT b)=false:=decide_eq_false (fun q=>nomatch q)
def zc6(prog:aL)(w:aX):PySem.KeyKind prog w Key where
 is:=keyIs
 hash:=keyH w
 inj:=fun v a b ha hb=>by
  rcases za8 ha with ⟨i,t,rfl,rfl⟩ | ⟨x,t,rfl,rfl⟩
  ·rcases za8 hb with ⟨j,u,rfl,e⟩ | ⟨y,u,rfl,e⟩
   ·injection e with e1 _;rw[e1]
   ·exact nomatch e
  ·rcases za8 hb with ⟨j,u,rfl,e⟩ | ⟨y,u,rfl,e⟩
   ·exact nomatch e
   ·injection e with e1 _;rw[e1]
 byValue:=fun k v h=>by
  rcases za8 h with ⟨i,t,rfl,rfl⟩ | ⟨x,t,rfl,rfl⟩ <;> rfl
 pyHash:=fun hv h=>by
  rcases za8 hv with ⟨i,t,rfl,rfl⟩ | ⟨x,t,rfl,rfl⟩
  ·exact wpAny_pyHash_int h
  ·exact wpAny_pyHash_str h
 eqBool:=fun hu hv h=>by
  rcases za8 hu with ⟨i,t,rfl,rfl⟩ | ⟨x,t,rfl,rfl⟩
  ·rcases za8 hv with ⟨j,u,rfl,rfl⟩ | ⟨y,u,rfl,rfl⟩
   ·rw[key_ll] at h;exact wpAny_eqBool_int h
   ·rw[key_lr] at h;exact i7 i t y u _ _ _ _ h
  ·rcases za8 hv with ⟨j,u,rfl,rfl⟩ | ⟨y,u,rfl,rfl⟩
   ·rw[key_rl] at h;exact i8 x t j u _ _ _ _ h
   ·rw[key_rr] at h;exact wpAny_eqBool_str h
 «strs» :=fun k x t v h=>by
  rcases za8 h with ⟨i,u,rfl,e⟩ | ⟨y,u,rfl,e⟩
  ·exact nomatch e
  ·injection e with e1 _
   subst e1
   cases v <;> rfl
end L2
namespace L2
open PySem PySem.Spec PyProof.Rows
inductive V where
 | non | bl (b:Bool) | int (i:Int) | str (x:Str) | byt (b:Array UInt8) | flt (b:UInt64) | ref (a:af) | ty (n:String)
 deriving DecidableEq
def RelV:V->ae->Prop
 | .non,u=>u=eW
 | .bl b,u=>u=gL b
 | .int i,u=>∃ t,u=cr i t
 | .str x,u=>∃ t,u=fR x t
 | .byt b,u=>∃ t,u=k9 b t
 | .flt b,u=>∃ t,u=jz b t
 | .ref a,u=>u=bw a
 | .ty n,u=>u=di n
abbrev Vals:List V->List ae->Prop:=Paired RelV
theorem Vals.length{xs:List V}{us:List ae}(r:Vals xs us):xs.length=us.length:=kc r
theorem Vals.get:∀ {xs:List V} {us:List ae} {i:Nat} {x:V},Vals xs us->xs[i]? = aa x->∃ u,us[i]? = aa u/\RelV x u
 | _,_,_,_,.nil,e=>by simp at e
 | _,_,0,_,.cons r _,e=>by simp at e;subst e;exact⟨_,rfl,r⟩
 | _,_,i+1,x,.cons _ t,e=>by
  obtain⟨u,h1,h2⟩:=Vals.get (i:=i) (x:=x) t (by simpa using e)
  exact⟨u,by simpa using h1,h2⟩
theorem Vals.set{x:V}{u:ae}(r:RelV x u):∀ {xs:List V} {us:List ae} (i:Nat),Vals xs us->Vals (xs.set i x) (us.set i u)
 | _,_,_,.nil=>.nil
 | _,_,0,.cons _ t=>.cons r t
 | _,_,i+1,.cons q t=>.cons q (Vals.set r i t)
theorem Vals.append:∀ {xs ys:List V} {us ws:List ae},Vals xs us->Vals ys ws->Vals (xs ++ ys) (us ++ ws)
 | _,_,_,_,.nil,s=>s
 | _,_,_,_,.cons r t,s=>.cons r (Vals.append t s)
theorem Vals.take:∀ {xs:List V} {us:List ae} (n:Nat),Vals xs us->Vals (xs.take n) (us.take n)
 | _,_,0,_=>.nil
 | _,_,_+1,.nil=>.nil
 | _,_,n+1,.cons r t=>.cons r (Vals.take n t)
theorem Vals.drop:∀ {xs:List V} {us:List ae} (n:Nat),Vals xs us->Vals (xs.drop n) (us.drop n)
 | _,_,0,r=>r
 | _,_,_+1,.nil=>.nil
 | _,_,n+1,.cons _ t=>Vals.drop n t
theorem Vals.none_of:∀ {xs:List V} {us:List ae} {i:Nat},Vals xs us->xs[i]? = ab->us[i]? = ab:=fun {xs us i} r e=>by
 have h1:=r.length
 have h2:xs.length<=i:=gM.mp e
 exact gM.mpr (by lia)
def RelO:Option V->Option ae->Prop
 | some v,aa u=>RelV v u
 | none,ab=>True
 | _,_=>False
def KV{κ:Type}:List (κ × V)->List (κ × ae)->Prop:=Paired fun(p:κ × V) (q:κ × ae)=>p.1=q.1/\RelV p.2 q.2
def kV:Key->V
 | .inl i=>.int i
 | .inr x=>.str x
inductive HO where
  | lst (xs:List V)
  | tup (xs:List V)
  | dK (kvs:List (Key × V)) | dT (kvs:List (List Key × V))
  | set (S:Int->Bool) (n:Nat)
  | ins (C dx:af) (fs:List (Str × V))
  | own (x:af)
  | xd (fs:List (Str × V))
  | met (f x:af)
  | rng (lo hi:Int)
  | frz (o:Obj) (u:HO)
  | tbl (ps:Array ae)
  | ext (φ:ba->Prop)
abbrev Hp:=af->Option HO
def upd(H:Hp)(a:af)(o:HO):Hp:=fun b=>if b=a then aa o else H b
theorem zah{H:Hp}{a:af}{o:HO}:upd H a o a=aa o:=by unfold upd;rw[if_pos rfl]
theorem zak{H:Hp}{a b:af}{o:HO}(h:b ≠ a):upd H a o b=H b:=by unfold upd;rw[if_neg h]
theorem zaD{H:Hp}{a b:af}{o:HO}(h:H a=aa o)(h':H b=ab):a ≠ b:=by
 intro e;subst e;rw[h] at h';cases h'
section
variable (P:aL)(w:aX)
def TupN(h:ba)(a:af)(ts:Array ae):Prop:=∃ o,h.get? a=aa o/\o.cls=.type "tuple" /\ ∃ n,(o.data,o.dict)=(lV ts n,ab)
theorem TupN.is{h:ba}{a:af}{ts:Array ae}(x:TupN h a ts):IsTup h a ts:=let⟨o,e,c,n,d⟩:=x;⟨o,e,c,n,(Prod.mk.inj d).1⟩
theorem TupN.lt{h:ba}{a:af}{ts:Array ae}(x:TupN h a ts):a<h.objs.size:=x.is.lt
theorem TupN.new(h:ba)(ts:Array ae):TupN (h.push { cls:=.type "tuple",data:=.seq ts}) h.objs.size ts:=⟨_,aG _ rfl,rfl,0,rfl⟩
instance {h:ba}{a:af}{ts:Array ae}:Coe (TupN h a ts) (IsTup h a ts):=⟨TupN.is⟩
def ObjOk(H:Hp)(h:ba)(a:af):HO->Prop
 | .lst xs=>xs.length<=be/\∃ (its:List ae) (n:Nat),Vals xs its/\h.get? a=aa { cls:=.type "list",data:=.seq its.toArray n}
 | .tup xs=>xs.length<=be/\∃ its:List ae,Vals xs its/\TupN h a its.toArray
 | .dK kvs=>kvs.length<=be/\(a == sysModules)=false/\∃ vs,KV kvs vs/\h.DictOf (zc6 P w) a vs
 | .dT kvs=>kvs.length<=be/\(a == sysModules)=false/\∃ xs:List (List Key × af × ae),
   Paired (fun(p:List Key × V) (q:List Key × af × ae)=>p.1=q.1/\H q.2.1=aa (.tup (p.1.map kV))/\RelV p.2 q.2.2) kvs xs /\
   ∃ o es ep,h.get? a=aa o/\o.ExactDict/\o.data=.dict es ep/\es.toList=xs.map (entryOfKey (tupleKind (zc6 P w)))/\(xs.map (·.1)).Nodup
 | .set S n=>h.SetOf (intKind P w) a S n
 | .ins C dx fs=>H dx=aa (.own a)/\fs.length<=1000/\dx ≠ a/\h.get? a=aa (c7 C dx) /\
   ∃ mA,h.Ns1 dx mA/\(∀ f,RelO (fs.lookup f) (mA f))/\i9 mA (fs.map (·.1))
 | .own _=>∃ o,h.get? a=aa o
 | .xd fs=>∃ mA,h.Ns1 a mA/\∀ f,RelO (fs.lookup f) (mA f)
 | .rng lo hi=>∃ t u v,h.get? a=aa { cls:=.type "range",data:=.fields #[.int lo t,.int hi u,.int 1 v]}
 | .frz o u=>h.get? a=aa o/\ObjOk H h a u
 | .tbl ps=>h.get? a=aa { cls:=.none,data:=.fields ps}
 | .met f x=>h.get? a=aa (gG (.ref f) (.ref x))
 | .ext φ=>φ h/\(∃ o,h.get? a=aa o)/\∀ h1 h2:ba,φ h1->(∀ o,h1.get? a=aa o->h2.get? a=aa o)->φ h2
def HOk(H:Hp)(h:ba):Prop:=∀ a o,H a=aa o->ObjOk P w H h a o
end
section
variable {P:aL}{w:aX}{H H':Hp}{h h':ba}{a:af}{o:HO}
theorem ObjOk.lt(x:ObjOk P w H h a o):a<h.objs.size:=by
 cases o with
 | lst xs=>obtain⟨_,_,_,_,e⟩:=x;exact aH e
 | tup xs=>obtain⟨_,_,_,p⟩:=x;exact p.lt
 | dK kvs=>obtain⟨_,_,_,_,o,_,_,e,_⟩:=x;exact aH e
 | dT kvs=>obtain⟨_,_,_,_,o,_,_,e,_⟩:=x;exact aH e
 | set S n=>obtain⟨o,_,_,_,e,_⟩:=x;exact aH e
 | ins C dx fs=>obtain⟨_,_,_,e,_⟩:=x;exact aH e
 | own y=>obtain⟨_,e⟩:=x;exact aH e
 | xd fs=>obtain⟨_,⟨_,_,_,e,_⟩,_⟩:=x;exact aH e
 | rng lo hi=>obtain⟨_,_,_,e⟩:=x;exact aH e
 | frz ob u=>obtain⟨e,_⟩:=x;exact aH e
 | tbl ps=>exact aH (show h.get? a=aa _ from x)
 | met f y=>exact aH (show h.get? a=aa _ from x)
 | ext φ=>obtain⟨_,⟨_,e⟩,_⟩:=x;exact aH e
theorem Paired.mapP{α β:Type}{F G:α->β->Prop}:∀ {l₁:List α} {l₂:List β},Paired F l₁ l₂->(∀ a b,F a b->G a b)->Paired G l₁ l₂
 | _,_,.nil,_=>.nil
 | _,_,.cons r t,f=>.cons (f _ _ r) (Paired.mapP t f)
theorem ObjOk.stay(x:ObjOk P w H h a o)(k:∀ b u,(b=a \/ H b=aa (.own a))->h.get? b=aa u->h'.get? b=aa u)
  (ho:∀ b,H b=aa (.own a)->H' b=aa (.own a)) (ht:∀ b xs,H b=aa (.tup xs)->H' b=aa (.tup xs)):ObjOk P w H' h' a o:=by
 induction o with
 | lst xs=>obtain⟨z,its,n,r,e⟩:=x;exact⟨z,its,n,r,k _ _ (.inl rfl) e⟩
 | tup xs=>obtain⟨z,its,r,ob,e,c⟩:=x;exact⟨z,its,r,ob,k _ _ (.inl rfl) e,c⟩
 | dK kvs=>obtain⟨z,y,vs,r,ob,es,ep,e,c⟩:=x;exact⟨z,y,vs,r,ob,es,ep,k _ _ (.inl rfl) e,c⟩
 | dT kvs=>
  obtain⟨z,y,xs,r,ob,es,ep,e,c⟩:=x
  exact⟨z,y,xs,Paired.mapP r fun p q z=>⟨z.1,ht _ _ z.2.1,z.2.2⟩,ob,es,ep,k _ _ (.inl rfl) e,c⟩
 | set S n=>obtain⟨ob,es,ep,t,e,c⟩:=x;exact⟨ob,es,ep,t,k _ _ (.inl rfl) e,c⟩
 | ins C dx fs=>
  obtain⟨d,z,ne,e,mA,⟨od,es,ep,e2,c⟩,r⟩:=x
  exact⟨ho _ d,z,ne,k _ _ (.inl rfl) e,mA,⟨od,es,ep,k _ _ (.inr d) e2,c⟩,r⟩
 | own y=>obtain⟨ob,e⟩:=x;exact⟨ob,k _ _ (.inl rfl) e⟩
 | xd fs=>obtain⟨mA,⟨od,es,ep,e,c⟩,r⟩:=x;exact⟨mA,⟨od,es,ep,k _ _ (.inl rfl) e,c⟩,r⟩
 | rng lo hi=>obtain⟨t,u,v,e⟩:=x;exact⟨t,u,v,k _ _ (.inl rfl) e⟩
 | frz ob u ih=>obtain⟨e,q⟩:=x;exact⟨k _ _ (.inl rfl) e,ih q⟩
 | tbl ps=>
  have e:h.get? a=aa { cls:=.none,data:=.fields ps}:=x
  show h'.get? a=aa { cls:=.none,data:=.fields ps}
  exact k a _ (.inl rfl) e
 | met f y=>
  have e:h.get? a=aa (gG (.ref f) (.ref y)):=x
  show h'.get? a=aa (gG (.ref f) (.ref y))
  exact k a _ (.inl rfl) e
 | ext φ=>obtain⟨p,⟨o,e⟩,st⟩:=x;exact⟨st _ _ p fun o q=>k _ _ (.inl rfl) q,⟨o,k _ _ (.inl rfl) e⟩,st⟩
theorem HOk.lt(x:HOk P w H h)(e:H a=aa o):a<h.objs.size:=(x a o e).lt
theorem HOk.fresh(x:HOk P w H h)(e:h.objs.size<=a):H a=ab:=by
 cases q:H a with
 | none=>rfl
 | some u=>exact absurd (aZ (x.lt q) e) (ca _)
theorem HOk.kept(x:HOk P w H h)(k:∀ b u,h.get? b=aa u->h'.get? b=aa u):HOk P w H h':=fun a o e=>
 (x a o e).stay (fun b u _ q=>k b u q) (fun _ q=>q) fun _ _ q=>q
theorem HOk.laid(x:HOk P w H h)(k:∀ b u,h.get? b=aa u->h'.get? b=aa u)(hp:h.objs.size<=a)(new:ObjOk P w (upd H a o) h' a o):HOk P w (upd H a o) h':=fun b u e=>by
 have hn:=x.fresh hp
 by_cases hb:b=a
 ·subst hb;rw[zah] at e;cases e;exact new
 ·rw[zak hb] at e
  exact(x b u e).stay (fun c v _ q=>k c v q) (fun c q=>by rw[zak (zaD q hn)];exact q) fun c xs q=>by rw[zak (zaD q hn)];exact q
end
def Rd(H:Hp)(a:af)(u:HO):Prop:=H a=aa u \/ ∃ o,H a=aa (.frz o u)
theorem Rd.of{H:Hp}{a:af}{u:HO}(h:H a=aa u):Rd H a u:=.inl h
theorem Rd.ok{P:aL}{w:aX}{H:Hp}{h:ba}{a:af}{u:HO}(r:Rd H a u)(x:HOk P w H h):ObjOk P w H h a u:=by
 rcases r with r | ⟨o,r⟩
 ·exact x a u r
 ·obtain⟨_,q⟩:=x a _ r
  exact q
def Mut:Option HO->Prop
 | some (.lst _)=>True
 | some (.dK _)=>True
 | some (.dT _)=>True
 | some (.set _ _)=>True
 | some (.ins _ _ _)=>True
 | some (.ext _)=>True
 | _=>False
section
variable {P:aL}{w:aX}{H:Hp}{h h':ba}{x e:af}{o':HO}
theorem HOk.write(ok:HOk P w H h)(mu:Mut (H x))(he:e=x \/ H e=aa (.own x))(k:∀ b u,b ≠ e->h.get? b=aa u->h'.get? b=aa u)(heo:∃ u,h'.get? e=aa u)
  (new:ObjOk P w (upd H x o') h' x o'):HOk P w (upd H x o') h':=fun b u q=>by
 have nown:∀ c y,H c=aa (.own y)->c ≠ x:=fun c y r z=>by subst z;rw[r] at mu;exact mu
 have ntup:∀ c xs,H c=aa (.tup xs)->c ≠ x:=fun c xs r z=>by subst z;rw[r] at mu;exact mu
 by_cases hb:b=x
 ·subst hb;rw[zah] at q;cases q;exact new
 ·rw[zak hb] at q
  by_cases hbe:b=e
  ·have q':H b=aa (.own x):=by
    rcases he with z | z
    ·exact absurd (hbe.trans z) hb
    ·rw[hbe];exact z
   rw[q] at q';cases q'
   obtain⟨v,hv⟩:=heo
   exact⟨v,by rw[hbe];exact hv⟩
  ·refine(ok b u q).stay (fun c v hc r=>k c v ?_ r) (fun c r=>by rw[zak (nown c b r)];exact r) fun c xs r=>by rw[zak (ntup c xs r)];exact r
   rcases hc with rfl | hc
   ·exact hbe
   ·rintro rfl
    rcases he with z | z
    ·exact nown c b hc z
    ·rw[hc] at z;cases z;exact hb rfl
end
structure Un(fs ex:List af)(H H':Hp)(h h':ba):Prop where
 keep:∀ b o,h.get? b=aa o->H b=ab->b ∉ fs->b ∉ ex->h'.get? b=aa o
 slot:∀ b o,h.get? b=aa o->H b=ab->b ∈ fs->b ∉ ex->∃ sl,h'.get? b=aa { o with slots:=sl}
 free:∀ b o,h.get? b=aa o->H b=ab->b ∉ ex->H' b=ab
 there:∀ b o,h.get? b=aa o->b ∉ ex->∃ o',h'.get? b=aa o'
 tups:∀ b xs,H b=aa (.tup xs)->H' b=aa (.tup xs)
 frzs:∀ b o u,H b=aa (.frz o u)->H' b=aa (.frz o u)
 tbls:∀ b ps,H b=aa (.tbl ps)->∃ more,H' b=aa (.tbl (ps ++ more))
section
variable {fs fs' ex ex':List af}{H H1 H2:Hp}{h h1 h2 h':ba}{a x e:af}{o:HO}
theorem Un.any(u:Un fs ex H H1 h h1){b:af}{ob:Obj}(q:h.get? b=aa ob)(n:H b=ab)(hx:b ∉ ex):∃ sl,h1.get? b=aa { ob with slots:=sl}:=by
 by_cases hb:b ∈ fs
 ·exact u.slot b ob q n hb hx
 ·exact⟨ob.slots,u.keep b ob q n hb hx⟩
theorem Un.kept(k:∀ b u,h.get? b=aa u->h'.get? b=aa u):Un fs ex H H h h':=
 ⟨fun b ob q _ _ _=>k b ob q,fun b ob q _ _ _=>⟨ob.slots,k b ob q⟩,fun _ _ _ n _=>n,fun b ob q _=>⟨ob,k b ob q⟩,fun _ _ q=>q,fun _ _ _ q=>q,fun _ ps q=>⟨#[],by rw[q];simp⟩⟩
theorem Un.refl:Un fs ex H H h h:=Un.kept fun _ _ q=>q
theorem Un.laid(k:∀ b u,h.get? b=aa u->h'.get? b=aa u)(hp:h.objs.size<=a)(hn:H a=ab):Un fs ex H (upd H a o) h h' where
 keep:=fun b u q _ _ _=>k b u q
 slot:=fun b u q _ _ _=>⟨u.slots,k b u q⟩
 free:=fun b u q n _=>by rw[zak (bf (aZ (aH q) hp))];exact n
 there:=fun b u q _=>⟨u,k b u q⟩
 tups:=fun b xs q=>by rw[zak (zaD q hn)];exact q
 frzs:=fun b u xs q=>by rw[zak (zaD q hn)];exact q
 tbls:=fun b ps q=>⟨#[],by rw[zak (zaD q hn),q];simp⟩
theorem Un.write(mu:Mut (H x))(he:e=x \/ H e=aa (.own x))(k:∀ b u,b ≠ e->h.get? b=aa u->h'.get? b=aa u)(heo:∃ u,h'.get? e=aa u):Un fs ex H (upd H x o) h h':=by
 have hx:∀ b,H b=ab->b ≠ x:=fun b n z=>by subst z;rw[n] at mu;exact mu
 have hb:∀ b,H b=ab->b ≠ e:=fun b n z=>by
  subst z
  rcases he with r | r
  ·exact hx b n r
  ·rw[n] at r;cases r
 have hm:∀ b u,H b=aa u->¬ Mut (aa u)->b ≠ x:=fun b u q nm z=>by subst z;rw[q] at mu;exact nm mu
 refine⟨fun b u q n _ _=>k b u (hb b n) q,fun b u q n _ _=>⟨u.slots,k b u (hb b n) q⟩,fun b u q n _=>by rw[zak (hx b n)];exact n,fun b u q _=>?_,
  fun b xs q=>by rw[zak (hm b _ q fun z=>z)];exact q,fun b u xs q=>by rw[zak (hm b _ q fun z=>z)];exact q,fun b ps q=>⟨#[],by rw[zak (hm b _ q fun z=>z),q];simp⟩⟩
 by_cases hbe:b=e
 ·subst hbe;exact heo
 ·exact⟨u,k b u hbe q⟩
end
def trk(h:ba)(H:Hp):List af:=(aq h.objs.size).filter fun a=>(H a).isSome
def hidT(h:ba)(H:Hp):ba:=PySem.W.hideAll h (trk h H)
theorem hidT_size(h:ba)(H:Hp):(hidT h H).objs.size=h.objs.size:=PySem.W.hideAll_size _ _
theorem hidT_get{h:ba}{H:Hp}{b:af}{o:Obj}(e:h.get? b=aa o)(n:H b=ab):(hidT h H).get? b=aa o:=
 PySem.W.hideAll_get _ e fun hm=>by
  have q:(H b).isSome=true:=(dP.mp hm).2
  rw[n] at q;simp at q
theorem of_hidT{h:ba}{H:Hp}{b:af}{o:Obj}(e:(hidT h H).get? b=aa o):h.get? b=aa o/\H b=ab:=by
 have e':h.get? b=aa o:=PySem.W.of_hideAll (trk h H) e
 refine⟨e',?_⟩
 cases q:H b with
 | none=>rfl
 | some x=>
  have hm:b ∈ trk h H:=dP.mpr ⟨bR.mpr (aH e'),by simp[q]⟩
  have z:(hidT h H).get? b=ab:=PySem.W.hideAll_none (trk h H) hm
  rw[z] at e;cases e
def allNews(g h:ba)(L:af):List (af × Obj):=(aq h.objs.size).filterMap fun a=>if a=L \/ (g.get? a).isSome=true then ab else (h.get? a).map fun o=>(a,o)
def rest(g h:ba)(L d:af):List (af × Obj):=(allNews g h L).filter fun p=>decide (p.1 ≠ d)
end L2
namespace L2
open PySem PySem.Spec PyProof.Rows
structure Mod(K:ah)(mg:Str->Option ae)(base:ba):Prop where
 kin:K.In base
 glob:base.Ns aB mg
 blt:∃ mb,base.Ns builtinsNs mb/\∀ x:Str,x ≠ "__name__" -> mb x=a9 x
 nolimit:base.NoLimit
structure Cx where
 prog:aL
 w:aX
 K:ah
 mg:Str->Option ae
 base:ba
 A:aS
 N:List Str
 s₀:ag
 H₀:Hp
 env:Env
 outer:List Env
 stack:List Env
 ex:List af
 fn:Str->Bool
 calm:Bool
 pn:List (af × Obj)
 xe:ae->ag->Prop
def frs(l:List Env):List af:=l.filterMap (·.frame)
abbrev Cx.fs(X:Cx):List af:=frs X.outer
def Vis(sc:Scope)(x:Str):Prop:=sc.names.lookup x=aa .local \/ sc.names.lookup x=aa .cell \/ sc.names.lookup x=aa .free
def Loc(sc:Scope)(x:Str):Prop:=sc.names.lookup x=aa .local \/ sc.names.lookup x=aa .cell
def Look(env:Env)(h:ba)(m:Str->Option ae)(x:Str)(u:ae):Prop:=
 (env.kindOf x=aa .local/\m x=aa u) \/ ((env.kindOf x=aa .cell \/ env.kindOf x=aa .free)/\∃ c,env.cells.lookup x=aa c/\h.IsCell c (aa u))
structure Cx.Ok(X:Cx):Prop where
 mod:Mod X.K X.mg X.base
 kind:X.env.scope.kind=.function
 glob:X.env.globals=aB
 blt:X.env.builtins=builtinsNs
 above:X.s₀.heap.objs.size<=X.env.locals
 inj:∀ x y c,X.env.cells.lookup x=aa c->X.env.cells.lookup y=aa c->x=y
 has:∀ x,(X.env.kindOf x=aa .cell \/ X.env.kindOf x=aa .free)->∃ c,X.env.cells.lookup x=aa c
 cab:∀ x c,X.fn x=true->X.env.cells.lookup x=aa c->X.s₀.heap.objs.size<=c
 hd:X.calm=true->X.A.handled=ab
 frames:X.A.frames=aa X.stack
 stk:X.stack=X.outer \/ (X.stack=X.env :: X.outer/\X.env.frame=aa X.env.locals)
 exf:∀ b ∈ X.ex,b ≠ X.env.locals/\∀ x c,X.env.cells.lookup x=aa c->c ≠ b
 bs:∀ b o,X.base.get? b=aa o->X.s₀.heap.get? b=aa o/\X.H₀ b=ab
 bsz:X.base.objs.size<=X.s₀.heap.objs.size
 noex:∀ b o,X.base.get? b=aa o->b ∉ X.ex
 exfs:∀ b ∈ X.ex,b ∉ X.fs
 funs:X.s₀.heap.FunFrames X.base X.outer
 frf:∀ b ∈ X.fs,X.H₀ b=ab
structure Inv(X:Cx)(pins:List (af × Obj))(σ:List (Option V))(H:Hp)(s:ag):Prop where
 ok:X.Ok
 os:s.os=X.s₀.os
 bare:AllBare s.gens
 base:Un X.fs X.ex X.H₀ H X.s₀.heap s.heap
 loc:∃ m,s.heap.Ns X.env.locals m/\∀ (i:Nat) (x:Str) (v:V),X.N[i]? = aa x->σ[i]? = aa (aa v)->Vis X.env.scope x->∃ u,RelV v u/\Look X.env s.heap m x u
 cell:∀ x c,X.env.cells.lookup x=aa c->∃ v,s.heap.IsCell c v
 free:H X.env.locals=ab
 freeC:∀ x c,X.env.cells.lookup x=aa c->H c=ab
 pin:∀ p ∈ X.pn ++ pins,s.heap.get? p.1=aa p.2/\H p.1=ab/\p.1 ≠ X.env.locals/\p.1 ∉ X.fs/\∀ v,p.2.data ≠ .cell v
 hok:HOk X.prog X.w H s.heap
 len:σ.length=X.N.length
section
variable {X:Cx}{pins:List (af × Obj)}{σ:List (Option V)}{H H':Hp}{s:ag}{h':ba}
theorem Cx.Ok.nofr(ok:X.Ok){b:af}{o:Obj}(e:X.base.get? b=aa o):b ∉ X.fs:=fun hb=>by
 have:=(ok.funs.mem hb).1
 rw[e] at this;cases this
theorem Inv.bs(I:Inv X pins σ H s):∀ b o,X.base.get? b=aa o->s.heap.get? b=aa o/\H b=ab:=fun b o e=>
 ⟨I.base.keep b o (I.ok.bs b o e).1 (I.ok.bs b o e).2 (I.ok.nofr e) (I.ok.noex b o e),I.base.free b o (I.ok.bs b o e).1 (I.ok.bs b o e).2 (I.ok.noex b o e)⟩
theorem Inv.bk(I:Inv X pins σ H s):∀ b o,X.base.get? b=aa o->s.heap.get? b=aa o:=fun b o e=>(I.bs b o e).1
theorem Inv.mod(I:Inv X pins σ H s):Mod X.K X.mg X.base:=I.ok.mod
theorem Inv.kIn(I:Inv X pins σ H s):X.K.In s.heap:=I.ok.mod.kin.keeps I.bk
theorem Inv.lt(I:Inv X pins σ H s):X.env.locals<s.heap.objs.size:=let⟨_,hn,_⟩:=I.loc;hn.lt
theorem Inv.sz(I:Inv X pins σ H s):X.s₀.heap.objs.size<=s.heap.objs.size:=aJ I.ok.above (bH I.lt)
theorem Inv.nofs(I:Inv X pins σ H s){a:af}(h:s.heap.objs.size<=a):a ∉ X.fs:=fun hb=>by
 obtain⟨_,o,ho,_⟩:=I.ok.funs.mem hb
 exact absurd (aZ (aH ho) (aJ I.sz h)) (ca _)
theorem Inv.cne(I:Inv X pins σ H s):∀ x c,X.env.cells.lookup x=aa c->c ≠ X.env.locals:=fun x c e z=>by
 obtain⟨v,o,ho,hd⟩:=I.cell x c e
 obtain⟨m,⟨o',es,ep,ho',hd',_⟩,_⟩:=I.loc
 rw[z,ho'] at ho;cases ho;rw[hd'] at hd;cases hd
theorem Inv.funs(I:Inv X pins σ H s):s.heap.FunFrames X.base X.outer:=by
 have all:∀ (l:List Env),(∀ b ∈ frs l,b ∈ X.fs)->X.s₀.heap.FunFrames X.base l->s.heap.FunFrames X.base l:=by
  intro l
  induction l with
  | nil=>intro _ _;trivial
  | cons env r ih=>
   intro hs hl
   obtain⟨hk,⟨L,o,hf,hn,ho,hd⟩,hr⟩:=hl
   have hL:L ∈ X.fs:=hs L (by unfold frs;rw[gb,hf];exact av)
   obtain⟨sl,e⟩:=I.base.slot L o ho (I.ok.frf L hL) hL fun z=>I.ok.exfs L z hL
   exact⟨hk,⟨L,_,hf,hn,e,hd⟩,ih (fun b hb=>hs b (by unfold frs;rw[gb,hf];exact al _ hb)) hr⟩
 exact all X.outer (fun _ hb=>hb) I.ok.funs
theorem Inv.stack(I:Inv X pins σ H s):s.heap.FunFrames X.base X.stack:=by
 rcases I.ok.stk with e | ⟨e,hf⟩
 ·rw[e];exact I.funs
 ·rw[e]
  obtain⟨m,hn,_⟩:=I.loc
  refine .cons (by rw[I.ok.kind];decide) hf hn ?_ I.funs
  exact Heap.get?_none_of_le (aJ I.ok.bsz I.ok.above)
theorem Inv.stkSub(I:Inv X pins σ H s):∀ b ∈ frs X.stack,b ∈ X.env.locals :: X.fs:=fun b hb=>by
 rcases I.ok.stk with e | ⟨e,hf⟩
 ·rw[e] at hb;exact al _ hb
 ·rw[e] at hb
  unfold frs at hb
  rw[gb,hf] at hb
  exact hb
theorem Inv.stkFree(I:Inv X pins σ H s):∀ b ∈ frs X.stack,H b=ab:=fun b hb=>by
 rcases aN.mp (I.stkSub b hb) with e | hb
 ·rw[e];exact I.free
 ·obtain⟨_,o,ho,_⟩:=I.ok.funs.mem hb
  exact I.base.free b o ho (I.ok.frf b hb) fun z=>I.ok.exfs b z hb
theorem Inv.step{g':Array GenState}{t':Nat}{d':Drawn}{ch:List af}(I:Inv X pins σ H s)
  (hch:∀ b ∈ ch,(b ∈ X.ex \/ X.s₀.heap.objs.size<=b)/\b ≠ X.env.locals/\(∀ x c,X.env.cells.lookup x=aa c->c ≠ b)/\∀ p ∈ X.pn ++ pins,p.1 ≠ b)
  (keep:∀ b o,b ≠ X.env.locals->b ∉ X.fs->b ∉ ch->s.heap.get? b=aa o->H b=ab->h'.get? b=aa o)
  (slot:∀ b o,b ≠ X.env.locals->b ∈ X.fs->b ∉ ch->s.heap.get? b=aa o->H b=ab->∃ sl,h'.get? b=aa { o with slots:=sl}) (free:∀ b o,b ∉ ch->s.heap.get? b=aa o->H b=ab->H' b=ab)
  (there:∀ b o,b ∉ ch->s.heap.get? b=aa o->∃ o',h'.get? b=aa o')
  (tups:∀ b xs,H b=aa (.tup xs)->H' b=aa (.tup xs)) (frzs:∀ b o u,H b=aa (.frz o u)->H' b=aa (.frz o u)) (tbls:∀ b ps,H b=aa (.tbl ps)->∃ more,H' b=aa (.tbl (ps ++ more)))
  (ns:∀ m,s.heap.Ns X.env.locals m->h'.Ns X.env.locals m) (hok:HOk X.prog X.w H' h') (hg:AllBare g') :
  Inv X pins σ H' { s with heap:=h',gens:=g',drawn:=d',toks:=t'}:=by
 have neL:∀ b o,X.s₀.heap.get? b=aa o->b ≠ X.env.locals:=fun b o e=>bf (aZ (aH e) I.ok.above)
 have neC:∀ b o,X.s₀.heap.get? b=aa o->b ∉ X.ex->b ∉ ch:=fun b o e hx hb=>by
  rcases (hch b hb).1 with z | z
  ·exact hx z
  ·exact absurd (aZ (aH e) z) (ca _)
 have cellK:∀ x c,X.env.cells.lookup x=aa c->∀ v,s.heap.IsCell c v->h'.IsCell c v:=fun x c e v ⟨o,ho,hd⟩=>by
  have nch:c ∉ ch:=fun z=>(hch c z).2.2.1 x c e rfl
  by_cases hc:c ∈ X.fs
  ·obtain⟨sl,q⟩:=slot c o (I.cne x c e) hc nch ho (I.freeC x c e)
   exact⟨_,q,hd⟩
  ·exact⟨o,keep c o (I.cne x c e) hc nch ho (I.freeC x c e),hd⟩
 refine⟨I.ok,I.os,hg,⟨fun b o e n hb hx=>?_,fun b o e n hb hx=>?_,fun b o e n hx=>?_,fun b o e hx=>?_,fun b xs e=>tups b xs (I.base.tups b xs e),fun b o xs e=>frzs b o xs (I.base.frzs b o xs e),fun b ps e=>?_⟩,?_,fun x c e=>?_,?_,fun x c e=>?_,fun p hp=>?_,hok,I.len⟩
 ·exact keep b o (neL b o e) hb (neC b o e hx) (I.base.keep b o e n hb hx) (I.base.free b o e n hx)
 ·obtain⟨sl,e1⟩:=I.base.slot b o e n hb hx
  obtain⟨sl',e2⟩:=slot b _ (neL b o e) hb (neC b o e hx) e1 (I.base.free b o e n hx)
  exact⟨sl',e2⟩
 ·obtain⟨o',e1⟩:=I.base.there b o e hx
  exact free b o' (neC b o e hx) e1 (I.base.free b o e n hx)
 ·obtain⟨o',e1⟩:=I.base.there b o e hx
  exact there b o' (neC b o e hx) e1
 ·obtain⟨m1,e1⟩:=I.base.tbls b ps e
  obtain⟨m2,e2⟩:=tbls b _ e1
  exact⟨m1 ++ m2,by rw[e2,Array.append_assoc]⟩
 ·obtain⟨m,hn,hl⟩:=I.loc
  refine⟨m,ns m hn,fun i x v e1 e2 e3=>?_⟩
  obtain⟨u,r,l⟩:=hl i x v e1 e2 e3
  refine⟨u,r,?_⟩
  rcases l with l | ⟨k,c,e,z⟩
  ·exact .inl l
  ·exact .inr ⟨k,c,e,cellK x c e _ z⟩
 ·obtain⟨v,z⟩:=I.cell x c e
  exact⟨v,cellK x c e v z⟩
 ·obtain⟨m,⟨o,_,_,ho,_⟩,_⟩:=I.loc
  exact free _ o (fun z=>(hch _ z).2.1 rfl) ho I.free
 ·obtain⟨v,o,ho,hd⟩:=I.cell x c e
  exact free c o (fun z=>(hch c z).2.2.1 x c e rfl) ho (I.freeC x c e)
 ·obtain⟨e,n,ne,nf,d⟩:=I.pin p hp
  have nch:p.1 ∉ ch:=fun z=>(hch p.1 z).2.2.2 p hp rfl
  exact⟨keep p.1 p.2 ne nf nch e n,free p.1 p.2 nch e n,ne,nf,d⟩
theorem Inv.un{t':Nat}(I:Inv X pins σ H s)(u:Un X.fs [] H H' s.heap h')(hok:HOk X.prog X.w H' h'):Inv X pins σ H' { s with heap:=h',toks:=t'}:=by
 obtain⟨m,⟨o,es,ep,ho,r⟩,_⟩:=id I.loc
 obtain⟨sl,hL⟩:=u.any ho I.free (by simp)
 exact I.step (g':=s.gens) (d':=s.drawn) (ch:=[]) (fun _ z=>nomatch z) (fun b o _ hb _ e n=>u.keep b o e n hb (by simp)) (fun b o _ hb _ e n=>u.slot b o e n hb (by simp)) (fun b o _ e n=>u.free b o e n (by simp)) (fun b o _ e=>u.there b o e (by simp)) u.tups u.frzs u.tbls (fun m' hm=>by
  obtain⟨o',es',ep',ho',r'⟩:=hm
  rw[ho] at ho';cases ho'
  exact⟨_,es',ep',hL,r'⟩) hok I.bare
theorem Inv.call{g':Array GenState}{t':Nat}{d':Drawn}{ch:List af}(I:Inv X pins σ H s)(u:Un (frs X.stack) ch H H' s.heap h')(hok:HOk X.prog X.w H' h')(hg:AllBare g')
  (hch:∀ b ∈ ch,(b ∈ X.ex \/ X.s₀.heap.objs.size<=b)/\b ≠ X.env.locals/\(∀ x c,X.env.cells.lookup x=aa c->c ≠ b)/\∀ p ∈ X.pn ++ pins,p.1 ≠ b) :
  Inv X pins σ H' { s with heap:=h',gens:=g',drawn:=d',toks:=t'}:=by
 obtain⟨m,⟨o,es,ep,ho,r⟩,_⟩:=id I.loc
 obtain⟨sl,hL⟩:=u.any ho I.free fun z=>(hch _ z).2.1 rfl
 exact I.step (ch:=ch) hch (fun b o hL hb hc e n=>u.keep b o e n (fun z=>(aN.mp (I.stkSub b z)).elim hL hb) hc) (fun b o _ _ hc e n=>u.any e n hc) (fun b o hc e n=>u.free b o e n hc) (fun b o hc e=>u.there b o e hc) u.tups u.frzs u.tbls (fun m' hm=>by
  obtain⟨o',es',ep',ho',r'⟩:=hm
  rw[ho] at ho';cases ho'
  exact⟨_,es',ep',hL,r'⟩) hok hg
theorem Inv.turned{t':Nat}{it:af}(I:Inv X pins σ H s)(k:∀ b o,b ≠ it->s.heap.get? b=aa o->h'.get? b=aa o)(hn:H it=ab)(hL:it ≠ X.env.locals)
  (h1:it ∈ X.ex \/ X.s₀.heap.objs.size<=it) (h2:∀ x c,X.env.cells.lookup x=aa c->c ≠ it) (h3:∀ p ∈ X.pn ++ pins,p.1 ≠ it):Inv X pins σ H { s with heap:=h',toks:=t'}:=by
 have nit:∀ b u,H b=aa u->b ≠ it:=fun b u e z=>by rw[z,hn] at e;cases e
 refine I.step (g':=s.gens) (d':=s.drawn) (ch:=[it]) (fun b hb=>?_) (fun b o _ _ hc e _=>k b o (fun z=>hc (by simp[z])) e) (fun b o _ _ hc e _=>⟨o.slots,k b o (fun z=>hc (by simp[z])) e⟩) (fun _ _ _ _ n=>n)
  (fun b o hc e=>⟨o,k b o (fun z=>hc (by simp[z])) e⟩) (fun _ _ e=>e) (fun _ _ _ e=>e) (fun b ps e=>⟨#[],by rw[e];simp⟩) (fun m hm=>?_) (fun b u e=>?_) I.bare
 ·have e:b=it:=by simpa using hb
  subst e
  exact⟨h1,hL,h2,h3⟩
 ·obtain⟨o,es,ep,ho,r⟩:=hm
  exact⟨o,es,ep,k _ o (cx hL) ho,r⟩
 ·refine(I.hok b u e).stay (fun c v hc q=>k c v ?_ q) (fun _ q=>q) fun _ _ q=>q
  rcases hc with z | z
  ·rw[z];exact nit b u e
  ·exact nit c _ z
theorem Inv.tok(I:Inv X pins σ H s)(t:Nat):Inv X pins σ H { s with toks:=t}:=I.un (h':=s.heap) (t':=t) Un.refl I.hok
theorem Inv.kept{t':Nat}(I:Inv X pins σ H s)(k:∀ b u,s.heap.get? b=aa u->h'.get? b=aa u):Inv X pins σ H { s with heap:=h',toks:=t'}:=I.un (Un.kept k) (I.hok.kept k)
theorem Inv.laid{a:af}{o:HO}{t':Nat}(I:Inv X pins σ H s)(k:∀ b u,s.heap.get? b=aa u->h'.get? b=aa u)(hp:s.heap.objs.size<=a)(new:ObjOk X.prog X.w (upd H a o) h' a o) :
  Inv X pins σ (upd H a o) { s with heap:=h',toks:=t'}:=I.un (Un.laid k hp (I.hok.fresh hp)) (I.hok.laid k hp new)
theorem Inv.write{x e:af}{o:HO}{t':Nat}(I:Inv X pins σ H s)(mu:Mut (H x))(he:e=x \/ H e=aa (.own x))(k:∀ b u,b ≠ e->s.heap.get? b=aa u->h'.get? b=aa u)(heo:∃ u,h'.get? e=aa u)
  (new:ObjOk X.prog X.w (upd H x o) h' x o):Inv X pins σ (upd H x o) { s with heap:=h',toks:=t'}:=I.un (Un.write mu he k heo) (I.hok.write mu he k heo new)
theorem Inv.pins_of{pins':List (af × Obj)}(I:Inv X pins σ H s)(h:∀ p ∈ pins',s.heap.get? p.1=aa p.2/\H p.1=ab/\p.1 ≠ X.env.locals/\p.1 ∉ X.fs/\∀ v,p.2.data ≠ .cell v):Inv X pins' σ H s:=
 ⟨I.ok,I.os,I.bare,I.base,I.loc,I.cell,I.free,I.freeC,fun p hp=>(bu.mp hp).elim (fun z=>I.pin p (bA _ z)) (h p),I.hok,I.len⟩
theorem zhS{N:List Str}(hN:N.Nodup){i j:Nat}{x:Str}(a:N[i]? = aa x)(b:N[j]? = aa x):i=j:=by
 obtain⟨h1,e1⟩:=aP.mp a
 obtain⟨h2,e2⟩:=aP.mp b
 exact(List.getElem_inj hN).mp (e1.trans e2.symm)
theorem zgL{M:Model}{A:aS}{E:ae->ag->Prop}{i:Nat}{x:Str}{v:V}{u:ae}{Q:Unit->ag->Prop}(I:Inv X pins σ H s)(hN:X.N.Nodup)(hi:X.N[i]? = aa x)(hx:Loc X.env.scope x)(r:RelV v u)
  (h:∀ s',Inv X pins (σ.set i (aa v)) H s'->(∃ a,eQ a s.heap s'.heap/\(a=X.env.locals \/ X.env.cells.lookup x=aa a))->Q () s') (hf:X.fn x=true \/ X.env.scope.names.lookup x=aa .local:=by first | exact .inl rfl | exact .inr rfl | assumption):aw M A (storeName X.env x u) Q E s:=by
 obtain⟨m,hn,hl⟩:=id I.loc
 have hcls:(X.env.scope.kind == .class || (X.env.scope.kind == .module && X.env.locals != X.env.globals))=false:=by rw[I.ok.kind];rfl
 have hiσ:i<σ.length:=by rw[I.len];exact(aP.mp hi).1
 have cne:=I.cne
 have tracked:∀ {a:af} {h':ba},(∃ o,s.heap.get? a=aa o/\H a=ab)->eQ a s.heap h'->HOk X.prog X.w H h':=fun {a h'} ha hs b ob e=>by
  obtain⟨_,_,hfree⟩:=ha
  refine(I.hok b ob e).stay (fun c w' hc q=>(hs.2 c ?_).trans q) (fun _ q=>q) fun _ _ q=>q
  rintro rfl
  rcases hc with rfl | hc
  ·rw[hfree] at e;cases e
  ·rw[hfree] at hc;cases hc
 rcases hx with hk | hk
 ·refine wpAny_storeName_local hk hn (fun h' hn' hs=>?_) hcls
  obtain⟨oL,_,_,hoL,_⟩:=id hn
  refine h _ ⟨I.ok,I.os,I.bare,⟨fun b o e n hb hx=>?_,fun b o e n hb hx=>?_,I.base.free,fun b o e hx=>?_,I.base.tups,I.base.frzs,I.base.tbls⟩,⟨_,hn',fun j y v' e1 e2 e3=>?_⟩,fun y c e=>?_,I.free,I.freeC,fun p hp=>?_,tracked ⟨oL,hoL,I.free⟩ hs,by simpa using I.len⟩ ⟨_,hs,.inl rfl⟩
  ·exact(hs.2 b (bf (aZ (aH e) I.ok.above))).trans (I.base.keep b o e n hb hx)
  ·obtain⟨sl,e1⟩:=I.base.slot b o e n hb hx
   exact⟨sl,(hs.2 b (bf (aZ (aH e) I.ok.above))).trans e1⟩
  ·obtain⟨o',e1⟩:=I.base.there b o e hx
   exact⟨o',(hs.2 b (bf (aZ (aH e) I.ok.above))).trans e1⟩
  ·by_cases hj:j=i
   ·subst hj
    rw[hi] at e1;cases e1
    rw[iq hiσ] at e2
    cases e2
    exact⟨u,r,.inl ⟨hk,by simp⟩⟩
   ·rw[iN (cx hj)] at e2
    obtain⟨u',r',q⟩:=hl j y v' e1 e2 e3
    refine⟨u',r',?_⟩
    rcases q with ⟨k,e⟩ | ⟨k,c,e,z⟩
    ·refine .inl ⟨k,?_⟩
     have:y ≠ x:=fun e=>hj (zhS hN e1 (e ▸ hi))
     simp[this,e]
    ·exact .inr ⟨k,c,e,z.sameBut hs (cne y c e)⟩
  ·obtain⟨w',z⟩:=I.cell y c e
   exact⟨w',z.sameBut hs (cne y c e)⟩
  ·obtain⟨e,n,ne,nf,d⟩:=I.pin p hp
   exact⟨(hs.2 p.1 ne).trans e,n,ne,nf,d⟩
 ·have hfn:X.fn x=true:=by
   rcases hf with z | z
   ·exact z
   ·rw[z] at hk;cases hk
  obtain⟨c,hc⟩:=I.ok.has x (.inl hk)
  obtain⟨w',z⟩:=I.cell x c hc
  refine wpAny_storeName_cell I.ok.kind hk hc z (fun h' hc' hs=>?_)
  obtain⟨oc,hoc,hocd⟩:=id z
  refine h { s with heap:=h'} ⟨I.ok,I.os,I.bare,⟨fun b o e n hb hx=>?_,fun b o e n hb hx=>?_,I.base.free,fun b o e hx=>?_,I.base.tups,I.base.frzs,I.base.tbls⟩,⟨m,hn.sameBut hs (cx (cne x c hc)),fun j y v' e1 e2 e3=>?_⟩,fun y c' e=>?_,I.free,I.freeC,fun p hp=>?_,tracked ⟨oc,hoc,I.freeC x c hc⟩ hs,by simpa using I.len⟩ ⟨c,hs,.inr hc⟩
  ·exact(hs.2 b (bf (aZ (aH e) (I.ok.cab x c hfn hc)))).trans (I.base.keep b o e n hb hx)
  ·obtain⟨sl,e1⟩:=I.base.slot b o e n hb hx
   exact⟨sl,(hs.2 b (bf (aZ (aH e) (I.ok.cab x c hfn hc)))).trans e1⟩
  ·obtain⟨o',e1⟩:=I.base.there b o e hx
   exact⟨o',(hs.2 b (bf (aZ (aH e) (I.ok.cab x c hfn hc)))).trans e1⟩
  ·by_cases hj:j=i
   ·subst hj
    rw[hi] at e1;cases e1
    rw[iq hiσ] at e2
    cases e2
    exact⟨u,r,.inr ⟨.inl hk,c,hc,hc'⟩⟩
   ·rw[iN (cx hj)] at e2
    obtain⟨u',r',q⟩:=hl j y v' e1 e2 e3
    refine⟨u',r',?_⟩
    rcases q with q | ⟨k,c',e,z'⟩
    ·exact .inl q
    ·refine .inr ⟨k,c',e,z'.sameBut hs ?_⟩
     rintro rfl
     exact hj (zhS hN e1 (I.ok.inj _ _ _ e hc ▸ hi))
  ·by_cases hcc:c'=c
   ·subst hcc;exact⟨_,hc'⟩
   ·obtain⟨w2,z2⟩:=I.cell y c' e
    exact⟨w2,z2.sameBut hs hcc⟩
  ·obtain⟨e,n,ne,nf,d⟩:=I.pin p hp
   refine⟨(hs.2 p.1 ?_).trans e,n,ne,nf,d⟩
   intro q
   rw[q,hoc] at e
   have q':oc=p.2:=bg e
   exact d w' (by rw[<- q'];exact hocd)
theorem zfN{M:Model}{A:aS}{E:ae->ag->Prop}{i:Nat}{x:Str}{v:V}{u:ae}{Q:Unit->ag->Prop}(I:Inv X pins σ H s)(hN:X.N.Nodup)(hi:X.N[i]? = aa x)(hx:Loc X.env.scope x)(r:RelV v u)
  (h:∀ s',Inv X pins (σ.set i (aa v)) H s'->Q () s') (hf:X.fn x=true \/ X.env.scope.names.lookup x=aa .local:=by first | exact .inl rfl | exact .inr rfl | assumption):aw M A (storeName X.env x u) Q E s:=
 zgL I hN hi hx r (fun s' I' _=>h s' I') hf
theorem Inv.call'{s':ag}{ch:List af}(I:Inv X pins σ H s)(ho:s'.os=s.os)(u:Un (frs X.stack) ch H H' s.heap s'.heap)(hok:HOk X.prog X.w H' s'.heap)(hg:AllBare s'.gens)
  (hch:∀ b ∈ ch,(b ∈ X.ex \/ X.s₀.heap.objs.size<=b)/\b ≠ X.env.locals/\(∀ x c,X.env.cells.lookup x=aa c->c ≠ b)/\∀ p ∈ X.pn ++ pins,p.1 ≠ b):Inv X pins σ H' s':=by
 obtain⟨h',g',d',t',o'⟩:=s'
 have e:o'=s.os:=ho
 subst e
 exact I.call (g':=g') (t':=t') (d':=d') u hok hg hch
end
abbrev XK:=ae->Option af->Hp->Prop
abbrev St:=List (Option V)
abbrev VK:=V->Hp->Prop
abbrev TE:=St->Hp->VK->Prop
abbrev TT:=St->Hp->(Bool->Hp->Prop)->Prop
abbrev TA:=St->Hp->(List V->Hp->Prop)->Prop
structure Ends where
 nx:St->Hp->Prop
 rt:VK
 bk:St->Hp->Prop:=fun _ _=>False
 ct:St->Hp->Prop:=fun _ _=>False
abbrev TS:=Ends->St->Hp->Prop
def EP(X:Cx)(pins:List (af × Obj))(σ:St)(Q:VK)(u:ae)(s':ag):Prop:=∃ v H',Inv X pins σ H' s'/\RelV v u/\Q v H'
def TP(X:Cx)(pins:List (af × Obj))(σ:St)(Q:Bool->Hp->Prop)(b:Bool)(s':ag):Prop:=∃ H',Inv X pins σ H' s'/\Q b H'
def AP(X:Cx)(pins:List (af × Obj))(σ:St)(Q:List V->Hp->Prop)(us:List ae)(s':ag):Prop:=∃ vs H',Inv X pins σ H' s'/\Vals vs us/\Q vs H'
def SP(X:Cx)(pins:List (af × Obj))(D:Ends)(f:Flow)(s':ag):Prop:=
 match f with
 | .next=>∃ σ' H',Inv X pins σ' H' s'/\D.nx σ' H'
 | .brk=>∃ σ' H',Inv X pins σ' H' s'/\D.bk σ' H'
 | .cont=>∃ σ' H',Inv X pins σ' H' s'/\D.ct σ' H'
 | .ret u=>∃ v σ' H',Inv X pins σ' H' s'/\RelV v u/\D.rt v H'
def PE(X:Cx)(e:Expr)(t:TE):Prop:=
 ∀ (pins:List (af × Obj)) (s:ag) (σ:St) (H:Hp) (Q:VK),Inv X pins σ H s->t σ H Q->aw (model X.prog X.w) X.A (eval e X.env) (EP X pins σ Q) X.xe s
def PT(X:Cx)(e:Expr)(t:TT):Prop:=
 ∀ (pins:List (af × Obj)) (s:ag) (σ:St) (H:Hp) (Q:Bool->Hp->Prop),Inv X pins σ H s->t σ H Q->aw (model X.prog X.w) X.A (isTrue e X.env (eval e X.env)) (TP X pins σ Q) X.xe s
def PW(X:Cx)(e:Expr)(t:TT):Prop:=
 ∀ (whole:Sem ae) (pins:List (af × Obj)) (s:ag) (σ:St) (H:Hp) (Q:Bool->Hp->Prop),Inv X pins σ H s->t σ H Q->aw (model X.prog X.w) X.A (isTrue e X.env whole) (TP X pins σ Q) X.xe s
theorem PW.pt{X:Cx}{e:Expr}{t:TT}(h:PW X e t):PT X e t:=h _
def PA(X:Cx)(es:List Expr)(t:TA):Prop:=
 ∀ (pos:Pos) (pins:List (af × Obj)) (s:ag) (σ:St) (H:Hp) (Q:List V->Hp->Prop),Inv X pins σ H s->t σ H Q->aw (model X.prog X.w) X.A (spliced (backTo pos (bj es X.env))) (AP X pins σ Q) X.xe s
def PS(X:Cx)(st:Stmt)(t:TS):Prop:=
 ∀ (pins:List (af × Obj)) (s:ag) (σ:St) (H:Hp) (D:Ends),Inv X pins σ H s->t D σ H->aw (model X.prog X.w) X.A (exec st X.env) (SP X pins D) X.xe s
def PSs(X:Cx)(st:List Stmt)(t:TS):Prop:=
 ∀ (pins:List (af × Obj)) (s:ag) (σ:St) (H:Hp) (D:Ends),Inv X pins σ H s->t D σ H->aw (model X.prog X.w) X.A (execs st X.env) (SP X pins D) X.xe s
theorem thn{α:Type}{t:Sem α}{Q Q':α->ag->Prop}{M:Model}{A:aS}{E:ae->ag->Prop}{s:ag}(h:aw M A t Q E s)(hQ:∀ a s,Q a s->Q' a s):aw M A t Q' E s:=bU h hQ fun _ _ x=>x
end L2
namespace L2
open PySem PySem.Spec PyProof.Rows
section
variable {X:Cx}
def tVar(i:Nat):TE:=fun σ H Q=>∃ v,σ[i]? = aa (aa v)/\Q v H
def tC(v:V):TE:=fun _ H Q=>Q v H
theorem pe_var{i:Nat}{x:Str}{pos:Pos}(hN:X.N[i]? = aa x)(hv:Vis X.env.scope x)(hd:(x == ("__debug__" : Str))=false:=by decide)(hcd:(x == ("__classdict__" : Str))=false:=by decide):PE X (.Name x pos) (tVar i):=by
 intro pins s σ H Q I h
 obtain⟨v,e,h⟩:=h
 obtain⟨m,hn,hl⟩:=I.loc
 obtain⟨u,r,l⟩:=hl i x v hN e hv
 have fin:EP X pins σ Q u s:=⟨v,H,I,r,h⟩
 rcases l with ⟨hk,hm⟩ | ⟨hk,c,hc,hcell⟩
 ·exact wpAny_Name (wpAny_loadName_local I.ok.kind hk hn hm fin) hd
 ·rcases hk with hk | hk
  ·exact wpAny_Name (wpAny_loadName_cell I.ok.kind hk hc hcell fin) hd
  ·exact wpAny_Name (wpAny_loadName_free I.ok.kind hk hc hcell fin hcd) hd
theorem pe_int{i j pos}:PE X (.Constant (.int i) j pos) (tC (.int i)):=fun _ _ _ H _ I h=>wpAny_Constant_int ⟨.int i,H,I.tok _,⟨_,rfl⟩,h⟩
theorem pe_bl{b j pos}:PE X (.Constant (.bool b) j pos) (tC (.bl b)):=fun _ _ _ H _ I h=>Constant_bool ⟨.bl b,H,I,rfl,h⟩
theorem pe_non{j pos}:PE X (.Constant .none j pos) (tC .non):=fun _ _ _ H _ I h=>Constant_none ⟨.non,H,I,rfl,h⟩
theorem pe_str{x j pos}:PE X (.Constant (.str x) j pos) (tC (.str x)):=fun _ _ _ H _ I h=>Calls.Constant_str ⟨.str x,H,I.tok _,⟨_,rfl⟩,h⟩
def Gl(X:Cx)(x:Str):Prop:=X.env.kindOf x=aa .globalImplicit
theorem zhp{E:ae->ag->Prop}{pins:List (af × Obj)}{s:ag}{σ:St}{H:Hp}{x:Str}{u:ae}{pos:Pos}{Q:ae->ag->Prop}(I:Inv X pins σ H s)(hg:Gl X x)(hm:X.mg x=aa u)(h:Q u s)
  (hd:(x == ("__debug__" : Str))=false:=by decide):aw (model X.prog X.w) X.A (eval (.Name x pos) X.env) Q E s:=
 gy I.ok.kind hg (Calls.loadGlobal_global (by rw[I.ok.glob];exact I.mod.glob.keeps I.bk) hm h) hd
theorem zdz{E:ae->ag->Prop}{pins:List (af × Obj)}{s:ag}{σ:St}{H:Hp}{x:Str}{u:ae}{pos:Pos}{Q:ae->ag->Prop}(I:Inv X pins σ H s)(hg:Gl X x)(hm:X.mg x=ab)(hv:a9 x=aa u)(h:Q u s)
  (hn:x ≠ "__name__" :=by decide) (hd:(x == ("__debug__" : Str))=false:=by decide):aw (model X.prog X.w) X.A (eval (.Name x pos) X.env) Q E s:=by
 obtain⟨mb,h1,h2⟩:=I.mod.blt
 exact gy I.ok.kind hg (Calls.loadGlobal_builtin (by rw[I.ok.glob];exact I.mod.glob.keeps I.bk) hm (by rw[I.ok.blt];exact h1.keeps I.bk) ((h2 x hn).trans hv) h) hd
theorem pe_glob{x:Str}{v:V}{u:ae}{pos:Pos}(hg:Gl X x)(hm:X.mg x=aa u)(r:RelV v u)(hd:(x == ("__debug__" : Str))=false:=by decide):PE X (.Name x pos) (tC v):=
 fun _ _ _ H _ I h=>zhp I hg hm ⟨v,H,I,r,h⟩ hd
theorem pe_bltn{x:Str}{v:V}{u:ae}{pos:Pos}(hg:Gl X x)(hm:X.mg x=ab)(hv:a9 x=aa u)(r:RelV v u)(hn:x ≠ "__name__" :=by decide)(hd:(x == ("__debug__" : Str))=false:=by decide):PE X (.Name x pos) (tC v):=
 fun _ _ _ H _ I h=>zdz I hg hm hv ⟨v,H,I,r,h⟩ hn hd
variable {a b:Expr}{ta tb:TE}{pos:Pos}
def tB(t:TE):TT:=fun σ H Q=>t σ H fun x H1=>∃ c,x=.bl c/\Q c H1
theorem pt_val{e:Expr}{t:TE}(h:PE X e t)(he:∀ whole,isTrue e X.env whole=(do let v <- whole;standAt e.pos;holding [v] (truthy v)):=by intro _;rfl):PT X e (tB t):=by
 intro pins s σ H Q I hw
 refine isTrue_plain (thn (h pins s σ H _ I hw) fun v s1 ⟨x,H1,I1,r1,q1⟩=>?_) (he _)
 obtain⟨d,rfl,q⟩:=q1
 cases r1
 exact wpAny_truthy_bool ⟨H1,I1,q⟩
variable {tA tB':TT}{rest:List Expr}
def tAnd(t u:TT):TT:=fun σ H Q=>t σ H fun c H1=>if c=true then u σ H1 Q else Q false H1
def tOr(t u:TT):TT:=fun σ H Q=>t σ H fun c H1=>if c=true then Q true H1 else u σ H1 Q
def tNot(t:TT):TT:=fun σ H Q=>t σ H fun c H1=>Q (!c) H1
theorem pw_and1(ha:PT X a tA):PW X (.BoolOp .And [a] pos) tA:=by
 intro wh pins s σ H Q I h
 refine isTrue_and (thn (ha pins s σ H Q I h) fun c s1 e=>?_)
 cases c with
 | true=>exact isTrue_and_nil e
 | false=>exact e
theorem pw_or1(ha:PT X a tA):PW X (.BoolOp .Or [a] pos) tA:=by
 intro wh pins s σ H Q I h
 refine isTrue_or (thn (ha pins s σ H Q I h) fun c s1 e=>?_)
 cases c with
 | false=>exact isTrue_or_nil e
 | true=>exact e
theorem pw_and(ha:PT X a tA)(hb:PW X (.BoolOp .And (b :: rest) pos) tB'):PW X (.BoolOp .And (a :: b :: rest) pos) (tAnd tA tB'):=by
 intro wh pins s σ H Q I h
 refine isTrue_and (thn (ha pins s σ H _ I h) fun c s1 ⟨H1,I1,q1⟩=>?_)
 cases c with
 | true=>exact hb wh pins s1 σ H1 Q I1 q1
 | false=>exact⟨H1,I1,q1⟩
theorem pw_or(ha:PT X a tA)(hb:PW X (.BoolOp .Or (b :: rest) pos) tB'):PW X (.BoolOp .Or (a :: b :: rest) pos) (tOr tA tB'):=by
 intro wh pins s σ H Q I h
 refine isTrue_or (thn (ha pins s σ H _ I h) fun c s1 ⟨H1,I1,q1⟩=>?_)
 cases c with
 | true=>exact⟨H1,I1,q1⟩
 | false=>exact hb wh pins s1 σ H1 Q I1 q1
theorem pt_not(ha:PT X a tA):PT X (.UnaryOp .Not a pos) (tNot tA):=by
 intro pins s σ H Q I h
 exact isTrue_not (ha pins s σ H (fun c H1=>Q (!c) H1) I h)
def tAndV(ta tb:TE):TE:=fun σ H Q=>ta σ H fun x H1=>∃ c,x=.bl c/\if c=true then tb σ H1 Q else Q (.bl false) H1
def tNotV(ta:TE):TE:=fun σ H Q=>ta σ H fun x H1=>∃ c,x=.bl c/\Q (.bl (!c)) H1
theorem pe_one{op}{t:TE}(h:PE X a t):PE X (.BoolOp op [a] pos) t:=fun pins s σ H Q I hw=>BoolOp_one (h pins s σ H Q I hw)
theorem pe_and(ha:PE X a ta)(hb:PE X (.BoolOp .And (b :: rest) pos) tb):PE X (.BoolOp .And (a :: b :: rest) pos) (tAndV ta tb):=by
 intro pins s σ H Q I h
 refine BoolOp_and (thn (ha pins s σ H _ I h) fun v s1 ⟨x,H1,I1,r1,q1⟩=>?_)
 obtain⟨c,rfl,q1⟩:=q1
 cases r1
 refine wpAny_truthy_bool ?_
 cases c with
 | true=>exact hb pins s1 σ H1 Q I1 q1
 | false=>exact⟨.bl false,H1,I1,rfl,q1⟩
theorem pe_not(ha:PE X a ta):PE X (.UnaryOp .Not a pos) (tNotV ta):=by
 intro pins s σ H Q I h
 refine UnaryOp_ (thn (ha pins s σ H _ I h) fun v s1 ⟨x,H1,I1,r1,q1⟩=>?_)
 obtain⟨c,rfl,q1⟩:=q1
 cases r1
 exact not_of (wpAny_truthy_bool ⟨.bl (!c),H1,I1,rfl,q1⟩)
def tIf(t:TT)(ta tb:TE):TE:=fun σ H Q=>t σ H fun c H1=>if c=true then ta σ H1 Q else tb σ H1 Q
theorem pe_ifExp{c:Expr}(hc:PT X c tA)(ha:PE X a ta)(hb:PE X b tb):PE X (.IfExp c a b pos) (tIf tA ta tb):=by
 intro pins s σ H Q I h
 refine wpAny_IfExp (thn (hc pins s σ H _ I h) fun d s1 ⟨H1,I1,q1⟩=>?_)
 cases d with
 | true=>exact ha pins s1 σ H1 Q I1 q1
 | false=>exact hb pins s1 σ H1 Q I1 q1
end
end L2
namespace L2
open PySem PySem.Spec PyProof.Rows
def SqL(K:ah)(H:Hp)(a:af)(xs:List V):Prop:=
 Rd H a (.lst xs) \/
  ∃ (o:Obj) (its:Array ae) (n:Nat),K.lookup a=aa o/\o.cls=.type "list" /\ o.dict=ab/\o.data=.seq its n/\its.size<=be/\Vals xs its.toList
def SqT(K:ah)(H:Hp)(a:af)(xs:List V):Prop:=
 Rd H a (.tup xs) \/
  ∃ (o:Obj) (its:Array ae) (n:Nat),K.lookup a=aa o/\o.cls=.type "tuple" /\ o.data=.seq its n/\its.size<=be/\Vals xs its.toList
def absV:ae->Option V
 | .none=>aa .non
 | .bool b=>aa (.bl b)
 | .int i _=>aa (.int i)
 | .str x _=>aa (.str x)
 | .bytes b _=>aa (.byt b)
 | .float b _=>aa (.flt b)
 | .ref a=>aa (.ref a)
 | .type n=>aa (.ty n)
 | _=>ab
theorem RelV.abs{x:V}{u:ae}(r:RelV x u):absV u=aa x:=by
 cases x with
 | non=>cases r;rfl
 | bl _=>cases r;rfl
 | int _=>obtain⟨t,rfl⟩:=r;rfl
 | str _=>obtain⟨t,rfl⟩:=r;rfl
 | byt _=>obtain⟨t,rfl⟩:=r;rfl
 | flt _=>obtain⟨t,rfl⟩:=r;rfl
 | ref _=>cases r;rfl
 | ty _=>cases r;rfl
theorem RelV.inj{x y:V}{u:ae}(r:RelV x u)(q:RelV y u):x=y:=bg (r.abs.symm.trans q.abs)
theorem Vals.inj:∀ {xs ys:List V} {us:List ae},Vals xs us->Vals ys us->xs=ys
 | _,_,_,.nil,.nil=>rfl
 | _,_,_,.cons r t,.cons r' t'=>by rw[r.inj r',Vals.inj t t']
section
variable {X:Cx}{pins:List (af × Obj)}{σ:St}{H:Hp}{s:ag}{a:af}{xs ys:List V}
theorem SqL.of{K:ah}(h:H a=aa (.lst xs)):SqL K H a xs:=.inl (.inl h)
theorem SqT.of{K:ah}(h:H a=aa (.tup xs)):SqT K H a xs:=.inl (.inl h)
theorem Inv.list(I:Inv X pins σ H s)(h:SqL X.K H a xs):∃ its:List ae,Vals xs its/\PlainL s.heap a its.toArray/\xs.length<=be:=by
 rcases h with h | ⟨o,its,n,hk,hc,hd,hs,hz,r⟩
 ·obtain⟨z,its,n,r,e⟩:=h.ok I.hok
  exact⟨its,r,⟨_,n,e,rfl,rfl,rfl⟩,z⟩
 ·refine⟨its.toList,r,⟨o,n,I.kIn a o hk,hc,hd,by simpa using hs⟩,?_⟩
  have e:=r.length
  simp only[ax] at e
  lia
theorem Inv.tuple(I:Inv X pins σ H s)(h:SqT X.K H a xs):∃ its:List ae,Vals xs its/\IsTup s.heap a its.toArray/\xs.length<=be:=by
 rcases h with h | ⟨o,its,n,hk,hc,hs,hz,r⟩
 ·obtain⟨z,its,r,p⟩:=h.ok I.hok
  exact⟨its,r,p,z⟩
 ·refine⟨its.toList,r,⟨o,I.kIn a o hk,hc,n,by simpa using hs⟩,?_⟩
  have e:=r.length
  simp only[ax] at e
  lia
theorem Inv.list_inj(I:Inv X pins σ H s)(h:SqL X.K H a xs)(h':SqL X.K H a ys):xs=ys:=by
 obtain⟨its,r,⟨o,n,e,_,_,d⟩,_⟩:=I.list h
 obtain⟨its',r',⟨o',n',e',_,_,d'⟩,_⟩:=I.list h'
 rw[e] at e';cases e'
 rw[d] at d'
 injection d' with d1 _
 have:its=its':=by simpa using congrArg kF d1
 subst this
 exact r.inj r'
theorem Inv.tuple_inj(I:Inv X pins σ H s)(h:SqT X.K H a xs)(h':SqT X.K H a ys):xs=ys:=by
 obtain⟨its,r,⟨o,e,_,n,d⟩,_⟩:=I.tuple h
 obtain⟨its',r',⟨o',e',_,n',d'⟩,_⟩:=I.tuple h'
 rw[e] at e';cases e'
 rw[d] at d'
 injection d' with d1 _
 have:its=its':=by simpa using congrArg kF d1
 subst this
 exact r.inj r'
end
abbrev Cx.wish(X:Cx)(E:ae->ag->Prop):Cx:={ X with xe:=E}
abbrev Cx.nox(X:Cx):Cx:=X.wish fun _ _=>False
theorem Cx.Ok.wish{X:Cx}(ok:X.Ok)(E:ae->ag->Prop):(X.wish E).Ok:=
 ⟨ok.mod,ok.kind,ok.glob,ok.blt,ok.above,ok.inj,ok.has,ok.cab,ok.hd,ok.frames,ok.stk,ok.exf,ok.bs,ok.bsz,ok.noex,ok.exfs,ok.funs,ok.frf⟩
theorem Cx.Ok.unwish{X:Cx}{E:ae->ag->Prop}(ok:(X.wish E).Ok):X.Ok:=
 ⟨ok.mod,ok.kind,ok.glob,ok.blt,ok.above,ok.inj,ok.has,ok.cab,ok.hd,ok.frames,ok.stk,ok.exf,ok.bs,ok.bsz,ok.noex,ok.exfs,ok.funs,ok.frf⟩
section
variable {X:Cx}{pins:List (af × Obj)}{σ:St}{H:Hp}{s:ag}{E:ae->ag->Prop}
theorem Inv.wish(I:Inv X pins σ H s)(E:ae->ag->Prop):Inv (X.wish E) pins σ H s:=⟨I.ok.wish E,I.os,I.bare,I.base,I.loc,I.cell,I.free,I.freeC,I.pin,I.hok,I.len⟩
theorem Inv.unwish(I:Inv (X.wish E) pins σ H s):Inv X pins σ H s:=⟨I.ok.unwish,I.os,I.bare,I.base,I.loc,I.cell,I.free,I.freeC,I.pin,I.hok,I.len⟩
theorem SP.unwish{D:Ends}{f:Flow}{s':ag}(h:SP (X.wish E) pins D f s'):SP X pins D f s':=by
 cases f with
 | next=>obtain⟨σ',H',I,q⟩:=h;exact⟨σ',H',I.unwish,q⟩
 | brk=>obtain⟨σ',H',I,q⟩:=h;exact⟨σ',H',I.unwish,q⟩
 | cont=>obtain⟨σ',H',I,q⟩:=h;exact⟨σ',H',I.unwish,q⟩
 | ret u=>obtain⟨v,σ',H',I,r,q⟩:=h;exact⟨v,σ',H',I.unwish,r,q⟩
theorem PE.nox{e:Expr}{t:TE}(h:PE X.nox e t):PE X e t:=fun pins s σ H Q I hw=>
 bU (h pins s σ H Q (I.wish _) hw) (fun _ _ ⟨v,H',I',r,q⟩=>⟨v,H',I'.unwish,r,q⟩) fun _ _ z=>cf z
theorem PT.nox{e:Expr}{t:TT}(h:PT X.nox e t):PT X e t:=fun pins s σ H Q I hw=>
 bU (h pins s σ H Q (I.wish _) hw) (fun _ _ ⟨H',I',q⟩=>⟨H',I'.unwish,q⟩) fun _ _ z=>cf z
theorem PSs.nox{st:List Stmt}{t:TS}(h:PSs X.nox st t):PSs X st t:=fun pins s σ H D I hw=>
 bU (h pins s σ H D (I.wish _) hw) (fun _ _ q=>q.unwish) fun _ _ z=>cf z
end
section
variable {X:Cx}{st:Stmt}{rest:List Stmt}{t u:TS}{e:Expr}{te:TE}{pos:Pos}
def tNext:TS:=fun D σ H=>D.nx σ H
def tSeq(t u:TS):TS:=fun D σ H=>t { D with nx:=u D} σ H
theorem pss_nil:PSs X [] tNext:=fun _ _ σ H _ I h=>wpAny_execs_nil ⟨σ,H,I,h⟩
theorem pss_cons(h1:PS X st t)(h2:PSs X rest u):PSs X (st :: rest) (tSeq t u):=by
 intro pins s σ H D I h
 refine wpAny_execs_cons (thn (h1 pins s σ H { D with nx:=u D} I h) fun f s1 q=>?_)
 cases f with
 | next=>
  obtain⟨σ',H',I',q⟩:=q
  exact h2 pins s1 σ' H' D I' q
 | ret v=>exact q
 | brk=>exact q
 | cont=>exact q
theorem pss_one(h1:PS X st t):PSs X [st] t:=by
 intro pins s σ H D I h
 refine wpAny_execs_cons (thn (h1 pins s σ H D I h) fun f s1 q=>?_)
 cases f with
 | next=>exact wpAny_execs_nil q
 | ret v=>exact q
 | brk=>exact q
 | cont=>exact q
theorem Inv.quiet{pins:List (af × Obj)}{σ:St}{H:Hp}{s:ag}(I:Inv X pins σ H s):interactive X.env=false:=by simp[interactive,I.ok.kind]
def tDrop(te:TE):TS:=fun D σ H=>te σ H fun _ H1=>D.nx σ H1
theorem ps_expr(he:PE X e te)(hs:swapsWith e ab pos.line X.env=pure false:=by rfl):PS X (.Expr e pos) (tDrop te):=by
 intro pins s σ H D I h
 exact wpAny_Expr_any (thn (he pins s σ H _ I h) fun v s1 ⟨x,H1,I1,r1,q1⟩=>⟨σ,H1,I1,q1⟩) I.quiet hs
def tRet(te:TE):TS:=fun D σ H=>te σ H D.rt
theorem ps_ret(he:PE X e te):PS X (.Return (aa e) pos) (tRet te):=by
 intro pins s σ H D I h
 exact wpAny_Return_some (thn (he pins s σ H _ I h) fun v s1 ⟨x,H1,I1,r1,q1⟩=>⟨x,σ,H1,I1,r1,q1⟩)
def tIfS(c:TT)(t u:TS):TS:=fun D σ H=>c σ H fun b H1=>if b=true then t D σ H1 else u D σ H1
theorem ps_if{c:Expr}{a b:List Stmt}{tc:TT}(hc:PT X c tc)(ha:PSs X a t)(hb:PSs X b u):PS X (.If c a b pos) (tIfS tc t u):=by
 intro pins s σ H D I h
 refine wpAny_If (thn (hc pins s σ H _ I h) fun d s1 ⟨H1,I1,q1⟩=>?_)
 cases d with
 | true=>exact ha pins s1 σ H1 D I1 q1
 | false=>exact hb pins s1 σ H1 D I1 q1
end
abbrev TG:=V->St->Hp->(St->Hp->Prop)->Prop
abbrev TGs:=List V->St->Hp->(St->Hp->Prop)->Prop
def PG(X:Cx)(target:Expr)(t:TG):Prop:=
 ∀ (pins:List (af × Obj)) (s:ag) (σ:St) (H:Hp) (v:V) (u:ae) (Q:St->Hp->Prop),Inv X pins σ H s->RelV v u->t v σ H Q ->
  aw (model X.prog X.w) X.A (assign target X.env u) (fun _ s'=>∃ σ' H',Inv X pins σ' H' s'/\Q σ' H') X.xe s
def PGs(X:Cx)(ts:List Expr)(t:TGs):Prop:=
 ∀ (pins:List (af × Obj)) (s:ag) (σ:St) (H:Hp) (vs:List V) (us:List ae) (Q:St->Hp->Prop),Inv X pins σ H s->Vals vs us->t vs σ H Q ->
  aw (model X.prog X.w) X.A (assignInOrder ((bS ts X.env).map (·.2)) us) (fun _ s'=>∃ σ' H',Inv X pins σ' H' s'/\Q σ' H') X.xe s
abbrev TSet:=V->V->V->Hp->(Hp->Prop)->Prop
def PSet(X:Cx)(t:TSet):Prop:=
 ∀ (pins:List (af × Obj)) (s:ag) (σ:St) (H:Hp) (o i v:V) (ov iv u:ae) (Q:Hp->Prop),Inv X pins σ H s->RelV o ov->RelV i iv->RelV v u->t o i v H Q ->
  aw (model X.prog X.w) X.A (setItem ov iv u) (fun _ s'=>∃ H',Inv X pins σ H' s'/\Q H') X.xe s
section
variable {X:Cx}{pos:Pos}
def zge(i:Nat):TG:=fun v σ H Q=>Q (σ.set i (aa v)) H
theorem zhg{i:Nat}{x:Str}(hN:X.N.Nodup)(hi:X.N[i]? = aa x)(hx:Loc X.env.scope x)(hf:X.fn x=true \/ X.env.scope.names.lookup x=aa .local:=by first | exact .inl rfl | exact .inr rfl | assumption):PG X (.Name x pos) (zge i):=by
 intro pins s σ H v u Q I r h
 exact wpAny_assign_Name (zfN I hN hi hx r (fun s' I'=>⟨_,H,I',h⟩) hf)
def gNil:TGs:=fun vs σ H Q=>vs=[]/\Q σ H
def gCons(t:TG)(u:TGs):TGs:=fun vs σ H Q=>∃ v r,vs=v :: r/\t v σ H fun σ' H'=>u r σ' H' Q
theorem pgs_nil:PGs X [] gNil:=by
 intro pins s σ H vs us Q I r h
 obtain⟨e,h⟩:=h
 subst e
 cases r
 exact assignInOrder_nil ⟨σ,H,I,h⟩
theorem zfK{e:Expr}{es:List Expr}{t:TG}{u:TGs}(h1:PG X e t)(h2:PGs X es u)
  (hs:(bS (e :: es) X.env).map (·.2)=assign e X.env :: (bS es X.env).map (·.2):=by rfl):PGs X (e :: es) (gCons t u):=by
 intro pins s σ H vs us Q I r h
 obtain⟨v,vr,e1,h⟩:=h
 subst e1
 cases r with
 | cons r rr=>
  rw[hs]
  refine assignInOrder_cons (thn (h1 pins s σ H _ _ _ I r h) fun _ s1 ⟨σ1,H1,I1,q1⟩=>?_)
  exact h2 pins s1 σ1 H1 _ _ Q I1 rr q1
def gTup(K:ah)(n:Nat)(t:TGs):TG:=fun v σ H Q=>∃ a xs,v=.ref a/\SqT K H a xs/\xs.length=n/\t xs σ H Q
theorem pg_tup{es:List Expr}{k:Nat}{t:TGs}{n:Nat}(hc:X.calm=true)(h:PGs X es t)
  (hn:(bS es X.env).length=n:=by rfl) (hst:(bS es X.env).findIdx? (·.1)=ab:=by rfl):PG X (.Tuple es k pos) (gTup X.K n t):=by
 intro pins s σ H v u Q I r hw
 obtain⟨a,xs,e1,hq,hl,hw⟩:=hw
 subst e1
 cases r
 obtain⟨its,rv,ht,hz⟩:=I.tuple hq
 refine assign_Tuple_tuple (I.ok.hd hc) ht (by simp[hn,<- hl,rv.length]) hst fun h' hx=>?_
 have I1:Inv X pins σ H { s with heap:=h'}:=I.kept (t':=s.toks) fun b o e=>hx b o (bf (aH e)) e
 exact h pins _ σ H xs _ Q I1 (by simpa using rv) hw
def gSub(to ti:TE)(t:TSet):TG:=fun v σ H Q=>to σ H fun o H1=>ti σ H1 fun i H2=>t o i v H2 fun H3=>Q σ H3
theorem pg_sub{o i:Expr}{to ti:TE}{t:TSet}(ho:PE X o to)(hi:PE X i ti)(hs:PSet X t)
  (ha:∀ v,assign (.Subscript o i pos) X.env v=(do
   let ov <- holding [v] (eval o X.env)
   let iv <- holding [v,ov] (eval i X.env)
   standAt pos
   holding [v,ov,iv] (setItem ov iv v)
   release [v,ov,iv] []):=by intro _;rfl):PG X (.Subscript o i pos) (gSub to ti t):=by
 intro pins s σ H v u Q I r h
 rw[ha]
 refine ai (bO (thn (ho pins s σ H _ I h) fun ov s1 ⟨x,H1,I1,r1,q1⟩=>?_))
 refine ai (bO (thn (hi pins s1 σ H1 _ I1 q1) fun iv s2 ⟨y,H2,I2,r2,q2⟩=>?_))
 refine ai (wpAny_standAt (ai (bO (thn (hs pins s2 σ H2 x y v ov iv u _ I2 r1 r2 r q2) fun _ s3 ⟨H3,I3,q3⟩=>?_))))
 exact wpAny_release ⟨σ,H3,I3,q3⟩
def tAsg(te:TE)(g:TG):TS:=fun D σ H=>te σ H fun x H1=>g x σ H1 D.nx
theorem ps_asg{tg e:Expr}{te:TE}{g:TG}(he:PE X e te)(hg:PG X tg g)(hs:swapsWithSole [tg] e pos.line X.env=pure false:=by rfl)(hw:swappedStores [tg] e X.env=pure ab:=by rfl)
  (h1:(bS [tg] X.env).map (·.2)=[assign tg X.env]:=by rfl):PS X (.Assign [tg] e pos) (tAsg te g):=by
 intro pins s σ H D I h
 refine wpAny_Assign_stores (thn (he pins s σ H _ I h) fun v s1 ⟨x,H1,I1,r1,q1⟩=>?_) hs hw
 rw[h1]
 exact thn (hg pins s1 σ H1 x v _ I1 r1 q1) fun _ s2 q=>q
theorem ps_set{i:Nat}{x:Str}{e:Expr}{te:TE}{pos':Pos}(hN:X.N.Nodup)(hi:X.N[i]? = aa x)(hx:Loc X.env.scope x)(he:PE X e te)(hs:swapsWith e (aa (.Name x pos')) pos.line X.env=pure false:=by rfl)(hf:X.fn x=true \/ X.env.scope.names.lookup x=aa .local:=by first | exact .inl rfl | exact .inr rfl | assumption) :
  PS X (.Assign [.Name x pos'] e pos) (tAsg te (zge i)):=by
 intro pins s σ H D I h
 refine wpAny_Assign_Name (thn (he pins s σ H _ I h) fun v s1 ⟨y,H1,I1,r1,q1⟩=>?_) hs
 exact zfN I1 hN hi hx r1 (fun s2 I2=>⟨_,H1,I2,q1⟩) hf
end
section
variable {X:Cx}{pos:Pos}
end
structure It where
 go:Nat->Hp->Prop
 yld:Nat->Hp->V->Hp->Prop
 stop:Nat->Hp->Prop
def zg7(X:Cx)(pins:List (af × Obj))(H:Hp)(b:af):Prop:=
 H b=ab/\b ≠ X.env.locals/\b ∉ X.fs/\(b ∈ X.ex \/ X.s₀.heap.objs.size<=b)/\(∀ x c,X.env.cells.lookup x=aa c->c ≠ b)/\∀ p ∈ X.pn ++ pins,p.1 ≠ b
theorem Inv.fpOk{X:Cx}{pins:List (af × Obj)}{σ:St}{H H':Hp}{s:ag}{b:af}(I:Inv X pins σ H s)(hb:s.heap.objs.size<=b)(hn:H' b=ab):zg7 X pins H' b:=by
 refine⟨hn,eR (aZ I.lt hb),I.nofs hb,.inr (aJ I.sz hb),fun x c e z=>?_,fun p hp z=>?_⟩
 ·obtain⟨v,q⟩:=I.cell x c e
  exact absurd (aZ q.lt (by rw[z];exact hb)) (ca _)
 ·exact absurd (aZ (aH (I.pin p hp).1) (by rw[z];exact hb)) (ca _)
structure Turn(P:aL)(w:aX)(K:ah)(tg:Expr)(J:It)(fp:List af)(it:af)(tn:Nat->ba->Prop):Prop where
 mem:it ∈ fp
 obj:∀ i h,tn i h->∀ b ∈ fp,∃ o,h.get? b=aa o/\∀ v,o.data ≠ .cell v
 keep:∀ i h h',tn i h->(∀ b ∈ fp,∀ o,h.get? b=aa o->h'.get? b=aa o)->tn i h'
 item:∀ (X:Cx),X.prog=P->X.w=w->X.K=K->X.calm=true->∀ (i:Nat) (pins:List (af × Obj)) (s:ag) (σ:St) (H:Hp) (E:ae->ag->Prop),Inv X pins σ H s->(∀ b ∈ fp,zg7 X pins H b)->tn i s.heap->J.go i H ->
  aw (model P w) X.A (pyNext (.ref it)) (fun r s1=>∃ u,r=aa u /\
   aw (model P w) X.A (letOwnedTupleGo tg (.ref it) u) (fun _ s2=>∃ x H',Inv X pins σ H' s2/\RelV x u/\J.yld i H x H'/\tn (i+1) s2.heap/\∀ b ∈ fp,H' b=ab) E s1) E s
 done:∀ (X:Cx),X.prog=P->X.w=w->X.K=K->X.calm=true->∀ (i:Nat) (pins:List (af × Obj)) (s:ag) (σ:St) (H:Hp) (E:ae->ag->Prop),Inv X pins σ H s->(∀ b ∈ fp,zg7 X pins H b)->tn i s.heap->J.stop i H ->
  aw (model P w) X.A (pyNext (.ref it)) (fun r s1=>r=ab/\Inv X pins σ H s1) E s
 self:∀ (A:aS) (i:Nat) (s:ag) (Q:ae->ag->Prop) (E:ae->ag->Prop),tn i s.heap->Q (.ref it) s->aw (model P w) A (pyIter (.ref it)) Q E s
abbrev TI:=St->Hp->(It->Hp->Prop)->Prop
def PIE(X:Cx)(pins:List (af × Obj))(σ:St)(tg:Expr)(R:It->Hp->Prop)(itv:ae)(s2:ag):Prop:=
 ∃ (it:af) (fp:List af) (tn:Nat->ba->Prop) (J:It) (H':Hp),itv=.ref it/\Inv X pins σ H' s2/\Turn X.prog X.w X.K tg J fp it tn/\tn 0 s2.heap/\(∀ b ∈ fp,zg7 X pins H' b)/\R J H'
def PI(X:Cx)(tg iter:Expr)(wi:TI):Prop:=
 ∀ (pins:List (af × Obj)) (s:ag) (σ:St) (H:Hp) (R:It->Hp->Prop),Inv X pins σ H s->wi σ H R ->
  aw (model X.prog X.w) X.A (eval iter X.env) (fun v s1=>aw (model X.prog X.w) X.A (pyIter v) (PIE X pins σ tg R) X.xe s1) X.xe s
theorem go_of{M:Model}{A:aS}{E:ae->ag->Prop}{s:ag}{tg:Expr}{it:af}{u:ae}{o:Obj}{n:String}{vs:Array ae}{Q:Unit->ag->Prop}(ho:s.heap.get? it=aa o)(hc:o.cls=.type n)(hd:o.data=.fields vs)
    (hn:["enumerate","zip","dict_itemiterator","dict_reverseitemiterator","odict_iterator","itertools.zip_longest","itertools.pairwise"].contains n=false) (hQ:Q () s):aw M A (letOwnedTupleGo tg (.ref it) u) Q E s:=by
  unfold letOwnedTupleGo
  cases tg <;> first
    | exact ar hQ
    | (cases u <;> first
        | exact ar hQ
        | (refine ai (wpAny_load ho ?_)
           rw[hc,hd]
           show aw M A (if (["enumerate","zip","dict_itemiterator","dict_reverseitemiterator","odict_iterator","itertools.zip_longest","itertools.pairwise"].contains n && vs[0]? == aa (rawInt _))=true then _ else _) Q E s
           rw[if_neg (by intro h;rw[hn,Bool.false_and] at h;cases h)]
           exact ar hQ))
def Itl(K:ah)(a:af):It:=
 ⟨fun i H=>∃ xs x,SqL K H a xs/\xs[i]? = aa x,fun i H x H'=>H'=H/\∀ xs,SqL K H a xs->xs[i]? = aa x,fun i H=>∃ xs,SqL K H a xs/\xs.length<=i⟩
def Itt(K:ah)(a:af):It:=
 ⟨fun i H=>∃ xs x,SqT K H a xs/\xs[i]? = aa x,fun i H x H'=>H'=H/\∀ xs,SqT K H a xs->xs[i]? = aa x,fun i H=>∃ xs,SqT K H a xs/\xs.length<=i⟩
def Itr(lo:Int)(n:Nat):It:=⟨fun i _=>i<n,fun i H x H'=>H'=H/\x=.int (lo+i),fun i _=>n<=i⟩
theorem zgm{P:aL}{w:aX}{K:ah}{tg:Expr}(a it:af):Turn P w K tg (Itl K a) [it] it (fun i h=>h.IsListIter it a i) where
 mem:=by simp
 obj:=fun i h st b hb=>by
  have e:b=it:=by simpa using hb
  subst e
  obtain⟨o,e,c,d⟩:=st
  exact⟨o,e,fun v z=>by rw[d] at z;cases z⟩
 keep:=fun i h h' st k=>st.at fun o e=>k it (by simp) o e
 item:=by
  intro X hP hw hK hc i pins s σ H E I hf st hg
  subst hP hw hK
  obtain⟨xs,x,hq,hx⟩:=hg
  obtain⟨its,rv,p,hz⟩:=I.list hq
  obtain⟨u,hu,ru⟩:=rv.get hx
  obtain⟨f0,f1,f2,f3,f4,f5⟩:=hf it (by simp)
  refine wpAny_pyNext_list_item st p.isList (x:=u) (by simpa using hu) fun h' st' sb=>?_
  have I1:Inv X pins σ H { s with heap:=h'}:=I.turned (t':=s.toks) (fun b o hb e=>(sb.2 b hb).trans e) f0 f1 f3 f4 f5
  obtain⟨o,e,c,d⟩:=id st'
  exact⟨u,rfl,go_of (s:={ s with heap:=h'}) e c d (by decide) ⟨x,H,I1,ru,⟨rfl,fun ys hy=>by rw[I.list_inj hy hq];exact hx⟩,st',fun b hb=>(hf b hb).1⟩⟩
 done:=by
  intro X hP hw hK hc i pins s σ H E I hf st hg
  subst hP hw hK
  obtain⟨xs,hq,hx⟩:=hg
  obtain⟨its,rv,p,hz⟩:=I.list hq
  obtain⟨f0,f1,f2,f3,f4,f5⟩:=hf it (by simp)
  have hl:=rv.length
  exact wpAny_pyNext_list_end (I.ok.hd hc) st p.isList (by simp;lia) fun h' eb=>⟨rfl,I.turned (t':=s.toks) (fun b o hb e=>eb b o hb e) f0 f1 f3 f4 f5⟩
 self:=fun _ _ _ _ _ st h=>wpAny_pyIter_listiter st h
theorem zfD{P:aL}{w:aX}{K:ah}{tg:Expr}(a it:af):Turn P w K tg (Itt K a) [it] it (fun i h=>h.IsTupleIter it a i) where
 mem:=by simp
 obj:=fun i h st b hb=>by
  have e:b=it:=by simpa using hb
  subst e
  obtain⟨o,e,c,d⟩:=st
  exact⟨o,e,fun v z=>by rw[d] at z;cases z⟩
 keep:=fun i h h' st k=>st.at fun o e=>k it (by simp) o e
 item:=by
  intro X hP hw hK hc i pins s σ H E I hf st hg
  subst hP hw hK
  obtain⟨xs,x,hq,hx⟩:=hg
  obtain⟨its,rv,p,hz⟩:=I.tuple hq
  obtain⟨u,hu,ru⟩:=rv.get hx
  obtain⟨f0,f1,f2,f3,f4,f5⟩:=hf it (by simp)
  refine wpAny_pyNext_tuple_item st (show s.heap.IsTuple a its.toArray from p) (x:=u) (by simpa using hu) fun h' st' sb=>?_
  have I1:Inv X pins σ H { s with heap:=h'}:=I.turned (t':=s.toks) (fun b o hb e=>(sb.2 b hb).trans e) f0 f1 f3 f4 f5
  obtain⟨o,e,c,d⟩:=id st'
  exact⟨u,rfl,go_of (s:={ s with heap:=h'}) e c d (by decide) ⟨x,H,I1,ru,⟨rfl,fun ys hy=>by rw[I.tuple_inj hy hq];exact hx⟩,st',fun b hb=>(hf b hb).1⟩⟩
 done:=by
  intro X hP hw hK hc i pins s σ H E I hf st hg
  subst hP hw hK
  obtain⟨xs,hq,hx⟩:=hg
  obtain⟨its,rv,p,hz⟩:=I.tuple hq
  obtain⟨f0,f1,f2,f3,f4,f5⟩:=hf it (by simp)
  have hl:=rv.length
  exact wpAny_pyNext_tuple_end (I.ok.hd hc) st (show s.heap.IsTuple a its.toArray from p) (by simp;lia) fun h' eb=>⟨rfl,I.turned (t':=s.toks) (fun b o hb e=>eb b o hb e) f0 f1 f3 f4 f5⟩
 self:=fun _ _ _ _ _ st h=>wpAny_pyIter_tupleiter st h
theorem ziI{P:aL}{w:aX}{K:ah}{tg:Expr}(it:af)(lo:Int)(n:Nat):Turn P w K tg (Itr lo n) [it] it (fun i h=>IsRangeIter h it (lo+(i:Nat) * 1) ((n:Int) - (i:Nat)) 1) where
 mem:=by simp
 obj:=fun i h st b hb=>by
  have e:b=it:=by simpa using hb
  subst e
  exact⟨_,st,fun v z=>by
   have z':Data.fields _=Data.cell v:=z
   cases z'⟩
 keep:=fun i h h' st k=>k it (by simp) _ st
 item:=by
  intro X hP hw hK hc i pins s σ H E I hf st hg
  subst hP hw hK
  obtain⟨f0,f1,f2,f3,f4,f5⟩:=hf it (by simp)
  have W:=Walks.range (prog:=X.prog) (w:=X.w) (I.ok.hd hc) it lo 1 n
  refine W.item i s _ _ hg st fun v h' tk hv st' kk=>?_
  obtain⟨t,rfl⟩:=hv
  have I1:Inv X pins σ H { s with heap:=h',toks:=tk}:=I.turned (fun b o hb e=>kk b o (by simpa using hb) e) f0 f1 f3 f4 f5
  refine⟨_,rfl,go_of (s:={ s with heap:=h',toks:=tk}) (n:= "range_iterator") st' rfl rfl (by decide) ⟨.int (lo+i),H,I1,⟨t,?_⟩,⟨rfl,rfl⟩,st',fun b hb=>(hf b hb).1⟩⟩
  rw[Int.mul_one]
 done:=by
  intro X hP hw hK hc i pins s σ H E I hf st hg
  subst hP hw hK
  obtain⟨f0,f1,f2,f3,f4,f5⟩:=hf it (by simp)
  exact wpAny_pyNext_range_end (I.ok.hd hc) st (by have:n<=i:=hg;lia) fun h' eb=>⟨rfl,I.turned (t':=s.toks) (fun b o hb e=>eb b o hb e) f0 f1 f3 f4 f5⟩
 self:=fun _ _ _ _ _ st h=>wpAny_pyIter_rangeiter st h
end L2
namespace L2
open PySem PySem.Spec PyProof.Rows
section
variable {X:Cx}{tg:Expr}
def iList(K:ah)(tl:TE):TI:=fun σ H R=>tl σ H fun x H1=>∃ a,x=.ref a/\(∃ xs,SqL K H1 a xs)/\R (Itl K a) H1
def iTup(K:ah)(tl:TE):TI:=fun σ H R=>tl σ H fun x H1=>∃ a,x=.ref a/\(∃ xs,SqT K H1 a xs)/\R (Itt K a) H1
theorem pi_list{l:Expr}{tl:TE}(hl:PE X l tl):PI X tg l (iList X.K tl):=by
 intro pins s σ H R I h
 refine thn (hl pins s σ H _ I h) fun v s1 ⟨x,H1,I1,r1,q1⟩=>?_
 obtain⟨a,e,⟨xs,hq⟩,q⟩:=q1
 subst e
 cases r1
 obtain⟨its,rv,p,hz⟩:=I1.list hq
 refine wpAny_pyIter_list p.isList ?_
 refine⟨s1.heap.objs.size,[s1.heap.objs.size],_,_,H1,rfl,I1.kept (t':=s1.toks) fun b o e=>aj _ e,zgm a _,⟨_,aG _ rfl,rfl,rfl⟩,fun b hb=>?_,q⟩
 have e:b=s1.heap.objs.size:=by simpa using hb
 subst e
 exact I1.fpOk (ak _) (I1.hok.fresh (ak _))
theorem pi_tup{l:Expr}{tl:TE}(hl:PE X l tl):PI X tg l (iTup X.K tl):=by
 intro pins s σ H R I h
 refine thn (hl pins s σ H _ I h) fun v s1 ⟨x,H1,I1,r1,q1⟩=>?_
 obtain⟨a,e,⟨xs,hq⟩,q⟩:=q1
 subst e
 cases r1
 obtain⟨its,rv,p,hz⟩:=I1.tuple hq
 refine wpAny_pyIter_tuple (show s1.heap.IsTuple a its.toArray from p) ?_
 refine⟨s1.heap.objs.size,[s1.heap.objs.size],_,_,H1,rfl,I1.kept (t':=s1.toks) fun b o e=>aj _ e,zfD a _,⟨_,aG _ rfl,rfl,rfl⟩,fun b hb=>?_,q⟩
 have e:b=s1.heap.objs.size:=by simpa using hb
 subst e
 exact I1.fpOk (ak _) (I1.hok.fresh (ak _))
theorem zhZ{pins:List (af × Obj)}{σ:St}{H:Hp}{s:ag}{R:It->Hp->Prop}{E:ae->ag->Prop}{lo hi:Int}{t u v:Tok}{tk:Nat}(I:Inv X pins σ H s)(h1:-(2 ^ 62)<=lo)(h2:lo<2 ^ 62)(h3:-(2 ^ 62)<=hi)(h4:hi<2 ^ 62)
  (q:R (Itr lo (hi - lo).toNat) H):aw (model X.prog X.w) X.A (pyIter (.ref s.heap.objs.size)) (PIE X pins σ tg R) E { s with heap:=s.heap.push { cls:=.type "range",data:=.fields #[.int lo t,.int hi u,.int 1 v]},toks:=tk}:=by
 refine wpAny_pyIter_range (IsRange.new ..) (small_one h1 h2 h3 h4) ?_
 have I1:Inv X pins σ H { s with heap:=s.heap.push { cls:=.type "range",data:=.fields #[.int lo t,.int hi u,.int 1 v]},toks:=tk}:=I.kept fun b o e=>aj _ e
 refine⟨(s.heap.push { cls:=.type "range",data:=.fields #[.int lo t,.int hi u,.int 1 v]}).objs.size,[(s.heap.push { cls:=.type "range",data:=.fields #[.int lo t,.int hi u,.int 1 v]}).objs.size],_,_,H,rfl,
  I1.kept (t':=tk) fun b o e=>aj _ e,ziI _ lo (hi - lo).toNat,?_,fun b hb=>?_,q⟩
 ·have e1:lo+((0:Nat):Int) * 1=lo:=by simp
  have e2:(((hi - lo).toNat:Nat):Int) - ((0:Nat):Int)=k6 lo hi 1:=by rw[rangeSize_one];split <;> lia
  show IsRangeIter _ _ (lo+((0:Nat):Int) * 1) ((((hi - lo).toNat:Nat):Int) - ((0:Nat):Int)) 1
  rw[e1,e2]
  exact aG _ rfl
 ·have e:b=(s.heap.push { cls:=.type "range",data:=.fields #[.int lo t,.int hi u,.int 1 v]}).objs.size:=by simpa using hb
  subst e
  exact I1.fpOk (ak _) (I1.hok.fresh (ak _))
def iRng1(ta:TA):TI:=fun σ H R=>ta σ H fun vs H1=>∃ j:Int,vs=[.int j] /\ -(2 ^ 62)<=j/\j<2 ^ 62/\R (Itr 0 j.toNat) H1
def iRng2(ta:TA):TI:=fun σ H R=>ta σ H fun vs H1=>∃ i j:Int,vs=[.int i,.int j]/\(-(2 ^ 62)<=i/\i<2 ^ 62 /\ -(2 ^ 62)<=j/\j<2 ^ 62)/\R (Itr i (j - i).toNat) H1
theorem pi_range1{a:Expr}{ta:TA}{p pos:Pos}(hg:Gl X "range")(hm:X.mg "range" = ab)(ha:PA X [a] ta)(hs:bj [a] X.env=[(false,eval a X.env)]:=by rfl):PI X tg (.Call (.Name "range" p) [a] [] pos) (iRng1 ta):=by
 intro pins s σ H R I h
 refine Call_ (zdz I hg hm boot_range (cB (thn (ha pos pins s σ H _ I h) fun us s1 ⟨vs,H1,I1,r1,q1⟩=>?_) hs rfl))
 obtain⟨j,e,q1,q2,q⟩:=q1
 subst e
 cases r1 with
 | cons r rr=>
  cases rr
  obtain⟨t,rfl⟩:=r
  exact call_range_1 (zhZ I1 (by lia) (by lia) q1 q2 (by simpa using q))
theorem pi_range2{a b:Expr}{ta:TA}{p pos:Pos}(hg:Gl X "range")(hm:X.mg "range" = ab)(ha:PA X [a,b] ta)(hs:bj [a,b] X.env=[(false,eval a X.env),(false,eval b X.env)]:=by rfl)(hs2:bj [b] X.env=[(false,eval b X.env)]:=by rfl) :
  PI X tg (.Call (.Name "range" p) [a,b] [] pos) (iRng2 ta):=by
 intro pins s σ H R I h
 refine Call_ (zdz I hg hm boot_range (cB (thn (ha pos pins s σ H _ I h) fun us s1 ⟨vs,H1,I1,r1,q1⟩=>?_) (by rw[hs,hs2]) (by rw[hs2];rfl)))
 obtain⟨i,j,e,⟨q1,q2,q3,q4⟩,q⟩:=q1
 subst e
 cases r1 with
 | cons r rr=>
  cases rr with
  | cons r' rr=>
   cases rr
   obtain⟨t,rfl⟩:=r
   obtain⟨t',rfl⟩:=r'
   exact call_range_2 (zhZ I1 q1 q2 q3 q4 q)
def tFor(wi:TI)(g:TG)(tb:TS):TS:=fun D σ H=>wi σ H fun J H1=>∃ W:Nat->Nat->St->Hp->Prop,(∃ m,W 0 m σ H1)/\∀ i m σ H,W i m σ H ->
 (J.stop i H/\D.nx σ H) \/ (J.go i H/\∃ N:St->Hp->Prop,(∀ σ' H',N σ' H'->∃ m',m'<m/\W (i+1) m' σ' H')/\∀ x H',J.yld i H x H'->g x σ H' fun σ2 H2=>tb { D with nx:=N,ct:=N,bk:=D.nx} σ2 H2)
def zfb(fp:List af)(h:ba):List (af × Obj):=fp.filterMap fun b=>(h.get? b).map fun o=>(b,o)
theorem zcz{fp:List af}{h:ba}{b:af}{o:Obj}(hb:b ∈ fp)(e:h.get? b=aa o):(b,o) ∈ zfb fp h:=eS.mpr ⟨b,hb,by rw[e];rfl⟩
theorem of_pinsAt{fp:List af}{h:ba}{p:af × Obj}(hp:p ∈ zfb fp h):p.1 ∈ fp/\h.get? p.1=aa p.2:=by
 obtain⟨b,hb,e⟩:=eS.mp hp
 cases q:h.get? b with
 | none=>rw[q] at e;cases e
 | some o=>
  rw[q] at e
  have e':(b,o)=p:=bg e
  subst e'
  exact⟨hb,q⟩
theorem Inv.pinned{pins:List (af × Obj)}{σ:St}{H:Hp}{s:ag}{fp:List af}(I:Inv X pins σ H s)(hf:∀ b ∈ fp,zg7 X pins H b)(ho:∀ b ∈ fp,∃ o,s.heap.get? b=aa o/\∀ v,o.data ≠ .cell v):Inv X (pins ++ zfb fp s.heap) σ H s:=
 I.pins_of fun p hp=>(bu.mp hp).elim (fun z=>I.pin p (aA _ z)) fun z=>by
  obtain⟨hb,e⟩:=of_pinsAt z
  obtain⟨f0,f1,f2,_⟩:=hf p.1 hb
  obtain⟨o,e',d⟩:=ho p.1 hb
  rw[e] at e';cases e'
  exact⟨e,f0,f1,f2,d⟩
theorem Inv.unpinned{pins pl:List (af × Obj)}{σ:St}{H:Hp}{s:ag}(I:Inv X (pins ++ pl) σ H s):Inv X pins σ H s:=I.pins_of fun p hp=>I.pin p (aA _ (bA _ hp))
theorem ps_for{iter:Expr}{body:List Stmt}{wi:TI}{g:TG}{tb:TS}{pos:Pos}(hp:PassesOwn (model X.prog X.w) X.A X.env X.xe)(hc:X.calm=true)(hi:PI X tg iter wi)(hg:PG X tg g)(hb:PSs X body tb)
  (hs:∀ x,cg iter X.env x=pure x:=by intro _;rfl):PS X (.For tg iter body [] pos) (tFor wi g tb):=by
 intro pins s σ H D I h
 refine wpAny_For (thn (hi pins s σ H _ I h) fun v s1 h1=>thn h1 fun itv s2 h2=>?_) hs
 obtain⟨it,fp,tn,J,H2,e,I2,T,st2,f2,W,⟨m0,w0⟩,turn⟩:=h2
 subst e
 have stat:∀ {H':Hp},(∀ b ∈ fp,H' b=ab)->∀ b ∈ fp,zg7 X pins H' b:=fun hn b hb=>⟨hn b hb,(f2 b hb).2⟩
 refine codeAny_forLoop_any (fun n s'=>∃ i σ' H',Inv X pins σ' H' s'/\tn i s'.heap/\(∀ b ∈ fp,H' b=ab)/\W i n σ' H') ?_ m0 ⟨0,σ,H2,I2,st2,fun b hb=>(f2 b hb).1,w0⟩
 rintro n s3 ⟨i,σ3,H3,I3,st3,fr3,w3⟩
 rcases turn i n σ3 H3 w3 with ⟨stop,qn⟩ | ⟨go,N,hN,step⟩
 ·refine wpAny_passesOwn hp (thn (T.done X rfl rfl rfl hc i pins s3 σ3 H3 X.xe I3 (stat fr3) st3 stop) fun r s4 ⟨hr,I4⟩=>?_)
  subst hr
  exact wpAny_execs_nil ⟨σ3,H3,I4,qn⟩
 ·refine wpAny_passesOwn hp (thn (T.item X rfl rfl rfl hc i pins s3 σ3 H3 X.xe I3 (stat fr3) st3 go) fun r s4 ⟨u,hr,h4⟩=>?_)
  subst hr
  refine wpAny_passesOwn hp (thn h4 fun _ s5 ⟨x,H5,I5,r5,y5,st5,fr5⟩=>?_)
  have I5':=I5.pinned (stat fr5) (T.obj _ _ st5)
  refine wpAny_passesOwn hp (thn (hg _ s5 σ3 H5 x u _ I5' r5 (step x H5 y5)) fun _ s6 ⟨σ6,H6,I6,q6⟩=>?_)
  refine wpAny_passesOwn hp (thn (hb _ s6 σ6 H6 _ I6 q6) fun f s7 q7=>?_)
  have again:∀ {σ7:St} {H7:Hp},Inv X (pins ++ zfb fp s5.heap) σ7 H7 s7->N σ7 H7->∃ m,m<n/\∃ i σ' H',Inv X pins σ' H' s7/\tn i s7.heap/\(∀ b ∈ fp,H' b=ab)/\W i m σ' H':=fun {σ7 H7} I7 n7=>by
   obtain⟨m',hm,w7⟩:=hN σ7 H7 n7
   refine⟨m',hm,i+1,σ7,H7,I7.unpinned,T.keep _ _ _ st5 fun b hb o e=>(I7.pin (b,o) (aA _ (aA _ (zcz hb e)))).1,fun b hb=>?_,w7⟩
   obtain⟨o,e,d⟩:=T.obj _ _ st5 b hb
   exact(I7.pin (b,o) (aA _ (aA _ (zcz hb e)))).2.1
  cases f with
  | next=>obtain⟨σ7,H7,I7,n7⟩:=q7;exact again I7 n7
  | cont=>obtain⟨σ7,H7,I7,n7⟩:=q7;exact again I7 n7
  | brk=>obtain⟨σ7,H7,I7,q7⟩:=q7;exact⟨σ7,H7,I7.unpinned,q7⟩
  | ret v=>obtain⟨x7,σ7,H7,I7,r7,q7⟩:=q7;exact⟨x7,σ7,H7,I7.unpinned,r7,q7⟩
end
end L2
namespace L2
open PySem PySem.Spec PyProof.Rows
abbrev R2:=V->V->Hp->VK->Prop
def OpR(X:Cx)(f:ae->ae->Sem ae)(r:R2):Prop:=
 ∀ (pins:List (af × Obj)) (s:ag) (σ:St) (H:Hp) (x y:V) (v u:ae) (Q:VK),Inv X pins σ H s->RelV x v->RelV y u->r x y H Q ->
  aw (model X.prog X.w) X.A (f v u) (EP X pins σ Q) X.xe s
def UnR(X:Cx)(f:ae->Sem ae)(r:V->Hp->VK->Prop):Prop:=
 ∀ (pins:List (af × Obj)) (s:ag) (σ:St) (H:Hp) (x:V) (v:ae) (Q:VK),Inv X pins σ H s->RelV x v->r x H Q ->
  aw (model X.prog X.w) X.A (f v) (EP X pins σ Q) X.xe s
def zdt(X:Cx)(f:ae)(r:List V->Hp->VK->Prop):Prop:=
 ∀ (pins:List (af × Obj)) (s:ag) (σ:St) (H:Hp) (xs:List V) (us:List ae) (Q:VK),Inv X pins σ H s->Vals xs us->r xs H Q ->
  aw (model X.prog X.w) X.A (call f us) (EP X pins σ Q) X.xe s
def tOp(r:R2)(ta tb:TE):TE:=fun σ H Q=>ta σ H fun x H1=>tb σ H1 fun y H2=>r x y H2 Q
def tUn(r:V->Hp->VK->Prop)(ta:TE):TE:=fun σ H Q=>ta σ H fun x H1=>r x H1 Q
def rI(C:Int->Int->Prop)(g:Int->Int->V):R2:=fun x y H Q=>∃ i j,x=.int i/\y=.int j/\C i j/\Q (g i j) H
def rI0(g:Int->Int->V):R2:=fun x y H Q=>∃ i j,x=.int i/\y=.int j/\Q (g i j) H
def rU(g:Int->V):V->Hp->VK->Prop:=fun x H Q=>∃ i,x=.int i/\Q (g i) H
section
variable {X:Cx}{a b c:Expr}{ta tb tc:TE}{pos:Pos}
theorem binT(ha:PE X a ta)(hb:PE X b tb){pins:List (af × Obj)}{s:ag}{σ:St}{H:Hp}{R:V->V->Hp->Prop}(I:Inv X pins σ H s)
  (h:ta σ H fun x H1=>tb σ H1 fun y H2=>R x y H2) {Q:ae->ag->Prop} {f:ae->ae->Sem ae}
  (hf:∀ v u s2 x y H2,Inv X pins σ H2 s2->RelV x v->RelV y u->R x y H2->aw (model X.prog X.w) X.A (f v u) Q X.xe s2) :
  aw (model X.prog X.w) X.A (eval a X.env) (fun v s₁=>aw (model X.prog X.w) X.A (eval b X.env) (fun u s₂=>aw (model X.prog X.w) X.A (f v u) Q X.xe s₂) X.xe s₁) X.xe s:=by
 refine thn (ha pins s σ H _ I h) fun v s1 ⟨x,H1,I1,r1,q1⟩=>?_
 refine thn (hb pins s1 σ H1 _ I1 q1) fun u s2 ⟨y,H2,I2,r2,q2⟩=>?_
 exact hf v u s2 x y H2 I2 r1 r2 q2
theorem pe_op{op:Operator}{r:R2}(ho:OpR X (binaryOp op) r)(ha:PE X a ta)(hb:PE X b tb):PE X (.BinOp a op b pos) (tOp r ta tb):=by
 intro pins s σ H Q I h
 exact wpAny_BinOp (binT ha hb I h fun v u s2 x y H2 I2 rx ry q=>ho pins s2 σ H2 x y v u Q I2 rx ry q)
theorem pe_un{op:UnaryOp}{r:V->Hp->VK->Prop}(ho:UnR X (unaryOp op) r)(ha:PE X a ta):PE X (.UnaryOp op a pos) (tUn r ta):=by
 intro pins s σ H Q I h
 exact UnaryOp_ (thn (ha pins s σ H _ I h) fun v s1 ⟨x,H1,I1,r1,q1⟩=>ho pins s1 σ H1 x v Q I1 r1 q1)
theorem opI{f:ae->ae->Sem ae}{C:Int->Int->Prop}{g:Int->Int->Int}
  (rule:∀ (i j:Int) (t u:Tok) (s:ag) (Q:ae->ag->Prop) (E:ae->ag->Prop),C i j->Q (.int (g i j) s.toks) { s with toks:=s.toks+1}->aw (model X.prog X.w) X.A (f (.int i t) (.int j u)) Q E s) :
  OpR X f (rI C fun i j=>.int (g i j)):=by
 intro pins s σ H x y v u Q I rx ry h
 obtain⟨i,j,rfl,rfl,hc,q⟩:=h
 obtain⟨t,rfl⟩:=rx
 obtain⟨t',rfl⟩:=ry
 exact rule i j t t' s _ _ hc ⟨.int (g i j),H,I.tok _,⟨_,rfl⟩,q⟩
theorem opI0{f:ae->ae->Sem ae}{g:Int->Int->Int}
  (rule:∀ (i j:Int) (t u:Tok) (s:ag) (Q:ae->ag->Prop) (E:ae->ag->Prop),Q (.int (g i j) s.toks) { s with toks:=s.toks+1}->aw (model X.prog X.w) X.A (f (.int i t) (.int j u)) Q E s) :
  OpR X f (rI0 fun i j=>.int (g i j)):=by
 intro pins s σ H x y v u Q I rx ry h
 obtain⟨i,j,rfl,rfl,q⟩:=h
 obtain⟨t,rfl⟩:=rx
 obtain⟨t',rfl⟩:=ry
 exact rule i j t t' s _ _ ⟨.int (g i j),H,I.tok _,⟨_,rfl⟩,q⟩
theorem opB0{f:ae->ae->Sem ae}{g:Int->Int->Bool}
  (rule:∀ (i j:Int) (t u:Tok) (s:ag) (Q:ae->ag->Prop) (E:ae->ag->Prop),Q (.bool (g i j)) s->aw (model X.prog X.w) X.A (f (.int i t) (.int j u)) Q E s) :
  OpR X f (rI0 fun i j=>.bl (g i j)):=by
 intro pins s σ H x y v u Q I rx ry h
 obtain⟨i,j,rfl,rfl,q⟩:=h
 obtain⟨t,rfl⟩:=rx
 obtain⟨t',rfl⟩:=ry
 exact rule i j t t' s _ _ ⟨.bl (g i j),H,I,rfl,q⟩
def CDiv(i j:Int):Prop:=0<j/\j<1073741824
def CPow(i j:Int):Prop:=0<=j/\j<=1000000/\i.natAbs<2 ^ 64
def CMul(i j:Int):Prop:=(-(2 ^ 64)<i/\i<2 ^ 64) \/ (-(2 ^ 64)<j/\j<2 ^ 64)
theorem CMul.ok{i j:Int}(h:CMul i j):IntMulOk i j:=by
 rcases h with ⟨h1,h2⟩ | ⟨h1,h2⟩
 ·exact .of_left (intBits_le_64 h1 h2)
 ·exact .of_right (intBits_le_64 h1 h2)
theorem op_add:OpR X (binaryOp .Add) (rI0 fun i j=>.int (i+j)):=opI0 fun _ _ _ _ _ _ _ q=>add_int q
theorem op_sub:OpR X (binaryOp .Sub) (rI0 fun i j=>.int (i - j)):=opI0 fun _ _ _ _ _ _ _ q=>sub_int q
theorem op_mul:OpR X (binaryOp .Mult) (rI CMul fun i j=>.int (i * j)):=opI fun _ _ _ _ _ _ _ hc q=>mul_int q hc.ok
theorem op_fdiv:OpR X (binaryOp .FloorDiv) (rI CDiv fun i j=>.int (i / j)):=opI fun i j _ _ _ _ _ hc q=>by
 have h1:(0:Int)<j:=hc.1
 have h2:j<1073741824:=hc.2
 exact floordiv_int (by lia) (by rw[gz i (by lia)];exact q) (.inl (PyProof.noPylong_small (by lia)))
theorem op_mod:OpR X (binaryOp .Mod) (rI (fun _ j=>0<j) fun i j=>.int (i % j)):=opI fun i j _ _ _ _ _ hc q=>by
 have h1:(0:Int)<j:=hc
 exact mod_int' (by lia) (by rw[Int.fmod_eq_emod_of_nonneg i (by lia)];exact q)
theorem op_pow:OpR X (binaryOp .Pow) (rI CPow fun i j=>.int (i ^ j.toNat)):=opI fun _ _ _ _ _ _ _ hc q=>pow_int_small hc.1 hc.2.1 hc.2.2 q
theorem unI{f:ae->Sem ae}{g:Int->Int}
  (rule:∀ (i:Int) (t:Tok) (s:ag) (Q:ae->ag->Prop) (E:ae->ag->Prop),Q (.int (g i) s.toks) { s with toks:=s.toks+1}->aw (model X.prog X.w) X.A (f (.int i t)) Q E s) :
  UnR X f (rU fun i=>.int (g i)):=by
 intro pins s σ H x v Q I rx h
 obtain⟨i,rfl,q⟩:=h
 obtain⟨t,rfl⟩:=rx
 exact rule i t s _ _ ⟨.int (g i),H,I.tok _,⟨_,rfl⟩,q⟩
theorem un_neg:UnR X (unaryOp .USub) (rU fun i=>.int (-i)):=unI fun _ _ _ _ _ q=>neg_int q
end
def scal:V->V->Bool
 | .non,.non=>true | .non,.int _=>true | .int _,.non=>true | .non,.bl _=>true | .bl _,.non=>true | .non,.str _=>true | .str _,.non=>true
 | .int _,.int _=>true | .bl _,.bl _=>true | .str _,.str _=>true | .byt _,.byt _=>true
 | .int _,.str _=>true | .str _,.int _=>true | .bl _,.str _=>true | .str _,.bl _=>true
 | _,_=>false
def rEq:R2:=fun x y H Q=>scal x y=true/\Q (.bl (decide (x=y))) H
def rNe:R2:=fun x y H Q=>scal x y=true/\Q (.bl (!decide (x=y))) H
theorem dec_int{i j:Int}:decide (V.int i=V.int j)=(i == j):=by
 rw[fV]
 simp
theorem dec_bl{i j:Bool}:decide (V.bl i=V.bl j)=(i == j):=by
 rw[fV]
 simp
theorem dec_str{i j:Str}:decide (V.str i=V.str j)=(i == j):=by
 rw[fV]
 simp
theorem dec_byt{i j:Array UInt8}:decide (V.byt i=V.byt j)=(i.toList == j.toList):=by
 rw[fV]
 cases i
 cases j
 simp
section
variable {X:Cx}{a b c:Expr}{ta tb tc:TE}{pos:Pos}
theorem zaL{pins:List (af × Obj)}{σ:St}{H:Hp}{s:ag}{Q:VK}{k k':Bool}(I:Inv X pins σ H s)(q:Q (.bl k) H)(e:k=k'):EP X pins σ Q (.bool k') s:=by
 subst e
 exact⟨.bl k,H,I,rfl,q⟩
theorem op_eq:OpR X (bI .Eq) rEq:=by
 intro pins s σ H x y v u Q I rx ry h
 obtain⟨hs,q⟩:=h
 cases x with
 | non=>
  cases rx
  cases y with
  | non=>cases ry;exact ko (zaL I q (by simp))
  | bl j=>cases ry;exact kr (zaL I q (by simp))
  | int j=>obtain⟨t',rfl⟩:=ry;exact kG (zaL I q (by simp))
  | str j=>obtain⟨t',rfl⟩:=ry;exact kH (zaL I q (by simp))
  | _=>exact absurd (show false=true from hs) a8
 | bl i=>
  cases rx
  cases y with
  | non=>cases ry;exact kt (zaL I q (by simp))
  | bl j=>cases ry;exact eq_bool (zaL I q dec_bl)
  | str j=>obtain⟨t',rfl⟩:=ry;exact ku (zaL I q (by simp))
  | _=>exact absurd (show false=true from hs) a8
 | int i=>
  obtain⟨t,rfl⟩:=rx
  cases y with
  | non=>cases ry;exact kI (zaL I q (by simp))
  | int j=>obtain⟨t',rfl⟩:=ry;exact eq_int (zaL I q dec_int)
  | str j=>obtain⟨t',rfl⟩:=ry;exact kJ (zaL I q (by simp))
  | _=>exact absurd (show false=true from hs) a8
 | str i=>
  obtain⟨t,rfl⟩:=rx
  cases y with
  | non=>cases ry;exact kK (zaL I q (by simp))
  | bl j=>cases ry;exact kx (zaL I q (by simp))
  | int j=>obtain⟨t',rfl⟩:=ry;exact kL (zaL I q (by simp))
  | str j=>obtain⟨t',rfl⟩:=ry;exact eq_str (zaL I q dec_str)
  | _=>exact absurd (show false=true from hs) a8
 | byt i=>
  obtain⟨t,rfl⟩:=rx
  cases y with
  | byt j=>obtain⟨t',rfl⟩:=ry;exact PySem.W.eq_bytes (zaL I q dec_byt)
  | _=>exact absurd (show false=true from hs) a8
 | _=>cases y <;> exact absurd (show false=true from hs) a8
theorem op_ne:OpR X (bI .NotEq) rNe:=by
 intro pins s σ H x y v u Q I rx ry h
 obtain⟨hs,q⟩:=h
 cases x with
 | non=>
  cases rx
  cases y with
  | non=>cases ry;exact ky (zaL I q (by simp))
  | bl j=>cases ry;exact kz (zaL I q (by simp))
  | int j=>obtain⟨t',rfl⟩:=ry;exact kM (zaL I q (by simp))
  | str j=>obtain⟨t',rfl⟩:=ry;exact kO (zaL I q (by simp))
  | _=>exact absurd (show false=true from hs) a8
 | bl i=>
  cases rx
  cases y with
  | non=>cases ry;exact kB (zaL I q (by simp))
  | bl j=>cases ry;exact ne_bool (zaL I q (congrArg not dec_bl))
  | str j=>obtain⟨t',rfl⟩:=ry;exact kC (zaL I q (by simp))
  | _=>exact absurd (show false=true from hs) a8
 | int i=>
  obtain⟨t,rfl⟩:=rx
  cases y with
  | non=>cases ry;exact kP (zaL I q (by simp))
  | int j=>obtain⟨t',rfl⟩:=ry;exact ne_int (zaL I q (congrArg not dec_int))
  | str j=>obtain⟨t',rfl⟩:=ry;exact kQ (zaL I q (by simp))
  | _=>exact absurd (show false=true from hs) a8
 | str i=>
  obtain⟨t,rfl⟩:=rx
  cases y with
  | non=>cases ry;exact kR (zaL I q (by simp))
  | bl j=>cases ry;exact kD (zaL I q (by simp))
  | int j=>obtain⟨t',rfl⟩:=ry;exact kS (zaL I q (by simp))
  | str j=>obtain⟨t',rfl⟩:=ry;exact ne_str (zaL I q (congrArg not dec_str))
  | _=>exact absurd (show false=true from hs) a8
 | byt i=>
  obtain⟨t,rfl⟩:=rx
  cases y with
  | byt j=>obtain⟨t',rfl⟩:=ry;exact PySem.W.ne_bytes (zaL I q (congrArg not dec_byt))
  | _=>exact absurd (show false=true from hs) a8
 | _=>cases y <;> exact absurd (show false=true from hs) a8
theorem op_lt:OpR X (bI .Lt) (rI0 fun i j=>.bl (decide (i<j))):=opB0 fun _ _ _ _ _ _ _ q=>lt_int q
theorem op_le:OpR X (bI .LtE) (rI0 fun i j=>.bl (decide (i<=j))):=opB0 fun _ _ _ _ _ _ _ q=>le_int q
theorem op_gt:OpR X (bI .Gt) (rI0 fun i j=>.bl (decide (j<i))):=opB0 fun _ _ _ _ _ _ _ q=>gt_int q
theorem op_ge:OpR X (bI .GtE) (rI0 fun i j=>.bl (decide (j<=i))):=opB0 fun _ _ _ _ _ _ _ q=>ge_int q
theorem op_in_str:OpR X (bI .In) (fun x y H Q=>∃ i j,x=.str i/\y=.str j/\Q (.bl (!(eZ j i 0 j.length 1).isEmpty)) H):=by
 intro pins s σ H x y v u Q I rx ry h
 obtain⟨i,j,rfl,rfl,q⟩:=h
 obtain⟨t,rfl⟩:=rx
 obtain⟨t',rfl⟩:=ry
 exact in_str (zaL I q rfl)
theorem op_isN:OpR X (bI .Is) (fun x y H Q=>y=.non/\Q (.bl (decide (x=.non))) H):=by
 intro pins s σ H x y v u Q I rx ry h
 obtain⟨rfl,q⟩:=h
 cases ry
 refine is_none_gen (zaL I q ?_)
 cases x <;> first
  | (cases rx;rfl)
  | (obtain⟨t,rfl⟩:=rx;rfl)
theorem op_notN:OpR X (bI .IsNot) (fun x y H Q=>y=.non/\Q (.bl (!decide (x=.non))) H):=by
 intro pins s σ H x y v u Q I rx ry h
 obtain⟨rfl,q⟩:=h
 cases ry
 refine isnot_none_gen (zaL I q ?_)
 cases x <;> first
  | (cases rx;rfl)
  | (obtain⟨t,rfl⟩:=rx;rfl)
theorem zg4:OpR X (bI .NotIn) (fun x y H Q=>∃ i j,x=.str i/\y=.str j/\Q (.bl (!(!(eZ j i 0 j.length 1).isEmpty))) H):=by
 intro pins s σ H x y v u Q I rx ry h
 obtain⟨i,j,rfl,rfl,q⟩:=h
 obtain⟨t,rfl⟩:=rx
 obtain⟨t',rfl⟩:=ry
 exact notIn_str (zaL I q rfl)
theorem zb1(b:Expr){op:CmpOp}(h:op ≠ .In:=by decide)(h2:op ≠ .NotIn:=by decide):behindInMarks op b=false:=by
 have e1:(op == CmpOp.In)=false:=by cases op <;> first | rfl | exact absurd rfl h
 have e2:(op == CmpOp.NotIn)=false:=by cases op <;> first | rfl | exact absurd rfl h2
 cases b <;> simp[behindInMarks,e1,e2]
theorem pe_cmpR{op:CmpOp}{r:R2}(ho:OpR X (bI op) r)(ha:PE X a ta)(hb:PE X b tb)(hm:behindInMarks op b=false):PE X (.Compare a [op] [b] pos) (tOp r ta tb):=by
 intro pins s σ H Q I h
 exact wpAny_Compare1 (binT ha hb I h fun v u s2 x y H2 I2 rx ry q=>ho pins s2 σ H2 x y v u Q I2 rx ry q) hm
def tTest(t:TE):TT:=fun σ H Q=>t σ H fun x H'=>∃ k,x=.bl k/\Q k H'
theorem pt_cmpR{op:CmpOp}{r:R2}(ho:OpR X (bI op) r)(ha:PE X a ta)(hb:PE X b tb)(hm:behindInMarks op b=false):PT X (.Compare a [op] [b] pos) (tTest (tOp r ta tb)):=by
 intro pins s σ H Q I h
 refine wpAny_isTrue_Compare1 (thn (ha pins s σ H _ I h) fun v s1 ⟨x,H1,I1,r1,q1⟩=>thn (hb pins s1 σ H1 _ I1 q1) fun u s2 ⟨y,H2,I2,r2,q2⟩=>
  thn (ho pins s2 σ H2 x y v u _ I2 r1 r2 q2) fun c s3 ⟨z,H3,I3,r3,k,e,q3⟩=>?_) hm
 subst e
 cases r3
 exact wpAny_truthy_bool ⟨H3,I3,q3⟩
theorem zfy:(be:Nat)<2 ^ 63:=by rw[ci];decide
theorem ziW:OpR X (binaryOp .Add) (fun x y H Q=>∃ i j,x=.str i/\y=.str j/\i.length+j.length<=be/\Q (.str (i ++ j)) H):=by
 intro pins s σ H x y v u Q I rx ry h
 obtain⟨i,j,rfl,rfl,hz,q⟩:=h
 obtain⟨t,rfl⟩:=rx
 obtain⟨t',rfl⟩:=ry
 exact add_str (fun t' tk=>⟨.str (i ++ j),H,I.tok _,⟨_,rfl⟩,q⟩) hz
theorem zfM{x:V}{us:List ae}(r:Vals [x] us):∃ u,us=[u]/\RelV x u:=by
 cases r with
 | cons r1 r2=>cases r2;exact⟨_,rfl,r1⟩
theorem vals2{x y:V}{us:List ae}(r:Vals [x,y] us):∃ u w',us=[u,w']/\RelV x u/\RelV y w':=by
 cases r with
 | cons r1 r2=>
  cases r2 with
  | cons r3 r4=>cases r4;exact⟨_,_,rfl,r1,r3⟩
theorem call_max2(hc:X.calm=true):zdt X (.builtin "max") (fun xs H Q=>∃ i j,xs=[.int i,.int j]/\Q (.int (if j > i then j else i)) H):=by
 intro pins s σ H xs us Q I r h
 obtain⟨i,j,rfl,q⟩:=h
 obtain⟨u,w',rfl,⟨t,rfl⟩,⟨t',rfl⟩⟩:=vals2 r
 refine max_two_ints (I.ok.hd hc) fun h' tk k=>⟨_,H,I.kept k,?_,q⟩
 by_cases hj:j > i
 ·rw[if_pos hj,if_pos hj];exact⟨_,rfl⟩
 ·rw[if_neg hj,if_neg hj];exact⟨_,rfl⟩
theorem call_min2(hc:X.calm=true):zdt X (.builtin "min") (fun xs H Q=>∃ i j,xs=[.int i,.int j]/\Q (.int (if j<i then j else i)) H):=by
 intro pins s σ H xs us Q I r h
 obtain⟨i,j,rfl,q⟩:=h
 obtain⟨u,w',rfl,⟨t,rfl⟩,⟨t',rfl⟩⟩:=vals2 r
 refine min_two_ints (I.ok.hd hc) fun h' tk k=>⟨_,H,I.kept k,?_,q⟩
 by_cases hj:j<i
 ·rw[if_pos hj,if_pos hj];exact⟨_,rfl⟩
 ·rw[if_neg hj,if_neg hj];exact⟨_,rfl⟩
theorem call_int1:zdt X (.type "int") (fun xs H Q=>(∃ i,xs=[.int i]/\Q (.int i) H) \/ ∃ k,xs=[.bl k]/\Q (.int (if k then 1 else 0)) H):=by
 intro pins s σ H xs us Q I r h
 rcases h with ⟨i,rfl,q⟩ | ⟨k,rfl,q⟩
 ·obtain⟨u,rfl,t,rfl⟩:=zfM r
  exact call_int_int ⟨.int i,H,I,⟨_,rfl⟩,q⟩
 ·obtain⟨u,rfl,r1⟩:=zfM r
  cases r1
  exact call_int_bool ⟨.int (if k then 1 else 0),H,I.tok _,⟨_,rfl⟩,q⟩
end
end L2
namespace L2
open PySem PySem.Spec PyProof.Rows
structure ObjM(h:ba)(x dx C:af)(mA:Str->Option ae):Prop where
 obj:h.get? x=aa (c7 C dx)
 ns:h.Ns1 dx mA
 ne:dx ≠ x
theorem lookIn_ns{h:ba}{dx:af}{mA:Str->Option ae}(n:h.Ns1 dx mA):∃ od,h.get? dx=aa od/\∀ name,gg name od=aa (mA name):=by
 obtain⟨o,es,ep,ho,hd,hk,_,hm⟩:=n
 refine⟨o,ho,fun name=>?_⟩
 have e:=hm name
 unfold nsFind findBy at e
 rw[<- Array.find?_toList] at e
 unfold gg
 rw[hd]
 dsimp only
 split
 ·rename_i y q
  rw[q] at e
  exact congrArg aa e
 ·rename_i q
  rw[q] at e
  have a:es.toList.any (·.refKey)=false:=by
   rw[List.any_eq_false]
   intro y hy
   obtain⟨z,t,hkey⟩:=hk y (c8.mp hy)
   simp[lW,hkey]
  have a':¬ es.toList.any (·.refKey)=true:=by rw[a];exact a8
  rw[if_neg a']
  exact congrArg aa e
theorem ObjM.look{h:ba}{x dx C:af}{mA:Str->Option ae}(I:ObjM h x dx C mA):∃ od,PySem.W.InstAt h x (c7 C dx) C (aa od)/\∀ name,gg name od=aa (mA name):=
 let⟨od,ho,hl⟩:=lookIn_ns I.ns
 ⟨od,⟨I.obj,rfl,rfl,ho⟩,hl⟩
section
variable {prog:aL}{w:aX}{A:aS}{E:ae->ag->Prop}{s:ag}{K:ah}{x dx C f:af}{mA:Str->Option ae}{name:Str}{v:ae}
theorem get_map{expr:Bool}{Q:ae->ag->Prop}(X:K.In s.heap)(I:ObjM s.heap x dx C mA)(hg:eu K C name=true)(hh:fB K C=true)
  (ha:bJ K (.ref C) name=aa ab) (hv:mA name=aa v) (hv':jC v=true) (h:Q v { s with toks:=s.toks+1}) :
  aw (model prog w) A (getAttr (.ref x) name expr) Q E s:=by
 obtain⟨od,J,hl⟩:=I.look
 exact PySem.W.get_value X J (gc hg).1 (PySem.W.findObj_own hh ha rfl (by rw[hl,hv])) hv' h
theorem get_meth{pl:Sem Bool}{Q:ae × List ae->ag->Prop}(X:K.In s.heap)(I:ObjM s.heap x dx C mA)(hg:eu K C name=true)
  (hf:bJ K (.ref C) name=aa (aa (.ref f))) (ht:eT K (.ref f)=true) (hv:mA name=ab) (h:Q (.ref f,[.ref x]) s) :
  aw (model prog w) A (getMethod (.ref x) name pl) Q E s:=by
 obtain⟨od,J,hl⟩:=I.look
 exact PySem.W.method_fn X J (gc hg).1 (gc hg).2 hf (beq_iff_eq.mp ht) (by show(gg name od).map (·.isSome)=aa false;rw[hl,hv];rfl) h
theorem set_map{ns:List Str}{Q:Unit->ag->Prop}(X:K.In s.heap)(I:ObjM s.heap x dx C mA)
  (hs:bJ K (.ref C) "__setattr__" = aa (aa (.builtin "object.__setattr__"))) (hp:gH K C=true) (ht:hU K C name=aa ab) (hh:fB K C=true)
  (hw:i9 mA ns) (hsz:ns.length<=be)
  (h:∀ h',ObjM h' x dx C (fun y=>if y=name then aa v else mA y)->eQ dx s.heap h'->Q () { s with heap:=h',toks:=s.toks+2}) :
  aw (model prog w) A (setAttr (.ref x) name v) Q E s:=by
 obtain⟨od,J,hl⟩:=I.look
 refine PySem.W.set_plain X J hs (PySem.W.osa_open (s:={ s with toks:=s.toks+1}) (r:=ab) X J hp ht fun b=>?_)
 obtain⟨cd,hc,hd'⟩:=PySem.W.any_some hh
 have hx:s.heap.get? x=aa ⟨.ref C,aa dx,.plain,#[]⟩:=I.obj
 refine ai (ar (ai (ai (wpAny_loadPart hx (ai (lJ (s:={ s with toks:=s.toks+1}) (PySem.W.looks_clsIn X hc) ?_))))))
 rw[hd']
 refine ar (a:=aa dx) (ai (ar (ai ?_)))
 refine wpAny_nsSet1 (s:={ s with toks:=s.toks+1}) I.ns fun h' hn2 hs2=>?_
 obtain⟨oD,esD,epD,hoD,hdD,hcD⟩:=hn2.count (lQ name v hw)
 refine ai (wpAny_lookBehind hoD (by rw[hdD];exact pastItsLine_dict (aJ hcD (by rw[aI];lia))) ?_)
 exact ar (h _ ⟨(hs2.2 _ (cx I.ne)).trans I.obj,hn2,I.ne⟩ hs2)
theorem make_map{R:Result->ag->Prop}{vs:List ae}{kw:List (Str × ae)}(X:K.In s.heap)(hm:hZ K C=true)
  (hi:bJ K (.ref C) "__init__" = aa (aa (.ref f))) (hf:PySem.W.typeIn K (.ref f)=aa (.type "function"))
  (h:codeAny (model prog w) (A.under (.builtin "type.__call__" ⟨.ref C :: vs,kw⟩)) (.call (.ref f) ⟨.ref (s.heap.objs.size+1) :: vs,kw⟩) (PySem.W.InitBack (s.heap.objs.size+1) R)
   { s with heap:=(s.heap.push cG).push (c7 C s.heap.objs.size)}) :
  codeAny (model prog w) A (.call (.ref C) ⟨vs,kw⟩) R s:=by
 obtain⟨hh,g,d,t,os⟩:=s
 exact PySem.W.make_core (PySem.W.makes_of X hm) (PySem.W.looks_findIn X hi) (fun self=>PySem.W.bind_fn X self hf) (.inl rfl) h
end
def zfn(f:Str)(v:V):List (Str × V)->List (Str × V)
 | []=>[(f,v)]
 | (g,x) :: r=>if g=f then (g,v) :: r else (g,x) :: zfn f v r
theorem ze6(f g:Str)(v:V):∀ fs:List (Str × V),(zfn f v fs).lookup g=if g=f then aa v else fs.lookup g
 | []=>by
  show cj g [(f,v)]=_
  by_cases h:g=f
  ·have hb:(g == f)=true:=beq_iff_eq.mpr h
   simp only[cj,hb,if_pos h]
  ·have hb:(g == f)=false:=beq_eq_false_iff_ne.mpr h
   simp only[cj,hb,if_neg h]
 | (k,x) :: r=>by
  have ih:=ze6 f g v r
  rw[show zfn f v ((k,x) :: r)=(if k=f then (k,v) :: r else (k,x) :: zfn f v r) from rfl]
  by_cases hk:k=f
  ·rw[if_pos hk]
   by_cases h:g=k
   ·have hb:(g == k)=true:=beq_iff_eq.mpr h
    simp only[cj,hb,if_pos (h.trans hk)]
   ·have hb:(g == k)=false:=beq_eq_false_iff_ne.mpr h
    simp only[cj,hb,if_neg (fun e:g=f=>h (e.trans hk.symm))]
  ·rw[if_neg hk]
   by_cases h:g=k
   ·have hb:(g == k)=true:=beq_iff_eq.mpr h
    simp only[cj,hb,if_neg (fun e:g=f=>hk (h.symm.trans e))]
   ·have hb:(g == k)=false:=beq_eq_false_iff_ne.mpr h
    simp only[cj,hb]
    exact ih
theorem ze8(f:Str)(v:V):∀ fs:List (Str × V),f ∈ (zfn f v fs).map (·.1)/\∀ g,g ∈ fs.map (·.1)->g ∈ (zfn f v fs).map (·.1)
 | []=>⟨by simp[zfn],fun g h=>by simp at h⟩
 | (k,x) :: r=>by
  obtain⟨i1,i2⟩:=ze8 f v r
  rw[show zfn f v ((k,x) :: r)=(if k=f then (k,v) :: r else (k,x) :: zfn f v r) from rfl]
  by_cases hk:k=f
  ·rw[if_pos hk]
   subst hk
   exact⟨by simp,fun g h=>by simpa using h⟩
  ·rw[if_neg hk]
   refine⟨?_,fun g h=>?_⟩
   ·rw[aE]
    exact al _ i1
   ·rw[aE] at h ⊢
    rcases aN.mp h with e | e
    ·exact aN.mpr (.inl e)
    ·exact al _ (i2 g e)
theorem zeZ(f:Str)(v:V):∀ fs:List (Str × V),(zfn f v fs).length<=fs.length+1
 | []=>by simp[zfn]
 | (k,x) :: r=>by
  have ih:=zeZ f v r
  rw[show zfn f v ((k,x) :: r)=(if k=f then (k,v) :: r else (k,x) :: zfn f v r) from rfl]
  by_cases hk:k=f
  ·rw[if_pos hk,aI,aI];lia
  ·rw[if_neg hk,aI,aI];lia
theorem RelO.some_of{v:V}{o:Option ae}(r:RelO (aa v) o):∃ u,o=aa u/\RelV v u:=by
 cases o with
 | none=>exact(show False from r).elim
 | some u=>exact⟨u,rfl,r⟩
theorem RelO.none_of{o:Option ae}(r:RelO ab o):o=ab:=by
 cases o with
 | none=>rfl
 | some u=>exact(show False from r).elim
theorem handed_of{v:V}{u:ae}(r:RelV v u):jC u=true:=by
 cases v with
 | non=>cases (show u=eW from r);rfl
 | bl b=>cases (show u=gL b from r);rfl
 | int i=>obtain⟨t,e⟩:=(show ∃ t,u=cr i t from r);cases e;rfl
 | str x=>obtain⟨t,e⟩:=(show ∃ t,u=fR x t from r);cases e;rfl
 | byt b=>obtain⟨t,e⟩:=(show ∃ t,u=k9 b t from r);cases e;rfl
 | flt b=>obtain⟨t,e⟩:=(show ∃ t,u=jz b t from r);cases e;rfl
 | ref a=>cases (show u=bw a from r);rfl
 | ty n=>cases (show u=di n from r);rfl
section
variable {P:aL}{w:aX}{H H':Hp}{h h':ba}{a C dx:af}{fs fs':List (Str × V)}
theorem zf7(hok:HOk P w H h)(e:H a=aa (.ins C dx fs)):∃ mA,ObjM h a dx C mA/\(∀ f,RelO (fs.lookup f) (mA f))/\i9 mA (fs.map (·.1))/\fs.length<=1000/\H dx=aa (.own a):=by
 obtain⟨d,z,ne,ob,mA,n,r,q⟩:=(show ObjOk P w H h a (.ins C dx fs) from hok a _ e)
 exact⟨mA,⟨ob,n,ne⟩,r,q,z,d⟩
end
structure Cls(K:ah)(C:af):Prop where
 pg:eu K C lK=true
 hd:fB K C=true
 po:gH K C=true
 sa:bJ K (.ref C) "__setattr__" = aa (aa (.builtin "object.__setattr__"))
theorem Cls.get{K:ah}{C:af}(c:Cls K C)(f:Str):eu K C f=true:=c.pg
def NoAttr(K:ah)(C:af)(f:Str):Prop:=bJ K (.ref C) f=aa ab
theorem NoAttr.taker{K:ah}{C:af}{f:Str}(n:NoAttr K C f):hU K C f=aa ab:=by
 unfold hU
 rw[show bJ K (.ref C) f=aa ab from n]
 rfl
structure Con(K:ah)(C:af)(f:Str)(v:V)(u:ae):Prop where
 at_:bJ K (.ref C) f=aa (aa u)
 rel:RelV v u
 get:jj K u "__get__" = aa ab
 cp:PySem.W.copiedNames.contains f=false
structure Meth(K:ah)(C:af)(m:Str)(f:af):Prop where
 at_:bJ K (.ref C) m=aa (aa (.ref f))
 fn:eT K (.ref f)=true
 kp:aM K (.ref f)=true
section
variable {X:Cx}{pins:List (af × Obj)}{σ:St}{H:Hp}{s:ag}{a C dx:af}{fs:List (Str × V)}{f:Str}{v:V}{A:aS}{E:ae->ag->Prop}
theorem ziD{b:Bool}{Q:ae->ag->Prop}(I:Inv X pins σ H s)(e:H a=aa (.ins C dx fs))(c:Cls X.K C)(n:NoAttr X.K C f)(l:fs.lookup f=aa v)
  (h:∀ u s',Inv X pins σ H s'->RelV v u->Q u s'):aw (model X.prog X.w) A (getAttr (.ref a) f b) Q E s:=by
 obtain⟨mA,O,r,_,_,_⟩:=zf7 I.hok e
 obtain⟨u,hu,ru⟩:=RelO.some_of (v:=v) (o:=mA f) (by rw[<- l];exact r f)
 exact get_map I.kIn O (c.get f) c.hd n hu (handed_of ru) (h u _ (I.tok _) ru)
theorem zft{m:Str}{g:af}{pl:Sem Bool}{Q:ae × List ae->ag->Prop}(I:Inv X pins σ H s)(e:H a=aa (.ins C dx fs))(c:Cls X.K C)(k:Meth X.K C m g)(l:fs.lookup m=ab)
  (h:Q (.ref g,[.ref a]) s):aw (model X.prog X.w) A (getMethod (.ref a) m pl) Q E s:=by
 obtain⟨mA,O,r,_,_,_⟩:=zf7 I.hok e
 have hn:mA m=ab:=RelO.none_of (by rw[<- l];exact r m)
 exact get_meth I.kIn O (c.get m) k.at_ k.fn hn h
theorem zix{y:V}{u:ae}{Q:Unit->ag->Prop}(I:Inv X pins σ H s)(e:H a=aa (.ins C dx fs))(c:Cls X.K C)(n:NoAttr X.K C f)(hl:fs.length<1000)(ry:RelV y u)
  (h:∀ s',Inv X pins σ (upd H a (.ins C dx (zfn f y fs))) s'->Q () s'):aw (model X.prog X.w) A (setAttr (.ref a) f u) Q E s:=by
 obtain⟨mA,O,r,wi,_,ho⟩:=zf7 I.hok e
 have hz:(fs.map (·.1)).length<=be:=by rw[am,ci];lia
 refine set_map I.kIn O c.sa c.po n.taker c.hd wi hz fun h' O' sb=>h _ ?_
 have hd:∃ o,h'.get? dx=aa o:=let⟨o,_,_,e',_⟩:=O'.ns;⟨o,e'⟩
 refine I.write (x:=a) (e:=dx) (by rw[e];exact dQ) (.inr ho) (fun b q hb z=>(sb.2 b hb).trans z) hd ?_
 refine⟨by rw[zak O.ne];exact ho,?_,O.ne,O'.obj,_,O'.ns,fun g=>?_,fun g hg=>?_⟩
 ·have:=zeZ f y fs;lia
 ·show RelO ((zfn f y fs).lookup g) (if g=f then aa u else mA g)
  rw[ze6]
  by_cases q:g=f
  ·rw[if_pos q,if_pos q];exact ry
  ·rw[if_neg q,if_neg q];exact r g
 ·by_cases q:g=f
  ·rw[q];exact(ze8 f y fs).1
  ·refine(ze8 f y fs).2 g (wi g fun z=>hg ?_)
   show(if g=f then aa u else mA g)=ab
   rw[if_neg q];exact z
theorem Inv.made(I:Inv X pins σ H s):Inv X pins σ (upd (upd H s.heap.objs.size (.own (s.heap.objs.size+1))) (s.heap.objs.size+1) (.ins C s.heap.objs.size []))
  { s with heap:=(s.heap.push cG).push (c7 C s.heap.objs.size)}:=by
 have e1:(s.heap.push cG).get? s.heap.objs.size=aa cG:=aG s.heap rfl
 have e2:((s.heap.push cG).push (c7 C s.heap.objs.size)).get? (s.heap.objs.size+1)=aa (c7 C s.heap.objs.size):=by
  have:=aG (s.heap.push cG) (o:=c7 C s.heap.objs.size) rfl
  rwa [b9] at this
 have e3:(s.heap.push cG).Ns s.heap.objs.size (fun _=>ab):=⟨cG,#[],_,e1,rfl,(fun e he=>absurd he (by simp)),fun _=>rfl⟩
 have I1:=I.laid (a:=s.heap.objs.size) (o:=.own (s.heap.objs.size+1)) (h':=s.heap.push cG) (t':=s.toks) (fun b u q=>aj _ q) (ak _) ⟨_,e1⟩
 refine I1.laid (a:=s.heap.objs.size+1) (o:=.ins C s.heap.objs.size []) (t':=s.toks) (fun b u q=>aj _ q) (dZ (b9 _ _)) ?_
 have ne:s.heap.objs.size ≠ s.heap.objs.size+1:=bf (dh _)
 refine⟨by rw[zak ne,zah],aO _,ne,e2,fun _=>ab,(Heap.Ns1.of_empty e3).at fun o q=>aj _ q,fun _=>dQ,fun y hy=>absurd rfl hy⟩
theorem attr_of{prog:aL}{w:aX}{env:Env}{e:Expr}{f:Str}{pos:Pos}{s:ag}{Q:ae->ag->Prop}(hb:ck e f env (eval e env)=eval e env)
  (h:aw (model prog w) A (eval e env) (fun o s₁=>aw (model prog w) A (getAttr o f true) Q E s₁) E s):aw (model prog w) A (eval (.Attribute e f pos) env) Q E s:=
 Attribute_any_ h (by rw[arm_eval_Attribute,hb])
end
def tFld(K:ah)(ta:TE)(f:Str):TE:=fun σ H Q=>ta σ H fun x H1=>∃ a C dx fs v,x=.ref a/\H1 a=aa (.ins C dx fs)/\Cls K C/\NoAttr K C f/\fs.lookup f=aa v/\Q v H1
def sFld(K:ah)(ta tv:TE)(f:Str):TS:=fun D σ H=>tv σ H fun y H1=>ta σ H1 fun x H2=>∃ a C dx fs,x=.ref a/\H2 a=aa (.ins C dx fs)/\Cls K C/\NoAttr K C f/\fs.length<1000 /\
 D.nx σ (upd H2 a (.ins C dx (zfn f y fs)))
section
variable {X:Cx}{o e value:Expr}{f:Str}{pos pos' tpos:Pos}{ta tv:TE}
theorem pe_fld(he:PE X e ta)(hb:ck e f X.env (eval e X.env)=eval e X.env):PE X (.Attribute e f pos) (tFld X.K ta f):=by
 intro pins s σ H Q I h
 refine attr_of hb (thn (he pins s σ H _ I h) fun u s1 ⟨x,H1,I1,rx,a,C,dx,fs,v,ex,ea,c,n,l,q⟩=>?_)
 subst ex
 obtain rfl:u=bw a:=rx
 exact ziD I1 ea c n l fun u' s2 I2 ru=>⟨v,H1,I2,ru,q⟩
theorem ps_fld(ha:PE X o ta)(hv:PE X value tv)(hs:swapsWith value (aa (.Attribute o f pos')) pos.line X.env=pure false):PS X (.Assign [.Attribute o f pos'] value pos) (sFld X.K ta tv f):=by
 intro pins s σ H D I h
 refine plainObj_wpAny_Assign_Attribute (thn (hv pins s σ H _ I h) fun u s1 ⟨y,H1,I1,ry,q⟩=>thn (ha pins s1 σ H1 _ I1 q) fun ov s2 ⟨x,H2,I2,rx,a,C,dx,fs,ex,ea,c,n,l,q2⟩=>?_) hs
 subst ex
 obtain rfl:ov=bw a:=rx
 exact zix I2 ea c n l ry fun s3 I3=>⟨σ,_,I3,q2⟩
end
section
variable {X:Cx}{pins:List (af × Obj)}{σ:St}{H:Hp}{s:ag}{A:aS}{E:ae->ag->Prop}{Q:ae->ag->Prop}{c:ae}{b:Bool}
inductive TyOf(K:ah)(H:Hp):V->ae->Prop where
 | non:TyOf K H .non (.type "NoneType")
 | bl (x:Bool):TyOf K H (.bl x) (.type "bool")
 | int (i:Int):TyOf K H (.int i) (.type "int")
 | str (x:Str):TyOf K H (.str x) (.type "str")
 | flt (x:UInt64):TyOf K H (.flt x) (.type "float")
 | lst {a:af} {xs:List V} (e:H a=aa (.lst xs)):TyOf K H (.ref a) (.type "list")
 | frz {a:af} {o:Obj} {xs:List V} (e:H a=aa (.frz o (.lst xs))):TyOf K H (.ref a) (.type "list")
 | tup {a:af} {xs:List V} (e:H a=aa (.tup xs)):TyOf K H (.ref a) (.type "tuple")
 | dK {a:af} {kvs:List (Key × V)} (e:Rd H a (.dK kvs)):TyOf K H (.ref a) (.type "dict")
 | dT {a:af} {kvs:List (List Key × V)} (e:H a=aa (.dT kvs)):TyOf K H (.ref a) (.type "dict")
 | ins {a C dx:af} {fs:List (Str × V)} (e:H a=aa (.ins C dx fs)) (cl:Cls K C) (ha:bJ K (.ref C) "__class__" = aa (aa (.builtin "object.__class__")))
   (hn:jj K (.builtin "object.__class__") "__get__" = aa (aa (.builtin "getset_descriptor.__get__"))) (htk:PySem.W.takesIn K (.builtin "object.__class__")=aa true)
   (hm:PySem.W.mroIn K C (.type "object")=aa true):TyOf K H (.ref a) (.ref C)
theorem isinst_ok{x:V}{u t:ae}(I:Inv X pins σ H s)(rx:RelV x u)(ty:TyOf X.K H x t)(e:iE X.K t c=aa b)(h:∀ tk,Q (.bool b) { s with toks:=tk}) :
  aw (model X.prog X.w) A (call (.builtin "isinstance") [u,c]) Q E s:=by
 cases ty with
 | non=>cases (show u=eW from rx);exact cz PySem.W.kitx_none I.kIn dQ e (fun z=>nomatch z) h
 | bl y=>cases (show u=gL y from rx);exact cz PySem.W.kitx_bool I.kIn dQ e (fun z=>nomatch z) h
 | int i=>obtain⟨t,q⟩:=(show ∃ t,u=cr i t from rx);cases q;exact cz PySem.W.kitx_int I.kIn dQ e (fun z=>nomatch z) h
 | str y=>obtain⟨t,q⟩:=(show ∃ t,u=fR y t from rx);cases q;exact cz PySem.W.kitx_str I.kIn dQ e (fun z=>nomatch z) h
 | flt y=>obtain⟨t,q⟩:=(show ∃ t,u=jz y t from rx);cases q;exact cz PySem.W.kitx_float I.kIn dQ e (fun z=>nomatch z) h
 | @lst a xs ea=>
  cases (show u=bw a from rx)
  obtain⟨_,_,n,_,h1⟩:=(show ObjOk X.prog X.w H s.heap a (.lst xs) from I.hok a _ ea)
  exact cz jk I.kIn ⟨_,h1,rfl⟩ e (fun z=>nomatch z) h
 | @frz a ob xs ea=>
  cases (show u=bw a from rx)
  obtain⟨_,_,_,n,_,h1⟩:=(show ObjOk X.prog X.w H s.heap a (.frz ob (.lst xs)) from I.hok a _ ea)
  exact cz jk I.kIn ⟨_,h1,rfl⟩ e (fun z=>nomatch z) h
 | @tup a xs ea=>
  cases (show u=bw a from rx)
  obtain⟨_,_,_,p⟩:=(show ObjOk X.prog X.w H s.heap a (.tup xs) from I.hok a _ ea)
  obtain⟨o,h1,h2,_⟩:=p
  exact cz PySem.W.kitx_tuple I.kIn ⟨o,h1,h2⟩ e (fun z=>nomatch z) h
 | @dK a kvs ea=>
  cases (show u=bw a from rx)
  obtain⟨_,_,vs,_,p⟩:=(show ObjOk X.prog X.w H s.heap a (.dK kvs) from ea.ok I.hok)
  obtain⟨o,es,ep,h1,h2,_⟩:=p
  exact cz jl I.kIn ⟨o,h1,h2.1⟩ e (fun z=>nomatch z) h
 | @dT a kvs ea=>
  cases (show u=bw a from rx)
  obtain⟨_,_,xs,_,o,es,ep,h1,h2,_⟩:=(show ObjOk X.prog X.w H s.heap a (.dT kvs) from I.hok a _ ea)
  exact cz jl I.kIn ⟨o,h1,h2.1⟩ e (fun z=>nomatch z) h
 | @ins a C dx fs ea cl ha hn htk hm=>
  cases (show u=bw a from rx)
  obtain⟨mA,O,_⟩:=zf7 I.hok ea
  obtain⟨od,J,_⟩:=O.look
  exact cz (PySem.W.kitx_own (cl.get _) cl.hd ha hn htk hm) I.kIn J e (fun z=>nomatch z) h
end
end L2
namespace L2
open PySem PySem.Spec PyProof.Rows
structure Room(k:Nat)(A:aS):Prop where
 hd:A.handled=ab
 dp:A.depth+3 * k+5<recursionLimit
 un:A.units+16 * k+200<cLine
theorem Room.mono{j k:Nat}{A:aS}(r:Room k A)(h:j<=k):Room j A:=⟨r.hd,by have:=r.dp;lia,by have:=r.un;lia⟩
theorem Room.deeper{k:Nat}{A:aS}(r:Room (k+1) A)(env:Env):Room k (A.deeper env):=
 ⟨r.hd,by have:=r.dp;show A.depth+1+3 * k+5<_;lia,by have:=r.un;show A.units+3+16 * k+200<_;lia⟩
theorem ziB{A:aS}{C:af}{us:List ae}{kw:List (Str × ae)}:(A.under (.builtin "type.__call__" ⟨.ref C :: us,kw⟩)).depth=A.depth+1:=by
 first | rfl | simp[ja,Code.weight,Code.isCreation,Code.isGuard,Code.isCaller,lb,jb,guardIds]
theorem ziS{A:aS}{C:af}{us:List ae}{kw:List (Str × ae)}:(A.under (.builtin "type.__call__" ⟨.ref C :: us,kw⟩)).units=A.units+1:=by
 first | rfl | simp[ja,Code.cUnits,lb,jb]
theorem Room.make{k:Nat}{A:aS}(r:Room (k+1) A)(C:af)(us:List ae)(kw:List (Str × ae)):Room k (A.under (.builtin "type.__call__" ⟨.ref C :: us,kw⟩)):=
 ⟨r.hd,by have:=r.dp;rw[ziB];lia,by have:=r.un;rw[ziS];lia⟩
theorem Room.depth{k:Nat}{A:aS}(r:Room k A):A.depth<recursionLimit:=by have:=r.dp;lia
theorem Room.units{k:Nat}{A:aS}(r:Room k A):A.units+64<cLine:=by have:=r.un;lia
def tNil:TA:=fun _ H Q=>Q [] H
def tCons(ta:TE)(tr:TA):TA:=fun σ H Q=>ta σ H fun x H1=>tr σ H1 fun xs H2=>Q (x :: xs) H2
section
variable {X:Cx}{e:Expr}{es:List Expr}{te:TE}{t:TA}{pos:Pos}
theorem pa_nil:PA X [] tNil:=fun _ _ _ _ H Q I h=>gI ⟨[],H,I,.nil,h⟩
theorem zhq(ha:PE X e te)(hr:PA X es t)(hs:bj (e :: es) X.env=(false,eval e X.env) :: bj es X.env:=by rfl):PA X (e :: es) (tCons te t):=by
 intro pos pins s σ H Q I h
 rw[hs]
 show aw _ _ (spliced ((false,eval e X.env) :: backTo pos (bj es X.env))) _ _ s
 refine gi (thn (ha pins s σ H _ I h) fun u s1 ⟨x,H1,I1,r1,q1⟩=>?_)
 exact thn (hr pos pins s1 σ H1 _ I1 q1) fun us s2 ⟨xs,H2,I2,r2,q2⟩=>⟨x :: xs,H2,I2,.cons r1 r2,q2⟩
def tTup(t:TA):TE:=fun σ H Q=>t σ H fun xs H1=>xs.length<=be/\∀ p,H1 p=ab->Q (.ref p) (upd H1 p (.tup xs))
def tLst(t:TA):TE:=fun σ H Q=>t σ H fun xs H1=>xs.length<=be/\∀ p,H1 p=ab->Q (.ref p) (upd H1 p (.lst xs))
theorem pe_tup{x1}(h:PA X es t):PE X (.Tuple es x1 pos) (tTup t):=by
 intro pins s σ H Q I hq
 refine wpAny_Tuple_spliced (thn (h pos pins s σ H _ I hq) fun us s1 ⟨xs,H1,I1,r,z,q⟩=>⟨by rw[<- r.length];exact z,?_⟩)
 have hf:H1 s1.heap.objs.size=ab:=I1.hok.fresh (ak _)
 refine⟨.ref s1.heap.objs.size,upd H1 s1.heap.objs.size (.tup xs),I1.laid (t':=s1.toks) (fun b u e=>aj _ e) (ak _) ?_,rfl,q _ hf⟩
 exact⟨z,us,r,⟨_,aG _ rfl,rfl,_,rfl⟩⟩
theorem pe_lst(h:PA X es t):PE X (.List es pos) (tLst t):=by
 intro pins s σ H Q I hq
 refine wpAny_List_spliced (thn (h pos pins s σ H _ I hq) fun us s1 ⟨xs,H1,I1,r,z,q⟩=>⟨by rw[<- r.length];exact z,?_⟩)
 have hf:H1 s1.heap.objs.size=ab:=I1.hok.fresh (ak _)
 refine⟨.ref s1.heap.objs.size,upd H1 s1.heap.objs.size (.lst xs),I1.laid (t':=s1.toks) (fun b u e=>aj _ e) (ak _) ?_,rfl,q _ hf⟩
 exact⟨z,us,0,r,aG _ rfl⟩
end
abbrev Sp:=List V->Hp->VK->XK->Prop
abbrev CXT:=List Env->Hp->ag->XK->ae->ag->Prop
structure Env0(P:aL)(w:aX)(K:ah)(mg:Str->Option ae)(base:ba)(A:aS)(outer:List Env)(s:ag)(H:Hp):Prop where
 frames:A.frames=aa outer
 mod:Mod K mg base
 bs:∀ b o,base.get? b=aa o->s.heap.get? b=aa o/\H b=ab
 bsz:base.objs.size<=s.heap.objs.size
 funs:s.heap.FunFrames base outer
 frf:∀ b ∈ frs outer,H b=ab
 hok:HOk P w H s.heap
 bare:AllBare s.gens
def CE(outer:List Env)(P:aL)(w:aX)(H:Hp)(s:ag)(Q:VK)(u:ae)(s':ag):Prop:=
 ∃ v H',s'.os=s.os/\AllBare s'.gens/\Un (frs outer) [] H H' s.heap s'.heap/\HOk P w H' s'.heap/\RelV v u/\Q v H'
def CR(CX:CXT)(outer:List Env)(P:aL)(w:aX)(H:Hp)(s:ag)(Q:VK)(E:XK)(r:Result)(s':ag):Prop:=
 match r with
 | .ok (.ret u)=>CE outer P w H s Q u s'
 | .ok _=>False
 | .error e=>CX outer H s E e s'
structure FnOk(P:aL)(w:aX)(K:ah)(mg:Str->Option ae)(base:ba)(CX:CXT)(k:Nat)(f:af)(fd:bQ)(ps:List Str)(sp:Sp):Prop where
 len:∀ vs H Q E,sp vs H Q E->vs.length=ps.length
 run:∀ (A:aS) (outer:List Env) (s:ag) (H:Hp) (args:Args) (us:List ae) (vs:List V) (Q:VK) (E:XK),Room k A->Env0 P w K mg base A outer s H->BindsTo s fd args (ps.zip us)->Vals vs us->sp vs H Q E ->
  codeAny (model P w) A (.call (.ref f) args) (CR CX outer P w H s Q E) s
theorem FnOk.imp{P:aL}{w:aX}{K:ah}{mg:Str->Option ae}{base:ba}{CX:CXT}{k:Nat}{f:af}{fd:bQ}{ps:List Str}{sp sp':Sp}(F:FnOk P w K mg base CX k f fd ps sp)
  (h:∀ vs H Q E,sp' vs H Q E->sp vs H Q E):FnOk P w K mg base CX k f fd ps sp':=
 ⟨fun vs H Q E q=>F.len vs H Q E (h _ _ _ _ q),fun A outer s H args us vs Q E hr he hb hv hs=>F.run A outer s H args us vs Q E hr he hb hv (h _ _ _ _ hs)⟩
theorem Env0.make{P:aL}{w:aX}{K:ah}{mg:Str->Option ae}{base:ba}{A:aS}{outer:List Env}{s:ag}{H:Hp}(e:Env0 P w K mg base A outer s H)(C:af)(us:List ae)(kw:List (Str × ae)) :
  Env0 P w K mg base (A.under (.builtin "type.__call__" ⟨.ref C :: us,kw⟩)) outer s H:=⟨by first | exact e.frames | (simpa [ja,Code.envs,jb,pushEnvs] using e.frames),e.mod,e.bs,e.bsz,e.funs,e.frf,e.hok,e.bare⟩
section
variable {X:Cx}{pins:List (af × Obj)}{σ:St}{H:Hp}{s s':ag}
theorem Inv.env0(I:Inv X pins σ H s):Env0 X.prog X.w X.K X.mg X.base X.A X.stack s H:=
 ⟨I.ok.frames,I.ok.mod,I.bs,aJ I.ok.bsz I.sz,I.stack,I.stkFree,I.hok,I.bare⟩
theorem Inv.after{Q:VK}{u:ae}(I:Inv X pins σ H s)(h:CE X.stack X.prog X.w H s Q u s'):EP X pins σ Q u s':=by
 obtain⟨v,H',os,bare,un,hok,r,q⟩:=h
 obtain⟨hh,g,d,t,os'⟩:=s'
 obtain rfl:os'=s.os:=os
 exact⟨v,H',I.call (h':=hh) (g':=g) (d':=d) (t':=t) (ch:=[]) un hok bare (fun b z=>absurd z (by simp)),r,q⟩
end
def tCall(sp:Sp)(dvs:List V)(E:XK)(t:TA):TE:=fun σ H Q=>t σ H fun vs H1=>sp (vs ++ dvs) H1 Q E
def tMeth(C:af)(m:Str)(sp:Sp)(dvs:List V)(E:XK)(ta:TE)(t:TA):TE:=fun σ H Q=>ta σ H fun x H1=>∃ a dx fs,x=.ref a/\H1 a=aa (.ins C dx fs)/\fs.lookup m=ab /\
 t σ H1 fun vs H2=>sp (x :: (vs ++ dvs)) H2 Q E
def tMake(C:af)(sp:Sp)(dvs:List V)(E:XK)(t:TA):TE:=fun σ H Q=>t σ H fun vs H1=>∀ x dx,H1 x=ab->H1 dx=ab->dx ≠ x ->
 sp (.ref x :: (vs ++ dvs)) (upd (upd H1 dx (.own x)) x (.ins C dx [])) (fun v H2=>v=.non/\Q (.ref x) H2) E
def Binds(K:ah)(fd:bQ)(ps:List Str)(ds:List ae):Prop:=
 ∀ (s:ag) (us:List ae),K.In s.heap->(us ++ ds).length=ps.length->BindsTo s fd ⟨us,[]⟩ (ps.zip (us ++ ds))
theorem Binds.all{K:ah}{fd:bQ}{ps:List Str}(h:∀ us:List ae,us.length=ps.length->bindArgs fd ⟨us,[]⟩=pure (ps.zip us)):Binds K fd ps []:=fun s us _ hl=>by
 rw[bF] at hl ⊢
 exact .of_eq (h us hl)
def zcG(CX:CXT)(X:Cx)(E:XK):Prop:=∀ (pins:List (af × Obj)) (σ:St) (H:Hp) (s:ag) (e:ae) (s':ag),Inv X pins σ H s->CX X.stack H s E e s'->X.xe e s'
section
variable {X:Cx}{CX:CXT}{k:Nat}{f C:af}{fd:bQ}{ps:List Str}{sp:Sp}{dvs:List V}{ds:List ae}{E:XK}{x m:Str}{p pos apos:Pos}{e o:Expr}{es:List Expr}{ta:TE}{t:TA}
theorem run_fn{pins:List (af × Obj)}{σ:St}{H:Hp}{s:ag}{Q:VK}{us:List ae}{vs:List V}(F:FnOk X.prog X.w X.K X.mg X.base CX k f fd ps sp)(hr:Room k X.A)(hb:Binds X.K fd ps ds)(hd:Vals dvs ds)(hx:zcG CX X E)
  (I:Inv X pins σ H s) (r:Vals vs us) (h:sp (vs ++ dvs) H Q E):aw (model X.prog X.w) X.A (call (.ref f) us) (EP X pins σ Q) X.xe s:=by
 have r2:Vals (vs ++ dvs) (us ++ ds):=r.append hd
 have hl:(us ++ ds).length=ps.length:=by rw[<- r2.length];exact F.len _ _ _ _ h
 refine wpAny_call (codeAny_mono (F.run X.A X.stack s H ⟨us,[]⟩ (us ++ ds) (vs ++ dvs) Q E hr I.env0 (hb s us I.kIn hl) r2 h) fun r s' hq=>?_)
 cases r with
 | error e=>exact hx pins σ H s e s' I hq
 | ok fl=>
  cases fl with
  | ret u=>exact I.after hq
  | next=>exact cf hq
  | brk=>exact cf hq
  | cont=>exact cf hq
theorem pe_call(F:FnOk X.prog X.w X.K X.mg X.base CX k f fd ps sp)(hr:Room k X.A)(hg:Gl X x)(hm:X.mg x=aa (.ref f))(hk:aM X.K (.ref f)=true)(hb:Binds X.K fd ps ds)(hd:Vals dvs ds)(hx:zcG CX X E)
  (ha:PA X (e :: es) t) (hdb:(x == ("__debug__" : Str))=false:=by decide) (he:bj (e :: es) X.env=(false,eval e X.env) :: bj es X.env:=by rfl) (hpl:(backTo pos (bj es X.env)).any (·.1)=false:=by rfl) :
  PE X (.Call (.Name x p) (e :: es) [] pos) (tCall sp dvs E t):=by
 intro pins s σ H Q I h
 refine cC (zhp I hg hm ?_ hdb)
 refine gj (h₀:=X.base) I.ok.mod.kin hk (thn (ha pos pins s σ H _ I h) fun us s1 ⟨vs,H1,I1,r,q⟩=>⟨I1.kIn,?_⟩) he hpl
 exact run_fn F hr hb hd hx I1 r q
theorem pe_meth{pl:Sem Bool}(he:PE X o ta)(c:Cls X.K C)(hm:Meth X.K C m f)(F:FnOk X.prog X.w X.K X.mg X.base CX k f fd ps sp)(hr:Room k X.A)(hb:Binds X.K fd ps ds)(hd:Vals dvs ds)(hx:zcG CX X E)(ha:PA X (e :: es) t)
  (hst:bj (e :: es) X.env=(false,eval e X.env) :: bj es X.env:=by rfl) (hpl:(backTo pos (bj es X.env)).any (·.1)=false:=by rfl)
  (ht:eval (.Call (.Attribute o m apos) (e :: es) [] pos) X.env=(do
   let ov <- eval o X.env
   standAt apos.atName
   let (f,first) <- holding [ov] (getMethod ov m pl)
   callWith pos f first (backTo pos (bj (e :: es) X.env)) (backToKw pos (keywordEach [] X.env))):=by rfl) :
  PE X (.Call (.Attribute o m apos) (e :: es) [] pos) (tMeth C m sp dvs E ta t):=by
 intro pins s σ H Q I h
 refine iF (pl:=pl) (thn (he pins s σ H _ I h) fun u s1 ⟨x,H1,I1,rx,a,dx,fs,ex,ea,l,q⟩=>?_) ht
 subst ex
 obtain rfl:u=bw a:=rx
 refine zft I1 ea c hm l ?_
 refine gj (first:=[.ref a]) (h₀:=X.base) I.ok.mod.kin hm.kp (thn (ha pos pins s1 σ H1 _ I1 q) fun us s2 ⟨vs,H2,I2,r,q2⟩=>⟨I2.kIn,?_⟩) hst hpl
 exact run_fn (us:=.ref a :: us) (vs:=.ref a :: vs) F hr hb hd hx I2 (.cons rfl r) q2
theorem pe_meth0{pl:Sem Bool}(he:PE X o ta)(c:Cls X.K C)(hm:Meth X.K C m f)(F:FnOk X.prog X.w X.K X.mg X.base CX k f fd ps sp)(hr:Room k X.A)(hb:Binds X.K fd ps ds)(hd:Vals dvs ds)(hx:zcG CX X E)
  (ht:eval (.Call (.Attribute o m apos) [] [] pos) X.env=(do
   let ov <- eval o X.env
   standAt apos.atName
   let (f,first) <- holding [ov] (getMethod ov m pl)
   callWith pos f first (backTo pos (bj [] X.env)) (backToKw pos (keywordEach [] X.env))):=by rfl) :
  PE X (.Call (.Attribute o m apos) [] [] pos) (tMeth C m sp dvs E ta tNil):=by
 intro pins s σ H Q I h
 refine iF (pl:=pl) (thn (he pins s σ H _ I h) fun u s1 ⟨x,H1,I1,rx,a,dx,fs,ex,ea,l,q⟩=>?_) ht
 subst ex
 obtain rfl:u=bw a:=rx
 refine zft I1 ea c hm l ?_
 exact PySem.W.callWith_K0 (first:=[.ref a]) I1.kIn hm.kp (run_fn (us:=[.ref a]) (vs:=[.ref a]) F hr hb hd hx I1 (.cons rfl .nil) q)
structure Mk(K:ah)(C f:af):Prop where
 makes:hZ K C=true
 init:bJ K (.ref C) "__init__" = aa (aa (.ref f))
 fn:eT K (.ref f)=true
 kp:aM K (.ref C)=true
theorem run_make{pins:List (af × Obj)}{σ:St}{H:Hp}{s:ag}{Q:VK}{us:List ae}{vs:List V}(M:Mk X.K C f)(F:FnOk X.prog X.w X.K X.mg X.base CX k f fd ps sp)(hr:Room (k+1) X.A)(hb:Binds X.K fd ps ds)(hd:Vals dvs ds)
  (hx:zcG CX X E) (I:Inv X pins σ H s) (r:Vals vs us)
  (h:∀ x dx,H x=ab->H dx=ab->dx ≠ x->sp (.ref x :: (vs ++ dvs)) (upd (upd H dx (.own x)) x (.ins C dx [])) (fun v H2=>v=.non/\Q (.ref x) H2) E) :
  aw (model X.prog X.w) X.A (call (.ref C) us) (EP X pins σ Q) X.xe s:=by
 have hq:=h (s.heap.objs.size+1) s.heap.objs.size (I.hok.fresh (cE _)) (I.hok.fresh (ak _)) (bf (dh _))
 have I2:=Inv.made (C:=C) I
 have r2:Vals (V.ref (s.heap.objs.size+1) :: (vs ++ dvs)) (bw (s.heap.objs.size+1) :: (us ++ ds)):=.cons rfl (r.append hd)
 have hl:(bw (s.heap.objs.size+1) :: us ++ ds).length=ps.length:=by
  have e:=r2.length
  rw[F.len _ _ _ _ hq] at e
  exact e.symm
 refine wpAny_call (make_map (f:=f) I.kIn M.makes M.init (beq_iff_eq.mp M.fn) (codeAny_mono (F.run _ X.stack _ _ ⟨bw (s.heap.objs.size+1) :: us,[]⟩ (bw (s.heap.objs.size+1) :: (us ++ ds)) _ _ E (hr.make C us [])
  (I2.env0.make C us []) (hb _ (bw (s.heap.objs.size+1) :: us) I2.kIn hl) r2 hq) fun r s' hq'=>?_))
 cases r with
 | error e=>exact hx pins σ _ _ e s' I2 hq'
 | ok fl=>
  cases fl with
  | ret u=>
   obtain⟨v,H',I3,rv,ev,q3⟩:=I2.after hq'
   subst ev
   exact⟨rv,⟨V.ref (s.heap.objs.size+1),H',I3,rfl,q3⟩⟩
  | next=>exact cf hq'
  | brk=>exact cf hq'
  | cont=>exact cf hq'
theorem pe_make(M:Mk X.K C f)(F:FnOk X.prog X.w X.K X.mg X.base CX k f fd ps sp)(hr:Room (k+1) X.A)(hg:Gl X x)(hm:X.mg x=aa (.ref C))(hb:Binds X.K fd ps ds)(hd:Vals dvs ds)(hx:zcG CX X E)
  (ha:PA X (e :: es) t) (hdb:(x == ("__debug__" : Str))=false:=by decide) (he:bj (e :: es) X.env=(false,eval e X.env) :: bj es X.env:=by rfl) (hpl:(backTo pos (bj es X.env)).any (·.1)=false:=by rfl) :
  PE X (.Call (.Name x p) (e :: es) [] pos) (tMake C sp dvs E t):=by
 intro pins s σ H Q I h
 refine cC (zhp I hg hm ?_ hdb)
 refine gj (h₀:=X.base) I.ok.mod.kin M.kp (thn (ha pos pins s σ H _ I h) fun us s1 ⟨vs,H1,I1,r,q⟩=>⟨I1.kIn,?_⟩) he hpl
 exact run_make M F hr hb hd hx I1 r q
end
def PK(X:Cx)(kws:List Keyword)(t:TA):Prop:=
 ∀ (pos:Pos) (pins:List (af × Obj)) (s:ag) (σ:St) (H:Hp) (Q:List V->Hp->Prop),Inv X pins σ H s->t σ H Q->aw (model X.prog X.w) X.A (evalAll ((backToKw pos (keywordEach kws X.env)).map (·.2))) (AP X pins σ Q) X.xe s
section
variable {X:Cx}{CX:CXT}{k:Nat}{f C:af}{fd:bQ}{ps ks:List Str}{sp:Sp}{E:XK}{x m:Str}{p pos apos kpos:Pos}{e o:Expr}{es:List Expr}{kws:List Keyword}{te ta:TE}{t tk:TA}{nm:Option Str}
theorem pk_nil:PK X [] tNil:=fun _ _ _ _ H Q I h=>wpAny_evalAll_nil ⟨[],H,I,.nil,h⟩
theorem pk_cons(ha:PE X e te)(hr:PK X kws t):PK X (⟨nm,e,kpos⟩ :: kws) (tCons te t):=by
 intro pos pins s σ H Q I h
 show aw _ _ (evalAll ((do let v <- eval e X.env;standAt pos;pure v) :: (backToKw pos (keywordEach kws X.env)).map (·.2))) _ _ s
 refine wpAny_evalAll_cons (ai (thn (ha pins s σ H _ I h) fun u s1 ⟨x,H1,I1,r1,q1⟩=>ai (wpAny_standAt (ar ?_))))
 exact thn (hr pos pins s1 σ H1 _ I1 q1) fun us s2 ⟨xs,H2,I2,r2,q2⟩=>⟨x :: xs,H2,I2,.cons r1 r2,q2⟩
structure KBinds(K:ah)(fd:bQ)(ps ks:List Str)(g:List ae->List ae->List ae)(gV:List V->List V->List V):Prop where
 to:∀ (s:ag) (us ws:List ae),K.In s.heap->(g us ws).length=ps.length->BindsTo s fd ⟨us,ks.zip ws⟩ (ps.zip (g us ws))
 rel:∀ {vs:List V} {us:List ae} {zs:List V} {ws:List ae},Vals vs us->Vals zs ws->Vals (gV vs zs) (g us ws)
variable {g:List ae->List ae->List ae}{gV:List V->List V->List V}
end
structure FnScope(N P:List Str)(sc:Scope):Prop where
 kind:sc.kind=.function
 co:sc.isCoroutine=false
 gen:sc.isGenerator=false
 nd:N.Nodup
 pre:N.take P.length=P
 par:∀ x ∈ P,sc.names.lookup x=aa .local \/ sc.names.lookup x=aa .cell
 nofree:∀ y ∈ sc.names,y.2 ≠ .free
theorem zgJ{kindOf:Str->Option NameKind}{x:Str}:∀ {binds:List (Str × ae)} {m:Str->Option ae},(∀ v,(x,v) ∉ binds)->bindL kindOf binds m x=m x
 | [],_,_=>rfl
 | (n,v) :: r,m,h=>by
  unfold bindL
  rw[zgJ fun w hw=>h w (al _ hw)]
  split
  ·have:x ≠ n:=by rintro rfl;exact h v av
   simp[this]
  ·rfl
theorem zgT{kindOf:Str->Option NameKind}{x:Str}:∀ {binds:List (Str × ae)} {m:Str->Option ae},(∀ v,(x,v) ∉ binds)->bindC kindOf binds m x=m x
 | [],_,_=>rfl
 | (n,v) :: r,m,h=>by
  unfold bindC
  rw[zgT fun w hw=>h w (al _ hw)]
  split
  ·rfl
  ·have:x ≠ n:=by rintro rfl;exact h v av
   simp[this]
theorem zgx{kindOf:Str->Option NameKind}{x:Str}{v:ae}:∀ {P:List Str} {vs:List ae} {i:Nat} {m:Str->Option ae},P.Nodup->P[i]? = aa x->vs[i]? = aa v->kindOf x=aa .local ->
  bindL kindOf (P.zip vs) m x=aa v
 | [],_,_,_,_,h,_,_=>by simp at h
 | _ :: _,[],_,_,_,_,h,_=>by simp at h
 | p :: P,w :: vs,0,m,nd,h1,h2,hk=>by
  simp at h1 h2;subst h1;subst h2
  show bindL kindOf ((p,w) :: P.zip vs) m p=_
  unfold bindL
  rw[zgJ fun v hv=>(aW.mp nd).1 (ic hv).1,if_pos hk]
  simp
 | p :: P,w :: vs,i+1,m,nd,h1,h2,hk=>by
  show bindL kindOf ((p,w) :: P.zip vs) m x=_
  unfold bindL
  exact zgx (i:=i) (aW.mp nd).2 (by simpa using h1) (by simpa using h2) hk
theorem zgK{kindOf:Str->Option NameKind}{x:Str}{v:ae}:∀ {P:List Str} {vs:List ae} {i:Nat} {m:Str->Option ae},P.Nodup->P[i]? = aa x->vs[i]? = aa v->kindOf x ≠ aa .local ->
  bindC kindOf (P.zip vs) m x=aa v
 | [],_,_,_,_,h,_,_=>by simp at h
 | _ :: _,[],_,_,_,_,h,_=>by simp at h
 | p :: P,w :: vs,0,m,nd,h1,h2,hk=>by
  simp at h1 h2;subst h1;subst h2
  show bindC kindOf ((p,w) :: P.zip vs) m p=_
  unfold bindC
  rw[zgT fun v hv=>(aW.mp nd).1 (ic hv).1,if_neg hk]
  simp
 | p :: P,w :: vs,i+1,m,nd,h1,h2,hk=>by
  show bindC kindOf ((p,w) :: P.zip vs) m x=_
  unfold bindC
  exact zgK (i:=i) (aW.mp nd).2 (by simpa using h1) (by simpa using h2) hk
def start(N:List Str)(vs:List V):St:=vs.map aa ++ aF (N.length - vs.length) ab
def cxOf(CX:CXT)(P:aL)(w:aX)(K:ah)(mg:Str->Option ae)(base:ba)(N:List Str)(qual:Str)(scope:Scope)(f:af)(cd:ae)(A:aS)(outer:List Env)(s:ag)(H:Hp)(E:XK):Cx where
 prog:=P
 w:=w
 K:=K
 mg:=mg
 base:=base
 A:=A.deeper (envOfC qual scope s.heap.objs.size f cd)
 N:=N
 s₀:=s
 H₀:=H
 env:=envOfC qual scope s.heap.objs.size f cd
 outer:=outer
 stack:=envOfC qual scope s.heap.objs.size f cd :: outer
 ex:=[]
 calm:=true
 fn:=fun _=>true
 pn:=[]
 xe:=fun e s'=>aw (model P w) (A.deeper (envOfC qual scope s.heap.objs.size f cd)) (leaving (envOfC qual scope s.heap.objs.size f cd) e) (fun _ s''=>CX outer H s E e s'') (fun e' s''=>CX outer H s E e' s'') s'
theorem zh3{sc:Scope}{n:Nat}{x:Str}(h:sc.names.lookup x=aa .cell):∃ c,(cellsFrom n sc.names []).lookup x=aa c:=by
 have q:=iu sc.names n [] (.inl h)
 exact Option.isSome_iff_exists.mp q
theorem inv_start{CX:CXT}{P:aL}{w:aX}{K:ah}{mg:Str->Option ae}{base:ba}{N ps:List Str}{qual:Str}{scope:Scope}{f:af}{cd:ae}{A:aS}{outer:List Env}{s s1:ag}{H:Hp}{E:XK}{us:List ae}{vs:List V}
  (S:FnScope N ps scope) (hd:A.handled=ab) (e0:Env0 P w K mg base A outer s H) (hl:vs.length=ps.length) (r:Vals vs us)
  (x:InCallC s s.heap.objs.size (bindL (envOfC qual scope s.heap.objs.size f cd).kindOf (ps.zip us) fun _=>ab) (cellsFrom (s.heap.objs.size+1) scope.names []) (bindC (envOfC qual scope s.heap.objs.size f cd).kindOf (ps.zip us) fun _=>ab) s1) :
  Inv (cxOf CX P w K mg base N qual scope f cd A outer s H E) [] (start N vs) H s1:=by
 have hpl:ps.length<=N.length:=by have:=congrArg gh S.pre;rw[bB] at this;lia
 obtain⟨h1,tk,rfl,hk⟩:=x.done
 have noA:∀ b:af,b ∉ (cxOf CX P w K mg base N qual scope f cd A outer s H E).ex:=fun b z=>absurd (show b ∈ ([]:List af) from z) (by simp)
 refine⟨⟨e0.mod,S.kind,rfl,rfl,ak _,fun y z c h1 h2=>?_,fun y hy=>?_,fun y c _ h=>?_,fun _=>hd,Around.frames_deeper e0.frames,.inr ⟨rfl,rfl⟩,fun b z=>absurd z (noA b),e0.bs,e0.bsz,fun b _ _=>noA b,fun b z=>absurd z (noA b),e0.funs,e0.frf⟩,
  rfl,e0.bare,Un.kept hk,⟨_,x.toInCall.ns,fun i y v h1 h2 h3=>?_⟩,fun y c h=>⟨_,x.cell y c h⟩,e0.hok.fresh (ak _),fun y c h=>?_,fun p hp=>absurd (show p ∈ ([]:List (af × Obj)) from hp) (by simp),e0.hok.kept hk,?_⟩
 ·exact name_of_addr x.apart (bW h1) (bW h2)
 ·have hy:scope.names.lookup y=aa .cell \/ scope.names.lookup y=aa .free:=hy
  rcases hy with hy | hy
  ·exact zh3 hy
  ·exact absurd rfl (S.nofree _ (bW hy))
 ·exact bH (x.above y c (bW h))
 ·have hi:i<vs.length:=by
   unfold start at h2
   by_cases hi:i<vs.length
   ·exact hi
   ·rw[cD (by simpa using hi)] at h2
    rw[dM] at h2
    split at h2 <;> cases h2
  have ha:vs[i]? = aa v:=by
   unfold start at h2
   rw[b6 (by simpa using hi),aD] at h2
   cases e:vs[i]? with
   | none=>rw[e] at h2;cases h2
   | some a=>rw[e] at h2;cases h2;rfl
  obtain⟨u,hu,rv⟩:=r.get ha
  have hp:ps[i]? = aa y:=by
   rw[<- S.pre,c9 (by lia)];exact h1
  have ndP:ps.Nodup:=by rw[<- S.pre];exact S.nd.sublist (jm _ _)
  refine⟨u,rv,?_⟩
  rcases S.par y (da hp) with k | k
  ·exact .inl ⟨k,zgx ndP hp hu k⟩
  ·obtain⟨c,e⟩:=zh3 (n:=s.heap.objs.size+1) k
   refine .inr ⟨.inl k,c,e,?_⟩
   have q:=x.cell y c e
   rw[zgK ndP hp hu (by show scope.names.lookup y ≠ _;rw[k];decide)] at q
   exact q
 ·exact e0.hok.fresh (bH (x.above y c (bW h)))
 ·unfold start
  show _=N.length
  rw[ay,am,c6]
  lia
theorem fn_of{CX:CXT}{P:aL}{w:aX}{K:ah}{mg:Str->Option ae}{base:ba}{k:Nat}{f:af}{name qual:Str}{params:Arguments}{body:List Stmt}{scope:Scope}{dV kV doc pm cdv ct oc:ae}{an od:Option af}
  {osl:Array (Option ae)} {N ps:List Str} {sp:Sp} (lk:K.lookup f=aa ⟨oc,od,.func (aV name qual params body scope dV kV doc pm an cdv ct),osl⟩) (hcd:aR K cdv qual=true) (S:FnScope N ps scope)
  (len:∀ vs H Q E,sp vs H Q E->vs.length=ps.length)
  (hbody:∀ (A:aS) (outer:List Env) (s:ag) (H:Hp) (vs:List V) (Q:VK) (E:XK),Room k (A.deeper (envOfC qual scope s.heap.objs.size f cdv))->sp vs H Q E ->
   ∃ t,PSs (cxOf CX P w K mg base N qual scope f cdv A outer s H E) body t/\t { nx:=fun _ H'=>Q .non H',rt:=Q} (start N vs) H) :
  FnOk P w K mg base CX (k+1) f (aV name qual params body scope dV kV doc pm an cdv ct) ps sp:=by
 refine⟨len,fun A outer s H args us vs Q E hr e0 hb r hsp=>?_⟩
 have hl:=len _ _ _ _ hsp
 have KX:K.In s.heap:=e0.mod.kin.keeps fun b o e=>(e0.bs b o e).1
 have lim:s.heap.NoLimit:=e0.mod.nolimit.keeps fun b o e=>(e0.bs b o e).1
 have hkind:∀ y ∈ ps.zip us,scope.names.lookup y.1=aa .local \/ (scope.names.lookup y.1=aa .cell/\((cellsFrom (s.heap.objs.size+1) scope.names []).lookup y.1).isSome=true):=fun⟨n,v⟩ hy=>by
  rcases S.par n (ic hy).1 with q | q
  ·exact .inl q
  ·exact .inr ⟨q,iu _ _ _ (.inl q)⟩
 refine codeAny_call_function hr.depth (KX _ _ lk) rfl S.co S.gen rfl (PySem.W.codeRec_of KX hcd) (hb _ _ _ _ ?_)
 refine wpAny_newFunctionEnv_cells S.kind hkind fun env he s1 x=>?_
 subst he
 refine⟨lim.keeps x.toInCall.keep,codeAny_func ?_⟩
 obtain⟨t,ht,hq⟩:=hbody A outer s H vs Q E (hr.deeper _) hsp
 have I:Inv (cxOf CX P w K mg base N qual scope f cdv A outer s H E) [] (start N vs) H s1:=inv_start S hr.hd e0 hl r x
 refine bU (ht [] s1 (start N vs) H _ I hq) (fun fl s' hs=>?_) fun e s' hs=>hs
 have fin:∀ {σ':St} {H':Hp} {v:V} {u:ae},Inv (cxOf CX P w K mg base N qual scope f cdv A outer s H E) [] σ' H' s'->RelV v u->Q v H'->CE outer P w H s Q u s':=
  fun {σ' H' v u} J rv q=>⟨v,H',J.os,J.bare,J.base,J.hok,rv,q⟩
 cases fl with
 | ret u=>
  obtain⟨v,σ',H',J,rv,q⟩:=hs
  exact fin J rv q
 | next=>
  obtain⟨σ',H',J,q⟩:=hs
  exact fin (v:=V.non) (u:=eW) J rfl q
 | brk=>
  obtain⟨_,_,_,q⟩:=hs
  exact cf q
 | cont=>
  obtain⟨_,_,_,q⟩:=hs
  exact cf q
end L2
namespace L2
open PySem PySem.Spec PyProof.Rows
section
variable {X:Cx}{x:Str}{p pos:Pos}{e:Expr}{es:List Expr}{t:TA}{id T:String}{r:List V->Hp->VK->Prop}
def tCB(r:List V->Hp->VK->Prop)(t:TA):TE:=fun σ H Q=>t σ H fun vs H1=>r vs H1 Q
theorem pe_callB(hc:zdt X (.builtin id) r)(hg:Gl X x)(hm:X.mg x=ab)(hv:a9 x=aa (.builtin id))(ha:PA X (e :: es) t)(hn:x ≠ "__name__" :=by decide)(hdb:(x == ("__debug__" : Str))=false:=by decide)
  (he:bj (e :: es) X.env=(false,eval e X.env) :: bj es X.env:=by rfl) (hpl:(backTo pos (bj es X.env)).any (·.1)=false:=by rfl):PE X (.Call (.Name x p) (e :: es) [] pos) (tCB r t):=by
 intro pins s σ H Q I h
 refine cC (zdz I hg hm hv ?_ hn hdb)
 exact fW (thn (ha pos pins s σ H _ I h) fun us s1 ⟨vs,H1,I1,r1,q1⟩=>hc pins s1 σ H1 vs us Q I1 r1 q1) he hpl
theorem pe_callTy(hc:zdt X (.type T) r)(hg:Gl X x)(hm:X.mg x=ab)(hv:a9 x=aa (.type T))(ha:PA X (e :: es) t)(hn:x ≠ "__name__" :=by decide)(hdb:(x == ("__debug__" : Str))=false:=by decide)
  (he:bj (e :: es) X.env=(false,eval e X.env) :: bj es X.env:=by rfl) (hpl:(backTo pos (bj es X.env)).any (·.1)=false:=by rfl):PE X (.Call (.Name x p) (e :: es) [] pos) (tCB r t):=by
 intro pins s σ H Q I h
 refine cC (zdz I hg hm hv ?_ hn hdb)
 exact cB (thn (ha pos pins s σ H _ I h) fun us s1 ⟨vs,H1,I1,r1,q1⟩=>hc pins s1 σ H1 vs us Q I1 r1 q1) he hpl
end
end L2
namespace HT
open PySem PyProof.Rows
section
open PySem.SeqAt
open PySem.AutoSeq1 (wpAny_loadPart')
open PySem.MeetsSeq PySem.MeetsSeq2 PySem.MeetsSeq3
end
section
variable {prog:aL}{w:aX}{A:aS}{E:ae->ag->Prop}{s:ag}
def sIx(n d:Nat):Option Int->Nat
 | none=>d
 | some v=>if v<0 then (v+(n:Int)).toNat else min v.toNat n
theorem sIx_none(n d:Nat):sIx n d ab=d:=rfl
theorem sIx_nat(n d k:Nat):sIx n d (aa (k:Int))=min k n:=by
 show(if (k:Int)<0 then ((k:Int)+(n:Int)).toNat else min (k:Int).toNat n)=min k n
 rw[if_neg (by lia),de]
theorem sIx_le(n d:Nat)(hd:d<=n)(o:Option Int):sIx n d o<=n:=by
 cases o with
 | none=>exact hd
 | some v=>
  show(if v<0 then (v+(n:Int)).toNat else min v.toNat n)<=n
  by_cases hv:v<0
  ·rw[if_pos hv];lia
  ·rw[if_neg hv];exact eA _ _
end
end HT
namespace L2
open PySem PySem.Spec PyProof.Rows
abbrev TO:=St->Hp->(Option Int->Hp->Prop)->Prop
def PO(X:Cx)(e:Option Expr)(t:TO):Prop:=
 ∀ (pins:List (af × Obj)) (s:ag) (σ:St) (H:Hp) (Q:Option Int->Hp->Prop),Inv X pins σ H s->t σ H Q ->
  aw (model X.prog X.w) X.A (evalPart e X.env) (fun u s'=>∃ o H',Inv X pins σ H' s'/\IsPart u o/\Q o H') X.xe s
def tNoPart:TO:=fun _ H Q=>Q ab H
def tPart(t:TE):TO:=fun σ H Q=>t σ H fun x H1=>∃ i,x=.int i/\Q (aa i) H1
section
variable {X:Cx}{e:Expr}{te:TE}{lo hi:Option Expr}{tl th:TO}{pos p2:Pos}
theorem po_none:PO X ab tNoPart:=by
 intro pins s σ H Q I h
 rw[evalPart_none]
 exact ar ⟨ab,H,I,.none,h⟩
theorem po_some(h:PE X e te):PO X (aa e) (tPart te):=by
 intro pins s σ H Q I hw
 rw[evalPart_some]
 refine thn (h pins s σ H _ I hw) fun u s1 ⟨x,H1,I1,r1,q1⟩=>?_
 obtain⟨i,rfl,q⟩:=q1
 obtain⟨t,rfl⟩:=r1
 exact⟨aa i,H1,I1,.int i t,q⟩
def SlR(X:Cx)(r:V->Option Int->Option Int->Hp->VK->Prop):Prop:=
 ∀ (pins:List (af × Obj)) (s:ag) (σ:St) (H:Hp) (x:V) (v vl vu:ae) (lo hi:Option Int) (sl:af) (Q:VK),Inv X pins σ H s->RelV x v->s.heap.IsSliceOf sl vl vu .none->IsPart vl lo->IsPart vu hi->r x lo hi H Q ->
  ∃ T id,typeLookup (.type T) "__getitem__" = pure (aa (.builtin id))/\s.TypeIs v T/\aw (model X.prog X.w) X.A (getItem v (.ref sl)) (EP X pins σ Q) X.xe s
def tSl(r:V->Option Int->Option Int->Hp->VK->Prop)(te:TE)(tl th:TO):TE:=fun σ H Q=>te σ H fun x H1=>tl σ H1 fun l H2=>th σ H2 fun u H3=>r x l u H3 Q
theorem pe_slice{r:V->Option Int->Option Int->Hp->VK->Prop}(hr:SlR X r)(he:PE X e te)(hl:PO X lo tl)(hu:PO X hi th):PE X (.Subscript e (.Slice lo hi ab p2) pos) (tSl r te tl th):=by
 intro pins s σ H Q I h
 refine Subscript_ (thn (he pins s σ H _ I h) fun v s1 ⟨x,H1,I1,r1,q1⟩=>?_)
 refine wpAny_Slice (thn (hl pins s1 σ H1 _ I1 q1) fun vl s2 ⟨l,H2,I2,pl,q2⟩=>thn (hu pins s2 σ H2 _ I2 q2) fun vu s3 ⟨u,H3,I3,pu,q3⟩=>?_)
 rw[evalPart_none]
 refine ar ?_
 have I4:Inv X pins σ H3 { s3 with heap:=s3.heap.push { cls:=.type "slice",data:=.fields #[vl,vu,.none]}}:=I3.kept (t':=s3.toks) fun b ob q=>aj _ q
 obtain⟨T,id,hT,ht,hg⟩:=hr pins { s3 with heap:=s3.heap.push { cls:=.type "slice",data:=.fields #[vl,vu,.none]}} σ H3 x v vl vu l u s3.heap.objs.size Q I4 r1 (lL ..) pl pu q3
 show aw (model X.prog X.w) X.A (subscriptTail e (.Slice lo hi ab p2) v (.ref s3.heap.objs.size)) (EP X pins σ Q) X.xe { s3 with heap:=s3.heap.push { cls:=.type "slice",data:=.fields #[vl,vu,.none]}}
 exact tail_any (ops:=[.ref s3.heap.objs.size,v]) ht hT hg (by with_unfolding_all rfl)
def cutV(xs:List V)(lo hi:Option Int):List V:=(xs.drop (HT.sIx xs.length 0 lo)).take (HT.sIx xs.length xs.length hi - HT.sIx xs.length 0 lo)
theorem zhF(xs:List V)(lo hi:Option Int):(cutV xs lo hi).length<=xs.length:=by
 unfold cutV
 rw[bB,cY]
 lia
end
end L2
namespace L2
open PySem PySem.Spec PyProof.Rows
def ixN(n:Nat)(i:Int):Option Nat:=if 0<=i then (if i<n then aa i.toNat else ab) else if -(n:Int)<=i then aa (i+n).toNat else ab
def atI{α:Type}(xs:List α)(i:Int):Option α:=(ixN xs.length i).bind fun j=>xs[j]?
theorem ixN_seq{n:Nat}{i:Int}{j:Nat}(h:ixN n i=aa j):seqIndex? i n=aa j/\j<n /\ -(n:Int)<=i/\i<n:=by
 unfold ixN at h
 by_cases h0:0<=i
 ·rw[if_pos h0] at h
  by_cases h1:i<n
  ·rw[if_pos h1] at h
   have e:i.toNat=j:=bg h
   exact⟨by rw[seqIndex_of h0 h1,e],by lia,by lia,h1⟩
  ·rw[if_neg h1] at h;cases h
 ·rw[if_neg h0] at h
  by_cases h1:-(n:Int)<=i
  ·rw[if_pos h1] at h
   have e:(i+n).toNat=j:=bg h
   exact⟨by rw[seqIndex_neg (by lia) h1,e],by lia,h1,by lia⟩
  ·rw[if_neg h1] at h;cases h
theorem zht{α:Type}{xs:List α}{i:Int}{v:α}(h:atI xs i=aa v):∃ j,seqIndex? i xs.length=aa j/\xs[j]? = aa v/\j<xs.length /\ -(xs.length:Int)<=i/\i<xs.length:=by
 unfold atI at h
 cases e:ixN xs.length i with
 | none=>rw[e] at h;cases h
 | some j=>
  rw[e] at h
  obtain⟨h1,h2,h3,h4⟩:=ixN_seq e
  exact⟨j,h1,h,h2,h3,h4⟩
def zhf(b:Expr):Prop:=∀ o i,subscripted b false o i=operate [o,i] (getItem o i)
def IxR(X:Cx)(r:R2):Prop:=
 ∀ (value slice:Expr) (pins:List (af × Obj)) (s:ag) (σ:St) (H:Hp) (x y:V) (v u:ae) (Q:VK),Inv X pins σ H s->RelV x v->RelV y u->r x y H Q ->
  subscripted slice false v u=operate [v,u] (getItem v u)->aw (model X.prog X.w) X.A (subscriptTail value slice v u) (EP X pins σ Q) X.xe s
def MtR(X:Cx)(id:String)(r:V->List V->Hp->VK->Prop):Prop:=
 ∀ (pins:List (af × Obj)) (s:ag) (σ:St) (H:Hp) (x:V) (xs:List V) (v:ae) (us:List ae) (Q:VK),Inv X pins σ H s->RelV x v->Vals xs us->r x xs H Q ->
  aw (model X.prog X.w) X.A (call (.builtin id) (v :: us)) (EP X pins σ Q) X.xe s
section
variable {X:Cx}{a b:Expr}{ta tb:TE}{pos:Pos}
theorem pe_ix{r:R2}(hr:IxR X r)(ha:PE X a ta)(hb:PE X b tb)(hs:zhf b):PE X (.Subscript a b pos) (tOp r ta tb):=by
 intro pins s σ H Q I h
 exact Subscript_ (binT ha hb I h fun v u s2 x y H2 I2 rx ry q=>hr a b pins s2 σ H2 x y v u Q I2 rx ry q (hs _ _))
def rIxL(K:ah):R2:=fun x y H Q=>∃ p xs i v,x=.ref p/\y=.int i/\SqL K H p xs/\atI xs i=aa v/\Q v H
def rIxT(K:ah):R2:=fun x y H Q=>∃ p xs i v,x=.ref p/\y=.int i/\SqT K H p xs/\atI xs i=aa v/\Q v H
def rIxS:R2:=fun x y H Q=>∃ z i c,x=.str z/\y=.int i/\z.length<=be/\atI z.cps.toList i=aa c/\Q (.str ⟨#[c]⟩) H
theorem ix_list:IxR X (rIxL X.K):=by
 intro value slice pins s σ H x y v u Q I rx ry h hs
 obtain⟨p,xs,i,z,rfl,rfl,hq,he,q⟩:=h
 cases rx
 obtain⟨t,rfl⟩:=ry
 obtain⟨its,r,pl,hz⟩:=I.list hq
 obtain⟨j,h1,h2,h3,h4,h5⟩:=zht he
 obtain⟨w,ew,rw'⟩:=r.get h2
 have hl:=r.length
 have hn:=zfy
 have fin:EP X pins σ Q w s:=⟨z,H,I,rw',q⟩
 by_cases h0:0<=i
 ·have hj:i.toNat=j:=by
   rw[seqIndex_of h0 h5] at h1
   exact bg h1
  exact item_listR pl.isList h0 (by lia) (by rw[hj];simpa using ew) fin hs
 ·have hj:(i+(its.toArray.size:Int)).toNat=j:=by
   rw[seqIndex_neg (by lia) h4] at h1
   rw[a7,<- hl]
   exact bg h1
  exact subscriptTail_builtinR (x:=w) pl.isList.typeIs slot_list_getitem.lookup
   (wpAny_getItem_list_neg (Q:=fun r s'=>r=w/\EP X pins σ Q r s') pl.isList (by lia) (by rw[a7] <;> lia) (by lia) (by rw[hj];simpa using ew) ⟨rfl,fin⟩) hs
theorem ix_tup:IxR X (rIxT X.K):=by
 intro value slice pins s σ H x y v u Q I rx ry h hs
 obtain⟨p,xs,i,z,rfl,rfl,hq,he,q⟩:=h
 cases rx
 obtain⟨t,rfl⟩:=ry
 obtain⟨its,r,pl,hz⟩:=I.tuple hq
 obtain⟨j,h1,h2,h3,h4,h5⟩:=zht he
 obtain⟨w,ew,rw'⟩:=r.get h2
 have hl:=r.length
 have hn:=zfy
 have fin:EP X pins σ Q w s:=⟨z,H,I,rw',q⟩
 exact subscriptTail_builtinR (x:=w) pl.typeIs slot_tuple_getitem.lookup
  (getItem_tuple (j:=j) (Q:=fun r s'=>r=w/\EP X pins σ Q r s') pl (by lia) (by lia) (by rw[a7,<- hl];exact h1) (by simpa using ew) ⟨rfl,fin⟩) hs
theorem ix_str:IxR X rIxS:=by
 intro value slice pins s σ H x y v u Q I rx ry h hs
 obtain⟨z,i,c,rfl,rfl,hz,he,q⟩:=h
 obtain⟨t,rfl⟩:=rx
 obtain⟨t',rfl⟩:=ry
 obtain⟨j,h1,h2,h3,h4,h5⟩:=zht he
 have hl:z.cps.toList.length=z.length:=by simp[jN]
 rw[hl] at h1 h4 h5
 have hn:=zfy
 exact tail_any (typeIs_str s z t) slot_str_getitem.lookup (getItem_str (c:=c) (by
  have e1:decide (i < -(2 ^ 63:Int))=false:=decide_eq_false (by lia)
  have e2:decide (i ≥ 2 ^ 63)=false:=decide_eq_false (by lia)
  rw[e1,e2,iW]) (by rw[h1];simpa using h2) ⟨.str ⟨#[c]⟩,H,I.tok _,⟨_,rfl⟩,q⟩) hs
theorem ziR(its:List ae)(n j:Nat)(u:ae):bL (·.setIfInBounds j u) { cls:=.type "list",data:=.seq its.toArray n}={ cls:=.type "list",data:=.seq (its.set j u).toArray n}:=by
 simp[bL]
theorem Inv.lst{pins:List (af × Obj)}{σ:St}{H:Hp}{s:ag}{p:af}{xs:List V}(I:Inv X pins σ H s)(h:H p=aa (.lst xs)) :
  ∃ (its:List ae) (n:Nat),Vals xs its/\s.heap.get? p=aa { cls:=.type "list",data:=.seq its.toArray n}/\xs.length<=be:=by
 obtain⟨z,its,n,r,e⟩:=I.hok p _ h
 exact⟨its,n,r,e,z⟩
theorem Inv.lstUpd{pins:List (af × Obj)}{σ:St}{H:Hp}{s:ag}{p:af}{xs ys:List V}{its its':List ae}{n n':Nat}{f:Obj->Obj}(I:Inv X pins σ H s)(h:H p=aa (.lst xs))
  (ho:s.heap.get? p=aa { cls:=.type "list",data:=.seq its.toArray n}) (hf:f { cls:=.type "list",data:=.seq its.toArray n}={ cls:=.type "list",data:=.seq its'.toArray n'}) (r:Vals ys its') (hz:ys.length<=be) (t:Nat) :
  Inv X pins σ (upd H p (.lst ys)) { s with heap:=s.heap.update p f,toks:=t}:=by
 have e:(s.heap.update p f).get? p=aa { cls:=.type "list",data:=.seq its'.toArray n'}:=by
  rw[cK f ho (by rw[hf] <;> rfl),hf]
 refine I.write (x:=p) (e:=p) (by rw[h];trivial) (.inl rfl) (fun b u hb q=>(bT _ _ (cx hb)).trans q) ⟨_,e⟩ ?_
 exact⟨hz,its',n',r,e⟩
def rSetL:V->V->V->Hp->(Hp->Prop)->Prop:=fun o i v H Q=>∃ p xs k j,o=.ref p/\i=.int k/\H p=aa (.lst xs)/\ixN xs.length k=aa j/\Q (upd H p (.lst (xs.set j v)))
theorem zhJ:PSet X rSetL:=by
 intro pins s σ H o i v ov iv u Q I ro ri rv h
 obtain⟨p,xs,k,j,rfl,rfl,hp,hj,q⟩:=h
 cases ro
 obtain⟨t,rfl⟩:=ri
 obtain⟨its,n,r,ho,hz⟩:=I.lst hp
 obtain⟨h1,h2,h3,h4⟩:=ixN_seq hj
 have hl:=r.length
 have hn:=zfy
 have I':Inv X pins σ (upd H p (.lst (xs.set j v))) { s with heap:=s.heap.update p (bL (·.setIfInBounds j u))}:=
  I.lstUpd hp ho (ziR its n j u) (r.set rv j) (by rw[ie];exact hz) s.toks
 by_cases h0:0<=k
 ·have hk:k.toNat=j:=by
   rw[seqIndex_of h0 h4] at h1
   exact bg h1
  exact PySem.W.ki_setAt ho h0 (by lia) (by rw[a7,<- hl];exact h4) (by rw[hk];exact⟨_,I',q⟩)
 ·have hk:(k+(its.toArray.size:Int)).toNat=j:=by
   rw[seqIndex_neg (by lia) h3] at h1
   rw[a7,<- hl]
   exact bg h1
  exact PySem.W.ki_setBack ho (by lia) (by rw[a7,<- hl];exact h3) (by lia) (by rw[hk];exact⟨_,I',q⟩)
theorem zgB(lo hi:Option Int)(n:Nat):(sliceBounds lo hi ab n).1=((HT.sIx n 0 lo:Nat):Int)/\(sliceBounds lo hi ab n).2.1=((HT.sIx n n hi:Nat):Int)/\(sliceBounds lo hi ab n).2.2=1:=by
 refine⟨?_,?_,rfl⟩
 ·cases lo with
  | none=>simp[sliceBounds,HT.sIx]
  | some i=>
   simp only[sliceBounds,HT.sIx,gU,show(1:Int) > 0 by decide,if_true]
   by_cases h:i<0
   ·simp only[h,if_true] <;> lia
   ·simp only[h,if_false] <;> lia
 ·cases hi with
  | none=>simp[sliceBounds,HT.sIx]
  | some i=>
   simp only[sliceBounds,HT.sIx,gU,show(1:Int) > 0 by decide,if_true]
   by_cases h:i<0
   ·simp only[h,if_true] <;> lia
   ·simp only[h,if_false] <;> lia
theorem zf5(its:List ae)(lo hi:Option Int):slicePick its.toArray lo hi ab=((its.drop (HT.sIx its.length 0 lo)).take (HT.sIx its.length its.length hi - HT.sIx its.length 0 lo)).toArray:=by
 obtain⟨h1,h2,h3⟩:=zgB lo hi its.toArray.size
 unfold slicePick
 rw[h1,h2,h3]
 simp only[sliceRange_one,pick_run,a7] <;> rfl
def rSlL(K:ah):V->Option Int->Option Int->Hp->VK->Prop:=fun x lo hi H Q=>∃ a xs,x=.ref a/\SqL K H a xs/\∀ p,H p=ab->Q (.ref p) (upd H p (.lst (cutV xs lo hi)))
theorem sl_list:SlR X (rSlL X.K):=by
 intro pins s σ H x v vl vu lo hi sl Q I rx hs pl pu h
 obtain⟨a,xs,rfl,hx,q⟩:=h
 cases rx
 obtain⟨its,r,ht,hz⟩:=I.list hx
 have hlen:=r.length
 refine⟨"list",_,slot_list_getitem.lookup,ht.isList.typeIs,?_⟩
 refine wpAny_getItem_list_slice ht.isList hs pl pu .none (by simp) ?_ (by rw[a7] <;> lia)
 rw[zf5,<- hlen]
 refine⟨.ref s.heap.objs.size,_,I.laid (t':=s.toks) (o:=.lst (cutV xs lo hi)) (fun b ob q=>aj _ q) (ak _) ?_,rfl,q _ (I.hok.fresh (ak _))⟩
 exact⟨aJ (zhF xs lo hi) hz,_,0,(r.drop (HT.sIx xs.length 0 lo)).take (HT.sIx xs.length xs.length hi - HT.sIx xs.length 0 lo),aG _ rfl⟩
def flatV:V->Bool
 | .non=>true
 | .bl _=>true
 | .int _=>true
 | .str _=>true
 | _=>false
def eqV:V->V->Bool
 | .non,.non=>true
 | .bl a,.bl b=>a == b
 | .bl a,.int b=>(if a then 1 else 0) == b
 | .int a,.bl b=>a == (if b then 1 else 0)
 | .int a,.int b=>a == b
 | .str a,.str b=>a == b
 | _,_=>false
theorem eqAt_V{A:aS}{s:ag}{y x:V}{u v:ae}(ry:RelV y u)(rx:RelV x v)(fy:flatV y=true)(fx:flatV x=true):iO A s u v (eqV y x):=by
 cases y with
 | non=>
  cases ry
  cases x with
  | non=>cases rx;exact ig _
  | bl b=>cases rx;exact lm b
  | int b=>obtain⟨t,rfl⟩:=rx;exact lA b t
  | str b=>obtain⟨t,rfl⟩:=rx;exact lB b t
  | _=>exact absurd (show false=true from fx) a8
 | bl a=>
  cases ry
  cases x with
  | non=>cases rx;exact ln a
  | bl b=>cases rx;exact lq a b
  | int b=>obtain⟨t,rfl⟩:=rx;exact lC a b t
  | str b=>obtain⟨t,rfl⟩:=rx;exact lD a b t
  | _=>exact absurd (show false=true from fx) a8
 | int a=>
  obtain⟨t',rfl⟩:=ry
  cases x with
  | non=>cases rx;exact lE a t'
  | bl b=>cases rx;exact lF a t' b
  | int b=>obtain⟨t,rfl⟩:=rx;exact lM a t' b t
  | str b=>obtain⟨t,rfl⟩:=rx;exact i7 a t' b t
  | _=>exact absurd (show false=true from fx) a8
 | str a=>
  obtain⟨t',rfl⟩:=ry
  cases x with
  | non=>cases rx;exact lG a t'
  | bl b=>cases rx;exact lH a t' b
  | int b=>obtain⟨t,rfl⟩:=rx;exact i8 a t' b t
  | str b=>obtain⟨t,rfl⟩:=rx;exact lN a t' b t
  | _=>exact absurd (show false=true from fx) a8
 | _=>exact absurd (show false=true from fy) a8
theorem zgH:zdt X (.builtin "len") (fun xs H Q=>∃ p ys,xs=[.ref p]/\(SqL X.K H p ys \/ SqT X.K H p ys)/\Q (.int ys.length) H):=by
 intro pins s σ H xs us Q I r h
 obtain⟨p,ys,rfl,hq,q⟩:=h
 obtain⟨u,rfl,rx⟩:=zfM r
 cases rx
 have hn:=zfy
 rcases hq with hq | hq
 ·obtain⟨its,r',pl,hz⟩:=I.list hq
  have hlen:=r'.length
  exact Calls.call_len_list pl.isList (by simp only[a7] <;> lia) ⟨.int ys.length,H,I.tok _,⟨s.toks+1,by rw[a7,hlen]⟩,q⟩
 ·obtain⟨its,r',pl,hz⟩:=I.tuple hq
  have hlen:=r'.length
  exact len_tuple pl (by simp only[a7] <;> lia) ⟨.int ys.length,H,I.tok _,⟨s.toks+1,by rw[a7,hlen]⟩,q⟩
theorem zgu:zdt X (.builtin "len") (fun xs H Q=>∃ z,xs=[.str z]/\z.length<=be/\Q (.int z.length) H):=by
 intro pins s σ H xs us Q I r h
 obtain⟨z,rfl,hz,q⟩:=h
 obtain⟨u,rfl,t,rfl⟩:=zfM r
 have hn:=zfy
 exact len_str (by lia) ⟨.int z.length,H,I.tok _,⟨_,rfl⟩,q⟩
theorem zgq:zdt X (.type "list") (fun xs H Q=>∃ p ys,xs=[.ref p]/\(SqL X.K H p ys \/ SqT X.K H p ys)/\∀ l,H l=ab->Q (.ref l) (upd H l (.lst ys))):=by
 intro pins s σ H xs us Q I r h
 obtain⟨p,ys,rfl,hq,q⟩:=h
 obtain⟨u,rfl,rx⟩:=zfM r
 cases rx
 have fin:∀ (its:List ae),Vals ys its->ys.length<=be->∀ (h':ba) (c':Nat),(∀ b o',s.heap.get? b=aa o'->h'.get? b=aa o') ->
   h'.get? s.heap.objs.size=aa { cls:=.type "list",dict:=ab,data:=.seq its.toArray c',slots:=#[]}->EP X pins σ Q (.ref s.heap.objs.size) { s with heap:=h'}:=fun its r' hz h' c' kp e=>
  ⟨.ref s.heap.objs.size,_,I.laid (t':=s.toks) kp (ak _) (show ObjOk X.prog X.w _ h' _ (.lst ys) from ⟨hz,its,c',r',e⟩),rfl,q _ (I.hok.fresh (ak _))⟩
 rcases hq with hq | hq
 ·obtain⟨its,r',pl,hz⟩:=I.list hq
  have hlen:=r'.length
  obtain⟨o,ho,hc,n,hd⟩:=pl.isList
  exact call_list_seq p (.inl rfl) ho hc hd (fun h' c' kp e=>fin its r' hz h' c' kp e) (by simp only[a7] <;> lia)
 ·obtain⟨its,r',pl,hz⟩:=I.tuple hq
  have hlen:=r'.length
  obtain⟨o,ho,hc,n,hd⟩:=pl
  exact call_list_seq p (.inr rfl) ho hc hd (fun h' c' kp e=>fin its r' hz h' c' kp e) (by simp only[a7] <;> lia)
theorem zfW:zdt X (.type "tuple") (fun xs H Q=>∃ p ys,xs=[.ref p]/\((SqL X.K H p ys/\∀ l,H l=ab->Q (.ref l) (upd H l (.tup ys))) \/ (SqT X.K H p ys/\Q (.ref p) H))):=by
 intro pins s σ H xs us Q I r h
 obtain⟨p,ys,rfl,h⟩:=h
 obtain⟨u,rfl,rx⟩:=zfM r
 cases rx
 rcases h with ⟨hq,q⟩ | ⟨hq,q⟩
 ·obtain⟨its,r',pl,hz⟩:=I.list hq
  have hlen:=r'.length
  refine call_tuple_list pl.isList (fun h' kp=>?_) (by simp only[a7] <;> lia)
  have I1:Inv X pins σ H { s with heap:=h'}:=I.kept (t':=s.toks) kp
  have I2:Inv X pins σ (upd H h'.objs.size (.tup ys)) { s with heap:=h'.push { cls:=.type "tuple",data:=.seq its.toArray}}:=
   I1.laid (t':=s.toks) (fun b o e=>aj _ e) (ak _) (show ObjOk X.prog X.w _ _ _ (.tup ys) from ⟨hz,its,r',TupN.new _ _⟩)
  exact⟨.ref h'.objs.size,_,I2,rfl,q _ (I1.hok.fresh (ak _))⟩
 ·obtain⟨its,r',pl,hz⟩:=I.tuple hq
  exact call_tuple_same pl ⟨.ref p,H,I,rfl,q⟩
def tyV(K:ah)(T:String)(x:V)(H:Hp):Prop:=match x with
 | .str _=>T = "str"
 | .int _=>T = "int"
 | .ref p=>(T = "list" /\ ∃ xs,SqL K H p xs) \/ (T = "tuple" /\ ∃ o,K.lookup p=aa o/\o.cls=.type "tuple" /\ o.dict=ab) \/
   (T = "dict" /\ ((∃ kvs,Rd H p (.dK kvs)) \/ ∃ kvs,H p=aa (.dT kvs))) \/ (T = "set" /\ ∃ S n,H p=aa (.set S n))
 | _=>False
theorem tyV_is{pins:List (af × Obj)}{σ:St}{H:Hp}{s:ag}{T:String}{x:V}{v:ae}(I:Inv X pins σ H s)(r:RelV x v)(ty:tyV X.K T x H) :
  s.TypeIs v T/\∀ a,v=.ref a->∃ ob,s.heap.get? a=aa ob/\ob.dict=ab:=by
 cases x with
 | str z=>
  obtain⟨t,rfl⟩:=r
  cases (show T = "str" from ty)
  exact⟨typeIs_str s z t,fun _ e=>nomatch e⟩
 | int i=>
  obtain⟨t,rfl⟩:=r
  cases (show T = "int" from ty)
  exact⟨typeIs_int s i t,fun _ e=>nomatch e⟩
 | ref p=>
  cases r
  rcases ty with ⟨rfl,xs,hq⟩ | ⟨rfl,o,hk,hc,hd⟩ | ⟨rfl,hk⟩ | ⟨rfl,S,n,hk⟩
  ·obtain⟨its,_,pl,_⟩:=I.list hq
   refine⟨pl.isList.typeIs,fun a e=>?_⟩
   cases e
   obtain⟨o,n,e,c,hd,_⟩:=pl
   exact⟨o,e,hd⟩
  ·refine⟨⟨o,I.kIn p o hk,hc⟩,fun a e=>?_⟩
   cases e
   exact⟨o,I.kIn _ o hk,hd⟩
  ·have z:∃ o,s.heap.get? p=aa o/\o.ExactDict:=by
    rcases hk with ⟨kvs,hk⟩ | ⟨kvs,hk⟩
    ·obtain⟨_,_,_,_,o,_,_,e,ex,_⟩:=hk.ok I.hok
     exact⟨o,e,ex⟩
    ·obtain⟨_,_,_,_,o,_,_,e,ex,_⟩:=I.hok p _ hk
     exact⟨o,e,ex⟩
   obtain⟨o,e,ex⟩:=z
   refine⟨⟨o,e,ex.1⟩,fun a e2=>?_⟩
   cases e2
   exact⟨o,e,ex.2.1⟩
  ·obtain⟨o,_,_,_,e,ex,_⟩:=I.hok p _ hk
   refine⟨⟨o,e,ex.1⟩,fun a e2=>?_⟩
   cases e2
   exact⟨o,e,ex.2.1⟩
 | _=>exact cf ty
def tBM0(K:ah)(T:String)(r:V->List V->Hp->VK->Prop)(to:TE):TE:=fun σ H Q=>to σ H fun x H1=>tyV K T x H1/\r x [] H1 Q
def tBM(K:ah)(T:String)(r:V->List V->Hp->VK->Prop)(to:TE)(t:TA):TE:=fun σ H Q=>to σ H fun x H1=>tyV K T x H1/\t σ H1 fun xs H2=>r x xs H2 Q
variable {o e:Expr}{es:List Expr}{to:TE}{t:TA}{name:Str}{apos cpos:Pos}{T id:String}{r:V->List V->Hp->VK->Prop}
theorem pe_bm0(pa:PlainAttrs T)(slot:Slot T name id)(hty:typeOf (.builtin id)=pure (.type "method_descriptor"))(hm:MtR X id r)(ho:PE X o to)
  (hbase:ck o name X.env (eval o X.env)=eval o X.env:=by rfl) (hline:(apos.endLine == cpos.line)=true:=by rfl):PE X (.Call (.Attribute o name apos) [] [] cpos) (tBM0 X.K T r to):=by
 intro pins s σ H Q I h
 refine wpAny_Call_method0_late hbase hline (thn (ho pins s σ H _ I h) fun v s1 ⟨x,H1,I1,r1,ty,q1⟩=>?_)
 obtain⟨h1,h2⟩:=tyV_is I1 r1 ty
 exact⟨T,id,pa,slot,hty,h1,h2,iw rfl (PySem.evalArgs_none (hm pins s1 σ H1 x [] v [] Q I1 r1 .nil q1))⟩
theorem pe_bm(pa:PlainAttrs T)(slot:Slot T name id)(hty:typeOf (.builtin id)=pure (.type "method_descriptor"))(hm:MtR X id r)(ho:PE X o to)(ha:PA X (e :: es) t)
  (hbase:ck o name X.env (eval o X.env)=eval o X.env:=by rfl)
  (hfew:((backTo cpos (bj (e :: es) X.env)).all (fun x=>!x.1) && (backToKw cpos (keywordEach [] X.env)).all (fun x=>x.1.isSome)
   && decide ((e :: es).length+([]:List Keyword).length+(if ([]:List Keyword).isEmpty then 0 else 1)<30))=true:=by rfl)
  (hline:(apos.endLine == cpos.line)=true:=by rfl) (hs:bj (e :: es) X.env=(false,eval e X.env) :: bj es X.env:=by rfl) (hplain:(backTo cpos (bj es X.env)).any (·.1)=false:=by rfl) :
  PE X (.Call (.Attribute o name apos) (e :: es) [] cpos) (tBM X.K T r to t):=by
 intro pins s σ H Q I h
 refine wpAny_Call_method_late hbase hfew hline rfl (thn (ho pins s σ H _ I h) fun v s1 ⟨x,H1,I1,r1,ty,q1⟩=>?_)
 obtain⟨h1,h2⟩:=tyV_is I1 r1 ty
 refine⟨T,id,pa,slot,hty,h1,h2,?_⟩
 have hA:=ha cpos pins s1 σ H1 _ I1 q1
 rw[hs] at hA ⊢
 refine iw (by show(false || (backTo cpos (bj es X.env)).any (·.1))=false;rw[hplain] <;> rfl) (Calls.evalArgs_plain ?_)
 exact thn hA fun us s2 ⟨vs,H2,I2,r2,q2⟩=>hm pins s2 σ H2 x vs v us Q I2 r1 r2 q2
end
end L2
namespace L2
open PySem PySem.Spec PyProof.Rows
def MtM(X:Cx)(id:String)(r:V->List V->Hp->VK->Prop):Prop:=
 ∀ (pins:List (af × Obj)) (s:ag) (σ:St) (H:Hp) (x:V) (xs:List V) (v:ae) (us:List ae) (Q:VK),Inv X pins σ H s->RelV x v->Vals xs us->r x xs H Q ->
  aw (model X.prog X.w) X.A (call (.builtin id) (v :: us)) (EP X pins σ Q) X.xe s
theorem Vals.one:∀ {x:V} {us:List ae},Vals [x] us->∃ u,us=[u]/\RelV x u
 | _,_,.cons r .nil=>⟨_,rfl,r⟩
theorem Vals.zero:∀ {us:List ae},Vals [] us->us=[]
 | _,.nil=>rfl
theorem Vals.dropLast{xs:List V}{us:List ae}(h:Vals xs us):Vals xs.dropLast us.dropLast:=by
 induction h with
 | nil=>exact .nil
 | cons r t ih=>
  cases t with
  | nil=>exact .nil
  | cons q t'=>exact .cons r ih
theorem Vals.rep{xs:List V}{us:List ae}(h:Vals xs us):∀ k:Nat,Vals (aF k xs).flatten (aF k us).flatten
 | 0=>.nil
 | k+1=>by
  rw[cS,cS,dw,dw]
  exact Vals.append h (Vals.rep h k)
theorem ziM{α:Type}(l:List α):l.eraseIdx (l.length - 1)=l.dropLast:=by
 induction l with
 | nil=>rfl
 | cons a r ih=>
  cases r with
  | nil=>rfl
  | cons b r=>
   have e:(a :: b :: r).length - 1=((b :: r).length - 1)+1:=by
    have h1:(a :: b :: r).length=r.length+2:=rfl
    have h2:(b :: r).length=r.length+1:=rfl
    lia
   rw[e,List.eraseIdx_cons_succ,ih]
   all_goals rfl
theorem zgs(its:List ae):∀ (k:Nat) (acc:List ae),
  jO (fun x1 x2=>x1 ++ x2) acc.toArray (aF k its.toArray)=(acc ++ (aF k its).flatten).toArray
 | 0,acc=>by simp
 | k+1,acc=>by
  have e:acc.toArray ++ its.toArray=(acc ++ its).toArray:=by simp
  have e2:(acc ++ its) ++ (aF k its).flatten=acc ++ (aF (k+1) its).flatten:=by
   rw[cS,dw,bG]
  rw[<- e2,<- zgs its k (acc ++ its),<- e,cS,cc]
section
variable {X:Cx}{pins:List (af × Obj)}{σ:St}{H:Hp}{s:ag}{l b:af}{xs ys zs:List V}
theorem Inv.lset{its its':List ae}{n:Nat}{f:Array ae->Array ae}{t':Nat}(I:Inv X pins σ H s)(hH:H l=aa (.lst xs))
  (e:s.heap.get? l=aa { cls:=.type "list",data:=.seq its.toArray n}) (hf:f its.toArray=its'.toArray) (hv:Vals ys its') (hz:ys.length<=be) :
  Inv X pins σ (upd H l (.lst ys)) { s with heap:=s.heap.update l (bL f),toks:=t'}:=by
 have q:=lX e f
 rw[hf] at q
 refine I.write (x:=l) (e:=l) (by rw[hH];exact trivial) (.inl rfl) (fun b' u hb hu=>(bT s.heap (bL f) (cx hb)).trans hu) ⟨_,q⟩ ?_
 exact⟨hz,its',_,hv,q⟩
theorem Inv.lnew{its:List ae}{t':Nat}(I:Inv X pins σ H s)(hv:Vals ys its)(hz:ys.length<=be) :
  Inv X pins σ (upd H s.heap.objs.size (.lst ys)) { s with heap:=s.heap.push { cls:=.type "list",data:=.seq its.toArray},toks:=t'}:=
 I.laid (fun _ _ q=>aj _ q) (ak _) ⟨hz,its,0,hv,aG _ rfl⟩
theorem Inv.fresh(I:Inv X pins σ H s):H s.heap.objs.size=ab:=I.hok.fresh (ak _)
theorem Inv.lstM(I:Inv X pins σ H s)(hH:H l=aa (.lst xs)):xs.length<=be/\∃ (its:List ae) (n:Nat),Vals xs its/\xs.length=its.length/\s.heap.get? l=aa { cls:=.type "list",data:=.seq its.toArray n}:=by
 obtain⟨z,its,n,r,e⟩:=I.hok l _ hH
 exact⟨z,its,n,r,r.length,e⟩
theorem zh4{n:Nat}(h:n<=be):dE n=false:=by
 unfold dE
 exact decide_eq_false (by lia)
end
section
variable {X:Cx}
def rAppend:V->List V->Hp->VK->Prop:=fun x vs H Q=>∃ l xs y,x=.ref l/\vs=[y]/\H l=aa (.lst xs)/\xs.length<be/\Q .non (upd H l (.lst (xs ++ [y])))
theorem zd0:MtM X "list.append" rAppend:=by
 intro pins s σ H x vs v us Q I rx rv h
 obtain⟨l,xs,y,rfl,rfl,hH,hz,q⟩:=h
 cases rx
 obtain⟨u,rfl,ru⟩:=rv.one
 obtain⟨z,its,n,r,hl,e⟩:=I.lstM hH
 refine call_meets F.slot_list_append ⟨_,e,rfl⟩ F.entry_list_append (F.args_list_append_2 _ _) (PySem.list_append l its.toArray n u (by rw[a7];lia)) ⟨e,?_⟩
 refine⟨.non,_,I.lset (its':=its ++ [u]) hH e (by simp) (r.append (.cons ru .nil)) ?_,rfl,q⟩
 rw[ay,cy]
 lia
def rExtend:V->List V->Hp->VK->Prop:=fun x vs H Q=>∃ l b xs zs,x=.ref l/\vs=[.ref b]/\H l=aa (.lst xs)/\H b=aa (.lst zs)/\xs.length+zs.length<=be/\Q .non (upd H l (.lst (xs ++ zs)))
theorem mt_extend:MtM X "list.extend" rExtend:=by
 intro pins s σ H x vs v us Q I rx rv h
 obtain⟨l,b,xs,zs,rfl,rfl,hH,hB,hz,q⟩:=h
 cases rx
 obtain⟨u,rfl,ru⟩:=rv.one
 cases ru
 obtain⟨z,its,n,r,hl,e⟩:=I.lstM hH
 obtain⟨z2,its2,n2,r2,hl2,e2⟩:=I.lstM hB
 have hsz:its.toArray.size+its2.toArray.size<=be:=by rw[a7,a7];lia
 have hlong:¬ (!its.toArray.isEmpty && dE (its.toArray.size+its2.toArray.size))=true:=by
  rw[zh4 hsz,d8]
  exact a8
 refine call_meets F.slot_list_extend ⟨_,e,rfl⟩ F.entry_list_extend (F.args_list_extend_2 _ _)
  (AutoSeq1.list_extend_list_list_0 l its.toArray n b its2.toArray n2 hlong (by rw[a7];lia) (by lia)) ⟨e,e2,?_⟩
 refine⟨.non,_,I.lset (its':=its ++ its2) hH e (by simp) (r.append r2) ?_,rfl,q⟩
 rw[ay]
 lia
def rPop:V->List V->Hp->VK->Prop:=fun x vs H Q=>∃ l xs y,x=.ref l/\vs=[]/\H l=aa (.lst xs)/\xs[xs.length - 1]? = aa y/\Q y (upd H l (.lst xs.dropLast))
theorem mt_pop:MtM X "list.pop" rPop:=by
 intro pins s σ H x vs v us Q I rx rv h
 obtain⟨l,xs,y,rfl,rfl,hH,hy,q⟩:=h
 cases rx
 have hus:=rv.zero
 subst hus
 obtain⟨z,its,n,r,hl,e⟩:=I.lstM hH
 obtain⟨u,hu,ru⟩:=r.get hy
 have hy':its.toArray[its.toArray.size - 1]? = aa u:=by
  show its.toArray[its.length - 1]? = aa u
  rw[<- bV,<- hl]
  exact hu
 refine call_meets F.slot_list_pop ⟨_,e,rfl⟩ F.entry_list_pop (F.args_list_pop_1 _) (MeetsSeq.list_pop_last l its.toArray n u hy' (by rw[a7];lia)) ⟨e,?_⟩
 refine⟨y,_,I.lset (its':=its.dropLast) hH e ?_ r.dropLast ?_,ru,q⟩
 ·show its.toArray.eraseIdxIfInBounds (its.toArray.size - 1)=its.dropLast.toArray
  rw[a7,List.eraseIdxIfInBounds_toArray,ziM]
 ·rw[cL]
  lia
def rCat:R2:=fun x y H Q=>∃ l b xs zs,x=.ref l/\y=.ref b/\H l=aa (.lst xs)/\H b=aa (.lst zs)/\xs.length+zs.length<=be/\∀ p,H p=ab->Q (.ref p) (upd H p (.lst (xs ++ zs)))
theorem op_cat:OpR X (binaryOp .Add) rCat:=by
 intro pins s σ H x y v u Q I rx ry h
 obtain⟨l,b,xs,zs,rfl,rfl,hH,hB,hz,q⟩:=h
 cases rx
 cases ry
 obtain⟨z,its,n,r,hl,e⟩:=I.lstM hH
 obtain⟨z2,its2,n2,r2,hl2,e2⟩:=I.lstM hB
 refine PySem.P.add_list e e2 ?_ (by rw[a7,a7];lia)
 have ea:its.toArray ++ its2.toArray=(its ++ its2).toArray:=by simp
 rw[ea]
 exact⟨.ref _,_,I.lnew (t':=s.toks) (r.append r2) (by rw[ay];lia),rfl,q _ I.fresh⟩
def rRep:R2:=fun x y H Q=>∃ l k xs,x=.ref l/\y=.int k/\H l=aa (.lst xs) /\ -(2 ^ 63)<=k/\k<2 ^ 63/\xs.length * k.toNat<=be /\
 ∀ p,H p=ab->Q (.ref p) (upd H p (.lst (aF k.toNat xs).flatten))
theorem len_rep{α:Type}(xs:List α)(k:Nat):(aF k xs).flatten.length=k * xs.length:=by
 induction k with
 | zero=>simp
 | succ k ih=>rw[cS,dw,ay,ih,Nat.succ_mul,d9]
theorem op_rep:OpR X (binaryOp .Mult) rRep:=by
 intro pins s σ H x y v u Q I rx ry h
 obtain⟨l,k,xs,rfl,rfl,hH,h1,h2,hz,q⟩:=h
 cases rx
 obtain⟨t,rfl⟩:=ry
 obtain⟨z,its,n,r,hl,e⟩:=I.lstM hH
 have hlen:its.toArray.size * k.toNat<=be:=by rw[a7,<- hl];exact hz
 have hcap:¬ its.toArray.size * k.toNat > (2 ^ 63 - 1) / 8:=by
  have:(be:Nat)<=(2 ^ 63 - 1) / 8:=by decide
  lia
 have hfit:¬ (!Builtin.List.listFitsIndex k)=true:=by
  rw[fitsIndex_both h1 h2]
  exact a8
 have hlong:¬ dE (its.toArray.size * k.toNat)=true:=by
  rw[zh4 hlen]
  exact a8
 have hnew:jO (fun x1 x2=>x1 ++ x2) #[] (aF (if its.toArray.isEmpty=true then 0 else k.toNat) its.toArray)=(aF k.toNat its).flatten.toArray:=by
  have f0:∀ m:Nat,jO (fun x1 x2=>x1 ++ x2) #[] (aF m its.toArray)=(aF m its).flatten.toArray:=fun m=>by
   have:=zgs its m []
   rw[cO] at this
   exact this
  rw[f0]
  cases its with
  | nil=>simp
  | cons a r'=>rw[if_neg (by simp)]
 refine wpAny_binaryOp_repeat_ref (T:= "list") (U:= "int") (by decide) ⟨_,e,rfl⟩ (fun s'=>typeIs_int s' k t) noFill_list_mul F.fills_int_mul jP repeat_list F.slot_int_index.lookup
  (call_meets jP (typeIs_int s k t) F.entry_int_rmul (F.args_int_rmul_2 _ _) (int___rmul___int_list k t l its.toArray n)
   ⟨e,rfl,⟨_,e,rfl⟩,call_meets F.slot_list_mul ⟨_,e,rfl⟩ F.entry_list_mul (F.args_list_mul_2 _ _) (jA l its.toArray n k t hfit hcap hlong) ⟨e,?_⟩⟩)
 rw[hnew]
 exact⟨.ref _,_,I.lnew (t':=s.toks) (r.rep k.toNat) (by rw[len_rep,Nat.mul_comm];exact hz),rfl,q _ I.fresh⟩
end
section
variable {prog:aL}{w:aX}{A:aS}{E:ae->ag->Prop}{s:ag}
end
section
variable {X:Cx}
end
end L2
namespace Att
open PySem PySem.W PySem.Calls PyProof.Rows
theorem zfe{P:Params}{h:ba}:∀ (ns:List Int) (vs:List ae),WellAll P h vs (ns.map lO)->IntsAre vs ns:=by
 intro ns
 induction ns with
 | nil=>
  intro vs w
  rw[b5] at w
  cases w
  exact .nil
 | cons n ns ih=>
  intro vs w
  rw[aE] at w
  cases w with
  | cons a b=>
   cases a
   exact .cons _ _ (ih _ b)
theorem script_of{l:OpenLaw}{n:Nat}(hn:l.most=aa n){P:Params}{h:ba}{args:List WData}{vals:List ae}
  (hpre:l.row.toRowW.claim.pre args=true) (hwl:WellAll P h vals args) :
  ∃ a vs ns,vals=[bw a]/\args=[WData.list (ns.map lO)]/\h.get? a=aa { cls:=.type "list",data:=.seq vs.toArray}/\IntsAre vs ns/\ns.length<=n:=by
 have hsh:WShape.hasAll [] args [.list .int]=true:=(pre_splitW hpre).1
 have hc:l.pre.holds [] { args:=args}=true:=(pre_splitW hpre).2
 obtain⟨d,r,rfl,h1,h2⟩:=hasAllW_cons hsh
 obtain rfl:=hasAllW_nil h2
 obtain⟨xs,rfl,h3⟩:=hasW_list h1
 obtain⟨ns,rfl⟩:=items_int h3
 have hlen:ns.length<=n:=by
  unfold OpenLaw.pre at hc
  have h4:(WTm.not (.lt (.lit (.int (n:Int))) (.len (.arg 0)))).holds [] { args:=[.list (ns.map .int)]}=true:=by
   have h4:=(holds_andW hc).1
   rw[hn] at h4
   exact h4
  have h5:=condW_of h4 (w_not (w_lt w_lit (w_len_list (w_arg rfl))))
  rw[am] at h5
  refine Nat.le_of_not_lt fun q=>?_
  have q':(n:Int)<((ns.length:Nat):Int):=by lia
  first
   | (rw[decide_eq_true q'] at h5;exact absurd h5 (by decide))
   | (simp at h5;lia)
 cases hwl with
 | cons w1 w2=>
  cases w2
  cases w1 with
  | list ho hall=>exact⟨_,_,ns,rfl,rfl,ho,zfe ns _ hall,hlen⟩
theorem post_true(l:OpenLaw)(args:List WData):l.row.toRowW.claim.post args (.bool true) args=true:=
 postW_of (r:=l.row.toRowW) (X:=(true == true))
  (show lr [] (.bool true) .bool=true by first | rfl | decide | simp[lr,WShape.arms,WShape.armsAll])
  (show(WTm.eq .res (.lit (.bool true))).value [] { args:=args,res:=aa (.bool true),after:=args}=aa (.bool (true == true)) from w_eq_bool (w_res rfl) w_lit) rfl
theorem attach_call{l:OpenLaw}{n:Nat}{q:aL}{loose:List Str}{XP:(Str->Option ae)->ba->Prop}{YP:aX->ba->Prop}{d:DefRec}
  (hn:l.most=aa n) (hdf:d.params.defaults=[])
  (call:∀ (w:aX) (s₀ s₁:ag) (mg mb:Str->Option ae) (fa:af) (o:Obj) (pm cd doc:ae) (a:af) (vs:List ae) (ns:List Int),
   Ground q loose [] XP w s₀ mg mb s₁.heap->YP w s₁.heap ->
   s₁.heap.get? fa=aa o->o.data=.func (docDef d.name d.params d.body d.scope pm cd doc)->s₁.heap.CodeRec cd d.name->mg d.name=aa (.ref fa) ->
   s₁.heap.get? a=aa { cls:=.type "list",data:=.seq vs.toArray}->IntsAre vs ns->ns.length<=n->s₁.gens=#[] ->
   codeAny (model l.prog w) callerA (.call (.ref fa) ⟨[.ref a],[]⟩) (fun r s'=>r=.ok (.ret (.bool true))/\OldK s₁.heap s'.heap/\s'.os=s₁.os/\AllBare s'.gens) s₁) :
  WalkO q loose XP YP l.row.toRowW d [] (fun f vs=>jQ f vs):=by
 intro w s₀ s₁ mg mb G Y fa o pm cd doc dV kV ho hd hcd hD hmg hg args vals as hpre hlay hrd hwl hlo
 obtain rfl:dV=.none:=Dflts.none hD hdf
 obtain rfl:kV=.none:=Dflts.noKw hD
 obtain⟨a,vs,ns,rfl,rfl,hobj,hints,hlen⟩:=script_of hn hpre hwl
 refine enter_call (codeAny_mono (call w s₀ s₁ mg mb fa o pm cd doc a vs ns G Y ho (fd_plain hd) hcd hmg hobj hints hlen hg) fun r s' hq=>?_)
 obtain⟨rfl,h2,h3,h4⟩:=hq
 exact⟨.inl ⟨.bool true,.bool true,[],rfl,fun _=>rfl,.bool true,post_true l _,fun _=>⟨lR,fun _ hm=>(nomatch hm)⟩⟩,h2,h3,h4⟩
section
variable {prog:aL}{w:aX}{A:aS}{E:ae->ag->Prop}{s:ag}{K:Frag}
end
end Att
namespace L2
open PySem PySem.Spec PyProof.Rows
theorem zgC:∀ {vs:List ae} {ns:List Int},IntsAre vs ns->Vals (ns.map V.int) vs
 | _,_,.nil=>.nil
 | _,_,.cons n t h=>.cons ⟨t,rfl⟩ (zgC h)
def Only(H:Hp):Prop:=∀ b,H b=ab \/ ∃ o xs,H b=aa (.frz o (.lst xs))
theorem law_call{P:aL}{w:aX}{K:ah}{mg mb:Str->Option ae}{CX:CXT}{k:Nat}{fa a:af}{fd:bQ}{x:Str}{sp:Sp}{s₁:ag}{vs:List ae}{ns:List Int}
  (KX:K.In s₁.heap) (hns:s₁.heap.Ns aB mg) (hb:s₁.heap.Ns builtinsNs mb) (hbb:∀ x:Str,x ≠ "__name__" -> mb x=a9 x) (hlim:s₁.heap.NoLimit) (hg:s₁.gens=#[])
  (ha:s₁.heap.get? a=aa { cls:=.type "list",data:=.seq vs.toArray}) (hi:IntsAre vs ns) (hl:ns.length<=be) (hr:Room k callerA)
  (F:∀ base:ba,K.In base->base.Ns aB mg->FnOk P w K mg base CX k fa fd [x] sp) (hbind:∀ (s:ag) (u:ae),BindsTo s fd ⟨[u],[]⟩ [(x,u)])
  (hsp:∀ H:Hp,Only H->SqL K H a (ns.map V.int)->sp [.ref a] H (fun v _=>v=.bl true) fun _ _ _=>False)
  (hCX:∀ H e s',CX [] H s₁ (fun _ _ _=>False) e s'->False) :
  codeAny (model P w) callerA (.call (.ref fa) ⟨[.ref a],[]⟩) (fun r s'=>r=.ok (.ret (.bool true))/\OldK s₁.heap s'.heap/\s'.os=s₁.os/\AllBare s'.gens) s₁:=by
 have rv:=zgC hi
 have lenV:=hi.length
 have core:∀ H:Hp,Only H->SqL K H a (ns.map V.int)->HOk P w H s₁.heap->(∀ b,H b ≠ ab->b=a)->(H a ≠ ab->K.lookup a=ab) ->
   codeAny (model P w) callerA (.call (.ref fa) ⟨[.ref a],[]⟩) (fun r s'=>r=.ok (.ret (.bool true))/\OldK s₁.heap s'.heap/\s'.os=s₁.os/\AllBare s'.gens) s₁:=by
  intro H hO hS hok hA hK
  have base_of:∀ {b:af} {o:Obj},s₁.heap.get? b=aa o->H b=ab->(hidT s₁.heap H).get? b=aa o:=fun e n=>hidT_get e n
  have noA:∀ {b:af} {o:Obj} {es:Array DictEntry} {ep:Nat},s₁.heap.get? b=aa o->o.data=.dict es ep->H b=ab:=fun {b o es ep} e d=>by
   cases q:H b with
   | none=>rfl
   | some u=>
    have e':b=a:=hA b (by rw[q];simp)
    subst e'
    rw[ha] at e;cases e
    have d':lV vs.toArray _=Data.dict es ep:=d
    cases d'
  have nsK:∀ {b:af} {m:Str->Option ae},s₁.heap.Ns b m->(hidT s₁.heap H).Ns b m:=fun {b m} ⟨o,es,ep,e,d,r⟩=>⟨o,es,ep,base_of e (noA e d),d,r⟩
  have hKb:K.In (hidT s₁.heap H):=fun b o e=>base_of (KX b o e) (by
   cases q:H b with
   | none=>rfl
   | some u=>
    have e':b=a:=hA b (by rw[q];simp)
    subst e'
    rw[hK (by rw[q];simp)] at e;cases e)
  have hM:Mod K mg (hidT s₁.heap H):=⟨hKb,nsK hns,⟨mb,nsK hb,hbb⟩,let⟨mc,h1,h2⟩:=hlim;⟨mc,nsK h1,h2⟩⟩
  have e0:Env0 P w K mg (hidT s₁.heap H) callerA [] s₁ H:=⟨rfl,hM,fun b o e=>of_hidT e,dZ (hidT_size _ _),trivial,fun b hb=>absurd (show b ∈ ([]:List af) from hb) (by simp),hok,.of_eq hg⟩
  refine codeAny_mono ((F _ hKb (nsK hns)).run callerA [] s₁ H ⟨[.ref a],[]⟩ [.ref a] [.ref a] _ _ hr e0 (hbind s₁ (.ref a)) (.cons rfl .nil) (hsp H hO hS)) fun r s' h=>?_
  cases r with
  | error e=>exact(hCX H e s' h).elim
  | ok fl=>
   cases fl with
   | next=>exact cf h
   | brk=>exact cf h
   | cont=>exact cf h
   | ret u=>
    obtain⟨v,H',os,bare,un,hok',r',q⟩:=h
    have q':v=.bl true:=q
    subst q'
    obtain rfl:u=gL true:=r'
    refine⟨rfl,OldK.of_keep fun b o e=>?_,os,bare⟩
    cases q:H b with
    | none=>exact un.keep b o e q (by intro z;exact absurd (show b ∈ ([]:List af) from z) (by simp)) (by simp)
    | some u=>
     rcases hO b with z | ⟨ob,xs,z⟩
     ·rw[q] at z;cases z
     ·have z2:=un.frzs b ob _ z
      obtain⟨e1,_⟩:=hok b _ z
      obtain⟨e2,_⟩:=hok' b _ z2
      rw[e] at e1;cases e1
      exact e2
 cases hk:K.lookup a with
 | some o=>
  have e:=KX a o hk
  rw[ha] at e
  cases e
  refine core (fun _=>ab) (fun _=>.inl rfl) (.inr ⟨_,vs.toArray,_,hk,rfl,rfl,rfl,by rw[a7,lenV];exact hl,by simpa using rv⟩) (fun b u z=>by have z':(ab:Option HO)=aa u:=z;cases z') (fun b z=>absurd rfl z) fun z=>absurd rfl z
 | none=>
  refine core (fun b=>if b=a then aa (.frz { cls:=.type "list",data:=.seq vs.toArray} (.lst (ns.map V.int))) else ab) (fun b=>?_) (.inl (.inr ⟨{ cls:=.type "list",data:=.seq vs.toArray},if_pos rfl⟩)) (fun b u z=>?_) (fun b z=>?_) fun _=>hk
  ·by_cases hb:b=a
   ·exact .inr ⟨_,_,if_pos hb⟩
   ·exact .inl (if_neg hb)
  ·by_cases hb:b=a
   ·have z':=(if_pos hb).symm.trans z
    cases z'
    subst hb
    exact⟨ha,by rw[am];exact hl,vs,_,rv,ha⟩
   ·have z':=(if_neg hb).symm.trans z
    cases z'
  ·by_cases hb:b=a
   ·exact hb
   ·exact absurd (if_neg hb) z
end L2
namespace L2
open PySem PySem.Spec PyProof.Rows
theorem walk_of{l:ii}{n k:Nat}{q:aL}{loose:List Str}{XP:(Str->Option ae)->ba->Prop}{YP:aX->ba->Prop}{d:DefRec}{K:Params->ah}{CX:aX->CXT}{sp:aX->Sp}{x:Str}
  (hn:l.most=aa n) (hn2:n<=be) (hdf:d.params.defaults=[]) (hr:Room k callerA)
  (hY:∀ (w:aX) (h:ba),YP w h->(K w.params).In h)
  (F:∀ (w:aX) (mg:Str->Option ae) (fa:af) (h:ba),(K w.params).In h->h.Ns aB mg->mg d.name=aa (.ref fa) ->
   ∃ fd:bQ,(∀ (s:ag) (u:ae),BindsTo s fd ⟨[u],[]⟩ [(x,u)]) /\
    ∀ base:ba,(K w.params).In base->base.Ns aB mg->FnOk l.prog w (K w.params) mg base (CX w) k fa fd [x] (sp w))
  (hsp:∀ (w:aX) (H:Hp) (a:af) (ns:List Int),ns.length<=n->Only H->SqL (K w.params) H a (ns.map V.int)->sp w [.ref a] H (fun v _=>v=.bl true) fun _ _ _=>False)
  (hCX:∀ (w:aX) (H:Hp) (s:ag) (e:ae) (s':ag),CX w [] H s (fun _ _ _=>False) e s'->False) :
  ke q loose XP YP l.row.toRowW d [] (fun f vs=>jQ f vs):=by
 refine Att.attach_call hn hdf fun w s₀ s₁ mg mb fa o pm cd doc a vs ns G Y ho hd hcd hmg hobj hints hlen hg=>?_
 have KX:=hY w _ Y
 obtain⟨fd,hb,hF⟩:=F w mg fa _ KX G.T.g hmg
 exact law_call KX G.T.g G.T.b G.T.builtins G.T.nolimit hg hobj hints (aJ hlen hn2) hr hF hb (fun H hO hS=>hsp w H a ns hlen hO hS) fun H e s'=>hCX w H s₁ e s'
end L2
namespace L2
open PySem PySem.Spec PyProof.Rows
def zal(s:Stmt):Arguments:=match s with
 | .FunctionDef _ a _ _ _ _ _ _ _ _=>a
 | _=>{ posonlyargs:=[],args:=[],vararg:=ab,kwonlyargs:=[],kw_defaults:=[],kwarg:=ab,defaults:=[]}
def zaj(s:Stmt):List Stmt:=match s with
 | .FunctionDef _ _ b _ _ _ _ _ _ _=>b
 | _=>[]
def zad(s:Stmt):Scope:=match s with
 | .FunctionDef _ _ _ _ _ _ sc _ _ _=>sc
 | _=>{ kind:=.function,names:=[],isGenerator:=false,isCoroutine:=false}
abbrev CX0:CXT:=fun _ _ _ _ _ _=>False
abbrev E0:XK:=fun _ _ _=>False
theorem zaQ{X:Cx}:zcG CX0 X E0:=fun _ _ _ _ _ _ _ h=>h.elim
structure Fun(K:ah)(x qual:Str)(st:Stmt)(f:af)(fd:bQ):Prop where
 ex:∃ (oc:ae) (od:Option af) (kV doc pm:ae) (an:Option af) (cdv ct:ae) (osl:Array (Option ae)),
  fd=aV x qual (zal st) (zaj st) (zad st) .none kV doc pm an cdv ct/\K.lookup f=aa ⟨oc,od,.func fd,osl⟩/\aR K cdv qual=true
 kp:aM K (.ref f)=true
section
variable {P:aL}{w:aX}{K:ah}{mg:Str->Option ae}{base:ba}
theorem Fun.binds{x qual:Str}{st:Stmt}{f:af}{fd:bQ}{ps:List Str}(F:Fun K x qual st f fd)
  (h:∀ (kV doc pm:ae) (an:Option af) (cdv ct:ae) (us:List ae),us.length=ps.length->bindArgs (aV x qual (zal st) (zaj st) (zad st) .none kV doc pm an cdv ct) ⟨us,[]⟩=pure (ps.zip us)):Binds K fd ps []:=by
 obtain⟨oc,od,kV,doc,pm,an,cdv,ct,osl,rfl,lk,hcd⟩:=F.ex
 exact .all (h kV doc pm an cdv ct)
theorem zaW{x qual:Str}{st:Stmt}{f:af}{oc:ae}{od an:Option af}{osl:Array (Option ae)}{kV doc pm cdv ct:ae}(l:K.lookup f=aa ⟨oc,od,.func (aV x qual (zal st) (zaj st) (zad st) .none kV doc pm an cdv ct),osl⟩)
  (c:aR K cdv qual=true) (k:aM K (.ref f)=true):Fun K x qual st f (aV x qual (zal st) (zaj st) (zad st) .none kV doc pm an cdv ct):=⟨⟨oc,od,kV,doc,pm,an,cdv,ct,osl,rfl,l,c⟩,k⟩
end
theorem zbW{A:aS}{k:Nat}(hr:Room k A):A.units+1<cLine:=eU (dJ (by decide:1<=64) _) hr.units
theorem small1000{n:Nat}(h:n<=1000):n<be:=eU h (by decide)
section
variable {X:Cx}
end
theorem iteF{A B:Prop}(h:B):if false=true then A else B:=by
 rw[if_neg a8]
 exact h
theorem iteT{A B:Prop}(h:A):if true=true then A else B:=by
 rw[if_pos rfl]
 exact h
def Same(H H':Hp):Prop:=∀ b o,H b=aa o->H' b=aa o
theorem Same.refl(H:Hp):Same H H:=fun _ _ h=>h
theorem Same.trans{H H1 H2:Hp}(a:Same H H1)(b:Same H1 H2):Same H H2:=fun c o h=>b c o (a c o h)
theorem Same.free{H H':Hp}(e:Same H H'){l:af}(h:H' l=ld):H l=ld:=by
 cases q:H l with
 | none=>rfl
 | some o=>
  rw[e l o q] at h
  cases h
theorem Same.seq{K:ah}{H H':Hp}{a:af}{xs:List V}(e:Same H H')(h:SqL K H a xs):SqL K H' a xs:=by
 rcases h with (h | ⟨o,h⟩) | h
 ·exact .inl (.inl (e _ _ h))
 ·exact .inl (.inr ⟨o,e _ _ h⟩)
 ·exact .inr h
end L2

namespace L2
open PySem PySem.Spec PyProof.Rows
theorem ziV{α β:Type}{l:List α}{f:α->β->Sem (ForInStep β)}(g:β->α->β)(h:∀ x ∈ l,∀ c,f x c=pure (.yield (g c x)))(c:β):forIn l c f=pure (l.foldl g c):=by
 induction l generalizing c with
 | nil=>rfl
 | cons x l ih=>
  rw[jR,h x av,pure_bind]
  exact ih (fun y hy=>h y (al _ hy)) _
def clG(env:Env)(cs:List (Str × af))(x:Str × NameKind):List (Str × af):=
 if (x.2 == bD)=true then (match env.cells.lookup x.1 with | some c=>(x.1,c) :: cs | none=>cs) else cs
def zh0(env:Env)(names:List (Str × NameKind)):List (Str × af):=names.foldl (clG env) []
theorem zfs{scope:Scope}{env:Env}(h:∀ y ∈ scope.names,y.2=.free->∃ c,env.cells.lookup y.1=aa c):closureFor scope env=pure (zh0 env scope.names):=by
 simp only[closureFor]
 rw[ziV (clG env) (fun x hx c=>by
  obtain⟨n,k⟩:=x
  cases hk:(k == bD) with
  | false=>simp only[clG,hk,bm,if_false]
  | true=>
   have e:k=.free:=by cases k <;> first | rfl | (exact absurd hk (by decide))
   obtain⟨c0,hc⟩:=h _ hx e
   simp only[clG,hk,if_true,cellOf,hc,pure_bind])]
 rfl
theorem zgS{env:Env}:∀ (names:List (Str × NameKind)) (cs:List (Str × af)),(∀ y c,cs.lookup y=aa c->env.cells.lookup y=aa c) ->
  ∀ y c,(names.foldl (clG env) cs).lookup y=aa c->env.cells.lookup y=aa c
 | [],_,h,y,c,e=>h y c e
 | (n,k) :: r,cs,h,y,c,e=>by
  refine zgS r (clG env cs (n,k)) (fun z d hz=>?_) y c e
  unfold clG at hz
  split at hz
  ·cases q:env.cells.lookup n with
   | none=>simp only[q] at hz;exact h z d hz
   | some c0=>
    simp only[q,bZ] at hz
    cases hb:z == n with
    | true=>
     simp only[hb] at hz
     cases hz
     have:z=n:=by simpa using hb
     rw[this];exact q
    | false=>simp only[hb] at hz;exact h z d hz
  ·exact h z d hz
theorem cl_has{env:Env}:∀ (names:List (Str × NameKind)) (cs:List (Str × af)) (y:Str),(∃ c,env.cells.lookup y=aa c)->((∃ c,cs.lookup y=aa c) \/ (y,bD) ∈ names) ->
  ∃ c,(names.foldl (clG env) cs).lookup y=aa c
 | [],_,_,_,h=>by
  rcases h with h | h
  ·exact h
  ·cases h
 | (n,k) :: r,cs,y,hc,h=>by
  refine cl_has r (clG env cs (n,k)) y hc ?_
  have keep:(∃ c,cs.lookup y=aa c)->∃ c,(clG env cs (n,k)).lookup y=aa c:=fun⟨c,e⟩=>by
   unfold clG
   split
   ·cases q:env.cells.lookup n with
    | none=>exact⟨c,e⟩
    | some c0=>
     show ∃ c,cj y ((n,c0) :: cs)=aa c
     rw[bZ]
     cases y == n with
     | true=>exact⟨c0,rfl⟩
     | false=>exact⟨c,e⟩
   ·exact⟨c,e⟩
  rcases h with h | h
  ·exact .inl (keep h)
  ·rcases aN.mp h with h | h
   ·cases h
    left
    obtain⟨c0,q⟩:=hc
    unfold clG
    rw[if_pos (by rfl)]
    show ∃ c,cj n (match env.cells.lookup n with | some c=>(n,c) :: cs | none=>cs)=aa c
    rw[q]
    refine⟨c0,?_⟩
    show cj n ((n,c0) :: cs)=aa c0
    rw[bZ]
    simp
   ·exact .inr h
theorem zdb{env:Env}:∀ {names:List (Str × NameKind)} {x:Str},names.lookup x=aa .free ->
  (names.map fun(n,k)=>if (k == bD && env.scope.kind == .function && env.kindOf n == aa .cell) then (n,cX) else (n,k)).lookup x=aa .cell \/
  (names.map fun(n,k)=>if (k == bD && env.scope.kind == .function && env.kindOf n == aa .cell) then (n,cX) else (n,k)).lookup x=aa .free
 | [],_,h=>by simp at h
 | (n,k) :: r,x,h=>by
  have ih:=@zdb env r x
  show cj x ((if (k == bD && env.scope.kind == .function && env.kindOf n == aa .cell)=true then (n,cX) else (n,k)) :: _)=_ \/ cj x ((if (k == bD && env.scope.kind == .function && env.kindOf n == aa .cell)=true then (n,cX) else (n,k)) :: _)=_
  cases hx:x == n with
  | true=>
   simp only[bZ,hx] at h
   cases h
   by_cases hc:(bD == bD && env.scope.kind == .function && env.kindOf n == aa .cell)=true
   ·rw[if_pos hc];left;simp only[bZ,hx]
   ·rw[if_neg hc];right;simp only[bZ,hx]
  | false=>
   simp only[bZ,hx] at h
   by_cases hc:(k == bD && env.scope.kind == .function && env.kindOf n == aa .cell)=true
   ·rw[if_pos hc];simp only[bZ,hx];exact ih h
   ·rw[if_neg hc];simp only[bZ,hx];exact ih h
theorem zc9{env:Env}:∀ {names:List (Str × NameKind)} {x:Str},(∀ y ∈ names,y.2 ≠ .cell) ->
  ((names.map fun(n,k)=>if (k == bD && env.scope.kind == .function && env.kindOf n == aa .cell) then (n,cX) else (n,k)).lookup x=aa .cell \/
  (names.map fun(n,k)=>if (k == bD && env.scope.kind == .function && env.kindOf n == aa .cell) then (n,cX) else (n,k)).lookup x=aa .free)->names.lookup x=aa .free
 | [],_,_,h=>by rcases h with h | h <;> simp at h
 | (n,k) :: r,x,hnc,h=>by
  have ih:=@zc9 env r x fun y hy=>hnc y (al _ hy)
  have h':cj x ((if (k == bD && env.scope.kind == .function && env.kindOf n == aa .cell)=true then (n,cX) else (n,k)) :: (r.map fun(n,k)=>if (k == bD && env.scope.kind == .function && env.kindOf n == aa .cell) then (n,cX) else (n,k)))=aa .cell \/ cj x ((if (k == bD && env.scope.kind == .function && env.kindOf n == aa .cell)=true then (n,cX) else (n,k)) :: (r.map fun(n,k)=>if (k == bD && env.scope.kind == .function && env.kindOf n == aa .cell) then (n,cX) else (n,k)))=aa .free:=h
  rw[bZ]
  cases hx:x == n with
  | true=>
   have hk:k=.free:=by
    by_cases hc:(k == bD && env.scope.kind == .function && env.kindOf n == aa .cell)=true
    ·cases k <;> first | rfl | (simp at hc)
    ·rw[if_neg hc] at h'
     simp only[bZ,hx] at h'
     rcases h' with h' | h'
     ·exact absurd (bg h') (hnc (n,k) av)
     ·exact bg h'
   rw[hk]
  | false=>
   by_cases hc:(k == bD && env.scope.kind == .function && env.kindOf n == aa .cell)=true
   ·rw[if_pos hc] at h'
    simp only[bZ,hx] at h'
    exact ih h'
   ·rw[if_neg hc] at h'
    simp only[bZ,hx] at h'
    exact ih h'
structure CompSc(X:Cx)(N:List Str)(fr:List Nat)(x:Str)(scope:Scope):Prop where
 kind:scope.kind=.function
 chk:(scope.names.all fun y=>match y.2 with
  | .cell=>false
  | .local=>scope.names.lookup y.1 == aa .local
  | .free=>X.env.scope.names.lookup y.1 == aa .cell || X.env.scope.names.lookup y.1 == aa .free
  | _=>true)=true
 tg:scope.names.lookup x=aa .local
 nd:N.Nodup
 nm:N.map aa=aa x :: fr.map (fun i=>X.N[i]?)
 nf:(N.tail.all fun y=>scope.names.lookup y == aa .free)=true
theorem za3{o:Option NameKind}{k:NameKind}(h:(o == aa k)=true):o=aa k:=by
 cases o with
 | none=>cases h
 | some j=>
  have:(j == k)=true:=h
  cases j <;> cases k <;> first | rfl | (exact absurd this (by decide))
section
variable {X:Cx}{N:List Str}{fr:List Nat}{x:Str}{scope:Scope}
theorem CompSc.ncell(S:CompSc X N fr x scope):∀ y ∈ scope.names,y.2 ≠ .cell:=fun y hy e=>by
 have h:=cZ.mp S.chk y hy
 obtain⟨n,k⟩:=y
 cases (show k=.cell from e)
 exact absurd h (by simp)
theorem CompSc.loc(S:CompSc X N fr x scope):∀ y ∈ scope.names,y.2=.local->scope.names.lookup y.1=aa .local:=fun y hy e=>by
 have h:=cZ.mp S.chk y hy
 obtain⟨n,k⟩:=y
 cases (show k=.local from e)
 exact za3 h
theorem CompSc.free(S:CompSc X N fr x scope):∀ y ∈ scope.names,y.2=.free->X.env.kindOf y.1=aa .cell \/ X.env.kindOf y.1=aa .free:=fun y hy e=>by
 have h:=cZ.mp S.chk y hy
 obtain⟨n,k⟩:=y
 cases (show k=.free from e)
 have h':(X.env.scope.names.lookup n == aa .cell || X.env.scope.names.lookup n == aa .free)=true:=h
 rcases iX.mp h' with h' | h'
 ·exact .inl (za3 h')
 ·exact .inr (za3 h')
end
def zem(fr:List Nat)(σ:St):St:=fr.map fun i=>(σ[i]?).join
def cxC(X:Cx)(N:List Str)(scope:Scope)(C:af)(s₀:ag)(H₀:Hp)(fp:List af):Cx:=
 { X with N:=N,s₀:=s₀,H₀:=H₀,env:=compEnvC scope (zh0 X.env scope.names) C X.env,outer:=X.stack,ex:=fp,fn:=fun _=>false,pn:=[],xe:=fun _ _=>False}
def PTs(X:Cx)(ifs:List Expr)(t:TT):Prop:=
 ∀ (pins:List (af × Obj)) (s:ag) (σ:St) (H:Hp) (Q:Bool->Hp->Prop),Inv X pins σ H s->t σ H Q ->
  aw (model X.prog X.w) X.A (forIn ifs true fun c r=>if r=true then do let ok <- isTrue c X.env (eval c X.env);pure (fY ok) else pure (fY r)) (TP X pins σ Q) X.xe s
def tNoIf:TT:=fun _ H Q=>Q true H
theorem pts_nil{X:Cx}:PTs X [] tNoIf:=fun _ _ _ H _ I h=>by
 rw[j0]
 exact ar ⟨H,I,h⟩
theorem pts_one{X:Cx}{c:Expr}{t:TT}(h:PT X c t):PTs X [c] t:=fun pins s σ H Q I hw=>by
 rw[jR,if_pos rfl]
 refine ai (ai (thn (h pins s σ H Q I hw) fun ok s1 q=>ar ?_))
 show aw _ _ (forIn ([]:List Expr) ok _) _ _ _
 rw[j0]
 exact ar q
def lcW(fr:List Nat)(tt:TT)(te:TE)(J:It)(σ:St)(H1:Hp)(R:af->Hp->Prop):Prop:=
 ∀ a,H1 a=ab->∃ W:Nat->Nat->List V->Hp->Prop,(∃ m,W 0 m [] (upd H1 a (.lst [])))/\∀ i m ys H,W i m ys H ->
  (J.stop i H/\R a H) \/ (J.go i H/\∀ x H',J.yld i H x H'->tt (aa x :: zem fr σ) H' fun b H2=>
   if b=true then te (aa x :: zem fr σ) H2 fun y H3=>H3 a=aa (.lst ys)/\ys.length<be/\∃ m',m'<m/\W (i+1) m' (ys ++ [y]) (upd H3 a (.lst (ys ++ [y])))
   else ∃ m',m'<m/\W (i+1) m' ys H2)
def tLC(fr:List Nat)(wi:TI)(tt:TT)(te:TE):TE:=fun σ H Q=>wi σ H fun J H1=>lcW fr tt te J σ H1 fun a H2=>Q (.ref a) H2
section
variable {X:Cx}{N:List Str}{fr:List Nat}{x:Str}{scope:Scope}{pins:List (af × Obj)}{σ:St}{H:Hp}{s:ag}
theorem comp_inv(S:CompSc X N fr x scope){fp:List af}{h₁:ba}{tk:Nat}(I:Inv X pins σ H s)(hf:∀ b ∈ fp,zg7 X pins H b)(hfo:∀ b ∈ fp,b<s.heap.objs.size)
  (hns:h₁.Ns s.heap.objs.size fun y=>([]:List (Str × ae)).reverse.lookup y) (old:∀ b o,s.heap.get? b=aa o->h₁.get? b=aa o) :
  Inv (cxC X N scope s.heap.objs.size s H fp) [] (ab :: zem fr σ) H { s with heap:=h₁,toks:=tk}:=by
 have sub:∀ y c,(zh0 X.env scope.names).lookup y=aa c->X.env.cells.lookup y=aa c:=zgS scope.names [] (fun _ _ z=>by cases z)
 have has:∀ y,(y,bD) ∈ scope.names->∃ c,(zh0 X.env scope.names).lookup y=aa c:=fun y hy=>cl_has scope.names [] y (I.ok.has y (S.free _ hy rfl)) (.inr hy)
 have celK:∀ c v,s.heap.IsCell c v->h₁.IsCell c v:=fun c v ⟨o,ho,hd⟩=>⟨o,old c o ho,hd⟩
 have hlen:N.length=fr.length+1:=by
  have:=congrArg gh S.nm
  simpa using this
 refine⟨⟨I.ok.mod,S.kind,I.ok.glob,I.ok.blt,ak _,fun y z c h1 h2=>I.ok.inj y z c (sub y c h1) (sub z c h2),fun y hy=>?_,fun y c hy _=>(by cases hy),I.ok.hd,I.ok.frames,.inl rfl,fun b hb=>⟨bf (hfo b hb),fun y c e=>(hf b hb).2.2.2.2.1 y c (sub y c e)⟩,
  I.bs,aJ I.ok.bsz I.sz,fun b o e hb=>?_,fun b hb hfs=>?_,I.stack,I.stkFree⟩,rfl,I.bare,Un.kept old,⟨_,hns,fun i y v e1 e2 e3=>?_⟩,fun y c e=>?_,I.hok.fresh (ak _),fun y c e=>I.freeC y c (sub y c e),fun p hp=>absurd (show p ∈ ([]:List (af × Obj)) from hp) (by simp),I.hok.kept old,?_⟩
 ·exact has y (bW (zc9 S.ncell hy))
 ·rcases (hf b hb).2.2.2.1 with z | z
  ·exact I.ok.noex b o e z
  ·exact absurd (aZ (aH e) (aJ I.ok.bsz z)) (ca _)
 ·rcases aN.mp (I.stkSub b hfs) with z | z
  ·exact(hf b hb).2.1 z
  ·exact(hf b hb).2.2.1 z
 ·cases i with
  | zero=>simp at e2
  | succ j=>
   have e1':N[j+1]? = aa y:=e1
   have q1:(N.map aa)[j+1]? = aa (aa y):=by rw[aD,e1'];rfl
   rw[S.nm,dg,aD] at q1
   have e2':(zem fr σ)[j]? = aa (aa v):=by simpa using e2
   unfold zem at e2'
   rw[aD] at e2'
   cases q:fr[j]? with
   | none=>rw[q] at q1;cases q1
   | some i'=>
    rw[q] at q1 e2'
    have n1:X.N[i']? = aa y:=bg q1
    have n2:(σ[i']?).join=aa v:=bg e2'
    have n3:σ[i']? = aa (aa v):=by
     cases q':σ[i']? with
     | none=>rw[q'] at n2;cases n2
     | some o=>rw[q'] at n2;rw[show o=aa v from n2]
    have hy:y ∈ N.tail:=by
     have:N.tail[j]? = aa y:=by rw[List.getElem?_tail];exact e1'
     exact da this
    have hfree:scope.names.lookup y=aa .free:=za3 (cZ.mp S.nf y hy)
    have hk:=S.free _ (bW hfree) rfl
    obtain⟨m,hn,hl⟩:=I.loc
    obtain⟨u,r,l⟩:=hl i' y v n1 n3 (hk.elim (fun z=>.inr (.inl z)) fun z=>.inr (.inr z))
    refine⟨u,r,.inr ⟨zdb hfree,?_⟩⟩
    rcases l with ⟨k,_⟩ | ⟨k,c,ec,hc⟩
    ·rcases hk with z | z <;> (rw[show X.env.kindOf y=aa .local from k] at z;cases z)
    ·obtain⟨c',ec'⟩:=has y (bW hfree)
     have:c'=c:=bg ((sub y c' ec').symm.trans ec)
     rw[this] at ec'
     exact⟨c,ec',celK c _ hc⟩
 ·obtain⟨v,z⟩:=I.cell y c (sub y c e)
  exact⟨v,celK c v z⟩
 ·show(ab :: zem fr σ).length=N.length
  rw[hlen]
  simp[zem]
theorem zfp{fp:List af}{σ':St}{pins':List (af × Obj)}{H':Hp}{s':ag}{C:af}(I:Inv X pins σ H s)(hf:∀ b ∈ fp,zg7 X pins H b)(J:Inv (cxC X N scope C s H fp) pins' σ' H' s'):Inv X pins σ H' s':=
 Inv.call' (ch:=fp) I J.os J.base J.hok J.bare fun b hb=>⟨(hf b hb).2.2.2.1,(hf b hb).2.1,(hf b hb).2.2.2.2.1,(hf b hb).2.2.2.2.2⟩
end
section
variable {X:Cx}{N:List Str}{fr:List Nat}{x:Str}{scope:Scope}{iter elt:Expr}{ifs:List Expr}{px pos:Pos}{wi:TI}{te:TE}{tt:TT}
theorem comp_core(S:CompSc X N fr x scope)(hc:X.calm=true)
  (ht:∀ (C:af) (s₀:ag) (H₀:Hp) (fp:List af),PTs (cxC X N scope C s₀ H₀ fp) ifs tt) (he:∀ (C:af) (s₀:ag) (H₀:Hp) (fp:List af),PE (cxC X N scope C s₀ H₀ fp) elt te)
  {pins:List (af × Obj)} {σ:St} {H3:Hp} {s3:ag} {R:af->Hp->Prop} {RR:ae->af->Result->ag->Prop} {it D:af} {fp:List af} {tn:Nat->ba->Prop} {J:It} {h₁:ba} {o₁:Obj} {tk:Nat} {W:Nat->Nat->List V->Hp->Prop}
  (I3:Inv X pins σ H3 s3) (T:Turn X.prog X.w X.K (.Name x px) J fp it tn) (st3:tn 0 s3.heap) (hf3:∀ b ∈ fp,zg7 X pins H3 b) (hns₁:h₁.Ns s3.heap.objs.size fun y=>([]:List (Str × ae)).reverse.lookup y) (hsb₁:eQ s3.heap.objs.size (s3.heap.push o₁) h₁)
  (w0:∃ m,W 0 m [] H3) (turn:∀ i m ys H,W i m ys H ->
   (J.stop i H/\R D H) \/ (J.go i H/\∀ x H',J.yld i H x H'->tt (aa x :: zem fr σ) H' fun b H2=>
    if b=true then te (aa x :: zem fr σ) H2 fun y H3=>H3 D=aa (.lst ys)/\ys.length<be/\∃ m',m'<m/\W (i+1) m' (ys ++ [y]) (upd H3 D (.lst (ys ++ [y])))
    else ∃ m',m'<m/\W (i+1) m' ys H2))
  (hRR:∀ (D C:af) (H':Hp) (s':ag) (m:Str->Option ae),s'.heap.Ns C m->C ≠ X.env.locals->H' C=ab->X.s₀.heap.objs.size<=C->(∀ y c,X.env.cells.lookup y=aa c->c ≠ C)->(∀ p ∈ X.pn ++ pins,p.1 ≠ C)->Inv X pins σ H' s'->R D H'->RR (.ref D) C (.ok .next) s') :
  codeAny (model X.prog X.w) X.A (.compStart (.ListComp elt [⟨.Name x px,iter,ifs,0⟩] scope pos) 0 (.ref it) (.ref D) (compEnvC scope (zh0 X.env scope.names) s3.heap.objs.size X.env)) (RR (.ref D) s3.heap.objs.size) { s3 with heap:=h₁,toks:=tk}:=by
 obtain⟨m0,w0⟩:=w0
 have hfo3:∀ b ∈ fp,b<s3.heap.objs.size:=fun b hb=>by
  obtain⟨o,e,_⟩:=T.obj 0 _ st3 b hb
  exact aH e
 have old:∀ b o,s3.heap.get? b=aa o->h₁.get? b=aa o:=fun b o e=>hsb₁.extBut b o (bf (aH e)) (aj _ e)
 have st1:tn 0 h₁:=T.keep 0 s3.heap h₁ st3 fun b hb o e=>old b o e
 have stat:∀ {pins':List (af × Obj)} {H':Hp},(∀ b ∈ fp,H' b=ab)->(∀ b ∈ fp,∀ p ∈ pins',p.1 ≠ b)->∀ b ∈ fp,zg7 (cxC X N scope s3.heap.objs.size s3 H3 fp) pins' H' b:=fun {pins' H'} hn hp b hb=>by
  refine⟨hn b hb,bf (hfo3 b hb),fun z=>?_,.inl hb,fun y c e=>(hf3 b hb).2.2.2.2.1 y c (zgS scope.names [] (fun _ _ z=>by cases z) y c e),fun p hp'=>hp b hb p (by simpa [cxC] using hp')⟩
  rcases aN.mp (I3.stkSub b z) with z | z
  ·exact(hf3 b hb).2.1 z
  ·exact(hf3 b hb).2.2.1 z
 have loop:∀ s4:ag,Inv (cxC X N scope s3.heap.objs.size s3 H3 fp) [] (ab :: zem fr σ) H3 s4->tn 0 s4.heap ->
   codeAny (model X.prog X.w) X.A (.compLoop (.ListComp elt [⟨.Name x px,iter,ifs,0⟩] scope pos) 0 (.ref it) (.ref D) (compEnvC scope (zh0 X.env scope.names) s3.heap.objs.size X.env)) (RR (.ref D) s3.heap.objs.size) s4:=by
  intro s4 I4 st4
  refine codeAny_compLoop_tests (fun n s'=>∃ i ys H' v0,Inv (cxC X N scope s3.heap.objs.size s3 H3 fp) [] (v0 :: zem fr σ) H' s'/\tn i s'.heap/\(∀ b ∈ fp,H' b=ab)/\W i n ys H') ?_ m0
   ⟨0,[],_,ab,I4,st4,fun b hb=>(hf3 b hb).1,w0⟩
  rintro n s5 ⟨i,ys,H5,v0,I5,st5,fr5,w5⟩
  rcases turn i n ys H5 w5 with ⟨stop,qn⟩ | ⟨go,step⟩
  ·refine bU (T.done (cxC X N scope s3.heap.objs.size s3 H3 fp) rfl rfl rfl hc i [] s5 _ H5 (fun _ _=>False) I5 (stat fr5 (by simp)) st5 stop) (fun r s6 hr6=>?_) fun _ _ z=>z.elim
   obtain⟨hr,I6⟩:=hr6
   subst hr
   obtain⟨m,hn,_⟩:=id I6.loc
   refine hRR _ _ H5 s6 m hn ?_ I6.free ?_ ?_ ?_ (zfp I3 hf3 I6) qn
   ·exact eR I3.lt
   ·exact I3.sz
   ·intro y c e z
    obtain⟨v,q⟩:=I3.cell y c e
    exact absurd q.lt (by rw[z];exact ca _)
   ·intro p hp z
    exact absurd (aH (I3.pin p hp).1) (by rw[z];exact ca _)
  ·refine bU (T.item (cxC X N scope s3.heap.objs.size s3 H3 fp) rfl rfl rfl hc i [] s5 _ H5 (fun _ _=>False) I5 (stat fr5 (by simp)) st5 go) (fun r s6 hr6=>?_) fun _ _ z=>z.elim
   obtain⟨u,hr,h6⟩:=hr6
   subst hr
   show aw _ _ (assign (.Name x px) _ u) _ _ s6
   have el:∀ env:Env,(assign (.Name x px) env u)=(letOwnedTupleGo (.Name x px) (.ref it) u >>= fun _=>assign (.Name x px) env u):=fun env=>by
    rw[show letOwnedTupleGo (.Name x px) (.ref it) u=pure () from rfl,pure_bind]
   rw[el]
   refine ai (bU h6 (fun _ s7 h7=>?_) fun _ _ z=>z.elim)
   obtain⟨y,H7,I7,r7,y7,st7,fr7⟩:=h7
   have I7':=I7.pinned (stat fr7 (by simp)) (T.obj _ _ st7)
   have lx:(relabel scope X.env).names.lookup x=aa .local:=lookup_relabel_local S.tg
   have hN0:N[0]? = aa x:=by
    have:=congrArg (fun l=>l[0]?) S.nm
    simp only[aD,e9] at this
    cases q:N[0]? with
    | none=>rw[q] at this;cases this
    | some z=>rw[q] at this;exact bg this
   refine wpAny_assign_Name (zfN (i:=0) (v:=y) I7' S.nd hN0 (.inl lx) r7 (fun s8 I8=>?_) (.inr lx))
   have I8':Inv (cxC X N scope s3.heap.objs.size s3 H3 fp) ([] ++ zfb fp s7.heap) (aa y :: zem fr σ) H7 s8:=I8
   refine bU (ht _ _ _ _ _ s8 _ H7 _ I8' (step y H7 y7)) (fun ok s9 h9=>?_) fun _ _ z=>z.elim
   obtain⟨H9,I9,q9⟩:=h9
   have again:∀ {s':ag} {H':Hp},Inv (cxC X N scope s3.heap.objs.size s3 H3 fp) ([] ++ zfb fp s7.heap) (aa y :: zem fr σ) H' s' ->
     Inv (cxC X N scope s3.heap.objs.size s3 H3 fp) [] (aa y :: zem fr σ) H' s'/\tn (i+1) s'.heap/\∀ b ∈ fp,H' b=ab:=fun {s' H'} I'=>by
    refine⟨I'.unpinned,T.keep _ _ _ st7 fun b hb o e=>(I'.pin (b,o) (aA _ (aA _ (zcz hb e)))).1,fun b hb=>?_⟩
    obtain⟨o,e,d⟩:=T.obj _ _ st7 b hb
    exact(I'.pin (b,o) (aA _ (aA _ (zcz hb e)))).2.1
   cases ok with
   | false=>
    rw[if_neg a8] at q9 ⊢
    obtain⟨m',hm,w9⟩:=q9
    obtain⟨a1,a2,a3⟩:=again I9
    exact⟨m',hm,i+1,ys,H9,aa y,a1,a2,a3,w9⟩
   | true=>
    rw[if_pos rfl] at q9 ⊢
    refine bU (he _ _ _ _ _ s9 _ H9 _ I9 q9) (fun zv s10 h10=>?_) fun _ _ z=>z.elim
    obtain⟨z,H10,I10,rz,hz,hlt,m',hm,w10⟩:=h10
    refine bU (zd0 (X:=cxC X N scope s3.heap.objs.size s3 H3 fp) _ s10 _ H10 (.ref D) [z] (.ref D) [zv] (fun _ H'=>H'=upd H10 D (.lst (ys ++ [z]))) I10 rfl (.cons rz .nil)
     ⟨_,ys,z,rfl,rfl,hz,hlt,rfl⟩) (fun _ s11 h11=>?_) fun _ _ z=>z.elim
    obtain⟨_,H11,I11,_,e11⟩:=h11
    subst e11
    obtain⟨a1,a2,a3⟩:=again I11
    exact⟨m',hm,i+1,ys ++ [z],_,aa y,a1,a2,a3,w10⟩
 have I4:=comp_inv S (tk:=tk) I3 hf3 hfo3 hns₁ old
 exact codeAny_compStart_list (loop _ I4 st1) (T.self _ 0 _ _ _ st1 (loop _ I4 st1))
theorem zhI(S:CompSc X N fr x scope)(hc:X.calm=true)
  (ht:∀ (C:af) (s₀:ag) (H₀:Hp) (fp:List af),PTs (cxC X N scope C s₀ H₀ fp) ifs tt) (he:∀ (C:af) (s₀:ag) (H₀:Hp) (fp:List af),PE (cxC X N scope C s₀ H₀ fp) elt te)
  {pins:List (af × Obj)} {σ:St} {H:Hp} {s:ag} {R:af->Hp->Prop} {RR:ae->af->Result->ag->Prop} {it:af} {fp:List af} {tn:Nat->ba->Prop} {J:It} {E:ae->ag->Prop}
  (I:Inv X pins σ H s) (T:Turn X.prog X.w X.K (.Name x px) J fp it tn) (st:tn 0 s.heap) (hf:∀ b ∈ fp,zg7 X pins H b) (h:lcW fr tt te J σ H R)
  (hRR:∀ (D C:af) (H':Hp) (s':ag) (m:Str->Option ae),s'.heap.Ns C m->C ≠ X.env.locals->H' C=ab->X.s₀.heap.objs.size<=C->(∀ y c,X.env.cells.lookup y=aa c->c ≠ C)->(∀ p ∈ X.pn ++ pins,p.1 ≠ C)->Inv X pins σ H' s'->R D H'->RR (.ref D) C (.ok .next) s') :
  aw (model X.prog X.w) X.A (newList []) (fun acc s₃=>aw (model X.prog X.w) X.A (newFunctionEnv scope X.env.globals (zh0 X.env scope.names) [] X.env.qual ab .none (aa X.env)) (fun cenv s₄=>
   codeAny (model X.prog X.w) X.A (.compStart (.ListComp elt [⟨.Name x px,iter,ifs,0⟩] scope pos) 0 (.ref it) acc { cenv with scope:=relabel scope X.env}) (RR acc cenv.locals) s₄) E s₃) E s:=by
 refine wpAny_newObj_type (wpAny_newFunctionEnv S.ncell (by intro y hy;simp at hy) (fun h₁ hns₁ hsb₁=>?_) S.kind)
 have hD:H s.heap.objs.size=ab:=I.hok.fresh (ak _)
 obtain⟨W,w0,turn⟩:=h _ hD
 have I3:Inv X pins σ (upd H s.heap.objs.size (.lst [])) { s with heap:=s.heap.push { cls:=.type "list",dict:=ab,data:=.seq ([]:List ae).toArray}}:=
  I.laid (t':=s.toks) (fun b o e=>aj _ e) (ak _) ⟨aO _,[],_,.nil,aG _ rfl⟩
 have hfo:∀ b ∈ fp,b<s.heap.objs.size:=fun b hb=>by
  obtain⟨o,e,_⟩:=T.obj 0 _ st b hb
  exact aH e
 have hf3:∀ b ∈ fp,zg7 X pins (upd H s.heap.objs.size (.lst [])) b:=fun b hb=>by
  obtain⟨f0,f1⟩:=hf b hb
  exact⟨by rw[zak (bf (hfo b hb))];exact f0,f1⟩
 exact comp_core S hc ht he I3 T (T.keep 0 s.heap _ st fun b hb o e=>aj _ e) hf3 hns₁ hsb₁ w0 turn hRR
theorem CompSc.clos(S:CompSc X N fr x scope){pins:List (af × Obj)}{σ:St}{H:Hp}{s:ag}(I:Inv X pins σ H s):closureFor scope X.env=pure (zh0 X.env scope.names):=
 zfs fun y hy e=>I.ok.has y.1 (S.free y hy e)
theorem pe_lc(S:CompSc X N fr x scope)(hc:X.calm=true)(hi:PI X (.Name x px) iter wi)
  (ht:∀ (C:af) (s₀:ag) (H₀:Hp) (fp:List af),PTs (cxC X N scope C s₀ H₀ fp) ifs tt) (he:∀ (C:af) (s₀:ag) (H₀:Hp) (fp:List af),PE (cxC X N scope C s₀ H₀ fp) elt te)
  (hs:∀ z,cg iter X.env z=pure z:=by intro _;rfl):PE X (.ListComp elt [⟨.Name x px,iter,ifs,0⟩] scope pos) (tLC fr wi tt te):=by
 intro pins s σ H Q I h
 rw[eval_ListComp]
 refine wpAny_comprehension_free (use:=ab) (cl:=zh0 X.env scope.names) rfl hs (S.clos I) S.kind S.loc (thn (hi pins s σ H _ I h) fun xv s1 h1=>thn h1 fun itv s2 h2=>?_)
 obtain⟨it,fp,tn,J,H2,e,I2,T,st2,f2,q⟩:=h2
 subst e
 refine zhI (RR:=fun acc C=>compPost (model X.prog X.w) X.A X.xe ab (EP X pins σ Q) acc C) S hc ht he I2 T st2 f2 q ?_
 intro D C H' s' m hn c1 c2 c3 c4 c5 I' r
 refine⟨m,hn,fun h' hsb=>⟨.ref D,H',?_,rfl,r⟩⟩
 exact I'.turned (t':=s'.toks) (fun b o hb e=>(hsb.2 b hb).trans e) c2 c1 (.inr c3) c4 c5
theorem ps_setlc{i:Nat}{y:Str}{py spos:Pos}(hN:X.N.Nodup)(hi':X.N[i]? = aa y)(hy:Loc X.env.scope y)(S:CompSc X N fr x scope)(hc:X.calm=true)(hi:PI X (.Name x px) iter wi)
  (ht:∀ (C:af) (s₀:ag) (H₀:Hp) (fp:List af),PTs (cxC X N scope C s₀ H₀ fp) ifs tt) (he:∀ (C:af) (s₀:ag) (H₀:Hp) (fp:List af),PE (cxC X N scope C s₀ H₀ fp) elt te)
  (hsw:swapsWith (.ListComp elt [⟨.Name x px,iter,ifs,0⟩] scope pos) (aa (.Name y py)) spos.line X.env=pure true:=by rfl)
  (hs:∀ z,cg iter X.env z=pure z:=by intro _;rfl)
  (hf:X.fn y=true \/ X.env.scope.names.lookup y=aa .local:=by first | exact .inl rfl | exact .inr rfl | assumption) :
  PS X (.Assign [.Name y py] (.ListComp elt [⟨.Name x px,iter,ifs,0⟩] scope pos) spos) (tAsg (tLC fr wi tt te) (zge i)):=by
 intro pins s σ H D I h
 rw[exec_Assign_Name_used _ _ _ _ hsw]
 refine ai (wpAny_standAt (ai ?_))
 show aw _ X.A (do let _ <- comprehension (.ListComp elt [⟨.Name x px,iter,ifs,0⟩] scope pos) scope X.env _ (newList []) false (eval iter X.env) (aa (assign (.Name y py) X.env))) _ _ s
 refine ai (bU (wpAny_comprehension_free (use:=aa (assign (.Name y py) X.env)) (cl:=zh0 X.env scope.names) (Q:=fun _ s'=>SP X pins D .next s') rfl hs (S.clos I) S.kind S.loc
  (thn (hi pins s σ H _ I h) fun xv s1 h1=>thn h1 fun itv s2 h2=>?_)) (fun _ s' hq=>ar (ar hq)) fun _ _ e=>e)
 obtain⟨it,fp,tn,J,H2,e,I2,T,st2,f2,q⟩:=h2
 subst e
 refine zhI (RR:=fun acc C=>compPost (model X.prog X.w) X.A X.xe (aa (assign (.Name y py) X.env)) (fun _ s'=>SP X pins D .next s') acc C) S hc ht he I2 T st2 f2 q ?_
 intro D' C H' s' m hn c1 c2 c3 c4 c5 I' r
 show aw _ _ (assign (.Name y py) X.env (.ref D')) _ _ s'
 refine wpAny_assign_Name (zgL (v:=.ref D') I' hN hi' hy rfl (fun s'' I'' hc'=>?_) hf)
 obtain⟨c,hsb,hcc⟩:=hc'
 have hne:C ≠ c:=by
  rcases hcc with z | z
  ·rw[z];exact c1
  ·exact fun e=>c4 y c z e.symm
 refine⟨m,hn.sameBut hsb hne,fun h' hsb'=>⟨_,H',?_,r⟩⟩
 exact I''.turned (t':=s''.toks) (fun b o hb e=>(hsb'.2 b hb).trans e) c2 c1 (.inr c3) c4 c5
end
end L2

namespace L2
open PySem PySem.Spec PyProof.Rows
theorem Same.alloc{H:Hp}{p:af}{o:HO}(h:H p=ab):Same H (upd H p o):=fun b u e=>by rw[zak (zaD e h)];exact e
section
variable {X:Cx}
def rIsi(K:ah):List V->Hp->VK->Prop:=fun xs H Q=>∃ x n t b,xs=[x,.ty n]/\TyOf K H x t/\iE K t (.type n)=aa b/\Q (.bl b) H
theorem call_isi:zdt X (.builtin "isinstance") (rIsi X.K):=by
 intro pins s σ H xs us Q I r h
 obtain⟨x,n,t,b,rfl,ty,e,q⟩:=h
 obtain⟨u,w',rfl,rx,ry⟩:=vals2 r
 cases (show w'=di n from ry)
 exact isinst_ok I rx ty e fun tk=>⟨.bl b,H,I.tok tk,rfl,q⟩
end
theorem pe_gl{X:Cx}{x:Str}{v:V}{pos:Pos}(hg:Gl X x)(h:∃ u,X.mg x=aa u/\RelV v u)(hd:(x == ("__debug__" : Str))=false:=by decide):PE X (.Name x pos) (tC v):=by
 obtain⟨u,hm,r⟩:=h
 exact pe_glob hg hm r hd
end L2
namespace HT
open PySem PyProof.Rows
section
variable {prog:aL}{w:aX}{A:aS}{E:ae->ag->Prop}{s:ag}
end
end HT
namespace L2
open PySem PySem.Spec PyProof.Rows
section
variable {X:Cx}
end
end L2
namespace L2
open PySem PySem.Spec PyProof.Rows
section
variable {X:Cx}{pins:List (af × Obj)}{σ:St}{H:Hp}{s:ag}{pos:Pos}
theorem Inv.big(I:Inv X pins σ H s):sysModules<s.heap.objs.size:=by
 have h:aB<s.heap.objs.size:=(I.mod.glob.keeps I.bk).lt
 exact fZ (by decide) h
theorem dk_empty{P:aL}{w:aX}{H:Hp}(h:ba)(hb:sysModules<h.objs.size):ObjOk P w H (h.push { cls:=.type "dict",data:=.dict #[]}) h.objs.size (.dK []):=
 ⟨aO _,beq_eq_false_iff_ne.mpr (cx (bf hb)),[],.nil,l9 h⟩
def tDNewK:TE:=fun _ H Q=>∀ p,H p=ab->Q (.ref p) (upd H p (.dK []))
theorem pe_dnewK:PE X (.Dict [] [] pos) tDNewK:=fun pins s σ H Q I h=>
 wpAny_Dict_empty ⟨.ref s.heap.objs.size,_,I.laid (a:=s.heap.objs.size) (o:=.dK []) (t':=s.toks) (fun _ _ q=>aj _ q) (ak _) (dk_empty s.heap I.big),rfl,h _ (I.hok.fresh (ak _))⟩
end
end L2

namespace L2
open PySem PySem.Spec PyProof.Rows
def zao:Expr->Bool
 | .Starred _ _=>false
 | _=>true
theorem zau{e:Expr}{es:List Expr}{env:Env}(h:zao e=true):bj (e :: es) env=(false,eval e env) :: bj es env:=by
 cases e <;> first | rfl | (exact absurd h (by decide)) | (cases h)
theorem zcJ{env:Env}{pos:Pos}:∀ {es:List Expr},es.all zao=true->(backTo pos (bj es env)).any (·.1)=false
 | [],_=>rfl
 | e :: es,h=>by
  rw[gA,eD] at h
  rw[zau h.1]
  show(false || (backTo pos (bj es env)).any (·.1))=false
  rw[zcJ h.2]
  rfl
theorem zh6{env:Env}{pos:Pos}:∀ {es:List Expr},es.all zao=true->(backTo pos (bj es env)).all (fun x=>!x.1)=true
 | [],_=>rfl
 | e :: es,h=>by
  rw[gA,eD] at h
  rw[zau h.1]
  show(true && (backTo pos (bj es env)).all (fun x=>!x.1))=true
  rw[zh6 h.2]
  rfl
section
variable {X:Cx}{e o:Expr}{es:List Expr}{te to:TE}{t:TA}{x:Str}{p pos:Pos}
structure Def(K:ah)(mg:Str->Option ae)(x:Str)(st:Stmt)(ps:List Str)(f:af)(fd:bQ):Prop where
 fn:Fun K x x st f fd
 mg:mg x=aa (.ref f)
 b:Binds K fd ps []
theorem pbm{T id:String}{name:Str}{apos cpos:Pos}{r:V->List V->Hp->VK->Prop}(pa:PlainAttrs T)(slot:Slot T name id)(hty:typeOf (.builtin id)=pure (.type "method_descriptor"))(hm:MtR X id r)(ho:PE X o to)(ha:PA X (e :: es) t)
  (hbase:ck o name X.env (eval o X.env)=eval o X.env:=by rfl) (hl:decide ((e :: es).length+0+0<30)=true:=by rfl) (hline:(apos.endLine == cpos.line)=true:=by rfl)
  (h1:zao e=true:=by rfl) (h2:es.all zao=true:=by rfl):PE X (.Call (.Attribute o name apos) (e :: es) [] cpos) (tBM X.K T r to t):=by
 refine pe_bm pa slot hty hm ho ha hbase ?_ hline (zau h1) (zcJ h2)
 rw[zh6 (es:=e :: es) (by rw[gA,h1,h2];rfl)]
 exact hl
end
end L2

namespace L2
open PySem PySem.Spec PyProof.Rows
structure WE(X:Cx)(e:Expr)(t:TE):Prop where
 h:PE X e t
structure WT(X:Cx)(e:Expr)(t:TT):Prop where
 h:PT X e t
structure WW(X:Cx)(e:Expr)(t:TT):Prop where
 h:PW X e t
structure WA(X:Cx)(es:List Expr)(t:TA):Prop where
 h:PA X es t
structure WS(X:Cx)(s:Stmt)(t:TS):Prop where
 h:PS X s t
structure WSs(X:Cx)(s:List Stmt)(t:TS):Prop where
 h:PSs X s t
structure WI(X:Cx)(tg e:Expr)(t:TI):Prop where
 h:PI X tg e t
structure WG(X:Cx)(e:Expr)(t:TG):Prop where
 h:PG X e t
structure WGs(X:Cx)(es:List Expr)(t:TGs):Prop where
 h:PGs X es t
structure WO(X:Cx)(e:Option Expr)(t:TO):Prop where
 h:PO X e t
structure WTs(X:Cx)(es:List Expr)(t:TT):Prop where
 h:PTs X es t
section
variable {X:Cx}{a b c e o:Expr}{es rest:List Expr}{pos pos' p p2:Pos}{ta tb tc te to:TE}{tA tB':TT}{t:TA}{x:Str}{r r':R2}
theorem wv(i:Nat)(hN:X.N[i]? = aa x:=by rfl)(hv:Vis X.env.scope x:=by first | exact az rfl | exact br (az rfl) | exact br (br rfl))(hd:(x == ("__debug__" : Str))=false:=by decide)
  (hcd:(x == ("__classdict__" : Str))=false:=by decide):WE X (.Name x pos) (tVar i):=⟨pe_var hN hv hd hcd⟩
theorem wint{i:Int}{j:Nat}:WE X (.Constant (.int i) j pos) (tC (.int i)):=⟨pe_int⟩
theorem wbl{i:Bool}{j:Nat}:WE X (.Constant (.bool i) j pos) (tC (.bl i)):=⟨pe_bl⟩
theorem wnon{j:Nat}:WE X (.Constant .none j pos) (tC .non):=⟨pe_non⟩
theorem wstr{i:Str}{j:Nat}:WE X (.Constant (.str i) j pos) (tC (.str i)):=⟨pe_str⟩
theorem wgl{v:V}(hg:Gl X x)(h:∃ u,X.mg x=aa u/\RelV v u)(hd:(x == ("__debug__" : Str))=false:=by decide):WE X (.Name x pos) (tC v):=⟨pe_gl hg h hd⟩
theorem wbt{n:String}(hg:Gl X x)(hm:X.mg x=ab)(hv:a9 x=aa (.type n))(hn:x ≠ "__name__" :=by decide)(hd:(x == ("__debug__" : Str))=false:=by decide):WE X (.Name x pos) (tC (.ty n)):=⟨pe_bltn (v:=.ty n) hg hm hv rfl hn hd⟩
theorem wop{op:Operator}(ho:OpR X (binaryOp op) r)(ha:WE X a ta)(hb:WE X b tb):WE X (.BinOp a op b pos) (tOp r ta tb):=⟨pe_op ho ha.h hb.h⟩
theorem wun{op:UnaryOp}{q:V->Hp->VK->Prop}(ho:UnR X (unaryOp op) q)(ha:WE X a ta):WE X (.UnaryOp op a pos) (tUn q ta):=⟨pe_un ho ha.h⟩
theorem wcmp{op:CmpOp}(ho:OpR X (bI op) r)(ha:WE X a ta)(hb:WE X b tb)(hm:behindInMarks op b=false):WE X (.Compare a [op] [b] pos) (tOp r ta tb):=⟨pe_cmpR ho ha.h hb.h hm⟩
theorem wone{op:BoolOp}(h:WE X a ta):WE X (.BoolOp op [a] pos) ta:=⟨pe_one h.h⟩
theorem wand(ha:WE X a ta)(hb:WE X (.BoolOp .And (b :: rest) pos) tb):WE X (.BoolOp .And (a :: b :: rest) pos) (tAndV ta tb):=⟨pe_and ha.h hb.h⟩
theorem wnotV(ha:WE X a ta):WE X (.UnaryOp .Not a pos) (tNotV ta):=⟨pe_not ha.h⟩
theorem wif(hc:WT X c tA)(ha:WE X a ta)(hb:WE X b tb):WE X (.IfExp c a b pos) (tIf tA ta tb):=⟨pe_ifExp hc.h ha.h hb.h⟩
theorem wtup{x1:Nat}(h:WA X es t):WE X (.Tuple es x1 pos) (tTup t):=⟨pe_tup h.h⟩
theorem wlst(h:WA X es t):WE X (.List es pos) (tLst t):=⟨pe_lst h.h⟩
theorem wdnew:WE X (.Dict [] [] pos) tDNewK:=⟨pe_dnewK⟩
theorem wix{r:R2}(hr:IxR X r)(ha:WE X a ta)(hb:WE X b tb)(hs:zhf b):WE X (.Subscript a b pos) (tOp r ta tb):=⟨pe_ix hr ha.h hb.h hs⟩
theorem wslice{lo hi:Option Expr}{tl th:TO}{r:V->Option Int->Option Int->Hp->VK->Prop}(hr:SlR X r)(he:WE X e te)(hl:WO X lo tl)(hu:WO X hi th):WE X (.Subscript e (.Slice lo hi ab p2) pos) (tSl r te tl th):=⟨pe_slice hr he.h hl.h hu.h⟩
theorem wnil:WA X [] tNil:=⟨pa_nil⟩
theorem wac(ha:WE X e te)(hr:WA X es t)(h:zao e=true:=by rfl):WA X (e :: es) (tCons te t):=⟨zhq ha.h hr.h (zau h)⟩
theorem won:WO X ab tNoPart:=⟨po_none⟩
theorem wos(h:WE X e te):WO X (aa e) (tPart te):=⟨po_some h.h⟩
theorem wcb{id:String}{r:List V->Hp->VK->Prop}(hc:zdt X (.builtin id) r)(hg:Gl X x)(hm:X.mg x=ab)(hv:a9 x=aa (.builtin id))(ha:WA X (e :: es) t)(hn:x ≠ "__name__" :=by decide)(hdb:(x == ("__debug__" : Str))=false:=by decide)
  (h1:zao e=true:=by rfl) (h2:es.all zao=true:=by rfl):WE X (.Call (.Name x p) (e :: es) [] pos) (tCB r t):=⟨pe_callB hc hg hm hv ha.h hn hdb (zau h1) (zcJ h2)⟩
theorem wct{T:String}{r:List V->Hp->VK->Prop}(hc:zdt X (.type T) r)(hg:Gl X x)(hm:X.mg x=ab)(hv:a9 x=aa (.type T))(ha:WA X (e :: es) t)(hn:x ≠ "__name__" :=by decide)(hdb:(x == ("__debug__" : Str))=false:=by decide)
  (h1:zao e=true:=by rfl) (h2:es.all zao=true:=by rfl):WE X (.Call (.Name x p) (e :: es) [] pos) (tCB r t):=⟨pe_callTy hc hg hm hv ha.h hn hdb (zau h1) (zcJ h2)⟩
theorem wcl{CX:CXT}{k j:Nat}{f:af}{fd:bQ}{ps:List Str}{sp:Sp}{st:Stmt}{E:XK}(F:FnOk X.prog X.w X.K X.mg X.base CX k f fd ps sp)(D:Def X.K X.mg x st ps f fd)(hr:Room j X.A)(hg:Gl X x)(hx:zcG CX X E)
  (ha:WA X (e :: es) t) (hjk:k<=j:=by decide) (hdb:(x == ("__debug__" : Str))=false:=by decide) (h1:zao e=true:=by rfl) (h2:es.all zao=true:=by rfl) :
  WE X (.Call (.Name x p) (e :: es) [] pos) (tCall sp [] E t):=⟨pe_call F (hr.mono hjk) hg D.mg D.fn.kp D.b .nil hx ha.h hdb (zau h1) (zcJ h2)⟩
theorem wbm{T id:String}{name:Str}{apos cpos:Pos}{r:V->List V->Hp->VK->Prop}(pa:PlainAttrs T)(slot:Slot T name id)(hty:typeOf (.builtin id)=pure (.type "method_descriptor"))(hm:MtR X id r)(ho:WE X o to)(ha:WA X (e :: es) t)
  (hbase:ck o name X.env (eval o X.env)=eval o X.env:=by rfl) (hl:decide ((e :: es).length+0+0<30)=true:=by rfl) (hline:(apos.endLine == cpos.line)=true:=by rfl)
  (h1:zao e=true:=by rfl) (h2:es.all zao=true:=by rfl):WE X (.Call (.Attribute o name apos) (e :: es) [] cpos) (tBM X.K T r to t):=⟨pbm pa slot hty hm ho.h ha.h hbase hl hline h1 h2⟩
theorem tcmp{op:CmpOp}(ho:OpR X (bI op) r)(ha:WE X a ta)(hb:WE X b tb)(hm:behindInMarks op b=false):WT X (.Compare a [op] [b] pos) (tTest (tOp r ta tb)):=⟨pt_cmpR ho ha.h hb.h hm⟩
theorem tand1(ha:WT X a tA):WW X (.BoolOp .And [a] pos) tA:=⟨pw_and1 ha.h⟩
theorem tor1(ha:WT X a tA):WW X (.BoolOp .Or [a] pos) tA:=⟨pw_or1 ha.h⟩
theorem tand(ha:WT X a tA)(hb:WW X (.BoolOp .And (b :: rest) pos) tB'):WW X (.BoolOp .And (a :: b :: rest) pos) (tAnd tA tB'):=⟨pw_and ha.h hb.h⟩
theorem tor(ha:WT X a tA)(hb:WW X (.BoolOp .Or (b :: rest) pos) tB'):WW X (.BoolOp .Or (a :: b :: rest) pos) (tOr tA tB'):=⟨pw_or ha.h hb.h⟩
theorem tw(h:WW X a tA):WT X a tA:=⟨h.h.pt⟩
theorem tnot(ha:WT X a tA):WT X (.UnaryOp .Not a pos) (tNot tA):=⟨pt_not ha.h⟩
theorem tval(h:WE X e te)(he:∀ whole,isTrue e X.env whole=(do let v <- whole;standAt e.pos;holding [v] (truthy v)):=by intro _;rfl):WT X e (tB te):=⟨pt_val h.h he⟩
theorem ifs0:WTs X [] tNoIf:=⟨pts_nil⟩
theorem ifs1(h:WT X c tA):WTs X [c] tA:=⟨pts_one h.h⟩
end
section
variable {X:Cx}{e c tg iter:Expr}{es:List Expr}{pos pos' p:Pos}{te:TE}{tc:TT}{ta:TA}{x:Str}{st:Stmt}{sr body els:List Stmt}{t u tb:TS}{wi:TI}{g:TG}{gs:TGs}
theorem il(h:WE X e te):WI X tg e (iList X.K te):=⟨pi_list h.h⟩
theorem it(h:WE X e te):WI X tg e (iTup X.K te):=⟨pi_tup h.h⟩
theorem ir1(hg:Gl X "range")(hm:X.mg "range" = ab)(ha:WA X [e] ta)(h1:zao e=true:=by rfl):WI X tg (.Call (.Name "range" p) [e] [] pos) (iRng1 ta):=⟨pi_range1 hg hm ha.h (zau h1)⟩
theorem ir2{b:Expr}(hg:Gl X "range")(hm:X.mg "range" = ab)(ha:WA X [e,b] ta)(h1:zao e=true:=by rfl)(h2:zao b=true:=by rfl):WI X tg (.Call (.Name "range" p) [e,b] [] pos) (iRng2 ta):=⟨pi_range2 hg hm ha.h (by rw[zau h1,zau h2];rfl) (by rw[zau h2];rfl)⟩
theorem gn{i:Nat}(hN:X.N.Nodup)(hi:X.N[i]? = aa x)(hx:Loc X.env.scope x)(hf:X.fn x=true \/ X.env.scope.names.lookup x=aa .local:=by first | exact .inl rfl | exact .inr rfl | assumption):WG X (.Name x pos) (zge i):=⟨zhg hN hi hx hf⟩
theorem gs0:WGs X [] gNil:=⟨pgs_nil⟩
theorem gs1(h1:WG X e g)(h2:WGs X es gs)(hs:(bS (e :: es) X.env).map (·.2)=assign e X.env :: (bS es X.env).map (·.2):=by rfl):WGs X (e :: es) (gCons g gs):=⟨zfK h1.h h2.h hs⟩
theorem gt{k n:Nat}(hc:X.calm=true)(h:WGs X es gs)(hn:(bS es X.env).length=n:=by rfl)(hst:(bS es X.env).findIdx? (·.1)=ab:=by rfl):WG X (.Tuple es k pos) (gTup X.K n gs):=⟨pg_tup hc h.h hn hst⟩
theorem s0:WSs X [] tNext:=⟨pss_nil⟩
theorem sc(h1:WS X st t)(h2:WSs X sr u):WSs X (st :: sr) (tSeq t u):=⟨pss_cons h1.h h2.h⟩
theorem s1(h1:WS X st t):WSs X [st] t:=⟨pss_one h1.h⟩
theorem sex(he:WE X e te)(hs:swapsWith e ab pos.line X.env=pure false:=by rfl):WS X (.Expr e pos) (tDrop te):=⟨ps_expr he.h hs⟩
theorem sret(he:WE X e te):WS X (.Return (aa e) pos) (tRet te):=⟨ps_ret he.h⟩
theorem sif(hc:WT X c tc)(ha:WSs X body t)(hb:WSs X els u):WS X (.If c body els pos) (tIfS tc t u):=⟨ps_if hc.h ha.h hb.h⟩
theorem sset{i:Nat}(hN:X.N.Nodup)(hi:X.N[i]? = aa x)(hx:Loc X.env.scope x)(he:WE X e te)(hs:swapsWith e (aa (.Name x pos')) pos.line X.env=pure false:=by rfl)(hf:X.fn x=true \/ X.env.scope.names.lookup x=aa .local:=by first | exact .inl rfl | exact .inr rfl | assumption) :
  WS X (.Assign [.Name x pos'] e pos) (tAsg te (zge i)):=⟨ps_set hN hi hx he.h hs hf⟩
theorem sasg(he:WE X e te)(hg:WG X tg g)(hs:swapsWithSole [tg] e pos.line X.env=pure false:=by rfl)(hw:swappedStores [tg] e X.env=pure ab:=by rfl)(h1:(bS [tg] X.env).map (·.2)=[assign tg X.env]:=by rfl):WS X (.Assign [tg] e pos) (tAsg te g):=⟨ps_asg he.h hg.h hs hw h1⟩
theorem sfor(hp:PassesOwn (model X.prog X.w) X.A X.env X.xe)(hc:X.calm=true)(hi:WI X tg iter wi)(hg:WG X tg g)(hb:WSs X body tb)(hs:∀ z,cg iter X.env z=pure z:=by intro _;rfl):WS X (.For tg iter body [] pos) (tFor wi g tb):=⟨ps_for hp hc hi.h hg.h hb.h hs⟩
end
section
variable {X:Cx}{N:List Str}{fr:List Nat}{x:Str}{scope:Scope}{iter elt:Expr}{ifs:List Expr}{px pos:Pos}{wi:TI}{te:TE}{tt:TT}
theorem wlc(S:CompSc X N fr x scope)(hc:X.calm=true)(hi:WI X (.Name x px) iter wi)
  (ht:∀ (C:af) (s₀:ag) (H₀:Hp) (fp:List af),WTs (cxC X N scope C s₀ H₀ fp) ifs tt) (he:∀ (C:af) (s₀:ag) (H₀:Hp) (fp:List af),WE (cxC X N scope C s₀ H₀ fp) elt te)
  (hs:∀ z,cg iter X.env z=pure z:=by intro _;rfl):WE X (.ListComp elt [⟨.Name x px,iter,ifs,0⟩] scope pos) (tLC fr wi tt te):=⟨pe_lc S hc hi.h (fun C s₀ H₀ fp=>(ht C s₀ H₀ fp).h) (fun C s₀ H₀ fp=>(he C s₀ H₀ fp).h) hs⟩
theorem ssetlc{i:Nat}{y:Str}{py spos:Pos}(hN:X.N.Nodup)(hi':X.N[i]? = aa y)(hy:Loc X.env.scope y)(S:CompSc X N fr x scope)(hc:X.calm=true)(hi:WI X (.Name x px) iter wi)
  (ht:∀ (C:af) (s₀:ag) (H₀:Hp) (fp:List af),WTs (cxC X N scope C s₀ H₀ fp) ifs tt) (he:∀ (C:af) (s₀:ag) (H₀:Hp) (fp:List af),WE (cxC X N scope C s₀ H₀ fp) elt te)
  (hsw:swapsWith (.ListComp elt [⟨.Name x px,iter,ifs,0⟩] scope pos) (aa (.Name y py)) spos.line X.env=pure true:=by rfl)
  (hs:∀ z,cg iter X.env z=pure z:=by intro _;rfl)
  (hf:X.fn y=true \/ X.env.scope.names.lookup y=aa .local:=by first | exact .inl rfl | exact .inr rfl | assumption) :
  WS X (.Assign [.Name y py] (.ListComp elt [⟨.Name x px,iter,ifs,0⟩] scope pos) spos) (tAsg (tLC fr wi tt te) (zge i)):=
 ⟨ps_setlc hN hi' hy S hc hi.h (fun C s₀ H₀ fp=>(ht C s₀ H₀ fp).h) (fun C s₀ H₀ fp=>(he C s₀ H₀ fp).h) hsw hs hf⟩
end
end L2

set_option maxRecDepth 100000
set_option maxHeartbeats 4000000
namespace L2
open PySem PySem.Spec PyProof.Rows
abbrev KN:=Option Int
def kN:KN->V
 | none=>.non
 | some i=>.int i
def nHash:KN->Int
 | none=>reduceHash 0xFCA86420
 | some k=>hashInt k
def dtE(q:List KN × af × ae):DictEntry:=⟨reduceHash (kE (q.1.map nHash)),.ref q.2.1,q.2.2⟩
def DtP:List (List KN × af × V)->List (List KN × af × ae)->Prop:=Paired fun p q=>p.1=q.1/\p.2.1=q.2.1/\RelV p.2.2 q.2.2
def DtOk(l:af)(xs:List (List KN × af × V))(h:ba):Prop:=
 (l == sysModules)=false/\xs.length<=be/\∃ ys,DtP xs ys/\∃ o es ep,h.get? l=aa o/\o.ExactDict/\o.data=.dict es ep/\es.toList=ys.map dtE/\(ys.map (·.1)).Nodup
def dtO(l:af)(xs:List (List KN × af × V)):HO:=.ext (DtOk l xs)
end L2

namespace L3
open PySem PySem.Spec PyProof.Rows L2
inductive D where
 | non | bl (b:Bool) | int (i:Int) | str (x:Str) | tup (l:List D) | lst (l:List D) | dic (ks:List Str) (l:List D)
inductive OT where
 | val (d:D) | lst (l:List D) | ins (c:Str) (ns:List Str) (l:List OT) | dic (ks:List Str) (l:List D) | dcT (ks:List (List KN)) (l:List D)
inductive Ent where
 | val (d:D) | own (l:List D) | bor (l:List D) | vw (l:List D) | obj (o:OT) | vwt (ks:List (List KN)) (l:List D) | bt (l:List D)
abbrev En:=List (Option Ent)
abbrev Sg:=L2.St
mutual
inductive Rep(F:Hp):V->D->Prop
 | non:Rep F .non .non
 | bl (b:Bool):Rep F (.bl b) (.bl b)
 | int (i:Int):Rep F (.int i) (.int i)
 | str (x:Str):Rep F (.str x) (.str x)
 | tup {a:af} {vs:List V} {ds:List D}:F a=aa (.tup vs)->Reps F vs ds->Rep F (.ref a) (.tup ds)
 | lst {a:af} {vs:List V} {ds:List D}:F a=aa (.lst vs)->Reps F vs ds->Rep F (.ref a) (.lst ds)
 | dic {a:af} {o:Obj} {ks:List Str} {vs:List V} {ds:List D}:F a=aa (.frz o (.dK ((ks.map bp).zip vs)))->ks.length=vs.length->Reps F vs ds->Rep F (.ref a) (.dic ks ds)
inductive Reps(F:Hp):List V->List D->Prop
 | nil:Reps F [] []
 | cons {v:V} {d:D} {vs:List V} {ds:List D}:Rep F v d->Reps F vs ds->Reps F (v :: vs) (d :: ds)
end
section
variable {F F':Hp}{v:V}{d:D}{vs ws:List V}{ds es:List D}
mutual
theorem Rep.mono(s:Same F F'):∀ {v:V} {d:D},Rep F v d->Rep F' v d
 | _,_,.non=>.non
 | _,_,.bl b=>.bl b
 | _,_,.int i=>.int i
 | _,_,.str x=>.str x
 | _,_,.tup e r=>.tup (s _ _ e) (Reps.mono s r)
 | _,_,.lst e r=>.lst (s _ _ e) (Reps.mono s r)
 | _,_,.dic e l r=>.dic (s _ _ e) l (Reps.mono s r)
theorem Reps.mono(s:Same F F'):∀ {vs:List V} {ds:List D},Reps F vs ds->Reps F' vs ds
 | _,_,.nil=>.nil
 | _,_,.cons h r=>.cons (Rep.mono s h) (Reps.mono s r)
end
theorem Reps.length:∀ {vs:List V} {ds:List D},Reps F vs ds->vs.length=ds.length
 | _,_,.nil=>rfl
 | _,_,.cons _ r=>by rw[aI,aI,Reps.length r]
theorem Reps.get:∀ {vs:List V} {ds:List D} {i:Nat} {d:D},Reps F vs ds->ds[i]? = aa d->∃ v,vs[i]? = aa v/\Rep F v d
 | _,_,_,_,.nil,e=>by simp at e
 | _,_,0,_,.cons h _,e=>by simp at e;subst e;exact⟨_,rfl,h⟩
 | _,_,i+1,d,.cons _ r,e=>by
  obtain⟨v,h1,h2⟩:=Reps.get (i:=i) (d:=d) r (by simpa using e)
  exact⟨v,by simpa using h1,h2⟩
theorem Reps.append:∀ {vs ws:List V} {ds es:List D},Reps F vs ds->Reps F ws es->Reps F (vs ++ ws) (ds ++ es)
 | _,_,_,_,.nil,s=>s
 | _,_,_,_,.cons h r,s=>.cons h (Reps.append r s)
theorem Reps.take:∀ {vs:List V} {ds:List D} (n:Nat),Reps F vs ds->Reps F (vs.take n) (ds.take n)
 | _,_,0,_=>.nil
 | _,_,_+1,.nil=>.nil
 | _,_,n+1,.cons h r=>.cons h (Reps.take n r)
theorem Reps.drop:∀ {vs:List V} {ds:List D} (n:Nat),Reps F vs ds->Reps F (vs.drop n) (ds.drop n)
 | _,_,0,r=>r
 | _,_,_+1,.nil=>.nil
 | _,_,n+1,.cons _ r=>Reps.drop n r
theorem Reps.set(h:Rep F v d):∀ {vs:List V} {ds:List D} (i:Nat),Reps F vs ds->Reps F (vs.set i v) (ds.set i d)
 | _,_,_,.nil=>.nil
 | _,_,0,.cons _ r=>.cons h r
 | _,_,i+1,.cons q r=>.cons q (Reps.set h i r)
theorem Reps.one(h:Rep F v d):Reps F [v] [d]:=.cons h .nil
theorem Reps.rev:∀ {vs:List V} {ds:List D},Reps F vs ds->Reps F vs.reverse ds.reverse
 | _,_,.nil=>.nil
 | _,_,.cons h r=>by rw[fC,fC];exact(Reps.rev r).append (.one h)
theorem Reps.ints(ns:List Int):Reps F (ns.map V.int) (ns.map D.int):=by
 induction ns with
 | nil=>exact .nil
 | cons n r ih=>exact .cons (.int n) ih
theorem Reps.dropLast(r:Reps F vs ds):Reps F vs.dropLast ds.dropLast:=by
 rw[iG,iG,r.length]
 exact r.take _
end
def isT:HO->Bool
 | .tup _=>true
 | _=>false
def zev(K:ah)(c:Str)(C:af):Prop:=aK K aB c=aa (aa (.ref C))
mutual
inductive TR(K:ah)(F H:Hp):V->OT->List af->Prop
 | val {v:V} {d:D}:Rep F v d->TR K F H v (.val d) []
 | lst {l:af} {vs:List V} {ds:List D}:H l=aa (.lst vs)->Reps F vs ds->TR K F H (.ref l) (.lst ds) [l]
 | ins {a dx C:af} {c:Str} {ns:List Str} {vs:List V} {os:List OT} {A:List af}:zev K c C->H a=aa (.ins C dx (ns.zip vs))->H dx=aa (.own a)->ns.length=vs.length->TRs K F H vs os A->TR K F H (.ref a) (.ins c ns os) (a :: dx :: A)
 | dic {l:af} {ks:List Str} {vs:List V} {ds:List D}:H l=aa (.dK ((ks.map bp).zip vs))->ks.length=vs.length->Reps F vs ds->TR K F H (.ref l) (.dic ks ds) [l]
 | dcT {l:af} {xs:List (List KN × af × V)} {ks:List (List KN)} {ds:List D}:H l=aa (dtO l xs)->ks=xs.map (·.1)->(∀ x ∈ xs,F x.2.1=aa (.tup (x.1.map kN)))->Reps F (xs.map (·.2.2)) ds->TR K F H (.ref l) (.dcT ks ds) [l]
inductive TRs(K:ah)(F H:Hp):List V->List OT->List af->Prop
 | nil:TRs K F H [] [] []
 | cons {v:V} {o:OT} {vs:List V} {os:List OT} {A A':List af}:TR K F H v o A->TRs K F H vs os A'->TRs K F H (v :: vs) (o :: os) (A ++ A')
end
section
variable {K:ah}{F H F' H':Hp}
mutual
theorem TR.move(s:Same F F'):∀ {v:V} {o:OT} {A:List af},TR K F H v o A->(∀ a ∈ A,H' a=H a)->TR K F' H' v o A
 | _,_,_,.val r,_=>.val (Rep.mono s r)
 | _,_,_,.lst e r,h=>.lst (by rw[h _ av];exact e) (r.mono s)
 | _,_,_,.ins hc e1 e2 hl t,h=>.ins hc (by rw[h _ av];exact e1) (by rw[h _ (al _ av)];exact e2) hl (TRs.move s t fun a ha=>h a (al _ (al _ ha)))
 | _,_,_,.dic e l r,h=>.dic (by rw[h _ av];exact e) l (r.mono s)
 | _,_,_,.dcT e l z r,h=>.dcT (by rw[h _ av];exact e) l (fun x hx=>s _ _ (z x hx)) (r.mono s)
theorem TRs.move(s:Same F F'):∀ {vs:List V} {os:List OT} {A:List af},TRs K F H vs os A->(∀ a ∈ A,H' a=H a)->TRs K F' H' vs os A
 | _,_,_,.nil,_=>.nil
 | _,_,_,.cons t ts,h=>.cons (TR.move s t fun a ha=>h a (bA _ ha)) (TRs.move s ts fun a ha=>h a (aA _ ha))
end
mutual
theorem TR.lies:∀ {v:V} {o:OT} {A:List af},TR K F H v o A->∀ a ∈ A,∃ u,H a=aa u/\isT u=false
 | _,_,_,.val _,a,h=>by cases h
 | _,_,_,.lst e _,a,h=>by cases h with
  | head=>exact⟨_,e,rfl⟩
  | tail _ h=>cases h
 | _,_,_,.ins _ e1 e2 _ t,a,h=>by cases h with
  | head=>exact⟨_,e1,rfl⟩
  | tail _ h=>cases h with
   | head=>exact⟨_,e2,rfl⟩
   | tail _ h=>exact TRs.lies t a h
 | _,_,_,.dic e _ _,a,h=>by cases h with
  | head=>exact⟨_,e,rfl⟩
  | tail _ h=>cases h
 | _,_,_,.dcT e _ _ _,a,h=>by cases h with
  | head=>exact⟨_,e,rfl⟩
  | tail _ h=>cases h
theorem TRs.lies:∀ {vs:List V} {os:List OT} {A:List af},TRs K F H vs os A->∀ a ∈ A,∃ u,H a=aa u/\isT u=false
 | _,_,_,.nil,a,h=>by cases h
 | _,_,_,.cons t ts,a,h=>by
  rcases bu.mp h with h | h
  ·exact TR.lies t a h
  ·exact TRs.lies ts a h
end
theorem zip_same{ns:List Str}:∀ {vs ws:List V},ns.length=vs.length->ns.length=ws.length->ns.zip vs=ns.zip ws->vs=ws:=by
 intro vs ws h1 h2 h
 have a:=congrArg (fun l=>l.map lY) h
 simp only[eE (dZ h1.symm),eE (dZ h2.symm)] at a
 exact a
mutual
theorem TR.det:∀ {v:V} {o:OT} {A:List af},TR K F H v o A->∀ {A':List af},TR K F H v o A'->A=A'
 | _,_,_,.val _,_,h=>by cases h;rfl
 | _,_,_,.lst _ _,_,h=>by cases h;rfl
 | _,_,_,.ins hc e1 e2 hl t,_,h=>by
  cases h with
  | ins hc' e1' e2' hl' t'=>
   have z:=bg (e1.symm.trans e1')
   injection z with z1 z2 z3
   subst z2
   have z4:=zip_same hl hl' z3
   subst z4
   rw[TRs.det t t']
 | _,_,_,.dic _ _ _,_,h=>by cases h;rfl
 | _,_,_,.dcT _ _ _ _,_,h=>by cases h;rfl
theorem TRs.det:∀ {vs:List V} {os:List OT} {A:List af},TRs K F H vs os A->∀ {A':List af},TRs K F H vs os A'->A=A'
 | _,_,_,.nil,_,h=>by cases h;rfl
 | _,_,_,.cons t ts,_,h=>by
  cases h with
  | cons t' ts'=>rw[TR.det t t',TRs.det ts ts']
end
end
structure Bd where
 hp:Hp
 pin:Option V
instance:Coe Bd Hp:=⟨Bd.hp⟩
structure Ex(F H F' H':Hp):Prop where
 ff:Same F F'
 fh:Same F' H'
 hh:Same H H'
 nw:∀ a o,H a=aa o->isT o=false->F' a=F a
section
variable {K:ah}{B:Bd}{F H F' H' F2 H2 H0:Hp}{v:V}{p:af}{o:HO}{e:Ent}{σ:Sg}{δ:En}
theorem Ex.refl(h:Same F H):Ex F H F H:=⟨Same.refl F,h,Same.refl H,fun _ _ _ _=>rfl⟩
theorem Ex.trans(a:Ex F H F' H')(b:Ex F' H' F2 H2):Ex F H F2 H2:=⟨a.ff.trans b.ff,b.fh,a.hh.trans b.hh,fun x o e t=>(b.nw x o (a.hh x o e) t).trans (a.nw x o e t)⟩
theorem same_upd2(h:Same F H)(hp:H p=ab):Same (upd F p o) (upd H p o):=fun b u e=>by
 by_cases hb:b=p
 ·subst hb;rw[zah] at e ⊢;exact e
 ·rw[zak hb] at e ⊢;exact h b u e
theorem Ex.alloc(h:Same F H)(hp:H p=ab):Ex F H (upd F p o) (upd H p o):=
 ⟨Same.alloc (h.free hp),same_upd2 h hp,Same.alloc hp,fun a u e _=>zak (zaD e hp)⟩
theorem Ex.lay(h:Same F H)(hp:H p=ab):Ex F H F (upd H p o):=⟨Same.refl F,h.trans (Same.alloc hp),Same.alloc hp,fun _ _ _ _=>rfl⟩
theorem Ex.freeze(x:Ex F H F' H')(h0:H p=ab)(h1:H' p=aa o)(h2:F' p=ab):Ex F H (upd F' p o) H':=by
 refine⟨x.ff.trans (Same.alloc h2),fun b u e=>?_,x.hh,fun a u e t=>?_⟩
 ·by_cases hb:b=p
  ·subst hb;rw[zah] at e;cases e;exact h1
  ·rw[zak hb] at e;exact x.fh b u e
 ·rw[zak (zaD e h0)];exact x.nw a u e t
def RepR(K:ah)(H0 F H:Hp)(v:V):Ent->Prop
 | .val d=>Rep F v d
 | .own ds=>∃ l vs,v=.ref l/\H0 l=ab/\H l=aa (.lst vs)/\Reps F vs ds/\F l=ab
 | .bor ds=>∃ l vs,v=.ref l/\SqL K H l vs/\Reps F vs ds
 | .vw ds=>∃ l vs,v=.ref l/\H l=aa (.lst vs)/\Reps F vs ds
 | .obj o=>(∃ l,v=.ref l)/\∃ A,TR K F H v o A/\A.Nodup/\∀ a ∈ A,F a=ab/\H0 a=ab
 | .vwt ks ds=>∃ A,TR K F H v (.dcT ks ds) A
 | .bt ds=>∃ l vs,v=.ref l/\SqT K H l vs/\Reps F vs ds
theorem _root_.L2.Same.seqT{K:ah}{H H':Hp}{l:af}{vs:List V}(s:Same H H')(h:SqT K H l vs):SqT K H' l vs:=by
 rcases h with (h | ⟨o,h⟩) | h
 ·exact .inl (.inl (s _ _ h))
 ·exact .inl (.inr ⟨o,s _ _ h⟩)
 ·exact .inr h
theorem TR.ext{o:OT}{A:List af}(r:TR K F H v o A)(x:Ex F H F' H'):TR K F' H' v o A/\∀ a ∈ A,F' a=F a:=
 ⟨r.move x.ff fun a ha=>let⟨_,h1,_⟩:=r.lies a ha;(x.hh _ _ h1).trans h1.symm,fun a ha=>let⟨_,h1,h2⟩:=r.lies a ha;x.nw _ _ h1 h2⟩
theorem RepR.ext(r:RepR K H0 F H v e)(x:Ex F H F' H'):RepR K H0 F' H' v e:=by
 cases e with
 | val d=>exact Rep.mono x.ff r
 | own ds=>
  obtain⟨l,vs,e,h0,h1,rs,h2⟩:=r
  exact⟨l,vs,e,h0,x.hh _ _ h1,rs.mono x.ff,(x.nw _ _ h1 rfl).trans h2⟩
 | bor ds=>obtain⟨l,vs,e,h,rs⟩:=r;exact⟨l,vs,e,x.hh.seq h,rs.mono x.ff⟩
 | vw ds=>obtain⟨l,vs,e,h,rs⟩:=r;exact⟨l,vs,e,x.hh _ _ h,rs.mono x.ff⟩
 | obj o=>obtain⟨z,A,t,n,h⟩:=r;exact⟨z,A,(t.ext x).1,n,fun a ha=>⟨((t.ext x).2 a ha).trans (h a ha).1,(h a ha).2⟩⟩
 | vwt ks ds=>obtain⟨A,t⟩:=r;exact⟨A,(t.ext x).1⟩
 | bt ds=>obtain⟨l,vs,e,h,rs⟩:=r;exact⟨l,vs,e,x.hh.seqT h,rs.mono x.ff⟩
theorem RepR.earlier(r:RepR K H F' H' v e)(s:Same H0 H):RepR K H0 F' H' v e:=by
 cases e with
 | own ds=>obtain⟨l,vs,e,h0,z⟩:=r;exact⟨l,vs,e,s.free h0,z⟩
 | obj o=>obtain⟨z,A,t,n,h⟩:=r;exact⟨z,A,t,n,fun a ha=>⟨(h a ha).1,s.free (h a ha).2⟩⟩
 | _=>exact r
def RepN(K:ah)(B F H:Hp)(v:V):Ent->Prop
 | .val d=>Rep F v d
 | .own ds=>∃ l vs,v=.ref l/\H l=aa (.lst vs)/\Reps F vs ds/\F l=ab/\B l=ab
 | .bor ds=>∃ l vs,v=.ref l/\SqL K B l vs/\Reps F vs ds
 | .vw ds=>∃ l vs,v=.ref l/\H l=aa (.lst vs)/\Reps F vs ds
 | .obj o=>∃ A,TR K F H v o A/\A.Nodup/\∀ a ∈ A,F a=ab/\B a=ab
 | .vwt ks ds=>∃ A,TR K F H v (.dcT ks ds) A
 | .bt ds=>∃ l vs,v=.ref l/\SqT K B l vs/\Reps F vs ds
def Ent.lk:Ent->Bool
 | .own _=>true
 | .vw _=>true
 | _=>false
def Occ(K:ah)(F H:Hp)(v:V):Ent->af->Prop
 | .own _,a=>v=.ref a
 | .vw _,a=>v=.ref a
 | .obj o,a=>∃ A,TR K F H v o A/\a ∈ A
 | .vwt ks ds,a=>∃ A,TR K F H v (.dcT ks ds) A/\a ∈ A
 | _,_=>False
def Ent.isO:Ent->Bool
 | .obj _=>true
 | _=>false
structure RS(K:ah)(B:Bd)(F H:Hp)(σ:Sg)(δ:En):Prop where
 fh:Same F H
 bh:Same B H
 len:σ.length=δ.length
 ent:∀ (i:Nat) (e:Ent),δ[i]? = aa (aa e)->∃ v,σ[i]? = aa (aa v)/\RepN K B F H v e
 ap:∀ (i j:Nat) (l:af) (ds:List D) (e:Ent),i ≠ j->δ[i]? = aa (aa (.own ds))->σ[i]? = aa (aa (.ref l))->δ[j]? = aa (aa e)->e.lk=true->σ[j]? ≠ aa (aa (.ref l))
 ao:∀ (i j:Nat) (e e':Ent) (v w:V) (a:af),i ≠ j->δ[i]? = aa (aa e)->σ[i]? = aa (aa v)->δ[j]? = aa (aa e')->σ[j]? = aa (aa w)->e.isO=true->Occ K F H v e a->Occ K F H w e' a->False
 pn:∀ (v:V) (o:OT),B.pin=aa v->δ[0]? = aa (aa (.obj o))->σ[0]? = aa (aa v)
theorem RepN.ext(r:RepN K B F H v e)(x:Ex F H F' H'):RepN K B F' H' v e:=by
 cases e with
 | val d=>exact Rep.mono x.ff r
 | own ds=>obtain⟨l,vs,e,h1,rs,h2,h3⟩:=r;exact⟨l,vs,e,x.hh _ _ h1,rs.mono x.ff,(x.nw _ _ h1 rfl).trans h2,h3⟩
 | bor ds=>obtain⟨l,vs,e,h,rs⟩:=r;exact⟨l,vs,e,h,rs.mono x.ff⟩
 | vw ds=>obtain⟨l,vs,e,h,rs⟩:=r;exact⟨l,vs,e,x.hh _ _ h,rs.mono x.ff⟩
 | obj o=>obtain⟨A,t,n,h⟩:=r;exact⟨A,(t.ext x).1,n,fun a ha=>⟨((t.ext x).2 a ha).trans (h a ha).1,(h a ha).2⟩⟩
 | vwt ks ds=>obtain⟨A,t⟩:=r;exact⟨A,(t.ext x).1⟩
 | bt ds=>obtain⟨l,vs,e,h,rs⟩:=r;exact⟨l,vs,e,h,rs.mono x.ff⟩
theorem Occ.back{a:af}(r:RepN K B F H v e)(m:∀ o A,(e=.obj o \/ ∃ ks ds,e=.vwt ks ds/\o=.dcT ks ds)->TR K F H v o A->TR K F' H' v o A)(h:Occ K F' H' v e a):Occ K F H v e a:=by
 cases e with
 | obj o=>
  obtain⟨A,t,_⟩:=r
  obtain⟨A',t',h'⟩:=h
  rw[t'.det (m o A (.inl rfl) t)] at h'
  exact⟨A,t,h'⟩
 | vwt ks ds=>
  obtain⟨A,t⟩:=r
  obtain⟨A',t',h'⟩:=h
  rw[t'.det (m _ A (.inr ⟨ks,ds,rfl,rfl⟩) t)] at h'
  exact⟨A,t,h'⟩
 | _=>exact h
theorem Occ.backX{a:af}(r:RepN K B F H v e)(x:Ex F H F' H')(h:Occ K F' H' v e a):Occ K F H v e a:=h.back r fun _ _ _ t=>(t.ext x).1
theorem RepN.lies{a:af}(r:RepN K B F H v e)(h:Occ K F H v e a):∃ u,H a=aa u:=by
 cases e with
 | own ds=>obtain⟨l,vs,e,h1,_⟩:=r;cases e;cases (show V.ref l=.ref a from h);exact⟨_,h1⟩
 | vw ds=>obtain⟨l,vs,e,h1,_⟩:=r;cases e;cases (show V.ref l=.ref a from h);exact⟨_,h1⟩
 | obj o=>obtain⟨A,t,h'⟩:=h;obtain⟨u,h1,_⟩:=t.lies a h';exact⟨u,h1⟩
 | vwt ks ds=>obtain⟨A,t,h'⟩:=h;obtain⟨u,h1,_⟩:=t.lies a h';exact⟨u,h1⟩
 | _=>exact h.elim
theorem RS.occ{i:Nat}{a:af}(s:RS K B F H σ δ)(h:δ[i]? = aa (aa e))(q:σ[i]? = aa (aa v))(o:Occ K F H v e a):∃ u,H a=aa u:=by
 obtain⟨w,h1,h2⟩:=s.ent i e h
 rw[q] at h1
 cases h1
 exact h2.lies o
theorem RS.at{i:Nat}(s:RS K B F H σ δ)(h:δ[i]? = aa (aa e))(q:σ[i]? = aa (aa v)):RepN K B F H v e:=by
 obtain⟨w,h1,h2⟩:=s.ent i e h
 rw[q] at h1
 cases h1
 exact h2
theorem RS.ext(s:RS K B F H σ δ)(x:Ex F H F' H'):RS K B F' H' σ δ:=
 ⟨x.fh,s.bh.trans x.hh,s.len,fun i e h=>let⟨v,h1,h2⟩:=s.ent i e h;⟨v,h1,h2.ext x⟩,s.ap,
  fun i j e e' v w a hij h1 h2 h3 h4 h5 h6 h7=>s.ao i j e e' v w a hij h1 h2 h3 h4 h5 (h6.backX (s.at h1 h2) x) (h7.backX (s.at h3 h4) x),s.pn⟩
def asV:Ent->Option D
 | .val d=>aa d
 | .own ds=>aa (.lst ds)
 | _=>ab
def asL:Ent->Option (List D)
 | .val (.lst ds)=>aa ds
 | .own ds=>aa ds
 | .bor ds=>aa ds
 | .vw ds=>aa ds
 | _=>ab
theorem RepR.toL{ds:List D}(r:RepR K H0 F H v e)(h:Same F H)(q:asL e=aa ds):∃ l vs,v=.ref l/\SqL K H l vs/\Reps F vs ds:=by
 cases e with
 | val d=>
  cases d with
  | lst es=>
   cases q
   cases (show Rep F v (.lst _) from r) with
   | lst e rs=>exact⟨_,_,rfl,SqL.of (h _ _ e),rs⟩
  | _=>cases q
 | own es=>cases q;obtain⟨l,vs,e,_,h1,rs,_⟩:=r;exact⟨l,vs,e,SqL.of h1,rs⟩
 | bor es=>cases q;exact r
 | vw es=>cases q;obtain⟨l,vs,e,h1,rs⟩:=r;exact⟨l,vs,e,SqL.of h1,rs⟩
 | obj o=>cases q
 | vwt ks ds=>cases q
 | bt ds=>cases q
def asLt:Ent->Option (List D)
 | .val (.lst ds)=>aa ds
 | .own ds=>aa ds
 | .vw ds=>aa ds
 | _=>ab
theorem RepR.toLt{ds:List D}(r:RepR K H0 F H v e)(h:Same F H)(q:asLt e=aa ds):∃ l vs,v=.ref l/\H l=aa (.lst vs)/\Reps F vs ds:=by
 cases e with
 | val d=>
  cases d with
  | lst es=>
   cases q
   cases (show Rep F v (.lst _) from r) with
   | lst e rs=>exact⟨_,_,rfl,h _ _ e,rs⟩
  | _=>cases q
 | own es=>cases q;obtain⟨l,vs,e,_,h1,rs,_⟩:=r;exact⟨l,vs,e,h1,rs⟩
 | bor es=>cases q
 | vw es=>cases q;exact r
 | obj o=>cases q
 | vwt ks ds=>cases q
 | bt ds=>cases q
end
end L3

namespace L3
open PySem PySem.Spec PyProof.Rows L2
abbrev FE:=En->Option Ent
abbrev FT:=En->Option Bool
abbrev FA:=En->Option (List Ent)
inductive RepRs(K:ah)(H0 F H:Hp):List V->List Ent->Prop
 | nil:RepRs K H0 F H [] []
 | cons {v:V} {e:Ent} {vs:List V} {es:List Ent}:RepR K H0 F H v e->RepRs K H0 F H vs es->RepRs K H0 F H (v :: vs) (e :: es)
section
variable {K:ah}{B:Bd}{F H F' H' F2 H2 H0:Hp}
theorem RepRs.earlier(s:Same H0 H):∀ {vs:List V} {es:List Ent},RepRs K H F' H' vs es->RepRs K H0 F' H' vs es
 | _,_,.nil=>.nil
 | _,_,.cons r t=>.cons (r.earlier s) (RepRs.earlier s t)
theorem RepRs.length:∀ {vs:List V} {es:List Ent},RepRs K H0 F H vs es->vs.length=es.length
 | _,_,.nil=>rfl
 | _,_,.cons _ t=>by rw[aI,aI,RepRs.length t]
def zew:List Ent->Option (List D)
 | []=>aa []
 | e :: es=>(asV e).bind fun d=>(zew es).map fun ds=>d :: ds
theorem RepR.frz{v:V}{e:Ent}{d:D}(x:Ex F H F' H')(s:Same F2 F')(r:RepR K H F2 H' v e)(q:asV e=aa d):∃ F3,Ex F H F3 H'/\Same F' F3/\Rep F3 v d:=by
 cases e with
 | val d'=>cases q;exact⟨F',x,Same.refl _,Rep.mono s r⟩
 | own ds=>
  cases q
  obtain⟨l,vs,e,h0,h1,rs,h2⟩:=r
  subst e
  cases z:F' l with
  | none=>exact⟨upd F' l (.lst vs),x.freeze h0 h1 z,Same.alloc z,.lst zah (rs.mono (s.trans (Same.alloc z)))⟩
  | some o=>
   have:=x.fh _ _ z
   rw[h1] at this
   cases this
   exact⟨F',x,Same.refl _,.lst z (rs.mono s)⟩
 | _=>cases q
theorem RepRs.frz:∀ {vs:List V} {es:List Ent} {ds:List D} {F':Hp},Ex F H F' H'->Same F2 F'->RepRs K H F2 H' vs es->zew es=aa ds->∃ F3,Ex F H F3 H'/\Same F' F3/\Reps F3 vs ds
 | _,_,_,F',x,_,.nil,q=>by cases q;exact⟨F',x,Same.refl _,.nil⟩
 | _,e :: es,ds,F',x,s,.cons r t,q=>by
  simp only[zew] at q
  cases h1:asV e with
  | none=>rw[h1] at q;cases q
  | some d=>
   cases h2:zew es with
   | none=>rw[h1,h2] at q;cases q
   | some ds'=>
    rw[h1,h2] at q
    cases q
    obtain⟨F3,x3,s3,r3⟩:=r.frz x s h1
    obtain⟨F4,x4,s4,r4⟩:=RepRs.frz x3 (s.trans s3) t h2
    exact⟨F4,x4,s3.trans s4,.cons (Rep.mono s4 r3) r4⟩
end
def SemE(K:ah)(t:TE)(f:FE):Prop:=∀ (B:Bd) (F H:Hp) (σ:Sg) (δ:En) (r:Ent) (Q:VK),RS K B F H σ δ->f δ=aa r->(∀ v F' H',Ex F H F' H'->RepR K H F' H' v r->Q v H')->t σ H Q
def SemT(K:ah)(t:TT)(f:FT):Prop:=∀ (B:Bd) (F H:Hp) (σ:Sg) (δ:En) (b:Bool) (Q:Bool->Hp->Prop),RS K B F H σ δ->f δ=aa b->(∀ F' H',Ex F H F' H'->Q b H')->t σ H Q
def SemA(K:ah)(t:TA)(f:FA):Prop:=∀ (B:Bd) (F H:Hp) (σ:Sg) (δ:En) (rs:List Ent) (Q:List V->Hp->Prop),RS K B F H σ δ->f δ=aa rs->(∀ vs F' H',Ex F H F' H'->RepRs K H F' H' vs rs->Q vs H')->t σ H Q
structure VE(X:Cx)(e:Expr)(f:FE):Prop where
 h:∃ t,WE X e t/\SemE X.K t f
structure VT(X:Cx)(e:Expr)(f:FT):Prop where
 h:∃ t,WT X e t/\SemT X.K t f
structure VW(X:Cx)(e:Expr)(f:FT):Prop where
 h:∃ t,WW X e t/\SemT X.K t f
structure VA(X:Cx)(es:List Expr)(f:FA):Prop where
 h:∃ t,WA X es t/\SemA X.K t f
structure VTs(X:Cx)(es:List Expr)(f:FT):Prop where
 h:∃ t,WTs X es t/\SemT X.K t f
def zab(i:Nat):FE:=fun δ=>match δ[i]? with
 | some (aa (.own ds))=>aa (.vw ds)
 | some (aa (.obj _))=>ab
 | some (aa e)=>aa e
 | _=>ab
def eC(d:D):FE:=fun _=>aa (.val d)
def ex1(g:Ent->Option Ent)(fa:FE):FE:=fun δ=>(fa δ).bind g
def ex2(g:Ent->Ent->Option Ent)(fa fb:FE):FE:=fun δ=>(fa δ).bind fun x=>(fb δ).bind fun y=>g x y
def bOf:Ent->Option Bool
 | .val (.bl b)=>aa b
 | _=>ab
def eAnd(fa fb:FE):FE:=fun δ=>((fa δ).bind bOf).bind fun b=>if b=true then fb δ else aa (.val (.bl false))
def gNot:Ent->Option Ent:=fun e=>(bOf e).map fun b=>.val (.bl (!b))
def tOf(fe:FE):FT:=fun δ=>(fe δ).bind bOf
def fAnd(ft fu:FT):FT:=fun δ=>(ft δ).bind fun b=>if b=true then fu δ else aa false
def fOr(ft fu:FT):FT:=fun δ=>(ft δ).bind fun b=>if b=true then aa true else fu δ
def fNot(ft:FT):FT:=fun δ=>(ft δ).map fun b=>!b
def zcK:FT:=fun _=>aa true
def eIf(ft:FT)(fa fb:FE):FE:=fun δ=>(ft δ).bind fun b=>if b=true then fa δ else fb δ
def zae:FA:=fun _=>aa []
def zaa(fe:FE)(fa:FA):FA:=fun δ=>(fe δ).bind fun x=>(fa δ).map fun xs=>x :: xs
def zeA(fa:FA):FE:=fun δ=>(fa δ).bind fun rs=>if rs.length<=1000 then (zew rs).map fun ds=>.val (.tup ds) else ab
def zcg(fa:FA):FE:=fun δ=>(fa δ).bind fun rs=>if rs.length<=1000 then (zew rs).map fun ds=>.own ds else ab
def SemR1(K:ah)(r:V->Hp->VK->Prop)(g:Ent->Option Ent):Prop:=∀ (H0 F H:Hp) (x:V) (e res:Ent) (Q:VK),Same F H->Same H0 H->RepR K H0 F H x e->g e=aa res ->
 (∀ v F' H',Ex F H F' H'->RepR K H0 F' H' v res->Q v H')->r x H Q
def ziA(K:ah)(r:R2)(g:Ent->Ent->Option Ent):Prop:=∀ (H0 F H:Hp) (x y:V) (e e' res:Ent) (Q:VK),Same F H->Same H0 H->RepR K H0 F H x e->RepR K H0 F H y e'->g e e'=aa res ->
 (∀ v F' H',Ex F H F' H'->RepR K H0 F' H' v res->Q v H')->r x y H Q
def SemC(K:ah)(r:List V->Hp->VK->Prop)(g:List Ent->Option Ent):Prop:=∀ (H0 F H:Hp) (vs:List V) (es:List Ent) (res:Ent) (Q:VK),Same F H->Same H0 H->RepRs K H0 F H vs es->g es=aa res ->
 (∀ v F' H',Ex F H F' H'->RepR K H0 F' H' v res->Q v H')->r vs H Q
theorem bind_some{α β:Type}{o:Option α}{f:α->Option β}{b:β}(h:o.bind f=aa b):∃ a,o=aa a/\f a=aa b:=by
 cases o with
 | none=>cases h
 | some a=>exact⟨a,rfl,h⟩
theorem map_some{α β:Type}{o:Option α}{f:α->β}{b:β}(h:o.map f=aa b):∃ a,o=aa a/\f a=b:=by
 cases o with
 | none=>cases h
 | some a=>exact⟨a,rfl,bg h⟩
noncomputable def gif{α:Type}(c:Prop)(a:Option α):Option α:=@ite _ c (k7 c) a ab
theorem zaf{α:Type}(a:Option α):gif True a=a:=by unfold gif;exact if_pos trivial
theorem gif_pos{α:Type}{c:Prop}{a:Option α}(h:c):gif c a=a:=by unfold gif;exact if_pos h
theorem za0{α:Type}{c:Prop}{o:Option α}{b:α}(h:gif c o=aa b):c/\o=aa b:=by
 unfold gif at h
 by_cases hc:c
 ·rw[if_pos hc] at h;exact⟨hc,h⟩
 ·rw[if_neg hc] at h;cases h
def sz(n:Nat):Prop:=n<=1000000
theorem zaY{n:Nat}(h:n<=1000000):sz n=True:=eq_true h
def OpD(X:Cx)(f:ae->ae->Sem ae)(g:Ent->Ent->Option Ent):Prop:=∃ r,OpR X f r/\ziA X.K r g
def UnD(X:Cx)(f:ae->Sem ae)(g:Ent->Option Ent):Prop:=∃ r,UnR X f r/\SemR1 X.K r g
def zet(X:Cx)(f:ae)(g:List Ent->Option Ent):Prop:=∃ r,zdt X f r/\SemC X.K r g
def IxD(X:Cx)(g:Ent->Ent->Option Ent):Prop:=∃ r,IxR X r/\ziA X.K r g
theorem zfU{e:Ent}{b:Bool}(h:bOf e=aa b):e=.val (.bl b):=by
 cases e with
 | val d=>cases d <;> first | (cases h;rfl) | (cases h)
 | _=>cases h
theorem zgE{F:Hp}{v:V}{b:Bool}(h:Rep F v (.bl b)):v=.bl b:=by cases h;rfl
theorem za9{F:Hp}{v:V}{i:Int}(h:Rep F v (.int i)):v=.int i:=by cases h;rfl
theorem zcf{F:Hp}{v:V}{i:Str}(h:Rep F v (.str i)):v=.str i:=by cases h;rfl
theorem zhd{F:Hp}{v:V}(h:Rep F v .non):v=.non:=by cases h;rfl
section
variable {X:Cx}{a b c e:Expr}{es rest:List Expr}{pos p:Pos}{fa fb fc:FE}{ft fu:FT}{fs:FA}{x:Str}
theorem vv(i:Nat)(hN:X.N[i]? = aa x:=by rfl)(hv:Vis X.env.scope x:=by first | exact az rfl | exact br (az rfl) | exact br (br rfl))(hd:(x == ("__debug__" : Str))=false:=by decide)
  (hcd:(x == ("__classdict__" : Str))=false:=by decide):VE X (.Name x pos) (zab i):=by
 refine⟨_,wv i hN hv hd hcd,fun B F H σ δ r Q s q k=>?_⟩
 unfold zab at q
 split at q
 ·rename_i ds e
  cases q
  obtain⟨v,h1,l,vs,e,h2,h3,_⟩:=s.ent i _ e
  exact⟨v,h1,k v F H (Ex.refl s.fh) ⟨l,vs,e,h2,h3⟩⟩
 ·cases q
 ·rename_i ee hne hno e
  cases q
  obtain⟨v,h1,h2⟩:=s.ent i _ e
  refine⟨v,h1,k v F H (Ex.refl s.fh) ?_⟩
  cases r with
  | val d=>exact h2
  | own ds=>exact(hne ds rfl).elim
  | bor ds=>obtain⟨l,vs,e,h,rs⟩:=h2;exact⟨l,vs,e,s.bh.seq h,rs⟩
  | vw ds=>exact h2
  | obj o=>exact(hno o rfl).elim
  | vwt ks ds=>exact h2
  | bt ds=>obtain⟨l,vs,e,h,rs⟩:=h2;exact⟨l,vs,e,s.bh.seqT h,rs⟩
 ·cases q
theorem SemE.cst{K:ah}{v:V}{d:D}(h:∀ F,Rep F v d):SemE K (tC v) (eC d):=fun B F H σ δ r Q s q k=>by
 cases q
 exact k v F H (Ex.refl s.fh) (h F)
theorem zap{i:Int}{j:Nat}:VE X (.Constant (.int i) j pos) (eC (.int i)):=⟨_,wint,.cst fun _=>.int i⟩
theorem vbl{i:Bool}{j:Nat}:VE X (.Constant (.bool i) j pos) (eC (.bl i)):=⟨_,wbl,.cst fun _=>.bl i⟩
theorem vnon{j:Nat}:VE X (.Constant .none j pos) (eC .non):=⟨_,wnon,.cst fun _=>.non⟩
theorem vstr{i:Str}{j:Nat}:VE X (.Constant (.str i) j pos) (eC (.str i)):=⟨_,wstr,.cst fun _=>.str i⟩
theorem vglI{i:Int}(hg:Gl X x)(h:∃ u,X.mg x=aa u/\RelV (.int i) u)(hd:(x == ("__debug__" : Str))=false:=by decide):VE X (.Name x pos) (eC (.int i)):=⟨_,wgl hg h hd,.cst fun _=>.int i⟩
theorem SemE.op{K:ah}{r:R2}{ta tb:TE}{g:Ent->Ent->Option Ent}(hr:ziA K r g)(ha:SemE K ta fa)(hb:SemE K tb fb):SemE K (tOp r ta tb) (ex2 g fa fb):=fun B F H σ δ res Q s q k=>by
 obtain⟨ex1,q1,q⟩:=bind_some q
 obtain⟨ex2,q2,q⟩:=bind_some q
 refine ha B F H σ δ ex1 _ s q1 fun v F1 H1 x1 r1=>?_
 refine hb B F1 H1 σ δ ex2 _ (s.ext x1) q2 fun w F2 H2 x2 r2=>?_
 exact hr H F2 H2 v w ex1 ex2 res Q x2.fh (x1.trans x2).hh (r1.ext x2) (r2.earlier x1.hh) q fun v' F' H' x3 r3=>k v' F' H' ((x1.trans x2).trans x3) r3
theorem vop{op:Operator}{g:Ent->Ent->Option Ent}(ho:OpD X (binaryOp op) g)(ha:VE X a fa)(hb:VE X b fb):VE X (.BinOp a op b pos) (ex2 g fa fb):=
 let⟨_,wa,sa⟩:=ha.h;let⟨_,wb,sb⟩:=hb.h;let⟨_,h1,h2⟩:=ho;⟨_,wop h1 wa wb,.op h2 sa sb⟩
theorem vcmp{op:CmpOp}{g:Ent->Ent->Option Ent}(ho:OpD X (bI op) g)(ha:VE X a fa)(hb:VE X b fb)(hm:behindInMarks op b=false):VE X (.Compare a [op] [b] pos) (ex2 g fa fb):=
 let⟨_,wa,sa⟩:=ha.h;let⟨_,wb,sb⟩:=hb.h;let⟨_,h1,h2⟩:=ho;⟨_,wcmp h1 wa wb hm,.op h2 sa sb⟩
theorem SemE.test{K:ah}{ta:TE}(ha:SemE K ta fa):SemT K (tB ta) (tOf fa):=fun B F H σ δ b Q s q k=>by
 obtain⟨e,q1,q⟩:=bind_some q
 cases zfU q
 refine ha B F H σ δ _ _ s q1 fun v F1 H1 x1 r1=>?_
 exact⟨b,zgE r1,k F1 H1 x1⟩
theorem tcm{op:CmpOp}{g:Ent->Ent->Option Ent}(ho:OpD X (bI op) g)(ha:VE X a fa)(hb:VE X b fb)(hm:behindInMarks op b=false):VT X (.Compare a [op] [b] pos) (tOf (ex2 g fa fb)):=
 let⟨_,wa,sa⟩:=ha.h;let⟨_,wb,sb⟩:=hb.h;let⟨_,h1,h2⟩:=ho;⟨_,tcmp h1 wa wb hm,SemE.test (.op h2 sa sb)⟩
theorem tva(h:VE X e fa)(he:∀ whole,isTrue e X.env whole=(do let v <- whole;standAt e.pos;holding [v] (truthy v)):=by intro _;rfl):VT X e (tOf fa):=
 let⟨_,wa,sa⟩:=h.h;⟨_,tval wa he,SemE.test sa⟩
theorem vun{op:UnaryOp}{g:Ent->Option Ent}(ho:UnD X (unaryOp op) g)(ha:VE X a fa):VE X (.UnaryOp op a pos) (ex1 g fa):=by
 obtain⟨ta,wa,sa⟩:=ha.h
 obtain⟨rr,ho1,ho2⟩:=ho
 refine⟨_,wun ho1 wa,fun B F H σ δ res Q s q k=>?_⟩
 obtain⟨ex1,q1,q⟩:=bind_some q
 exact sa B F H σ δ ex1 _ s q1 fun v F1 H1 x1 r1=>ho2 H F1 H1 v ex1 res Q x1.fh x1.hh r1 q fun v' F' H' x2 r2=>k v' F' H' (x1.trans x2) r2
theorem vone{op:BoolOp}(h:VE X a fa):VE X (.BoolOp op [a] pos) fa:=let⟨_,wa,sa⟩:=h.h;⟨_,wone wa,sa⟩
theorem vand(ha:VE X a fa)(hb:VE X (.BoolOp .And (b :: rest) pos) fb):VE X (.BoolOp .And (a :: b :: rest) pos) (eAnd fa fb):=by
 obtain⟨ta,wa,sa⟩:=ha.h
 obtain⟨tb,wb,sb⟩:=hb.h
 refine⟨_,wand wa wb,fun B F H σ δ res Q s q k=>?_⟩
 obtain⟨bb,q1,q⟩:=bind_some q
 obtain⟨eb,q1,q2⟩:=bind_some q1
 cases zfU q2
 refine sa B F H σ δ _ _ s q1 fun v F1 H1 x1 r1=>⟨bb,zgE r1,?_⟩
 cases bb with
 | true=>exact iteT (sb B F1 H1 σ δ res Q (s.ext x1) q fun v' F' H' x2 r2=>k v' F' H' (x1.trans x2) (r2.earlier x1.hh))
 | false=>cases q;exact iteF (k _ F1 H1 x1 (.bl false))
theorem vnot(ha:VE X a fa):VE X (.UnaryOp .Not a pos) (ex1 gNot fa):=by
 obtain⟨ta,wa,sa⟩:=ha.h
 refine⟨_,wnotV wa,fun B F H σ δ res Q s q k=>?_⟩
 obtain⟨ex1,q1,q⟩:=bind_some q
 obtain⟨bb,q2,q⟩:=map_some q
 cases zfU q2
 cases q
 exact sa B F H σ δ _ _ s q1 fun v F1 H1 x1 r1=>⟨bb,zgE r1,k _ F1 H1 x1 (.bl _)⟩
theorem tan1(ha:VT X a ft):VW X (.BoolOp .And [a] pos) ft:=let⟨_,wa,sa⟩:=ha.h;⟨_,tand1 wa,sa⟩
theorem tor1'(ha:VT X a ft):VW X (.BoolOp .Or [a] pos) ft:=let⟨_,wa,sa⟩:=ha.h;⟨_,tor1 wa,sa⟩
theorem tan(ha:VT X a ft)(hb:VW X (.BoolOp .And (b :: rest) pos) fu):VW X (.BoolOp .And (a :: b :: rest) pos) (fAnd ft fu):=by
 obtain⟨ta,wa,sa⟩:=ha.h
 obtain⟨tb,wb,sb⟩:=hb.h
 refine⟨_,tand wa wb,fun B F H σ δ res Q s q k=>?_⟩
 obtain⟨bb,q1,q⟩:=bind_some q
 refine sa B F H σ δ bb _ s q1 fun F1 H1 x1=>?_
 cases bb with
 | true=>exact iteT (sb B F1 H1 σ δ res Q (s.ext x1) q fun F' H' x2=>k F' H' (x1.trans x2))
 | false=>cases q;exact iteF (k F1 H1 x1)
theorem tor'(ha:VT X a ft)(hb:VW X (.BoolOp .Or (b :: rest) pos) fu):VW X (.BoolOp .Or (a :: b :: rest) pos) (fOr ft fu):=by
 obtain⟨ta,wa,sa⟩:=ha.h
 obtain⟨tb,wb,sb⟩:=hb.h
 refine⟨_,tor wa wb,fun B F H σ δ res Q s q k=>?_⟩
 obtain⟨bb,q1,q⟩:=bind_some q
 refine sa B F H σ δ bb _ s q1 fun F1 H1 x1=>?_
 cases bb with
 | false=>exact iteF (sb B F1 H1 σ δ res Q (s.ext x1) q fun F' H' x2=>k F' H' (x1.trans x2))
 | true=>cases q;exact iteT (k F1 H1 x1)
theorem tww(h:VW X a ft):VT X a ft:=let⟨_,wa,sa⟩:=h.h;⟨_,tw wa,sa⟩
theorem tnt(ha:VT X a ft):VT X (.UnaryOp .Not a pos) (fNot ft):=by
 obtain⟨ta,wa,sa⟩:=ha.h
 refine⟨_,tnot wa,fun B F H σ δ res Q s q k=>?_⟩
 obtain⟨bb,q1,q⟩:=map_some q
 cases q
 exact sa B F H σ δ bb _ s q1 fun F1 H1 x1=>k F1 H1 x1
theorem vif(hc:VT X c ft)(ha:VE X a fa)(hb:VE X b fb):VE X (.IfExp c a b pos) (eIf ft fa fb):=by
 obtain⟨tc,wc,sc⟩:=hc.h
 obtain⟨ta,wa,sa⟩:=ha.h
 obtain⟨tb,wb,sb⟩:=hb.h
 refine⟨_,wif wc wa wb,fun B F H σ δ res Q s q k=>?_⟩
 obtain⟨bb,q1,q⟩:=bind_some q
 refine sc B F H σ δ bb _ s q1 fun F1 H1 x1=>?_
 cases bb with
 | true=>exact iteT (sa B F1 H1 σ δ res Q (s.ext x1) q fun v' F' H' x2 r2=>k v' F' H' (x1.trans x2) (r2.earlier x1.hh))
 | false=>exact iteF (sb B F1 H1 σ δ res Q (s.ext x1) q fun v' F' H' x2 r2=>k v' F' H' (x1.trans x2) (r2.earlier x1.hh))
theorem if0:VTs X [] zcK:=⟨_,ifs0,fun B F H σ δ b Q s q k=>by cases q;exact k F H (Ex.refl s.fh)⟩
theorem if1(h:VT X c ft):VTs X [c] ft:=let⟨_,wc,sc⟩:=h.h;⟨_,ifs1 wc,sc⟩
theorem zan:VA X [] zae:=⟨_,wnil,fun B F H σ δ rs Q s q k=>by cases q;exact k [] F H (Ex.refl s.fh) .nil⟩
theorem zac(ha:VE X e fa)(hr:VA X es fs)(h:zao e=true:=by rfl):VA X (e :: es) (zaa fa fs):=by
 obtain⟨ta,wa,sa⟩:=ha.h
 obtain⟨tb,wb,sb⟩:=hr.h
 refine⟨_,wac wa wb h,fun B F H σ δ rs Q s q k=>?_⟩
 obtain⟨ex1,q1,q⟩:=bind_some q
 obtain⟨es',q2,q⟩:=map_some q
 cases q
 refine sa B F H σ δ ex1 _ s q1 fun v F1 H1 x1 r1=>?_
 exact sb B F1 H1 σ δ es' _ (s.ext x1) q2 fun vs F2 H2 x2 r2=>k _ F2 H2 (x1.trans x2) (.cons (r1.ext x2) (r2.earlier x1.hh))
theorem zhL{n:Nat}(h:n<=1000):n<=be:=bH (small1000 h)
theorem vtup{x1:Nat}(h:VA X es fs):VE X (.Tuple es x1 pos) (zeA fs):=by
 obtain⟨t,w,sm⟩:=h.h
 refine⟨_,wtup w,fun B F H σ δ res Q s q k=>?_⟩
 obtain⟨rs,q1,q⟩:=bind_some q
 split at q
 ·rename_i hl
  obtain⟨ds,q2,q⟩:=map_some q
  cases q
  refine sm B F H σ δ rs _ s q1 fun vs F1 H1 x1 r1=>⟨by rw[r1.length];exact zhL hl,fun p hp=>?_⟩
  obtain⟨F2,x2,_,r2⟩:=RepRs.frz x1 (Same.refl _) r1 q2
  exact k _ _ _ (x2.trans (Ex.alloc x2.fh hp)) (.tup zah (r2.mono (Same.alloc (x2.fh.free hp))))
 ·cases q
theorem zfm(h:VA X es fs):VE X (.List es pos) (zcg fs):=by
 obtain⟨t,w,sm⟩:=h.h
 refine⟨_,wlst w,fun B F H σ δ res Q s q k=>?_⟩
 obtain⟨rs,q1,q⟩:=bind_some q
 split at q
 ·rename_i hl
  obtain⟨ds,q2,q⟩:=map_some q
  cases q
  refine sm B F H σ δ rs _ s q1 fun vs F1 H1 x1 r1=>⟨by rw[r1.length];exact zhL hl,fun p hp=>?_⟩
  obtain⟨F2,x2,_,r2⟩:=RepRs.frz x1 (Same.refl _) r1 q2
  exact k _ _ _ (x2.trans (Ex.lay x2.fh hp)) ⟨p,vs,rfl,x2.hh.free hp,zah,r2,x2.fh.free hp⟩
 ·cases q
theorem vix{g:Ent->Ent->Option Ent}(hr:IxD X g)(ha:VE X a fa)(hb:VE X b fb)(hs:zhf b):VE X (.Subscript a b pos) (ex2 g fa fb):=
 let⟨_,wa,sa⟩:=ha.h;let⟨_,wb,sb⟩:=hb.h;let⟨_,h1,h2⟩:=hr;⟨_,wix h1 wa wb hs,.op h2 sa sb⟩
def eCB(g:List Ent->Option Ent)(fs:FA):FE:=fun δ=>(fs δ).bind g
theorem SemE.cb{K:ah}{t:TA}{q:List V->Hp->VK->Prop}{g:List Ent->Option Ent}(hc:SemC K q g)(ha:SemA K t fs):SemE K (tCB q t) (eCB g fs):=fun B F H σ δ res Q s q k=>by
 obtain⟨rs,q1,q⟩:=bind_some q
 exact ha B F H σ δ rs _ s q1 fun vs F1 H1 x1 r1=>hc H F1 H1 vs rs res Q x1.fh x1.hh r1 q fun v' F' H' x2 r2=>k v' F' H' (x1.trans x2) r2
theorem vcb{id:String}{g:List Ent->Option Ent}(hc:zet X (.builtin id) g)(hg:Gl X x)(hm:X.mg x=ab)(hv:a9 x=aa (.builtin id))(ha:VA X (e :: es) fs)(hn:x ≠ "__name__" :=by decide)(hdb:(x == ("__debug__" : Str))=false:=by decide)
  (h1:zao e=true:=by rfl) (h2:es.all zao=true:=by rfl):VE X (.Call (.Name x p) (e :: es) [] pos) (eCB g fs):=
 let⟨_,wa,sa⟩:=ha.h;let⟨_,h3,h4⟩:=hc;⟨_,wcb h3 hg hm hv wa hn hdb h1 h2,.cb h4 sa⟩
theorem vct{T:String}{g:List Ent->Option Ent}(hc:zet X (.type T) g)(hg:Gl X x)(hm:X.mg x=ab)(hv:a9 x=aa (.type T))(ha:VA X (e :: es) fs)(hn:x ≠ "__name__" :=by decide)(hdb:(x == ("__debug__" : Str))=false:=by decide)
  (h1:zao e=true:=by rfl) (h2:es.all zao=true:=by rfl):VE X (.Call (.Name x p) (e :: es) [] pos) (eCB g fs):=
 let⟨_,wa,sa⟩:=ha.h;let⟨_,h3,h4⟩:=hc;⟨_,wct h3 hg hm hv wa hn hdb h1 h2,.cb h4 sa⟩
end
end L3

namespace L3
open PySem PySem.Spec PyProof.Rows L2
inductive Out where
 | nx (δ:En) | rt (r:Ent) (δ:En) | bk (δ:En) | ct (δ:En)
abbrev FS:=En->Option Out
structure FX(B F F':Hp):Prop where
 ff:Same F F'
 nw:∀ a o,B a=aa o->isT o=false->F' a=F a
section
variable {K:ah}{B:Bd}{F H F' H' F2 H2 H0:Hp}{σ:Sg}{δ:En}{v:V}{d:D}{e:Ent}{l:af}{vs:List V}{ds:List D}{DD:Ends}{out:Out}
theorem FX.refl:FX B F F:=⟨Same.refl F,fun _ _ _ _=>rfl⟩
theorem FX.trans(a:FX B F F')(b:FX B F' F2):FX B F F2:=⟨a.ff.trans b.ff,fun x o e t=>(b.nw x o e t).trans (a.nw x o e t)⟩
theorem FX.of(x:Ex F H F' H')(s:Same B H):FX B F F':=⟨x.ff,fun a o e t=>x.nw a o (s _ _ e) t⟩
def EndOk(K:ah)(B:Bd)(F:Hp)(DD:Ends):Out->Prop
 | .nx δ'=>∀ σ' F' H',RS K B F' H' σ' δ'->FX B F F'->DD.nx σ' H'
 | .rt r δ'=>∀ v σ' F' H',RS K B F' H' σ' δ'->FX B F F'->RepR K B F' H' v r->DD.rt v H'
 | .bk δ'=>∀ σ' F' H',RS K B F' H' σ' δ'->FX B F F'->DD.bk σ' H'
 | .ct δ'=>∀ σ' F' H',RS K B F' H' σ' δ'->FX B F F'->DD.ct σ' H'
theorem EndOk.mono(h:EndOk K B F DD out)(x:FX B F F'):EndOk K B F' DD out:=by
 cases out with
 | nx δ'=>exact fun σ' F2 H2 s y=>h σ' F2 H2 s (x.trans y)
 | rt r δ'=>exact fun v σ' F2 H2 s y z=>h v σ' F2 H2 s (x.trans y) z
 | bk δ'=>exact fun σ' F2 H2 s y=>h σ' F2 H2 s (x.trans y)
 | ct δ'=>exact fun σ' F2 H2 s y=>h σ' F2 H2 s (x.trans y)
theorem RS.put(s:RS K B F H σ δ)(i:Nat)(r:RepN K B F H v e)(hne:e.lk=true->∀ j e',j ≠ i->δ[j]? = aa (aa e')->e'.lk=true->∀ l,v=.ref l->σ[j]? ≠ aa (aa (.ref l)))
  (hpn:e.isO=true->0<i \/ (∀ p,B.pin ≠ aa p) \/ B.pin=aa v) (hno:∀ j e' w a,j ≠ i->δ[j]? = aa (aa e')->σ[j]? = aa (aa w)->(e.isO=true \/ e'.isO=true)->Occ K F H v e a->Occ K F H w e' a->False) :
  RS K B F H (σ.set i (aa v)) (δ.set i (aa e)):=by
 have hl:=s.len
 refine⟨s.fh,s.bh,by simp[hl],fun j e' h=>?_,fun a b l ds e' hab h1 h2 h3 h4 h5=>?_,fun a b e1 e2 v1 v2 ad hab h1 h2 h3 h4 h5 h6 h7=>?_,fun w o hw ho=>?_⟩
 ·rw[bo] at h ⊢
  by_cases hij:i=j
  ·subst hij
   rw[if_pos rfl] at h ⊢
   by_cases hi:i<δ.length
   ·rw[if_pos hi] at h
    cases h
    exact⟨v,by rw[if_pos (by lia)],r⟩
   ·rw[if_neg hi] at h;cases h
  ·rw[if_neg hij] at h ⊢
   exact s.ent j e' h
 ·rw[bo] at h1 h2 h3 h5
  by_cases hia:i=a
  ·subst hia
   rw[if_pos rfl] at h1 h2
   rw[if_neg hab] at h3 h5
   by_cases hi:i<δ.length
   ·rw[if_pos hi] at h1
    rw[if_pos (by lia)] at h2
    cases h1
    cases h2
    exact hne rfl b e' (cx hab) h3 h4 l rfl h5
   ·rw[if_neg hi] at h1;cases h1
  ·rw[if_neg hia] at h1 h2
   by_cases hib:i=b
   ·subst hib
    rw[if_pos rfl] at h3 h5
    by_cases hi:i<δ.length
    ·rw[if_pos hi] at h3
     rw[if_pos (by lia)] at h5
     cases h3
     cases h5
     exact hne h4 a _ hab h1 rfl l rfl h2
    ·rw[if_neg hi] at h3;cases h3
   ·rw[if_neg hib] at h3 h5
    exact s.ap a b l ds e' hab h1 h2 h3 h4 h5
 ·rw[bo] at h1 h2 h3 h4
  by_cases hia:i=a
  ·subst hia
   rw[if_pos rfl] at h1 h2
   rw[if_neg hab] at h3 h4
   by_cases hi:i<δ.length
   ·rw[if_pos hi] at h1
    rw[if_pos (by lia)] at h2
    cases h1
    cases h2
    exact hno b _ _ ad (cx hab) h3 h4 (.inl h5) h6 h7
   ·rw[if_neg hi] at h1;cases h1
  ·rw[if_neg hia] at h1 h2
   by_cases hib:i=b
   ·subst hib
    rw[if_pos rfl] at h3 h4
    by_cases hi:i<δ.length
    ·rw[if_pos hi] at h3
     rw[if_pos (by lia)] at h4
     cases h3
     cases h4
     exact hno a _ _ ad hab h1 h2 (.inr h5) h7 h6
    ·rw[if_neg hi] at h3;cases h3
   ·rw[if_neg hib] at h3 h4
    exact s.ao a b e1 e2 v1 v2 ad hab h1 h2 h3 h4 h5 h6 h7
 ·rw[bo] at ho ⊢
  by_cases hi:i=0
  ·subst hi
   rw[if_pos rfl] at ho ⊢
   split at ho
   ·cases ho
    rw[if_pos (by lia)]
    rcases hpn rfl with z | z | z
    ·lia
    ·exact absurd hw (z w)
    ·rw[hw] at z;exact congrArg (fun x=>aa x) z.symm
   ·cases ho
  ·rw[if_neg hi] at ho ⊢
   exact s.pn w o hw ho
theorem RS.putV(s:RS K B F H σ δ)(i:Nat)(r:Rep F v d):RS K B F H (σ.set i (aa v)) (δ.set i (aa (.val d))):=s.put i r (fun h=>by cases h) (fun h=>by cases h) fun _ _ _ _ _ _ _ _ h _=>h
theorem RS.drop(s:RS K B F H σ δ)(i:Nat):RS K B F H σ (δ.set i ab):=by
 refine⟨s.fh,s.bh,by simp[s.len],fun j e h=>?_,fun a b l ds e hab h1 h2 h3 h4=>?_,fun a b e1 e2 v1 v2 ad hab h1 h2 h3 h4 h5 h6 h7=>?_,fun w o hw ho=>?_⟩
 ·rw[bo] at h
  split at h
  ·split at h <;> cases h
  ·exact s.ent j e h
 ·rw[bo] at h1 h3
  split at h1
  ·split at h1 <;> cases h1
  ·split at h3
   ·split at h3 <;> cases h3
   ·exact s.ap a b l ds e hab h1 h2 h3 h4
 ·rw[bo] at h1 h3
  split at h1
  ·split at h1 <;> cases h1
  ·split at h3
   ·split at h3 <;> cases h3
   ·exact s.ao a b e1 e2 v1 v2 ad hab h1 h2 h3 h4 h5 h6 h7
 ·rw[bo] at ho
  split at ho
  ·split at ho <;> cases ho
  ·exact s.pn w o hw ho
theorem RS.lies{i:Nat}(s:RS K B F H σ δ)(h:δ[i]? = aa (aa e))(k:e.lk=true)(q:σ[i]? = aa (aa (.ref l))):∃ o,H l=aa o:=by
 obtain⟨v,h1,h2⟩:=s.ent i e h
 rw[q] at h1
 cases h1
 cases e with
 | own ds=>obtain⟨l',vs,e,h3,_⟩:=h2;cases e;exact⟨_,h3⟩
 | vw ds=>obtain⟨l',vs,e,h3,_⟩:=h2;cases e;exact⟨_,h3⟩
 | _=>cases k
def toN:Ent->Option Ent
 | .val d=>aa (.val d)
 | .own ds=>aa (.own ds)
 | _=>ab
theorem RS.putR{e':Ent}(s:RS K B F H σ δ)(x:Ex F H F' H')(i:Nat)(r:RepR K H F' H' v e)(q:toN e=aa e'):RS K B F' H' (σ.set i (aa v)) (δ.set i (aa e')):=by
 cases e with
 | val d=>cases q;exact(s.ext x).putV i r
 | own ds=>
  cases q
  obtain⟨l,vs,e,h0,h1,rs,h2⟩:=r
  refine(s.ext x).put i ⟨l,vs,e,h1,rs,h2,s.bh.free h0⟩ (fun _ j e' _ h3 h4 l' ex2 h5=>?_) (fun z=>by cases z) fun j e' w a _ h3 h4 _ h5 h6=>?_
  ·rw[e] at ex2
   cases ex2
   obtain⟨o,h6⟩:=s.lies h3 h4 h5
   rw[h0] at h6
   cases h6
  ·obtain⟨u,h7⟩:=s.occ h3 h4 (h6.backX (s.at h3 h4) x)
   rw[e] at h5
   cases (show V.ref l=.ref a from h5)
   rw[h0] at h7
   cases h7
 | _=>cases q
theorem RS.putO{o:OT}(s:RS K B F H σ δ)(x:Ex F H F' H')(i:Nat)(h0:0<i)(r:RepR K H F' H' v (.obj o)):RS K B F' H' (σ.set i (aa v)) (δ.set i (aa (.obj o))):=by
 obtain⟨_,A,t,n,h⟩:=r
 refine(s.ext x).put i ⟨A,t,n,fun a ha=>⟨(h a ha).1,s.bh.free (h a ha).2⟩⟩ (fun z=>by cases z) (fun _=>.inl h0) fun j e' w a _ h3 h4 _ h5 h6=>?_
 obtain⟨u,h7⟩:=s.occ h3 h4 (h6.backX (s.at h3 h4) x)
 obtain⟨A',t',h5⟩:=h5
 rw[t'.det t] at h5
 rw[(h a h5).2] at h7
 cases h7
theorem RS.mut{i:Nat}{ds':List D}{vs':List V}(s:RS K B F H σ δ)(hi:δ[i]? = aa (aa (.own ds)))(hs:σ[i]? = aa (aa (.ref l)))(r:Reps F vs' ds'):RS K B F (upd H l (.lst vs')) σ (δ.set i (aa (.own ds'))):=by
 obtain⟨v,h1,l',vs,e,h2,h3,h4,h5⟩:=s.ent i _ hi
 rw[hs] at h1
 cases h1
 cases e
 have mv:∀ (j:Nat) (w:V) (o:OT) (A:List af),i ≠ j->δ[j]? = aa (aa (.obj o))->σ[j]? = aa (aa w)->TR K F H w o A->TR K F (upd H l (.lst vs')) w o A:=fun j w o A hij q q' t=>
  t.move (Same.refl F) fun a ha=>zak fun z=>by subst z;exact s.ao j i _ _ _ _ a (cx hij) q q' hi hs rfl ⟨A,t,ha⟩ rfl
 have mt:∀ (w:V) (ks:List (List KN)) (es:List D) (A:List af),TR K F H w (.dcT ks es) A->TR K F (upd H l (.lst vs')) w (.dcT ks es) A:=fun w ks es A t=>t.move (Same.refl F) fun a ha=>zak fun z=>by
  subst z
  cases t with
  | dcT e _ _ _=>
   cases aT.mp ha
   rw[h2] at e
   cases e
 refine⟨fun b o q=>?_,fun b o q=>?_,by simp[s.len],fun j e q=>?_,fun a b l2 es e' hab q1 q2 q3 q4=>?_,fun a b e1 e2 v1 v2 ad hab q1 q2 q3 q4 q5 q6 q7=>?_,fun w o hw ho=>?_⟩
 ·rw[zak (zaD q h4)];exact s.fh b o q
 ·rw[zak (zaD q h5)];exact s.bh b o q
 ·rw[bo] at q
  by_cases hij:i=j
  ·subst hij
   rw[if_pos rfl] at q
   split at q
   ·cases q;exact⟨_,hs,l,vs',rfl,zah,r,h4,h5⟩
   ·cases q
  ·rw[if_neg hij] at q
   obtain⟨w,p1,p2⟩:=s.ent j e q
   refine⟨w,p1,?_⟩
   cases e with
   | val d=>exact p2
   | bor ds=>exact p2
   | own es=>
    obtain⟨l2,ws,ex2,p3,p4⟩:=p2
    refine⟨l2,ws,ex2,?_,p4⟩
    rw[zak (fun z=>s.ap i j l ds _ hij hi hs q rfl (by rw[p1,ex2,z]))]
    exact p3
   | vw es=>
    obtain⟨l2,ws,ex2,p3,p4⟩:=p2
    refine⟨l2,ws,ex2,?_,p4⟩
    rw[zak (fun z=>s.ap i j l ds _ hij hi hs q rfl (by rw[p1,ex2,z]))]
    exact p3
   | obj o=>
    obtain⟨A,t,n,h⟩:=p2
    exact⟨A,mv j w o A hij q p1 t,n,h⟩
   | vwt ks es=>obtain⟨A,t⟩:=p2;exact⟨A,mt w ks es A t⟩
   | bt ds=>exact p2
 ·rw[bo] at q1 q3
  by_cases hia:i=a
  ·subst hia
   rw[if_neg hab] at q3
   exact s.ap i b l2 ds e' hab hi q2 q3 q4
  ·rw[if_neg hia] at q1
   by_cases hib:i=b
   ·subst hib
    exact s.ap a i l2 es _ hab q1 q2 hi rfl
   ·rw[if_neg hib] at q3
    exact s.ap a b l2 es e' hab q1 q2 q3 q4
 ·rw[bo] at q1 q3
  have bk:∀ (j:Nat) (e:Ent) (w:V),i ≠ j->δ[j]? = aa (aa e)->σ[j]? = aa (aa w)->Occ K F (upd H l (.lst vs')) w e ad->Occ K F H w e ad:=fun j e w hij z1 z2 z3=>z3.back (s.at z1 z2) fun o A he t=>by
   rcases he with he | ⟨ks,es,he,ho⟩
   ·subst he;exact mv j w o A hij z1 z2 t
   ·subst ho;exact mt w ks es A t
  by_cases hia:i=a
  ·subst hia
   rw[if_pos rfl] at q1
   split at q1
   ·cases q1;cases q5
   ·cases q1
  ·rw[if_neg hia] at q1
   by_cases hib:i=b
   ·subst hib
    rw[if_pos rfl] at q3
    split at q3
    ·cases q3
     rw[hs] at q4
     cases q4
     exact s.ao a i e1 _ v1 _ ad hab q1 q2 hi hs q5 (bk a e1 v1 hia q1 q2 q6) q7
    ·cases q3
   ·rw[if_neg hib] at q3
    exact s.ao a b e1 e2 v1 v2 ad hab q1 q2 q3 q4 q5 (bk a e1 v1 hia q1 q2 q6) (bk b e2 v2 hib q3 q4 q7)
 ·rw[bo] at ho
  split at ho
  ·split at ho <;> cases ho
  ·exact s.pn w o hw ho
theorem RS.frz{i:Nat}(s:RS K B F H σ δ)(hi:δ[i]? = aa (aa (.own ds))):∃ F',FX B F F'/\RS K B F' H σ (δ.set i (aa (.val (.lst ds)))):=by
 obtain⟨v,h1,l,vs,e,h2,h3,h4,h5⟩:=s.ent i _ hi
 subst e
 refine⟨upd F l (.lst vs),⟨Same.alloc h4,fun a o e _=>zak (zaD e h5)⟩,?_⟩
 have sm:Same F (upd F l (.lst vs)):=Same.alloc h4
 refine⟨fun b o q=>?_,s.bh,by simp[s.len],fun j e q=>?_,fun a b l2 es e' hab q1 q2 q3 q4=>?_,fun a b e1 e2 v1 v2 ad hab q1 q2 q3 q4 q5 q6 q7=>?_,fun w o hw ho=>?_⟩
 ·by_cases hb:b=l
  ·subst hb;rw[zah] at q;cases q;exact h2
  ·rw[zak hb] at q;exact s.fh b o q
 ·rw[bo] at q
  by_cases hij:i=j
  ·subst hij
   rw[if_pos rfl] at q
   split at q
   ·cases q;exact⟨_,h1,.lst zah (h3.mono sm)⟩
   ·cases q
  ·rw[if_neg hij] at q
   obtain⟨w,p1,p2⟩:=s.ent j e q
   refine⟨w,p1,?_⟩
   cases e with
   | val d=>exact Rep.mono sm p2
   | bor es=>obtain⟨l2,ws,ex2,p3,p4⟩:=p2;exact⟨l2,ws,ex2,p3,p4.mono sm⟩
   | own es=>
    obtain⟨l2,ws,ex2,p3,p4,p5,p6⟩:=p2
    refine⟨l2,ws,ex2,p3,p4.mono sm,?_,p6⟩
    rw[zak (fun z=>s.ap i j l ds _ hij hi h1 q rfl (by rw[p1,ex2,z]))]
    exact p5
   | vw es=>obtain⟨l2,ws,ex2,p3,p4⟩:=p2;exact⟨l2,ws,ex2,p3,p4.mono sm⟩
   | obj o=>
    obtain⟨A,t,n,h⟩:=p2
    refine⟨A,t.move sm fun _ _=>rfl,n,fun a ha=>⟨?_,(h a ha).2⟩⟩
    rw[zak (fun z=>by subst z;exact s.ao j i _ _ _ _ a (cx hij) q p1 hi h1 rfl ⟨A,t,ha⟩ rfl)]
    exact(h a ha).1
   | vwt ks es=>obtain⟨A,t⟩:=p2;exact⟨A,t.move sm fun _ _=>rfl⟩
   | bt es=>obtain⟨l2,ws,ex2,p3,p4⟩:=p2;exact⟨l2,ws,ex2,p3,p4.mono sm⟩
 ·rw[bo] at q1 q3
  by_cases hia:i=a
  ·subst hia
   rw[if_pos rfl] at q1
   split at q1 <;> cases q1
  ·rw[if_neg hia] at q1
   by_cases hib:i=b
   ·subst hib
    rw[if_pos rfl] at q3
    split at q3
    ·cases q3;cases q4
    ·cases q3
   ·rw[if_neg hib] at q3
    exact s.ap a b l2 es e' hab q1 q2 q3 q4
 ·rw[bo] at q1 q3
  by_cases hia:i=a
  ·subst hia
   rw[if_pos rfl] at q1
   split at q1
   ·cases q1;cases q5
   ·cases q1
  ·rw[if_neg hia] at q1
   have b1:=q6.back (s.at q1 q2) fun o A _ t=>t.move sm fun _ _=>rfl
   by_cases hib:i=b
   ·subst hib
    rw[if_pos rfl] at q3
    split at q3
    ·cases q3;exact q7
    ·cases q3
   ·rw[if_neg hib] at q3
    exact s.ao a b e1 e2 v1 v2 ad hab q1 q2 q3 q4 q5 b1 (q7.back (s.at q3 q4) fun o A _ t=>t.move sm fun _ _=>rfl)
 ·rw[bo] at ho
  split at ho
  ·split at ho <;> cases ho
  ·exact s.pn w o hw ho
end
def SemS(K:ah)(t:TS)(f:FS):Prop:=∀ (B:Bd) (F H:Hp) (σ:Sg) (δ:En) (out:Out) (DD:Ends),RS K B F H σ δ->f δ=aa out->EndOk K B F DD out->t DD σ H
structure VS(X:Cx)(s:Stmt)(f:FS):Prop where
 h:∃ t,WS X s t/\SemS X.K t f
structure VSs(X:Cx)(s:List Stmt)(f:FS):Prop where
 h:∃ t,WSs X s t/\SemS X.K t f
def fNx:FS:=fun δ=>aa (.nx δ)
def sqO(g:FS):Out->Option Out
 | .nx δ=>g δ
 | o=>aa o
def zaT(f g:FS):FS:=fun δ=>(f δ).bind (sqO g)
def zca(i:Nat)(fe:FE):FS:=fun δ=>(fe δ).bind fun r=>(toN r).map fun e=>.nx (δ.set i (aa e))
def fIf(ft:FT)(f g:FS):FS:=fun δ=>(ft δ).bind fun b=>if b=true then f δ else g δ
def zb9(fe:FE):FS:=fun δ=>(fe δ).bind fun r=>(toN r).map fun e=>.rt e δ
def zhb(i:Nat):FS:=fun δ=>match δ[i]? with
 | some (aa (.own ds))=>aa (.rt (.own ds) (δ.set i ab))
 | some (aa (.val d))=>aa (.rt (.val d) δ)
 | _=>ab
def fFrz(i:Nat)(g:FS):FS:=fun δ=>match δ[i]? with
 | some (aa (.own ds))=>g (δ.set i (aa (.val (.lst ds))))
 | _=>ab
noncomputable def zgk(i:Nat)(fe:FE):FS:=fun δ=>match δ[i]? with
 | some (aa (.own ds))=>((fe δ).bind asV).bind fun d=>gif (sz (ds.length+1)) (aa (.nx (δ.set i (aa (.own (ds ++ [d]))))))
 | _=>ab
def iOf:Ent->Option Int
 | .val (.int i)=>aa i
 | _=>ab
theorem zaS{e:Ent}{i:Int}(h:iOf e=aa i):e=.val (.int i):=by
 cases e with
 | val d=>cases d <;> first | (cases h;rfl) | (cases h)
 | _=>cases h
def fSIx(i:Nat)(fi fe:FE):FS:=fun δ=>match δ[i]? with
 | some (aa (.own ds))=>((fe δ).bind asV).bind fun d=>((fi δ).bind iOf).bind fun k=>(ixN ds.length k).map fun j=>.nx (δ.set i (aa (.own (ds.set j d))))
 | _=>ab
abbrev FG:=D->En->Option En
def lpO(lp:En->Option Out):Out->Option Out
 | .nx δ=>lp δ
 | .ct δ=>lp δ
 | .bk δ=>aa (.nx δ)
 | o=>aa o
def loop(tg:FG)(f:FS):List D->En->Option Out
 | [],δ=>aa (.nx δ)
 | d :: ds,δ=>(tg d δ).bind fun δ1=>(f δ1).bind (lpO (loop tg f ds))
abbrev FI:=En->Option (List D)
def zd1(fi:FI)(tg:FG)(f:FS):FS:=fun δ=>(fi δ).bind fun ds=>loop tg f ds δ
def gNm(i:Nat):FG:=fun d δ=>aa (δ.set i (aa (.val d)))
abbrev FGs:=List D->En->Option En
def zdZ:FGs:=fun ds δ=>match ds with
 | []=>aa δ
 | _=>ab
def zba(g:FG)(gs:FGs):FGs:=fun ds δ=>match ds with
 | d :: r=>(g d δ).bind (gs r)
 | []=>ab
def gTp(gs:FGs):FG:=fun d δ=>match d with
 | .tup ds=>gs ds δ
 | _=>ab
def SemG(K:ah)(g:TG)(tg:FG):Prop:=∀ (B:Bd) (F H:Hp) (σ:Sg) (δ δ':En) (v:V) (d:D) (Q:L2.St->Hp->Prop),RS K B F H σ δ->Rep F v d->tg d δ=aa δ'->(∀ σ',RS K B F H σ' δ'->Q σ' H)->g v σ H Q
def SemGs(K:ah)(g:TGs)(tg:FGs):Prop:=∀ (B:Bd) (F H:Hp) (σ:Sg) (δ δ':En) (vs:List V) (ds:List D) (Q:L2.St->Hp->Prop),RS K B F H σ δ->Reps F vs ds->tg ds δ=aa δ'->(∀ σ',RS K B F H σ' δ'->Q σ' H)->g vs σ H Q
structure VG(X:Cx)(e:Expr)(f:FG):Prop where
 h:∃ t,WG X e t/\SemG X.K t f
structure VGs(X:Cx)(es:List Expr)(f:FGs):Prop where
 h:∃ t,WGs X es t/\SemGs X.K t f
def ItOk(B F0:Hp)(J:It)(ds:List D):Prop:=∀ F H,Same F0 F->Same F H->Same B H->J.stop ds.length H/\∀ (i:Nat) (d:D),ds[i]? = aa d->J.go i H/\∀ x H',J.yld i H x H'->∃ F',Ex F H F' H'/\Rep F' x d
def SemI(K:ah)(t:TI)(fi:FI):Prop:=∀ (B:Bd) (F H:Hp) (σ:Sg) (δ:En) (ds:List D) (R:It->Hp->Prop),RS K B F H σ δ->fi δ=aa ds->(∀ J F' H',Ex F H F' H'->ItOk B F' J ds->R J H')->t σ H R
structure VI(X:Cx)(tg e:Expr)(f:FI):Prop where
 h:∃ t,WI X tg e t/\SemI X.K t f
section
variable {X:Cx}{e c tg iter:Expr}{es:List Expr}{pos pos' p:Pos}{fe fa:FE}{ft:FT}{x:Str}{st:Stmt}{sr body els:List Stmt}{f g:FS}{fi:FI}{tgf:FG}{tgs:FGs}
theorem ss0:VSs X [] fNx:=⟨_,s0,fun B F H σ δ out DD s q k=>by cases q;exact k σ F H s FX.refl⟩
theorem ss1(h:VS X st f):VSs X [st] f:=let⟨_,w,s⟩:=h.h;⟨_,s1 w,s⟩
theorem ssc(h1:VS X st f)(h2:VSs X sr g):VSs X (st :: sr) (zaT f g):=by
 obtain⟨t,w1,m1⟩:=h1.h
 obtain⟨u,w2,m2⟩:=h2.h
 refine⟨_,sc w1 w2,fun B F H σ δ out DD s q k=>?_⟩
 obtain⟨o,q1,q⟩:=bind_some q
 refine m1 B F H σ δ o _ s q1 ?_
 cases o with
 | nx δ'=>exact fun σ' F' H' s' y=>m2 B F' H' σ' δ' out DD s' q (k.mono y)
 | rt r δ'=>cases q;exact k
 | bk δ'=>cases q;exact k
 | ct δ'=>cases q;exact k
theorem sFrz(i:Nat)(h:VSs X sr g):VSs X sr (fFrz i g):=by
 obtain⟨u,w2,m2⟩:=h.h
 refine⟨_,w2,fun B F H σ δ out DD s q k=>?_⟩
 unfold fFrz at q
 split at q
 ·rename_i ds hi
  obtain⟨F',x,s'⟩:=s.frz hi
  exact m2 B F' H σ _ out DD s' q (k.mono x)
 ·cases q
theorem SemE.ret{K:ah}{t:TE}(m:SemE K t fe):SemS K (tRet t) (zb9 fe):=fun B F H σ δ out DD s q k=>by
 obtain⟨r,q1,q⟩:=bind_some q
 obtain⟨e,q2,q⟩:=map_some q
 cases q
 refine m B F H σ δ r _ s q1 fun v F' H' x z=>k v σ F' H' (s.ext x) (.of x s.bh) ?_
 cases r with
 | val d=>cases q2;exact z
 | own ds=>cases q2;exact RepR.earlier z s.bh
 | _=>cases q2
theorem zdR(he:VE X e fe):VS X (.Return (aa e) pos) (zb9 fe):=let⟨_,w,m⟩:=he.h;⟨_,sret w,m.ret⟩
theorem sRetV(i:Nat)(hN:X.N[i]? = aa x:=by rfl)(hv:Vis X.env.scope x:=by first | exact az rfl | exact br (az rfl) | exact br (br rfl))(hd:(x == ("__debug__" : Str))=false:=by decide)
  (hcd:(x == ("__classdict__" : Str))=false:=by decide):VS X (.Return (aa (.Name x p)) pos) (zhb i):=by
 refine⟨_,sret (wv i hN hv hd hcd),fun B F H σ δ out DD s q k=>?_⟩
 unfold zhb at q
 split at q
 ·rename_i ds e
  cases q
  obtain⟨v,h1,h2⟩:=s.ent i _ e
  refine⟨v,h1,k v σ F H (s.drop i) .refl ?_⟩
  obtain⟨l,vs,e,h3,h4,h5,h6⟩:=h2
  exact⟨l,vs,e,h6,h3,h4,h5⟩
 ·rename_i d e
  cases q
  obtain⟨v,h1,h2⟩:=s.ent i _ e
  exact⟨v,h1,k v σ F H s .refl h2⟩
 ·cases q
theorem sIf(hc:VT X c ft)(ha:VSs X body f)(hb:VSs X els g):VS X (.If c body els pos) (fIf ft f g):=by
 obtain⟨t,w,m⟩:=hc.h
 obtain⟨t1,w1,m1⟩:=ha.h
 obtain⟨t2,w2,m2⟩:=hb.h
 refine⟨_,sif w w1 w2,fun B F H σ δ out DD s q k=>?_⟩
 obtain⟨b,q1,q⟩:=bind_some q
 refine m B F H σ δ b _ s q1 fun F' H' x=>?_
 cases b with
 | true=>exact iteT (m1 B F' H' σ δ out DD (s.ext x) q (k.mono (.of x s.bh)))
 | false=>exact iteF (m2 B F' H' σ δ out DD (s.ext x) q (k.mono (.of x s.bh)))
theorem SemE.set{K:ah}{t:TE}(i:Nat)(m:SemE K t fe):SemS K (tAsg t (zge i)) (zca i fe):=fun B F H σ δ out DD s q k=>by
 obtain⟨r,q1,q⟩:=bind_some q
 obtain⟨e,q2,q⟩:=map_some q
 cases q
 exact m B F H σ δ r _ s q1 fun v F' H' x z=>k _ F' H' (s.putR x i z q2) (.of x s.bh)
theorem zcT{i:Nat}(hN:X.N.Nodup)(hi:X.N[i]? = aa x)(hx:Loc X.env.scope x)(he:VE X e fe)(hs:swapsWith e (aa (.Name x pos')) pos.line X.env=pure false:=by rfl)(hf:X.fn x=true \/ X.env.scope.names.lookup x=aa .local:=by first | exact .inl rfl | exact .inr rfl | assumption) :
  VS X (.Assign [.Name x pos'] e pos) (zca i fe):=let⟨_,w,m⟩:=he.h;⟨_,sset hN hi hx w hs hf,m.set i⟩
theorem gnm{i:Nat}(hN:X.N.Nodup)(hi:X.N[i]? = aa x)(hx:Loc X.env.scope x)(hf:X.fn x=true \/ X.env.scope.names.lookup x=aa .local:=by first | exact .inl rfl | exact .inr rfl | assumption):VG X (.Name x pos) (gNm i):=
 ⟨_,gn hN hi hx hf,fun B F H σ δ δ' v d Q s r q k=>by cases q;exact k _ (s.putV i r)⟩
theorem gns0:VGs X [] zdZ:=⟨_,gs0,fun B F H σ δ δ' vs ds Q s r q k=>by
 cases r with
 | nil=>cases q;exact⟨rfl,k σ s⟩
 | cons _ _=>cases q⟩
theorem ziL(h1:VG X e tgf)(h2:VGs X es tgs)(hs:(bS (e :: es) X.env).map (·.2)=assign e X.env :: (bS es X.env).map (·.2):=by rfl):VGs X (e :: es) (zba tgf tgs):=by
 obtain⟨t,w,m⟩:=h1.h
 obtain⟨t1,w1,m1⟩:=h2.h
 refine⟨_,gs1 w w1 hs,fun B F H σ δ δ' vs ds Q s r q k=>?_⟩
 cases r with
 | nil=>cases q
 | cons r1 r2=>
  obtain⟨δ1,q1,q⟩:=bind_some q
  exact⟨_,_,rfl,m B F H σ δ δ1 _ _ _ s r1 q1 fun σ' s'=>m1 B F H σ' δ1 δ' _ _ _ s' r2 q k⟩
theorem gtp{k n:Nat}(hc:X.calm=true)(h:VGs X es tgs)(hn:(bS es X.env).length=n:=by rfl)(hst:(bS es X.env).findIdx? (·.1)=ab:=by rfl)(hl:∀ ds δ δ',tgs ds δ=aa δ'->ds.length=n:=by intro ds δ δ' h;match ds,h with | [_],_=>rfl | [_,_],_=>rfl | [_,_,_],_=>rfl | [_,_,_,_],_=>rfl):VG X (.Tuple es k pos) (gTp tgs):=by
 obtain⟨t,w,m⟩:=h.h
 refine⟨_,gt hc w hn hst,fun B F H σ δ δ' v d Q s r q k=>?_⟩
 cases d with
 | tup ds=>
  cases r with
  | tup e rs=>exact⟨_,_,rfl,SqT.of (s.fh _ _ e),by rw[rs.length];exact hl _ _ _ q,m B F H σ δ δ' _ ds _ s rs q k⟩
 | _=>cases q
theorem SemS.for{K:ah}{wi:TI}{g:TG}{tb:TS}(mi:SemI K wi fi)(mg:SemG K g tgf)(mb:SemS K tb f):SemS K (tFor wi g tb) (zd1 fi tgf f):=fun B F H σ δ out DD s q k=>by
 obtain⟨ds,q1,q⟩:=bind_some q
 refine mi B F H σ δ ds _ s q1 fun J F1 H1 x1 io=>?_
 have k1:EndOk K B F1 DD out:=k.mono (.of x1 s.bh)
 refine⟨fun i m σ' H'=>m=ds.length - i/\i<=ds.length/\∃ F' δ',RS K B F' H' σ' δ'/\FX B F1 F'/\loop tgf f (ds.drop i) δ'=aa out,⟨_,rfl,aO _,F1,δ,s.ext x1,.refl,q⟩,?_⟩
 rintro i m σ' H' ⟨rfl,hi,F',δ',s',y',q'⟩
 obtain⟨hstop,hgo⟩:=io F' H' y'.ff s'.fh s'.bh
 by_cases hlt:i<ds.length
 ·right
  have hd:ds[i]? = aa ds[i]:=by simp[hlt]
  obtain⟨g1,g2⟩:=hgo i _ hd
  rw[bK hlt] at q'
  obtain⟨δ1,q2,q'⟩:=bind_some q'
  obtain⟨o,q3,q'⟩:=bind_some q'
  refine⟨g1,fun σ2 H2=>ds.length - (i+1)=ds.length - (i+1)/\i+1<=ds.length/\∃ F' δ',RS K B F' H2 σ2 δ'/\FX B F1 F'/\loop tgf f (ds.drop (i+1)) δ'=aa out,fun σ2 H2 hN=>⟨_,by lia,hN⟩,fun v H2 yl=>?_⟩
  obtain⟨F2,x2,r2⟩:=g2 v H2 yl
  refine mg B F2 H2 σ' δ' δ1 v _ _ (s'.ext x2) r2 q2 fun σ3 s3=>?_
  have y2:FX B F1 F2:=y'.trans (.of x2 s'.bh)
  refine mb B F2 H2 σ3 δ1 o _ s3 q3 ?_
  cases o with
  | nx δ2=>exact fun σ4 F4 H4 s4 y4=>⟨rfl,hlt,F4,δ2,s4,y2.trans y4,q'⟩
  | ct δ2=>exact fun σ4 F4 H4 s4 y4=>⟨rfl,hlt,F4,δ2,s4,y2.trans y4,q'⟩
  | bk δ2=>cases q';exact fun σ4 F4 H4 s4 y4=>k1 σ4 F4 H4 s4 (y2.trans y4)
  | rt r δ2=>cases q';exact fun v σ4 F4 H4 s4 y4 z=>k1 v σ4 F4 H4 s4 (y2.trans y4) z
 ·left
  have e:i=ds.length:=by lia
  subst e
  rw[fK] at q'
  cases q'
  exact⟨hstop,k1 σ' F' H' s' y'⟩
theorem zgA(hi:VI X tg iter fi)(hg:VG X tg tgf)(hb:VSs X body f)(hp:PassesOwn (model X.prog X.w) X.A X.env X.xe:=by exact mf)(hc:X.calm=true:=by rfl)(hs:∀ z,cg iter X.env z=pure z:=by intro _;rfl):VS X (.For tg iter body [] pos) (zd1 fi tgf f):=
 let⟨_,wi,mi⟩:=hi.h;let⟨_,wg,mg⟩:=hg.h;let⟨_,wb,mb⟩:=hb.h;⟨_,sfor hp hc wi wg wb hs,.for mi mg mb⟩
theorem sApp(i:Nat){apos cpos:Pos}(he:VE X e fe)(hN:X.N[i]? = aa x:=by rfl)(hv:Vis X.env.scope x:=by first | exact az rfl | exact br (az rfl) | exact br (br rfl))(hd:(x == ("__debug__" : Str))=false:=by decide)(hcd:(x == ("__classdict__" : Str))=false:=by decide)
  (hbase:ck (.Name x p) "append" X.env (eval (.Name x p) X.env)=eval (.Name x p) X.env:=by rfl) (hline:(apos.endLine == cpos.line)=true:=by rfl) (h1:zao e=true:=by rfl)
  (hs:swapsWith (.Call (.Attribute (.Name x p) "append" apos) [e] [] cpos) ab pos.line X.env=pure false:=by rfl) :
  VS X (.Expr (.Call (.Attribute (.Name x p) "append" apos) [e] [] cpos) pos) (zgk i fe):=by
 obtain⟨t,w,m⟩:=he.h
 refine⟨_,sex (wbm dN gW gX zd0 (wv i hN hv hd hcd) (wac w wnil h1) hbase rfl hline h1 rfl) hs,fun B F H σ δ out DD s q k=>?_⟩
 unfold zgk at q
 split at q
 ·rename_i ds hi
  obtain⟨d,q1,q⟩:=bind_some q
  obtain⟨r,q2,q3⟩:=bind_some q1
  obtain⟨hl,qz⟩:=za0 q
  cases qz
  obtain⟨v,h1,l,vs,e,h2,h3,h4,h5⟩:=s.ent i _ hi
  subst e
  refine⟨_,h1,.inl ⟨rfl,vs,SqL.of h2⟩,?_⟩
  refine m B F H σ δ r _ s q2 fun y F1 H1 x1 z=>?_
  obtain⟨F2,x2,sm,r2⟩:=RepR.frz x1 (Same.refl _) z q3
  refine⟨l,vs,y,rfl,rfl,x2.hh _ _ h2,?_,?_⟩
  ·rw[h3.length,ci];unfold sz at hl;lia
  ·exact k σ F2 _ ((s.ext x2).mut hi h1 ((h3.mono x2.ff).append (.one r2))) (.of x2 s.bh)
 ·cases q
theorem sSIx(i:Nat){ix:Expr}{fx:FE}{tpos:Pos}(he:VE X e fe)(hx:VE X ix fx)(hN:X.N[i]? = aa x:=by rfl)(hv:Vis X.env.scope x:=by first | exact az rfl | exact br (az rfl) | exact br (br rfl))(hd:(x == ("__debug__" : Str))=false:=by decide)(hcd:(x == ("__classdict__" : Str))=false:=by decide)
  (hg:∀ {to ti:TE},WE X (.Name x p) to->WE X ix ti->WG X (.Subscript (.Name x p) ix tpos) (gSub to ti rSetL))
  (hs:swapsWithSole [.Subscript (.Name x p) ix tpos] e pos.line X.env=pure false:=by rfl) (hw:swappedStores [.Subscript (.Name x p) ix tpos] e X.env=pure ab:=by rfl) (h1:(bS [.Subscript (.Name x p) ix tpos] X.env).map (·.2)=[assign (.Subscript (.Name x p) ix tpos) X.env]:=by rfl) :
  VS X (.Assign [.Subscript (.Name x p) ix tpos] e pos) (fSIx i fx fe):=by
 obtain⟨t,w,m⟩:=he.h
 obtain⟨t2,w2,m2⟩:=hx.h
 refine⟨_,sasg w (hg (wv i hN hv hd hcd) w2) hs hw h1,fun B F H σ δ out DD s q k=>?_⟩
 unfold fSIx at q
 split at q
 ·rename_i ds hi
  obtain⟨d,q1,q⟩:=bind_some q
  obtain⟨r,q2,q3⟩:=bind_some q1
  obtain⟨kk,q4,q⟩:=bind_some q
  obtain⟨rk,q5,q6⟩:=bind_some q4
  obtain⟨j,q7,q⟩:=map_some q
  cases q
  cases zaS q6
  obtain⟨v,h1,l,vs,e,h2,h3,h4,h5⟩:=s.ent i _ hi
  subst e
  refine m B F H σ δ r _ s q2 fun y F1 H1 x1 z=>?_
  obtain⟨F2,x2,sm,r2⟩:=RepR.frz x1 (Same.refl _) z q3
  refine⟨_,h1,m2 B F2 H1 σ δ _ _ (s.ext x2) q5 fun yk F3 H3 x3 z3=>?_⟩
  cases za9 z3
  refine⟨l,vs,kk,j,rfl,rfl,x3.hh _ _ (x2.hh _ _ h2),by rw[h3.length];exact q7,?_⟩
  exact k σ F3 _ (((s.ext x2).ext x3).mut hi h1 (((h3.mono x2.ff).mono x3.ff).set (Rep.mono x3.ff r2) j)) (.of (x2.trans x3) s.bh)
 ·cases q
end
def capt:Ent->Option Ent
 | .own ds=>aa (.vw ds)
 | .obj (.dcT ks ds)=>aa (.vwt ks ds)
 | .obj _=>ab
 | e=>aa e
def cEn(fr:List Nat)(δ:En)(d:D):En:=aa (.val d) :: fr.map fun i=>((δ[i]?).join).bind capt
def zcv(ft:D->Option Bool)(fe:D->Option Ent):List D->Option (List D)
 | []=>aa []
 | d :: ds=>(ft d).bind fun b=>if b=true then ((fe d).bind asV).bind fun y=>(zcv ft fe ds).map fun ys=>y :: ys else zcv ft fe ds
def eLC(fr:List Nat)(fi:FI)(ft:FT)(fe:FE):FE:=fun δ=>(fi δ).bind fun ds=>(zcv (fun d=>ft (cEn fr δ d)) (fun d=>fe (cEn fr δ d)) ds).bind fun out=>if out.length<=1000000 then aa (.own out) else ab
theorem RS.cap{K:ah}{B:Bd}{F H:Hp}{σ:Sg}{δ:En}{v:V}{d:D}(s:RS K B F H σ δ)(fr:List Nat)(r:Rep F v d):RS K B F H (aa v :: zem fr σ) (cEn fr δ d):=by
 have key:∀ (j:Nat) (e:Ent),(cEn fr δ d)[j+1]? = aa (aa e)->∃ i e',fr[j]? = aa i/\δ[i]? = aa (aa e')/\capt e'=aa e:=fun j e h=>by
  unfold cEn at h
  rw[dg,aD] at h
  cases q:fr[j]? with
  | none=>rw[q] at h;cases h
  | some i=>
   rw[q] at h
   have h':((δ[i]?).join).bind capt=aa e:=bg h
   obtain⟨e',h1,h2⟩:=bind_some h'
   refine⟨i,e',rfl,?_,h2⟩
   cases z:δ[i]? with
   | none=>rw[z] at h1;cases h1
   | some o=>rw[z] at h1;rw[show o=aa e' from h1]
 refine⟨s.fh,s.bh,by simp[cEn,zem],fun j e h=>?_,fun a b l ds e hab h1=>?_,fun a b e1 e2 v1 v2 ad hab q1 _ _ _ q5=>?_,fun w o _ ho=>by cases ho⟩
 ·cases j with
  | zero=>cases h;exact⟨v,rfl,r⟩
  | succ j=>
   obtain⟨i,e',h1,h2,h0⟩:=key j e h
   obtain⟨w,h3,h4⟩:=s.ent i e' h2
   refine⟨w,?_,?_⟩
   ·show(zem fr σ)[j]? = aa (aa w)
    unfold zem
    rw[aD,h1]
    show aa ((σ[i]?).join)=_
    rw[h3]
    rfl
   ·cases e' with
    | own ds=>cases h0;obtain⟨l,vs,e,h5,h6,_⟩:=h4;exact⟨l,vs,e,h5,h6⟩
    | obj o=>cases o <;> first | (cases h0;obtain⟨A,t,_⟩:=h4;exact⟨A,t⟩) | cases h0
    | _=>cases h0;exact h4
 ·cases a with
  | zero=>cases h1
  | succ a=>
   obtain⟨i,e',_,_,z⟩:=key a _ h1
   cases e' with
   | obj o=>cases o <;> cases z
   | _=>cases z
 ·cases a with
  | zero=>cases q1;cases q5
  | succ a=>
   obtain⟨i,e',_,_,z⟩:=key a _ q1
   cases e' with
   | obj o=>cases o <;> first | (cases z;cases q5) | cases z
   | _=>cases z <;> cases q5
theorem SemE.lc{K:ah}{fr:List Nat}{wi:TI}{tt:TT}{te:TE}{fi:FI}{ft:FT}{fe:FE}(mi:SemI K wi fi)(mt:SemT K tt ft)(me:SemE K te fe):SemE K (tLC fr wi tt te) (eLC fr fi ft fe):=fun B F H σ δ res Q s q k=>by
 obtain⟨ds,q1,q⟩:=bind_some q
 obtain⟨out,q2,q⟩:=bind_some q
 split at q
 ·rename_i hlen
  cases q
  refine mi B F H σ δ ds _ s q1 fun J F1 H1 x1 io=>?_
  intro a ha
  refine⟨fun i m ys H'=>m=ds.length - i/\i<=ds.length/\∃ F' done rest,Ex F1 H1 F' H'/\F' a=ab/\H' a=aa (.lst ys)/\Reps F' ys done/\zcv (fun d=>ft (cEn fr δ d)) (fun d=>fe (cEn fr δ d)) (ds.drop i)=aa rest/\out=done ++ rest,
   ⟨_,rfl,aO _,F1,[],out,Ex.lay x1.fh ha,x1.fh.free ha,zah,.nil,q2,rfl⟩,?_⟩
  rintro i m ys H' ⟨rfl,hi,F',dn,rest,x',fa,hH,rs,q',eo⟩
  have s':=(s.ext x1).ext x'
  obtain⟨hstop,hgo⟩:=io F' H' x'.ff x'.fh s'.bh
  by_cases hlt:i<ds.length
  ·right
   have hd:ds[i]? = aa ds[i]:=by simp[hlt]
   obtain⟨g1,g2⟩:=hgo i _ hd
   rw[bK hlt] at q'
   obtain⟨b,q3,q'⟩:=bind_some q'
   refine⟨g1,fun v H2 yl=>?_⟩
   obtain⟨F2,x2,r2⟩:=g2 v H2 yl
   have sc:=(s'.ext x2).cap fr r2
   refine mt B F2 H2 _ _ b _ sc q3 fun F3 H3 x3=>?_
   have nn:∀ {Fz Hz:Hp},Ex F' H' Fz Hz->Fz a=ab:=fun x=>(x.nw _ _ hH rfl).trans fa
   cases b with
   | false=>
    refine iteF ⟨ds.length - (i+1),by lia,rfl,hlt,F3,dn,rest,(x'.trans x2).trans x3,nn (x2.trans x3),(x2.trans x3).hh _ _ hH,rs.mono (x2.trans x3).ff,q',eo⟩
   | true=>
    refine iteT ?_
    obtain⟨y,q4,q'⟩:=bind_some q'
    obtain⟨r,q5,q6⟩:=bind_some q4
    obtain⟨rest',q7,q'⟩:=map_some q'
    cases q'
    refine me B F3 H3 _ _ r _ (sc.ext x3) q5 fun w F4 H4 x4 z4=>?_
    obtain⟨F5,x5,_,r5⟩:=RepR.frz x4 (Same.refl _) z4 q6
    have xx:Ex F' H' F5 H4:=(x2.trans x3).trans x5
    have hy:ys.length<be:=by
     rw[rs.length,ci]
     have:out.length=dn.length+(rest'.length+1):=by rw[eo];simp
     lia
    refine⟨xx.hh _ _ hH,hy,ds.length - (i+1),by lia,rfl,hlt,F5,dn ++ [y],rest',?_,nn xx,zah,(rs.mono xx.ff).append (.one r5),q7,by rw[eo];simp⟩
    have xo:=x'.trans xx
    exact⟨xo.ff,fun b o e=>by rw[zak (zaD e (nn xx))];exact xo.fh b o e,fun b o e=>by rw[zak (zaD e ha)];exact xo.hh b o e,xo.nw⟩
  ·left
   have e:i=ds.length:=by lia
   subst e
   rw[fK] at q'
   cases q'
   rw[bF] at eo
   subst eo
   refine⟨hstop,k _ F' H' (x1.trans x') ⟨a,ys,rfl,x1.hh.free ha,hH,rs,fa⟩⟩
 ·cases q
def tD(K:ah)(f:FE):TE:=fun σ H Q=>∃ B F δ r,RS K B F H σ δ/\f δ=aa r/\∀ v F' H',Ex F H F' H'->RepR K H F' H' v r->Q v H'
def tDT(K:ah)(f:FT):TT:=fun σ H Q=>∃ B F δ b,RS K B F H σ δ/\f δ=aa b/\∀ F' H',Ex F H F' H'->Q b H'
theorem zhC{K:ah}{f:FE}:SemE K (tD K f) f:=fun B F _ _ δ r _ s q k=>⟨B,F,δ,r,s,q,k⟩
theorem zhc{K:ah}{f:FT}:SemT K (tDT K f) f:=fun B F _ _ δ r _ s q k=>⟨B,F,δ,r,s,q,k⟩
theorem VE.uni{X:Cx}{e:Expr}{f:FE}(h:VE X e f):WE X e (tD X.K f):=
 let⟨_,w,m⟩:=h.h;⟨fun pins s σ H Q I z=>let⟨B,F,δ,r,s',q,k⟩:=z;w.h pins s σ H Q I (m B F H σ δ r Q s' q k)⟩
theorem VTs.uni{X:Cx}{es:List Expr}{f:FT}(h:VTs X es f):WTs X es (tDT X.K f):=
 let⟨_,w,m⟩:=h.h;⟨fun pins s σ H Q I z=>let⟨B,F,δ,r,s',q,k⟩:=z;w.h pins s σ H Q I (m B F H σ δ r Q s' q k)⟩
section
variable {X:Cx}{N:List Str}{fr:List Nat}{x:Str}{scope:Scope}{iter elt:Expr}{ifs:List Expr}{px pos:Pos}{fi:FI}{fe:FE}{ft:FT}
theorem vlc(S:CompSc X N fr x scope)(hi:VI X (.Name x px) iter fi)
  (ht:∀ (C:af) (s₀:ag) (H₀:Hp) (fp:List af),VTs (cxC X N scope C s₀ H₀ fp) ifs ft) (he:∀ (C:af) (s₀:ag) (H₀:Hp) (fp:List af),VE (cxC X N scope C s₀ H₀ fp) elt fe)
  (hc:X.calm=true:=by rfl) (hs:∀ z,cg iter X.env z=pure z:=by intro _;rfl):VE X (.ListComp elt [⟨.Name x px,iter,ifs,0⟩] scope pos) (eLC fr fi ft fe):=
 let⟨_,w1,m1⟩:=hi.h;⟨_,wlc S hc w1 (fun C s₀ H₀ fp=>(ht C s₀ H₀ fp).uni) (fun C s₀ H₀ fp=>(he C s₀ H₀ fp).uni) hs,.lc m1 zhc zhC⟩
theorem sSetLC{i:Nat}{y:Str}{py spos:Pos}(hN:X.N.Nodup)(hi':X.N[i]? = aa y)(hy:Loc X.env.scope y)(S:CompSc X N fr x scope)(hi:VI X (.Name x px) iter fi)
  (ht:∀ (C:af) (s₀:ag) (H₀:Hp) (fp:List af),VTs (cxC X N scope C s₀ H₀ fp) ifs ft) (he:∀ (C:af) (s₀:ag) (H₀:Hp) (fp:List af),VE (cxC X N scope C s₀ H₀ fp) elt fe)
  (hc:X.calm=true:=by rfl) (hsw:swapsWith (.ListComp elt [⟨.Name x px,iter,ifs,0⟩] scope pos) (aa (.Name y py)) spos.line X.env=pure true:=by rfl)
  (hs:∀ z,cg iter X.env z=pure z:=by intro _;rfl)
  (hf:X.fn y=true \/ X.env.scope.names.lookup y=aa .local:=by first | exact .inl rfl | exact .inr rfl | assumption) :
  VS X (.Assign [.Name y py] (.ListComp elt [⟨.Name x px,iter,ifs,0⟩] scope pos) spos) (zca i (eLC fr fi ft fe)):=
 let⟨_,w1,m1⟩:=hi.h;⟨_,ssetlc hN hi' hy S hc w1 (fun C s₀ H₀ fp=>(ht C s₀ H₀ fp).uni) (fun C s₀ H₀ fp=>(he C s₀ H₀ fp).uni) hsw hs hf,SemE.set i (.lc m1 zhc zhC)⟩
end
inductive Kd where
 | v | b | t
def ArgOk(K:ah)(F H:Hp)(v:V):Kd->D->Prop
 | .v,d=>Rep F v d
 | .b,.lst ds=>∃ l vs,v=.ref l/\SqL K H l vs/\Reps F vs ds
 | .b,_=>False
 | .t,.tup ds=>∃ l vs,v=.ref l/\SqT K H l vs/\Reps F vs ds
 | .t,_=>False
inductive ArgsOk(K:ah)(F H:Hp):List Kd->List V->List D->Prop
 | nil:ArgsOk K F H [] [] []
 | cons {k:Kd} {v:V} {d:D} {ks:List Kd} {vs:List V} {ds:List D}:ArgOk K F H v k d->ArgsOk K F H ks vs ds->ArgsOk K F H (k :: ks) (v :: vs) (d :: ds)
def spD(K:ah)(ks:List Kd)(g:List D->Option Ent):Sp:=fun vs H Q _=>∃ F ds r,Same F H/\ArgsOk K F H ks vs ds/\g ds=aa r/\∀ v F' H',Ex F H F' H'->RepR K H F' H' v r->Q v H'
def asT:Ent->Option (List D)
 | .val (.tup ds)=>aa ds
 | .bt ds=>aa ds
 | _=>ab
theorem RepR.toT{K:ah}{H0 F H:Hp}{v:V}{e:Ent}{ds:List D}(r:RepR K H0 F H v e)(h:Same F H)(q:asT e=aa ds):∃ l vs,v=.ref l/\SqT K H l vs/\Reps F vs ds:=by
 cases e with
 | val d=>
  cases d with
  | tup es=>
   cases q
   cases (show Rep F v (.tup _) from r) with
   | tup e rs=>exact⟨_,_,rfl,SqT.of (h _ _ e),rs⟩
  | _=>cases q
 | bt es=>cases q;exact r
 | _=>cases q
def zcx:Kd->Ent->Option D
 | .v,e=>asV e
 | .b,e=>(asL e).map .lst
 | .t,e=>(asT e).map .tup
def zbg:List Kd->List Ent->Option (List D)
 | [],[]=>aa []
 | k :: ks,e :: es=>(zcx k e).bind fun d=>(zbg ks es).map fun ds=>d :: ds
 | _,_=>ab
section
variable {K:ah}{F H F' H' F2 H2:Hp}
theorem RepRs.args:∀ {ks:List Kd} {vs:List V} {es:List Ent} {ds:List D} {F':Hp},Ex F H F' H'->Same F2 F'->RepRs K H F2 H' vs es->zbg ks es=aa ds->∃ F3,Ex F H F3 H'/\Same F' F3/\ArgsOk K F3 H' ks vs ds
 | [],_,_,_,F',x,_,.nil,q=>by cases q;exact⟨F',x,Same.refl _,.nil⟩
 | _ :: _,_,_,_,_,_,_,.nil,q=>by cases q
 | [],_,_,_,_,_,_,.cons _ _,q=>by cases q
 | k :: ks,_,e :: es,ds,F',x,s,.cons r t,q=>by
  simp only[zbg] at q
  obtain⟨d,q1,q⟩:=bind_some q
  obtain⟨ds',q2,q⟩:=map_some q
  cases q
  cases k with
  | v=>
   obtain⟨F3,x3,s3,r3⟩:=r.frz x s q1
   obtain⟨F4,x4,s4,r4⟩:=RepRs.args x3 (s.trans s3) t q2
   exact⟨F4,x4,s3.trans s4,.cons (Rep.mono s4 r3) r4⟩
  | b=>
   obtain⟨ls,q3,q4⟩:=map_some q1
   cases q4
   obtain⟨F4,x4,s4,r4⟩:=RepRs.args x s t q2
   refine⟨F4,x4,s4,.cons (k:=.b) ?_ r4⟩
   obtain⟨l,vs,e,h1,h2⟩:=RepR.toL r (s.trans x.fh) q3
   exact⟨l,vs,e,h1,h2.mono (s.trans s4)⟩
  | t=>
   obtain⟨ls,q3,q4⟩:=map_some q1
   cases q4
   obtain⟨F4,x4,s4,r4⟩:=RepRs.args x s t q2
   refine⟨F4,x4,s4,.cons (k:=.t) ?_ r4⟩
   obtain⟨l,vs,e,h1,h2⟩:=RepR.toT r (s.trans x.fh) q3
   exact⟨l,vs,e,h1,h2.mono (s.trans s4)⟩
end
def zag(ks:List Kd)(g:List D->Option Ent)(fs:FA):FE:=fun δ=>((fs δ).bind (zbg ks)).bind g
section
variable {X:Cx}{es:List Expr}{e:Expr}{fs:FA}{x:Str}{p pos:Pos}{ks:List Kd}{g:List D->Option Ent}
theorem SemE.call{K:ah}{t:TA}{dvs:List V}{E:XK}(m:SemA K t fs)(hd:dvs=[]):SemE K (tCall (spD K ks g) dvs E t) (zag ks g fs):=fun B F H σ δ res Q s q k=>by
 subst hd
 obtain⟨ds,q1,q⟩:=bind_some q
 obtain⟨rs,q2,q3⟩:=bind_some q1
 refine m B F H σ δ rs _ s q2 fun vs F1 H1 x1 r1=>?_
 obtain⟨F2,x2,_,a2⟩:=RepRs.args x1 (Same.refl _) r1 q3
 rw[bF]
 exact⟨F2,ds,res,x2.fh,a2,q,fun v F' H' x3 r3=>k v F' H' (x2.trans x3) (r3.earlier x2.hh)⟩
theorem vcl{CX:CXT}{k j:Nat}{f:af}{fd:bQ}{ps:List Str}{st:Stmt}{E:XK}(F:FnOk X.prog X.w X.K X.mg X.base CX k f fd ps (spD X.K ks g))(D:Def X.K X.mg x st ps f fd)(hr:Room j X.A)(hg:Gl X x)(hx:zcG CX X E)
  (ha:VA X (e :: es) fs) (hjk:k<=j:=by decide) (hdb:(x == ("__debug__" : Str))=false:=by decide) (h1:zao e=true:=by rfl) (h2:es.all zao=true:=by rfl) :
  VE X (.Call (.Name x p) (e :: es) [] pos) (zag ks g fs):=let⟨_,w,m⟩:=ha.h;⟨_,wcl F D hr hg hx w hjk hdb h1 h2,.call m rfl⟩
end
def stN:Kd->D->Option Ent
 | .v,d=>aa (.val d)
 | .b,.lst ds=>aa (.bor ds)
 | .b,_=>ab
 | .t,.tup ds=>aa (.bt ds)
 | .t,_=>ab
def stE:List Kd->List D->Option En
 | [],[]=>aa []
 | k :: ks,d :: ds=>(stN k d).bind fun e=>(stE ks ds).map fun es=>aa e :: es
 | _,_=>ab
def zg6:Out->Option Ent
 | .rt r _=>aa r
 | .nx _=>aa (.val .non)
 | _=>ab
def zcU(ks:List Kd)(m:Nat)(f:FS)(ds:List D):Option Ent:=(stE ks ds).bind fun es=>(f (es ++ aF m ab)).bind zg6
theorem ArgsOk.start{K:ah}{F H:Hp}:∀ {ks:List Kd} {vs:List V} {ds:List D} {es:En},ArgsOk K F H ks vs ds->stE ks ds=aa es->vs.length=es.length/\∀ (i:Nat) (e:Ent),es[i]? = aa (aa e)->(∃ v,vs[i]? = aa v/\RepN K H F H v e)/\e.lk=false/\e.isO=false
 | _,_,_,_,.nil,q=>by cases q;exact⟨rfl,fun i e h=>by simp at h⟩
 | k :: ks,v :: vs,d :: ds,es,.cons a t,q=>by
  simp only[stE] at q
  obtain⟨e0,q1,q⟩:=bind_some q
  obtain⟨es',q2,q⟩:=map_some q
  cases q
  obtain⟨hl,ih⟩:=ArgsOk.start t q2
  refine⟨by simp[hl],fun i e h=>?_⟩
  cases i with
  | succ i=>simpa using ih i e (by simpa using h)
  | zero=>
   have h':e0=e:=by simpa using h
   subst h'
   cases k with
   | v=>cases q1;exact⟨⟨v,rfl,a⟩,rfl,rfl⟩
   | b=>
    cases d with
    | lst ls=>
     cases q1
     obtain⟨l,ws,e,h1,h2⟩:=a
     exact⟨⟨v,rfl,l,ws,e,h1,h2⟩,rfl,rfl⟩
    | _=>cases q1
   | t=>
    cases d with
    | tup ls=>
     cases q1
     obtain⟨l,ws,e,h1,h2⟩:=a
     exact⟨⟨v,rfl,l,ws,e,h1,h2⟩,rfl,rfl⟩
    | _=>cases q1
theorem ArgsOk.length{K:ah}{F H:Hp}:∀ {ks:List Kd} {vs:List V} {ds:List D},ArgsOk K F H ks vs ds->vs.length=ks.length
 | _,_,_,.nil=>rfl
 | _,_,_,.cons _ t=>by rw[aI,aI,ArgsOk.length t]
section
variable {P:aL}{w:aX}{K:ah}{mg:Str->Option ae}{base:ba}{x qual:Str}{st:Stmt}{f:af}{fd:bQ}{N ps:List Str}{k:Nat}{ks:List Kd}{g:List D->Option Ent}
end
end L3

namespace L3
open PySem PySem.Spec PyProof.Rows L2
def pI0(g:Int->Int->D):Ent->Ent->Option Ent:=fun x y=>(iOf x).bind fun i=>(iOf y).map fun j=>.val (g i j)
noncomputable def pI(c:Int->Int->Prop)(g:Int->Int->D):Ent->Ent->Option Ent:=fun x y=>(iOf x).bind fun i=>(iOf y).bind fun j=>gif (c i j) (aa (.val (g i j)))
def b64(i:Int):Prop:=-18446744073709551616<i/\i<18446744073709551616
theorem zd2{i:Int}(h:-18446744073709551616<i/\i<18446744073709551616):b64 i=True:=eq_true h
def psI(j:Int):Prop:=0<j
theorem zcY{j:Int}(h:0<j):psI j=True:=eq_true h
def dvI(j:Int):Prop:=0<j/\j<1073741824
theorem zfH{j:Int}(h:0<j/\j<1073741824):dvI j=True:=eq_true h
theorem zdC{i:Int}(h:-18446744073709551616<i/\i<18446744073709551616):b64 i:=h
section
variable {K:ah}
theorem ziO{g':Int->Int->V}{g:Int->Int->D}(h:∀ i j F,Rep F (g' i j) (g i j)):ziA K (rI0 g') (pI0 g):=fun H0 F H x y e e' res Q fh hh rx ry q k=>by
 obtain⟨i,q1,q⟩:=bind_some q
 obtain⟨j,q2,q⟩:=map_some q
 cases zaS q1
 cases zaS q2
 cases q
 cases za9 rx
 cases za9 ry
 exact⟨i,j,rfl,rfl,k _ F H (Ex.refl fh) (h i j F)⟩
theorem semI{C c:Int->Int->Prop}{g':Int->Int->V}{g:Int->Int->D}(hc:∀ i j,c i j->C i j)(h:∀ i j F,Rep F (g' i j) (g i j)):ziA K (rI C g') (pI c g):=fun H0 F H x y e e' res Q fh hh rx ry q k=>by
 obtain⟨i,q1,q⟩:=bind_some q
 obtain⟨j,q2,q⟩:=bind_some q
 obtain⟨hij,qz⟩:=za0 q
 cases zaS q1
 cases zaS q2
 cases qz
 cases za9 rx
 cases za9 ry
 exact⟨i,j,rfl,rfl,hc i j hij,k _ F H (Ex.refl fh) (h i j F)⟩
end
def zbi:=pI0 fun i j=>.int (i+j)
def zdA:=pI0 fun i j=>.int (i - j)
noncomputable def zdL:=pI (fun i j=>b64 i \/ b64 j) fun i j=>.int (i * j)
noncomputable def zbu:=pI (fun _ j=>psI j) fun i j=>.int (i % j)
noncomputable def zcw:=pI (fun _ j=>dvI j) fun i j=>.int (i / j)
noncomputable def gPow:=pI (fun i j=>(0<=j/\j<=1000000)/\i.natAbs<18446744073709551616) fun i j=>.int (i ^ j.toNat)
def gLt:=pI0 fun i j=>.bl (decide (i<j))
def gLe:=pI0 fun i j=>.bl (decide (i<=j))
def gGt:=pI0 fun i j=>.bl (decide (j<i))
def gGe:=pI0 fun i j=>.bl (decide (j<=i))
def zgi:Ent->Option Ent:=fun x=>(iOf x).map fun i=>.val (.int (-i))
section
variable {X:Cx}
theorem zbL:OpD X (binaryOp .Add) zbi:=⟨_,op_add,ziO fun _ _ _=>.int _⟩
theorem zcW:OpD X (binaryOp .Sub) zdA:=⟨_,op_sub,ziO fun _ _ _=>.int _⟩
theorem zeO:OpD X (binaryOp .Mult) zdL:=⟨_,op_mul,semI (fun _ _ h=>h) fun _ _ _=>.int _⟩
theorem zbU:OpD X (binaryOp .Mod) zbu:=⟨_,op_mod,semI (fun _ _ h=>h) fun _ _ _=>.int _⟩
theorem zcF:OpD X (binaryOp .FloorDiv) zcw:=⟨_,op_fdiv,semI (fun _ _ h=>h) fun _ _ _=>.int _⟩
theorem o_pow:OpD X (binaryOp .Pow) gPow:=⟨_,op_pow,semI (fun _ _ h=>⟨h.1.1,h.1.2,h.2⟩) fun _ _ _=>.int _⟩
theorem o_lt:OpD X (bI .Lt) gLt:=⟨_,op_lt,ziO fun _ _ _=>.bl _⟩
theorem o_le:OpD X (bI .LtE) gLe:=⟨_,op_le,ziO fun _ _ _=>.bl _⟩
theorem o_gt:OpD X (bI .Gt) gGt:=⟨_,op_gt,ziO fun _ _ _=>.bl _⟩
theorem o_ge:OpD X (bI .GtE) gGe:=⟨_,op_ge,ziO fun _ _ _=>.bl _⟩
theorem zfh:UnD X (unaryOp .USub) zgi:=⟨_,un_neg,fun H0 F H x e res Q fh hh r q k=>by
 obtain⟨i,q1,q⟩:=map_some q
 cases zaS q1
 cases q
 cases za9 r
 exact⟨i,rfl,k _ F H (Ex.refl fh) (.int _)⟩⟩
end
def zhe:D->D->Option Bool
 | .non,.non=>aa true | .non,.int _=>aa false | .int _,.non=>aa false | .non,.bl _=>aa false | .bl _,.non=>aa false | .non,.str _=>aa false | .str _,.non=>aa false
 | .int i,.int j=>aa (decide (i=j)) | .bl i,.bl j=>aa (decide (i=j)) | .str i,.str j=>aa (decide (i=j))
 | .int _,.str _=>aa false | .str _,.int _=>aa false | .bl _,.str _=>aa false | .str _,.bl _=>aa false
 | _,_=>ab
def gEq:Ent->Ent->Option Ent
 | .val d,.val d'=>(zhe d d').map fun b=>.val (.bl b)
 | _,_=>ab
def gNe:Ent->Ent->Option Ent
 | .val d,.val d'=>(zhe d d').map fun b=>.val (.bl (!b))
 | _,_=>ab
theorem scEq_ok{F:Hp}{x y:V}{d d':D}{b:Bool}(rx:Rep F x d)(ry:Rep F y d')(q:zhe d d'=aa b):scal x y=true/\decide (x=y)=b:=by
 cases rx <;> cases ry <;> first
  | (cases q;done)
  | (cases q;exact⟨rfl,by simp⟩)
def isN:Ent->Bool
 | .val .non=>true
 | _=>false
def gIsN:Ent->Ent->Option Ent
 | x,.val .non=>aa (.val (.bl (isN x)))
 | _,_=>ab
def gNoN:Ent->Ent->Option Ent
 | x,.val .non=>aa (.val (.bl (!isN x)))
 | _,_=>ab
theorem isN_ok{K:ah}{H0 F H:Hp}{x:V}{e:Ent}(r:RepR K H0 F H x e):decide (x=.non)=isN e:=by
 cases e with
 | val d=>cases r <;> simp[isN]
 | own ds=>obtain⟨l,vs,e,_⟩:=r;subst e;simp[isN]
 | bor ds=>obtain⟨l,vs,e,_⟩:=r;subst e;simp[isN]
 | vw ds=>obtain⟨l,vs,e,_⟩:=r;subst e;simp[isN]
 | vwt ks ds=>obtain⟨A,t⟩:=r;cases t;simp[isN]
 | bt ds=>obtain⟨l,vs,e,_⟩:=r;subst e;simp[isN]
 | obj o=>obtain⟨⟨l,e⟩,_⟩:=r;subst e;simp[isN]
def sOf:Ent->Option Str
 | .val (.str i)=>aa i
 | _=>ab
theorem zbF{e:Ent}{i:Str}(h:sOf e=aa i):e=.val (.str i):=by
 cases e with
 | val d=>cases d <;> first | (cases h;rfl) | (cases h)
 | _=>cases h
def inS(i j:Str):Bool:=!(eZ j i 0 j.length 1).isEmpty
def gInS:Ent->Ent->Option Ent:=fun x y=>(sOf x).bind fun i=>(sOf y).map fun j=>.val (.bl (inS i j))
def gNiS:Ent->Ent->Option Ent:=fun x y=>(sOf x).bind fun i=>(sOf y).map fun j=>.val (.bl (!inS i j))
noncomputable def zdI:Ent->Ent->Option Ent:=fun x y=>(sOf x).bind fun i=>(sOf y).bind fun j=>gif (sz (i.length+j.length)) (aa (.val (.str (i ++ j))))
theorem zdP{n:Nat}(h:n<=1000000):n<=be:=by rw[ci];lia
section
variable {X:Cx}
theorem o_eq:OpD X (bI .Eq) gEq:=⟨_,op_eq,fun H0 F H x y e e' res Q fh hh rx ry q k=>by
 cases e with
 | val d=>
  cases e' with
  | val d'=>
   obtain⟨b,q1,q⟩:=map_some q
   cases q
   obtain⟨h1,h2⟩:=scEq_ok rx ry q1
   exact⟨h1,by rw[h2];exact k _ F H (Ex.refl fh) (.bl _)⟩
  | _=>cases q
 | _=>cases q⟩
theorem o_ne:OpD X (bI .NotEq) gNe:=⟨_,op_ne,fun H0 F H x y e e' res Q fh hh rx ry q k=>by
 cases e with
 | val d=>
  cases e' with
  | val d'=>
   obtain⟨b,q1,q⟩:=map_some q
   cases q
   obtain⟨h1,h2⟩:=scEq_ok rx ry q1
   exact⟨h1,by rw[h2];exact k _ F H (Ex.refl fh) (.bl _)⟩
  | _=>cases q
 | _=>cases q⟩
theorem o_isN:OpD X (bI .Is) gIsN:=⟨_,op_isN,fun H0 F H x y e e' res Q fh hh rx ry q k=>by
 unfold gIsN at q
 split at q
 ·cases q
  exact⟨zhd ry,by rw[isN_ok rx];exact k _ F H (Ex.refl fh) (.bl _)⟩
 ·cases q⟩
theorem o_noN:OpD X (bI .IsNot) gNoN:=⟨_,op_notN,fun H0 F H x y e e' res Q fh hh rx ry q k=>by
 unfold gNoN at q
 split at q
 ·cases q
  exact⟨zhd ry,by rw[isN_ok rx];exact k _ F H (Ex.refl fh) (.bl _)⟩
 ·cases q⟩
theorem o_inS:OpD X (bI .In) gInS:=⟨_,op_in_str,fun H0 F H x y e e' res Q fh hh rx ry q k=>by
 obtain⟨i,q1,q⟩:=bind_some q
 obtain⟨j,q2,q⟩:=map_some q
 cases zbF q1
 cases zbF q2
 cases q
 exact⟨i,j,zcf rx,zcf ry,k _ F H (Ex.refl fh) (.bl _)⟩⟩
theorem o_niS:OpD X (bI .NotIn) gNiS:=⟨_,zg4,fun H0 F H x y e e' res Q fh hh rx ry q k=>by
 obtain⟨i,q1,q⟩:=bind_some q
 obtain⟨j,q2,q⟩:=map_some q
 cases zbF q1
 cases zbF q2
 cases q
 exact⟨i,j,zcf rx,zcf ry,k _ F H (Ex.refl fh) (.bl _)⟩⟩
theorem zeV:OpD X (binaryOp .Add) zdI:=⟨_,ziW,fun H0 F H x y e e' res Q fh hh rx ry q k=>by
 obtain⟨i,q1,q⟩:=bind_some q
 obtain⟨j,q2,q⟩:=bind_some q
 obtain⟨hl,qz⟩:=za0 q
 cases zbF q1
 cases zbF q2
 cases qz
 exact⟨i,j,zcf rx,zcf ry,zdP hl,k _ F H (Ex.refl fh) (.str _)⟩⟩
end
def zcR:Ent->Ent->Option Ent:=fun x y=>(asL x).bind fun ds=>(iOf y).bind fun i=>(atI ds i).map .val
def zez:Ent->Option (List D)
 | .val (.tup ds)=>aa ds
 | _=>ab
theorem zdh{e:Ent}{ds:List D}(h:zez e=aa ds):e=.val (.tup ds):=by
 cases e with
 | val d=>cases d <;> first | (cases h;rfl) | (cases h)
 | _=>cases h
def zfi:Ent->Ent->Option Ent:=fun x y=>(zez x).bind fun ds=>(iOf y).bind fun i=>(atI ds i).map .val
def btOf:Ent->Option (List D)
 | .bt ds=>aa ds
 | _=>ab
theorem btOf_some{e:Ent}{ds:List D}(h:btOf e=aa ds):e=.bt ds:=by
 cases e with
 | bt d=>cases h;rfl
 | _=>cases h
def ziU:Ent->Ent->Option Ent:=fun x y=>(btOf x).bind fun ds=>(iOf y).bind fun i=>(atI ds i).map .val
def mkS(l:List Nat):Str:=⟨l.toArray⟩
noncomputable def gIxS:Ent->Ent->Option Ent:=fun x y=>(sOf x).bind fun z=>(iOf y).bind fun i=>gif (sz z.length) ((atI z.cps.toList i).map fun c=>.val (.str (mkS [c])))
theorem zhj{F:Hp}{vs:List V}{ds:List D}{i:Int}{d:D}(r:Reps F vs ds)(q:atI ds i=aa d):∃ v,atI vs i=aa v/\Rep F v d:=by
 unfold atI at q ⊢
 obtain⟨j,q1,q⟩:=bind_some q
 obtain⟨v,h1,h2⟩:=r.get q
 exact⟨v,by rw[r.length,q1];exact h1,h2⟩
section
variable {X:Cx}
theorem zcb:IxD X zcR:=⟨_,ix_list,fun H0 F H x y e e' res Q fh hh rx ry q k=>by
 obtain⟨ds,q1,q⟩:=bind_some q
 obtain⟨i,q2,q⟩:=bind_some q
 obtain⟨d,q3,q⟩:=map_some q
 cases q
 cases zaS q2
 obtain⟨l,vs,e,h1,h2⟩:=RepR.toL rx fh q1
 obtain⟨v,h3,h4⟩:=zhj h2 q3
 exact⟨l,vs,i,v,e,za9 ry,h1,h3,k v F H (Ex.refl fh) h4⟩⟩
theorem zdM:IxD X zfi:=⟨_,ix_tup,fun H0 F H x y e e' res Q fh hh rx ry q k=>by
 obtain⟨ds,q1,q⟩:=bind_some q
 obtain⟨i,q2,q⟩:=bind_some q
 obtain⟨d,q3,q⟩:=map_some q
 cases q
 cases zaS q2
 cases zdh q1
 cases (show Rep F x (.tup ds) from rx) with
 | tup e rs=>
  obtain⟨v,h3,h4⟩:=zhj rs q3
  exact⟨_,_,i,v,rfl,za9 ry,SqT.of (fh _ _ e),h3,k v F H (Ex.refl fh) h4⟩⟩
theorem x_bt:IxD X ziU:=⟨_,ix_tup,fun H0 F H x y e e' res Q fh hh rx ry q k=>by
 obtain⟨ds,q1,q⟩:=bind_some q
 obtain⟨i,q2,q⟩:=bind_some q
 obtain⟨d,q3,q⟩:=map_some q
 cases q
 cases zaS q2
 cases btOf_some q1
 obtain⟨l,vs,e,h1,h2⟩:=rx
 obtain⟨v,h3,h4⟩:=zhj h2 q3
 exact⟨l,vs,i,v,e,za9 ry,h1,h3,k v F H (Ex.refl fh) h4⟩⟩
theorem x_str:IxD X gIxS:=⟨_,ix_str,fun H0 F H x y e e' res Q fh hh rx ry q k=>by
 obtain⟨z,q1,q⟩:=bind_some q
 obtain⟨i,q2,q⟩:=bind_some q
 obtain⟨hl,qz⟩:=za0 q
 obtain⟨c,q3,qz⟩:=map_some qz
 cases qz
 cases zaS q2
 cases zbF q1
 exact⟨z,i,c,zcf rx,za9 ry,zdP hl,q3,k _ F H (Ex.refl fh) (.str _)⟩⟩
end
noncomputable def gCat:Ent->Ent->Option Ent:=fun x y=>(asLt x).bind fun ds=>(asLt y).bind fun es=>gif (sz (ds.length+es.length)) (aa (.own (ds ++ es)))
section
variable {X:Cx}
theorem o_cat:OpD X (binaryOp .Add) gCat:=⟨_,op_cat,fun H0 F H x y e e' res Q fh hh rx ry q k=>by
 obtain⟨ds,q1,q⟩:=bind_some q
 obtain⟨es,q2,q⟩:=bind_some q
 obtain⟨hl,qz⟩:=za0 q
 cases qz
 obtain⟨l,vs,e,h1,h2⟩:=RepR.toLt rx fh q1
 obtain⟨l',ws,e',h1',h2'⟩:=RepR.toLt ry fh q2
 refine⟨l,l',vs,ws,e,e',h1,h1',by rw[h2.length,h2'.length];exact zdP hl,fun p hp=>?_⟩
 exact k _ _ _ (Ex.lay fh hp) ⟨p,_,rfl,hh.free hp,zah,h2.append h2',fh.free hp⟩⟩
end
abbrev FO:=En->Option (Option Int)
def oNo:FO:=fun _=>aa ab
def oSo(fe:FE):FO:=fun δ=>((fe δ).bind iOf).map aa
def SemO(K:ah)(t:TO)(f:FO):Prop:=∀ (B:Bd) (F H:Hp) (σ:Sg) (δ:En) (o:Option Int) (Q:Option Int->Hp->Prop),RS K B F H σ δ->f δ=aa o->(∀ F' H',Ex F H F' H'->Q o H')->t σ H Q
structure VO(X:Cx)(e:Option Expr)(f:FO):Prop where
 h:∃ t,WO X e t/\SemO X.K t f
def SemL(K:ah)(r:V->Option Int->Option Int->Hp->VK->Prop)(g:Ent->Option Int->Option Int->Option Ent):Prop:=∀ (H0 F H:Hp) (x:V) (lo hi:Option Int) (e res:Ent) (Q:VK),Same F H->Same H0 H->RepR K H0 F H x e->g e lo hi=aa res ->
 (∀ v F' H',Ex F H F' H'->RepR K H0 F' H' v res->Q v H')->r x lo hi H Q
def SlD(X:Cx)(g:Ent->Option Int->Option Int->Option Ent):Prop:=∃ r,SlR X r/\SemL X.K r g
def eSl(g:Ent->Option Int->Option Int->Option Ent)(fe:FE)(fl fu:FO):FE:=fun δ=>(fe δ).bind fun x=>(fl δ).bind fun l=>(fu δ).bind fun u=>g x l u
def zbI{α:Type}(xs:List α)(lo hi:Option Int):List α:=(xs.drop (HT.sIx xs.length 0 lo)).take (HT.sIx xs.length xs.length hi - HT.sIx xs.length 0 lo)
def gSlL:Ent->Option Int->Option Int->Option Ent:=fun x lo hi=>(asL x).map fun ds=>.own (zbI ds lo hi)
theorem Reps.cut{F:Hp}{vs:List V}{ds:List D}(r:Reps F vs ds)(lo hi:Option Int):Reps F (cutV vs lo hi) (zbI ds lo hi):=by
 unfold cutV zbI
 rw[r.length]
 exact(r.drop _).take _
section
variable {X:Cx}{e:Expr}{lo hi:Option Expr}{fe:FE}{fl fu:FO}{pos p2:Pos}
theorem von:VO X ab oNo:=⟨_,won,fun B F H σ δ o Q s q k=>by cases q;exact k F H (Ex.refl s.fh)⟩
theorem vos(h:VE X e fe):VO X (aa e) (oSo fe):=by
 obtain⟨t,w,m⟩:=h.h
 refine⟨_,wos w,fun B F H σ δ o Q s q k=>?_⟩
 obtain⟨i,q1,q⟩:=map_some q
 cases q
 obtain⟨r,q2,q3⟩:=bind_some q1
 cases zaS q3
 exact m B F H σ δ _ _ s q2 fun v F1 H1 x1 r1=>⟨i,za9 r1,k F1 H1 x1⟩
theorem vsl{g:Ent->Option Int->Option Int->Option Ent}(hr:SlD X g)(he:VE X e fe)(hl:VO X lo fl)(hu:VO X hi fu):VE X (.Subscript e (.Slice lo hi ab p2) pos) (eSl g fe fl fu):=by
 obtain⟨t,w,m⟩:=he.h
 obtain⟨t1,w1,m1⟩:=hl.h
 obtain⟨t2,w2,m2⟩:=hu.h
 obtain⟨rr,hr1,hr2⟩:=hr
 refine⟨_,wslice hr1 w w1 w2,fun B F H σ δ res Q s q k=>?_⟩
 obtain⟨x,q1,q⟩:=bind_some q
 obtain⟨l,q2,q⟩:=bind_some q
 obtain⟨u,q3,q⟩:=bind_some q
 refine m B F H σ δ x _ s q1 fun v F1 H1 x1 r1=>?_
 refine m1 B F1 H1 σ δ l _ (s.ext x1) q2 fun F2 H2 x2=>?_
 refine m2 B F2 H2 σ δ u _ ((s.ext x1).ext x2) q3 fun F3 H3 x3=>?_
 have xx:=(x1.trans x2).trans x3
 exact hr2 H F3 H3 v l u x res Q xx.fh xx.hh ((r1.ext x2).ext x3) q fun v' F' H' x4 r4=>k v' F' H' (xx.trans x4) r4
theorem l_list:SlD X gSlL:=⟨_,sl_list,fun H0 F H x lo hi e res Q fh hh rx q k=>by
 obtain⟨ds,q1,q⟩:=map_some q
 cases q
 obtain⟨l,vs,e,h1,h2⟩:=RepR.toL rx fh q1
 exact⟨l,vs,e,h1,fun p hp=>k _ _ _ (Ex.lay fh hp) ⟨p,_,rfl,hh.free hp,zah,h2.cut lo hi,fh.free hp⟩⟩⟩
end
def zb2:List Ent->Option Ent
 | [x]=>match zez x with
  | some ds=>aa (.val (.int ds.length))
  | none=>(asL x).map fun ds=>.val (.int ds.length)
 | _=>ab
noncomputable def zaX:List Ent->Option Ent
 | [x]=>(sOf x).bind fun z=>gif (sz z.length) (aa (.val (.int z.length)))
 | _=>ab
def zdk:List Ent->Option Ent
 | [x]=>match zez x with
  | some ds=>aa (.own ds)
  | none=>(asL x).map fun ds=>.own ds
 | _=>ab
def zc4:List Ent->Option Ent
 | [x]=>(asL x).map fun ds=>.val (.tup ds)
 | _=>ab
def zcV:List Ent->Option Ent
 | [.val (.int i)]=>aa (.val (.int i))
 | [.val (.bl b)]=>aa (.val (.int (if b then 1 else 0)))
 | _=>ab
theorem zc5{K:ah}{H0 F H:Hp}{vs:List V}{x:Ent}(r:RepRs K H0 F H vs [x]):∃ v,vs=[v]/\RepR K H0 F H v x:=by
 cases r with
 | cons h t=>cases t;exact⟨_,rfl,h⟩
theorem zeQ{g:List Ent->Option Ent}{es:List Ent}{res:Ent}(h0:g []=ab)(h2:∀ a b r,g (a :: b :: r)=ab)(q:g es=aa res):∃ x,es=[x]:=by
 match es,q with
 | [],q=>rw[h0] at q;cases q
 | [x],_=>exact⟨x,rfl⟩
 | a :: b :: r,q=>rw[h2] at q;cases q
theorem RepR.seq{K:ah}{H0 F H:Hp}{v:V}{x:Ent}{ds:List D}(r:RepR K H0 F H v x)(fh:Same F H)(q:zez x=aa ds \/ asL x=aa ds):∃ l vs,v=.ref l/\(SqL K H l vs \/ SqT K H l vs)/\Reps F vs ds:=by
 rcases q with q | q
 ·cases zdh q
  cases (show Rep F v (.tup ds) from r) with
  | tup e rs=>exact⟨_,_,rfl,.inr (SqT.of (fh _ _ e)),rs⟩
 ·obtain⟨l,vs,e,h1,h2⟩:=RepR.toL r fh q
  exact⟨l,vs,e,.inl h1,h2⟩
section
variable {X:Cx}
theorem zdy:zet X (.builtin "len") zb2:=⟨_,zgH,fun H0 F H vs es res Q fh hh r q k=>by
 obtain⟨x,rfl⟩:=zeQ rfl (fun _ _ _=>rfl) q
 obtain⟨v,rfl,rz⟩:=zc5 r
 have go:∀ ds,(zez x=aa ds \/ asL x=aa ds)->res=.val (.int ds.length)->∃ p ys,[v]=[V.ref p]/\(SqL X.K H p ys \/ SqT X.K H p ys)/\Q (.int ys.length) H:=fun ds h e=>by
  obtain⟨l,ws,e',h1,h2⟩:=RepR.seq rz fh h
  subst e e'
  exact⟨l,ws,rfl,h1,by rw[h2.length];exact k _ F H (Ex.refl fh) (.int _)⟩
 simp only[zb2] at q
 split at q
 ·rename_i ds h;exact go ds (.inl h) (bg q).symm
 ·obtain⟨ds,h,q⟩:=map_some q;exact go ds (.inr h) q.symm⟩
theorem zb8:zet X (.builtin "len") zaX:=⟨_,zgu,fun H0 F H vs es res Q fh hh r q k=>by
 obtain⟨x,rfl⟩:=zeQ rfl (fun _ _ _=>rfl) q
 obtain⟨v,rfl,rz⟩:=zc5 r
 obtain⟨z,q1,q⟩:=bind_some q
 obtain⟨hl,qz⟩:=za0 q
 cases qz
 cases zbF q1
 cases zcf rz
 exact⟨z,rfl,zdP hl,k _ F H (Ex.refl fh) (.int _)⟩⟩
theorem zhs:zet X (.type "list") zdk:=⟨_,zgq,fun H0 F H vs es res Q fh hh r q k=>by
 obtain⟨x,rfl⟩:=zeQ rfl (fun _ _ _=>rfl) q
 obtain⟨v,rfl,rz⟩:=zc5 r
 have go:∀ ds,(zez x=aa ds \/ asL x=aa ds)->res=.own ds->∃ p ys,[v]=[V.ref p]/\(SqL X.K H p ys \/ SqT X.K H p ys)/\∀ l,H l=ab->Q (.ref l) (upd H l (.lst ys)):=fun ds h e=>by
  obtain⟨l,ws,e',h1,h2⟩:=RepR.seq rz fh h
  subst e e'
  exact⟨l,ws,rfl,h1,fun p hp=>k _ _ _ (Ex.lay fh hp) ⟨p,_,rfl,hh.free hp,zah,h2,fh.free hp⟩⟩
 simp only[zdk] at q
 split at q
 ·rename_i ds h;exact go ds (.inl h) (bg q).symm
 ·obtain⟨ds,h,q⟩:=map_some q;exact go ds (.inr h) q.symm⟩
theorem zer:zet X (.type "tuple") zc4:=⟨_,zfW,fun H0 F H vs es res Q fh hh r q k=>by
 obtain⟨x,rfl⟩:=zeQ rfl (fun _ _ _=>rfl) q
 obtain⟨v,rfl,rz⟩:=zc5 r
 obtain⟨ds,q1,q⟩:=map_some q
 cases q
 obtain⟨l,ws,e',h1,h2⟩:=RepR.toL rz fh q1
 subst e'
 exact⟨l,ws,rfl,.inl ⟨h1,fun p hp=>k _ _ _ (Ex.alloc fh hp) (.tup zah (h2.mono (Same.alloc (fh.free hp))))⟩⟩⟩
theorem zii:zet X (.type "int") zcV:=⟨_,call_int1,fun H0 F H vs es res Q fh hh r q k=>by
 unfold zcV at q
 split at q
 ·cases q
  obtain⟨v,rfl,rz⟩:=zc5 r
  cases za9 rz
  exact .inl ⟨_,rfl,k _ F H (Ex.refl fh) (.int _)⟩
 ·cases q
  obtain⟨v,rfl,rz⟩:=zc5 r
  cases zgE rz
  exact .inr ⟨_,rfl,k _ F H (Ex.refl fh) (.int _)⟩
 ·cases q⟩
end
def tyN:D->String
 | .non=> "NoneType" | .bl _=> "bool" | .int _=> "int" | .str _=> "str" | .tup _=> "tuple" | .lst _=> "list" | .dic _ _=> "dict"
def isiD(T:String)(d:D):Bool:=tyN d == T || (T == "int" && tyN d == "bool")
def gIsi(T:String):Ent->Option Ent
 | .val d=>aa (.val (.bl (isiD T d)))
 | _=>ab
theorem kit_all{K:ah}{T:String}(hT:T = "bool" \/ T = "int" \/ T = "str" \/ T = "tuple" \/ T = "list")(d:D):iE K (.type (tyN d)) (.type T)=aa (isiD T d):=by
 rcases hT with rfl | rfl | rfl | rfl | rfl <;> cases d <;> kernel_rfl
theorem rep_ty{K:ah}{F H:Hp}{v:V}{d:D}(fh:Same F H)(r:Rep F v d):TyOf K H v (.type (tyN d)):=by
 cases r with
 | non=>exact .non
 | bl b=>exact .bl b
 | int i=>exact .int i
 | str z=>exact .str z
 | tup e _=>exact .tup (fh _ _ e)
 | lst e _=>exact .lst (fh _ _ e)
 | dic e _ _=>exact .dK (.inr ⟨_,fh _ _ e⟩)
section
variable {X:Cx}{a:Expr}{fa:FE}{x:Str}{p p1 pos:Pos}{T:String}{Tn:Str}
theorem visi(ha:VE X a fa)(hg:Gl X "isinstance")(hm:X.mg "isinstance" = ab)(hb:a9 "isinstance" = aa (.builtin "isinstance"))(hgT:Gl X Tn)(hmT:X.mg Tn=ab)(hbT:a9 Tn=aa (.type T))(hT:T = "bool" \/ T = "int" \/ T = "str" \/ T = "tuple" \/ T = "list" :=by decide)
  (h1:zao a=true:=by rfl) (hn:Tn ≠ "__name__" :=by decide) (hd:(Tn == ("__debug__" : Str))=false:=by decide):VE X (.Call (.Name "isinstance" p) [a,.Name Tn p1] [] pos) (ex1 (gIsi T) fa):=by
 obtain⟨t,w,m⟩:=ha.h
 refine⟨_,wcb call_isi hg hm hb (wac w (wac (wbt hgT hmT hbT hn hd) wnil) h1) (h1:=h1),fun B F H σ δ res Q s q k=>?_⟩
 obtain⟨e,q1,q⟩:=bind_some q
 cases e with
 | val d=>
  cases q
  exact m B F H σ δ _ _ s q1 fun v F1 H1 x1 r1=>⟨v,T,_,_,rfl,rep_ty x1.fh r1,kit_all hT d,k _ F1 H1 x1 (.bl _)⟩
 | _=>cases q
end
def iL(fe:FE):FI:=fun δ=>(fe δ).bind fun x=>match x with
 | .val (.lst ds)=>aa ds
 | .own ds=>aa ds
 | _=>ab
def iB(i:Nat):FI:=fun δ=>match δ[i]? with
 | some (aa (.bor ds))=>aa ds
 | _=>ab
def iT(fe:FE):FI:=fun δ=>(fe δ).bind zez
def b62(j:Int):Prop:=-(2 ^ 62)<=j/\j<2 ^ 62
theorem zcD{j:Int}(h:-1000000000<j/\j<1000000000):b62 j:=by unfold b62;lia
theorem zd5{j:Int}(h:-1000000000<j/\j<1000000000):b62 j=True:=eq_true (zcD h)
noncomputable def iR1(fa:FA):FI:=fun δ=>(fa δ).bind fun es=>match es with
 | [e]=>(iOf e).bind fun j=>gif (b62 j) (aa ((aq j.toNat).map fun(i:Nat)=>D.int (0+i)))
 | _=>ab
noncomputable def iR2(fa:FA):FI:=fun δ=>(fa δ).bind fun es=>match es with
 | [e,e']=>(iOf e).bind fun i=>(iOf e').bind fun j=>gif (b62 i/\b62 j) (aa ((aq (j - i).toNat).map fun(k:Nat)=>D.int (i+k)))
 | _=>ab
theorem zdU{K:ah}{B F0:Hp}{a:af}{vs:List V}{ds:List D}(h:∀ F H,Same F0 F->Same F H->Same B H->SqL K H a vs)(r:Reps F0 vs ds):ItOk B F0 (Itl K a) ds:=fun F H s1 s2 s3=>by
 have hq:=h F H s1 s2 s3
 refine⟨⟨vs,hq,by rw[r.length];exact ak _⟩,fun i d e=>?_⟩
 obtain⟨v,h1,h2⟩:=r.get e
 refine⟨⟨vs,v,hq,h1⟩,fun x H' y=>?_⟩
 obtain⟨e',y⟩:=y
 subst e'
 have:=y vs hq
 rw[h1] at this
 cases this
 exact⟨F,Ex.refl s2,Rep.mono s1 h2⟩
theorem itOk_tup{K:ah}{B F0:Hp}{a:af}{vs:List V}{ds:List D}(h:F0 a=aa (.tup vs))(r:Reps F0 vs ds):ItOk B F0 (Itt K a) ds:=fun F H s1 s2 s3=>by
 have hq:SqT K H a vs:=SqT.of (s2 _ _ (s1 _ _ h))
 refine⟨⟨vs,hq,by rw[r.length];exact ak _⟩,fun i d e=>?_⟩
 obtain⟨v,h1,h2⟩:=r.get e
 refine⟨⟨vs,v,hq,h1⟩,fun x H' y=>?_⟩
 obtain⟨e',y⟩:=y
 subst e'
 have:=y vs hq
 rw[h1] at this
 cases this
 exact⟨F,Ex.refl s2,Rep.mono s1 h2⟩
theorem zh5{B F0:Hp}{lo:Int}{n:Nat}:ItOk B F0 (Itr lo n) ((aq n).map fun(i:Nat)=>D.int (lo+i)):=fun F H s1 s2 s3=>by
 refine⟨by simp[Itr],fun i d e=>?_⟩
 rw[aD] at e
 by_cases hi:i<n
 ·rw[bC hi] at e
  cases e
  refine⟨hi,fun x H' y=>?_⟩
  obtain⟨e',y⟩:=y
  subst e' y
  exact⟨F,Ex.refl s2,.int _⟩
 ·rw[dm (by simp;lia)] at e;cases e
section
variable {X:Cx}{tg e b:Expr}{es:List Expr}{fe:FE}{fa:FA}{p pos:Pos}{x:Str}
theorem iil(h:VE X e fe):VI X tg e (iL fe):=by
 obtain⟨t,w,m⟩:=h.h
 refine⟨_,il w,fun B F H σ δ ds R s q k=>?_⟩
 obtain⟨r,q1,q⟩:=bind_some q
 refine m B F H σ δ r _ s q1 fun v F1 H1 x1 r1=>?_
 split at q
 ·cases q
  cases (show Rep F1 v (.lst ds) from r1) with
  | lst e rs=>exact⟨_,rfl,⟨_,SqL.of (x1.fh _ _ e)⟩,k _ F1 H1 x1 (zdU (fun F H s1 s2 _=>SqL.of (s2 _ _ (s1 _ _ e))) rs)⟩
 ·cases q
  obtain⟨F2,x2,_,r2⟩:=RepR.frz x1 (Same.refl _) r1 rfl
  cases r2 with
  | lst e rs=>exact⟨_,rfl,⟨_,SqL.of (x2.fh _ _ e)⟩,k _ F2 H1 x2 (zdU (fun F H s1 s2 _=>SqL.of (s2 _ _ (s1 _ _ e))) rs)⟩
 ·cases q
theorem iib(i:Nat)(hN:X.N[i]? = aa x:=by rfl)(hv:Vis X.env.scope x:=by first | exact az rfl | exact br (az rfl) | exact br (br rfl))(hd:(x == ("__debug__" : Str))=false:=by decide)
  (hcd:(x == ("__classdict__" : Str))=false:=by decide):VI X tg (.Name x pos) (iB i):=by
 refine⟨_,il (wv i hN hv hd hcd),fun B F H σ δ ds R s q k=>?_⟩
 unfold iB at q
 split at q
 ·rename_i es e
  cases q
  obtain⟨v,h1,l,vs,e,h2,h3⟩:=s.ent i _ e
  exact⟨v,h1,l,e,⟨vs,s.bh.seq h2⟩,k _ F H (Ex.refl s.fh) (zdU (fun F H _ _ s3=>s3.seq h2) h3)⟩
 ·cases q
theorem iit(h:VE X e fe):VI X tg e (iT fe):=by
 obtain⟨t,w,m⟩:=h.h
 refine⟨_,it w,fun B F H σ δ ds R s q k=>?_⟩
 obtain⟨r,q1,q⟩:=bind_some q
 refine m B F H σ δ r _ s q1 fun v F1 H1 x1 r1=>?_
 cases zdh q
 cases (show Rep F1 v (.tup ds) from r1) with
 | tup e rs=>exact⟨_,rfl,⟨_,SqT.of (x1.fh _ _ e)⟩,k _ F1 H1 x1 (itOk_tup e rs)⟩
theorem iir1(hg:Gl X "range")(hm:X.mg "range" = ab)(ha:VA X [e] fa)(h1:zao e=true:=by rfl):VI X tg (.Call (.Name "range" p) [e] [] pos) (iR1 fa):=by
 obtain⟨t,w,m⟩:=ha.h
 refine⟨_,ir1 hg hm w h1,fun B F H σ δ ds R s q k=>?_⟩
 obtain⟨es,q1,q⟩:=bind_some q
 refine m B F H σ δ es _ s q1 fun vs F1 H1 x1 r1=>?_
 split at q
 ·obtain⟨j,q2,q⟩:=bind_some q
  obtain⟨hj,qz⟩:=za0 q
  cases qz
  cases zaS q2
  obtain⟨v,rfl,rz⟩:=zc5 r1
  cases za9 rz
  exact⟨j,rfl,hj.1,hj.2,k _ F1 H1 x1 zh5⟩
 ·cases q
theorem iir2(hg:Gl X "range")(hm:X.mg "range" = ab)(ha:VA X [e,b] fa)(h1:zao e=true:=by rfl)(h2:zao b=true:=by rfl):VI X tg (.Call (.Name "range" p) [e,b] [] pos) (iR2 fa):=by
 obtain⟨t,w,m⟩:=ha.h
 refine⟨_,ir2 hg hm w h1 h2,fun B F H σ δ ds R s q k=>?_⟩
 obtain⟨es,q1,q⟩:=bind_some q
 refine m B F H σ δ es _ s q1 fun vs F1 H1 x1 r1=>?_
 split at q
 ·obtain⟨i,q2,q⟩:=bind_some q
  obtain⟨j,q3,q⟩:=bind_some q
  obtain⟨hj,qz⟩:=za0 q
  cases qz
  cases zaS q2
  cases zaS q3
  cases r1 with
  | cons ra rt=>
   obtain⟨w',rfl,rb⟩:=zc5 rt
   cases za9 ra
   cases za9 rb
   exact⟨i,j,rfl,⟨hj.1.1,hj.1.2,hj.2.1,hj.2.2⟩,k _ F1 H1 x1 zh5⟩
 ·cases q
end
end L3

namespace L3
open PySem PySem.Spec PyProof.Rows L2
section
variable {prog:aL}{w:aX}{A:aS}{R:Result->ag->Prop}{I:af}{fp wr:List af}{n:Nat}{P:Nat->ae->Prop}{St:Nat->ba->Prop}{kw:List (Str × ae)}
theorem mloop(W:Walks prog w A.in1 I fp wr n P St)(bt:Nat->Nat->Bool)(hc:CmpOf prog w A.in1 .Lt P bt)(S:af)(hSf:S ∉ fp) :
  ∀ (k j:Nat) (s:ag) (vb:ae) (c:Nat),n - (j+1)=k->j+1<=n->St (j+1) s.heap->P (argBest bt j) vb ->
  s.heap.get? S=aa { cls:=.type "list",dict:=ab,data:=.seq #[vb,vb] c,slots:=#[]} ->
  (∀ v h' tk,P (argBest bt (n - 1)) v->(∀ b o,b ∉ wr->b ≠ S->s.heap.get? b=aa o->h'.get? b=aa o)->R (.ok (.ret v)) { s with heap:=h',toks:=tk}) ->
  codeAny (model prog w) A (.builtin "min.loop" ⟨[.ref I,.none,.ref S],kw⟩) R s:=by
 have hSw:S ∉ wr:=fun h=>hSf (W.sub _ h)
 have hnm:(toString "min" ++ toString ".loop" : String) = "min.loop" :=by decide
 intro k
 induction k with
 | zero=>
  intro j s vb c hk hj hst hPb hS hR
  have hin:j+1=n:=by lia
  refine codeAny_builtin dX ?_
  rw[cu b7 _]
  show aw _ A.in1 (seqItems? (.ref S) >>= _) _ _ s
  refine ai (wpAny_seqItems hS rfl ?_)
  show aw _ A.in1 (tryCatch (pyNext (.ref I)) _ >>= _) _ _ s
  refine ai (wpAny_tryCatch (W.done s _ _ (hin ▸ hst) fun h' tk hk'=>?_))
  have hS':=hk' S _ hSw hS
  show aw _ A.in1 (updateSeq S (fun _=>#[]) >>= _) _ _ _
  refine ai ?_
  refine wpAny_updateSeq hS' rfl (ai (wpAny_letGo (ar ?_)))
  exact hR vb _ tk (by rw[<- hin];exact hPb) fun b o hbw hbS e=>(bT _ _ (cx hbS)).trans (hk' b o hbw e)
 | succ k ih=>
  intro j s vb c hk hj hst hPb hS hR
  have hlt:j+1<n:=by lia
  refine codeAny_builtin dX ?_
  rw[cu b7 _]
  show aw _ A.in1 (seqItems? (.ref S) >>= _) _ _ s
  refine ai (wpAny_seqItems hS rfl ?_)
  show aw _ A.in1 (tryCatch (pyNext (.ref I)) _ >>= _) _ _ s
  refine ai (wpAny_tryCatch (W.item (j+1) s _ _ hlt hst fun v h' tk hP hst' hk'=>?_))
  have hS':=hk' S _ hSw hS
  show aw _ A.in1 (tryCatch (holding [v,v] (richCompare .Lt v vb >>= _)) _ >>= _) _ _ _
  refine ai (wpAny_tryCatch (bO (ai (hc (j+1) (argBest bt j) v vb _ _ _ hP hPb ?_))))
  refine ai (bO (wpAny_truthy_bool ?_))
  refine ai (wpAny_letGo (ar ?_))
  cases hb:bt (j+1) (argBest bt j) with
  | true=>
   simp only[if_true]
   refine ai ?_
   refine wpAny_updateSeq hS' rfl (ai (wpAny_letGo ?_))
   rw[hnm]
   refine ar ⟨plainId_quiet b7 _,ih (j+1) _ v _ (by lia) hlt (W.frame _ _ _ hst' fun b hbf o e=>?_) (by simp only[argBest,hb,if_true];exact hP) (cK _ hS' rfl) fun v' h'' tk'' hP' hk''=>?_⟩
   ·exact(bT _ _ (fun h:S=b=>hSf (by rw[h];exact hbf))).trans e
   ·exact hR v' h'' tk'' hP' fun b o hbw hbS e=>hk'' b o hbw hbS ((bT _ _ (cx hbS)).trans (hk' b o hbw e))
  | false=>
   simp only[bm,if_false]
   refine ai (wpAny_letGo ?_)
   rw[hnm]
   refine ar ⟨plainId_quiet b7 _,ih (j+1) _ vb c (by lia) hlt hst' (by simp only[argBest,hb,bm,if_false];exact hPb) hS' fun v' h'' tk'' hP' hk''=>?_⟩
   exact hR v' h'' tk'' hP' fun b o hbw hbS e=>hk'' b o hbw hbS (hk' b o hbw e)
theorem mloop1(W:Walks prog w A.in1 I fp wr n P St)(bt:Nat->Nat->Bool)(hc:CmpOf prog w A.in1 .Lt P bt)(S:af)(hSf:S ∉ fp)(hn:0<n){s:ag}{c:Nat}(hst:St 0 s.heap)
  (hS:s.heap.get? S=aa { cls:=.type "list",dict:=ab,data:=.seq #[] c,slots:=#[]})
  (hR:∀ v h' tk,P (argBest bt (n - 1)) v->(∀ b o,b ∉ wr->b ≠ S->s.heap.get? b=aa o->h'.get? b=aa o)->R (.ok (.ret v)) { s with heap:=h',toks:=tk}) :
  codeAny (model prog w) A (.builtin "min.loop" ⟨[.ref I,.none,.ref S],kw⟩) R s:=by
 have hSw:S ∉ wr:=fun h=>hSf (W.sub _ h)
 have hnm:(toString "min" ++ toString ".loop" : String) = "min.loop" :=by decide
 refine codeAny_builtin dX ?_
 rw[cu b7 _]
 show aw _ A.in1 (seqItems? (.ref S) >>= _) _ _ s
 refine ai (wpAny_seqItems hS rfl ?_)
 show aw _ A.in1 (tryCatch (pyNext (.ref I)) _ >>= _) _ _ s
 refine ai (wpAny_tryCatch (W.item 0 s _ _ hn hst fun v h' tk hP hst' hk'=>?_))
 have hS':=hk' S _ hSw hS
 show aw _ A.in1 (updateSeq S (fun _=>#[v,v]) >>= _) _ _ _
 refine ai ?_
 refine wpAny_updateSeq hS' rfl ?_
 rw[hnm]
 refine ar ⟨plainId_quiet b7 _,mloop W bt hc S hSf _ 0 _ v _ rfl hn (W.frame _ _ _ hst' fun b hbf o e=>?_) hP (cK _ hS' rfl) fun v' h'' tk'' hP' hk''=>?_⟩
 ·exact(bT _ _ (fun h:S=b=>hSf (by rw[h];exact hbf))).trans e
 ·exact hR v' h'' tk'' hP' fun b o hbw hbS e=>hk'' b o hbw hbS ((bT _ _ (cx hbS)).trans (hk' b o hbw e))
theorem mloop0{d:ae}{kn:Str}(W:Walks prog w A.in1 I fp wr n P St)(S:af)(hSf:S ∉ fp)(hn:n=0){s:ag}{c:Nat}(hst:St 0 s.heap)
  (hS:s.heap.get? S=aa { cls:=.type "list",dict:=ab,data:=.seq #[] c,slots:=#[]})
  (hR:∀ h' tk,(∀ b o,b ∉ wr->b ≠ S->s.heap.get? b=aa o->h'.get? b=aa o)->R (.ok (.ret d)) { s with heap:=h',toks:=tk}) :
  codeAny (model prog w) A (.builtin "min.loop" ⟨[.ref I,.none,.ref S],[(kn,d)]⟩) R s:=by
 refine codeAny_builtin dX ?_
 rw[cu b7 _]
 show aw _ A.in1 (seqItems? (.ref S) >>= _) _ _ s
 refine ai (wpAny_seqItems hS rfl ?_)
 show aw _ A.in1 (tryCatch (pyNext (.ref I)) _ >>= _) _ _ s
 refine ai (wpAny_tryCatch (W.done s _ _ (hn ▸ hst) fun h' tk hk'=>?_))
 show aw _ A.in1 (rule _ >>= _) _ _ _
 refine ai (wpAny_rule ?_)
 exact ar (hR h' tk fun b o hbw _ e=>hk' b o hbw e)
end
section
variable {prog:aL}{w:aX}{A:aS}{E:ae->ag->Prop}{s:ag}{l:af}{xs:Array (Int × Tok)}{d:ae}
theorem argsMinD(a d:ae):argsOk "min" ⟨[a],[(cU "default",d)]⟩:=by unfold argsOk;kernel_rfl
theorem call_minD{Q:ae->ag->Prop}(hh:A.handled=ab)(hl:s.heap.IsList l (intItems xs))
  (h1:∀ v h' tk,0<xs.size->(intItems xs)[argBest (fun i j=>decide (numAt xs i<numAt xs j)) (xs.size - 1)]? = aa v->(∀ b o,s.heap.get? b=aa o->h'.get? b=aa o)->Q v { s with heap:=h',toks:=tk})
  (h2:∀ h' tk,xs.size=0->(∀ b o,s.heap.get? b=aa o->h'.get? b=aa o)->Q d { s with heap:=h',toks:=tk}) :
  aw (model prog w) A (call (.builtin "min") [.ref l] [(cU "default",d)]) Q E s:=by
 have hnm:(toString "min" ++ toString ".loop" : String) = "min.loop" :=by decide
 refine kmb_tree PySem.F.kind_min PySem.F.plain_min PySem.F.entry_min (argsMinD _ _) ?_
 show aw _ A.in1 (gk "min" ["key","default"] 0 ⟨[],[(cU "default",d)]⟩ >>= _) _ _ s
 refine ai (wpAny_of_eq (show gk "min" ["key","default"] 0 ⟨[],[(cU "default",d)]⟩=pure [ab,aa d] from rfl) ?_)
 refine ai (ar ?_)
 refine ai (iter_intList hl fun s₂ e st hfp hlI=>?_)
 subst e
 refine ai (wpAny_newObj_type ?_)
 rw[hnm]
 have W:=lu (prog:=prog) (w:=w) (A:=A.in1) hh s.heap.objs.size l hlI (intItems xs)
 have hsz:(intItems xs).size=xs.size:=by simp[intItems]
 have hSf:(s.heap.push { cls:=.type "list_iterator",data:=.fields #[.ref l,.int 0 0]}).objs.size ∉ [s.heap.objs.size,l]:=fun hm=>ca _ (hfp _ hm)
 have keep:∀ h':ba,(∀ b o,b ∉ [s.heap.objs.size]->b ≠ (s.heap.push { cls:=.type "list_iterator",data:=.fields #[.ref l,.int 0 0]}).objs.size->((s.heap.push { cls:=.type "list_iterator",data:=.fields #[.ref l,.int 0 0]}).push { cls:=.type "list",data:=.seq ([]:List ae).toArray}).get? b=aa o->h'.get? b=aa o)->∀ b o,s.heap.get? b=aa o->h'.get? b=aa o:=fun h' hk b o e=>by
  refine hk b o (fun hm=>?_) (fun hb=>?_) (aj _ (aj _ e))
  ·exact absurd (aH e) (by rw[aT.mp hm];exact ca _)
  ·have h1:=aH e
   rw[b9] at hb
   exact absurd h1 (by rw[hb];exact gN.mpr (cE _))
 by_cases hx:xs.size=0
 ·refine ar ⟨plainId_quiet b7 _,mloop0 W _ hSf (by rw[hsz];exact hx) (W.frame _ _ _ st fun b _ o e=>aj _ e) (aG _ rfl) fun h' tk hk=>?_⟩
  exact h2 h' tk hx (keep h' hk)
 ·refine ar ⟨plainId_quiet b7 _,mloop1 W _ (CmpOf.ints_lt (numAt xs) (fun _ _=>intItems_at)) _ hSf (by lia) (W.frame _ _ _ st fun b _ o e=>aj _ e) (aG _ rfl) fun v h' tk hP hk=>?_⟩
  exact h1 v h' tk (by lia) (by simpa [intItems] using hP) (keep h' hk)
end
def isI:D->Option Int
 | .int i=>aa i
 | _=>ab
def zfO:List D->Option (List Int)
 | []=>aa []
 | d :: ds=>(isI d).bind fun i=>(zfO ds).map fun is=>i :: is
def minI:List Int->Option Int
 | []=>ab
 | i :: is=>aa (is.foldl (fun a b=>if b<a then b else a) i)
theorem zd6{F:Hp}:∀ {vs:List V} {ds:List D} {ns:List Int},Reps F vs ds->zfO ds=aa ns->vs=ns.map V.int
 | _,_,_,.nil,q=>by cases q;rfl
 | _,d :: ds,ns,.cons r t,q=>by
  simp only[zfO] at q
  obtain⟨i,q1,q⟩:=bind_some q
  obtain⟨is,q2,q⟩:=map_some q
  cases q
  cases d <;> cases q1
  cases r
  rw[aE,zd6 t q2]
theorem zd4:∀ {ns:List Int} {us:List ae},Vals (ns.map V.int) us->∃ l:List (Int × Tok),us=l.map (fun p=>cr p.1 p.2)/\l.map (·.1)=ns
 | [],us,r=>by
  rw[b5] at r
  cases r
  exact⟨[],rfl,rfl⟩
 | n :: ns,us,r=>by
  rw[aE] at r
  cases r with
  | cons h t=>
   obtain⟨tk,e⟩:=h
   subst e
   obtain⟨l,ex1,ex2⟩:=zd4 t
   exact⟨(n,tk) :: l,by rw[ex1];rfl,by rw[aE,ex2]⟩
theorem zfF(val:Nat->Int):∀ k,val (argBest (fun i j=>decide (val i<val j)) k)=((aq k).map fun i=>val (i+1)).foldl (fun a b=>if b<a then b else a) (val 0)
 | 0=>rfl
 | k+1=>by
  rw[cA,bM,jn,<- zfF val k]
  have e:argBest (fun i j=>decide (val i<val j)) (k+1)=if decide (val (k+1)<val (argBest (fun i j=>decide (val i<val j)) k))=true then k+1 else argBest (fun i j=>decide (val i<val j)) k:=rfl
  rw[e]
  generalize argBest (fun i j=>decide (val i<val j)) k=z
  simp only[decide_eq_true_eq,aE,b5,cc,List.foldl_nil]
  split <;> rfl
theorem minI_best{l:List (Int × Tok)}(hn:0<l.length):minI (l.map (·.1))=aa (numAt l.toArray (argBest (fun i j=>decide (numAt l.toArray i<numAt l.toArray j)) (l.length - 1))):=by
 cases l with
 | nil=>simp at hn
 | cons p l=>
  rw[zfF (numAt (p :: l).toArray)]
  show aa _=aa _
  congr 1
  rw[show(p :: l).length - 1=l.length by simp]
  have e0:numAt (p :: l).toArray 0=p.1:=by simp[numAt]
  have ex1:(aq l.length).map (fun i=>numAt (p :: l).toArray (i+1))=l.map (·.1):=by
   apply fL
   ·simp
   ·intro i h1 h2
    simp at h1
    simp[numAt,h1]
  rw[e0,ex1]
section
variable {X:Cx}
theorem zhE{pins:List (af × Obj)}{σ:L2.St}{H:Hp}{s:ag}{p:af}{ns:List Int}(I:Inv X pins σ H s)(h:SqL X.K H p (ns.map V.int)):∃ l:List (Int × Tok),s.heap.IsList p (intItems l.toArray)/\l.map (·.1)=ns:=by
 obtain⟨its,r,pl,_⟩:=I.list h
 obtain⟨l,ex1,ex2⟩:=zd4 r
 refine⟨l,?_,ex2⟩
 have:=pl.isList
 rw[ex1] at this
 simpa [intItems] using this
def gMinD:Ent->Ent->Option Ent:=fun x y=>(asL x).bind fun ds=>(zfO ds).bind fun ns=>match minI ns with
 | some m=>aa (.val (.int m))
 | none=>match y with
  | .val d=>aa (.val d)
  | _=>ab
def rMinD(K:ah):R2:=fun x y H Q=>∃ (q:af) (ns:List Int),x=.ref q/\SqL K H q (ns.map V.int)/\Q (match minI ns with | some m=>.int m | none=>y) H
theorem vminD{a d:Expr}{fa fd:FE}{p pos kpos:Pos}(ha:VE X a fa)(hd:VE X d fd)(hg:Gl X "min")(hm:X.mg "min" = ab)(hb:a9 "min" = aa (.builtin "min"))(hc:X.calm=true:=by rfl)(hs:zao a=true:=by rfl) :
  VE X (.Call (.Name "min" p) [a] [⟨aa "default",d,kpos⟩] pos) (ex2 gMinD fa fd):=by
 obtain⟨ta,wa,ma⟩:=ha.h
 obtain⟨td,wd,md⟩:=hd.h
 refine⟨tOp (rMinD X.K) ta td,⟨?_⟩,.op ?_ ma md⟩
 ·intro pins s σ H Q I h
  refine cC (zdz I hg hm hb ?_ (by decide) (by decide))
  have hA:=(wac wa wnil hs).h pos pins s σ H (fun xs H1=>match xs with | [x]=>td σ H1 fun y H2=>rMinD X.K x y H2 Q | _=>False) I h
  refine kT (thn hA fun us s1 h1=>?_) (by rw[zau hs];rfl) (by rw[zau hs];rfl)
  obtain⟨vs,H1,I1,r1,q1⟩:=h1
  cases r1 with
  | nil=>exact cf q1
  | cons rx rt=>
   cases rt with
   | cons _ _=>exact cf q1
   | nil=>
    have hK:=pk_cons (nm:=aa (cU "default")) (kpos:=kpos) wd.h pk_nil pos pins s1 σ H1 (fun ys H2=>match ys with | [y]=>rMinD X.K _ y H2 Q | _=>False) I1 q1
    refine thn hK fun ws s2 h2=>?_
    obtain⟨zs,H2,I2,r2,q2⟩:=h2
    cases r2 with
    | nil=>exact cf q2
    | cons ry rt2=>
     cases rt2 with
     | cons _ _=>exact cf q2
     | nil=>
      obtain⟨q,ns,rfl,hq,q2⟩:=q2
      cases rx
      obtain⟨l,hl,e⟩:=zhE I2 hq
      subst e
      refine call_minD (I2.ok.hd hc) hl (fun v h' tk hn hv kp=>?_) fun h' tk hn kp=>?_
      ·obtain⟨t,e⟩:=intItems_at hv
       subst e
       rw[minI_best (by simpa using hn)] at q2
       exact⟨.int _,H2,I2.kept (t':=tk) kp,⟨t,by simp⟩,q2⟩
      ·have e:l=[]:=f7 (by simpa using hn)
       subst e
       exact⟨_,H2,I2.kept (t':=tk) kp,ry,q2⟩
 ·intro H0 F H x y e e' res Q fh hh rx ry q k
  obtain⟨ds,q1,q⟩:=bind_some q
  obtain⟨ns,q2,q⟩:=bind_some q
  obtain⟨l,ws,el,h1,h2⟩:=RepR.toL rx fh q1
  rw[zd6 h2 q2] at h1
  refine⟨l,ns,el,h1,?_⟩
  cases hm:minI ns with
  | some m=>simp only[hm] at q ⊢;cases q;exact k _ F H (Ex.refl fh) (.int _)
  | none=>
   simp only[hm] at q ⊢
   cases e' with
   | val d=>cases q;exact k _ F H (Ex.refl fh) ry
   | _=>cases q
end
end L3

namespace L3
open PySem PySem.Spec PyProof.Rows L2
def sgn(z:Str):List Str:=z.cps.toList.map fun c=>⟨#[c]⟩
theorem zda(l:List Nat):(mkS l).cps.toList=l:=by simp[mkS]
theorem mkS_cps(z:Str):mkS z.cps.toList=z:=by cases z;simp[mkS]
theorem zaJ(l:List Nat):(mkS l).length=l.length:=by simp[mkS,jN]
def clp(n:Int)(v:Option Int)(d:Int):Int:=match v with
 | none=>d
 | some i=>max 0 (min (if i<0 then i+n else i) n)
theorem clp_ok(n:Nat)(v:Option Int)(d:Nat):clp n v d=((HT.sIx n d v:Nat):Int):=by
 cases v with
 | none=>rfl
 | some i=>
  show max 0 (min (if i<0 then i+(n:Int) else i) n)=(((if i<0 then (i+(n:Int)).toNat else min i.toNat n:Nat)):Int)
  by_cases h:i<0
  ·rw[if_pos h,if_pos h];lia
  ·rw[if_neg h,if_neg h];lia
theorem strIx(lo hi:Option Int)(n:Nat):cP lo hi 1 n=cP (aa ((HT.sIx n 0 lo:Nat):Int)) (aa ((HT.sIx n n hi:Nat):Int)) 1 n:=by
 have ex1:∀ a:Nat,a<=n->max (0:Int) (min (if (a:Int)<0 then (a:Int)+n else a) n)=a:=fun a h=>by
  rw[if_neg (by lia)];lia
 unfold cP
 simp only[show((1:Int) > 0)=True from by simp,if_true]
 rw[ex1 _ (HT.sIx_le n 0 (aO n) lo),ex1 _ (HT.sIx_le n n (ak n) hi)]
 show sliceRange (clp n lo ((0:Nat):Int)) (clp n hi (n:Int)) 1=_
 rw[clp_ok,clp_ok]
theorem slice_cut(x:Str)(lo hi:Option Int):j9 x lo hi=mkS (zbI x.cps.toList lo hi):=by
 have hl:x.cps.toList.length=x.length:=by simp[jN]
 unfold j9 zbI
 rw[strIx,hl]
 have h1:=HT.sIx_le x.length 0 (aO _) lo
 have h2:=HT.sIx_le x.length x.length (ak _) hi
 generalize HT.sIx x.length 0 lo=a at h1
 generalize HT.sIx x.length x.length hi=b at h2
 by_cases hab:a<=b
 ·rw[f9 hab h2]
  split
  ·rename_i h
   have hz:b - a=x.length:=by simpa using h
   have ha:a=0:=by lia
   subst ha
   rw[iH,hz,<- hl,fM,mkS_cps]
  ·rw[<- f9 hab h2,StrLaws.sliced_plain x hab h2]
   rfl
 ·have e:cP (aa (a:Int)) (aa (b:Int)) 1 x.length=[]:=by
   have n1:¬ ((a:Int)<0):=by lia
   have n2:¬ ((b:Int)<0):=by lia
   have ex1:max (0:Int) (min (a:Int) (x.length:Int))=a:=by lia
   have ex2:max (0:Int) (min (b:Int) (x.length:Int))=b:=by lia
   simp only[cP,n1,n2,if_false,ex1,ex2,show((1:Int) > 0)=True from by simp,if_true,sliceRange]
   rw[if_neg (by lia)]
   simp
  rw[e]
  split
  ·rename_i h
   have hz:0=x.length:=by simpa using h
   lia
  ·rw[show b - a=0 by lia,j4]
   rfl
section
variable {X:Cx}
theorem sl_str:SlR X (fun x lo hi H Q=>∃ z,x=.str z/\z.length<=be/\Q (.str (mkS (zbI z.cps.toList lo hi))) H):=by
 intro pins s σ H x v vl vu lo hi sl Q I rx hs pl pu h
 obtain⟨z,rfl,hz,q⟩:=h
 obtain⟨t,rfl⟩:=rx
 obtain⟨o,ho,hc,hd⟩:=hs
 refine⟨"str",_,PySem.F.slot_str_getitem.lookup,typeIs_str _ _ _,?_⟩
 have fin:∀ t' k,EP X pins σ Q (.str (j9 z lo hi) t') { s with toks:=k}:=fun t' k=>⟨.str _,H,I.tok k,⟨t',rfl⟩,by rw[slice_cut];exact q⟩
 cases pl with
 | none=>
  cases pu with
  | none=>exact wpAny_getItem_str_slice (l:=ab) (u:=ab) (st:=ab) ⟨o,ho,hc,hd⟩ rfl (post_val_or_str ⟨aJ (gY z _ _) hz,fin⟩)
  | int j u=>exact wpAny_getItem_str_slice (l:=ab) (u:=aa (j,u)) (st:=ab) ⟨o,ho,hc,hd⟩ rfl (post_val_or_str ⟨aJ (gY z _ _) hz,fin⟩)
 | int i u=>
  cases pu with
  | none=>exact wpAny_getItem_str_slice (l:=aa (i,u)) (u:=ab) (st:=ab) ⟨o,ho,hc,hd⟩ rfl (post_val_or_str ⟨aJ (gY z _ _) hz,fin⟩)
  | int j u'=>exact wpAny_getItem_str_slice (l:=aa (i,u)) (u:=aa (j,u')) (st:=ab) ⟨o,ho,hc,hd⟩ rfl (post_val_or_str ⟨aJ (gY z _ _) hz,fin⟩)
noncomputable def zdu:Ent->Option Int->Option Int->Option Ent:=fun x lo hi=>(sOf x).bind fun z=>gif (sz z.length) (aa (.val (.str (mkS (zbI z.cps.toList lo hi)))))
theorem zfg:SlD X zdu:=⟨_,sl_str,fun H0 F H x lo hi e res Q fh hh rx q k=>by
 obtain⟨z,q1,q⟩:=bind_some q
 obtain⟨hl,qz⟩:=za0 q
 cases qz
 cases zbF q1
 exact⟨z,zcf rx,zdP hl,k _ F H (Ex.refl fh) (.str _)⟩⟩
theorem zfE{z:Str}:∀ {acc:List ae} {k:Nat},(∀ j v,acc[j]? = aa v->SignAt z (k+j) v)->Vals (((z.cps.toList.drop k).take acc.length).map fun c=>V.str ⟨#[c]⟩) acc
 | [],k,_=>by simp;exact .nil
 | v :: r,k,h=>by
  obtain⟨c,u,hc,rfl⟩:=h 0 v rfl
  have hk:k<z.cps.toList.length:=by
   have:=(dv.mp hc).1
   simpa using this
  rw[bK hk,aI,iY,aE]
  have e:z.cps.toList[k]=c:=by
   have:=dv.mp hc
   simpa using this.2
  rw[e]
  refine .cons ⟨u,rfl⟩ (zfE (k:=k+1) fun j v hv=>?_)
  have:=h (j+1) v (by simpa using hv)
  rwa [show k+(j+1)=k+1+j by lia] at this
theorem vals_all{z:Str}{acc:Array ae}(h:ItemsOf (SignAt z) acc z.cps.size):Vals ((sgn z).map V.str) acc.toList:=by
 obtain⟨h1,h2⟩:=h
 have:=zfE (z:=z) (acc:=acc.toList) (k:=0) (fun j v e=>by rw[bq];exact h2 j v (by simpa using e))
 rw[iH,show acc.toList.length=z.cps.toList.length by simpa using h1,fM] at this
 unfold sgn
 rw[db]
 exact this
theorem call_tupS(hc:X.calm=true):zdt X (.type "tuple") (fun xs H Q=>∃ z,xs=[.str z]/\z.length<=1000000/\∀ p,H p=ab->Q (.ref p) (upd H p (.tup ((sgn z).map V.str)))):=by
 intro pins s σ H xs us Q I r h
 obtain⟨z,rfl,hz,q⟩:=h
 obtain⟨u,rfl,t,rfl⟩:=zfM r
 refine call_tuple_str (I.ok.hd hc) z t (fun h' tk acc kp ha=>?_) (zdP hz)
 have I1:=I.kept (t':=tk) kp
 refine⟨.ref h'.objs.size,_,I1.laid (t':=tk) (o:=.tup ((sgn z).map V.str)) (fun b o e=>aj _ e) (ak _) ⟨?_,acc.toList,vals_all ha,⟨_,aG _ rfl,rfl,0,by simp⟩⟩,rfl,q _ (I1.hok.fresh (ak _))⟩
 rw[am]
 unfold sgn
 rw[am]
 exact zdP hz
theorem zgX{F:Hp}:∀ (zs:List Str),Reps F (zs.map V.str) (zs.map D.str)
 | []=>.nil
 | z :: zs=>.cons (.str z) (zgX zs)
noncomputable def gTupS:List Ent->Option Ent
 | [x]=>(sOf x).bind fun z=>gif (sz z.length) (aa (.val (.tup ((sgn z).map .str))))
 | _=>ab
theorem c_tupS(hc:X.calm=true:=by rfl):zet X (.type "tuple") gTupS:=⟨_,call_tupS hc,fun H0 F H vs es res Q fh hh r q k=>by
 obtain⟨x,rfl⟩:=zeQ rfl (fun _ _ _=>rfl) q
 obtain⟨v,rfl,rz⟩:=zc5 r
 obtain⟨z,q1,q⟩:=bind_some q
 obtain⟨hl,qz⟩:=za0 q
 cases qz
 cases zbF q1
 cases zcf rz
 exact⟨z,rfl,hl,fun p hp=>k _ _ _ (Ex.alloc fh hp) (.tup zah (zgX _))⟩⟩
end
def eBM(g:Ent->List Ent->Option Ent)(fo:FE)(fs:FA):FE:=fun δ=>(fo δ).bind fun x=>(fs δ).bind fun es=>g x es
structure MtD(X:Cx)(T:String)(name:Str)(g:Ent->List Ent->Option Ent):Prop where
 h:∃ id r,PlainAttrs T/\Slot T name id/\typeOf (.builtin id)=pure (.type "method_descriptor")/\MtR X id r /\
  (∀ (H0 F H:Hp) (x:V) (e:Ent) (es:List Ent) (res:Ent),Same F H->RepR X.K H0 F H x e->g e es=aa res->tyV X.K T x H) /\
  ∀ (H0 F H:Hp) (x:V) (vs:List V) (e:Ent) (es:List Ent) (res:Ent) (Q:VK),Same F H->Same H0 H->RepR X.K H0 F H x e->RepRs X.K H0 F H vs es->g e es=aa res->(∀ v F' H',Ex F H F' H'->RepR X.K H0 F' H' v res->Q v H')->r x vs H Q
section
variable {X:Cx}{T:String}{name:Str}{g:Ent->List Ent->Option Ent}{o e:Expr}{es:List Expr}{fo:FE}{fs:FA}{apos cpos:Pos}
theorem vbm(M:MtD X T name g)(ho:VE X o fo)(ha:VA X (e :: es) fs)(hbase:ck o name X.env (eval o X.env)=eval o X.env:=by rfl)(hl:decide ((e :: es).length+0+0<30)=true:=by rfl)(hline:(apos.endLine == cpos.line)=true:=by rfl)
  (h1:zao e=true:=by rfl) (h2:es.all zao=true:=by rfl):VE X (.Call (.Attribute o name apos) (e :: es) [] cpos) (eBM g fo fs):=by
 obtain⟨t,wo,mo⟩:=ho.h
 obtain⟨ta,wa,ma⟩:=ha.h
 obtain⟨id,r,pa,sl,ht,hm,hty,hsem⟩:=M.h
 refine⟨_,wbm pa sl ht hm wo wa hbase hl hline h1 h2,fun B F H σ δ res Q s q k=>?_⟩
 obtain⟨x,q1,q⟩:=bind_some q
 obtain⟨rs,q2,q⟩:=bind_some q
 refine mo B F H σ δ x _ s q1 fun v F1 H1 x1 r1=>⟨hty H F1 H1 v x rs res x1.fh r1 q,?_⟩
 refine ma B F1 H1 σ δ rs _ (s.ext x1) q2 fun vs F2 H2 x2 r2=>?_
 exact hsem H F2 H2 v vs x rs res Q x2.fh (x1.trans x2).hh (r1.ext x2) (r2.earlier x1.hh) q fun v' F' H' x3 r3=>k v' F' H' ((x1.trans x2).trans x3) r3
end
section
variable {X:Cx}
end
end L3

namespace L3
open PySem PySem.Spec PyProof.Rows L2
theorem len1{α:Type}{us:List α}(h:us.length=1):∃ a0,us=[a0]:=match us,h with
 | [a0],_=>⟨a0,rfl⟩
theorem len2{α:Type}{us:List α}(h:us.length=2):∃ a0 a1,us=[a0,a1]:=match us,h with
 | [a0,a1],_=>⟨a0,a1,rfl⟩
theorem len3{α:Type}{us:List α}(h:us.length=3):∃ a0 a1 a2,us=[a0,a1,a2]:=match us,h with
 | [a0,a1,a2],_=>⟨a0,a1,a2,rfl⟩
theorem len4{α:Type}{us:List α}(h:us.length=4):∃ a0 a1 a2 a3,us=[a0,a1,a2,a3]:=match us,h with
 | [a0,a1,a2,a3],_=>⟨a0,a1,a2,a3,rfl⟩
theorem len5{α:Type}{us:List α}(h:us.length=5):∃ a0 a1 a2 a3 a4,us=[a0,a1,a2,a3,a4]:=match us,h with
 | [a0,a1,a2,a3,a4],_=>⟨a0,a1,a2,a3,a4,rfl⟩
structure FunA(K:ah)(x qual:Str)(st:Stmt)(f:af)(fd:bQ):Prop where
 ex:∃ (oc:ae) (od:Option af) (dV kV doc pm:ae) (an:Option af) (cdv ct:ae) (osl:Array (Option ae)),
  fd=aV x qual (zal st) (zaj st) (zad st) dV kV doc pm an cdv ct/\K.lookup f=aa ⟨oc,od,.func fd,osl⟩/\aR K cdv qual=true
 kp:aM K (.ref f)=true
theorem FunA.of{K:ah}{x qual:Str}{st:Stmt}{f:af}{fd:bQ}(F:Fun K x qual st f fd):FunA K x qual st f fd:=
 let⟨oc,od,kV,doc,pm,an,cdv,ct,osl,e,l,c⟩:=F.ex;⟨⟨oc,od,.none,kV,doc,pm,an,cdv,ct,osl,e,l,c⟩,F.kp⟩
section
variable {P:aL}{w:aX}{K:ah}{mg:Str->Option ae}{base:ba}{x qual:Str}{st:Stmt}{f:af}{fd:bQ}{N ps:List Str}{k:Nat}{ks:List Kd}{g:List D->Option Ent}
theorem zbr(F:FunA K x qual st f fd)(S:FnScope N ps (zad st))(fb:FS)(hk:ks.length=ps.length)(hg:∀ ds r,g ds=aa r->zcU ks (N.length - ps.length) fb ds=aa r)
  (hbody:∀ (cdv:ae) (A:aS) (outer:List Env) (s:ag) (H:Hp) (E:XK),Room k (A.deeper (envOfC qual (zad st) s.heap.objs.size f cdv))->VSs (cxOf CX0 P w K mg base N qual (zad st) f cdv A outer s H E).nox (zaj st) fb) :
  FnOk P w K mg base CX0 (k+1) f fd ps (spD K ks g):=by
 obtain⟨oc,od,dV,kV,doc,pm,an,cdv,ct,osl,rfl,lk,hcd⟩:=F.ex
 refine fn_of lk hcd S (fun vs H Q E h=>?_) fun A outer s H vs Q E hr h=>?_
 ·obtain⟨F,ds,r,_,a,_⟩:=h
  rw[a.length,hk]
 ·obtain⟨F,ds,r,fh,a,q,kk⟩:=h
  obtain⟨t,wt,m⟩:=(hbody cdv A outer s H E hr).h
  refine⟨t,wt.h.nox,?_⟩
  obtain⟨es,q1,q2⟩:=bind_some (hg ds r q)
  obtain⟨out,q3,q4⟩:=bind_some q2
  obtain⟨hl,he⟩:=a.start q1
  have hvs:=a.length
  have hap:∀ (i:Nat) (e:Ent),(es ++ aF (N.length - ps.length) ab)[i]? = aa (aa e)->es[i]? = aa (aa e):=fun i e h=>by
   by_cases hi:i<es.length
   ·rwa [b6 hi] at h
   ·rw[cD (by lia),dM] at h
    split at h <;> cases h
  have s0:RS K ⟨H,ab⟩ F H (L2.start N vs) (es ++ aF (N.length - ps.length) ab):=by
   refine⟨fh,Same.refl H,?_,fun i e h=>?_,fun a b l ds e hab h1=>?_,fun a b e1 e2 v1 v2 ad hab q1 _ _ _ q5 _ _=>?_,fun w o hw _=>by cases hw⟩
   ·unfold L2.start
    simp only[ay,am,c6]
    lia
   ·obtain⟨⟨v,h1,h2⟩,_⟩:=he i e (hap i e h)
    refine⟨v,?_,h2⟩
    unfold L2.start
    rw[b6 (by rw[am];exact(aP.mp h1).1),aD,h1]
    rfl
   ·have:=(he a _ (hap a _ h1)).2.1
    cases this
   ·obtain⟨_,_,ho⟩:=he a _ (hap a _ q1)
    rw[ho] at q5
    cases q5
  refine m ⟨H,ab⟩ F H (L2.start N vs) _ out _ s0 q3 ?_
  cases out with
  | nx δ'=>cases q4;exact fun σ' F' H' s' y=>kk .non F' H' ⟨y.ff,s'.fh,s'.bh,y.nw⟩ .non
  | rt r' δ'=>cases q4;exact fun v σ' F' H' s' y z=>kk v F' H' ⟨y.ff,s'.fh,s'.bh,y.nw⟩ z
  | bk δ'=>cases q4
  | ct δ'=>cases q4
end
def gK{α:Type}(n:Nat)(us ws:List α):List α:=if us.length=n/\ws.length=1 then us ++ ws else []
theorem gK_shape{α:Type}{n m:Nat}{us ws:List α}(h:(gK n us ws).length=m+1):us.length=n/\ws.length=1/\gK n us ws=us ++ ws:=by
 unfold gK at h ⊢
 split at h
 ·rename_i hc;rw[if_pos hc];exact⟨hc.1,hc.2,rfl⟩
 ·cases h
theorem gK_rel{n:Nat}{vs:List V}{us:List ae}{zs:List V}{ws:List ae}(r:Vals vs us)(rz:Vals zs ws):Vals (gK n vs zs) (gK n us ws):=by
 unfold gK
 rw[r.length,rz.length]
 split
 ·exact r.append rz
 ·exact .nil
structure DefD(K:ah)(mg:Str->Option ae)(x:Str)(st:Stmt)(ps:List Str)(f:af)(fd:bQ):Prop where
 fn:FunA K x x st f fd
 mg:mg x=aa (.ref f)
 b:Binds K fd ps []
 b1:Binds K fd ps [.bool false]
 kb:KBinds K fd ps [ps.getLastD ""] (gK (ps.length - 1)) (gK (ps.length - 1))
def DfOk(K:ah)(df:ae):Prop:=∃ (T:af) (o:Obj) (n:Nat),df=.ref T/\K.lookup T=aa o/\o.data=.seq #[.bool false] n
section
variable {X:Cx}{es:List Expr}{e d:Expr}{fs:FA}{fk:FE}{x:Str}{p pos kpos:Pos}{ks:List Kd}{g:List D->Option Ent}
theorem RepRs.snoc{K:ah}{H0 F H:Hp}{v:V}{e:Ent}(r:RepR K H0 F H v e):∀ {vs:List V} {es:List Ent},RepRs K H0 F H vs es->RepRs K H0 F H (vs ++ [v]) (es ++ [e])
 | _,_,.nil=>.cons r .nil
 | _,_,.cons h t=>.cons h (RepRs.snoc r t)
theorem vclF{CX:CXT}{k j:Nat}{f:af}{fd:bQ}{ps:List Str}{st:Stmt}{E:XK}(F:FnOk X.prog X.w X.K X.mg X.base CX k f fd ps (spD X.K ks g))(D:DefD X.K X.mg x st ps f fd)(hr:Room j X.A)(hg:Gl X x)(hx:zcG CX X E)
  (ha:VA X (e :: es) fs) (hjk:k<=j:=by decide) (hdb:(x == ("__debug__" : Str))=false:=by decide) (h1:zao e=true:=by rfl) (h2:es.all zao=true:=by rfl) :
  VE X (.Call (.Name x p) (e :: es) [] pos) (zag ks g fs):=let⟨_,w,m⟩:=ha.h;⟨_,⟨pe_call F (hr.mono hjk) hg D.mg D.fn.kp D.b .nil hx w.h hdb (zau h1) (zcJ h2)⟩,.call m rfl⟩
end
end L3

namespace L3
open PySem L2
theorem zbh{f g:FS}{δ δ':En}(h:f δ=aa (.nx δ')):zaT f g δ=g δ':=by
 unfold zaT;rw[h];rfl
theorem fIfT{ft:FT}{f g:FS}{δ:En}(h:ft δ=aa true):fIf ft f g δ=f δ:=by unfold fIf;rw[h];rfl
theorem fIfF{ft:FT}{f g:FS}{δ:En}(h:ft δ=aa false):fIf ft f g δ=g δ:=by unfold fIf;rw[h];rfl
theorem zbM{tg:FG}{f:FS}{d:D}{ds:List D}{δ δ1 δ2:En}(h1:tg d δ=aa δ1)(h2:f δ1=aa (.nx δ2)):loop tg f (d :: ds) δ=loop tg f ds δ2:=by
 show((tg d δ).bind fun δ1=>(f δ1).bind (lpO (loop tg f ds)))=_
 rw[h1]
 show(f δ1).bind (lpO (loop tg f ds))=_
 rw[h2]
 rfl
theorem zbP(I:Nat->En->Prop){tg:FG}{f:FS}:∀ (ds:List D) (k:Nat) (δ:En),
  (∀ i d δ,ds[i]? = aa d->I (k+i) δ->∃ δ1 δ2,tg d δ=aa δ1/\(f δ1=aa (.nx δ2) \/ f δ1=aa (.ct δ2))/\I (k+i+1) δ2)->I k δ ->
  ∃ δ',loop tg f ds δ=aa (.nx δ')/\I (k+ds.length) δ'
 | [],k,δ,_,h0=>⟨δ,rfl,h0⟩
 | d :: ds,k,δ,h,h0=>by
  obtain⟨δ1,δ2,h1,h2,h3⟩:=h 0 d δ rfl h0
  obtain⟨s',h4,h5⟩:=zbP I ds (k+1) δ2 (fun i d' s hd hi=>by
   have:=h (i+1) d' s (by simpa using hd) (by rw[show k+(i+1)=k+1+i by lia];exact hi)
   rwa [show k+(i+1)=k+1+i by lia] at this) h3
  refine⟨s',?_,by rw[aI,show k+(ds.length+1)=k+1+ds.length by lia];exact h5⟩
  show((tg d δ).bind fun δ1=>(f δ1).bind (lpO (loop tg f ds)))=_
  rw[h1]
  show(f δ1).bind (lpO (loop tg f ds))=_
  rcases h2 with h2 | h2
  ·rw[h2];exact h4
  ·rw[h2];exact h4
theorem zg2{ft:D->Option Bool}{fe:D->Option Ent}(ds out:List D)(hl:out.length=ds.length)(h1:∀ d ∈ ds,ft d=aa true)(h2:∀ (i:Nat) (d:D),ds[i]? = aa d->∃ y,(fe d).bind asV=aa y/\out[i]? = aa y):zcv ft fe ds=aa out:=by
 induction ds generalizing out with
 | nil=>cases out with
  | nil=>rfl
  | cons _ _=>simp at hl
 | cons d ds ih=>
  cases out with
  | nil=>simp at hl
  | cons y out=>
   obtain⟨y',ex1,ex2⟩:=h2 0 d rfl
   cases ex2
   simp only[zcv]
   rw[h1 d av,ex1,ih out (by simpa using hl) (fun x hx=>h1 x (al _ hx)) fun i x hx=>by simpa using h2 (i+1) x (by simpa using hx)]
   rfl
theorem zen{fr:List Nat}{fi:FI}{ft:FT}{fe:FE}{δ:En}{ds out:List D}(hi:fi δ=aa ds)(hc:zcv (fun d=>ft (cEn fr δ d)) (fun d=>fe (cEn fr δ d)) ds=aa out)(hl:out.length<=1000000):eLC fr fi ft fe δ=aa (.own out):=by
 unfold eLC
 rw[hi]
 show(zcv _ _ ds).bind _=_
 rw[hc]
 show(if out.length<=1000000 then aa (Ent.own out) else ab)=_
 rw[if_pos hl]
theorem ixN_nat{n i:Nat}(h:i<n):ixN n (i:Int)=aa i:=by
 unfold ixN
 rw[if_pos (by lia),if_pos (by lia)]
 simp
theorem atI_of{α:Type}{xs:List α}{i:Nat}{x:α}(h:xs[i]? = aa x):atI xs (i:Int)=aa x:=by
 unfold atI
 rw[ixN_nat (aP.mp h).1]
 exact h
theorem atI_int{α:Type}{xs:List α}{i:Int}{x:α}(h0:0<=i)(h:xs[i.toNat]? = aa x):atI xs i=aa x:=by
 obtain⟨n,rfl⟩:=bv h0
 exact atI_of (by simpa using h)
theorem zei{α β:Type}(f:α->β)(d:α){xs:List α}{i:Int}(h0:0<=i)(h:i.toNat<xs.length):atI (xs.map f) i=aa (f (xs.getD i.toNat d)):=by
 refine atI_int h0 ?_
 rw[aD,aU h]
 simp[h]
theorem atI_m1{α:Type}{xs:List α}{x:α}(h:xs.getLast? = aa x):atI xs (-1)=aa x:=by
 have hne:xs ≠ []:=by rintro rfl;simp at h
 have hl:0<xs.length:=iZ.mpr hne
 unfold atI ixN
 rw[if_neg (by lia),if_pos (by lia)]
 show xs[(-1+(xs.length:Int)).toNat]? = _
 rw[show(-1+(xs.length:Int)).toNat=xs.length - 1 by lia,<- gO]
 exact h
theorem cutG_to{α:Type}(xs:List α)(j:Nat):zbI xs ab (aa (j:Int))=xs.take j:=by
 unfold zbI
 rw[HT.sIx_none,HT.sIx_nat,iH,kU]
 by_cases h:j<=xs.length
 ·rw[eP h]
 ·rw[jD (by lia),fM,cF (by lia)]
theorem cutG_from{α:Type}(xs:List α)(j:Nat):zbI xs (aa (j:Int)) ab=xs.drop j:=by
 unfold zbI
 rw[HT.sIx_none,HT.sIx_nat]
 by_cases h:j<=xs.length
 ·rw[eP h,cF (by rw[cY];lia)]
 ·rw[jD (by lia),fK,fG (by lia)]
  simp
theorem zeB{α:Type}(xs:List α){j:Int}(h:0<=j):zbI xs ab (aa j)=xs.take j.toNat:=by
 obtain⟨n,rfl⟩:=bv h
 rw[cutG_to];simp
theorem ziz{α:Type}(xs:List α){j:Int}(h:0<=j):zbI xs (aa j) ab=xs.drop j.toNat:=by
 obtain⟨n,rfl⟩:=bv h
 rw[cutG_from];simp
theorem zeH{α:Type}(xs:List α)(lo hi:Option Int):(zbI xs lo hi).length<=xs.length:=by
 unfold zbI
 rw[bB,cY]
 lia
theorem zhB(a b:List Nat):mkS a ++ mkS b=mkS (a ++ b):=by
 show(⟨a.toArray ++ b.toArray⟩:Str)=⟨(a ++ b).toArray⟩
 simp
theorem mkS_inj{a b:List Nat}(h:mkS a=mkS b):a=b:=by
 have:=congrArg (fun z:Str=>z.cps.toList) h
 simpa [mkS] using this
theorem sgn_mkS(l:List Nat):sgn (mkS l)=l.map fun c=>mkS [c]:=by simp[sgn,mkS]
theorem zgl(zs:List Int):zfO (zs.map .int)=aa zs:=by
 induction zs with
 | nil=>rfl
 | cons z zs ih=>simp[zfO,isI,ih]
end L3

namespace L3
open PySem PySem.Spec PyProof.Rows L2
def flD:D->Bool
 | .non=>true
 | .bl _=>true
 | .int _=>true
 | .str _=>true
 | _=>false
def eqF:D->D->Bool
 | .non,.non=>true
 | .bl a,.bl b=>a == b
 | .bl a,.int b=>(if a then 1 else 0) == b
 | .int a,.bl b=>a == (if b then 1 else 0)
 | .int a,.int b=>a == b
 | .str a,.str b=>a == b
 | _,_=>false
def zgV(f:D->D->Option Bool):List D->List D->Option Bool
 | [],[]=>aa true
 | d :: ds,e :: es=>(f d e).bind fun b=>(zgV f ds es).map fun c=>b && c
 | _,_=>aa false
def eqD:Nat->D->D->Option Bool
 | n+1,.tup a,.tup b=>zgV (eqD n) a b
 | n+1,.lst a,.lst b=>zgV (eqD n) a b
 | _,d,d'=>if (flD d && flD d')=true then aa (eqF d d') else ab
theorem flat_ok{F:Hp}{x y:V}{d d':D}(rx:Rep F x d)(ry:Rep F y d')(h:(flD d && flD d')=true):flatV x=true/\flatV y=true/\eqV x y=eqF d d':=by
 rw[eD] at h
 obtain⟨h1,h2⟩:=h
 cases rx <;> first | (cases h1;done) | (cases ry <;> first | (cases h2;done) | exact⟨rfl,rfl,rfl⟩)
theorem zeK{f:D->D->Option Bool}:∀ {ds es:List D} {b:Bool},zgV f ds es=aa b->∀ j (h1:j<ds.length) (h2:j<es.length),∃ c,f ds[j] es[j]=aa c
 | [],_,_,_,j,h1,_=>by simp at h1
 | _ :: _,[],_,_,j,_,h2=>by simp at h2
 | d :: ds,e :: es,b,q,j,h1,h2=>by
  simp only[zgV] at q
  obtain⟨c,q1,q⟩:=bind_some q
  obtain⟨c',q2,q⟩:=map_some q
  cases j with
  | zero=>exact⟨c,q1⟩
  | succ j=>
   simp only[aI] at h1 h2
   exact zeK q2 j (by lia) (by lia)
def eAt(f:D->D->Option Bool)(ds es:List D)(j:Nat):Bool:=(f (ds.getD j .non) (es.getD j .non)).getD false
theorem zeM{f:D->D->Option Bool}:∀ {ds es:List D} {b:Bool},zgV f ds es=aa b->b=((aq (min ds.length es.length)).all (eAt f ds es) && ds.length == es.length)
 | [],[],b,q=>by cases q;rfl
 | [],_ :: _,b,q=>by cases q;simp
 | _ :: _,[],b,q=>by cases q;simp
 | d :: ds,e :: es,b,q=>by
  simp only[zgV] at q
  obtain⟨c,q1,q⟩:=bind_some q
  obtain⟨c',q2,q⟩:=map_some q
  subst q
  have ih:=zeM q2
  have e1:min (d :: ds).length (e :: es).length=min ds.length es.length+1:=by simp only[aI];lia
  have e2:((d :: ds).length == (e :: es).length)=(ds.length == es.length):=by simp
  have e3:eAt f (d :: ds) (e :: es) 0=c:=by unfold eAt;simp[q1]
  have e4:(eAt f (d :: ds) (e :: es)) ∘ Nat.succ=eAt f ds es:=by funext j;unfold eAt;simp
  rw[e1,e2,List.range_succ_eq_map,gA,List.all_map,e3,e4,ih,Bool.and_assoc]
theorem Reps.getE{F:Hp}:∀ {vs:List V} {ds:List D},Reps F vs ds->∀ j (h1:j<vs.length) (h2:j<ds.length),Rep F vs[j] ds[j]
 | _,_,.nil,j,h,_=>by simp at h
 | v :: vs,d :: ds,.cons r t,j,h1,h2=>by
  cases j with
  | zero=>exact r
  | succ j=>exact Reps.getE t j (by simpa using h1) (by simpa using h2)
theorem Vals.getE:∀ {vs:List V} {us:List ae},Vals vs us->∀ j (h1:j<vs.length) (h2:j<us.length),RelV vs[j] us[j]
 | _,_,.nil,j,h,_=>by simp at h
 | v :: vs,d :: ds,.cons r t,j,h1,h2=>by
  cases j with
  | zero=>exact r
  | succ j=>exact Vals.getE t j (by simpa using h1) (by simpa using h2)
theorem zip_two{α β:Type}{a a':List α}{b b':List β}(h:a.length=b.length)(h':a'.length=b'.length)(e:a.zip b=a'.zip b'):a=a'/\b=b':=by
 have e1:=congrArg (lZ l6) e
 have e2:=congrArg (lZ lY) e
 rw[jE (by lia),jE (by lia)] at e1
 rw[eE (by lia),eE (by lia)] at e2
 exact⟨e1,e2⟩
mutual
theorem Rep.det{F:Hp}:∀ {v:V} {d:D},Rep F v d->∀ {d':D},Rep F v d'->d=d'
 | _,_,.non,_,h=>by cases h;rfl
 | _,_,.bl _,_,h=>by cases h;rfl
 | _,_,.int _,_,h=>by cases h;rfl
 | _,_,.str _,_,h=>by cases h;rfl
 | _,_,.tup e r,_,h=>by
  cases h with
  | tup e' r'=>rw[e] at e';cases e';rw[Reps.det r r']
  | lst e' r'=>rw[e] at e';cases e'
  | dic e' l' r'=>rw[e] at e';cases e'
 | _,_,.lst e r,_,h=>by
  cases h with
  | tup e' r'=>rw[e] at e';cases e'
  | lst e' r'=>rw[e] at e';cases e';rw[Reps.det r r']
  | dic e' l' r'=>rw[e] at e';cases e'
 | _,_,.dic e l r,_,h=>by
  cases h with
  | tup e' r'=>rw[e] at e';cases e'
  | lst e' r'=>rw[e] at e';cases e'
  | dic e' l' r'=>
   rw[e] at e'
   obtain⟨h1,h2⟩:=zip_two (by rw[am];exact l) (by rw[am];exact l') (HO.dK.inj (HO.frz.inj (bg e')).2)
   subst h2
   rw[Reps.det r r',(List.map_inj_right (fun _ _ h=>jy h)).mp h1]
theorem Reps.det{F:Hp}:∀ {vs:List V} {ds:List D},Reps F vs ds->∀ {ds':List D},Reps F vs ds'->ds=ds'
 | _,_,.nil,_,h=>by cases h;rfl
 | _,_,.cons r t,_,h=>by
  cases h with
  | cons r' t'=>rw[Rep.det r r',Reps.det t t']
end
theorem ze9{f:D->D->Option Bool}:∀ {ds:List D},(∀ d ∈ ds,∀ b,f d d=aa b->b=true)->∀ {b:Bool},zgV f ds ds=aa b->b=true
 | [],_,b,q=>by cases q;rfl
 | d :: ds,h,b,q=>by
  simp only[zgV] at q
  obtain⟨c,q1,q⟩:=bind_some q
  obtain⟨c',q2,q⟩:=map_some q
  subst q
  rw[h d av c q1,ze9 (fun d hd=>h d (al _ hd)) q2]
  rfl
theorem eqF_self(d:D)(h:flD d=true):eqF d d=true:=by
 cases d <;> first | rfl | (simp[eqF];done) | (cases h)
theorem zeL:∀ (n:Nat) (d:D) {b:Bool},eqD n d d=aa b->b=true
 | 0,d,b,q=>by
  have q':(if (flD d && flD d)=true then aa (eqF d d) else ab)=aa b:=by cases d <;> exact q
  split at q'
  ·rename_i h;cases q';exact eqF_self d (by simpa using h)
  ·cases q'
 | n+1,d,b,q=>by
  cases d with
  | tup a=>exact ze9 (fun d _ b=>zeL n d) q
  | lst a=>exact ze9 (fun d _ b=>zeL n d) q
  | dic ks a=>cases q
  | _=>cases q;first | rfl | simp[eqF]
section
variable {X:Cx}{pins:List (af × Obj)}{s:ag}{σ:L2.St}{H F:Hp}
theorem eqAt_D(I:Inv X pins σ H s)(fh:Same F H):∀ (n:Nat) (A:aS),A.units+n<cLine->∀ {x y:V} {u v:ae} {d d':D} {b:Bool},Rep F x d->Rep F y d'->RelV x u->RelV y v->eqD n d d'=aa b->iO A s u v b
 | 0,A,hu,x,y,u,v,d,d',b,rx,ry,ru,rv,q=>by
  have q':(if (flD d && flD d')=true then aa (eqF d d') else ab)=aa b:=by cases d <;> cases d' <;> exact q
  split at q'
  ·rename_i h
   cases q'
   obtain⟨h1,h2,h3⟩:=flat_ok rx ry h
   rw[<- h3]
   exact eqAt_V ru rv h1 h2
  ·cases q'
 | n+1,A,hu,x,y,u,v,d,d',b,rx,ry,ru,rv,q=>by
  have hin:A.in1.units+n<cLine:=by show A.units+1+n<cLine;lia
  have hA:A.units<cLine:=by lia
  have flat:(if (flD d && flD d')=true then aa (eqF d d') else ab)=aa b->iO A s u v b:=fun q'=>by
   split at q'
   ·rename_i h
    cases q'
    obtain⟨h1,h2,h3⟩:=flat_ok rx ry h
    rw[<- h3]
    exact eqAt_V ru rv h1 h2
   ·cases q'
  cases rx with
  | @tup a xs ds e r=>
   cases ry with
   | @tup a' ys es e' r'=>
    cases ru;cases rv
    by_cases hne:a=a'
    ·subst hne
     rw[e] at e'
     cases e'
     cases Reps.det r r'
     rw[zeL (n+1) (.tup ds) q]
     exact ig _
    ·obtain⟨its,rr,ht,_⟩:=I.tuple (SqT.of (fh _ _ e))
     obtain⟨its',rr',ht',_⟩:=I.tuple (SqT.of (fh _ _ e'))
     have q':zgV (eqD n) ds es=aa b:=q
     have l1:=r.length;have l2:=r'.length;have l3:=rr.length;have l4:=rr'.length
     have:=lS (A:=A) (e:=eAt (eqD n) ds es) ht ht' hA fun j h1 h2=>by
      have g1:j<its.length:=by simpa using h1
      have g2:j<its'.length:=by simpa using h2
      obtain⟨c,hc⟩:=zeK q' j (by lia) (by lia)
      have:eAt (eqD n) ds es j=c:=by unfold eAt;simp[show j<ds.length by lia,show j<es.length by lia,hc]
      rw[this]
      exact eqAt_D I fh n A.in1 hin (r.getE j (by lia) (by lia)) (r'.getE j (by lia) (by lia)) (Vals.getE rr j (by lia) g1) (Vals.getE rr' j (by lia) g2) hc
     rw[zeM q']
     have e1:its.toArray.size=ds.length:=by simp;lia
     have e2:its'.toArray.size=es.length:=by simp;lia
     rw[e1,e2] at this
     exact gq hne this
   | _=>exact flat q
  | @lst a xs ds e r=>
   cases ry with
   | @lst a' ys es e' r'=>
    cases ru;cases rv
    by_cases hne:a=a'
    ·subst hne
     rw[e] at e'
     cases e'
     cases Reps.det r r'
     rw[zeL (n+1) (.lst ds) q]
     exact ig _
    ·obtain⟨its,rr,ht,_⟩:=I.list (SqL.of (fh _ _ e))
     obtain⟨its',rr',ht',_⟩:=I.list (SqL.of (fh _ _ e'))
     have q':zgV (eqD n) ds es=aa b:=q
     have l1:=r.length;have l2:=r'.length;have l3:=rr.length;have l4:=rr'.length
     have e1:its.toArray.size=ds.length:=by simp;lia
     have e2:its'.toArray.size=es.length:=by simp;lia
     rw[zeM q']
     by_cases hs:ds.length=es.length
     ·have:=l7 (A:=A) (e:=eAt (eqD n) ds es) ht.isList ht'.isList (by rw[e1,e2,hs]) hA fun j h1 h2=>by
       have g1:j<its.length:=by simpa using h1
       have g2:j<its'.length:=by simpa using h2
       obtain⟨c,hc⟩:=zeK q' j (by lia) (by lia)
       have:eAt (eqD n) ds es j=c:=by unfold eAt;simp[show j<ds.length by lia,show j<es.length by lia,hc]
       rw[this]
       exact eqAt_D I fh n A.in1 hin (r.getE j (by lia) (by lia)) (r'.getE j (by lia) (by lia)) (Vals.getE rr j (by lia) g1) (Vals.getE rr' j (by lia) g2) hc
      rw[e1] at this
      rw[<- hs,kW,beq_self_eq_true,kf]
      exact gq hne this
     ·rw[beq_eq_false_iff_ne.mpr hs,d8]
      exact gq hne (kX ht.isList ht'.isList (by rw[e1,e2];simpa using hs) hA)
   | _=>exact flat q
  | _=>cases ry <;> exact flat q
def rEqD(K:ah)(neg:Bool):R2:=fun x y H Q=>∃ (F:Hp) (a a':af) (xs ys:List V) (ds es:List D) (b:Bool),Same F H/\x=.ref a/\y=.ref a'/\((SqL K H a xs/\SqL K H a' ys) \/ (SqT K H a xs/\SqT K H a' ys)) /\
 Reps F xs ds/\Reps F ys es/\zgV (eqD 8) ds es=aa b/\Q (.bl (if neg=true then !b else b)) H
theorem op_eqD{k:Nat}(hr:Room k X.A):OpR X (bI .Eq) (rEqD X.K false):=by
 intro pins s σ H x y v u Q I rx ry h
 obtain⟨F,a,a',xs,ys,ds,es,b,fh,rfl,rfl,hq,r,r',q,k⟩:=h
 cases rx;cases ry
 have hA:X.A.units+9<cLine:=by have:=hr.un;lia
 have hin:X.A.in1.units+8<cLine:=by show X.A.units+1+8<cLine;lia
 have l1:=r.length;have l2:=r'.length
 have he:∀ {its its':List ae},Vals xs its->Vals ys its'->∀ j (h1:j<its.toArray.size) (h2:j<its'.toArray.size),iO X.A.in1 s its.toArray[j] its'.toArray[j] (eAt (eqD 8) ds es j):=fun {its its'} rr rr' j h1 h2=>by
  have l3:=rr.length;have l4:=rr'.length
  have g1:j<its.length:=by simpa using h1
  have g2:j<its'.length:=by simpa using h2
  obtain⟨c,hc⟩:=zeK q j (by lia) (by lia)
  have:eAt (eqD 8) ds es j=c:=by unfold eAt;simp[show j<ds.length by lia,show j<es.length by lia,hc]
  rw[this]
  exact eqAt_D I fh 8 X.A.in1 hin (r.getE j (by lia) (by lia)) (r'.getE j (by lia) (by lia)) (Vals.getE rr j (by lia) g1) (Vals.getE rr' j (by lia) g2) hc
 rw[zeM q] at k
 rcases hq with ⟨h1,h2⟩ | ⟨h1,h2⟩
 ·obtain⟨its,rr,ht,_⟩:=I.list h1
  obtain⟨its',rr',ht',_⟩:=I.list h2
  have l3:=rr.length;have l4:=rr'.length
  have e1:its.toArray.size=ds.length:=by simp;lia
  have e2:its'.toArray.size=es.length:=by simp;lia
  by_cases hs:ds.length=es.length
  ·refine SeqAt.eq_listAt (e:=eAt (eqD 8) ds es) ht.isList ht'.isList (by rw[e1,e2,hs]) (by lia) (he rr rr') ⟨.bl _,H,I,rfl,?_⟩
   rw[e1]
   rw[<- hs,kW,beq_self_eq_true,kf] at k
   exact k
  ·refine SeqAt.eq_list_lengthsAt ht.isList ht'.isList (by rw[e1,e2];simpa using hs) (by lia) ⟨.bl _,H,I,rfl,?_⟩
   rw[beq_eq_false_iff_ne.mpr hs,d8] at k
   exact k
 ·obtain⟨its,rr,ht,_⟩:=I.tuple h1
  obtain⟨its',rr',ht',_⟩:=I.tuple h2
  have l3:=rr.length;have l4:=rr'.length
  have e1:its.toArray.size=ds.length:=by simp;lia
  have e2:its'.toArray.size=es.length:=by simp;lia
  refine SeqAt.eq_tupleAt (e:=eAt (eqD 8) ds es) ht ht' (by lia) (he rr rr') ⟨.bl _,H,I,rfl,?_⟩
  rw[e1,e2]
  exact k
def sqOf(x y:Ent):Option (List D × List D):=match asL x,asL y with
 | some ds,aa es=>aa (ds,es)
 | _,_=>match zez x,zez y with
  | some ds,aa es=>aa (ds,es)
  | _,_=>ab
def gEqD:Ent->Ent->Option Ent:=fun x y=>(sqOf x y).bind fun p=>(zgV (eqD 8) p.1 p.2).map fun b=>.val (.bl b)
theorem sqOf_ok{K:ah}{H0 F H:Hp}{x y:V}{e e':Ent}{p:List D × List D}(fh:Same F H)(rx:RepR K H0 F H x e)(ry:RepR K H0 F H y e')(q:sqOf e e'=aa p) :
  ∃ (a a':af) (xs ys:List V),x=.ref a/\y=.ref a'/\((SqL K H a xs/\SqL K H a' ys) \/ (SqT K H a xs/\SqT K H a' ys))/\Reps F xs p.1/\Reps F ys p.2:=by
 unfold sqOf at q
 split at q
 ·rename_i ds es h1 h2
  cases q
  obtain⟨l,vs,e1,s1,r1⟩:=rx.toL fh h1
  obtain⟨l',vs',e2,s2,r2⟩:=ry.toL fh h2
  exact⟨l,l',vs,vs',e1,e2,.inl ⟨s1,s2⟩,r1,r2⟩
 ·split at q
  ·rename_i ds es h1 h2
   cases q
   cases zdh h1
   cases zdh h2
   cases (show Rep F x (.tup _) from rx) with
   | tup e r=>
    cases (show Rep F y (.tup _) from ry) with
    | tup e' r'=>exact⟨_,_,_,_,rfl,rfl,.inr ⟨SqT.of (fh _ _ e),SqT.of (fh _ _ e')⟩,r,r'⟩
  ·cases q
theorem o_eqD{k:Nat}(hr:Room k X.A):OpD X (bI .Eq) gEqD:=⟨_,op_eqD hr,fun H0 F H x y e e' res Q fh hh rx ry q k=>by
 obtain⟨p,q1,q⟩:=bind_some q
 obtain⟨b,q2,q⟩:=map_some q
 cases q
 obtain⟨a,a',xs,ys,e1,e2,h,r,r'⟩:=sqOf_ok fh rx ry q1
 exact⟨F,a,a',xs,ys,_,_,b,fh,e1,e2,h,r,r',q2,k _ F H (Ex.refl fh) (.bl _)⟩⟩
end
end L3

namespace L2
open PySem PySem.Spec PyProof.Rows
end L2
namespace L3
open PySem PySem.Spec PyProof.Rows L2
end L3
namespace L2
open PySem PySem.Spec PyProof.Rows
section
variable {prog:aL}{w:aX}{A:aS}{E:ae->ag->Prop}
theorem drawL{it l:af}{xs:Array ae}(hne:l ≠ it)(n:Nat):∀ (i:Nat) (s:ag) (Q:List ae->ag->Prop),s.heap.IsListIter it l i->s.heap.IsList l xs->i+n<=xs.size ->
  (∀ h',h'.IsListIter it l (i+n)->eQ it s.heap h'->Q ((xs.toList.drop i).take n) { s with heap:=h'})->aw (model prog w) A (draw (.ref it) n) Q E s:=by
 induction n with
 | zero=>exact fun i s Q hi _ _ k=>ar (by simpa using k s.heap hi (.refl ..))
 | succ n ih=>
  intro i s Q hi hl hle k
  have hx:xs[i]? = aa (xs[i]'(by lia)):=cw (by lia)
  refine ai (wpAny_pyNext_list_item hi hl hx fun h1 i1 s1=>?_)
  refine ai (bO (ih (i+1) _ _ i1 (hl.extBut s1.extBut hne) (by lia) fun h2 i2 s2=>?_))
  refine ar ?_
  have z:=k h2 (by rw[show i+(n+1)=i+1+n by lia];exact i2) (s1.trans s2)
  rw[bK (by simp;lia),iY] at z
  simpa using z
theorem unpackL{s:ag}{l:af}{xs:Array ae}{tgs:List (Bool × (ae->Sem Unit))}{Q:Unit->ag->Prop}(hh:A.handled=ab)(hl:s.heap.IsList l xs)(hn:tgs.length=xs.size)(hst:tgs.findIdx? (·.1)=ab)
  (k:∀ h',Heap.ExtBut s.heap.objs.size s.heap h'->aw (model prog w) A (assignInOrder (tgs.map (·.2)) xs.toList) Q E { s with heap:=h'}):aw (model prog w) A (unpack (.ref l) tgs) Q E s:=by
 have hlt:l ≠ s.heap.objs.size:=let⟨_,ho,_⟩:=hl;bf (aH ho)
 unfold unpack
 rw[hn,hst]
 refine ai (bO ?_)
 unfold unpackItems
 refine ai ?_
 unfold notIterableAtAll
 refine ai (wpAny_specialOf hl.typeIs PySem.slot_list_iter.lookup (ar ?_))
 simp only[bm,if_false]
 refine ai (bO (wpAny_pyIter_list hl ?_))
 refine ai (bO (drawL hlt xs.size 0 _ _ ⟨_,aG _ rfl,rfl,rfl⟩ (hl.push _) (by lia) fun h1 i1 s1=>?_))
 have ha:List.take xs.size (List.drop 0 xs.toList)=xs.toList:=cF (by simp)
 rw[ha,if_neg (by simp)]
 refine ai (bO (wpAny_pyNext_list_end hh i1 ((hl.push _).extBut s1.extBut hlt) (by simp) fun h2 e2=>?_))
 simp only[Option.isSome_none,bm,if_false]
 exact ar (k h2 fun b o hb e=>e2 b o hb (s1.extBut b o hb (aj _ e)))
end
def gLst(K:ah)(n:Nat)(t:TGs):TG:=fun v σ H Q=>∃ a xs,v=.ref a/\SqL K H a xs/\xs.length=n/\t xs σ H Q
theorem pg_lst{X:Cx}{pos:Pos}{es:List Expr}{k:Nat}{t:TGs}{n:Nat}(hc:X.calm=true)(h:PGs X es t)
  (hn:(bS es X.env).length=n) (hst:(bS es X.env).findIdx? (·.1)=ab):PG X (.Tuple es k pos) (gLst X.K n t):=fun pins s σ H v u Q I r hw=>by
 obtain⟨a,xs,rfl,hq,hl,hw⟩:=hw
 cases r
 obtain⟨its,rv,ht,hz⟩:=I.list hq
 rw[assign_Tuple]
 refine ai (wpAny_standAt (unpackL (I.ok.hd hc) ht.isList (by simp[hn,<- hl,rv.length]) hst fun h' hx=>?_))
 have I1:Inv X pins σ H { s with heap:=h'}:=I.kept (t':=s.toks) fun b o e=>hx b o (bf (aH e)) e
 exact h pins _ σ H xs _ Q I1 (by simpa using rv) hw
end L2
namespace L3
open PySem PySem.Spec PyProof.Rows L2
def gLs(gs:FGs):FG:=fun d δ=>match d with
 | .lst ds=>gs ds δ
 | _=>ab
theorem gl0:∀ (ds:List D) (δ δ':En),zdZ ds δ=aa δ'->ds.length=0:=fun ds δ δ' h=>by
 match ds,h with
 | [],_=>rfl
theorem gl1{g:FG}{gs:FGs}{n:Nat}(hn:∀ (ds:List D) (δ δ':En),gs ds δ=aa δ'->ds.length=n):∀ (ds:List D) (δ δ':En),zba g gs ds δ=aa δ'->ds.length=n+1:=fun ds δ δ' h=>by
 match ds,h with
 | d :: ds,h=>
  obtain⟨δ1,_,q⟩:=bind_some (show(g d δ).bind (gs ds)=aa δ' from h)
  rw[aI,hn ds δ1 δ' q]
theorem gls{X:Cx}{es:List Expr}{tgs:FGs}{pos:Pos}{k n:Nat}(hc:X.calm=true)(h:VGs X es tgs)(hn:(bS es X.env).length=n:=by rfl)(hst:(bS es X.env).findIdx? (·.1)=ab:=by rfl)(hl:∀ ds δ δ',tgs ds δ=aa δ'->ds.length=n:=by intro ds δ δ' h;match ds,h with | [_],_=>rfl | [_,_],_=>rfl | [_,_,_],_=>rfl | [_,_,_,_],_=>rfl) :
  VG X (.Tuple es k pos) (gLs tgs):=by
 obtain⟨t,w,m⟩:=h.h
 refine⟨_,⟨pg_lst hc w.h hn hst⟩,fun B F H σ δ δ' v d Q s r q k=>?_⟩
 cases d with
 | lst ds=>
  cases r with
  | lst e rs=>exact⟨_,_,rfl,SqL.of (s.fh _ _ e),by rw[rs.length];exact hl _ _ _ q,m B F H σ δ δ' _ ds _ s rs q k⟩
 | _=>cases q
end L3

namespace TS
open PySem
theorem lay_led(t:SetTable)(es:Array (Int × ae))(h:Int)(x:ae):(layNew t es h x).2.1.led=t.led/\((layNew t es h x).2.1.plain=true->t.plain=true):=by
 unfold layNew
 split
 ·rename_i q
  dsimp only
  unfold jc
  split
  ·exact⟨rfl,id⟩
  ·exact⟨rfl,fun z=>by cases z⟩
 ·exact⟨rfl,fun z=>by cases z⟩
end TS
namespace TS
open PySem
def bt(w:aX):Bool:=w.params.followText "set-order"
def txt:ae->Str
 | .str z _=>z
 | _=> ""
structure IsS(w:aX)(h:ba)(a:af)(zs:List Str):Prop where
 ex:∃ (o:Obj) (es:Array (Int × ae)) (ep:Nat) (t:SetTable),h.get? a=aa o/\o.ExactSet/\o.data=.set es ep t/\(∀ e ∈ es.toList,∃ z u,e=(hashStr w z,fR z u))/\t.fits es.size=true/\t.led=!bt w/\(es.size ≠ 0->t.plain=false)/\(es.toList.map fun e=>txt e.2).Perm zs
 nd:zs.Nodup
variable {prog:aL}{w:aX}{A:aS}{E:ae->ag->Prop}{s:ag}{a:af}{zs:List Str}
theorem IsS.mono{h h':ba}(i:IsS w h a zs)(k:∀ o,h.get? a=aa o->h'.get? a=aa o):IsS w h' a zs:=
 let⟨o,es,ep,t,go,r⟩:=i.ex;⟨⟨o,es,ep,t,k o go,r⟩,i.nd⟩
def put(zs:List Str)(z:Str):List Str:=if z ∈ zs then zs else zs ++ [z]
end TS
namespace TS
open PySem PyProof.Rows
section
variable {prog:aL}{w:aX}{A:aS}{R:Result->ag->Prop}{I:af}{fp wr:List af}{G:Array GenState->Array GenState->Prop}{n:Nat}{P:Nat->ae->Prop}{St:Nat->ag->Prop}
end
end TS
namespace TS
open PySem PyProof.Rows
section
variable {prog:aL}{w:aX}{A:aS}{E:ae->ag->Prop}{s:ag}
def new(w:aX):Obj:={ cls:=.type "set",dict:=ab,data:=.set #[] 0 (.fresh 0 0 (!bt w))}
theorem code_new(v:ae){R:ae->ag->Prop}(k:R (.ref s.heap.objs.size) { s with heap:=s.heap.push (new w)}):codeAny (model prog w) A (.call (.builtin "set.__new__") ⟨[.type "set",v],[]⟩) (wants R E) s:=by
 refine codeAny_of_tree ?_
 show aw _ A.in1 (checkBuiltinCall "set.__new__" ⟨[.type "set",v],[]⟩ >>= fun _=>again (.builtin "set.__new__" ⟨[.type "set",v],[]⟩)) _ _ s
 refine ai (wpAny_of_eq (F.newCall_set_1 v) (ar ⟨plainId_quiet jS _,?_⟩))
 refine codeAny_builtin F.entry_set_new ?_
 rw[cu jS _]
 unfold Builtin.«set.__new__» kg
 have sub:=sub_set_self
 obtain⟨hp,g,d,tk,os⟩:=s
 dsimp only
 wp_walk
 refine wpAny_askSetting (ar ?_)
 dsimp only
 simp only[newObj]
 refine ai (wpAny_alloc (ar ?_))
 exact ar k
set_option maxRecDepth 100000 in
theorem call_set{v:ae}{Q:ae->ag->Prop}{P:ag->Prop}(hh:A.handled=ab)
  (ini:∀ (B:aS),B.handled=ab->aw (model prog w) B (Builtin.«set.__init__» ⟨[.ref s.heap.objs.size,v],[]⟩) (fun f s2=>f=.done (.ret .none)/\P s2) E { s with heap:=s.heap.push (new w)})
  (k:∀ s2,P s2->Q (.ref s.heap.objs.size) s2):aw (model prog w) A (call (.type "set") [v]) Q E s:=by
 obtain⟨c,tl,mro⟩:=dF.mro
 have made:=dF.made
 have sub:=dF.sub
 refine wpAny_call (codeAny_of_tree ?_)
 show aw _ _ (callAny (.type "set") _) _ _ _
 refine ar ⟨Code.quiet_builtin _ (by decide +kernel),?_⟩
 refine codeAny_builtin F.entry_type_call ?_
 rw[Around.under_plain (weight_type_call_type "set" [v] []) rfl]
 have n1:=dF.notType
 have n2:=dF.canCreate
 have n3:=F.typeCall_set_1 v
 repeat any_goals first | assumption | wp_step
 refine codeAny_mono (code_new v (E:=E) (R:=fun x s1=>x=.ref s.heap.objs.size/\s1={ s with heap:=s.heap.push (new w)}) ⟨rfl,rfl⟩) fun r s1 hr=>?_
 match r,hr with
 | .error e,hr=>exact hr
 | .ok (.ret x),hr=>
  obtain⟨rfl,rfl⟩:=hr
  have g0:(s.heap.push (new w)).get? s.heap.objs.size=aa (new w):=aG _ rfl
  have ty:gB { s with heap:=s.heap.push (new w)} (.ref s.heap.objs.size) "set" :=⟨_,g0,rfl⟩
  have li:=dF.init.lookup
  have bi:=dF.init.bind (.ref s.heap.objs.size)
  repeat any_goals first | assumption | wp_step
  refine codeAny_mono (codeAny_call_builtin (R:=wants (fun r s2=>r=.none/\P s2) E) dF.init.plain F.entry_set_init (check_set_init_1 ty ?_)) fun r2 s2 hr2=>?_
  ·exact bU (ini A.in1.in1 hh) (fun f s2 q=>by obtain⟨rfl,p⟩:=q;exact⟨rfl,p⟩) fun _ _ q=>q
  ·match r2,hr2 with
   | .error e,hr2=>exact hr2
   | .ok (.ret x),hr2=>
    obtain⟨rfl,hq⟩:=hr2
    repeat any_goals first | assumption | wp_step
    exact k _ hq
end
end TS
namespace TS
open PySem PyProof.Rows
namespace Fx
end Fx
section
variable {prog:aL}{w:aX}{A:aS}{E:ae->ag->Prop}{s:ag}
structure LeftS(w:aX)(s:ag)(zs:List Str)(s2:ag):Prop where
 is:IsS w s2.heap s.heap.objs.size zs
 old:∀ b o,b<s.heap.objs.size->s.heap.get? b=aa o->s2.heap.get? b=aa o
 sh:∃ h' tk,s2={ s with heap:=h',toks:=tk}
end
end TS
namespace TS
open PySem PyProof.Rows
theorem zhQ{α:Type}{l:List α}{i:Nat}(h:i<l.length):(l[i] :: l.eraseIdx i).Perm l:=by
 rw[List.eraseIdx_eq_take_drop_succ]
 refine List.perm_middle.symm.trans ?_
 rw[<- bK h,ef]
section
variable {prog:aL}{w:aX}{A:aS}{E:ae->ag->Prop}
theorem ch{src:Source}{n:Nat}{s:ag}{Q:Nat->ag->Prop}(hn:n ≠ 0)(k:∀ i d,i<n->Q i { s with drawn:=d}):aw (model prog w) A (choose src n) Q E s:=fun Γ p _=>by
 unfold choose
 rw[Sem.wp_choose]
 exact⟨hn,by rw[Sem.wp_pure];exact k _ _ (lv _ (Nat.pos_of_ne_zero hn))⟩
theorem draw_perm{α:Type}(n:Nat):∀ (xs:List α) (s:ag) (Q:List α->ag->Prop),xs.length=n->(∀ ys d,ys.Perm xs->Q ys { s with drawn:=d})->aw (model prog w) A (drawOrder n xs) Q E s:=by
 induction n with
 | zero=>
  intro xs s Q hl k
  have e:xs=[]:=fg.mp hl
  subst e
  exact ar (k [] s.drawn .nil)
 | succ n ih=>
  intro xs s Q hl k
  match xs,hl with
  | x :: xs,hl=>
   refine ai (m:=choose .order (x :: xs).length) (ch (by simp) fun i d hi=>?_)
   have e:(x :: xs)[i]? = aa (x :: xs)[i]:=aU hi
   simp only[e]
   refine ai (ih _ _ _ (by rw[gC hi];lia) fun ys d' hp=>ar ?_)
   exact k _ _ ((hp.cons _).trans (zhQ hi))
end
theorem pick_go{α:Type}(nx:Nat->Nat)(f:Nat):∀ (k:Nat) (left:List α) (out:Array α),left.length=f->(pickOrder.go nx f k left out).toList.Perm (out.toList ++ left):=by
 induction f with
 | zero=>
  intro k left out hl
  have e:left=[]:=fg.mp hl
  subst e
  simp[pickOrder.go]
 | succ f ih=>
  intro k left out hl
  have hi:nx k % left.length<left.length:=lv _ (by lia)
  have e:left[nx k % left.length]? = aa left[nx k % left.length]:=aU hi
  unfold pickOrder.go
  simp only[e]
  refine(ih _ _ _ (by rw[gC hi];lia)).trans ?_
  rw[dy,bG]
  exact(zhQ hi).append_left _
theorem pick_perm{α:Type}(nx:Nat->Nat)(xs:Array α):(pickOrder nx xs).toList.Perm xs.toList:=by
 have:=pick_go nx xs.size 0 xs.toList #[] (by simp)
 simpa [pickOrder] using this
namespace Fx
theorem iter_of:entryFor table "set.__iter__" = aa Builtin.«frozenset.__iter__» :=entryFor_alias (id':= "frozenset.__iter__") (by kernel_rfl) rfl (by decide +kernel) (by kernel_rfl)
theorem next_of:entryFor table "set_iterator.__next__" = aa Builtin.«set_iterator.__next__» :=entryFor_of_tree (by kernel_rfl)
theorem next_slot:Slot "set_iterator" "__next__" "set_iterator.__next__" :=.of (owner:= "set_iterator") (n:= "__next__") (by rw[typeLookup_type,builtinLookup_eq_fast];kernel_rfl) (by decide +kernel) (by decide +kernel) (by decide +kernel) (by first | exact .inl (by decide +kernel) | exact .inr (by decide +kernel)) (by rw[isSubtype_type];kernel_rfl)
theorem next_args(v:ae):argsOk "set_iterator.__next__" ⟨[v],[]⟩:=by unfold argsOk;kernel_rfl
end Fx
end TS
namespace TS
open PySem PyProof.Rows
def itO(f0:ae)(i:Nat)(a:af)(n ep:Nat):Obj:={ cls:=.type "set_iterator",data:=.fields #[f0,rawInt i,.ref a,rawInt n,rawInt ep]}
section
variable {prog:aL}{w:aX}{A:aS}{E:ae->ag->Prop}{s:ag}{I a:af}{o:Obj}{es:Array (Int × ae)}{ep:Nat}{t:SetTable}
theorem next1{i slot slot':Nat}{v:ae}{Q:Option ae->ag->Prop}(hI:s.heap.get? I=aa (itO (rawInt slot) i a es.size ep))(ho:s.heap.get? a=aa o)(hd:o.data=.set es ep t)(hf:t.fits es.size=true)
  (nx':∀ (A:aS) (E:ae->ag->Prop) (R:Option (ae × Nat)->ag->Prop),R (aa (v,slot')) s->aw (model prog w) A (setNext a slot i ep) R E s)
  (k:∀ h',h'.get? I=aa (itO (rawInt slot') (i+1) a es.size ep)->(∀ b o,b ≠ I->s.heap.get? b=aa o->h'.get? b=aa o)->Q (aa v) { s with heap:=h'}):aw (model prog w) A (pyNext (.ref I)) Q E s:=by
 have ty:s.TypeIs (.ref I) "set_iterator" :=⟨_,hI,rfl⟩
 unfold pyNext
 refine ai (wpAny_attempt (wpAny_callSpecial?_slot (name:=cU "__next__") ty Fx.next_slot (wpAny_call_entry Fx.next_slot ty Fx.next_of ?_ (Fx.next_args _))))
 unfold Builtin.«set_iterator.__next__» slotArgs
 simp only[eF,eM,bm,↓reduceIte,bind_assoc,cQ,bne_self_eq_false]
 refine ai (ar (ai (wpAny_fieldsOf hI rfl ?_)))
 show aw _ _ (setEntries a >>= _) _ _ _
 refine ai (wpAny_setEntries_of ho hd hf ?_)
 rw[if_neg (by simp)]
 show aw _ _ (setNext a slot i ep >>= _) _ _ _
 refine ai (nx' _ _ _ ?_)
 refine ai (wpAny_setField_rec hI (by simp) fun h1 g1 b1=>?_)
 refine ai (wpAny_setField_rec (s:={ s with heap:=h1}) g1 (by simp) fun h2 g2 b2=>?_)
 refine ar ⟨v,rfl,ar (k h2 ?_ fun b o hb e=>?_)⟩
 ·rw[g2];rfl
 ·exact(b2.2 b hb).trans ((b1.2 b hb).trans e)
theorem stop{B:aS}{α:Type}(hh:B.handled=ab){R:α->ag->Prop}{E':ae->ag->Prop}(k:∀ e h',(∀ b o,s.heap.get? b=aa o->h'.get? b=aa o)->gB { s with heap:=h'} e "StopIteration" -> E' e { s with heap:=h'}) :
  aw (model prog w) B (newExc (.type "StopIteration") [] >>= fun e=>raiseNew e) R E' s:=by
 refine ai ?_
 simp only[newExc,newTuple]
 refine ai (wpAny_newObj_type ?_ (by size_fits))
 refine ai (m:=firstArgMember _ _) (wpAny_of_eq (a:=eW) (by first | rfl | (simp only[firstArgMember];rfl)) (wpAny_newObj_type ?_ (by size_fits)))
 simp only[raiseNew]
 refine ai (wpAny_handled ?_)
 rw[hh]
 refine ai (ar (wpAny_throw ?_))
 exact k _ _ (fun b o e=>aj _ (aj _ e)) ⟨_,aG _ rfl,rfl⟩
theorem end1{i slot:Nat}{Q:Option ae->ag->Prop}(hh:A.handled=ab)(hI:s.heap.get? I=aa (itO (rawInt slot) i a es.size ep))(ho:s.heap.get? a=aa o)(hd:o.data=.set es ep t)(hf:t.fits es.size=true)
  (nx:∀ (A:aS) (E:ae->ag->Prop) (R:Option (ae × Nat)->ag->Prop),R ab s->aw (model prog w) A (setNext a slot i ep) R E s)
  (k:∀ h',(∀ b o,b ≠ I->s.heap.get? b=aa o->h'.get? b=aa o)->Q ab { s with heap:=h'}):aw (model prog w) A (pyNext (.ref I)) Q E s:=by
 have ty:s.TypeIs (.ref I) "set_iterator" :=⟨_,hI,rfl⟩
 unfold pyNext
 refine ai (wpAny_attempt (wpAny_callSpecial?_slot (name:=cU "__next__") ty Fx.next_slot (wpAny_call_entry Fx.next_slot ty Fx.next_of ?_ (Fx.next_args _))))
 unfold Builtin.«set_iterator.__next__» slotArgs
 simp only[eF,eM,bm,↓reduceIte,bind_assoc,cQ,bne_self_eq_false]
 refine ai (ar (ai (wpAny_fieldsOf hI rfl ?_)))
 show aw _ _ (setEntries a >>= _) _ _ _
 refine ai (wpAny_setEntries_of ho hd hf ?_)
 rw[if_neg (by simp)]
 show aw _ _ (setNext a slot i ep >>= _) _ _ _
 refine ai (nx _ _ _ ?_)
 refine ai (wpAny_setField_rec hI (by simp) fun h1 g1 b1=>?_)
 refine stop (B:=A.in1) (s:={ s with heap:=h1}) hh fun e h' old te=>?_
 refine ai (wpAny_isInstance (b:=true) te isSubtype_stop ?_)
 exact ar (k h' fun b o hb e=>old b o ((b1.2 b hb).trans e))
theorem next2{i p:Nat}{T:af}{ps:Array ae}{hv:Int × ae}{Q:Option ae->ag->Prop}(hI:s.heap.get? I=aa (itO (.ref T) i a es.size ep))(ho:s.heap.get? a=aa o)(hd:o.data=.set es ep t)(hf:t.fits es.size=true)(hT:IsTup s.heap T ps)
  (hp:ps[i]? = aa (rawInt p)) (he:es[p]? = aa hv)
  (k:∀ h',h'.get? I=aa (itO (.ref T) (i+1) a es.size ep)->(∀ b o,b ≠ I->s.heap.get? b=aa o->h'.get? b=aa o)->Q (aa hv.2) { s with heap:=h'}):aw (model prog w) A (pyNext (.ref I)) Q E s:=by
 have ty:s.TypeIs (.ref I) "set_iterator" :=⟨_,hI,rfl⟩
 obtain⟨ot,got,_,nt,dt⟩:=hT
 unfold pyNext
 refine ai (wpAny_attempt (wpAny_callSpecial?_slot (name:=cU "__next__") ty Fx.next_slot (wpAny_call_entry Fx.next_slot ty Fx.next_of ?_ (Fx.next_args _))))
 unfold Builtin.«set_iterator.__next__» slotArgs
 simp only[eF,eM,bm,↓reduceIte,bind_assoc,cQ,bne_self_eq_false]
 refine ai (ar (ai (wpAny_fieldsOf hI rfl ?_)))
 show aw _ _ (setEntries a >>= _) _ _ _
 refine ai (wpAny_setEntries_of ho hd hf ?_)
 rw[if_neg (by simp)]
 show aw _ _ (seqItems? (.ref T) >>= _) _ _ _
 refine ai (wpAny_seqItems got dt ?_)
 simp only[de,hp,rawInt]
 unfold setNextDrawn
 refine ai (ai (wpAny_setState_of ho hd hf ?_))
 simp only[bne_self_eq_false,bm,↓reduceIte,he]
 refine ar ?_
 refine ai (wpAny_setField_rec hI (by simp) fun h1 g1 b1=>?_)
 refine ar ⟨_,rfl,ar (k h1 ?_ fun b o hb e=>(b1.2 b hb).trans e)⟩
 rw[g1];rfl
theorem end2{i:Nat}{T:af}{ps:Array ae}{Q:Option ae->ag->Prop}(hh:A.handled=ab)(hI:s.heap.get? I=aa (itO (.ref T) i a es.size ep))(ho:s.heap.get? a=aa o)(hd:o.data=.set es ep t)(hf:t.fits es.size=true)(hT:IsTup s.heap T ps)
  (hp:ps[i]? = ab) (k:∀ h',(∀ b o,b ≠ I->s.heap.get? b=aa o->h'.get? b=aa o)->Q ab { s with heap:=h'}):aw (model prog w) A (pyNext (.ref I)) Q E s:=by
 have ty:s.TypeIs (.ref I) "set_iterator" :=⟨_,hI,rfl⟩
 obtain⟨ot,got,_,nt,dt⟩:=hT
 unfold pyNext
 refine ai (wpAny_attempt (wpAny_callSpecial?_slot (name:=cU "__next__") ty Fx.next_slot (wpAny_call_entry Fx.next_slot ty Fx.next_of ?_ (Fx.next_args _))))
 unfold Builtin.«set_iterator.__next__» slotArgs
 simp only[eF,eM,bm,↓reduceIte,bind_assoc,cQ,bne_self_eq_false]
 refine ai (ar (ai (wpAny_fieldsOf hI rfl ?_)))
 show aw _ _ (setEntries a >>= _) _ _ _
 refine ai (wpAny_setEntries_of ho hd hf ?_)
 rw[if_neg (by simp)]
 show aw _ _ (seqItems? (.ref T) >>= _) _ _ _
 refine ai (wpAny_seqItems got dt ?_)
 simp only[de,hp]
 refine ai (wpAny_setField_rec hI (by simp) fun h1 g1 b1=>?_)
 refine ai (wpAny_setField_rec (s:={ s with heap:=h1}) g1 (by simp) fun h2 g2 b2=>?_)
 refine stop (B:=A.in1) (s:={ s with heap:=h2}) hh fun e h' old te=>?_
 refine ai (wpAny_isInstance (b:=true) te isSubtype_stop ?_)
 exact ar (k h' fun b o hb e=>old b o ((b2.2 b hb).trans ((b1.2 b hb).trans e)))
end
end TS
namespace TS
open PySem PyProof.Rows
namespace Fx
theorem self_slot:Slot "set_iterator" "__iter__" "set_iterator.__iter__" :=.of (owner:= "set_iterator") (n:= "__iter__") (by rw[typeLookup_type,builtinLookup_eq_fast];kernel_rfl) (by decide +kernel) (by decide +kernel) (by decide +kernel) (by first | exact .inl (by decide +kernel) | exact .inr (by decide +kernel)) (by rw[isSubtype_type];kernel_rfl)
theorem self_of:entryFor table "set_iterator.__iter__" = aa Builtin.«dict_keyiterator.__iter__» :=entryFor_alias (id':= "dict_keyiterator.__iter__") (by kernel_rfl) rfl (by decide +kernel) (by kernel_rfl)
theorem self_args(v:ae):argsOk "set_iterator.__iter__" ⟨[v],[]⟩:=by unfold argsOk;kernel_rfl
end Fx
section
variable {prog:aL}{w:aX}{A:aS}{E:ae->ag->Prop}{s:ag}{I a:af}{o:Obj}{es:Array (Int × ae)}{ep:Nat}{t:SetTable}
theorem self{f0:ae}{i n:Nat}{Q:ae->ag->Prop}(hI:s.heap.get? I=aa (itO f0 i a n ep))(k:Q (.ref I) s):aw (model prog w) A (pyIter (.ref I)) Q E s:=by
 have ty:s.TypeIs (.ref I) "set_iterator" :=⟨_,hI,rfl⟩
 refine wpAny_pyIter_slot ty Fx.self_slot (wpAny_call_entry Fx.self_slot ty Fx.self_of ?_ (Fx.self_args _))
 show aw _ _ (ret (.ref I)) _ _ s
 exact ar ⟨_,rfl,"set_iterator",_,ty,Fx.next_slot.lookup,k⟩
theorem walk1(hh:A.handled=ab)(hne:a ≠ I)(hd:o.data=.set es ep t)(hf:t.fits es.size=true)(val:Nat->ae)(slots:Nat->Nat)
  (nx:∀ (i:Nat) (s:ag) (A:aS) (E:ae->ag->Prop) (R:Option (ae × Nat)->ag->Prop),i<es.size->s.heap.get? a=aa o->R (aa (val i,slots (i+1))) s->aw (model prog w) A (setNext a (slots i) i ep) R E s)
  (en:∀ (s:ag) (A:aS) (E:ae->ag->Prop) (R:Option (ae × Nat)->ag->Prop),s.heap.get? a=aa o->R ab s->aw (model prog w) A (setNext a (slots es.size) es.size ep) R E s) :
  Walks prog w A I [I,a] [I] es.size (fun i v=>v=val i) (fun i h=>h.get? I=aa (itO (rawInt (slots i)) i a es.size ep)/\h.get? a=aa o) where
 sub:=fun b hb=>by simp at hb;simp[hb]
 frame:=fun _ _ _ st kk=>⟨kk I (by simp) _ st.1,kk a (by simp) _ st.2⟩
 item:=fun i s Q E hi st k=>by
  refine next1 st.1 st.2 hd hf (fun A E R r=>nx i s A E R hi st.2 r) fun h' g old=>?_
  exact k _ h' s.toks rfl ⟨g,old a o hne st.2⟩ fun b o hb e=>old b o (by simpa using hb) e
 done:=fun s Q E st k=>end1 hh st.1 st.2 hd hf (fun A E R r=>en s A E R st.2 r) fun h' old=>k h' s.toks fun b o hb e=>old b o (by simpa using hb) e
 self:=fun i s Q E st k=>self st.1 k
theorem walk2{T:af}{ps:Array ae}(hh:A.handled=ab)(hne:a ≠ I)(hnt:T ≠ I)(hd:o.data=.set es ep t)(hf:t.fits es.size=true)(val:Nat->ae)(pl:Nat->Nat)(hl:ps.size=es.size)
  (hp:∀ i,i<es.size->ps[i]? = aa (rawInt (pl i))/\∃ h,es[pl i]? = aa (h,val i)) :
  Walks prog w A I [I,a,T] [I] es.size (fun i v=>v=val i) (fun i h=>h.get? I=aa (itO (.ref T) i a es.size ep)/\h.get? a=aa o/\IsTup h T ps) where
 sub:=fun b hb=>by simp at hb;simp[hb]
 frame:=fun _ _ _ st kk=>⟨kk I (by simp) _ st.1,kk a (by simp) _ st.2.1,let⟨o,ho,r⟩:=st.2.2;⟨o,kk T (by simp) _ ho,r⟩⟩
 item:=fun i s Q E hi st k=>by
  obtain⟨h1,h,h2⟩:=hp i hi
  refine next2 st.1 st.2.1 hd hf st.2.2 h1 h2 fun h' g old=>?_
  obtain⟨ot,got,r⟩:=st.2.2
  exact k _ h' s.toks rfl ⟨g,old a o hne st.2.1,ot,old T _ hnt got,r⟩ fun b o hb e=>old b o (by simpa using hb) e
 done:=fun s Q E st k=>end2 hh st.1 st.2.1 hd hf st.2.2 (by simp[hl]) fun h' old=>k h' s.toks fun b o hb e=>old b o (by simpa using hb) e
 self:=fun i s Q E st k=>self st.1 k
end
end TS
namespace TS
open PySem PyProof.Rows
section
variable {prog:aL}{w:aX}{A:aS}{E:ae->ag->Prop}{s:ag}{a:af}{o:Obj}{es:Array (Int × ae)}{ep:Nat}{t:SetTable}
theorem zhR{Q:Bool->ag->Prop}(k:Q (bt w) s):aw (model prog w) A setsByText Q E s:=ai (wpAny_askSetting (ar k))
theorem nextA{i:Nat}{R:Option (ae × Nat)->ag->Prop}(ho:s.heap.get? a=aa o)(hd:o.data=.set es ep t)(hf:t.fits es.size=true)(hb:bt w=true)
  (k:R (((pickOrder (w.params.setOrder a ep) es)[i]?).map fun e=>(e.2,0)) s):aw (model prog w) A (setNext a 0 i ep) R E s:=by
 unfold setNext
 refine ai (wpAny_setState_of ho hd hf ?_)
 refine ai (zhR ?_)
 rw[hb]
 simp only[bne_self_eq_false,bm,↓reduceIte]
 unfold setWalk
 refine ai (ai (wpAny_setState_of ho hd hf ?_))
 refine ai (zhR ?_)
 rw[hb]
 simp only[↓reduceIte]
 exact ai (wpAny_askSetting (ar (ar k)))
end
end TS
namespace TS
open PySem PyProof.Rows
section
variable {prog:aL}{w:aX}{A:aS}{E:ae->ag->Prop}{s:ag}{a:af}{o:Obj}{es:Array (Int × ae)}{ep:Nat}{t:SetTable}
theorem _root_.PySem.Walks.weak{I:af}{fp wr:List af}{n:Nat}{P P':Nat->ae->Prop}{St:Nat->ba->Prop}(W:Walks prog w A I fp wr n P St)(h:∀ i v,i<n->P i v->P' i v):Walks prog w A I fp wr n P' St:=
 ⟨W.sub,W.frame,fun i s Q E hi st k=>W.item i s Q E hi st fun v h' tk p=>k v h' tk (h i v hi p),W.done,W.self⟩
structure WkS(prog:aL)(w:aX)(a n0:Nat)(zs:List Str)(I:af)(h:ba):Prop where
 ex:∃ (ys:List Str) (fp:List af) (St:Nat->ba->Prop),ys.Perm zs/\I ∈ fp/\(∀ b ∈ fp,b<h.objs.size/\(b=a \/ n0<=b))/\St 0 h/\∀ B:aS,B.handled=ab->Walks prog w B I fp [I] ys.length (fun i v=>∃ u,v=fR (ys.getD i "") u) St
theorem WkS.of{n0:Nat}{zs:List Str}{I:af}{h:ba}{ord:Array (Int × ae)}{fp:List af}{St:Nat->ba->Prop}(hp:ord.toList.Perm es.toList)(ge:∀ e ∈ es.toList,∃ z u,e=(hashStr w z,fR z u))(gm:(es.toList.map fun e=>txt e.2).Perm zs)
  (hI:I ∈ fp) (hb:∀ b ∈ fp,b<h.objs.size/\(b=a \/ n0<=b)) (st:St 0 h) (W:∀ B:aS,B.handled=ab->Walks prog w B I fp [I] es.size (fun i v=>v=(ord.getD i (0,.none)).2) St):WkS prog w a n0 zs I h:=by
 have hl:ord.size=es.size:=by simpa using hp.length_eq
 refine⟨ord.toList.map fun e=>txt e.2,fp,St,(hp.map _).trans gm,hI,hb,st,fun B hB=>?_⟩
 rw[am,ax,hl]
 refine(W B hB).weak fun i v hi e=>?_
 have hi':i<ord.size:=by lia
 obtain⟨z,u,hz⟩:=ge ord[i] (hp.mem_iff.mp (by simp))
 subst e
 refine⟨u,?_⟩
 simp[hi',hz,txt]
end
end TS
namespace TS
open PySem PyProof.Rows
namespace Fx
theorem len_of:typeLookup (.type "set") "__len__" = pure (aa (.builtin "set.__len__")):=by rw[typeLookup_type,builtinLookup_eq_fast];kernel_rfl
end Fx
section
variable {prog:aL}{w:aX}{A:aS}{E:ae->ag->Prop}{s:ag}{a:af}{zs:List Str}
end
end TS
namespace TS
open PySem PyProof.Rows
section
variable {prog:aL}{w:aX}{A:aS}{E:ae->ag->Prop}{s:ag}{a:af}{zs:List Str}
end
end TS
namespace TS
open PySem PySem.Spec PyProof.Rows
theorem lt_trans:∀ (a b c:List Nat),ltCps b a=false->ltCps c b=false->ltCps c a=false
 | [],_,[],_,_=>rfl
 | [],[],_ :: _,_,_=>by simp[ltCps]
 | [],_ :: _,_ :: _,_,_=>by simp[ltCps]
 | _ :: _,[],_,h,_=>by cases h
 | _ :: _,_ :: _,[],_,h=>by cases h
 | a :: r,b :: t,c :: u,h1,h2=>by
  simp only[ltCps,Bool.or_eq_false_iff,decide_eq_false_iff_not,Bool.and_eq_false_imp,beq_iff_eq] at h1 h2 ⊢
  refine⟨by lia,fun e=>?_⟩
  have e1:b=a:=by lia
  have e2:c=b:=by lia
  exact lt_trans r t u (h1.2 e1) (h2.2 e2)
def le(a b:Str):Prop:=ltCps b.cps.toList a.cps.toList=false
open Classical in
noncomputable def srt(zs:List Str):List Str:=if h:∃ ss:List Str,ss.Pairwise le/\ss.Perm zs then h.choose else []
end TS
namespace L2
open PySem PySem.Spec PyProof.Rows TS
theorem Inv.drawn{X:Cx}{pins:List (af × Obj)}{σ:List (Option V)}{H:Hp}{s s1:ag}(I:Inv X pins σ H s)(eh:∀ b o,s.heap.get? b=aa o->s1.heap.get? b=aa o)(eg:s1.gens=s.gens)(eo:s1.os=s.os):Inv X pins σ H s1:=by
 obtain⟨h,g,d,tk,os⟩:=s1
 have eg':g=s.gens:=eg
 have eo':os=s.os:=eo
 subst eg' eo'
 have J:Inv X pins σ H { s with heap:=h,toks:=tk}:=I.kept (t':=tk) eh
 exact⟨J.ok,J.os,J.bare,J.base,J.loc,J.cell,J.free,J.freeC,J.pin,J.hok,J.len⟩
end L2
namespace L2
open PySem PySem.Spec PyProof.Rows TS
section
variable {X:Cx}{e:Expr}{t:TE}{p p1 pos pos1:Pos}
def one(R:V->Hp->Prop):List V->Hp->Prop:=fun xs H=>match xs with
 | [x]=>R x H
 | _=>False
theorem zia{R:V->Hp->Prop}{xs:List V}{H:Hp}(h:one R xs H):∃ x,xs=[x]/\R x H:=by
 match xs,h with
 | [x],h=>exact⟨x,rfl,h⟩
end
end L2
namespace L3
open PySem PySem.Spec PyProof.Rows L2 TS
section
variable {X:Cx}{e:Expr}{fe:FE}{p p1 pos pos1:Pos}
end
end L3

namespace L2
open PySem PySem.Spec PyProof.Rows
def SqQ(K:ah):Bool->Hp->af->List V->Prop
 | true=>SqT K
 | false=>SqL K
def SIt:Bool->ba->af->af->Nat->Prop
 | true,h,it,a,i=>h.IsTupleIter it a i
 | false,h,it,a,i=>h.IsListIter it a i
def QAt:Bool->ba->af->Array ae->Prop
 | true,h,a,xs=>h.IsTuple a xs
 | false,h,a,xs=>h.IsList a xs
def itN:Bool->String
 | true=> "tuple_iterator"
 | false=> "list_iterator"
theorem SIt.out{k:Bool}{h:ba}{it a:af}{i:Nat}(st:SIt k h it a i):∃ o,h.get? it=aa o/\o.cls=.type (itN k)/\o.data=.fields #[.ref a,.int i 0]:=by cases k <;> exact st
theorem SIt.mk{k:Bool}{h:ba}{it a:af}{i:Nat}(st:∃ o,h.get? it=aa o/\o.cls=.type (itN k)/\o.data=.fields #[.ref a,.int i 0]):SIt k h it a i:=by cases k <;> exact st
theorem SIt.at{k:Bool}{h h':ba}{it a:af}{i:Nat}(st:SIt k h it a i)(e:∀ o,h.get? it=aa o->h'.get? it=aa o):SIt k h' it a i:=by
 obtain⟨o,h1,h2⟩:=st.out
 exact .mk ⟨o,e o h1,h2⟩
theorem Inv.seqQ{X:Cx}{pins:List (af × Obj)}{σ:St}{H:Hp}{s:ag}{k:Bool}{a:af}{xs:List V}(I:Inv X pins σ H s)(h:SqQ X.K k H a xs):∃ its:List ae,Vals xs its/\QAt k s.heap a its.toArray:=by
 cases k with
 | true=>obtain⟨its,r,p,_⟩:=I.tuple h;exact⟨its,r,p⟩
 | false=>obtain⟨its,r,p,_⟩:=I.list h;exact⟨its,r,p.isList⟩
section
variable {prog:aL}{w:aX}{A:aS}{E:ae->ag->Prop}{s:ag}
end
section
variable {X:Cx}{A:aS}{pins:List (af × Obj)}{σ:St}{H:Hp}{s:ag}{E:ae->ag->Prop}{k k1 k2:Bool}{it a b z TI TO i1 i2:af}{i:Nat}{xs ys:List V}{x y:V}
structure ZSt(k1 k2:Bool)(z TI TO i1 i2 a b:af)(i:Nat)(f0:ae)(h:ba):Prop where
 hz:IsZip h z TI TO f0
 hi:IsPair h TI (.ref i1) (.ref i2)
 ho:∃ x y,IsPair h TO x y
 s1:SIt k1 h i1 a i
 s2:SIt k2 h i2 b i
structure ZNe(z TI TO i1 i2:af):Prop where
 n1:TI ≠ z
 n2:TO ≠ z
 n3:i1 ≠ z
 n4:i2 ≠ z
 n5:TI ≠ TO
 n6:TI ≠ i1
 n7:TI ≠ i2
 n8:TO ≠ i1
 n9:TO ≠ i2
 n10:i1 ≠ i2
theorem ZSt.keep{f0:ae}{h h':ba}(st:ZSt k1 k2 z TI TO i1 i2 a b i f0 h)(kk:∀ c ∈ [z,TI,TO,i1,i2],∀ o,h.get? c=aa o->h'.get? c=aa o):ZSt k1 k2 z TI TO i1 i2 a b i f0 h':=
 ⟨kk z (by simp) _ st.hz,kk TI (by simp) _ st.hi,let⟨x,y,e⟩:=st.ho;⟨x,y,kk TO (by simp) _ e⟩,st.s1.at fun o e=>kk i1 (by simp) o e,st.s2.at fun o e=>kk i2 (by simp) o e⟩
end
theorem QAt.push{k:Bool}{h:ba}{a:af}{xs:Array ae}(p:QAt k h a xs)(o:Obj):QAt k (h.push o) a xs:=by
 cases k with
 | true=>exact lT p o
 | false=>exact l8 p o
end L2
namespace L3
open PySem PySem.Spec PyProof.Rows L2
def qOf:Ent->Option (List D)
 | .val (.lst ds)=>aa ds
 | .val (.tup ds)=>aa ds
 | .own ds=>aa ds
 | _=>ab
def qV(fe:FE):FI:=fun δ=>(fe δ).bind qOf
def Stays(K:ah)(B F:Hp)(v:V)(ds:List D):Prop:=∃ k a vs,v=.ref a/\(∀ F2 H2,Same F F2->Same F2 H2->Same B H2->SqQ K k H2 a vs)/\Reps F vs ds
def SemQ(K:ah)(t:TE)(f:FI):Prop:=∀ (B:Bd) (F H:Hp) (σ:Sg) (δ:En) (ds:List D) (Q:VK),RS K B F H σ δ->f δ=aa ds->(∀ v F' H',Ex F H F' H'->Stays K B F' v ds->Q v H')->t σ H Q
structure VQ(X:Cx)(e:Expr)(f:FI):Prop where
 h:∃ t,WE X e t/\SemQ X.K t f
section
variable {X:Cx}{e e':Expr}{fe:FE}{fa fb:FI}{p pos tpos:Pos}{x:Str}{es:List Expr}{n:Nat}
theorem zqv(h:VE X e fe):VQ X e (qV fe):=by
 obtain⟨t,w,m⟩:=h.h
 refine⟨_,w,fun B F H σ δ ds Q s q k=>?_⟩
 obtain⟨r,q1,q⟩:=bind_some q
 refine m B F H σ δ r _ s q1 fun v F1 H1 x1 r1=>?_
 unfold qOf at q
 split at q
 ·cases q
  cases (show Rep F1 v (.lst ds) from r1) with
  | lst e rs=>exact k _ F1 H1 x1 ⟨false,_,_,rfl,fun F2 H2 a b _=>SqL.of (b _ _ (a _ _ e)),rs⟩
 ·cases q
  cases (show Rep F1 v (.tup ds) from r1) with
  | tup e rs=>exact k _ F1 H1 x1 ⟨true,_,_,rfl,fun F2 H2 a b _=>SqT.of (b _ _ (a _ _ e)),rs⟩
 ·cases q
  obtain⟨F2,x2,_,r2⟩:=RepR.frz x1 (Same.refl _) r1 rfl
  cases r2 with
  | lst e rs=>exact k _ F2 H1 x2 ⟨false,_,_,rfl,fun F3 H3 a b _=>SqL.of (b _ _ (a _ _ e)),rs⟩
 ·cases q
end
end L3

namespace L2
open PySem PySem.Spec PyProof.Rows
def Itq(K:ah):Bool->af->It
 | true=>Itt K
 | false=>Itl K
def iSq(K:ah)(tl:TE):TI:=fun σ H R=>tl σ H fun x H1=>∃ k a,x=.ref a/\(∃ xs,SqQ K k H1 a xs)/\R (Itq K k a) H1
theorem pi_seq{X:Cx}{tg l:Expr}{tl:TE}(hl:PE X l tl):PI X tg l (iSq X.K tl):=by
 intro pins s σ H R I h
 refine thn (hl pins s σ H _ I h) fun v s1 ⟨x,H1,I1,r1,q1⟩=>?_
 obtain⟨k,a,e,⟨xs,hq⟩,q⟩:=q1
 subst e
 cases r1
 have fp:∀ b ∈ [s1.heap.objs.size],zg7 X pins H1 b:=fun b hb=>by
  cases aT.mp hb
  exact I1.fpOk (ak _) (I1.hok.fresh (ak _))
 obtain⟨its,rv,p⟩:=I1.seqQ hq
 cases k with
 | true=>exact wpAny_pyIter_tuple p ⟨s1.heap.objs.size,[s1.heap.objs.size],_,_,H1,rfl,I1.kept (t':=s1.toks) fun b o e=>aj _ e,zfD a _,⟨_,aG _ rfl,rfl,rfl⟩,fp,q⟩
 | false=>exact wpAny_pyIter_list p ⟨s1.heap.objs.size,[s1.heap.objs.size],_,_,H1,rfl,I1.kept (t':=s1.toks) fun b o e=>aj _ e,zgm a _,⟨_,aG _ rfl,rfl,rfl⟩,fp,q⟩
end L2
namespace L3
open PySem PySem.Spec PyProof.Rows L2
theorem itOk_seq{K:ah}{B F0:Hp}{k:Bool}{a:af}{vs:List V}{ds:List D}(h:∀ F H,Same F0 F->Same F H->Same B H->SqQ K k H a vs)(r:Reps F0 vs ds):ItOk B F0 (Itq K k a) ds:=by
 cases k with
 | false=>exact zdU h r
 | true=>
  intro F H s1 s2 s3
  have hq:SqT K H a vs:=h F H s1 s2 s3
  refine⟨⟨vs,hq,by rw[r.length];exact ak _⟩,fun i d e=>?_⟩
  obtain⟨v,h1,h2⟩:=r.get e
  refine⟨⟨vs,v,hq,h1⟩,fun x H' y=>?_⟩
  obtain⟨e',y⟩:=y
  subst e'
  have z:=y vs hq
  rw[h1] at z
  cases z
  exact⟨F,Ex.refl s2,Rep.mono s1 h2⟩
theorem iiq{X:Cx}{tg e:Expr}{fe:FE}(h:VE X e fe):VI X tg e (qV fe):=by
 obtain⟨t,w,m⟩:=(zqv h).h
 exact⟨_,⟨pi_seq w.h⟩,fun B F H σ δ ds R s q k=>m B F H σ δ ds _ s q fun v F1 H1 x1 ⟨kk,a,vs,e,p,r⟩=>⟨kk,a,e,⟨vs,p F1 H1 (Same.refl _) x1.fh (s.bh.trans x1.hh)⟩,k _ F1 H1 x1 (itOk_seq p r)⟩⟩
end L3
namespace L2
open PySem PySem.Spec PyProof.Rows
section
variable {X:Cx}
end
end L2
namespace L3
open PySem PySem.Spec PyProof.Rows L2
end L3
namespace L2
open PySem PySem.Spec PyProof.Rows
open PySem.AutoSeq1 (wpAny_loadPart')
open PySem.MeetsSeq PySem.MeetsSeq2 PySem.MeetsSeq3
section
variable {X:Cx}
end
end L2
namespace L3
open PySem PySem.Spec PyProof.Rows L2
section
variable {X:Cx}
end
structure MtT(X:Cx)(name:Str)(g:Ent->List Ent->Option Ent):Prop where
 h:∃ id r,Slot "tuple" name id/\typeOf (.builtin id)=pure (.type "method_descriptor")/\MtR X id r /\
  (∀ (F:Hp) (v:V) (e:Ent) (es:List Ent) (res:Ent),g e es=aa res->∃ ds,e=.val (.tup ds)) /\
  ∀ (H0 F H:Hp) (x:V) (vs:List V) (e:Ent) (es:List Ent) (res:Ent) (Q:VK),Same F H->Same H0 H->RepR X.K H0 F H x e->RepRs X.K H0 F H vs es->g e es=aa res->(∀ v F' H',Ex F H F' H'->RepR X.K H0 F' H' v res->Q v H')->r x vs H Q
section
variable {X:Cx}{name:Str}{g:Ent->List Ent->Option Ent}{o e:Expr}{es:List Expr}{fo:FE}{fs:FA}{apos cpos:Pos}
end
end L3

namespace L2
open PySem PySem.Spec PyProof.Rows PyProof.Rows.KTD
section
variable {X:Cx}{a:af}{D:List (Str × Int)}
end
theorem kisS{P:aL}{w:aX}{z:Str}{u:ae}(r:RelV (.str z) u):(zc6 P w).is (bp z) u=true:=by
 obtain⟨t,rfl⟩:=r
 show iV z (.str z t)=true
 simp[iV]
def atK(kvs:List (Key × V))(k:Key):Option V:=(kvs.find? fun p=>decide (p.1=k)).map (·.2)
theorem atK_rel{kvs:List (Key × V)}{vs:List (Key × ae)}(r:KV kvs vs)(k:Key):(∃ v w,atK kvs k=aa v/\valueAt vs k=aa w/\RelV v w) \/ (atK kvs k=ab/\valueAt vs k=ab):=by
 unfold KV at r
 induction r with
 | nil=>exact .inr ⟨rfl,rfl⟩
 | @cons p q ps qs h t ih=>
  obtain⟨h1,h2⟩:=h
  unfold atK valueAt at ih ⊢
  by_cases e:p.1=k
  ·refine .inl ⟨p.2,q.2,?_,?_,h2⟩
   ·rw[fH (by simpa using e)];rfl
   ·rw[fH (by simpa using (h1 ▸ e:q.1=k))];rfl
  ·rw[fI (by simpa using e),fI (by simpa using (fun z=>e (h1.trans z):¬ q.1=k))]
   exact ih
section
variable {X:Cx}
theorem ix_dic:IxR X (fun x y H Q=>∃ a kvs z v,x=.ref a/\y=.str z/\Rd H a (.dK kvs)/\atK kvs (bp z)=aa v/\Q v H):=by
 intro value slice pins s σ H x y v u Q I rx ry h hs
 obtain⟨a,kvs,z,v',rfl,rfl,e,hv,q⟩:=h
 cases rx
 obtain⟨_,hd,vs,rel,dd⟩:=e.ok I.hok
 rcases atK_rel rel (bp z) with ⟨v2,w,e1,e2,e3⟩ | ⟨e1,_⟩
 ·rw[hv] at e1
  cases e1
  exact subscriptTail_builtinR (x:=w) dd.typeIs slot_dict_getitem.lookup (wpAny_getItem_of (kisS ry) dd.mapOf e2 ⟨rfl,v',H,I.tok _,e3,q⟩) hs
 ·rw[hv] at e1;cases e1
end
inductive PrsOf:List Str->List V->List (ae × ae)->Prop
 | nil:PrsOf [] [] []
 | cons {z:Str} {t:Tok} {v:V} {u:ae} {ks:List Str} {vs:List V} {ws:List (ae × ae)}:RelV v u->PrsOf ks vs ws->PrsOf (z :: ks) (v :: vs) ((.str z t,u) :: ws)
theorem PrsOf.len{ks:List Str}{vs:List V}{ws:List (ae × ae)}(h:PrsOf ks vs ws):ks.length=vs.length:=by
 induction h with
 | nil=>rfl
 | cons _ _ ih=>rw[aI,aI,ih]
def PDs(X:Cx)(pos:Pos)(keys:List (Option Expr))(values:List Expr)(ks:List Str)(t:TA):Prop:=
 ∀ (pins:List (af × Obj)) (s:ag) (σ:St) (H:Hp) (Q:List V->Hp->Prop),Inv X pins σ H s->t σ H Q ->
  aw (model X.prog X.w) X.A (evalPairs (pairTrees keys values X.env pos)) (fun ws s'=>∃ vs H',Inv X pins σ H' s'/\PrsOf ks vs ws/\Q vs H') X.xe s
end L2
namespace L3
open PySem PySem.Spec PyProof.Rows L2
def lkD:List Str->List D->Str->Option D
 | k :: ks,d :: ds,z=>if k=z then aa d else lkD ks ds z
 | _,_,_=>ab
theorem lkD_ok{F:Hp}(z:Str):∀ {ks:List Str} {vs:List V} {ds:List D},ks.length=vs.length->Reps F vs ds ->
  (∃ d v,lkD ks ds z=aa d/\atK ((ks.map bp).zip vs) (bp z)=aa v/\Rep F v d) \/ (lkD ks ds z=ab/\atK ((ks.map bp).zip vs) (bp z)=ab)
 | [],[],_,_,.nil=>.inr ⟨rfl,rfl⟩
 | k :: ks,v :: vs,d :: ds,hl,.cons r rs=>by
  simp only[lkD]
  unfold atK
  rw[aE,b8]
  by_cases e:k=z
  ·rw[if_pos e,fH (by simpa using e)]
   exact .inl ⟨d,v,rfl,rfl,r⟩
  ·rw[if_neg e,fI (by simpa using e)]
   exact lkD_ok z (by simpa using hl) rs
def dOf:Ent->Option (List Str × List D)
 | .val (.dic ks ds)=>aa (ks,ds)
 | _=>ab
theorem zeG{e:Ent}{p:List Str × List D}(h:dOf e=aa p):e=.val (.dic p.1 p.2):=by
 cases e with
 | val d=>cases d <;> first | (cases h;rfl) | (cases h)
 | _=>cases h
def gDx:Ent->Ent->Option Ent:=fun x y=>(dOf x).bind fun p=>(sOf y).bind fun z=>(lkD p.1 p.2 z).map .val
section
variable {X:Cx}
theorem x_dic:IxD X gDx:=⟨_,ix_dic,fun H0 F H x y e e' res Q fh hh rx ry q k=>by
 obtain⟨p,q1,q⟩:=bind_some q
 obtain⟨z,q2,q⟩:=bind_some q
 obtain⟨d,q3,q⟩:=map_some q
 cases q
 cases zeG q1
 cases zbF q2
 cases zcf ry
 cases (show Rep F x (.dic p.1 p.2) from rx) with
 | dic e l rs=>
  rcases lkD_ok z l rs with ⟨d',v,e1,e2,e3⟩ | ⟨e1,_⟩
  ·rw[q3] at e1
   cases e1
   exact⟨_,_,z,v,rfl,rfl,.inr ⟨_,fh _ _ e⟩,e2,k _ F H (Ex.refl fh) e3⟩
  ·rw[q3] at e1;cases e1⟩
structure VD(X:Cx)(pos:Pos)(keys:List (Option Expr))(values:List Expr)(ks:List Str)(fs:FA):Prop where
 h:∃ t,PDs X pos keys values ks t/\SemA X.K t fs
variable {pos kp p:Pos}{z x:Str}{j:Nat}{v sl:Expr}{keys:List (Option Expr)}{values:List Expr}{ks:List Str}{fv fe:FE}{fs:FA}
end
end L3

namespace L2
open PySem PySem.Spec PyProof.Rows
theorem valsI:∀ {ns:List Int} {us:List ae},Vals (ns.map V.int) us->IntsAre us ns
 | [],us,r=>by rw[b5] at r;cases r;exact .nil
 | n :: ns,us,r=>by
  rw[aE] at r
  cases r with
  | cons h t=>
   obtain⟨tk,e⟩:=h
   subst e
   exact .cons n tk (valsI t)
theorem call_sumI{X:Cx}(hc:X.calm=true):zdt X (.builtin "sum") (fun xs H Q=>∃ (p:af) (ns:List Int),xs=[.ref p]/\SqL X.K H p (ns.map V.int)/\Q (.int ns.sum) H):=by
 intro pins s σ H xs us Q I r h
 obtain⟨p,ns,rfl,hq,q⟩:=h
 obtain⟨u,rfl,rx⟩:=zfM r
 cases rx
 obtain⟨its,r',pl,hz⟩:=I.list hq
 have hi:=valsI r'
 obtain⟨zs,hx⟩:=hi.allInts.items
 have hn:=hi.numsOf
 have e1:its=(intItems zs).toList:=by rw[<- hx]
 rw[e1,nums_intItems] at hn
 refine sum_intListG (I.ok.hd hc) (by rw[<- hx];exact pl.isList) fun h' tk t' hk=>⟨.int ns.sum,H,I.kept (t':=tk) hk,⟨t',?_⟩,q⟩
 rw[preSum_eq,cF (by simp),hn]
end L2
namespace L3
open PySem PySem.Spec PyProof.Rows L2
def gSum:List Ent->Option Ent
 | [x]=>(asL x).bind fun ds=>(zfO ds).map fun ns=>.val (.int ns.sum)
 | _=>ab
noncomputable def fExt(i:Nat)(fe:FE):FS:=fun δ=>match δ[i]? with
 | some (aa (.own ds))=>(fe δ).bind fun r=>match r with
  | .own es=>gif (sz (ds.length+es.length)) (aa (.nx (δ.set i (aa (.own (ds ++ es))))))
  | _=>ab
 | _=>ab
section
variable {X:Cx}{e:Expr}{fe:FE}{x:Str}{p pos:Pos}
theorem c_sum(hc:X.calm=true:=by rfl):zet X (.builtin "sum") gSum:=⟨_,call_sumI hc,fun H0 F H vs es res Q fh hh r q k=>by
 obtain⟨x,rfl⟩:=zeQ rfl (fun _ _ _=>rfl) q
 obtain⟨v,rfl,rz⟩:=zc5 r
 obtain⟨ds,q1,q⟩:=bind_some q
 obtain⟨ns,q2,qz⟩:=map_some q
 cases qz
 obtain⟨l,ws,e',h1,h2⟩:=RepR.toL rz fh q1
 subst e'
 rw[zd6 h2 q2] at h1
 exact⟨l,ns,rfl,h1,k _ F H (Ex.refl fh) (.int _)⟩⟩
theorem sExt(i:Nat){apos cpos:Pos}(he:VE X e fe)(hN:X.N[i]? = aa x:=by rfl)(hv:Vis X.env.scope x:=by first | exact az rfl | exact br (az rfl) | exact br (br rfl))(hd:(x == ("__debug__" : Str))=false:=by decide)
  (hcd:(x == ("__classdict__" : Str))=false:=by decide)
  (hbase:ck (.Name x p) "extend" X.env (eval (.Name x p) X.env)=eval (.Name x p) X.env:=by rfl) (hline:(apos.endLine == cpos.line)=true:=by rfl) (h1:zao e=true:=by rfl)
  (hs:swapsWith (.Call (.Attribute (.Name x p) "extend" apos) [e] [] cpos) ab pos.line X.env=pure false:=by rfl) :
  VS X (.Expr (.Call (.Attribute (.Name x p) "extend" apos) [e] [] cpos) pos) (fExt i fe):=by
 obtain⟨t,w,m⟩:=he.h
 refine⟨_,sex (wbm dN PySem.F.slot_list_extend PySem.F.type_list_extend mt_extend (wv i hN hv hd hcd) (wac w wnil h1) hbase rfl hline h1 rfl) hs,fun B F H σ δ out DD s q k=>?_⟩
 unfold fExt at q
 split at q
 ·rename_i ds hi
  obtain⟨r,q2,q⟩:=bind_some q
  cases r with
  | own es=>
   obtain⟨hl,qz⟩:=za0 q
   cases qz
   obtain⟨v,h1,l,vs,e,h2,h3,h4,h5⟩:=s.ent i _ hi
   subst e
   refine⟨_,h1,.inl ⟨rfl,vs,SqL.of h2⟩,?_⟩
   refine m B F H σ δ _ _ s q2 fun y F1 H1 x1 z=>?_
   obtain⟨l2,ws,ey,z0,z1,z2,z3⟩:=z
   subst ey
   refine⟨l,l2,vs,ws,rfl,rfl,x1.hh _ _ h2,z1,?_,?_⟩
   ·rw[h3.length,z2.length,ci];unfold sz at hl;lia
   ·exact k σ F1 _ ((s.ext x1).mut hi h1 ((h3.mono x1.ff).append z2)) (.of x1 s.bh)
  | _=>cases q
 ·cases q
end
end L3

namespace L2
open PySem PySem.Spec PyProof.Rows
namespace RV
theorem lri_len:typeLookup (.type "list_reverseiterator") "__len__" = pure ab:=by rw[typeLookup_type,builtinLookup_eq_fast];kernel_rfl
theorem lri_hint:typeLookup (.type "list_reverseiterator") "__length_hint__" = pure (aa (.builtin "list_reverseiterator.__length_hint__")):=by rw[typeLookup_type,builtinLookup_eq_fast];kernel_rfl
end RV
section
variable {prog:aL}{w:aX}{A:aS}{E:ae->ag->Prop}{s:ag}
set_option maxRecDepth 100000
theorem hint_rev{I l:af}{i:Int}{Q:Bool->ag->Prop}(hit:s.heap.IsRevIter I l i)(q:Q false s):aw (model prog w) A (ek (.ref I)) Q E s:=by
 unfold ek
 refine ai (wpAny_specialOf hit.typeIs RV.lri_len ?_)
 wp_delta
 refine ai (wpAny_specialOf hit.typeIs RV.lri_hint ?_)
 wp_delta
 refine ai (wpAny_isInstance (T:= "list_reverseiterator") (b:=true) hit.typeIs (by rw[isSubtype_type];kernel_rfl) ?_)
 show aw _ A (pure false) Q E s
 exact ar q
end
end L2
namespace L2
open PySem PySem.Spec PyProof.Rows
section
variable {X:Cx}{e:Expr}{t:TE}{p p1 pos pos1:Pos}
theorem rev_vals{xs:List V}{its:List ae}(r:Vals xs its){acc:Array ae}(h:ItemsOf (fun i v=>its.toArray[its.toArray.size - 1 - i]? = aa v) acc its.toArray.size):Vals xs.reverse acc.toList:=by
 obtain⟨h1,h2⟩:=h
 have e:acc.toList=its.reverse:=by
  apply jo
  intro j
  by_cases hj:j<its.length
  ·have hs:acc.size=its.length:=by simpa using h1
   have:=h2 j acc[j] (by simp[hs,hj])
   rw[List.getElem?_reverse hj]
   simp only[a7,List.getElem?_toArray] at this
   rw[this]
   simp[hs,hj]
  ·have hs:acc.size=its.length:=by simpa using h1
   rw[dm (by simp[hs];lia),dm (by simp;lia)]
 rw[e]
 clear h1 h2 e
 induction r with
 | nil=>exact .nil
 | cons h t ih=>
  rw[fC,fC]
  exact ih.append (.cons h .nil)
end
end L2
namespace L3
open PySem PySem.Spec PyProof.Rows L2
section
variable {X:Cx}{e:Expr}{fe:FE}{p p1 pos pos1:Pos}
end
end L3

namespace L3
open PySem PySem.Spec PyProof.Rows L2
def zgv:List Ent->Option Ent
 | [x,y]=>(iOf x).bind fun i=>(iOf y).map fun j=>.val (.int (if j<i then j else i))
 | _=>ab
section
variable {X:Cx}
theorem c_min2(hc:X.calm=true:=by rfl):zet X (.builtin "min") zgv:=⟨_,call_min2 hc,fun H0 F H vs es res Q fh hh r q k=>by
 match es,q with
 | [x,y],q=>
  obtain⟨i,q1,q⟩:=bind_some q
  obtain⟨j,q2,q⟩:=map_some q
  cases zaS q1
  cases zaS q2
  cases q
  cases r with
  | cons r1 r=>
   cases r with
   | cons r2 r=>
    cases r
    cases za9 r1
    cases za9 r2
    exact⟨i,j,rfl,k _ F H (Ex.refl fh) (.int _)⟩⟩
end
end L3

namespace L3
open PySem PySem.Spec PyProof.Rows L2
def zgj(H:Hp)(A:List af):Hp:=fun a=>if a ∈ A then ab else H a
section
variable {K:ah}{B:Bd}{F H F' H' H0:Hp}{σ:Sg}{δ:En}{v:V}{A A':List af}{a:af}{u:HO}{i:Nat}{o o':OT}
theorem zcM(h:a ∈ A):zgj H A a=ab:=if_pos h
theorem zf1(h:a ∉ A):zgj H A a=H a:=if_neg h
theorem zbs(h:zgj H A a=aa u):a ∉ A/\H a=aa u:=by
 by_cases q:a ∈ A
 ·rw[zcM q] at h;cases h
 ·rw[zf1 q] at h;exact⟨q,h⟩
theorem zcr(h:a ∉ A)(e:H a=aa u):zgj H A a=aa u:=(zf1 h).trans e
structure Chg(H F F' H':Hp)(A:List af):Prop where
 ff:Same F F'
 fh:Same F' H'
 st:Same (zgj H A) H'
 nw:∀ a u,zgj H A a=aa u->isT u=false->F' a=F a
theorem TR.far{Aj:List af}{w:V}{p:OT}(t:TR K F H w p Aj)(c:Chg H F F' H' A)(h:∀ a ∈ Aj,a ∉ A):TR K F' H' w p Aj/\∀ a ∈ Aj,F' a=F a:=
 ⟨t.move c.ff fun a ha=>let⟨_,h1,_⟩:=t.lies a ha;(c.st _ _ (zcr (h a ha) h1)).trans h1.symm,fun a ha=>let⟨_,h1,h2⟩:=t.lies a ha;c.nw _ _ (zcr (h a ha) h1) h2⟩
theorem RS.chg(s:RS K B F H σ δ)(hi:δ[i]? = aa (aa (.obj o)))(hs:σ[i]? = aa (aa v))(t:TR K F H v o A)(c:Chg H F F' H' A)(t':TR K F' H' v o' A')(n':A'.Nodup)(f':∀ a ∈ A',F' a=ab/\zgj H A a=ab) :
  RS K B F' H' σ (δ.set i (aa (.obj o')))/\FX B F F':=by
 obtain⟨A0,t0,n0,f0⟩:=s.at hi hs
 cases t0.det t
 have hB:∀ a u,(B:Hp) a=aa u->zgj H A a=aa u:=fun a u h=>zcr (fun ha=>by rw[(f0 a ha).2] at h;cases h) (s.bh _ _ h)
 have far:∀ (j:Nat) (e:Ent) (w:V) (a:af),i ≠ j->δ[j]? = aa (aa e)->σ[j]? = aa (aa w)->Occ K F H w e a->a ∉ A:=fun j e w a hij h1 h2 h3 ha=>s.ao i j _ e v w a hij hi hs h1 h2 rfl ⟨A,t,ha⟩ h3
 have mv:∀ (j:Nat) (w:V) (p:OT) (Aj:List af),i ≠ j->(δ[j]? = aa (aa (.obj p)) \/ ∃ ks es,δ[j]? = aa (aa (.vwt ks es))/\p=.dcT ks es)->σ[j]? = aa (aa w)->TR K F H w p Aj->TR K F' H' w p Aj/\∀ a ∈ Aj,F' a=F a:=fun j w p Aj hij h1 h2 tj=>
  tj.far c fun a ha=>h1.elim (fun h1=>far j _ w a hij h1 h2 ⟨Aj,tj,ha⟩) fun⟨ks,es,h1,hp⟩=>far j _ w a hij h1 h2 ⟨Aj,hp ▸ tj,ha⟩
 have bk:∀ (j:Nat) (e:Ent) (w:V) (a:af),i ≠ j->δ[j]? = aa (aa e)->σ[j]? = aa (aa w)->Occ K F' H' w e a->Occ K F H w e a:=fun j e w a hij z1 z2 z3=>z3.back (s.at z1 z2) fun p Aj he tj=>by
  rcases he with he | ⟨ks,es,he,ho⟩
  ·subst he;exact(mv j w p Aj hij (.inl z1) z2 tj).1
  ·subst he;exact(mv j w p Aj hij (.inr ⟨ks,es,z1,ho⟩) z2 tj).1
 refine⟨⟨c.fh,fun a u h=>c.st a u (hB a u h),by simp[s.len],fun j e q=>?_,fun a b l2 es e' hab q1 q2 q3 q4=>?_,fun a b e1 e2 v1 v2 ad hab q1 q2 q3 q4 q5 q6 q7=>?_,fun w p hw hp=>?_⟩,⟨c.ff,fun a u h ht=>c.nw a u (hB a u h) ht⟩⟩
 ·rw[bo] at q
  by_cases hij:i=j
  ·subst hij
   rw[if_pos rfl] at q
   split at q
   ·cases q
    exact⟨v,hs,A',t',n',fun a ha=>⟨(f' a ha).1,by
     cases z:(B:Hp) a with
     | none=>rfl
     | some u=>have:=hB a u z;rw[(f' a ha).2] at this;cases this⟩⟩
   ·cases q
  ·rw[if_neg hij] at q
   obtain⟨w,p1,p2⟩:=s.ent j e q
   refine⟨w,p1,?_⟩
   cases e with
   | val d=>exact Rep.mono c.ff p2
   | bor ds=>obtain⟨l,vs,e,p3,p4⟩:=p2;exact⟨l,vs,e,p3,p4.mono c.ff⟩
   | own es=>
    obtain⟨l,vs,e,p3,p4,p5,p6⟩:=p2
    have hl:=far j _ w l hij q p1 e
    exact⟨l,vs,e,c.st _ _ (zcr hl p3),p4.mono c.ff,(c.nw _ _ (zcr hl p3) rfl).trans p5,p6⟩
   | vw es=>
    obtain⟨l,vs,e,p3,p4⟩:=p2
    have hl:=far j _ w l hij q p1 e
    exact⟨l,vs,e,c.st _ _ (zcr hl p3),p4.mono c.ff⟩
   | obj p=>
    obtain⟨Aj,tj,nj,fj⟩:=p2
    obtain⟨m1,m2⟩:=mv j w p Aj hij (.inl q) p1 tj
    exact⟨Aj,m1,nj,fun a ha=>⟨(m2 a ha).trans (fj a ha).1,(fj a ha).2⟩⟩
   | vwt ks es=>obtain⟨Aj,tj⟩:=p2;exact⟨Aj,(mv j w _ Aj hij (.inr ⟨ks,es,q,rfl⟩) p1 tj).1⟩
   | bt ds=>obtain⟨l,vs,e,p3,p4⟩:=p2;exact⟨l,vs,e,p3,p4.mono c.ff⟩
 ·rw[bo] at q1 q3
  by_cases hia:i=a
  ·subst hia
   rw[if_pos rfl] at q1
   split at q1 <;> cases q1
  ·rw[if_neg hia] at q1
   by_cases hib:i=b
   ·subst hib
    rw[if_pos rfl] at q3
    split at q3
    ·cases q3;cases q4
    ·cases q3
   ·rw[if_neg hib] at q3
    exact s.ap a b l2 es e' hab q1 q2 q3 q4
 ·have key:∀ (j:Nat) (e:Ent) (w:V),i ≠ j->δ[j]? = aa (aa e)->σ[j]? = aa (aa w)->Occ K F' H' w e ad->Occ K F' H' v (.obj o') ad->False:=fun j e w hij z1 z2 z3 z4=>by
   have z5:=bk j e w ad hij z1 z2 z3
   obtain⟨u,hu⟩:=s.occ z1 z2 z5
   obtain⟨A2,t2,h2⟩:=z4
   rw[t2.det t'] at h2
   have:=(f' ad h2).2
   rw[zcr (far j e w ad hij z1 z2 z5) hu] at this
   cases this
  rw[bo] at q1 q3
  by_cases hia:i=a
  ·subst hia
   rw[if_pos rfl] at q1
   rw[if_neg hab] at q3
   split at q1
   ·cases q1
    rw[hs] at q2
    cases q2
    exact key b e2 v2 hab q3 q4 q7 q6
   ·cases q1
  ·rw[if_neg hia] at q1
   by_cases hib:i=b
   ·subst hib
    rw[if_pos rfl] at q3
    split at q3
    ·cases q3
     rw[hs] at q4
     cases q4
     exact key a e1 v1 hia q1 q2 q6 q7
    ·cases q3
   ·rw[if_neg hib] at q3
    exact s.ao a b e1 e2 v1 v2 ad hab q1 q2 q3 q4 q5 (bk a e1 v1 ad hia q1 q2 q6) (bk b e2 v2 ad hib q3 q4 q7)
 ·rw[bo] at hp
  by_cases hi0:i=0
  ·subst hi0
   exact s.pn w o hw hi
  ·rw[if_neg hi0] at hp
   exact s.pn w p hw hp
theorem TRs.focus:∀ {vs:List V} {os:List OT} {A:List af} {k:Nat} {x:OT},TRs K F H vs os A->os[k]? = aa x->∃ v A1,vs[k]? = aa v/\TR K F H v x A1/\(∀ a ∈ A1,a ∈ A)/\(A.Nodup->A1.Nodup) /\
  ∀ (F' H':Hp) (x':OT) (A1':List af),A.Nodup->Same F F'->(∀ a ∈ A,a ∉ A1->H' a=H a)->TR K F' H' v x' A1'->A1'.Nodup->(∀ a ∈ A1',a ∈ A1 \/ a ∉ A)->∃ A',TRs K F' H' vs (os.set k x') A'/\A'.Nodup/\∀ a ∈ A',(a ∈ A/\a ∉ A1) \/ a ∈ A1'
 | _,_,_,k,x,.nil,h=>by simp at h
 | _,_,_,0,x,.cons (A:=A0) (A':=A2) t ts,h=>by
  simp at h
  subst h
  refine⟨_,A0,rfl,t,fun a ha=>bA _ ha,fun n=>(bN.mp n).1,fun F' H' x' A1' n sf hh t' n' hd=>?_⟩
  obtain⟨n0,n2,nd⟩:=bN.mp n
  refine⟨A1' ++ A2,.cons t' (ts.move sf fun a ha=>hh a (aA _ ha) fun h0=>nd a h0 a ha rfl),bN.mpr ⟨n',n2,fun a ha b hb e=>?_⟩,fun a ha=>?_⟩
  ·subst e
   rcases hd a ha with h | h
   ·exact nd a h a hb rfl
   ·exact h (aA _ hb)
  ·rcases bu.mp ha with h | h
   ·exact .inr h
   ·exact .inl ⟨aA _ h,fun h0=>nd a h0 a h rfl⟩
 | _,_,_,k+1,x,.cons (A:=A0) (A':=A2) t ts,h=>by
  obtain⟨v,A1,h1,h2,h3,h3n,h4⟩:=TRs.focus (k:=k) (x:=x) ts (by simpa using h)
  refine⟨v,A1,by simpa using h1,h2,fun a ha=>aA _ (h3 a ha),fun n=>h3n (bN.mp n).2.1,fun F' H' x' A1' n sf hh t' n' hd=>?_⟩
  obtain⟨n0,n2,nd⟩:=bN.mp n
  obtain⟨A',m1,m2,m3⟩:=h4 F' H' x' A1' n2 sf (fun a ha hn=>hh a (aA _ ha) hn) t' n' fun a ha=>(hd a ha).imp id fun z q=>z (aA _ q)
  refine⟨A0 ++ A',.cons (t.move sf fun a ha=>hh a (bA _ ha) fun z=>nd a ha a (h3 a z) rfl) m1,bN.mpr ⟨n0,m2,fun a ha b hb e=>?_⟩,fun a ha=>?_⟩
  ·subst e
   rcases m3 a hb with h | h
   ·exact nd a ha a h.1 rfl
   ·rcases hd a h with h | h
    ·exact nd a ha a (h3 a h) rfl
    ·exact h (bA _ ha)
  ·rcases bu.mp ha with h | h
   ·exact .inl ⟨bA _ h,fun z=>nd a h a (h3 a z) rfl⟩
   ·exact(m3 a h).imp (fun z=>⟨aA _ z.1,z.2⟩) id
theorem TRs.put{y:V}{x:OT}{A1:List af}(ty:TR K F H y x A1):∀ {vs:List V} {os:List OT} {A:List af} {k:Nat},TRs K F H vs os A->k<os.length->A.Nodup->A1.Nodup->(∀ a ∈ A1,a ∉ A)->∃ A',TRs K F H (vs.set k y) (os.set k x) A'/\A'.Nodup/\∀ a ∈ A',a ∈ A \/ a ∈ A1
 | _,_,_,k,.nil,h,_,_,_=>by simp at h
 | _,_,_,0,.cons (A:=A0) (A':=A2) t ts,_,n,n1,hd=>by
  obtain⟨n0,n2,nd⟩:=bN.mp n
  refine⟨A1 ++ A2,.cons ty ts,bN.mpr ⟨n1,n2,fun a ha b hb e=>?_⟩,fun a ha=>?_⟩
  ·subst e;exact hd a ha (aA _ hb)
  ·exact(bu.mp ha).elim .inr fun z=>.inl (aA _ z)
 | _,_,_,k+1,.cons (A:=A0) (A':=A2) t ts,h,n,n1,hd=>by
  obtain⟨n0,n2,nd⟩:=bN.mp n
  obtain⟨A',m1,m2,m3⟩:=TRs.put ty (k:=k) ts (by simpa using h) n2 n1 fun a ha z=>hd a ha (aA _ z)
  refine⟨A0 ++ A',.cons t m1,bN.mpr ⟨n0,m2,fun a ha b hb e=>?_⟩,fun a ha=>?_⟩
  ·subst e
   rcases m3 a hb with z | z
   ·exact nd a ha a z rfl
   ·exact hd a z (bA _ ha)
  ·rcases bu.mp ha with z | z
   ·exact .inl (bA _ z)
   ·exact(m3 a z).imp (aA _) id
theorem TRs.add{y:V}{x:OT}{A1:List af}(ty:TR K F H y x A1):∀ {vs:List V} {os:List OT} {A:List af},TRs K F H vs os A->∃ A',TRs K F H (vs ++ [y]) (os ++ [x]) A'/\A'=A ++ A1
 | _,_,_,.nil=>⟨A1,by simpa using TRs.cons ty .nil,by simp⟩
 | _,_,_,.cons (A:=A0) t ts=>by
  obtain⟨A',m1,m2⟩:=TRs.add ty ts
  exact⟨A0 ++ A',.cons t m1,by rw[m2,bG]⟩
theorem zds:∀ {ns:List Str} {vs:List V} {k:Nat} {f:Str} {v:V},ns.Nodup->ns[k]? = aa f->vs[k]? = aa v->(ns.zip vs).lookup f=aa v
 | [],_,_,_,_,_,h,_=>by simp at h
 | _ :: _,[],_,_,_,_,_,h=>by simp at h
 | n :: ns,w :: vs,0,f,v,_,h1,h2=>by
  simp at h1 h2
  subst h1;subst h2
  simp[cj]
 | n :: ns,w :: vs,k+1,f,v,nd,h1,h2=>by
  have h1':ns[k]? = aa f:=by simpa using h1
  have hne:(f == n)=false:=by
   rw[beq_eq_false_iff_ne]
   intro e
   subst e
   exact(aW.mp nd).1 (da h1')
  rw[b8,cj,hne]
  exact zds (aW.mp nd).2 h1' (by simpa using h2)
theorem zfc:∀ {ns:List Str} {vs:List V} {f:Str},f ∉ ns->(ns.zip vs).lookup f=ab
 | [],_,_,_=>rfl
 | _ :: _,[],_,_=>rfl
 | n :: ns,w :: vs,f,h=>by
  have hne:(f == n)=false:=by
   rw[beq_eq_false_iff_ne];intro e;exact h (by simp[e])
  rw[b8,cj,hne]
  exact zfc fun z=>h (al _ z)
theorem zit:∀ {ns:List Str} {vs:List V} {k:Nat} {f:Str} {y:V},ns.Nodup->ns[k]? = aa f->ns.length=vs.length->zfn f y (ns.zip vs)=ns.zip (vs.set k y)
 | [],_,_,_,_,_,h,_=>by simp at h
 | _ :: _,[],_,_,_,_,_,h=>by simp at h
 | n :: ns,w :: vs,0,f,y,_,h,_=>by
  simp at h
  subst h
  simp[zfn]
 | n :: ns,w :: vs,k+1,f,y,nd,h,hl=>by
  have h':ns[k]? = aa f:=by simpa using h
  have hne:¬ n=f:=fun e=>by subst e;exact(aW.mp nd).1 (da h')
  rw[b8,zfn,if_neg hne,zit (aW.mp nd).2 h' (by simpa using hl)]
  rfl
theorem putF_new{ns:List Str}{vs:List V}{f:Str}{y:V}(h:f ∉ ns)(hl:ns.length=vs.length):zfn f y (ns.zip vs)=(ns ++ [f]).zip (vs ++ [y]):=by
 induction ns generalizing vs with
 | nil=>
  cases vs with
  | nil=>rfl
  | cons w vs=>simp at hl
 | cons n ns ih=>
  cases vs with
  | nil=>simp at hl
  | cons w vs=>
   have hne:¬ n=f:=fun e=>h (by simp[e])
   rw[b8,zfn,if_neg hne,ih (fun z=>h (al _ z)) (by simpa using hl)]
   rfl
def toO:Ent->Option OT
 | .val d=>aa (.val d)
 | .own ds=>aa (.lst ds)
 | .obj o=>aa o
 | _=>ab
theorem RepR.toO{e:Ent}{x:OT}(r:RepR K H0 F H v e)(q:toO e=aa x):∃ A,TR K F H v x A/\A.Nodup/\∀ a ∈ A,F a=ab/\H0 a=ab:=by
 cases e with
 | val d=>cases q;exact⟨[],.val r,.nil,fun a h=>by cases h⟩
 | own ds=>cases q;obtain⟨l,vs,e,h0,h1,rs,h2⟩:=r;subst e;exact⟨[l],.lst h1 rs,by simp,fun a h=>by simp at h;subst h;exact⟨h2,h0⟩⟩
 | obj o=>cases q;exact r.2
 | _=>cases q
end
noncomputable def isC(c:Str)(ns:List Str):OT->Option (List OT)
 | .ins c' ns' l=>gif (c'=c/\ns'=ns) (aa l)
 | _=>ab
theorem zdl{c:Str}{ns:List Str}{l:List OT}:isC c ns (.ins c ns l)=aa l:=gif_pos ⟨rfl,rfl⟩
theorem zcZ{c:Str}{ns:List Str}{o:OT}{l:List OT}(h:isC c ns o=aa l):o=.ins c ns l:=by
 cases o with
 | ins c' ns' l'=>
  obtain⟨⟨h1,h2⟩,h3⟩:=za0 h
  cases h3
  rw[h1,h2]
 | _=>cases h
def oAt(i:Nat):En->Option OT:=fun δ=>match δ[i]? with
 | some (aa (.obj o))=>aa o
 | _=>ab
theorem zaR{i:Nat}{δ:En}{o:OT}(h:oAt i δ=aa o):δ[i]? = aa (aa (.obj o)):=by
 unfold oAt at h
 split at h
 ·rename_i o' e;cases h;exact e
 ·cases h
def fE:OT->Option Ent
 | .val d=>aa (.val d)
 | .lst ds=>aa (.vw ds)
 | _=>ab
noncomputable def eFld(i:Nat)(c:Str)(ns:List Str)(k:Nat):FE:=fun δ=>((oAt i δ).bind (isC c ns)).bind fun l=>(l[k]?).bind fE
structure ClsF(K:ah)(c:Str)(ns:List Str):Prop where
 h:∀ C,zev K c C->Cls K C/\∀ f ∈ ns,NoAttr K C f
theorem zcQ{K:ah}{c:Str}{C C':af}(h:zev K c C)(h':zev K c C'):C=C':=by
 have:=h.symm.trans h'
 simp at this
 exact this
section
variable {X:Cx}{e:Expr}{pos pos' p:Pos}{fe:FE}{x f c:Str}{i k:Nat}{ns nsF:List Str}
theorem vFld(i k:Nat)(hc:ClsF X.K c nsF)(hf:f ∈ nsF:=by decide +kernel)(hk:ns[k]? = aa f:=by rfl)(hn:ns.Nodup:=by decide +kernel)(hN:X.N[i]? = aa x:=by rfl)(hv:Vis X.env.scope x:=by first | exact az rfl | exact br (az rfl) | exact br (br rfl))(hd:(x == ("__debug__" : Str))=false:=by decide)
  (hcd:(x == ("__classdict__" : Str))=false:=by decide) (hb:ck (.Name x p) f X.env (eval (.Name x p) X.env)=eval (.Name x p) X.env:=by rfl):VE X (.Attribute (.Name x p) f pos) (eFld i c ns k):=by
 refine⟨_,⟨pe_fld (wv i hN hv hd hcd).h hb⟩,fun B F H σ δ r Q s q kk=>?_⟩
 obtain⟨l,q1,q⟩:=bind_some q
 obtain⟨o,q0,q1⟩:=bind_some q1
 obtain⟨x1,q2,q⟩:=bind_some q
 cases zcZ q1
 obtain⟨v,h1,A,t,_,_⟩:=s.ent i _ (zaR q0)
 cases t with
 | ins hcl e1 e2 hl ts=>
  obtain⟨w,A1,h2,h3,_⟩:=ts.focus q2
  obtain⟨g1,g2⟩:=hc.h _ hcl
  refine⟨_,h1,_,_,_,_,w,rfl,e1,g1,g2 f hf,zds hn hk h2,?_⟩
  cases x1 with
  | val d=>cases q;cases h3 with | val h3=>exact kk w F H (Ex.refl s.fh) h3
  | lst ds=>cases q;cases h3 with | lst h3 h4=>exact kk _ F H (Ex.refl s.fh) ⟨_,_,rfl,h3,h4⟩
  | ins _ _ _=>cases q
  | dic _ _=>cases q
  | dcT _ _=>cases q
end
section
variable {K:ah}{B:Bd}{F H F1 H1 F' H' H0:Hp}{σ:Sg}{δ:En}{v w:V}{A A' A1 A1':List af}{a dx C:af}{i k:Nat}{o x' x1:OT}{c:Str}{ns ns':List Str}{vs vs':List V}{l l':List OT}
theorem RS.fld(s:RS K B F H σ δ)(x:Ex F H F1 H1)(hi:δ[i]? = aa (aa (.obj (.ins c ns l))))(hs:σ[i]? = aa (aa (.ref a)))(hcl:zev K c C)(e1:H a=aa (.ins C dx (ns.zip vs)))(e2:H dx=aa (.own a))(hl:ns.length=vs.length)(ts:TRs K F H vs l A)(n:(a :: dx :: A).Nodup)
  (hl':ns'.length=vs'.length) (ts':TRs K F1 H1 vs' l' A') (n':A'.Nodup) (hA:∀ b ∈ A',b ∈ A \/ (F1 b=ab/\H b=ab)) :
  RS K B F1 (upd H1 a (.ins C dx (ns'.zip vs'))) σ (δ.set i (aa (.obj (.ins c ns' l'))))/\FX B F F1:=by
 have t:TR K F H (.ref a) (.ins c ns l) (a :: dx :: A):=.ins hcl e1 e2 hl ts
 obtain⟨A0,t0,n0,f0⟩:=s.at hi hs
 cases t0.det t
 have fA:∀ b ∈ a :: dx :: A,F1 b=ab:=fun b hb=>((t.ext x).2 b hb).trans (f0 b hb).1
 have hadx:a ≠ dx:=fun e=>(aW.mp n).1 (by rw[e];exact av)
 have haA:a ∉ A:=fun e=>(aW.mp n).1 (al _ e)
 have hdA:dx ∉ A:=(aW.mp (aW.mp n).2).1
 have ha':a ∉ A':=fun e=>(hA a e).elim haA fun z=>by rw[e1] at z;cases z.2
 have hd':dx ∉ A':=fun e=>(hA dx e).elim hdA fun z=>by rw[e2] at z;cases z.2
 refine s.chg hi hs t ⟨x.ff,fun b u h=>?_,fun b u h=>?_,fun b u h ht=>?_⟩ (.ins hcl zah (by rw[zak (cx hadx)];exact x.hh _ _ e2) hl' (ts'.move (Same.refl _) fun b hb=>zak fun e=>ha' (e ▸ hb))) ?_ fun b hb=>?_
 ·rw[zak fun e=>by subst e;rw[fA b av] at h;cases h]
  exact x.fh _ _ h
 ·obtain⟨h1,h2⟩:=zbs h
  rw[zak fun e=>h1 (by rw[e];exact av)]
  exact x.hh _ _ h2
 ·exact x.nw _ _ (zbs h).2 ht
 ·refine aW.mpr ⟨fun h=>?_,aW.mpr ⟨hd',n'⟩⟩
  rcases aN.mp h with e | e
  ·exact hadx e
  ·exact ha' e
 ·rcases aN.mp hb with e | hb
  ·subst e;exact⟨fA b av,zcM av⟩
  ·rcases aN.mp hb with e | hb
   ·subst e;exact⟨fA b (al _ av),zcM (al _ av)⟩
   ·rcases hA b hb with z | z
    ·exact⟨fA b (al _ (al _ z)),zcM (al _ (al _ z))⟩
    ·refine⟨z.1,?_⟩
     unfold zgj
     split
     ·rfl
     ·exact z.2
theorem RS.sub(s:RS K B F H σ δ)(hi:δ[i]? = aa (aa (.obj (.ins c ns l))))(hs:σ[i]? = aa (aa (.ref a)))(hcl:zev K c C)(e1:H a=aa (.ins C dx (ns.zip vs)))(e2:H dx=aa (.own a))(hl:ns.length=vs.length)(ts:TRs K F H vs l A)
  (hk:l[k]? = aa x1) (hv:vs[k]? = aa w) (t1:TR K F H w x1 A1) (ch:Chg H F F' H' A1) (t':TR K F' H' w x' A1') (n':A1'.Nodup) (f':∀ b ∈ A1',F' b=ab/\zgj H A1 b=ab) :
  RS K B F' H' σ (δ.set i (aa (.obj (.ins c ns (l.set k x')))))/\FX B F F':=by
 have t:TR K F H (.ref a) (.ins c ns l) (a :: dx :: A):=.ins hcl e1 e2 hl ts
 obtain⟨A0,t0,n,f0⟩:=s.at hi hs
 cases t0.det t
 obtain⟨w',B1,hw,tb,sb,_,go⟩:=ts.focus hk
 rw[hv] at hw
 cases hw
 cases tb.det t1
 have haA:a ∉ A:=fun e=>(aW.mp n).1 (al _ e)
 have hadx:a ≠ dx:=fun e=>(aW.mp n).1 (by rw[e];exact av)
 have hdA:dx ∉ A:=(aW.mp (aW.mp n).2).1
 have nA:A.Nodup:=(aW.mp (aW.mp n).2).2
 have stay:∀ b u,b ∉ A1->H b=aa u->H' b=aa u:=fun b u hb hu=>ch.st _ _ (zcr hb hu)
 have new:∀ b ∈ A1',∀ u,b ∉ A1->H b ≠ aa u:=fun b hb u h1 h2=>by have:=(f' b hb).2;rw[zcr h1 h2] at this;cases this
 obtain⟨A2,m1,m2,m3⟩:=go F' H' x' A1' nA ch.ff (fun b hb hn=>by
  obtain⟨u,hu,_⟩:=ts.lies b hb
  rw[stay b u hn hu,hu]) t' n' fun b hb=>by
   by_cases h1:b ∈ A1
   ·exact .inl h1
   ·exact .inr fun h2=>by obtain⟨u,hu,_⟩:=ts.lies b h2;exact new b hb u h1 hu
 have ha1:a ∉ A1:=fun e=>haA (sb a e)
 have hd1:dx ∉ A1:=fun e=>hdA (sb dx e)
 have ha2:a ∉ A2:=fun e=>(m3 a e).elim (fun z=>haA z.1) fun z=>new a z _ ha1 e1
 have hd2:dx ∉ A2:=fun e=>(m3 dx e).elim (fun z=>hdA z.1) fun z=>new dx z _ hd1 e2
 refine s.chg hi hs t ⟨ch.ff,ch.fh,fun b u h=>?_,fun b u h ht=>?_⟩ (.ins hcl (stay _ _ ha1 e1) (stay _ _ hd1 e2) hl m1) ?_ fun b hb=>?_
 ·obtain⟨h1,h2⟩:=zbs h
  exact stay b u (fun e=>h1 (al _ (al _ (sb b e)))) h2
 ·obtain⟨h1,h2⟩:=zbs h
  exact ch.nw b u (zcr (fun e=>h1 (al _ (al _ (sb b e)))) h2) ht
 ·refine aW.mpr ⟨fun h=>?_,aW.mpr ⟨hd2,m2⟩⟩
  rcases aN.mp h with e | e
  ·exact hadx e
  ·exact ha2 e
 ·have old:∀ b u,b ∈ a :: dx :: A->b ∉ A1->H b=aa u->isT u=false->F' b=ab/\zgj H (a :: dx :: A) b=ab:=fun b u h1 h2 h3 h4=>⟨(ch.nw b u (zcr h2 h3) h4).trans (f0 b h1).1,zcM h1⟩
  rcases aN.mp hb with e | hb
  ·subst e;exact old b _ av ha1 e1 rfl
  ·rcases aN.mp hb with e | hb
   ·subst e;exact old b _ (al _ av) hd1 e2 rfl
   ·rcases m3 b hb with z | z
    ·obtain⟨u,hu,hu'⟩:=ts.lies b z.1
     exact old b u (al _ (al _ z.1)) z.2 hu hu'
    ·refine⟨(f' b z).1,?_⟩
     by_cases h1:b ∈ A1
     ·exact zcM (al _ (al _ (sb b h1)))
     ·have:=(f' b z).2
      rw[zf1 h1] at this
      unfold zgj
      split
      ·rfl
      ·exact this
end
noncomputable def zho(i:Nat)(c:Str)(ns:List Str)(k:Nat)(fe:FE):FS:=fun δ=>((fe δ).bind toO).bind fun y=>((oAt i δ).bind (isC c ns)).bind fun l=>if k<l.length then aa (.nx (δ.set i (aa (.obj (.ins c ns (l.set k y)))))) else ab
noncomputable def fFNew(i:Nat)(c:Str)(ns:List Str)(f:Str)(fe:FE):FS:=fun δ=>((fe δ).bind toO).bind fun y=>((oAt i δ).bind (isC c ns)).bind fun l=>aa (.nx (δ.set i (aa (.obj (.ins c (ns ++ [f]) (l ++ [y]))))))
def lOf:OT->Option (List D)
 | .lst ds=>aa ds
 | _=>ab
noncomputable def fFApp(i:Nat)(c:Str)(ns:List Str)(k:Nat)(fe:FE):FS:=fun δ=>((oAt i δ).bind (isC c ns)).bind fun l=>((l[k]?).bind lOf).bind fun ds=>((fe δ).bind asV).bind fun d=>gif (sz (ds.length+1)) (aa (.nx (δ.set i (aa (.obj (.ins c ns (l.set k (.lst (ds ++ [d])))))))))
section
variable {X:Cx}{e:Expr}{pos pos' p:Pos}{fe:FE}{x f c:Str}{i k:Nat}{ns nsF:List Str}
theorem sFSet(i k:Nat)(hc:ClsF X.K c nsF)(he:VE X e fe)(hf:f ∈ nsF:=by decide +kernel)(hk:ns[k]? = aa f:=by rfl)(hn:ns.Nodup:=by decide +kernel)(hfew:ns.length<1000:=by decide)(hN:X.N[i]? = aa x:=by rfl)(hv:Vis X.env.scope x:=by first | exact az rfl | exact br (az rfl) | exact br (br rfl))(hd:(x == ("__debug__" : Str))=false:=by decide)
  (hcd:(x == ("__classdict__" : Str))=false:=by decide) (hs:swapsWith e (aa (.Attribute (.Name x p) f pos')) pos.line X.env=pure false:=by rfl):VS X (.Assign [.Attribute (.Name x p) f pos'] e pos) (zho i c ns k fe):=by
 obtain⟨t,w,m⟩:=he.h
 refine⟨_,⟨ps_fld (wv i hN hv hd hcd).h w.h hs⟩,fun B F H σ δ out DD s q kk=>?_⟩
 obtain⟨y,q1,q⟩:=bind_some q
 obtain⟨r,q1,q2⟩:=bind_some q1
 obtain⟨l,q3,q⟩:=bind_some q
 obtain⟨o,q3,q4⟩:=bind_some q3
 split at q
 ·rename_i hlt
  cases q
  cases zcZ q4
  refine m B F H σ δ r _ s q1 fun yv F1 H1 x1 z=>?_
  obtain⟨v,h1,A,t,n,h⟩:=s.ent i _ (zaR q3)
  cases t with
  | ins hcl e1 e2 hl ts=>
   obtain⟨g1,g2⟩:=hc.h _ hcl
   obtain⟨A1,ty,n1,f1⟩:=z.toO q2
   have nA:=(aW.mp (aW.mp n).2).2
   obtain⟨A',m1,m2,m3⟩:=TRs.put ty (ts.move x1.ff fun b hb=>let⟨u,hu,_⟩:=ts.lies b hb;(x1.hh _ _ hu).trans hu.symm) hlt nA n1 fun b hb hb'=>by
    obtain⟨u,hu,_⟩:=ts.lies b hb'
    rw[(f1 b hb).2] at hu
    cases hu
   obtain⟨r1,r2⟩:=s.fld (ns':=ns) x1 (zaR q3) h1 hcl e1 e2 hl ts n (by rw[ie];exact hl) m1 m2 fun b hb=>(m3 b hb).imp id fun z=>f1 b z
   refine⟨_,h1,_,_,_,_,rfl,x1.hh _ _ e1,g1,g2 f hf,?_,?_⟩
   ·rw[ij];lia
   ·rw[zit hn hk hl]
    exact kk σ F1 _ r1 r2
 ·cases q
theorem sFNew(i:Nat)(hc:ClsF X.K c nsF)(he:VE X e fe)(hf:f ∈ nsF:=by decide +kernel)(hn:f ∉ ns:=by decide +kernel)(hfew:ns.length<1000:=by decide)(hN:X.N[i]? = aa x:=by rfl)(hv:Vis X.env.scope x:=by first | exact az rfl | exact br (az rfl) | exact br (br rfl))(hd:(x == ("__debug__" : Str))=false:=by decide)
  (hcd:(x == ("__classdict__" : Str))=false:=by decide) (hs:swapsWith e (aa (.Attribute (.Name x p) f pos')) pos.line X.env=pure false:=by rfl):VS X (.Assign [.Attribute (.Name x p) f pos'] e pos) (fFNew i c ns f fe):=by
 obtain⟨t,w,m⟩:=he.h
 refine⟨_,⟨ps_fld (wv i hN hv hd hcd).h w.h hs⟩,fun B F H σ δ out DD s q kk=>?_⟩
 obtain⟨y,q1,q⟩:=bind_some q
 obtain⟨r,q1,q2⟩:=bind_some q1
 obtain⟨l,q3,q⟩:=bind_some q
 obtain⟨o,q3,q4⟩:=bind_some q3
 cases q
 cases zcZ q4
 refine m B F H σ δ r _ s q1 fun yv F1 H1 x1 z=>?_
 obtain⟨v,h1,A,t,n,h⟩:=s.ent i _ (zaR q3)
 cases t with
 | ins hcl e1 e2 hl ts=>
  obtain⟨g1,g2⟩:=hc.h _ hcl
  obtain⟨A1,ty,n1,f1⟩:=z.toO q2
  have nA:=(aW.mp (aW.mp n).2).2
  obtain⟨A',m1,m2⟩:=TRs.add ty (ts.move x1.ff fun b hb=>let⟨u,hu,_⟩:=ts.lies b hb;(x1.hh _ _ hu).trans hu.symm)
  subst m2
  obtain⟨r1,r2⟩:=s.fld (ns':=ns ++ [f]) x1 (zaR q3) h1 hcl e1 e2 hl ts n (by simp[hl]) m1 (bN.mpr ⟨nA,n1,fun b hb b' hb' e=>by
   subst e
   obtain⟨u,hu,_⟩:=ts.lies b hb
   rw[(f1 b hb').2] at hu
   cases hu⟩) fun b hb=>(bu.mp hb).imp id fun z=>f1 b z
  refine⟨_,h1,_,_,_,_,rfl,x1.hh _ _ e1,g1,g2 f hf,?_,?_⟩
  ·rw[ij];lia
  ·rw[putF_new hn hl]
   exact kk σ F1 _ r1 r2
theorem sFApp(i k:Nat){apos cpos:Pos}(hc:ClsF X.K c nsF)(he:VE X e fe)(hf:f ∈ nsF:=by decide +kernel)(hk:ns[k]? = aa f:=by rfl)(hn:ns.Nodup:=by decide +kernel)(hN:X.N[i]? = aa x:=by rfl)(hv:Vis X.env.scope x:=by first | exact az rfl | exact br (az rfl) | exact br (br rfl))(hd:(x == ("__debug__" : Str))=false:=by decide)
  (hcd:(x == ("__classdict__" : Str))=false:=by decide) (hb:ck (.Name x p) f X.env (eval (.Name x p) X.env)=eval (.Name x p) X.env:=by rfl)
  (hbase:ck (.Attribute (.Name x p) f pos') "append" X.env (eval (.Attribute (.Name x p) f pos') X.env)=eval (.Attribute (.Name x p) f pos') X.env:=by rfl) (hline:(apos.endLine == cpos.line)=true:=by rfl) (h1:zao e=true:=by rfl)
  (hs:swapsWith (.Call (.Attribute (.Attribute (.Name x p) f pos') "append" apos) [e] [] cpos) ab pos.line X.env=pure false:=by rfl) :
  VS X (.Expr (.Call (.Attribute (.Attribute (.Name x p) f pos') "append" apos) [e] [] cpos) pos) (fFApp i c ns k fe):=by
 obtain⟨t,w,m⟩:=he.h
 refine⟨_,sex (wbm dN gW gX zd0 ⟨pe_fld (wv i hN hv hd hcd).h hb⟩ (wac w wnil h1) hbase rfl hline h1 rfl) hs,fun B F H σ δ out DD s q kk=>?_⟩
 obtain⟨l,q3,q⟩:=bind_some q
 obtain⟨o,q3,q4⟩:=bind_some q3
 obtain⟨ds,q5,q⟩:=bind_some q
 obtain⟨x1,q5,q6⟩:=bind_some q5
 obtain⟨d,q1,q⟩:=bind_some q
 obtain⟨r,q1,q2⟩:=bind_some q1
 obtain⟨hlen,qz⟩:=za0 q
 cases qz
 cases zcZ q4
 obtain⟨v,h1,A,t,n,h⟩:=s.ent i _ (zaR q3)
 cases t with
 | ins hcl e1 e2 hl ts=>
  obtain⟨g1,g2⟩:=hc.h _ hcl
  obtain⟨w,A1,h2,h3,h4,_⟩:=ts.focus q5
  refine⟨_,h1,_,_,_,_,w,rfl,e1,g1,g2 f hf,zds hn hk h2,?_⟩
  cases x1 with
  | val _=>cases q6
  | ins _ _ _=>cases q6
  | dic _ _=>cases q6
  | dcT _ _=>cases q6
  | lst _=>
   cases q6
   cases h3 with
   | @lst ad vs _ h5 h6=>
    refine⟨.inl ⟨rfl,_,SqL.of h5⟩,?_⟩
    refine m B F H σ δ r _ s q1 fun y F1 H1 x1 z=>?_
    obtain⟨F2,x2,sm,r2⟩:=RepR.frz x1 (Same.refl _) z q2
    refine⟨ad,vs,y,rfl,rfl,x2.hh _ _ h5,?_,?_⟩
    ·rw[h6.length,ci];unfold sz at hlen;lia
    ·have fl:F2 ad=ab:=(x2.nw _ _ h5 rfl).trans (h ad (al _ (al _ (h4 ad (by simp))))).1
     obtain⟨z1,z2⟩:=s.sub (A1:=[ad]) (H':=upd H1 ad (.lst (vs ++ [y]))) (x':=.lst (ds ++ [d])) (zaR q3) h1 hcl e1 e2 hl ts q5 h2 (.lst h5 h6) ⟨x2.ff,fun b u hb=>by
       rw[zak fun e=>by subst e;rw[fl] at hb;cases hb]
       exact x2.fh _ _ hb,fun b u hb=>by
       obtain⟨z1,z2⟩:=zbs hb
       rw[zak fun e=>z1 (by simp[e])]
       exact x2.hh _ _ z2,fun b u hb ht=>x2.nw _ _ (zbs hb).2 ht⟩
      (.lst zah ((h6.mono x2.ff).append (.one r2))) (by simp) fun b hb=>by
       simp at hb
       subst hb
       exact⟨fl,zcM (by simp)⟩
     exact kk σ F2 _ z1 z2
end
end L3

namespace L3
open PySem PySem.Spec PyProof.Rows L2
abbrev FXE:=En->Option (D × En)
abbrev FXT:=En->Option (Bool × En)
abbrev FXA:=En->Option (List D × En)
abbrev GM:=OT->List D->Option (D × OT)
def SemX(K:ah)(t:TE)(f:FXE):Prop:=∀ (B:Bd) (F H:Hp) (σ:Sg) (δ:En) (d:D) (δ':En) (Q:VK),RS K B F H σ δ->f δ=aa (d,δ')->(∀ v F' H',RS K B F' H' σ δ'->FX B F F'->Rep F' v d->Q v H')->t σ H Q
def SemXT(K:ah)(t:TT)(f:FXT):Prop:=∀ (B:Bd) (F H:Hp) (σ:Sg) (δ:En) (b:Bool) (δ':En) (Q:Bool->Hp->Prop),RS K B F H σ δ->f δ=aa (b,δ')->(∀ F' H',RS K B F' H' σ δ'->FX B F F'->Q b H')->t σ H Q
def SemXA(K:ah)(t:TA)(f:FXA):Prop:=∀ (B:Bd) (F H:Hp) (σ:Sg) (δ:En) (ds:List D) (δ':En) (Q:List V->Hp->Prop),RS K B F H σ δ->f δ=aa (ds,δ')->(∀ vs F' H',RS K B F' H' σ δ'->FX B F F'->Reps F' vs ds->Q vs H')->t σ H Q
structure VX(X:Cx)(e:Expr)(f:FXE):Prop where
 h:∃ t,WE X e t/\SemX X.K t f
structure VXT(X:Cx)(e:Expr)(f:FXT):Prop where
 h:∃ t,WT X e t/\SemXT X.K t f
structure VXA(X:Cx)(es:List Expr)(f:FXA):Prop where
 h:∃ t,WA X es t/\SemXA X.K t f
def xP(fe:FE):FXE:=fun δ=>((fe δ).bind asV).map fun d=>(d,δ)
def zg5:FXA:=fun δ=>aa ([],δ)
def zbx(fe:FXE)(fa:FXA):FXA:=fun δ=>(fe δ).bind fun p=>(fa p.2).map fun q=>(p.1 :: q.1,q.2)
def x2(g:Ent->Ent->Option Ent)(fa fb:FXE):FXE:=fun δ=>(fa δ).bind fun p=>(fb p.2).bind fun q=>((g (.val p.1) (.val q.1)).bind asV).map fun d=>(d,q.2)
section
variable {X:Cx}{a b c e:Expr}{es rest:List Expr}{pos p:Pos}{fa fb:FXE}{fs:FXA}{ft:FXT}{fe:FE}{x:Str}
theorem zcC(he:VE X e fe):VX X e (xP fe):=by
 obtain⟨t,w,m⟩:=he.h
 refine⟨t,w,fun B F H σ δ d δ' Q s q k=>?_⟩
 obtain⟨d',q1,q⟩:=map_some q
 cases q
 obtain⟨r,q1,q2⟩:=bind_some q1
 refine m B F H σ δ r _ s q1 fun v F1 H1 x1 z=>?_
 obtain⟨F2,x2,_,r2⟩:=RepR.frz x1 (Same.refl _) z q2
 exact k v F2 H1 (s.ext x2) (.of x2 s.bh) r2
theorem xnil:VXA X [] zg5:=⟨_,wnil,fun B F H σ δ ds δ' Q s q k=>by cases q;exact k [] F H s .refl .nil⟩
theorem zcN(ha:VX X e fa)(hr:VXA X es fs)(h:zao e=true:=by rfl):VXA X (e :: es) (zbx fa fs):=by
 obtain⟨ta,wa,sa⟩:=ha.h
 obtain⟨tb,wb,sb⟩:=hr.h
 refine⟨_,wac wa wb h,fun B F H σ δ ds δ' Q s q k=>?_⟩
 obtain⟨p1,q1,q⟩:=bind_some q
 obtain⟨p2,q2,q⟩:=map_some q
 cases q
 refine sa B F H σ δ p1.1 p1.2 _ s q1 fun v F1 H1 s1 y1 r1=>?_
 exact sb B F1 H1 σ p1.2 p2.1 p2.2 _ s1 q2 fun vs F2 H2 s2 y2 r2=>k _ F2 H2 s2 (y1.trans y2) (.cons (Rep.mono y2.ff r1) r2)
theorem SemX.op{K:ah}{r:R2}{ta tb:TE}{g:Ent->Ent->Option Ent}(hr:ziA K r g)(ha:SemX K ta fa)(hb:SemX K tb fb):SemX K (tOp r ta tb) (x2 g fa fb):=fun B F H σ δ d δ' Q s q k=>by
 obtain⟨p1,q1,q⟩:=bind_some q
 obtain⟨p2,q2,q⟩:=bind_some q
 obtain⟨d',q3,q⟩:=map_some q
 cases q
 obtain⟨res,q3,q4⟩:=bind_some q3
 refine ha B F H σ δ p1.1 p1.2 _ s q1 fun v F1 H1 s1 y1 r1=>?_
 refine hb B F1 H1 σ p1.2 p2.1 p2.2 _ s1 q2 fun w F2 H2 s2 y2 r2=>?_
 refine hr H2 F2 H2 v w (.val p1.1) (.val p2.1) res Q s2.fh (Same.refl _) (Rep.mono y2.ff r1) r2 q3 fun v' F' H' x3 r3=>?_
 obtain⟨F4,x4,_,r4⟩:=RepR.frz x3 (Same.refl _) r3 q4
 exact k v' F4 H' (s2.ext x4) ((y1.trans y2).trans (.of x4 s2.bh)) r4
theorem xop{op:Operator}{g:Ent->Ent->Option Ent}(ho:OpD X (binaryOp op) g)(ha:VX X a fa)(hb:VX X b fb):VX X (.BinOp a op b pos) (x2 g fa fb):=
 let⟨_,wa,sa⟩:=ha.h;let⟨_,wb,sb⟩:=hb.h;let⟨_,h1,h2⟩:=ho;⟨_,wop h1 wa wb,.op h2 sa sb⟩
end
def fX(fx:FXE):FS:=fun δ=>(fx δ).map fun p=>.nx p.2
def zfj(i:Nat)(fx:FXE):FS:=fun δ=>(fx δ).map fun p=>.nx (p.2.set i (aa (.val p.1)))
def ziy(fx:FXE):FS:=fun δ=>(fx δ).map fun p=>.rt (.val p.1) p.2
def fSetO(i:Nat)(fe:FE):FS:=fun δ=>(fe δ).bind fun r=>match r with
 | .obj o=>aa (.nx (δ.set i (aa (.obj o))))
 | _=>ab
section
variable {X:Cx}{e c:Expr}{pos pos' p:Pos}{fx:FXE}{ft:FXT}{fe:FE}{x:Str}{body els:List Stmt}{f g:FS}
theorem sX(h:VX X e fx)(hs:swapsWith e ab pos.line X.env=pure false:=by rfl):VS X (.Expr e pos) (fX fx):=by
 obtain⟨t,w,m⟩:=h.h
 refine⟨_,sex w hs,fun B F H σ δ out DD s q k=>?_⟩
 obtain⟨p1,q1,q⟩:=map_some q
 cases q
 exact m B F H σ δ p1.1 p1.2 _ s q1 fun v F1 H1 s1 y1 _=>k σ F1 H1 s1 y1
theorem zhw{i:Nat}(hN:X.N.Nodup)(hi:X.N[i]? = aa x)(hx:Loc X.env.scope x)(h:VX X e fx)(hs:swapsWith e (aa (.Name x pos')) pos.line X.env=pure false:=by rfl)(hf:X.fn x=true \/ X.env.scope.names.lookup x=aa .local:=by first | exact .inl rfl | exact .inr rfl | assumption) :
  VS X (.Assign [.Name x pos'] e pos) (zfj i fx):=by
 obtain⟨t,w,m⟩:=h.h
 refine⟨_,sset hN hi hx w hs hf,fun B F H σ δ out DD s q k=>?_⟩
 obtain⟨p1,q1,q⟩:=map_some q
 cases q
 exact m B F H σ δ p1.1 p1.2 _ s q1 fun v F1 H1 s1 y1 r1=>k _ F1 H1 (s1.putV i r1) y1
theorem sXRet(h:VX X e fx):VS X (.Return (aa e) pos) (ziy fx):=by
 obtain⟨t,w,m⟩:=h.h
 refine⟨_,sret w,fun B F H σ δ out DD s q k=>?_⟩
 obtain⟨p1,q1,q⟩:=map_some q
 cases q
 exact m B F H σ δ p1.1 p1.2 _ s q1 fun v F1 H1 s1 y1 r1=>k v σ F1 H1 s1 y1 r1
theorem sSetO{i:Nat}(h0:0<i)(hN:X.N.Nodup)(hi:X.N[i]? = aa x)(hx:Loc X.env.scope x)(he:VE X e fe)(hs:swapsWith e (aa (.Name x pos')) pos.line X.env=pure false:=by rfl)(hf:X.fn x=true \/ X.env.scope.names.lookup x=aa .local:=by first | exact .inl rfl | exact .inr rfl | assumption) :
  VS X (.Assign [.Name x pos'] e pos) (fSetO i fe):=by
 obtain⟨t,w,m⟩:=he.h
 refine⟨_,sset hN hi hx w hs hf,fun B F H σ δ out DD s q k=>?_⟩
 obtain⟨r,q1,q⟩:=bind_some q
 cases r with
 | obj o=>cases q;exact m B F H σ δ _ _ s q1 fun v F' H' x z=>k _ F' H' (s.putO x i h0 z) (.of x s.bh)
 | _=>cases q
end
def spM(K:ah)(g:GM):Sp:=fun vs H Q _=>∃ v ws F o A ds d o',vs=v :: ws/\Same F H/\TR K F H v o A/\A.Nodup/\(∀ a ∈ A,F a=ab)/\Reps F ws ds/\g o ds=aa (d,o') /\
 ∀ x F' H' A',Chg H F F' H' A->TR K F' H' v o' A'->A'.Nodup->(∀ a ∈ A',F' a=ab/\zgj H A a=ab)->Rep F' x d->Q x H'
def endM:Out->Option (D × OT)
 | .rt (.val d) δ=>(oAt 0 δ).map fun o=>(d,o)
 | .nx δ=>(oAt 0 δ).map fun o=>(.non,o)
 | _=>ab
def zgR(n m:Nat)(f:FS)(o:OT)(ds:List D):Option (D × OT):=if ds.length=n then (f (aa (.obj o) :: (ds.map fun d=>aa (.val d)) ++ aF m ab)).bind endM else ab
section
variable {P:aL}{w:aX}{K:ah}{mg:Str->Option ae}{base:ba}{x qual:Str}{st:Stmt}{f:af}{fd:bQ}{N ps:List Str}{k n:Nat}{g:GM}
theorem zfB(F:FunA K x qual st f fd)(S:FnScope N ps (zad st))(fb:FS)(hk:ps.length=n+1)(hg:∀ o ds r,g o ds=aa r->zgR n (N.length - ps.length) fb o ds=aa r)
  (hbody:∀ (cdv:ae) (A:aS) (outer:List Env) (s:ag) (H:Hp) (E:XK),Room k (A.deeper (envOfC qual (zad st) s.heap.objs.size f cdv))->VSs (cxOf CX0 P w K mg base N qual (zad st) f cdv A outer s H E).nox (zaj st) fb) :
  FnOk P w K mg base CX0 (k+1) f fd ps (spM K g):=by
 obtain⟨oc,od,dV,kV,doc,pm,an,cdv,ct,osl,rfl,lk,hcd⟩:=F.ex
 refine fn_of lk hcd S (fun vs H Q E h=>?_) fun A outer s H vs Q E hr h=>?_
 ·obtain⟨v,ws,F,o,A,ds,d,o',rfl,_,_,_,_,rs,q,_⟩:=h
  have:=hg _ _ _ q
  unfold zgR at this
  split at this
  ·rename_i hl;rw[aI,rs.length,hl,hk]
  ·cases this
 ·obtain⟨v,ws,F,o,A,ds,d,o',rfl,fh,t,nd,fA,rs,q,kk⟩:=h
  obtain⟨tt,wt,m⟩:=(hbody cdv _ outer s H E hr).h
  refine⟨tt,wt.h.nox,?_⟩
  have q2:=hg _ _ _ q
  unfold zgR at q2
  split at q2
  ·rename_i hl
   obtain⟨out,q3,q4⟩:=bind_some q2
   have hws:=rs.length
   have ent:∀ (i:Nat) (e:Ent),(aa (Ent.obj o) :: (ds.map fun d=>aa (Ent.val d)) ++ aF (N.length - ps.length) ab)[i]? = aa (aa e)->(i=0/\e=.obj o) \/ ∃ j d,i=j+1/\ds[j]? = aa d/\e=.val d:=fun i e h=>by
    cases i with
    | zero=>simp at h;exact .inl ⟨rfl,h.symm⟩
    | succ j=>
     rw[gZ,dg] at h
     by_cases hj:j<(ds.map fun d=>aa (Ent.val d)).length
     ·rw[b6 hj,aD] at h
      cases z:ds[j]? with
      | none=>rw[z] at h;cases h
      | some d=>rw[z] at h;cases h;exact .inr ⟨j,d,rfl,z,rfl⟩
     ·rw[cD (by lia),dM] at h
      split at h <;> cases h
   have sv:∀ (i:Nat) (y:V),(v :: ws)[i]? = aa y->(L2.start N (v :: ws))[i]? = aa (aa y):=fun i y h=>by
    unfold L2.start
    rw[b6 (by rw[am];exact(aP.mp h).1),aD,h]
    rfl
   have s0:RS K ⟨zgj H A,aa v⟩ F H (L2.start N (v :: ws)) (aa (.obj o) :: (ds.map fun d=>aa (.val d)) ++ aF (N.length - ps.length) ab):=by
    refine⟨fh,fun a u h=>(zbs h).2,?_,fun i e h=>?_,fun a b l es e hab h1=>?_,fun a b e1 e2 v1 v2 ad hab q1 q2 q3 q4 q5 q6 q7=>?_,fun w p hw _=>?_⟩
    ·unfold L2.start
     simp only[ay,am,c6,aI]
     lia
    ·rcases ent i e h with ⟨rfl,rfl⟩ | ⟨j,d,rfl,hd,rfl⟩
     ·exact⟨v,sv 0 v rfl,A,t,nd,fun a ha=>⟨fA a ha,zcM ha⟩⟩
     ·obtain⟨y,hy,ry⟩:=rs.get hd
      exact⟨y,sv (j+1) y (by simpa using hy),ry⟩
    ·rcases ent a _ h1 with ⟨_,z⟩ | ⟨j,d,_,_,z⟩ <;> cases z
    ·rcases ent a _ q1 with ⟨rfl,rfl⟩ | ⟨j,d,_,_,rfl⟩
     ·rcases ent b _ q3 with ⟨rfl,_⟩ | ⟨j,d,_,_,rfl⟩
      ·exact hab rfl
      ·exact q7
     ·cases q5
    ·cases hw
     exact sv 0 v rfl
   have fin:∀ (δ':En) (σ':Sg) (F' H':Hp) (y:V),RS K ⟨zgj H A,aa v⟩ F' H' σ' δ'->FX (zgj H A) F F'->oAt 0 δ'=aa o'->Rep F' y d->Q y H':=fun δ' σ' F' H' y s' y' ho ry=>by
    have h0:=s'.pn v o' rfl (zaR ho)
    obtain⟨A',t',n',f'⟩:=s'.at (zaR ho) h0
    exact kk y F' H' A' ⟨y'.ff,s'.fh,s'.bh,y'.nw⟩ t' n' f' ry
   refine m ⟨zgj H A,aa v⟩ F H (L2.start N (v :: ws)) _ out _ s0 q3 ?_
   cases out with
   | nx δ'=>
    obtain⟨o2,h1,h2⟩:=map_some q4
    cases h2
    exact fun σ' F' H' s' y=>fin δ' σ' F' H' .non s' y h1 .non
   | rt r' δ'=>
    cases r' with
    | val d'=>
     obtain⟨o2,h1,h2⟩:=map_some q4
     cases h2
     exact fun y σ' F' H' s' yy z=>fin δ' σ' F' H' y s' yy h1 z
    | _=>cases q4
   | bk δ'=>cases q4
   | ct δ'=>cases q4
  ·cases q2
end
structure MethD(K:ah)(c:Str)(m:Str)(st:Stmt)(qual:Str)(ps:List Str)(f:af)(fd:bQ):Prop where
 fn:FunA K m qual st f fd
 at_:∀ C,zev K c C->Meth K C m f
 b:Binds K fd ps []
noncomputable def xM(i:Nat)(c:Str)(ns:List Str)(g:GM)(fa:FA):FXE:=fun δ=>(oAt i δ).bind fun o=>(isC c ns o).bind fun _=>((fa δ).bind zew).bind fun ds=>(g o ds).map fun p=>(p.1,δ.set i (aa (.obj p.2)))
noncomputable def xMF(i:Nat)(c:Str)(ns:List Str)(k:Nat)(c2:Str)(ns2:List Str)(g:GM)(fa:FA):FXE:=fun δ=>((oAt i δ).bind (isC c ns)).bind fun l=>(l[k]?).bind fun o=>(isC c2 ns2 o).bind fun _=>((fa δ).bind zew).bind fun ds=>(g o ds).map fun p=>(p.1,δ.set i (aa (.obj (.ins c ns (l.set k p.2)))))
section
variable {X:Cx}{e:Expr}{es:List Expr}{pos pos' p apos:Pos}{fa:FA}{x f m c c2 qual:Str}{ns nsF ns2 nsF2 ps:List Str}{g:GM}{fd:bQ}{fm:af}{st:Stmt}{kk j:Nat}{pl:Sem Bool}
theorem SemM.at{K:ah}{C:af}{t:TA}{E:XK}{i:Nat}(sm:SemA K t fa)(hcl:zev K c C)(hm:m ∉ ns):SemX K (tMeth C m (spM K g) [] E (tVar i) t) (xM i c ns g fa):=fun B F H σ δ d δ' Q s q k=>by
 obtain⟨o,q0,q⟩:=bind_some q
 obtain⟨l,q1,q⟩:=bind_some q
 obtain⟨ds,q2,q⟩:=bind_some q
 obtain⟨rs,q2,q3⟩:=bind_some q2
 obtain⟨p1,q4,q⟩:=map_some q
 cases q
 cases zcZ q1
 obtain⟨v,h1,A,t0,n0,f0⟩:=s.ent i _ (zaR q0)
 cases t0 with
 | ins hcl' e1 e2 hl ts=>
  cases zcQ hcl hcl'
  refine⟨_,h1,_,_,_,rfl,e1,zfc hm,?_⟩
  refine sm B F H σ δ rs _ s q2 fun vs F1 H1 x1 r1=>?_
  obtain⟨F2,x2,_,r2⟩:=RepRs.frz x1 (Same.refl _) r1 q3
  have s2:=s.ext x2
  have tt:=((TR.ins hcl' e1 e2 hl ts).ext x2)
  rw[bF]
  refine⟨_,vs,F2,_,_,ds,p1.1,p1.2,rfl,s2.fh,tt.1,n0,fun a ha=>(tt.2 a ha).trans (f0 a ha).1,r2,q4,fun y F' H' A' ch t' n' f' ry=>?_⟩
  obtain⟨z1,z2⟩:=s2.chg (zaR q0) h1 tt.1 ch t' n' f'
  exact k y F' H' z1 ((FX.of x2 s.bh).trans z2) ry
theorem SemM.sub{K:ah}{C2:af}{t:TA}{E:XK}{i k:Nat}(sm:SemA K t fa)(hc:ClsF K c nsF)(hcl2:zev K c2 C2)(hm:m ∉ ns2)(hf:f ∈ nsF)(hk:ns[k]? = aa f)(hn:ns.Nodup):SemX K (tMeth C2 m (spM K g) [] E (tFld K (tVar i) f) t) (xMF i c ns k c2 ns2 g fa):=fun B F H σ δ d δ' Q s q kk=>by
 obtain⟨l,q0,q⟩:=bind_some q
 obtain⟨o,q0,q1⟩:=bind_some q0
 obtain⟨o1,q5,q⟩:=bind_some q
 obtain⟨l2,q6,q⟩:=bind_some q
 obtain⟨ds,q2,q⟩:=bind_some q
 obtain⟨rs,q2,q3⟩:=bind_some q2
 obtain⟨p1,q4,q⟩:=map_some q
 cases q
 cases zcZ q1
 cases zcZ q6
 obtain⟨v,h1,A,t0,n0,f0⟩:=s.ent i _ (zaR q0)
 cases t0 with
 | ins hcl e1 e2 hl ts=>
  obtain⟨g1,g2⟩:=hc.h _ hcl
  obtain⟨w,A1,h2,h3,h4,h4n,_⟩:=ts.focus q5
  have nA:=(aW.mp (aW.mp n0).2).2
  refine⟨_,h1,_,_,_,_,w,rfl,e1,g1,g2 f hf,zds hn hk h2,?_⟩
  cases h3 with
  | ins hcl' d1 d2 dl us=>
   cases zcQ hcl2 hcl'
   refine⟨_,_,_,rfl,d1,zfc hm,?_⟩
   refine sm B F H σ δ rs _ s q2 fun vs F1 H1 x1 r1=>?_
   obtain⟨F2,x2,_,r2⟩:=RepRs.frz x1 (Same.refl _) r1 q3
   have s2:=s.ext x2
   have tt:=((TR.ins hcl' d1 d2 dl us).ext x2)
   have ts2:=ts.move (H':=H1) x2.ff fun b hb=>let⟨u,hu,_⟩:=ts.lies b hb;(x2.hh _ _ hu).trans hu.symm
   rw[bF]
   refine⟨_,vs,F2,_,_,ds,p1.1,p1.2,rfl,s2.fh,tt.1,h4n nA,fun a ha=>(tt.2 a ha).trans (f0 a (al _ (al _ (h4 a ha)))).1,r2,q4,fun y F' H' A' ch t' n' f' ry=>?_⟩
   obtain⟨z1,z2⟩:=s2.sub (zaR q0) h1 hcl (x2.hh _ _ e1) (x2.hh _ _ e2) hl ts2 q5 h2 tt.1 ch t' n' f'
   exact kk y F' H' z1 ((FX.of x2 s.bh).trans z2) ry
theorem semNil{K:ah}:SemA K tNil zae:=fun B F H σ δ rs Q s q k=>by cases q;exact k [] F H (Ex.refl s.fh) .nil
variable {CX:CXT}{E:XK}
structure ClsD(K:ah)(mg:Str->Option ae)(c:Str)(nsF:List Str)(C:af):Prop where
 at_:zev K c C
 mg:mg c=aa (.ref C)
 cl:Cls K C
 no:∀ f ∈ nsF,NoAttr K C f
theorem ClsD.toF{K:ah}{mg:Str->Option ae}{C:af}(D:ClsD K mg c nsF C):ClsF K c nsF:=⟨fun C' h=>by cases zcQ D.at_ h;exact⟨D.cl,D.no⟩⟩
theorem xmeth{C:af}(i:Nat)(DC:ClsD X.K X.mg c nsF C)(D:MethD X.K c m st qual ps fm fd)(F:FnOk X.prog X.w X.K X.mg X.base CX kk fm fd ps (spM X.K g))(hr:Room j X.A)(hx:zcG CX X E)(ha:VA X (e :: es) fa)(hm:m ∉ ns:=by decide +kernel)(hjk:kk<=j:=by decide)
  (hN:X.N[i]? = aa x:=by rfl) (hv:Vis X.env.scope x:=by first | exact az rfl | exact br (az rfl) | exact br (br rfl)) (hd:(x == ("__debug__" : Str))=false:=by decide) (hcd:(x == ("__classdict__" : Str))=false:=by decide)
  (h1:zao e=true:=by rfl) (h2:es.all zao=true:=by rfl)
  (ht:eval (.Call (.Attribute (.Name x p) m apos) (e :: es) [] pos) X.env=(do
   let ov <- eval (.Name x p) X.env
   standAt apos.atName
   let (f,first) <- holding [ov] (getMethod ov m pl)
   callWith pos f first (backTo pos (bj (e :: es) X.env)) (backToKw pos (keywordEach [] X.env))):=by rfl) :
  VX X (.Call (.Attribute (.Name x p) m apos) (e :: es) [] pos) (xM i c ns g fa):=
 let⟨_,w,sm⟩:=ha.h;⟨_,⟨pe_meth (wv i hN hv hd hcd).h DC.cl (D.at_ _ DC.at_) F (hr.mono hjk) D.b .nil hx w.h (zau h1) (zcJ h2) ht⟩,SemM.at sm DC.at_ hm⟩
theorem xmeth0{C:af}(i:Nat)(DC:ClsD X.K X.mg c nsF C)(D:MethD X.K c m st qual ps fm fd)(F:FnOk X.prog X.w X.K X.mg X.base CX kk fm fd ps (spM X.K g))(hr:Room j X.A)(hx:zcG CX X E)(hm:m ∉ ns:=by decide +kernel)(hjk:kk<=j:=by decide)
  (hN:X.N[i]? = aa x:=by rfl) (hv:Vis X.env.scope x:=by first | exact az rfl | exact br (az rfl) | exact br (br rfl)) (hd:(x == ("__debug__" : Str))=false:=by decide) (hcd:(x == ("__classdict__" : Str))=false:=by decide)
  (ht:eval (.Call (.Attribute (.Name x p) m apos) [] [] pos) X.env=(do
   let ov <- eval (.Name x p) X.env
   standAt apos.atName
   let (f,first) <- holding [ov] (getMethod ov m pl)
   callWith pos f first (backTo pos (bj [] X.env)) (backToKw pos (keywordEach [] X.env))):=by rfl) :
  VX X (.Call (.Attribute (.Name x p) m apos) [] [] pos) (xM i c ns g zae):=
 ⟨_,⟨pe_meth0 (wv i hN hv hd hcd).h DC.cl (D.at_ _ DC.at_) F (hr.mono hjk) D.b .nil hx ht⟩,SemM.at semNil DC.at_ hm⟩
end
def eMake(c:Str)(g:GM)(fa:FA):FE:=fun δ=>((fa δ).bind zew).bind fun ds=>(g (.ins c [] []) ds).bind fun p=>match p.1 with
 | .non=>aa (.obj p.2)
 | _=>ab
structure MakeD(K:ah)(c:Str)(st:Stmt)(qual:Str)(ps:List Str)(f:af)(fd:bQ):Prop where
 fn:FunA K "__init__" qual st f fd
 at_:∀ C,zev K c C->Mk K C f
 b:Binds K fd ps []
section
variable {X:Cx}{e:Expr}{es:List Expr}{pos p:Pos}{fa:FA}{c qual:Str}{nsF ps:List Str}{g:GM}{fd:bQ}{fm:af}{st:Stmt}{kk j:Nat}{CX:CXT}{E:XK}
theorem SemE.make{K:ah}{C:af}{t:TA}{E:XK}(sm:SemA K t fa)(hcl:zev K c C):SemE K (tMake C (spM K g) [] E t) (eMake c g fa):=fun B F H σ δ res Q s q k=>by
 obtain⟨ds,q1,q⟩:=bind_some q
 obtain⟨rs,q1,q2⟩:=bind_some q1
 obtain⟨p1,q3,q⟩:=bind_some q
 refine sm B F H σ δ rs _ s q1 fun vs F1 H1 x1 r1=>?_
 obtain⟨F2,x2,_,r2⟩:=RepRs.frz x1 (Same.refl _) r1 q2
 intro a dx ha hdx hne
 have fa0:F2 a=ab:=x2.fh.free ha
 have fd0:F2 dx=ab:=x2.fh.free hdx
 have sH:Same H1 (upd (upd H1 dx (.own a)) a (.ins C dx [])):=(Same.alloc hdx).trans (Same.alloc (by rw[zak (cx hne)];exact ha))
 rw[bF]
 refine⟨_,vs,F2,.ins c [] [],[a,dx],ds,p1.1,p1.2,rfl,x2.fh.trans sH,?_,by simp[cx hne],fun b hb=>?_,r2,q3,fun y F' H' A' ch t' n' f' ry=>?_⟩
 ·exact .ins (vs:=[]) (A:=[]) hcl zah (by rw[zak hne];exact zah) rfl .nil
 ·simp at hb
  rcases hb with rfl | rfl
  ·exact fa0
  ·exact fd0
 ·obtain⟨d0,o0⟩:=p1
  cases d0 with
  | non=>
   cases q
   have st:∀ b u,H1 b=aa u->zgj (upd (upd H1 dx (.own a)) a (.ins C dx [])) [a,dx] b=aa u:=fun b u hb=>zcr (fun z=>by
    simp at z
    rcases z with rfl | rfl
    ·rw[ha] at hb;cases hb
    ·rw[hdx] at hb;cases hb) (sH _ _ hb)
   refine⟨zhd ry,k _ F' H' ⟨x2.ff.trans ch.ff,ch.fh,fun b u hb=>ch.st _ _ (st b u (x2.hh _ _ hb)),fun b u hb ht=>(ch.nw b u (st b u (x2.hh _ _ hb)) ht).trans (x2.nw b u hb ht)⟩ ⟨⟨a,rfl⟩,A',t',n',fun b hb=>⟨(f' b hb).1,?_⟩⟩⟩
   cases z:H b with
   | none=>rfl
   | some u=>have:=st b u (x2.hh _ _ z);rw[(f' b hb).2] at this;cases this
  | _=>cases q
theorem vmake{C:af}(DC:ClsD X.K X.mg c nsF C)(D:MakeD X.K c st qual ps fm fd)(F:FnOk X.prog X.w X.K X.mg X.base CX kk fm fd ps (spM X.K g))(hr:Room j X.A)(hg:Gl X c)(hx:zcG CX X E)(ha:VA X (e :: es) fa)(hjk:kk+1<=j:=by decide)(hdb:(c == ("__debug__" : Str))=false:=by decide)
  (h1:zao e=true:=by rfl) (h2:es.all zao=true:=by rfl):VE X (.Call (.Name c p) (e :: es) [] pos) (eMake c g fa):=
 let⟨_,w,sm⟩:=ha.h;⟨_,⟨pe_make (D.at_ _ DC.at_) F (hr.mono hjk) hg DC.mg D.b .nil hx w.h hdb (zau h1) (zcJ h2)⟩,.make sm DC.at_⟩
end
end L3

namespace L2
open PySem PySem.Spec PyProof.Rows
def pkD(ks:List Str)(k:Str):List Str:=if k ∈ ks then ks else ks ++ [k]
def pvG{α:Type}(ks:List Str)(vs:List α)(k:Str)(v:α):List α:=if k ∈ ks then ej (fun x y=>if x=k then v else y) ks vs else vs ++ [v]
theorem zf6{α:Type}{ks:List Str}{vs:List α}{k:Str}{v:α}(h:ks.length=vs.length):(pkD ks k).length=(pvG ks vs k v).length/\(pkD ks k).length<=ks.length+1:=by
 unfold pkD pvG
 split
 ·rw[List.length_zipWith];lia
 ·simp[h]
theorem kv_any{k:Str}:∀ {ks:List Str} {vs:List V} {us:List (Key × ae)},ks.length=vs.length->KV ((ks.map bp).zip vs) us->(us.any fun kv=>decide (kv.1=bp k))=decide (k ∈ ks)
 | [],[],us,_,r=>by
  unfold KV at r
  cases r
  rfl
 | x :: ks,v :: vs,us,hl,r=>by
  unfold KV at r
  rw[aE,b8] at r
  cases r with
  | @cons _ q _ qs h t=>
   rw[List.any_cons,kv_any (by simpa using hl) t,<- h.1]
   by_cases e:x=k
   ·subst e;simp
   ·have e':¬ k=x:=fun z=>e z.symm
    simp[e,e']
theorem kv_repl{k:Str}{v:V}{u:ae}(ry:RelV v u):∀ {ks:List Str} {vs:List V} {us:List (Key × ae)},ks.length=vs.length->KV ((ks.map bp).zip vs) us ->
  KV ((ks.map bp).zip (ej (fun x y=>if x=k then v else y) ks vs)) (us.map fun kv=>if kv.1=bp k then (kv.1,u) else kv)
 | [],[],us,_,r=>by
  unfold KV at r
  cases r
  exact .nil
 | x :: ks,w :: vs,us,hl,r=>by
  unfold KV at r
  rw[aE,b8] at r
  cases r with
  | @cons _ q _ qs h t=>
   obtain⟨h1,h2⟩:=h
   have h1':bp x=q.1:=h1
   rw[aE,aE,cV,b8]
   refine .cons ?_ (kv_repl ry (by simpa using hl) t)
   by_cases e:x=k
   ·rw[if_pos e,if_pos (by rw[<- h1',e])];exact⟨h1',ry⟩
   ·rw[if_neg e,if_neg (fun z=>e (jy (h1'.trans z)))];exact⟨h1',h2⟩
theorem kv_snoc{k:Str}{v:V}{u:ae}(ry:RelV v u):∀ {ks:List Str} {vs:List V} {us:List (Key × ae)},ks.length=vs.length->KV ((ks.map bp).zip vs) us ->
  KV (((ks ++ [k]).map bp).zip (vs ++ [v])) (us ++ [(bp k,u)])
 | [],[],us,_,r=>by
  unfold KV at r
  cases r
  exact .cons ⟨rfl,ry⟩ .nil
 | x :: ks,w :: vs,us,hl,r=>by
  unfold KV at r
  rw[aE,b8] at r
  cases r with
  | cons h t=>exact .cons h (kv_snoc ry (by simpa using hl) t)
theorem kv_put{k:Str}{v:V}{u:ae}{ks:List Str}{vs:List V}{us:List (Key × ae)}(ry:RelV v u)(hl:ks.length=vs.length)(r:KV ((ks.map bp).zip vs) us) :
  KV (((pkD ks k).map bp).zip (pvG ks vs k v)) (stored us (bp k) u):=by
 unfold stored pkD pvG
 rw[kv_any hl r]
 by_cases e:k ∈ ks
 ·rw[if_pos e,if_pos e,if_pos (decide_eq_true e)];exact kv_repl ry hl r
 ·rw[if_neg e,if_neg e,if_neg (by simpa using e)];exact kv_snoc ry hl r
section
variable {X:Cx}
def rSetD:V->V->V->Hp->(Hp->Prop)->Prop:=fun o i v H Q=>∃ p ks vs k,o=.ref p/\i=.str k/\H p=aa (.dK ((ks.map bp).zip vs))/\ks.length=vs.length/\ks.length<1000000/\Q (upd H p (.dK (((pkD ks k).map bp).zip (pvG ks vs k v))))
theorem set_dic:PSet X rSetD:=by
 intro pins s σ H o i v ov iv u Q I ro ri rv h
 obtain⟨p,ks,vs,k,rfl,rfl,hp,hl,hz,q⟩:=h
 cases ro
 obtain⟨z,hd,us,rel,dd⟩:=I.hok p _ hp
 have hu:us.length<=be:=by rw[<- kc rel];exact z
 refine wpAny_setItem_pairs (hsz:=hu) (kisS ri) dd fun h' dd' hs=>⟨_,?_,q⟩
 have he:∃ q,h'.get? p=aa q:=let⟨q,_,_,hq,_⟩:=dd';⟨q,hq⟩
 have hn:((((pkD ks k).map bp).zip (pvG ks vs k v)):List (Key × V)).length<=be:=by
  have:=(zf6 (k:=k) (v:=v) hl).2
  rw[ij,am,ci];lia
 exact I.write (x:=p) (e:=p) (by rw[hp];exact dQ) (.inl rfl) (fun b q hb z=>(hs.2 b hb).trans z) he ⟨hn,hd,_,kv_put rv hl rel,dd'⟩
def rGet:V->List V->Hp->VK->Prop:=fun x xs H Q=>∃ a kvs z d,x=.ref a/\xs=[.str z,d]/\Rd H a (.dK kvs)/\Q ((atK kvs (bp z)).getD d) H
theorem mt_get:MtR X "dict.get" rGet:=by
 intro pins s σ H x xs v us Q I rx rxs h
 obtain⟨a,kvs,z,d,rfl,rfl,e,q⟩:=h
 cases rx
 cases rxs with
 | cons r1 r=>
  cases r with
  | cons r2 r=>
   cases r
   obtain⟨_,hd,vs,rel,dd⟩:=e.ok I.hok
   refine call_meetsIn fS dd.typeIs PySem.F.entry_dict_get (PySem.F.args_dict_get_3 _ _ _) (meets_dict_get_default (zc6 X.prog X.w) a (kisS r1) hd _) ⟨_,dd.mapOf,_,H,I.tok _,?_,q⟩
   rcases atK_rel rel (bp z) with ⟨v2,w,e1,e2,e3⟩ | ⟨e1,e2⟩
   ·rw[e1,e2];exact e3
   ·rw[e1,e2];exact r2
end
end L2
namespace L3
open PySem PySem.Spec PyProof.Rows L2
theorem reps_pv{F:Hp}{k:Str}{v:V}{d:D}(r:Rep F v d):∀ {ks:List Str} {vs:List V} {ds:List D},Reps F vs ds->Reps F (pvG ks vs k v) (pvG ks ds k d):=by
 have key:∀ (ks:List Str) {vs:List V} {ds:List D},Reps F vs ds->Reps F (ej (fun x y=>if x=k then v else y) ks vs) (ej (fun x y=>if x=k then d else y) ks ds):=by
  intro ks
  induction ks with
  | nil=>intro vs ds _;exact .nil
  | cons x ks ih=>
   intro vs ds h
   cases h with
   | nil=>exact .nil
   | cons h t=>
    rw[cV,cV]
    refine .cons ?_ (ih t)
    by_cases e:x=k
    ·rw[if_pos e,if_pos e];exact r
    ·rw[if_neg e,if_neg e];exact h
 intro ks vs ds h
 unfold pvG
 split
 ·exact key ks h
 ·exact h.append (.one r)
def oDic:OT->Option (List Str × List D)
 | .dic ks ds=>aa (ks,ds)
 | _=>ab
theorem oDic_some{o:OT}{p:List Str × List D}(h:oDic o=aa p):o=.dic p.1 p.2:=by
 cases o <;> first | (cases h;rfl) | (cases h)
def dAt(i:Nat):En->Option (List Str × List D):=fun δ=>(oAt i δ).bind oDic
theorem zeI{i:Nat}{δ:En}{p:List Str × List D}(h:dAt i δ=aa p):δ[i]? = aa (aa (.obj (.dic p.1 p.2))):=by
 obtain⟨o,h1,h2⟩:=bind_some h
 cases oDic_some h2
 exact zaR h1
def eD0:FE:=fun _=>aa (.obj (.dic [] []))
def gDg(p:List Str × List D):List Ent->Option Ent
 | [a,b]=>(sOf a).map fun z=>(lkD p.1 p.2 z).elim b .val
 | _=>ab
def gGet:Ent->List Ent->Option Ent:=fun x es=>(dOf x).bind fun p=>gDg p es
def eDget(i:Nat)(fs:FA):FE:=fun δ=>(dAt i δ).bind fun p=>(fs δ).bind (gDg p)
noncomputable def fDput(i:Nat)(fk fe:FE):FS:=fun δ=>((fe δ).bind asV).bind fun d=>((fk δ).bind sOf).bind fun k=>(dAt i δ).bind fun p=>gif (sz (p.1.length+1)) (aa (.nx (δ.set i (aa (.obj (.dic (pkD p.1 k) (pvG p.1 p.2 k d)))))))
def fFrzD(i:Nat)(g:FS):FS:=fun δ=>(dAt i δ).bind fun p=>g (δ.set i (aa (.val (.dic p.1 p.2))))
section
variable {K:ah}{B:Bd}{F H F' H' H0:Hp}{σ:Sg}{δ:En}{v:V}{i:Nat}{ks:List Str}{ds:List D}
theorem gDg_ok{a:af}{vs ws:List V}{es:List Ent}{res:Ent}{Q:VK}(e:Rd H a (.dK ((ks.map bp).zip vs)))(hl:ks.length=vs.length)(rs:Reps F vs ds)(rw':RepRs K H0 F H ws es)(q:gDg (ks,ds) es=aa res)(k:∀ v,RepR K H0 F H v res->Q v H):rGet (.ref a) ws H Q:=by
 match es,q with
 | [x,y],q=>
  obtain⟨z,q1,q2⟩:=map_some q
  cases zbF q1
  have q3:(lkD ks ds z).elim y .val=res:=q2
  subst q3
  cases rw' with
  | cons r1 r=>
   cases r with
   | cons r2 r=>
    cases r
    cases zcf r1
    refine⟨a,_,z,_,rfl,rfl,e,?_⟩
    rcases lkD_ok z hl rs with ⟨d',v,e1,e2,e3⟩ | ⟨e1,e2⟩
    ·rw[e2];rw[e1] at k;exact k _ e3
    ·rw[e2];rw[e1] at k;exact k _ r2
theorem RS.frzD(s:RS K B F H σ δ)(hi:δ[i]? = aa (aa (.obj (.dic ks ds)))):∃ a kvs,σ[i]? = aa (aa (.ref a))/\H a=aa (.dK kvs)/\∀ ob,∃ F',FX B F F'/\RS K B F' (upd H a (.frz ob (.dK kvs))) σ (δ.set i (aa (.val (.dic ks ds)))):=by
 obtain⟨v,h1,A,t,n,h⟩:=s.ent i _ hi
 cases t with
 | @dic a _ vs _ e l rs=>
  refine⟨a,_,h1,e,fun ob=>?_⟩
  have fl:=(h a (by simp)).1
  have sm:Same F (upd F a (.frz ob (.dK ((ks.map bp).zip vs)))):=Same.alloc fl
  have rp:Rep (upd F a (.frz ob (.dK ((ks.map bp).zip vs)))) (.ref a) (.dic ks ds):=.dic zah l (rs.mono sm)
  obtain⟨z1,z2⟩:=s.chg (o':=.val (.dic ks ds)) (H':=upd H a (.frz ob (.dK ((ks.map bp).zip vs)))) hi h1 (.dic e l rs) ⟨sm,fun b u hb=>by
    by_cases hb':b=a
    ·subst hb';rw[zah] at hb ⊢;exact hb
    ·rw[zak hb'] at hb ⊢;exact s.fh b u hb,fun b u hb=>by
    rw[zak fun z=>(zbs hb).1 (by simp[z])];exact(zbs hb).2,fun b u hb _=>zak fun z=>(zbs hb).1 (by simp[z])⟩
   (.val rp) .nil fun b hb=>by cases hb
  have z3:=z1.putV i rp
  rw[List.set_set] at z3
  obtain⟨hlt,he⟩:=aP.mp h1
  rw[<- he,List.set_getElem_self] at z3
  exact⟨_,z2,z3⟩
end
section
variable {X:Cx}{e ix o:Expr}{es:List Expr}{pos p tpos apos cpos:Pos}{fe fx fo:FE}{fs:FA}{x:Str}{sr:List Stmt}{g:FS}
theorem vD0:VE X (.Dict [] [] pos) eD0:=⟨_,wdnew,fun B F H σ δ res Q s q k p hp=>by
 cases q
 exact k _ F _ (Ex.lay s.fh hp) ⟨⟨p,rfl⟩,[p],.dic (vs:=[]) zah rfl .nil,by simp,fun a ha=>by
  simp at ha
  subst ha
  exact⟨s.fh.free hp,hp⟩⟩⟩
theorem m_get:MtD X "dict" "get" gGet:=⟨_,_,g7,fS,iI,mt_get,fun H0 F H x e es res fh r q=>by
  obtain⟨p,q1,q⟩:=bind_some q
  cases zeG q1
  cases (show Rep F x (.dic p.1 p.2) from r) with
  | dic e l rs=>exact .inr (.inr (.inl ⟨rfl,.inl ⟨_,.inr ⟨_,fh _ _ e⟩⟩⟩)),fun H0 F H x vs e es res Q fh hh r rs q k=>by
  obtain⟨p,q1,q⟩:=bind_some q
  cases zeG q1
  cases (show Rep F x (.dic p.1 p.2) from r) with
  | dic e l rd=>exact gDg_ok (K:=X.K) (H0:=H0) (.inr ⟨_,fh _ _ e⟩) l rd rs q fun v rv=>k v F H (Ex.refl fh) rv⟩
theorem vDget(i:Nat)(ha:VA X (e :: es) fs)(hN:X.N[i]? = aa x:=by rfl)(hv:Vis X.env.scope x:=by first | exact az rfl | exact br (az rfl) | exact br (br rfl))(hd:(x == ("__debug__" : Str))=false:=by decide)(hcd:(x == ("__classdict__" : Str))=false:=by decide)
  (hbase:ck (.Name x p) "get" X.env (eval (.Name x p) X.env)=eval (.Name x p) X.env:=by rfl) (hl:decide ((e :: es).length+0+0<30)=true:=by rfl) (hline:(apos.endLine == cpos.line)=true:=by rfl)
  (h1:zao e=true:=by rfl) (h2:es.all zao=true:=by rfl):VE X (.Call (.Attribute (.Name x p) "get" apos) (e :: es) [] cpos) (eDget i fs):=by
 obtain⟨ta,wa,ma⟩:=ha.h
 refine⟨_,wbm g7 fS iI mt_get (wv i hN hv hd hcd) wa hbase hl hline h1 h2,fun B F H σ δ res Q s q k=>?_⟩
 obtain⟨p,q1,q⟩:=bind_some q
 obtain⟨rs,q2,q⟩:=bind_some q
 obtain⟨v,h1,A,t,n,h⟩:=s.ent i _ (zeI q1)
 cases t with
 | dic e1 hl rd=>
  refine⟨_,h1,.inr (.inr (.inl ⟨rfl,.inl ⟨_,.inl e1⟩⟩)),?_⟩
  refine ma B F H σ δ rs _ s q2 fun vs F2 H2 x2 r2=>?_
  exact gDg_ok (K:=X.K) (H0:=H) (.inl (x2.hh _ _ e1)) hl (rd.mono x2.ff) r2 q fun v rv=>k v F2 H2 x2 rv
theorem sDput(i:Nat)(he:VE X e fe)(hx:VE X ix fx)(hN:X.N[i]? = aa x:=by rfl)(hv:Vis X.env.scope x:=by first | exact az rfl | exact br (az rfl) | exact br (br rfl))(hd:(x == ("__debug__" : Str))=false:=by decide)(hcd:(x == ("__classdict__" : Str))=false:=by decide)
  (hg:∀ {to ti:TE},WE X (.Name x p) to->WE X ix ti->WG X (.Subscript (.Name x p) ix tpos) (gSub to ti rSetD))
  (hs:swapsWithSole [.Subscript (.Name x p) ix tpos] e pos.line X.env=pure false:=by rfl) (hw:swappedStores [.Subscript (.Name x p) ix tpos] e X.env=pure ab:=by rfl) (h1:(bS [.Subscript (.Name x p) ix tpos] X.env).map (·.2)=[assign (.Subscript (.Name x p) ix tpos) X.env]:=by rfl) :
  VS X (.Assign [.Subscript (.Name x p) ix tpos] e pos) (fDput i fx fe):=by
 obtain⟨t,w,m⟩:=he.h
 obtain⟨t2,w2,m2⟩:=hx.h
 refine⟨_,sasg w (hg (wv i hN hv hd hcd) w2) hs hw h1,fun B F H σ δ out DD s q k=>?_⟩
 obtain⟨d,q1,q⟩:=bind_some q
 obtain⟨r,q2,q3⟩:=bind_some q1
 obtain⟨kk,q4,q⟩:=bind_some q
 obtain⟨rk,q5,q6⟩:=bind_some q4
 obtain⟨p,q7,q⟩:=bind_some q
 obtain⟨hlen,qz⟩:=za0 q
 cases qz
 cases zbF q6
 refine m B F H σ δ r _ s q2 fun y F1 H1 x1 z=>?_
 obtain⟨F2,x2,sm,r2⟩:=RepR.frz x1 (Same.refl _) z q3
 have s2:=s.ext x2
 obtain⟨v,h1,A,t,n,h⟩:=s.ent i _ (zeI q7)
 refine⟨_,h1,m2 B F2 H1 σ δ _ _ s2 q5 fun yk F3 H3 x3 z3=>?_⟩
 cases zcf z3
 have s3:=s2.ext x3
 have x23:=x2.trans x3
 cases t with
 | @dic a _ vs _ e1 hl rd=>
  have tt:=(TR.dic (K:=X.K) e1 hl rd).ext x23
  have fl:F3 a=ab:=(tt.2 a (by simp)).trans (h a (by simp)).1
  have r3:=Rep.mono x3.ff r2
  refine⟨a,p.1,vs,kk,rfl,rfl,x23.hh _ _ e1,hl,by unfold sz at hlen;lia,?_⟩
  obtain⟨z1,z2⟩:=s3.chg (o':=.dic (pkD p.1 kk) (pvG p.1 p.2 kk d)) (H':=upd H3 a (.dK (((pkD p.1 kk).map bp).zip (pvG p.1 vs kk y)))) (F':=F3) (zeI q7) h1 tt.1 ⟨Same.refl _,fun b u hb=>by
    rw[zak fun z=>by subst z;rw[fl] at hb;cases hb]
    exact x23.fh _ _ hb,fun b u hb=>by
    obtain⟨z1,z2⟩:=zbs hb
    rw[zak fun z=>z1 (by simp[z])]
    exact z2,fun _ _ _ _=>rfl⟩
   (.dic zah (zf6 hl).1 (reps_pv r3 (rd.mono x23.ff))) (by simp) fun b hb=>by
    simp at hb
    subst hb
    exact⟨fl,zcM (by simp)⟩
  exact k σ F3 _ z1 ((FX.of x23 s.bh).trans z2)
theorem pss_frzD{i:Nat}{u:TS}(h:PSs X sr u):PSs X sr (fun DD σ H=>∃ a kvs,σ[i]? = aa (aa (.ref a))/\H a=aa (.dK kvs)/\∀ ob,u DD σ (upd H a (.frz ob (.dK kvs)))):=by
 intro pins s σ H DD I q
 obtain⟨a,kvs,_,e,q⟩:=q
 have z:=I.hok a _ e
 obtain⟨_,_,_,_,ob,_,_,ho,_⟩:=id z
 refine h pins s σ _ DD (I.write (x:=a) (e:=a) (h':=s.heap) (t':=s.toks) (o:=.frz ob (.dK kvs)) (by rw[e];exact dQ) (.inl rfl) (fun _ _ _ z=>z) ⟨_,ho⟩ ⟨ho,?_⟩) (q ob)
 exact z
theorem sFrzD(i:Nat)(h:VSs X sr g):VSs X sr (fFrzD i g):=by
 obtain⟨u,w2,m2⟩:=h.h
 refine⟨_,⟨pss_frzD (i:=i) w2.h⟩,fun B F H σ δ out DD s q k=>?_⟩
 obtain⟨p,q1,q⟩:=bind_some q
 obtain⟨a,kvs,h1,h2,h3⟩:=s.frzD (zeI q1)
 refine⟨a,kvs,h1,h2,fun ob=>?_⟩
 obtain⟨F',x,s'⟩:=h3 ob
 exact m2 B F' _ σ _ out DD s' q (k.mono x)
end
end L3

namespace L2
open PySem PySem.Spec PyProof.Rows
section
variable {prog:aL}{w:aX}{A:aS}{E:ae->ag->Prop}{s:ag}
structure Rises(st:SortSt):Prop where
 k:kindOf st=oneType'
 r:∀ i,1<=i->i<(arrOf st).size->∃ a t p b u q,(arrOf st)[i]? = aa (.int a t,p)/\(arrOf st)[i - 1]? = aa (.int b u,q)/\b<=a
end
end L2

namespace L2
open PySem PySem.Spec PyProof.Rows
end L2
namespace L3
open PySem PySem.Spec PyProof.Rows L2
noncomputable def gRep:Ent->Ent->Option Ent:=fun x y=>(asLt x).bind fun ds=>(iOf y).bind fun k=>gif (-1000000<=k/\k<=1000000/\ds.length * k.toNat<=1000000) (aa (.own (aF k.toNat ds).flatten))
theorem zih{F:Hp}{vs:List V}{ds:List D}(r:Reps F vs ds):∀ k:Nat,Reps F (aF k vs).flatten (aF k ds).flatten
 | 0=>.nil
 | k+1=>by
  rw[cS,cS,dw,dw]
  exact r.append (zih r k)
section
variable {X:Cx}
theorem o_rep:OpD X (binaryOp .Mult) gRep:=⟨_,op_rep,fun H0 F H x y e e' res Q fh hh rx ry q k=>by
 obtain⟨ds,q1,q⟩:=bind_some q
 obtain⟨n,q2,q⟩:=bind_some q
 obtain⟨⟨h1,h2,h3⟩,qz⟩:=za0 q
 cases qz
 cases zaS q2
 obtain⟨l,vs,e1,h4,h5⟩:=RepR.toLt rx fh q1
 subst e1
 refine⟨l,n,vs,rfl,za9 ry,h4,by lia,by lia,by rw[h5.length,ci];exact aJ h3 (by decide),fun p hp=>?_⟩
 exact k _ _ _ (Ex.lay fh hp) ⟨p,_,rfl,hh.free hp,zah,zih h5 _,fh.free hp⟩⟩
end
end L3

namespace L2
open PySem PySem.Spec PyProof.Rows
def gal:Bool->Keyed->Array Keyed->Nat->Nat->Nat->StateT SortSt Sem (Option Nat):=sortPriv% PySem.Builtin.gallop
def mgLo:Array Keyed->Array Keyed->StateT SortSt Sem (Array Keyed):=sortPriv% PySem.Builtin.mergeLo
def mgHi:Array Keyed->Array Keyed->StateT SortSt Sem (Array Keyed):=sortPriv% PySem.Builtin.mergeHi
def setMG:Nat->StateT SortSt Sem Unit:=sortPriv% PySem.Builtin.setMinGallop
abbrev zcp(st:SortSt)(g:Nat):SortSt:=eX (kindOf st) (arrOf st) (bn st) g (failedOf st)
structure Rk(prog:aL)(w:aX)(A:aS)(s:ag)(kd:SortKind)(D:Keyed->Prop)(rk:Keyed->Nat):Prop where
 lt:∀ x y,D x->D y->∀ (E:ae->ag->Prop) (Q:Bool->ag->Prop),Q (decide (rk x<rk y)) s->aw (model prog w) A (keyLt' kd x.1 y.1) Q E s
section
variable {prog:aL}{w:aX}{A:aS}{E:ae->ag->Prop}{s:ag}{kd:SortKind}{D:Keyed->Prop}{rk:Keyed->Nat}{st:SortSt}
theorem wpS_set{σ:Type}{M:Model}{x:σ}{Q:PUnit->σ->Prop}{st:σ}(h:Q ⟨⟩ x):wpS M A E s (set x:StateT σ Sem PUnit) Q st:=by
 unfold wpS;rw[StateT.run_set];exact ar ⟨rfl,h⟩
theorem wpS_q(R:Rk prog w A s kd D rk){x y:Keyed}{Q:Option Bool->SortSt->Prop}(hk:kindOf st=kd)(hx:D x)(hy:D y)(h:Q (aa (decide (rk x<rk y))) st):wpS (model prog w) A E s (lt' x y) Q st:=by
 rw[lt'_eq]
 refine au (wpS_get ?_)
 rw[hk]
 refine au (wpS_lift (wpAny_attempt (R.lt x y hx hy _ _ ⟨rfl,?_⟩)))
 exact aC h
theorem zby{arr:Array Keyed}{i:Nat}{Q:Keyed->SortSt->Prop}(hi:i<arr.size)(h:Q arr[i] st):wpS (model prog w) A E s (elem' arr i) Q st:=by
 rw[elem'_eq,getElem?_pos arr i hi]
 exact aC h
theorem zdr{r:String}{Q:Unit->SortSt->Prop}(h:Q () st):wpS (model prog w) A E s (liftM (rule r):StateT SortSt Sem Unit) Q st:=wpS_lift (wpAny_rule ⟨rfl,h⟩)
theorem zf4{g:Nat}{Q:Unit->SortSt->Prop}(h:Q () (zcp st g)):wpS (model prog w) A E s (setMG g) Q st:=wpS_modify h
def beyB(rk:Keyed->Nat)(left:Bool)(key:Keyed)(arr:Array Keyed)(base i:Nat):Bool:=if left then decide ((arr[base+i]?.map rk).getD 0<rk key) else !decide (rk key<(arr[base+i]?.map rk).getD 0)
theorem wpS_bey(R:Rk prog w A s kd D rk){left:Bool}{key:Keyed}{arr:Array Keyed}{base i:Nat}{Q:Option Bool->SortSt->Prop}(hk:kindOf st=kd)(hD:∀ x ∈ arr,D x)(hy:D key)(hi:base+i<arr.size)(h:Q (aa (beyB rk left key arr base i)) st) :
  wpS (model prog w) A E s (elem' arr (base+i) >>= fun x=>if left=true then lt' x key else lt' key x >>= fun q=>pure (ly (fun b=>!b) q)) Q st:=by
 have e:arr[base+i]? = aa arr[base+i]:=getElem?_pos arr _ hi
 unfold beyB at h
 rw[e] at h
 refine au (zby hi ?_)
 cases left with
 | true=>exact wpS_q R hk (hD _ (bx hi)) hy h
 | false=>exact au (wpS_q R hk hy (hD _ (bx hi)) (aC h))
theorem gal_bs{n:Nat}{f:Nat->Option (Option Nat) × Nat × Nat->StateT SortSt Sem (ForInStep (Option (Option Nat) × Nat × Nat))}{g:Option (Option Nat) × Nat × Nat->StateT SortSt Sem (Option Nat)}{B:Nat->Bool}{Q:Option Nat->SortSt->Prop}{lo hi:Nat}
  (mono:∀ i j,i<=j->j<n->B j=true->B i=true)
  (stop:∀ x lo hi (P:ForInStep (Option (Option Nat) × Nat × Nat)->SortSt->Prop),lo ≥ hi->P (.done (ab,lo,hi)) st->wpS (model prog w) A E s (f x (ab,lo,hi)) P st)
  (go:∀ x lo hi (P:ForInStep (Option (Option Nat) × Nat × Nat)->SortSt->Prop),¬ lo ≥ hi->hi<=n->(B (lo+(hi - lo) / 2)=true->P (.yield (ab,lo+(hi - lo) / 2+1,hi)) st)->(B (lo+(hi - lo) / 2)=false->P (.yield (ab,lo,lo+(hi - lo) / 2)) st)->wpS (model prog w) A E s (f x (ab,lo,hi)) P st)
  (out:∀ k,Q (aa k) st->wpS (model prog w) A E s (g (ab,k,k)) Q st)
  (h1:lo<=hi) (h2:hi<=n) (h3:∀ i,i<lo->B i=true) (h4:∀ i,hi<=i->i<n->B i=false)
  (h:∀ k,k<=n->(∀ i,i<k->B i=true)->(∀ i,k<=i->i<n->B i=false)->Q (aa k) st):wpS (model prog w) A E s (forIn [0:n] (ab,lo,hi) f >>= g) Q st:=by
 refine au (wpS_mono (ce (I:=fun x c st'=>st'=st/\∃ lo hi,c=(ab,lo,hi)/\lo<=hi/\hi<=n/\hi - lo<=n - x/\(∀ i,i<lo->B i=true)/\(∀ i,hi<=i->i<n->B i=false))
  (Q:=fun c st'=>st'=st/\∃ k,c=(ab,k,k)/\k<=n/\(∀ i,i<k->B i=true)/\(∀ i,k<=i->i<n->B i=false)) ?step ?fin ⟨rfl,lo,hi,rfl,h1,h2,by lia,h3,h4⟩) ?post)
 case post=>
  rintro c st' ⟨rfl,k,rfl,k1,k2,k3⟩
  exact out k (h k k1 k2 k3)
 case fin=>
  rintro c st' ⟨rfl,lo,hi,rfl,h1,h2,h3,h4,h5⟩
  have:lo=hi:=by lia
  subst this
  exact⟨rfl,lo,rfl,h2,h4,h5⟩
 case step=>
  rintro x c st' _ hx ⟨rfl,lo,hi,rfl,h1,h2,h3,h4,h5⟩
  by_cases hge:lo ≥ hi
  ·have:lo=hi:=by lia
   subst this
   exact stop x lo lo _ hge ⟨rfl,lo,rfl,h2,h4,h5⟩
  ·refine go x lo hi _ hge h2 (fun hm=>?_) fun hm=>?_
   ·exact⟨rfl,_,_,rfl,by lia,h2,by lia,fun i hi'=>mono i (lo+(hi - lo) / 2) (by lia) (by lia) hm,h5⟩
   ·refine⟨rfl,_,_,rfl,by lia,by lia,by lia,h4,fun i hi1 hi2=>?_⟩
    cases hb:B i with
    | false=>rfl
    | true=>rw[mono _ i hi1 hi2 hb] at hm;cases hm
theorem wpS_gal(R:Rk prog w A s kd D rk){left:Bool}{key:Keyed}{arr:Array Keyed}{base n hint:Nat}{Q:Option Nat->SortSt->Prop}(hk:kindOf st=kd)(hD:∀ x ∈ arr,D x)(hy:D key)(hn:base+n<=arr.size)(hh:hint<n)
  (mono:∀ i j,i<=j->j<n->beyB rk left key arr base j=true->beyB rk left key arr base i=true)
  (h:∀ k,k<=n->(∀ i,i<k->beyB rk left key arr base i=true)->(∀ i,k<=i->i<n->beyB rk left key arr base i=false)->Q (aa k) st) :
  wpS (model prog w) A E s (gal left key arr base n hint) Q st:=by
 generalize hB:beyB rk left key arr base=B at mono h
 have ask:∀ (i:Nat) (Q:Option Bool->SortSt->Prop),i<n->Q (aa (B i)) st->wpS (model prog w) A E s (elem' arr (base+i) >>= fun x=>if left=true then lt' x key else lt' key x >>= fun q=>pure (ly (fun b=>!b) q)) Q st:=fun i Q hi hq=>
  wpS_bey R hk hD hy (by lia) (by rw[hB];exact hq)
 refine au (ask hint _ hh ?_)
 dsimp only
 cases hr:B hint with
 | true=>
  rw[if_pos rfl]
  refine au (wpS_mono (ce (I:=fun x c st'=>st'=st/\∃ la ofs,c=(ab,la,ofs)/\la<ofs/\x<ofs/\la<n - hint/\B (hint+la)=true)
   (Q:=fun c st'=>st'=st/\∃ la ofs,c=(ab,la,ofs)/\la<ofs/\la<n - hint/\B (hint+la)=true/\(ofs<n - hint->B (hint+ofs)=false)) ?step1 ?fin1 ⟨rfl,0,1,rfl,by lia,by lia,by lia,hr⟩) ?post1)
  case fin1=>
   rintro c st' ⟨rfl,la,ofs,rfl,h1,h2,h3,h4⟩
   exact⟨rfl,la,ofs,rfl,h1,h3,h4,fun h=>by lia⟩
  case step1=>
   rintro x c st' _ hx ⟨rfl,la,ofs,rfl,h1,h2,h3,h4⟩
   dsimp only
   by_cases hge:ofs ≥ n - hint
   ·rw[if_pos hge]
    exact aC ⟨rfl,la,ofs,rfl,h1,h3,h4,fun h=>by lia⟩
   ·rw[if_neg hge]
    refine au (ask _ _ (by lia) ?_)
    dsimp only
    cases hm:B (hint+ofs) with
    | true=>
     simp only[eM,bm,if_false]
     exact aC ⟨rfl,_,_,rfl,by lia,by lia,by lia,hm⟩
    | false=>
     simp only[Bool.not_false,if_true]
     exact aC ⟨rfl,la,ofs,rfl,h1,h3,h4,fun _=>hm⟩
  case post1=>
   rintro c st' ⟨rfl,la,ofs,rfl,h1,h3,h4,h5⟩
   dsimp only
   refine gal_bs (lo:=hint+la+1) (hi:=hint+min ofs (n - hint)) mono (fun x lo hi P hge hP=>by
    dsimp only
    rw[if_pos hge]
    exact aC hP) (fun x lo hi P hge h2 ht hf=>by
    dsimp only
    rw[if_neg hge]
    refine au (ask _ _ (by lia) ?_)
    dsimp only
    cases hm:B (lo+(hi - lo) / 2) with
    | true=>rw[if_pos rfl];exact aC (ht hm)
    | false=>rw[if_neg (by simp)];exact aC (hf hm)) (fun k hQ=>aC hQ) (by lia) (by lia) (fun i hi=>mono i (hint+la) (by lia) (by lia) h4) (fun i hi1 hi2=>?_) h
   have ho:ofs<n - hint:=by lia
   cases hb:B i with
   | false=>rfl
   | true=>have:=mono (hint+ofs) i (by lia) hi2 hb;rw[h5 ho] at this;cases this
 | false=>
  rw[if_neg (by simp)]
  refine au (wpS_mono (ce (I:=fun x c st'=>st'=st/\∃ la ofs,c=(ab,la,ofs)/\la<ofs/\x<ofs/\la<hint+1/\B (hint - la)=false)
   (Q:=fun c st'=>st'=st/\∃ la ofs,c=(ab,la,ofs)/\la<ofs/\la<hint+1/\B (hint - la)=false/\(ofs<hint+1->B (hint - ofs)=true)) ?step2 ?fin2 ⟨rfl,0,1,rfl,by lia,by lia,by lia,hr⟩) ?post2)
  case fin2=>
   rintro c st' ⟨rfl,la,ofs,rfl,h1,h2,h3,h4⟩
   exact⟨rfl,la,ofs,rfl,h1,h3,h4,fun h=>by lia⟩
  case step2=>
   rintro x c st' _ hx ⟨rfl,la,ofs,rfl,h1,h2,h3,h4⟩
   dsimp only
   by_cases hge:ofs ≥ hint+1
   ·rw[if_pos hge]
    exact aC ⟨rfl,la,ofs,rfl,h1,h3,h4,fun h=>by lia⟩
   ·rw[if_neg hge]
    refine au (ask _ _ (by lia) ?_)
    dsimp only
    cases hm:B (hint - ofs) with
    | true=>
     rw[if_pos rfl]
     exact aC ⟨rfl,la,ofs,rfl,h1,h3,h4,fun _=>hm⟩
    | false=>
     rw[if_neg (by simp)]
     exact aC ⟨rfl,_,_,rfl,by lia,by lia,by lia,hm⟩
  case post2=>
   rintro c st' ⟨rfl,la,ofs,rfl,h1,h3,h4,h5⟩
   dsimp only
   refine gal_bs (lo:=hint+1 - min ofs (hint+1)) (hi:=hint - la) mono (fun x lo hi P hge hP=>by
    dsimp only
    rw[if_pos hge]
    exact aC hP) (fun x lo hi P hge h2 ht hf=>by
    dsimp only
    rw[if_neg hge]
    refine au (ask _ _ (by lia) ?_)
    dsimp only
    cases hm:B (lo+(hi - lo) / 2) with
    | true=>rw[if_pos rfl];exact aC (ht hm)
    | false=>rw[if_neg (by simp)];exact aC (hf hm)) (fun k hQ=>aC hQ) (by lia) (by lia) (fun i hi=>?_) (fun i hi1 hi2=>?_) h
   ·exact mono i (hint - ofs) (by lia) (by lia) (h5 (by lia))
   ·cases hb:B i with
    | false=>rfl
    | true=>have:=mono (hint - la) i hi1 hi2 hb;rw[h4] at this;cases this
end
end L2

namespace L2
open PySem PySem.Spec PyProof.Rows
section
variable {prog:aL}{w:aX}{A:aS}{E:ae->ag->Prop}{s:ag}{kd:SortKind}{D:Keyed->Prop}{rk:Keyed->Nat}{st:SortSt}
def kA(rk:Keyed->Nat)(xs:Array Keyed)(i:Nat):Nat:=(xs[i]?.map rk).getD 0
theorem zcE{xs:Array Keyed}{i:Nat}(h:i<xs.size):kA rk xs i=rk xs[i]:=by
 unfold kA;rw[getElem?_pos xs i h];rfl
def Up(rk:Keyed->Nat)(xs:Array Keyed)(lo hi:Nat):Prop:=∀ i j,lo<=i->i<=j->j<hi->kA rk xs i<=kA rk xs j
theorem zc2{xs:Array Keyed}{lo hi:Nat}(h:hi<=xs.size):(xs.extract lo hi).size=hi - lo:=by rw[gu,eP h]
structure MgR(r:Keyed->Keyed->Prop)(all:List Keyed)(out:Array Keyed)(rest:List Keyed):Prop where
 perm:(out.toList ++ rest).Perm all
 srt:out.toList.Pairwise r
 low:∀ x ∈ out.toList,∀ y ∈ rest,r x y
abbrev Mg(rk:Keyed->Nat):=MgR fun x y=>rk x<=rk y
theorem MgR.take{r:Keyed->Keyed->Prop}{all rest rest':List Keyed}{out c:Array Keyed}(M:MgR r all out rest)(p:rest.Perm (c.toList ++ rest'))(hs:c.toList.Pairwise r)(hl:∀ x ∈ c.toList,∀ y ∈ rest',r x y):MgR r all (out ++ c) rest':=by
 refine⟨?_,?_,?_⟩
 ·rw[dL,bG]
  exact(p.symm.append_left _).trans M.perm
 ·rw[dL,dz]
  exact⟨M.srt,hs,fun x hx y hy=>M.low x hx y (p.mem_iff.mpr (bA _ hy))⟩
 ·intro x hx y hy
  rw[dL] at hx
  rcases bu.mp hx with hx | hx
  ·exact M.low x hx y (p.mem_iff.mpr (aA _ hy))
  ·exact hl x hx y hy
theorem MgR.swap{r:Keyed->Keyed->Prop}{all ra rb:List Keyed}{out:Array Keyed}(M:MgR r all out (ra ++ rb)):MgR r all out (rb ++ ra):=by
 have h:=M.take (c:=#[]) (rest':=rb ++ ra) fT .nil (fun x hx=>by cases hx)
 rwa [dR] at h
theorem Mg.swap{all ra rb:List Keyed}{out:Array Keyed}(M:Mg rk all out (ra ++ rb)):Mg rk all out (rb ++ ra):=MgR.swap M
theorem zie{xs:Array Keyed}{i:Nat}{x:Keyed}(h:x ∈ xs.toList.drop i):∃ j,i<=j/\j<xs.size/\kA rk xs j=rk x:=by
 obtain⟨j,hj,rfl⟩:=eG.mp h
 rw[cY] at hj
 have hj':i+j<xs.size:=by have:xs.toList.length=xs.size:=ax;lia
 refine⟨i+j,by lia,hj',?_⟩
 rw[zcE hj',jp];rfl
theorem zeW{xs:Array Keyed}{i k:Nat}{x:Keyed}(h:x ∈ (xs.extract i k).toList):∃ j,i<=j/\j<k/\j<xs.size/\kA rk xs j=rk x:=by
 obtain⟨j,hj,rfl⟩:=eG.mp h
 have hj2:j<(xs.extract i k).size:=by rw[ax] at hj;exact hj
 have hj3:=hj2
 rw[gu] at hj3
 have hj4:i+j<min k xs.size:=d9 i j ▸ dA hj3
 have hj':i+j<xs.size:=aZ hj4 (eA _ _)
 refine⟨i+j,eH _ _,aZ hj4 (jT _ _),hj',?_⟩
 rw[zcE hj',dB,dq]
theorem ext_up{xs:Array Keyed}{i k:Nat}(h:Up rk xs i k):(xs.extract i k).toList.Pairwise fun x y=>rk x<=rk y:=by
 rw[cH]
 intro a b ha hb hab
 have h1:a<(xs.extract i k).size:=by rw[ax] at ha;exact ha
 have h2:b<(xs.extract i k).size:=by rw[ax] at hb;exact hb
 have h3:=h1;have h4:=h2
 rw[gu] at h3 h4
 have h5:i+a<min k xs.size:=d9 i a ▸ dA h3
 have h6:i+b<min k xs.size:=d9 i b ▸ dA h4
 have z:=h (i+a) (i+b) (eH _ _) (dJ (bH hab) _) (aZ h6 (jT _ _))
 rw[zcE (aZ h5 (eA _ _)),zcE (aZ h6 (eA _ _))] at z
 rw[dB,dB,dq,dq]
 exact z
theorem zdT{xs:Array Keyed}{i k:Nat}(h:i<=k):xs.toList.drop i=(xs.extract i k).toList ++ xs.toList.drop k:=by
 rw[dc,cI]
 have:xs.toList.drop k=(xs.toList.drop i).drop (k - i):=by rw[j6];congr 1;lia
 rw[this,ef]
theorem Up.mono{xs:Array Keyed}{lo hi lo' hi':Nat}(h:Up rk xs lo hi)(h1:lo<=lo')(h2:hi'<=hi):Up rk xs lo' hi':=fun i j a b c=>h i j (by lia) b (by lia)
theorem Mg.runA{all:List Keyed}{out a b:Array Keyed}{i j k:Nat}(M:Mg rk all out (a.toList.drop i ++ b.toList.drop j))(h:i<=k)(hk:k<=a.size)(sa:Up rk a 0 a.size)(hb:∀ x y,i<=x->x<k->j<=y->y<b.size->kA rk a x<=kA rk b y):Mg rk all (out ++ a.extract i k) (a.toList.drop k ++ b.toList.drop j):=by
 refine M.take ?_ (ext_up (sa.mono (aO _) hk)) ?_
 ·rw[zdT h,bG]
 ·intro x hx y hy
  obtain⟨p,p1,p2,p3,p4⟩:=zeW (rk:=rk) hx
  rw[<- p4]
  rcases bu.mp hy with hy | hy
  ·obtain⟨q,q1,q2,q3⟩:=zie (rk:=rk) hy
   rw[<- q3]
   exact sa p q (aO _) (by lia) q2
  ·obtain⟨q,q1,q2,q3⟩:=zie (rk:=rk) hy
   rw[<- q3]
   exact hb p q p1 p2 q1 q2
theorem Mg.oneA{all:List Keyed}{out a b:Array Keyed}{i j:Nat}(M:Mg rk all out (a.toList.drop i ++ b.toList.drop j))(hk:i<a.size)(sa:Up rk a 0 a.size)(hb:∀ y,j<=y->y<b.size->kA rk a i<=kA rk b y):Mg rk all (out.push a[i]) (a.toList.drop (i+1) ++ b.toList.drop j):=by
 have h:=M.runA (k:=i+1) (by lia) hk sa (fun x y h1 h2 h3 h4=>(show i=x by lia) ▸ hb y h3 h4)
 have e:out ++ a.extract i (i+1)=out.push a[i]:=by
  apply iP
  rw[dL,dy,dc,cI,show i+1 - i=1 by lia,bK (by simpa using hk)]
  simp
 rwa [e] at h
theorem Mg.end_{all:List Keyed}{out:Array Keyed}(M:Mg rk all out []):out.toList.Perm all/\out.toList.Pairwise fun x y=>rk x<=rk y:=⟨by simpa using M.perm,M.srt⟩
theorem zf9(R:Rk prog w A s kd D rk){key:Keyed}{arr:Array Keyed}{base n hint:Nat}{Q:Option Nat->SortSt->Prop}(hk:kindOf st=kd)(hD:∀ x ∈ arr,D x)(hy:D key)(hn:base+n<=arr.size)(hh:hint<n)(hu:Up rk arr base (base+n))
  (h:∀ k,k<=n->(∀ i,base<=i->i<base+k->kA rk arr i<=rk key)->(∀ i,base+k<=i->i<base+n->rk key<kA rk arr i)->Q (aa k) st):wpS (model prog w) A E s (gal false key arr base n hint) Q st:=by
 have hb:∀ i,beyB rk false key arr base i=!decide (rk key<kA rk arr (base+i)):=fun i=>rfl
 refine wpS_gal R hk hD hy hn hh (fun i j hij hj hB=>?_) fun k h1 h2 h3=>h k h1 (fun i i1 i2=>?_) fun i i1 i2=>?_
 ·rw[hb] at hB ⊢
  have:=hu (base+i) (base+j) (by lia) (by lia) (by lia)
  simp only[jq,decide_eq_false_iff_not] at hB ⊢
  lia
 ·have:=h2 (i - base) (by lia)
  rw[hb,show base+(i - base)=i by lia] at this
  simp only[jq,decide_eq_false_iff_not] at this
  lia
 ·have:=h3 (i - base) (by lia) (by lia)
  rw[hb,show base+(i - base)=i by lia] at this
  simpa using this
theorem zgc(R:Rk prog w A s kd D rk){key:Keyed}{arr:Array Keyed}{base n hint:Nat}{Q:Option Nat->SortSt->Prop}(hk:kindOf st=kd)(hD:∀ x ∈ arr,D x)(hy:D key)(hn:base+n<=arr.size)(hh:hint<n)(hu:Up rk arr base (base+n))
  (h:∀ k,k<=n->(∀ i,base<=i->i<base+k->kA rk arr i<rk key)->(∀ i,base+k<=i->i<base+n->rk key<=kA rk arr i)->Q (aa k) st):wpS (model prog w) A E s (gal true key arr base n hint) Q st:=by
 have hb:∀ i,beyB rk true key arr base i=decide (kA rk arr (base+i)<rk key):=fun i=>rfl
 refine wpS_gal R hk hD hy hn hh (fun i j hij hj hB=>?_) fun k h1 h2 h3=>h k h1 (fun i i1 i2=>?_) fun i i1 i2=>?_
 ·rw[hb] at hB ⊢
  have:=hu (base+i) (base+j) (by lia) (by lia) (by lia)
  simp only[decide_eq_true_eq] at hB ⊢
  lia
 ·have:=h2 (i - base) (by lia)
  rw[hb,show base+(i - base)=i by lia] at this
  simpa using this
 ·have:=h3 (i - base) (by lia) (by lia)
  rw[hb,show base+(i - base)=i by lia] at this
  simp only[decide_eq_false_iff_not] at this
  lia
def zeg(rk:Keyed->Nat)(a b out:Array Keyed):Prop:=out.toList.Perm (a.toList ++ b.toList)/\out.toList.Pairwise fun x y=>rk x<=rk y
theorem zdV{xs:Array Keyed}{k:Nat}(h:xs.size<=k):xs.toList.drop k=[]:=fG (by simpa using h)
theorem Mg.finB{a b out:Array Keyed}{i j:Nat}(M:Mg rk (a.toList ++ b.toList) out (a.toList.drop i ++ b.toList.drop j))(sa:Up rk a 0 a.size)(sb:Up rk b 0 b.size)(hi:i<=a.size)(hj:j=b.size):zeg rk a b (out ++ a.extract i a.size ++ b.extract j b.size):=by
 have M1:=(M.runA (k:=a.size) hi (ak _) sa (fun x y _ _ h3 h4=>by lia)).swap.runA (k:=b.size) (by lia) (ak _) sb (fun x y h1 h2 _ _=>by lia)
 rw[zdV (ak _),zdV (ak _)] at M1
 exact M1.end_
theorem Mg.finA{a b out:Array Keyed}{i j:Nat}(M:Mg rk (a.toList ++ b.toList) out (a.toList.drop i ++ b.toList.drop j))(sa:Up rk a 0 a.size)(sb:Up rk b 0 b.size)(hi:i+1=a.size)(hj:j<=b.size)(hl:∀ y,y<b.size->kA rk b y<kA rk a (a.size - 1)):zeg rk a b (out ++ b.extract j b.size ++ a.extract i a.size):=by
 have M1:=(M.swap.runA (k:=b.size) hj (ak _) sb (fun x y h1 h2 h3 h4=>by
  have:y=a.size - 1:=by lia
  subst this
  exact bH (hl x h2))).swap.runA (k:=a.size) (by lia) (ak _) sa (fun x y h1 h2 h3 h4=>by lia)
 rw[zdV (ak _),zdV (ak _)] at M1
 exact M1.end_
theorem zd8{xs:Array Keyed}{i:Nat}:xs.extract i i=#[]:=by
 apply iP
 rw[dc,cI,jd,j4]
section
variable {M:Model}{α σ β γ:Type}{Q:α->σ->Prop}{st:σ}{c:Prop}{_:Decidable c}{c1 c2:γ->Prop}{_:∀ x,Decidable (c1 x)}{_:∀ x,Decidable (c2 x)}{p2:γ->Prop}{p1:γ->β->Prop}{r r2 f:β->γ->StateT σ Sem α}{y1:β}{y2:γ}
theorem zin{b:β}{f:β->StateT σ Sem α}(h:∀ g,wpS M A E s (f g) Q st):∀ a,wpS M A E s (if c then f a else f b) Q st:=by
 intro a
 split <;> exact h _
theorem zhY(h1:∀ x1 x2,p2 x2->p1 x2 x1->c->c1 x2->wpS M A E s (r x1 x2) Q st)(h:∀ z1 z2,(c/\p2 z2/\p1 z2 z1/\¬ c1 z2) \/ (¬ c/\z1=y1/\z2=y2)->wpS M A E s (f z1 z2) Q st) :
  ∀ x2,p2 x2->∀ x1,p1 x2 x1->wpS M A E s (if c then if c1 x2 then r x1 x2 else f x1 x2 else f y1 y2) Q st:=by
 intro x2 q2 x1 q1
 split
 ·rename_i e
  split
  ·rename_i e1;exact h1 _ _ q2 q1 e e1
  ·rename_i e1;exact h _ _ (.inl ⟨e,q2,q1,e1⟩)
 ·rename_i e;exact h _ _ (.inr ⟨e,rfl,rfl⟩)
theorem zg0(h2:∀ x2,p2 x2->c->¬ c2 x2)(h1:∀ x1 x2,p2 x2->p1 x2 x1->c->c1 x2->wpS M A E s (r x1 x2) Q st)(h:∀ z1 z2,(c/\p2 z2/\p1 z2 z1/\¬ c1 z2) \/ (¬ c/\z1=y1/\z2=y2)->wpS M A E s (f z1 z2) Q st) :
  ∀ x2,p2 x2->∀ x1,p1 x2 x1->wpS M A E s (if c then if c1 x2 then r x1 x2 else if c2 x2 then r2 x1 x2 else f x1 x2 else f y1 y2) Q st:=by
 intro x2 q2 x1 q1
 split
 ·rename_i e
  rw[if_neg (h2 _ q2 e)]
  split
  ·rename_i e1;exact h1 _ _ q2 q1 e e1
  ·rename_i e1;exact h _ _ (.inl ⟨e,q2,q1,e1⟩)
 ·rename_i e;exact h _ _ (.inr ⟨e,rfl,rfl⟩)
end
theorem wpS_mgLo(R:Rk prog w A s kd D rk){a b:Array Keyed}{Q:Array Keyed->SortSt->Prop}(hk:kindOf st=kd)(hDa:∀ x ∈ a,D x)(hDb:∀ x ∈ b,D x)(sa:Up rk a 0 a.size)(sb:Up rk b 0 b.size)(ha:1<=a.size)(hb:1<=b.size)
  (h0:kA rk b 0<=kA rk a 0) (hl:∀ y,y<b.size->kA rk b y<kA rk a (a.size - 1))
  (h:∀ out g,out.toList.Perm (a.toList ++ b.toList)->(out.toList.Pairwise fun x y=>rk x<=rk y)->Q out (zcp st g)):wpS (model prog w) A E s (mgLo a b) Q st:=by
 refine au (zdr ?_)
 refine au (zby hb ?_)
 have M0:Mg rk (a.toList ++ b.toList) #[b[0]] (a.toList.drop 0 ++ b.toList.drop 1):=by
  have h1:Mg rk (a.toList ++ b.toList) #[] (b.toList.drop 0 ++ a.toList.drop 0):=⟨by simpa using fT,.nil,fun x hx=>by cases hx⟩
  exact(h1.oneA hb sb (fun y _ hy=>aJ h0 (sa 0 y (ak _) (aO _) hy))).swap
 have good:∀ {out:Array Keyed} {g:Nat},zeg rk a b out->Q out (zcp st g):=fun hW=>h _ _ hW.1 hW.2
 dsimp only
 by_cases hb1:1=b.size
 ·rw[if_pos (by simpa using hb1)]
  exact aC (good (g:=gallopOf st) (M0.finB sa sb (aO _) hb1))
 rw[if_neg (by simpa using hb1)]
 by_cases ha1:0+1=a.size
 ·rw[if_pos (by simpa using ha1)]
  exact aC (good (g:=gallopOf st) (M0.finA sa sb ha1 hb hl))
 rw[if_neg (by simpa using ha1)]
 refine au (wpS_get ?_)
 refine au (wpS_mono (ce (I:=fun x c st'=>(∃ g,st'=zcp st g)/\∃ out ia ib mg,c=(ab,out,ia,ib,mg)/\x+1<=ia+ib/\ia+1<a.size/\ib<b.size/\Mg rk (a.toList ++ b.toList) out (a.toList.drop ia ++ b.toList.drop ib))
  (Q:=fun c st'=>(∃ g,st'=zcp st g)/\∃ r z,c=(aa r,z)/\zeg rk a b r) ?step ?fin ⟨⟨gallopOf st,rfl⟩,_,_,_,_,rfl,by lia,by lia,by lia,M0⟩) ?post)
 case post=>
  rintro c st' ⟨⟨g,rfl⟩,r,z,rfl,hW⟩
  exact aC (good hW)
 case fin=>
  rintro c st' ⟨_,out,ia,ib,mg,rfl,h1,h2,h3,_⟩
  exfalso;lia
 case step=>
  rintro x c st' _ hx ⟨⟨g,rfl⟩,out,ia,ib,mg,rfl,h1,h2,h3,M⟩
  dsimp only
  refine au (wpS_mono (ce (I:=fun y c st'=>st'=zcp st g/\∃ out ia' ib' ac bc,c=(ab,out,ia',ib',ac,bc)/\ia+ib+y<=ia'+ib'/\ia'+1<a.size/\ib'<b.size/\Mg rk (a.toList ++ b.toList) out (a.toList.drop ia' ++ b.toList.drop ib'))
   (Q:=fun c st'=>st'=zcp st g/\((∃ out ia' ib' ac bc,c=(ab,out,ia',ib',ac,bc)/\ia+ib+1<=ia'+ib'/\ia'+1<a.size/\ib'<b.size/\Mg rk (a.toList ++ b.toList) out (a.toList.drop ia' ++ b.toList.drop ib')) \/ ∃ r z,c=(aa r,z)/\zeg rk a b r)) ?step1 ?fin1 ⟨rfl,_,_,_,_,_,rfl,by lia,h2,h3,M⟩) ?post1)
  case fin1=>
   rintro c st' ⟨rfl,out,ia',ib',ac,bc,rfl,h1,h2,h3,M⟩
   exact⟨rfl,.inl ⟨_,_,_,_,_,rfl,by lia,h2,h3,M⟩⟩
  case step1=>
   rintro y c st' _ hy ⟨rfl,out,ia',ib',ac,bc,rfl,h1,h2,h3,M⟩
   dsimp only
   have h2':ia'<a.size:=by lia
   refine au (zby h3 ?_)
   refine au (zby h2' ?_)
   refine au (wpS_q R hk (hDb _ (bx h3)) (hDa _ (bx h2')) ?_)
   dsimp only
   rw[<- zcE (rk:=rk) h3,<- zcE (rk:=rk) h2']
   by_cases hw:kA rk b ib'<kA rk a ia'
   ·rw[decide_eq_true hw,if_pos rfl]
    refine au (zby h3 ?_)
    have M1:=(M.swap.oneA h3 sb (fun y h1 h2=>aJ (bH hw) (sa ia' y (aO _) h1 h2))).swap
    by_cases he:ib'+1=b.size
    ·rw[if_pos (by simpa using he)]
     exact aC ⟨rfl,.inr ⟨_,_,rfl,M1.finB sa sb (by lia) he⟩⟩
    ·rw[if_neg (by simpa using he)]
     split
     ·exact aC ⟨rfl,.inl ⟨_,_,_,_,_,rfl,by lia,h2,by lia,M1⟩⟩
     ·exact aC ⟨rfl,_,_,_,_,_,rfl,by lia,h2,by lia,M1⟩
   ·rw[decide_eq_false hw,if_neg (by simp)]
    refine au (zby h2' ?_)
    have M1:=M.oneA h2' sa (fun y h1 h2=>aJ (by lia) (sb ib' y (aO _) h1 h2))
    by_cases he:ia'+1+1=a.size
    ·rw[if_pos (by simpa using he)]
     exact aC ⟨rfl,.inr ⟨_,_,rfl,M1.finA sa sb he (by lia) hl⟩⟩
    ·rw[if_neg (by simpa using he)]
     split
     ·exact aC ⟨rfl,.inl ⟨_,_,_,_,_,rfl,by lia,by lia,h3,M1⟩⟩
     ·exact aC ⟨rfl,_,_,_,_,_,rfl,by lia,by lia,h3,M1⟩
  case post1=>
   rintro c st' ⟨rfl,⟨out,ia',ib',ac,bc,rfl,h1,h2,h3,M⟩ | ⟨r,z,rfl,hW⟩⟩
   ·dsimp only
    refine au (zdr ?_)
    refine au (wpS_mono (ce (I:=fun y c st'=>(∃ g,st'=zcp st g)/\∃ out ia2 ib2 mg ac bc,c=(ab,out,ia2,ib2,mg,ac,bc)/\ia+ib+1<=ia2+ib2/\ia2+1<a.size/\ib2<b.size/\Mg rk (a.toList ++ b.toList) out (a.toList.drop ia2 ++ b.toList.drop ib2))
     (Q:=fun c st'=>(∃ g,st'=zcp st g)/\((∃ out ia2 ib2 mg ac bc,c=(ab,out,ia2,ib2,mg,ac,bc)/\ia+ib+1<=ia2+ib2/\ia2+1<a.size/\ib2<b.size/\Mg rk (a.toList ++ b.toList) out (a.toList.drop ia2 ++ b.toList.drop ib2)) \/ ∃ r z,c=(aa r,z)/\zeg rk a b r)) ?step2 ?fin2 ⟨⟨g,rfl⟩,_,_,_,_,_,_,rfl,h1,h2,h3,M⟩) ?post2)
    case fin2=>
     rintro c st' ⟨hg,z⟩
     exact⟨hg,.inl z⟩
    case post2=>
     rintro c st' ⟨⟨g,rfl⟩,⟨out,ia2,ib2,mg,ac,bc,rfl,h1,h2,h3,M⟩ | ⟨r,z,rfl,hW⟩⟩
     ·dsimp only
      exact au (zf4 (aC ⟨⟨_,rfl⟩,_,_,_,_,rfl,by lia,h2,h3,M⟩))
     ·exact aC ⟨⟨_,rfl⟩,_,_,rfl,hW⟩
    case step2=>
     clear h1 h2 h3 M
     rintro y c st' _ hy ⟨⟨g,rfl⟩,out,ia',ib',mg,ac,bc,rfl,h1,h2,h3,M⟩
     dsimp only
     have h2':ia'<a.size:=by lia
     generalize mg - 1=mg'
     revert mg'
     refine zin ?_
     intro g'
     refine au (zf4 ?_)
     refine au (zby h3 ?_)
     refine au (zf9 R hk hDa (hDb _ (bx h3)) (by lia) (by lia) (sa.mono (aO _) (by lia)) fun k k1 k2 k3=>?_)
     rw[<- zcE (rk:=rk) h3] at k2 k3
     have hkk:ia'+k<a.size:=by
      refine fN fun hc=>?_
      have e1:=k2 (a.size - 1) (by lia) (by lia)
      have e2:=hl ib' h3
      lia
     have M1:=M.runA (k:=ia'+k) (by lia) (by lia) sa (fun x y x1 x2 y1 y2=>aJ (k2 x x1 x2) (sb ib' y (aO _) y1 y2))
     have k4:∀ y,ia'+k<=y->y<a.size->kA rk b ib'<=kA rk a y:=fun y y1 y2=>bH (k3 y y1 (by lia))
     have z0:k=0->out ++ a.extract ia' (ia'+k)=out/\ia'+k=ia':=fun e=>by
      subst e
      rw[g5,zd8,dR]
      exact⟨rfl,rfl⟩
     clear k1 k2 k3
     dsimp only
     generalize hj1:ia'+k=j1
     generalize ho1:out ++ a.extract ia' j1=o1
     revert o1 j1
     refine zg0 (fun j1 e1 _=>by subst e1;simp;lia) (fun o1 j1 e1 e2 _ he=>?_) fun o2 j2 hz=>?_
     ·subst e1
      subst e2
      exact aC ⟨⟨_,rfl⟩,.inr ⟨_,_,rfl,M1.finA sa sb (by simpa using he) (by lia) hl⟩⟩
     have hz':o2=out ++ a.extract ia' (ia'+k)/\j2=ia'+k/\¬ j2+1=a.size:=by
      rcases hz with ⟨_,e1,e2,he⟩ | ⟨he,e1,e2⟩
      ·subst e1
       exact⟨e2.symm,rfl,by simpa using he⟩
      ·obtain⟨q1,q2⟩:=z0 (by lia)
       rw[q1,q2]
       exact⟨e1,e2,by lia⟩
     clear hz z0
     obtain⟨e1,e2,he⟩:=hz'
     rw[<- e1,<- e2] at M1
     rw[<- e2] at hkk k4
     have hj2:ia'<=j2:=by lia
     clear e1 e2
     refine au (zby h3 ?_)
     have M2:=(M1.swap.oneA h3 sb k4).swap
     by_cases he2:ib'+1=b.size
     ·rw[if_pos (by simpa using he2)]
      exact aC ⟨⟨_,rfl⟩,.inr ⟨_,_,rfl,M2.finB sa sb (by lia) he2⟩⟩
     rw[if_neg (by simpa using he2)]
     refine au (zby hkk ?_)
     refine au (zgc R hk hDb (hDa _ (bx hkk)) (by lia) (by lia) (sb.mono (aO _) (by lia)) fun l l1 l2 l3=>?_)
     rw[<- zcE (rk:=rk) hkk] at l2 l3
     have M3:=(M2.swap.runA (k:=ib'+1+l) (by lia) (by lia) sb (fun x y x1 x2 y1 y2=>aJ (bH (l2 x x1 x2)) (sa _ y (aO _) y1 y2))).swap
     have l4:∀ y,ib'+1+l<=y->y<b.size->kA rk a j2<=kA rk b y:=fun y y1 y2=>l3 y y1 (by lia)
     have hll:ib'+1+l<=b.size:=by lia
     generalize o2.push b[ib']=o3 at M3 ⊢
     have z0:l=0->o3 ++ b.extract (ib'+1) (ib'+1+l)=o3/\ib'+1+l=ib'+1:=fun e=>by
      subst e
      rw[g5,zd8,dR]
      exact⟨rfl,rfl⟩
     clear l1 l2 l3 M2 M1
     dsimp only
     generalize hj3:ib'+1+l=j3
     generalize ho4:o3 ++ b.extract (ib'+1) j3=o4
     revert o4 j3
     refine zhY (fun o4 j3 e1 e2 _ he=>?_) fun o5 j5 hz=>?_
     ·subst e1
      subst e2
      exact aC ⟨⟨_,rfl⟩,.inr ⟨_,_,rfl,M3.finB sa sb (by lia) (by simpa using he)⟩⟩
     have hz':o5=o3 ++ b.extract (ib'+1) (ib'+1+l)/\j5=ib'+1+l/\¬ j5=b.size:=by
      rcases hz with ⟨_,e1,e2,he⟩ | ⟨he,e1,e2⟩
      ·subst e1
       exact⟨e2.symm,rfl,by simpa using he⟩
      ·obtain⟨q1,q2⟩:=z0 (by lia)
       rw[q1,q2]
       exact⟨e1,e2,by lia⟩
     clear hz z0
     obtain⟨e1,e2,he3⟩:=hz'
     rw[<- e1,<- e2] at M3
     rw[<- e2] at hll l4
     have hj5:ib'+1<=j5:=by lia
     clear e1 e2
     refine au (zby hkk ?_)
     have M4:=M3.oneA hkk sa l4
     split
     ·rename_i he4
      exact aC ⟨⟨_,rfl⟩,.inr ⟨_,_,rfl,M4.finA sa sb (by simpa using he4) (by lia) hl⟩⟩
     ·rename_i he4
      have he5:¬ _=a.size:=fun e=>he4 (beq_iff_eq.mpr e)
      have b1:ia+ib+1<=j2+1+j5:=by lia
      have b2:j2+1+1<a.size:=by lia
      have b3:j5<b.size:=by lia
      split
      ·exact aC ⟨⟨_,rfl⟩,.inl ⟨_,_,_,_,_,_,rfl,b1,b2,b3,M4⟩⟩
      ·exact aC ⟨⟨_,rfl⟩,_,_,_,_,_,_,rfl,b1,b2,b3,M4⟩
   ·exact aC ⟨⟨_,rfl⟩,_,_,rfl,hW⟩
end
end L2

namespace L2
open PySem PySem.Spec PyProof.Rows
section
variable {prog:aL}{w:aX}{A:aS}{E:ae->ag->Prop}{s:ag}{kd:SortKind}{D:Keyed->Prop}{rk:Keyed->Nat}{st:SortSt}
abbrev Mh(rk:Keyed->Nat):=MgR fun x y=>rk y<=rk x
theorem Mh.swap{all ra rb:List Keyed}{out:Array Keyed}(M:Mh rk all out (ra ++ rb)):Mh rk all out (rb ++ ra):=MgR.swap M
theorem zhW{xs:Array Keyed}{n:Nat}{x:Keyed}(h:x ∈ xs.toList.take n):∃ j,j<n/\j<xs.size/\kA rk xs j=rk x:=by
 have e:xs.toList.take n=(xs.extract 0 n).toList:=by rw[dc,cI];rfl
 rw[e] at h
 obtain⟨j,_,h2,h3,h4⟩:=zeW (rk:=rk) h
 exact⟨j,h2,h3,h4⟩
theorem take_ext{xs:Array Keyed}{k n:Nat}(h:k<=n):xs.toList.take n=xs.toList.take k ++ (xs.extract k n).toList:=by
 rw[dc,cI,<- List.take_add,show k+(n - k)=n by lia]
theorem Mh.runA{all:List Keyed}{out a b:Array Keyed}{na nb k:Nat}(M:Mh rk all out (a.toList.take na ++ b.toList.take nb))(h:k<=na)(hk:na<=a.size)(sa:Up rk a 0 a.size)(hb:∀ x y,k<=x->x<na->y<nb->y<b.size->kA rk b y<=kA rk a x):Mh rk all (out ++ (a.extract k na).reverse) (a.toList.take k ++ b.toList.take nb):=by
 refine M.take ?_ ?_ ?_
 ·rw[take_ext h,eJ]
  refine(fT.append_right _).trans ?_
  rw[bG]
  exact(jr _).symm.append_right _
 ·rw[eJ,iJ]
  exact ext_up (sa.mono (aO _) hk)
 ·intro x hx y hy
  rw[eJ,List.mem_reverse] at hx
  obtain⟨p,p1,p2,p3,p4⟩:=zeW (rk:=rk) hx
  rw[<- p4]
  rcases bu.mp hy with hy | hy
  ·obtain⟨q,q1,q2,q3⟩:=zhW (rk:=rk) hy
   rw[<- q3]
   exact sa q p (aO _) (by lia) p3
  ·obtain⟨q,q1,q2,q3⟩:=zhW (rk:=rk) hy
   rw[<- q3]
   exact hb p q p1 p2 q1 q2
theorem Mh.oneA{all:List Keyed}{out a b:Array Keyed}{na nb k:Nat}(M:Mh rk all out (a.toList.take na ++ b.toList.take nb))(hn:k+1=na)(hk:k<a.size)(sa:Up rk a 0 a.size)(hb:∀ y,y<nb->y<b.size->kA rk b y<=kA rk a k):Mh rk all (out.push a[k]) (a.toList.take k ++ b.toList.take nb):=by
 subst hn
 have h:=M.runA (k:=k) (by lia) hk sa (fun x y h1 h2 h3 h4=>(show k=x by lia) ▸ hb y h3 h4)
 have e:out ++ (a.extract k (k+1)).reverse=out.push a[k]:=by
  apply iP
  rw[dL,dy,eJ,dc,cI,show k+1 - k=1 by lia,bK (by simpa using hk)]
  simp
 rwa [e] at h
theorem Mh.end_{a b out r:Array Keyed}(M:Mh rk (a.toList ++ b.toList) out [])(e:r.toList=out.toList.reverse):zeg rk a b r:=by
 refine⟨?_,?_⟩
 ·rw[e]
  exact(jr _).trans (by simpa using M.perm)
 ·rw[e,iJ]
  exact M.srt
theorem Mh.finA{a b out:Array Keyed}{na nb:Nat}(M:Mh rk (a.toList ++ b.toList) out (a.toList.take na ++ b.toList.take nb))(sa:Up rk a 0 a.size)(sb:Up rk b 0 b.size)(hn:na=0)(hb:nb<=b.size):zeg rk a b (a.extract 0 na ++ b.extract 0 nb ++ out.reverse):=by
 subst hn
 have M1:=M.swap.runA (k:=0) (aO _) hb sb (fun x y _ _ h _=>by lia)
 refine Mh.end_ M1 ?_
 simp[zd8]
theorem Mh.finB{a b out:Array Keyed}{na nb:Nat}(M:Mh rk (a.toList ++ b.toList) out (a.toList.take na ++ b.toList.take nb))(sa:Up rk a 0 a.size)(sb:Up rk b 0 b.size)(hn:nb=1)(hb:1<=b.size)(ha:na<=a.size)(h0:kA rk b 0<kA rk a 0):zeg rk a b (b.extract 0 nb ++ a.extract 0 na ++ out.reverse):=by
 subst hn
 have M1:=(M.runA (k:=0) (aO _) ha sa (fun x y _ h2 h3 _=>by
  have:y=0:=by lia
  subst this
  exact bH (aZ h0 (sa 0 x (ak _) (aO _) (by lia))))).swap.runA (k:=0) (aO _) hb sb (fun x y _ _ h _=>by lia)
 refine Mh.end_ M1 ?_
 simp
theorem wpS_mgHi(R:Rk prog w A s kd D rk){a b:Array Keyed}{Q:Array Keyed->SortSt->Prop}(hk:kindOf st=kd)(hDa:∀ x ∈ a,D x)(hDb:∀ x ∈ b,D x)(sa:Up rk a 0 a.size)(sb:Up rk b 0 b.size)(ha:1<=a.size)(hb:1<=b.size)
  (h0:kA rk b 0<kA rk a 0) (hl:∀ y,y<b.size->kA rk b y<kA rk a (a.size - 1))
  (h:∀ out g,out.toList.Perm (a.toList ++ b.toList)->(out.toList.Pairwise fun x y=>rk x<=rk y)->Q out (zcp st g)):wpS (model prog w) A E s (mgHi a b) Q st:=by
 refine au (zdr ?_)
 have hz:a.size - 1<a.size:=by lia
 refine au (zby hz ?_)
 have M0:Mh rk (a.toList ++ b.toList) #[a[a.size - 1]] (a.toList.take (a.size - 1) ++ b.toList.take b.size):=by
  have h1:Mh rk (a.toList ++ b.toList) #[] (a.toList.take a.size ++ b.toList.take b.size):=by
   rw[cF (by simp),cF (by simp)]
   exact⟨by simp,.nil,fun x hx=>by cases hx⟩
  exact h1.oneA (by lia) hz sa (fun y _ hy=>bH (hl y hy))
 have good:∀ {out:Array Keyed} {g:Nat},zeg rk a b out->Q out (zcp st g):=fun hW=>h _ _ hW.1 hW.2
 dsimp only
 by_cases ha1:a.size - 1=0
 ·rw[if_pos (by simpa using ha1)]
  exact aC (good (g:=gallopOf st) (M0.finA sa sb ha1 (ak _)))
 rw[if_neg (by simpa using ha1)]
 by_cases hb1:b.size=1
 ·rw[if_pos (by simpa using hb1)]
  exact aC (good (g:=gallopOf st) (M0.finB sa sb hb1 hb (by lia) h0))
 rw[if_neg (by simpa using hb1)]
 refine au (wpS_get ?_)
 refine au (wpS_mono (ce (I:=fun x c st'=>(∃ g,st'=zcp st g)/\∃ na nb out mg,c=(ab,na,nb,out,mg)/\x+1+na+nb<=a.size+b.size/\1<=na/\na<a.size/\2<=nb/\nb<=b.size/\Mh rk (a.toList ++ b.toList) out (a.toList.take na ++ b.toList.take nb))
  (Q:=fun c st'=>(∃ g,st'=zcp st g)/\∃ r z,c=(aa r,z)/\zeg rk a b r) ?step ?fin ⟨⟨gallopOf st,rfl⟩,_,_,_,_,rfl,by lia,by lia,by lia,by lia,by lia,M0⟩) ?post)
 case post=>
  rintro c st' ⟨⟨g,rfl⟩,r,z,rfl,hW⟩
  exact aC (good hW)
 case fin=>
  rintro c st' ⟨_,na,nb,out,mg,rfl,h1,h2,h3,_⟩
  exfalso;lia
 case step=>
  rintro x c st' _ hx ⟨⟨g,rfl⟩,na,nb,out,mg,rfl,h1,h2,h3,h4,h5,M⟩
  dsimp only
  refine au (wpS_mono (ce (I:=fun y c st'=>st'=zcp st g/\∃ na' nb' out ac bc,c=(ab,na',nb',out,ac,bc)/\na'+nb'+y<=na+nb/\1<=na'/\na'<a.size/\2<=nb'/\nb'<=b.size/\Mh rk (a.toList ++ b.toList) out (a.toList.take na' ++ b.toList.take nb'))
   (Q:=fun c st'=>st'=zcp st g/\((∃ na' nb' out ac bc,c=(ab,na',nb',out,ac,bc)/\na'+nb'+1<=na+nb/\1<=na'/\na'<a.size/\2<=nb'/\nb'<=b.size/\Mh rk (a.toList ++ b.toList) out (a.toList.take na' ++ b.toList.take nb')) \/ ∃ r z,c=(aa r,z)/\zeg rk a b r)) ?step1 ?fin1 ⟨rfl,_,_,_,_,_,rfl,by lia,h2,h3,h4,h5,M⟩) ?post1)
  case fin1=>
   rintro c st' ⟨rfl,na',nb',out,ac,bc,rfl,h1,h2,h3,h4,h5,M⟩
   exact⟨rfl,.inl ⟨_,_,_,_,_,rfl,by lia,h2,h3,h4,h5,M⟩⟩
  case step1=>
   rintro y c st' _ hy ⟨rfl,na',nb',out,ac,bc,rfl,h1,h2,h3,h4,h5,M⟩
   dsimp only
   have ka:na' - 1<a.size:=by lia
   have kb:nb' - 1<b.size:=by lia
   refine au (zby kb ?_)
   refine au (zby ka ?_)
   refine au (wpS_q R hk (hDb _ (bx kb)) (hDa _ (bx ka)) ?_)
   dsimp only
   rw[<- zcE (rk:=rk) kb,<- zcE (rk:=rk) ka]
   by_cases hw:kA rk b (nb' - 1)<kA rk a (na' - 1)
   ·rw[decide_eq_true hw,if_pos rfl]
    refine au (zby ka ?_)
    have M1:=M.oneA (by lia) ka sa (fun y h1 h2=>aJ (sb y (nb' - 1) (aO _) (by lia) kb) (bH hw))
    by_cases he:na' - 1=0
    ·rw[if_pos (by simpa using he)]
     exact aC ⟨rfl,.inr ⟨_,_,rfl,M1.finA sa sb he h5⟩⟩
    ·rw[if_neg (by simpa using he)]
     split
     ·exact aC ⟨rfl,.inl ⟨_,_,_,_,_,rfl,by lia,by lia,by lia,h4,h5,M1⟩⟩
     ·exact aC ⟨rfl,_,_,_,_,_,rfl,by lia,by lia,by lia,h4,h5,M1⟩
   ·rw[decide_eq_false hw,if_neg (by simp)]
    refine au (zby kb ?_)
    have M1:=(M.swap.oneA (by lia) kb sb (fun y h1 h2=>aJ (sa y (na' - 1) (aO _) (by lia) ka) (by lia))).swap
    by_cases he:nb' - 1=1
    ·rw[if_pos (by simpa using he)]
     exact aC ⟨rfl,.inr ⟨_,_,rfl,M1.finB sa sb he hb (by lia) h0⟩⟩
    ·rw[if_neg (by simpa using he)]
     split
     ·exact aC ⟨rfl,.inl ⟨_,_,_,_,_,rfl,by lia,h2,h3,by lia,by lia,M1⟩⟩
     ·exact aC ⟨rfl,_,_,_,_,_,rfl,by lia,h2,h3,by lia,by lia,M1⟩
  case post1=>
   rintro c st' ⟨rfl,⟨na',nb',out,ac,bc,rfl,h1,h2,h3,h4,h5,M⟩ | ⟨r,z,rfl,hW⟩⟩
   ·dsimp only
    refine au (zdr ?_)
    refine au (wpS_mono (ce (I:=fun y c st'=>(∃ g,st'=zcp st g)/\∃ na' nb' out mg ac bc,c=(ab,na',nb',out,mg,ac,bc)/\na'+nb'+1<=na+nb/\1<=na'/\na'<a.size/\2<=nb'/\nb'<=b.size/\Mh rk (a.toList ++ b.toList) out (a.toList.take na' ++ b.toList.take nb'))
     (Q:=fun c st'=>(∃ g,st'=zcp st g)/\((∃ na' nb' out mg ac bc,c=(ab,na',nb',out,mg,ac,bc)/\na'+nb'+1<=na+nb/\1<=na'/\na'<a.size/\2<=nb'/\nb'<=b.size/\Mh rk (a.toList ++ b.toList) out (a.toList.take na' ++ b.toList.take nb')) \/ ∃ r z,c=(aa r,z)/\zeg rk a b r)) ?step2 ?fin2 ⟨⟨g,rfl⟩,_,_,_,_,_,_,rfl,h1,h2,h3,h4,h5,M⟩) ?post2)
    case fin2=>
     rintro c st' ⟨hg,z⟩
     exact⟨hg,.inl z⟩
    case post2=>
     rintro c st' ⟨⟨g,rfl⟩,⟨na',nb',out,mg,ac,bc,rfl,h1,h2,h3,h4,h5,M⟩ | ⟨r,z,rfl,hW⟩⟩
     ·dsimp only
      exact au (zf4 (aC ⟨⟨_,rfl⟩,_,_,_,_,rfl,by lia,h2,h3,h4,h5,M⟩))
     ·exact aC ⟨⟨_,rfl⟩,_,_,rfl,hW⟩
    case step2=>
     clear h1 h2 h3 h4 h5 M
     rintro y c st' _ hy ⟨⟨g,rfl⟩,na',nb',out,mg,ac,bc,rfl,h1,h2,h3,h4,h5,M⟩
     dsimp only
     have kb:nb' - 1<b.size:=by lia
     generalize mg - 1=mg'
     revert mg'
     refine zin ?_
     intro g'
     refine au (zf4 ?_)
     refine au (zby kb ?_)
     refine au (zf9 R hk hDa (hDb _ (bx kb)) (by lia) (by lia) (sa.mono (aO _) (by lia)) fun k k1 k2 k3=>?_)
     rw[<- zcE (rk:=rk) kb] at k2 k3
     simp only[bq] at k2 k3
     have M1:=M.runA (k:=k) k1 (by lia) sa (fun x y x1 x2 y1 y2=>aJ (sb y (nb' - 1) (aO _) (by lia) kb) (bH (k3 x x1 x2)))
     have k4:∀ y,y<k->y<a.size->kA rk a y<=kA rk b (nb' - 1):=fun y y1 y2=>k2 y (aO _) y1
     have z0:¬ na' - k > 0->k=na'/\out ++ (a.extract k na').reverse=out:=fun e=>by
      have:k=na':=by lia
      subst this
      rw[zd8,i3,dR]
      exact⟨rfl,rfl⟩
     clear k2 k3
     dsimp only
     generalize na' - k=ac1 at z0 ⊢
     generalize hx2:k=x2
     generalize ho1:out ++ (a.extract x2 na').reverse=o1
     revert o1 x2
     refine zhY (fun o1 x2 e1 e2 _ he=>?_) fun o2 j2 hz=>?_
     ·subst e1
      subst e2
      exact aC ⟨⟨_,rfl⟩,.inr ⟨_,_,rfl,M1.finA sa sb (by simpa using he) h5⟩⟩
     have hz':o2=out ++ (a.extract k na').reverse/\j2=k/\¬ j2=0:=by
      rcases hz with ⟨_,e1,e2,he⟩ | ⟨he,e1,e2⟩
      ·subst e1
       exact⟨e2.symm,rfl,by simpa using he⟩
      ·obtain⟨q1,q2⟩:=z0 he
       rw[q2]
       exact⟨e1,by lia,by lia⟩
     clear hz z0
     obtain⟨e1,e2,he⟩:=hz'
     subst e2
     rw[<- e1] at M1
     have ka:j2 - 1<a.size:=by lia
     have hj2:j2<=na':=k1
     clear e1 k1
     refine au (zby kb ?_)
     have M2:=(M1.swap.oneA (by lia) kb sb k4).swap
     by_cases he2:nb' - 1=1
     ·rw[if_pos (by simpa using he2)]
      exact aC ⟨⟨_,rfl⟩,.inr ⟨_,_,rfl,M2.finB sa sb he2 hb (by lia) h0⟩⟩
     rw[if_neg (by simpa using he2)]
     refine au (zby ka ?_)
     refine au (zgc R hk hDb (hDa _ (bx ka)) (by lia) (by lia) (sb.mono (aO _) (by lia)) fun l l1 l2 l3=>?_)
     rw[<- zcE (rk:=rk) ka] at l2 l3
     simp only[bq] at l2 l3
     have hl1:1<=l:=by
      refine fN fun hc=>?_
      have e1:=l3 0 (by lia) (by lia)
      have e2:=sa 0 (j2 - 1) (ak _) (aO _) ka
      lia
     have M3:=(M2.swap.runA (k:=l) l1 (by lia) sb (fun x y x1 x2 y1 y2=>aJ (sa y (j2 - 1) (aO _) (by lia) ka) (l3 x x1 x2))).swap
     have l4:∀ y,y<l->y<b.size->kA rk b y<=kA rk a (j2 - 1):=fun y y1 y2=>bH (l2 y (aO _) y1)
     generalize o2.push b[nb' - 1]=o3 at M3 ⊢
     have z0:¬ nb' - 1 - l > 0->l=nb' - 1/\o3 ++ (b.extract l (nb' - 1)).reverse=o3:=fun e=>by
      have:l=nb' - 1:=by lia
      subst this
      rw[zd8,i3,dR]
      exact⟨rfl,rfl⟩
     clear l2 l3 M2 M1
     dsimp only
     generalize nb' - 1 - l=bc1 at z0 ⊢
     generalize hx4:l=x4
     generalize ho4:o3 ++ (b.extract x4 (nb' - 1)).reverse=o4
     revert o4 x4
     refine zg0 (fun x4 e1 _=>by subst e1;simp;lia) (fun o4 x4 e1 e2 _ he=>?_) fun o5 j5 hz=>?_
     ·subst e1
      subst e2
      exact aC ⟨⟨_,rfl⟩,.inr ⟨_,_,rfl,M3.finB sa sb (by simpa using he) hb (by lia) h0⟩⟩
     have hz':o5=o3 ++ (b.extract l (nb' - 1)).reverse/\j5=l/\¬ j5=1:=by
      rcases hz with ⟨_,e1,e2,he⟩ | ⟨he,e1,e2⟩
      ·subst e1
       exact⟨e2.symm,rfl,by simpa using he⟩
      ·obtain⟨q1,q2⟩:=z0 he
       rw[q2]
       exact⟨e1,by lia,by lia⟩
     clear hz z0
     obtain⟨e1,e2,he3⟩:=hz'
     subst e2
     rw[<- e1] at M3
     refine au (zby ka ?_)
     have M4:=M3.oneA (by lia) ka sa l4
     split
     ·rename_i he4
      exact aC ⟨⟨_,rfl⟩,.inr ⟨_,_,rfl,M4.finA sa sb (by simpa using he4) (by lia)⟩⟩
     ·rename_i he4
      have he5:¬ j2 - 1=0:=fun e=>he4 (beq_iff_eq.mpr e)
      have b1:j2 - 1+j5+1<=na+nb:=by lia
      have b2:1<=j2 - 1:=by lia
      have b3:2<=j5:=by lia
      have b4:j5<=b.size:=by lia
      split
      ·exact aC ⟨⟨_,rfl⟩,.inl ⟨_,_,_,_,_,_,rfl,b1,b2,ka,b3,b4,M4⟩⟩
      ·exact aC ⟨⟨_,rfl⟩,_,_,_,_,_,_,rfl,b1,b2,ka,b3,b4,M4⟩
   ·exact aC ⟨⟨_,rfl⟩,_,_,rfl,hW⟩
end
end L2

namespace L2
open PySem PySem.Spec PyProof.Rows
section
variable {prog:aL}{w:aX}{A:aS}{E:ae->ag->Prop}{s:ag}{kd:SortKind}{D:Keyed->Prop}{rk:Keyed->Nat}{st:SortSt}{a₀:Array Keyed}
structure Sb(kd:SortKind)(a₀:Array Keyed)(st:SortSt):Prop where
 perm:(arrOf st).toList.Perm a₀.toList
 kind:kindOf st=kd
 failed:failedOf st=ab
theorem Sb.size(h:Sb kd a₀ st):(arrOf st).size=a₀.size:=by have:=h.perm.length_eq;simpa using this
theorem Sb.all(h:Sb kd a₀ st)(hD:∀ x ∈ a₀,D x):∀ x ∈ arrOf st,D x:=fun x hx=>hD x (c8.mp (h.perm.mem_iff.mp (c8.mpr hx)))
abbrev Run:=Nat × Nat × Nat
def Runs(rk:Keyed->Nat)(arr:Array Keyed):List Run->Nat->Nat->Prop
 | [],lo,hi=>lo=hi
 | (s,n,_) :: ps,lo,hi=>s=lo/\1<=n/\Up rk arr lo (lo+n)/\Runs rk arr ps (lo+n) hi
theorem Runs.le{arr:Array Keyed}:∀ {ps:List Run} {lo hi:Nat},Runs rk arr ps lo hi->lo+ps.length<=hi
 | [],_,_,h=>by cases h;exact ak _
 | (_,n,_) :: ps,lo,hi,⟨_,h1,_,h⟩=>by have:=h.le;rw[aI];lia
theorem Up.congr{arr arr':Array Keyed}{lo hi:Nat}(h:Up rk arr lo hi)(e:∀ i,lo<=i->i<hi->kA rk arr' i=kA rk arr i):Up rk arr' lo hi:=fun i j h1 h2 h3=>by
 rw[e i h1 (by lia),e j (by lia) h3];exact h i j h1 h2 h3
theorem Runs.congr{arr arr':Array Keyed}:∀ {ps:List Run} {lo hi:Nat},Runs rk arr ps lo hi->(∀ i,lo<=i->i<hi->kA rk arr' i=kA rk arr i)->Runs rk arr' ps lo hi
 | [],_,_,h,_=>h
 | (_,n,_) :: ps,lo,hi,⟨h0,h1,h2,h⟩,e=>by
  have l:=h.le
  exact⟨h0,h1,h2.congr fun i a b=>e i a (by lia),h.congr fun i a b=>e i (by lia) b⟩
theorem Runs.split{arr:Array Keyed}:∀ {ps qs:List Run} {lo hi:Nat},Runs rk arr (ps ++ qs) lo hi->∃ m,Runs rk arr ps lo m/\Runs rk arr qs m hi
 | [],_,lo,_,h=>⟨lo,rfl,h⟩
 | (_,_,_) :: ps,qs,_,_,⟨h0,h1,h2,h⟩=>by
  obtain⟨m,e1,e2⟩:=Runs.split (ps:=ps) h
  exact⟨m,⟨h0,h1,h2,e1⟩,e2⟩
theorem Runs.join{arr:Array Keyed}:∀ {ps qs:List Run} {lo m hi:Nat},Runs rk arr ps lo m->Runs rk arr qs m hi->Runs rk arr (ps ++ qs) lo hi
 | [],_,_,_,_,h,h'=>by cases h;exact h'
 | (_,_,_) :: _,_,_,_,_,⟨h0,h1,h2,h⟩,h'=>⟨h0,h1,h2,h.join h'⟩
theorem zfA{xs:Array Keyed}{lo k i:Nat}(hk:k<=xs.size)(hi:lo+i<k):kA rk (xs.extract lo k) i=kA rk xs (lo+i):=by
 have h1:i<(xs.extract lo k).size:=by rw[zc2 hk];exact Nat.lt_sub_of_add_lt (d9 lo i ▸ hi)
 rw[zcE h1,zcE (aZ hi hk),dq]
theorem zh2{lo:Nat}:∀ (l:List Keyed) (n:Nat) (xs:Array Keyed),lo+n+l.length<=xs.size ->
  ((l.zipIdx n).foldl (fun a (p:Keyed × Nat)=>a.setIfInBounds (lo+p.2) p.1) xs).toList=xs.toList.take (lo+n) ++ l ++ xs.toList.drop (lo+n+l.length)
 | [],n,xs,_=>by simp
 | p :: l,n,xs,h=>by
  rw[aI] at h
  rw[List.zipIdx_cons,cc,zh2 l (n+1) _ (by rw[Array.size_setIfInBounds];lia)]
  have hl:lo+n<xs.toList.length:=by rw[ax];lia
  have ht:(xs.toList.take (lo+n)).length=lo+n:=by rw[bB];lia
  have e0:xs.toList.drop (lo+n+(l.length+1))=(xs.toList.drop (lo+n+1)).drop l.length:=by rw[j6];congr 1;lia
  dsimp only
  rw[gD,aI,List.set_eq_take_append_cons_drop,if_pos hl,e0]
  generalize xs.toList.take (lo+n)=T at ht ⊢
  generalize xs.toList.drop (lo+n+1)=r
  have e1:T ++ p :: r=(T ++ [p]) ++ r:=by simp
  have e2:lo+(n+1)=(T ++ [p]).length:=by simp;lia
  rw[e1,e2,List.take_left' rfl,List.drop_append,fG (by lia),show(T ++ [p]).length+l.length - (T ++ [p]).length=l.length by lia]
  simp
theorem set_at{xs m:Array Keyed}{lo:Nat}(h:lo+m.size<=xs.size)(r:Array Keyed)(hr:r.toList=xs.toList.take lo ++ m.toList ++ xs.toList.drop (lo+m.size))(j:Nat):kA rk r j=if lo<=j/\j<lo+m.size then kA rk m (j - lo) else kA rk xs j:=by
 have ht:(xs.toList.take lo).length=lo:=by rw[bB,ax];lia
 unfold kA
 rw[<- bV,hr,<- bV (xs:=m),<- bV (xs:=xs)]
 by_cases h1:j<lo
 ·rw[if_neg (by lia),bG,b6 (by lia),c9 h1]
 ·rw[bG,cD (by lia),ht]
  by_cases h2:j<lo+m.size
  ·rw[if_pos ⟨by lia,h2⟩,b6 (by rw[ax];lia)]
  ·rw[if_neg (by lia),cD (by rw[ax];lia),gw,ax]
   congr 3
   lia
theorem set_perm{xs m:Array Keyed}{lo hi:Nat}(h:lo<=hi)(hm:m.toList.Perm (xs.extract lo hi).toList)(hs:hi<=xs.size)(r:Array Keyed)(hr:r.toList=xs.toList.take lo ++ m.toList ++ xs.toList.drop (lo+m.size)):r.toList.Perm xs.toList:=by
 have e:m.size=hi - lo:=by
  have:=hm.length_eq
  rw[ax,ax,zc2 hs] at this
  exact this
 have e2:xs.toList=xs.toList.take lo ++ (xs.extract lo hi).toList ++ xs.toList.drop (lo+m.size):=by
  rw[bG,e,show lo+(hi - lo)=hi by lia,<- zdT h,ef]
 rw[hr]
 conv=>rhs;rw[e2]
 exact(hm.append_left _).append_right _
theorem up_merged{arr r m:Array Keyed}{sa mid k nb l:Nat}(hs:mid+nb<=arr.size)(hk:sa+k<mid)(hl:l<=nb)(h0:1<=l)(ua:Up rk arr sa mid)(ub:Up rk arr mid (mid+nb))
  (k2:∀ i,sa<=i->i<sa+k->kA rk arr i<=kA rk arr mid) (k3:∀ i,sa+k<=i->i<mid->kA rk arr mid<kA rk arr i)
  (l2:∀ i,mid<=i->i<mid+l->kA rk arr i<kA rk arr (mid - 1)) (l3:∀ i,mid+l<=i->i<mid+nb->kA rk arr (mid - 1)<=kA rk arr i)
  (hm:m.toList.Perm ((arr.extract (sa+k) mid).toList ++ (arr.extract mid (mid+l)).toList)) (hu:m.toList.Pairwise fun x y=>rk x<=rk y)
  (hr:∀ j,kA rk r j=if sa+k<=j/\j<mid+l then kA rk m (j - (sa+k)) else kA rk arr j):Up rk r sa (mid+nb):=by
 have hz:m.size=mid+l - (sa+k):=by
  have:=hm.length_eq
  rw[ay,ax,ax,ax,zc2 (by lia),zc2 (by lia)] at this
  lia
 have bd:∀ j,j<m.size->kA rk arr mid<=kA rk m j/\kA rk m j<=kA rk arr (mid - 1):=by
  intro j hj
  rw[zcE hj]
  have hx:m[j] ∈ (arr.extract (sa+k) mid).toList ++ (arr.extract mid (mid+l)).toList:=hm.mem_iff.mp (c8.mpr (bx hj))
  rcases bu.mp hx with hx | hx
  ·obtain⟨p,p1,p2,p3,p4⟩:=zeW (rk:=rk) hx
   rw[<- p4]
   exact⟨bH (k3 p p1 p2),ua p (mid - 1) (by lia) (by lia) (by lia)⟩
  ·obtain⟨p,p1,p2,p3,p4⟩:=zeW (rk:=rk) hx
   rw[<- p4]
   exact⟨ub mid p (ak _) p1 (by lia),bH (l2 p p1 p2)⟩
 intro i j h1 h2 h3
 rw[hr i,hr j]
 by_cases c1:i<sa+k
 ·rw[if_neg (by lia)]
  by_cases c2:j<sa+k
  ·rw[if_neg (by lia)]
   exact ua i j h1 h2 (by lia)
  ·by_cases c3:j<mid+l
   ·rw[if_pos ⟨by lia,c3⟩]
    exact aJ (k2 i h1 c1) (bd _ (by lia)).1
   ·rw[if_neg (by lia)]
    exact aJ (k2 i h1 c1) (ub mid j (ak _) (by lia) h3)
 ·by_cases c2:i<mid+l
  ·rw[if_pos ⟨by lia,c2⟩]
   by_cases c3:j<mid+l
   ·rw[if_pos ⟨by lia,c3⟩,zcE (by lia),zcE (by lia)]
    by_cases e:i=j
    ·subst e;exact ak _
    ·exact cH.mp hu _ _ (by rw[ax];lia) (by rw[ax];lia) (by lia)
   ·rw[if_neg (by lia)]
    exact aJ (bd _ (by lia)).2 (l3 j (by lia) h3)
  ·rw[if_neg (by lia),if_neg (by lia)]
   exact ub i j (by lia) h2 h3
theorem wpS_mgAt(R:Rk prog w A s kd D rk){Q:Bool->SortSt->Prop}{hi:Nat}{pre post:List Run}{sa na pw sb nb pw':Nat}(B:Sb kd a₀ st)(hD:∀ x ∈ a₀,D x)(hp:(bn st).toList=pre ++ (sa,na,pw) :: (sb,nb,pw') :: post)(hr:Runs rk (arrOf st) (bn st).toList 0 hi)(hh:hi<=a₀.size)
  (h:∀ st',Sb kd a₀ st'->(bn st').toList=pre ++ (sa,na+nb,pw) :: post->Runs rk (arrOf st') (bn st').toList 0 hi->(∀ j,hi<=j->kA rk (arrOf st') j=kA rk (arrOf st) j)->Q true st'):wpS (model prog w) A E s (mergeAt' pre.length) Q st:=by
 have g1:(bn st)[pre.length]? = aa (sa,na,pw):=by
  rw[<- bV,hp];simp
 have g2:(bn st)[pre.length+1]? = aa (sb,nb,pw'):=by
  rw[<- bV,hp];simp
 have hp1:(((bn st).setIfInBounds pre.length (sa,na+nb,pw)).eraseIdxIfInBounds (pre.length+1)).toList=pre ++ (sa,na+nb,pw) :: post:=by
  rw[Array.toList_eraseIdxIfInBounds,gD,hp,iK _ _ (ak _),List.eraseIdx_append_of_length_le (cE _),jd,show pre.length+1 - pre.length=1 by lia]
  rfl
 have hr0:=hr
 rw[hp] at hr0
 obtain⟨m,r1,rfl,n1,u1,rfl,n2,u2,r2⟩:=hr0.split
 have hz:=B.size
 have l1:=r2.le
 have hd:=B.all hD
 have fin:∀ (arr':Array Keyed) (g:Nat),arr'.toList.Perm (arrOf st).toList->Up rk arr' sa (sa+(na+nb))->(∀ j,¬ (sa<=j/\j<sa+(na+nb))->kA rk arr' j=kA rk (arrOf st) j) ->
   Q true (eX (kindOf st) arr' (((bn st).setIfInBounds pre.length (sa,na+nb,pw)).eraseIdxIfInBounds (pre.length+1)) g (failedOf st)):=by
  intro arr' g e1 e2 e3
  refine h _ ⟨e1.trans B.perm,B.kind,B.failed⟩ hp1 ?_ (fun j hj=>e3 j (by lia))
  show Runs rk arr' (((bn st).setIfInBounds pre.length (sa,na+nb,pw)).eraseIdxIfInBounds (pre.length+1)).toList 0 hi
  rw[hp1]
  refine(r1.congr fun i _ hi=>e3 i (by lia)).join ⟨rfl,by lia,e2,?_⟩
  rw[show sa+(na+nb)=sa+na+nb by lia]
  exact r2.congr fun i hi _=>e3 i (by lia)
 refine au (wpS_get ?_)
 dsimp only
 rw[g1,g2]
 dsimp only
 refine au (wpS_set ?_)
 have hsb:sa+na<(arrOf st).size:=by lia
 refine au (zby hsb ?_)
 refine au (zf9 (arr:=arrOf st) R B.kind hd (hd _ (bx hsb)) (by lia) (by lia) u1 fun k k1 k2 k3=>?_)
 rw[<- zcE (rk:=rk) hsb] at k2 k3
 dsimp only
 by_cases hk0:na - k=0
 ·rw[if_pos (by simpa using hk0)]
  have hk0':k=na:=by lia
  subst hk0'
  refine aC (fin _ _ (.refl _) (fun i j h1 h2 h3=>?_) fun _ _=>rfl)
  by_cases c1:j<sa+k
  ·exact u1 i j h1 h2 c1
  ·by_cases c2:i<sa+k
   ·exact aJ (k2 i h1 c2) (u2 _ j (ak _) (by lia) (by lia))
   ·exact u2 i j (by lia) h2 (by lia)
 rw[if_neg (by simpa using hk0)]
 have hsl:sa+k+(na - k) - 1<(arrOf st).size:=by lia
 refine au (zby hsl ?_)
 refine au (zgc (arr:=arrOf st) R B.kind hd (hd _ (bx hsl)) (by lia) (by lia) u2 fun l l1 l2 l3=>?_)
 rw[<- zcE (rk:=rk) hsl] at l2 l3
 rw[show sa+k+(na - k) - 1=sa+na - 1 by lia] at l2 l3
 have hl0:1<=l:=by
  refine fN fun hc=>?_
  have e1:=l3 (sa+na) (by lia) (by lia)
  have e2:=k3 (sa+na - 1) (by lia) (by lia)
  lia
 dsimp only
 rw[if_neg (by simp;lia)]
 have q1:sa+na<=(arrOf st).size:=bH hsb
 have q2:sa+na+l<=(arrOf st).size:=by lia
 have zx:=zc2 (lo:=sa+k) q1
 have zy:=zc2 (lo:=sa+na) q2
 have q3:sa+k<sa+na:=by lia
 have wr:∀ (m:Array Keyed) (g:Nat),m.toList.Perm (((arrOf st).extract (sa+k) (sa+na)).toList ++ ((arrOf st).extract (sa+na) (sa+na+l)).toList)->(m.toList.Pairwise fun x y=>rk x<=rk y) ->
   Q true (eX (kindOf st) (m.toList.zipIdx.foldl (fun a (p:Keyed × Nat)=>a.setIfInBounds (sa+k+p.2) p.1) (arrOf st)) (((bn st).setIfInBounds pre.length (sa,na+nb,pw)).eraseIdxIfInBounds (pre.length+1)) g (failedOf st)):=by
  intro m g hm hu
  have hz:m.size=na+l - k:=by
   have:=hm.length_eq
   rw[ay,ax,ax,ax,zx,zy] at this
   lia
  have hf:=zh2 (lo:=sa+k) m.toList 0 (arrOf st) (by rw[ax];lia)
  rw[g5,ax] at hf
  have hj:=fun j=>set_at (rk:=rk) (xs:=arrOf st) (m:=m) (by lia) _ hf j
  have hm2:m.toList.Perm ((arrOf st).extract (sa+k) (sa+na+l)).toList:=by
   refine hm.trans (.of_eq ?_)
   have e1:=zdT (xs:=arrOf st) (i:=sa+k) (k:=sa+na) (by lia)
   have e2:=zdT (xs:=arrOf st) (i:=sa+na) (k:=sa+na+l) (by lia)
   have e3:=zdT (xs:=arrOf st) (i:=sa+k) (k:=sa+na+l) (by lia)
   rw[e1,e2,<- bG] at e3
   exact List.append_cancel_right e3
  refine fin _ g (set_perm (by lia) hm2 (by lia) _ hf) ?_ (fun j hj'=>?_)
  ·rw[show sa+(na+nb)=sa+na+nb by lia]
   refine up_merged (k:=k) (l:=l) (by lia) (by lia) l1 hl0 u1 u2 k2 k3 l2 l3 hm hu fun j=>?_
   rw[hj j,hz,show sa+k+(na+l - k)=sa+na+l by lia]
  ·rw[hj j,if_neg (by lia)]
 have ud:∀ {lo hi:Nat},hi<=(arrOf st).size->Up rk (arrOf st) lo hi->Up rk ((arrOf st).extract lo hi) 0 ((arrOf st).extract lo hi).size:=fun {lo hi} hh u i j _ h2 h3=>by
  rw[zc2 hh] at h3
  have h4:lo+j<hi:=d9 lo j ▸ dA h3
  rw[zfA hh (eU (dJ h2 _) h4),zfA hh h4]
  exact u _ _ (eH _ _) (dJ h2 _) h4
 have ux:=ud q1 (u1.mono (eH sa k) (ak _))
 have uy:=ud q2 (u2.mono (ak _) (dJ l1 _))
 have x0:kA rk ((arrOf st).extract (sa+na) (sa+na+l)) 0<kA rk ((arrOf st).extract (sa+k) (sa+na)) 0:=by
  rw[zfA (lo:=sa+na) (i:=0) q2 (Nat.lt_add_of_pos_right hl0),zfA (lo:=sa+k) (i:=0) q1 q3]
  exact k3 _ (ak _) q3
 have xl:∀ y,y<((arrOf st).extract (sa+na) (sa+na+l)).size->kA rk ((arrOf st).extract (sa+na) (sa+na+l)) y<kA rk ((arrOf st).extract (sa+k) (sa+na)) (((arrOf st).extract (sa+k) (sa+na)).size - 1):=fun y hy=>by
  rw[zy] at hy
  have hy':sa+na+y<sa+na+l:=d9 (sa+na) y ▸ dA hy
  have e:sa+k+(sa+na - (sa+k) - 1)=sa+na - 1:=by lia
  rw[zx,zfA q2 hy',zfA q1 (by lia),e]
  exact l2 _ (eH _ _) hy'
 have dx:∀ {lo hi:Nat},∀ x ∈ (arrOf st).extract lo hi,D x:=fun x hx=>by
  obtain⟨i,hi,rfl⟩:=Array.mem_iff_getElem.mp hx
  rw[dq]
  exact hd _ (bx _)
 have sx:1<=((arrOf st).extract (sa+k) (sa+na)).size:=by rw[zx];exact Nat.sub_pos_of_lt q3
 have sy:1<=((arrOf st).extract (sa+na) (sa+na+l)).size:=by rw[zy,dO];exact hl0
 have done:∀ (m:Array Keyed) (g:Nat),m.toList.Perm (((arrOf st).extract (sa+k) (sa+na)).toList ++ ((arrOf st).extract (sa+na) (sa+na+l)).toList)->(m.toList.Pairwise fun x y=>rk x<=rk y) ->
   Q (failedOf st).isNone (eX (kindOf st) (m.toList.zipIdx.foldl (fun a (p:Keyed × Nat)=>a.setIfInBounds (sa+k+p.2) p.1) (arrOf st)) (((bn st).setIfInBounds pre.length (sa,na+nb,pw)).eraseIdxIfInBounds (pre.length+1)) g (failedOf st)):=by
  rw[B.failed]
  have:=wr
  rw[B.failed] at this
  exact this
 split
 ·refine au (wpS_mgLo R B.kind dx dx ux uy sx sy (bH x0) xl fun out g hp hu=>?_)
  refine au (wpS_modify ?_)
  refine au (wpS_get ?_)
  exact aC (done out g hp hu)
 ·refine au (wpS_mgHi R B.kind dx dx ux uy sx sy x0 xl fun out g hp hu=>?_)
  refine au (wpS_modify ?_)
  refine au (wpS_get ?_)
  exact aC (done out g hp hu)
end
end L2

namespace L2
open PySem PySem.Spec PyProof.Rows
section
variable {prog:aL}{w:aX}{A:aS}{E:ae->ag->Prop}{s:ag}{kd:SortKind}{D:Keyed->Prop}{rk:Keyed->Nat}{st:SortSt}{a₀:Array Keyed}
theorem zea(R:Rk prog w A s kd D rk){i j:Nat}{Q:Option Bool->SortSt->Prop}(B:Sb kd a₀ st)(hD:∀ x ∈ a₀,D x)(hi:i<a₀.size)(hj:j<a₀.size)(h:Q (aa (decide (kA rk (arrOf st) i<kA rk (arrOf st) j))) st):wpS (model prog w) A E s (ltAt' i j) Q st:=by
 rw[<- B.size] at hi hj
 have hd:=B.all hD
 refine au (wpS_get ?_)
 refine au (zby hi ?_)
 refine au (zby hj ?_)
 refine wpS_q R B.kind (hd _ (bx hi)) (hd _ (bx hj)) ?_
 rw[<- zcE (rk:=rk) hi,<- zcE (rk:=rk) hj]
 exact h
structure Kp(rk:Keyed->Nat)(kd:SortKind)(a₀:Array Keyed)(lo:Nat)(st st':SortSt):Prop where
 sb:Sb kd a₀ st'
 pend:bn st'=bn st
 left:∀ j,j<lo->kA rk (arrOf st') j=kA rk (arrOf st) j
theorem kA_of{xs ys:Array Keyed}{i j:Nat}(h:xs[i]? = ys[j]?):kA rk xs i=kA rk ys j:=by unfold kA;rw[h]
theorem zil{xs:Array Keyed}{i j:Nat}(hj:j<=xs.size)(k:Nat):kA rk (mirror xs i j ((j - i) / 2)) k=if i<=k/\k<j then kA rk xs (i+j - 1 - k) else kA rk xs k:=by
 have e:=getElem?_mirror_all (i:=i) hj k
 split at e
 ·rename_i c;rw[if_pos c];exact kA_of e
 ·rename_i c;rw[if_neg c];exact kA_of e
theorem kA_bub{xs:Array Keyed}{src d:Nat}(hs:src<xs.size)(hd:d<=src)(k:Nat):kA rk (bubble xs src d) k=if k=src - d then kA rk xs src else if src - d<k/\k<=src then kA rk xs (k - 1) else kA rk xs k:=by
 have e:=getElem?_bubble hs d hd k
 split at e
 ·rename_i c;rw[if_pos c];exact kA_of e
 ·rename_i c
  rw[if_neg c]
  split at e
  ·rename_i c;rw[if_pos c];exact kA_of e
  ·rename_i c;rw[if_neg c];exact kA_of e
theorem Kp.set{lo:Nat}{st':SortSt}(K:Kp rk kd a₀ lo st st'){xs:Array Keyed}(hp:xs.toList.Perm (arrOf st').toList)(hl:∀ j,j<lo->kA rk xs j=kA rk (arrOf st') j):Kp rk kd a₀ lo st (setArr st' xs):=
 ⟨⟨hp.trans K.sb.perm,K.sb.kind,K.sb.failed⟩,K.pend,fun j hj=>(hl j hj).trans (K.left j hj)⟩
theorem Kp.mir{lo i j:Nat}{st':SortSt}(K:Kp rk kd a₀ lo st st')(hi:lo<=i)(hj:j<=a₀.size):Kp rk kd a₀ lo st (setArr st' (mirror (arrOf st') i j ((j - i) / 2))):=
 K.set (gF.mp (mirror_perm _ _ _ _)) fun k hk=>by rw[zil (by rw[K.sb.size];exact hj),if_neg (by lia)]
theorem Up.more{arr:Array Keyed}{lo n:Nat}(h:Up rk arr lo (lo+n))(hn:1<=n)(hx:kA rk arr (lo+n - 1)<=kA rk arr (lo+n)):Up rk arr lo (lo+(n+1)):=fun i j h1 h2 h3=>by
 by_cases c:j<lo+n
 ·exact h i j h1 h2 c
 ·have:j=lo+n:=by lia
  subst this
  by_cases e:i=lo+n
  ·subst e;exact ak _
  ·exact aJ (h i (lo+n - 1) h1 (by lia) (by lia)) hx
theorem wpS_asc{lo a nrem:Nat}{f:Nat->Option (Option Nat) × Nat->StateT SortSt Sem (ForInStep (Option (Option Nat) × Nat))}{Q:Option (Option Nat) × Nat->SortSt->Prop}(ha:1<=a)(han:a<=nrem)(hu:Up rk (arrOf st) lo (lo+a))
  (hf:∀ x n (P:ForInStep (Option (Option Nat) × Nat)->SortSt->Prop),1<=n->n<nrem->(kA rk (arrOf st) (lo+n)<kA rk (arrOf st) (lo+n - 1)->P (.done (ab,n)) st)->(¬ kA rk (arrOf st) (lo+n)<kA rk (arrOf st) (lo+n - 1)->P (.yield (ab,n+1)) st)->wpS (model prog w) A E s (f x (ab,n)) P st)
  (h:∀ n,a<=n->n<=nrem->Up rk (arrOf st) lo (lo+n)->(n=nrem \/ kA rk (arrOf st) (lo+n)<kA rk (arrOf st) (lo+n - 1))->Q (ab,n) st):wpS (model prog w) A E s (forIn [a:nrem] (ab,a) f) Q st:=by
 refine ce (I:=fun x c st'=>st'=st/\c=(ab,x)/\Up rk (arrOf st) lo (lo+x)) ?_ ?_ ⟨rfl,rfl,hu⟩
 ·rintro x c st' x1 x2 ⟨rfl,rfl,u⟩
  exact hf x x _ (by lia) x2 (fun hl=>h x x1 (by lia) u (.inr hl)) fun hl=>⟨rfl,rfl,u.more (by lia) (by lia)⟩
 ·rintro c st' ⟨rfl,rfl,u⟩
  rw[show max a nrem=nrem by lia] at u ⊢
  exact h nrem han (ak _) u (.inl rfl)
def Dn(rk:Keyed->Nat)(xs:Array Keyed)(lo hi:Nat):Prop:=∀ i j,lo<=i->i<=j->j<hi->kA rk xs j<=kA rk xs i
theorem Dn.more{arr:Array Keyed}{lo n:Nat}(h:Dn rk arr lo (lo+n))(hn:1<=n)(hx:kA rk arr (lo+n)<=kA rk arr (lo+n - 1)):Dn rk arr lo (lo+(n+1)):=fun i j h1 h2 h3=>by
 by_cases c:j<lo+n
 ·exact h i j h1 h2 c
 ·have:j=lo+n:=by lia
  subst this
  by_cases e:i=lo+n
  ·subst e;exact ak _
  ·exact aJ hx (h i (lo+n - 1) h1 (by lia) (by lia))
theorem zdp{xs:Array Keyed}{i j:Nat}(hj:j<=xs.size)(he:∀ k,i<=k->k<j->kA rk xs k=kA rk xs (j - 1))(k:Nat):kA rk (mirror xs i j ((j - i) / 2)) k=kA rk xs k:=by
 rw[zil hj]
 split
 ·rw[he _ (by lia) (by lia),he k (by lia) (by lia)]
 ·rfl
theorem Dn.turn{xs:Array Keyed}{lo m:Nat}(d:Dn rk xs lo (lo+m))(hz:lo+m<=xs.size):Up rk (mirror xs lo (lo+m) ((lo+m - lo) / 2)) lo (lo+m):=fun i j a b c=>by
 rw[zil hz i,zil hz j,if_pos ⟨a,by lia⟩,if_pos ⟨by lia,c⟩]
 exact d _ _ (by lia) (by lia) (by lia)
theorem zfV{i j:Nat}{Q:Unit->SortSt->Prop}(h:Q () (setArr st (mirror (arrOf st) i j ((j - i) / 2)))):wpS (model prog w) A E s (reverseSlice' i j) Q st:=wpS_modify h
theorem wpS_run(R:Rk prog w A s kd D rk){lo nrem:Nat}{Q:Option Nat->SortSt->Prop}(B:Sb kd a₀ st)(hD:∀ x ∈ a₀,D x)(hn:lo+nrem<=a₀.size)(h1:1<=nrem)
  (h:∀ m st',Kp rk kd a₀ lo st st'->1<=m->m<=nrem->Up rk (arrOf st') lo (lo+m)->Q (aa m) st'):wpS (model prog w) A E s (countRun' lo nrem) Q st:=by
 have hK:Kp rk kd a₀ lo st st:=⟨B,rfl,fun _ _=>rfl⟩
 refine au (wpS_asc (rk:=rk) (lo:=lo) (ak 1) h1 (fun i j a b c=>(show i=j by lia) ▸ ak _) ?_ fun n n1 n2 u hor=>?_)
 ·intro x n P n1 n2 p1 p2
  refine au (zea R B hD (by lia) (by lia) ?_)
  dsimp only
  split
  ·rename_i hl;exact aC (p1 (by simpa using hl))
  ·rename_i hl;exact aC (p2 (by simpa using hl))
 dsimp only
 by_cases hnn:n=nrem
 ·rw[if_pos (by simpa using hnn)]
  exact aC (h n st hK n1 n2 u)
 rw[if_neg (by simpa using hnn)]
 have hlt:=hor.resolve_left hnn
 have up1:∀ m,Dn rk (arrOf st) lo (lo+n)->m=n+1->Dn rk (arrOf st) lo (lo+m):=fun m d e=>by
  subst e
  exact d.more n1 (bH hlt)
 by_cases hgt:n > 1
 rw[if_pos hgt]
 refine au (zea R B hD (by lia) (by lia) ?_)
 dsimp only
 by_cases hro:kA rk (arrOf st) lo<kA rk (arrOf st) (lo+n - 1)
 rw[decide_eq_true hro,if_pos rfl]
 exact aC (h n st hK n1 n2 u)
 rw[decide_eq_false hro,if_neg (by simp)]
 have hall:∀ k,lo<=k->k<lo+n->kA rk (arrOf st) k=kA rk (arrOf st) (lo+n - 1):=fun k k1 k2=>by
  have e1:=u lo k (ak _) k1 k2
  have e2:=u k (lo+n - 1) k1 (by lia) (by lia)
  lia
 refine au (zfV ?_)
 have hz:lo+n<=(arrOf st).size:=by rw[B.size];lia
 have K1:=hK.mir (i:=lo) (j:=lo+n) (ak _) (by lia)
 have d1:Dn rk (mirror (arrOf st) lo (lo+n) ((lo+n - lo) / 2)) lo (lo+(n+1)):=by
  have:=up1 (n+1) (fun i j a b c=>by rw[hall i a (by lia),hall j (by lia) c];exact ak _) rfl
  intro i j a b c
  rw[zdp hz hall,zdp hz hall]
  exact this i j a b c
 rotate_left
 rw[if_neg hgt]
 have K1:=hK
 have d1:Dn rk (arrOf st) lo (lo+(n+1)):=up1 (n+1) (fun i j a b c=>by
  have:i=j:=by lia
  subst this
  exact ak _) rfl
 all_goals
  refine au (zdr ?_)
  refine au (wpS_mono (ce (I:=fun x c st'=>∃ q,c=(ab,x,q)/\Kp rk kd a₀ lo st st'/\Dn rk (arrOf st') lo (lo+x)/\q+1<=x/\∀ i,lo+x - (q+1)<=i->i<lo+x->kA rk (arrOf st') i=kA rk (arrOf st') (lo+x - 1))
   (Q:=fun c st'=>∃ m q,c=(ab,m,q)/\n+1<=m/\m<=nrem/\Kp rk kd a₀ lo st st'/\Dn rk (arrOf st') lo (lo+m)/\q+1<=m/\∀ i,lo+m - (q+1)<=i->i<lo+m->kA rk (arrOf st') i=kA rk (arrOf st') (lo+m - 1)) ?step ?fin ⟨0,rfl,K1,d1,by lia,fun i i1 i2=>by congr 1;lia⟩) ?post)
  case fin=>
   rintro c st' ⟨q,rfl,K,d,q1,e⟩
   rw[show max (n+1) nrem=nrem by lia] at d q1 e ⊢
   exact⟨nrem,q,rfl,by lia,ak _,K,d,q1,e⟩
  case step=>
   rintro x c st' x1 x2 ⟨q,rfl,K,d,q1,e⟩
   dsimp only
   have hz':lo+x<=(arrOf st').size:=by rw[K.sb.size];lia
   refine au (zea R K.sb hD (by lia) (by lia) ?_)
   dsimp only
   by_cases hs:kA rk (arrOf st') (lo+x)<kA rk (arrOf st') (lo+x - 1)
   ·rw[decide_eq_true hs,if_pos rfl]
    have d2:=d.more (by lia) (bH hs)
    by_cases hq:q > 0
    ·rw[if_pos hq]
     refine au (zfV (aC ⟨0,rfl,K.mir (by lia) (by lia),fun i j a b c=>?_,by lia,fun i i1 i2=>by congr 1;lia⟩))
     show kA rk (mirror (arrOf st') _ _ _) j<=kA rk (mirror (arrOf st') _ _ _) i
     rw[zdp hz' e,zdp hz' e]
     exact d2 i j a b c
    ·rw[if_neg hq]
     exact aC ⟨0,rfl,K,d2,by lia,fun i i1 i2=>by congr 1;lia⟩
   ·rw[decide_eq_false hs,if_neg (by simp)]
    refine au (zea R K.sb hD (by lia) (by lia) ?_)
    dsimp only
    by_cases hl:kA rk (arrOf st') (lo+x - 1)<kA rk (arrOf st') (lo+x)
    ·rw[decide_eq_true hl,if_pos rfl]
     exact aC ⟨x,q,rfl,x1,by lia,K,d,q1,e⟩
    ·rw[decide_eq_false hl,if_neg (by simp)]
     refine aC ⟨q+1,rfl,K,d.more (by lia) (by lia),by lia,fun i i1 i2=>?_⟩
     rw[show lo+(x+1) - 1=lo+x by lia]
     by_cases hi:i=lo+x
     ·subst hi;rfl
     ·rw[e i (by lia) (by lia)]
      lia
  case post=>
   rintro c st' ⟨m,q,rfl,m1,m2,K,d,q1,e⟩
   dsimp only
   have hz':lo+m<=(arrOf st').size:=by rw[K.sb.size];lia
   by_cases hq:q > 0
   rw[if_pos hq]
   refine au (zfV ?_)
   have K2:=K.mir (i:=lo+m - (q+1)) (j:=lo+m) (by lia) (by lia)
   have d2:Dn rk (mirror (arrOf st') (lo+m - (q+1)) (lo+m) ((lo+m - (lo+m - (q+1))) / 2)) lo (lo+m):=fun i j a b c=>by
    rw[zdp hz' e,zdp hz' e]
    exact d i j a b c
   rotate_left
   rw[if_neg hq]
   have K2:=K
   have d2:=d
   all_goals
    refine au (zfV ?_)
    have K3:=K2.mir (i:=lo) (j:=lo+m) (ak _) (by lia)
    refine au (wpS_asc (rk:=rk) (lo:=lo) (by lia) m2 (d2.turn (aJ (by lia) (dZ K2.sb.size.symm))) ?_ fun m' m3 m4 u' _=>?_)
    ·intro x n P n1 n2 p1 p2
     refine au (zea R K3.sb hD (by lia) (by lia) ?_)
     dsimp only
     split
     ·rename_i hl;exact aC (p1 (by simpa using hl))
     ·rename_i hl;exact aC (p2 (by simpa using hl))
    ·exact aC (h m' _ K3 (by lia) m4 u')
theorem wpS_ins(R:Rk prog w A s kd D rk){lo n ok:Nat}{Q:Bool->SortSt->Prop}{st₀:SortSt}(K:Kp rk kd a₀ lo st₀ st)(hD:∀ x ∈ a₀,D x)(hn:lo+n<=a₀.size)(h1:1<=ok)(hok:ok<=n)(hu:Up rk (arrOf st) lo (lo+ok))
  (h:∀ st',Kp rk kd a₀ lo st₀ st'->Up rk (arrOf st') lo (lo+n)->Q true st'):wpS (model prog w) A E s (binarySort' lo n ok) Q st:=by
 refine au (wpS_mono (ce (I:=fun k c st'=>c=(ab,())/\Kp rk kd a₀ lo st₀ st'/\Up rk (arrOf st') lo (lo+k))
  (Q:=fun c st'=>c=(ab,())/\Kp rk kd a₀ lo st₀ st'/\Up rk (arrOf st') lo (lo+n)) ?step ?fin ⟨rfl,K,by rwa [show max ok 1=ok by lia]⟩) ?post)
 case post=>
  rintro c st' ⟨rfl,K,u⟩
  exact aC (h st' K u)
 case fin=>
  rintro c st' ⟨rfl,K,u⟩
  rw[show max (max ok 1) n=n by lia] at u
  exact⟨rfl,K,u⟩
 case step=>
  rintro k c st' k1 k2 ⟨rfl,K,u⟩
  refine au (wpS_mono (ce (I:=fun x c st''=>st''=st'/\∃ l r,c=(ab,l,r)/\l<=r/\r<=k/\r - l<=k - x/\(∀ i,lo<=i->i<lo+l->kA rk (arrOf st') i<=kA rk (arrOf st') (lo+k))/\∀ i,lo+r<=i->i<lo+k->kA rk (arrOf st') (lo+k)<kA rk (arrOf st') i)
   (Q:=fun c st''=>st''=st'/\∃ l r,c=(ab,l,r)/\l<=k/\(∀ i,lo<=i->i<lo+l->kA rk (arrOf st') i<=kA rk (arrOf st') (lo+k))/\∀ i,lo+l<=i->i<lo+k->kA rk (arrOf st') (lo+k)<kA rk (arrOf st') i) ?s2 ?f2 ⟨rfl,0,k,rfl,by lia,by lia,by lia,fun i _ _=>by lia,fun i _ _=>by lia⟩) ?p2)
  case f2=>
   rintro c st'' ⟨rfl,l,r,rfl,a1,a2,a3,a4,a5⟩
   have:l=r:=by lia
   subst this
   exact⟨rfl,l,l,rfl,a2,a4,a5⟩
  case s2=>
   rintro x c st'' _ hx ⟨rfl,l,r,rfl,a1,a2,a3,a4,a5⟩
   dsimp only
   by_cases hge:l ≥ r
   ·rw[if_pos hge]
    have:l=r:=by lia
    subst this
    exact aC ⟨rfl,l,l,rfl,a2,a4,a5⟩
   ·rw[if_neg hge]
    refine au (zea R K.sb hD (by lia) (by lia) ?_)
    dsimp only
    by_cases hl:kA rk (arrOf st'') (lo+k)<kA rk (arrOf st'') (lo+(l+r) / 2)
    ·rw[decide_eq_true hl,if_pos rfl]
     exact aC ⟨rfl,l,_,rfl,by lia,by lia,by lia,a4,fun i i1 i2=>aZ hl (u _ i (by lia) i1 i2)⟩
    ·rw[decide_eq_false hl,if_neg (by simp)]
     exact aC ⟨rfl,_,r,rfl,by lia,by lia,by lia,fun i i1 i2=>aJ (u i (lo+(l+r) / 2) i1 (by lia) (by lia)) (gN.mp hl),a5⟩
  case p2=>
   rintro c st'' ⟨rfl,l,r,rfl,a2,a4,a5⟩
   have hz:=K.sb.size
   have kb:=fun j=>kA_bub (rk:=rk) (xs:=arrOf st'') (src:=lo+k) (d:=lo+k - (lo+l)) (by lia) (by lia) j
   rw[show lo+k - (lo+k - (lo+l))=lo+l by lia] at kb
   refine au (wpS_modify (aC ⟨rfl,K.set (gF.mp (bubble_perm _ _ _)) fun j hj=>?_,fun i j a b c=>?_⟩))
   ·refine(kb j).trans ?_
    rw[if_neg (by lia),if_neg (by lia)]
   ·refine aJ (dZ (kb i)) (aJ ?_ (dZ (kb j).symm))
    repeat' split
    all_goals first
     | lia
     | exact ak _
     | exact a4 _ (by lia) (by lia)
     | exact bH (a5 _ (by lia) (by lia))
     | exact u _ _ (by lia) (by lia) (by lia)
end
end L2

namespace L2
open PySem PySem.Spec PyProof.Rows
section
variable {prog:aL}{w:aX}{A:aS}{E:ae->ag->Prop}{s:ag}{kd:SortKind}{D:Keyed->Prop}{rk:Keyed->Nat}{st:SortSt}{a₀:Array Keyed}
theorem Runs.pow{arr:Array Keyed}:∀ {ps qs:List Run} {lo hi:Nat},ps.map (fun r=>(r.1,r.2.1))=qs.map (fun r=>(r.1,r.2.1))->Runs rk arr ps lo hi->Runs rk arr qs lo hi
 | [],[],_,_,_,h=>h
 | [],_ :: _,_,_,e,_=>by cases e
 | _ :: _,[],_,_,e,_=>by cases e
 | (a,b,c) :: ps,(a',b',c') :: qs,lo,hi,e,⟨h0,h1,h2,h⟩=>by
  rw[aE,aE] at e
  obtain⟨e1,e2⟩:=mh e
  cases e1
  exact⟨h0,h1,h2,h.pow e2⟩
theorem map_mod{l:List Run}{i:Nat}{f:Run->Run}(hf:∀ r,((f r).1,(f r).2.1)=(r.1,r.2.1)):(l.modify i f).map (fun r=>(r.1,r.2.1))=l.map (fun r=>(r.1,r.2.1)):=by
 apply jo
 intro j
 rw[aD,aD,List.getElem?_modify]
 cases l[j]? with
 | none=>rfl
 | some r=>
  show aa _=aa _
  congr 1
  dsimp only
  split
  ·exact hf r
  ·rfl
theorem two_at{ps:List Run}{i:Nat}(h:i+1<ps.length):∃ pre a b post,ps=pre ++ a :: b :: post/\pre.length=i:=by
 refine⟨ps.take i,ps[i],ps[i+1],ps.drop (i+2),?_,by rw[bB];lia⟩
 rw[<- bK,<- bK,ef]
theorem wpS_mgI(R:Rk prog w A s kd D rk){Q:Bool->SortSt->Prop}{hi i:Nat}(B:Sb kd a₀ st)(hD:∀ x ∈ a₀,D x)(hi2:i+1<(bn st).size)(hr:Runs rk (arrOf st) (bn st).toList 0 hi)(hh:hi<=a₀.size)
  (h:∀ st',Sb kd a₀ st'->(bn st').size+1=(bn st).size->Runs rk (arrOf st') (bn st').toList 0 hi->(∀ j,hi<=j->kA rk (arrOf st') j=kA rk (arrOf st) j)->Q true st'):wpS (model prog w) A E s (mergeAt' i) Q st:=by
 obtain⟨pre,⟨sa,na,pa⟩,⟨sb,nb,pb⟩,post,e,rfl⟩:=two_at (ps:=(bn st).toList) (i:=i) (by rw[ax];exact hi2)
 refine wpS_mgAt R B hD e hr hh fun st' B' e' r' k'=>h st' B' ?_ r' k'
 rw[<- ax,<- ax,e,e']
 simp only[ay,aI]
 lia
theorem zhn(R:Rk prog w A s kd D rk){Q:Unit->SortSt->Prop}(B:Sb kd a₀ st)(hD:∀ x ∈ a₀,D x)(h2:1<=a₀.size)(hp:bn st=#[])
  (h:∀ st',Sb kd a₀ st'->Up rk (arrOf st') 0 a₀.size->Q () st'):wpS (model prog w) A E s sortRuns' Q st:=by
 rw[sortRuns'_eq]
 refine au (wpS_get ?_)
 dsimp only
 rw[B.size]
 refine au (wpS_mono (ce (I:=fun x c st'=>∃ lo,c=(ab,lo)/\x<=lo/\lo<=a₀.size/\Sb kd a₀ st'/\Runs rk (arrOf st') (bn st').toList 0 lo)
  (Q:=fun c st'=>c=(ab,a₀.size)/\Sb kd a₀ st'/\Runs rk (arrOf st') (bn st').toList 0 a₀.size) ?step ?fin ⟨0,rfl,ak _,aO _,B,by rw[hp];rfl⟩) ?post)
 case fin=>
  rintro c st' ⟨lo,rfl,h1,h2,B',r'⟩
  have:lo=a₀.size:=by lia
  subst this
  exact⟨rfl,B',r'⟩
 case post=>
  rintro c st' ⟨rfl,B',r'⟩
  dsimp only
  have hl:=r'.le
  rw[ax] at hl
  refine au (wpS_mono (ce (I:=fun x c st'=>c=(ab,())/\(bn st').size+x<=a₀.size/\Sb kd a₀ st'/\Runs rk (arrOf st') (bn st').toList 0 a₀.size)
   (Q:=fun c st'=>c=(ab,())/\(bn st').size<=1/\Sb kd a₀ st'/\Runs rk (arrOf st') (bn st').toList 0 a₀.size) ?s2 ?f2 ⟨rfl,by lia,B',r'⟩) ?p2)
  case f2=>
   rintro c st' ⟨rfl,h1,B',r'⟩
   exact⟨rfl,by lia,B',r'⟩
  case p2=>
   rintro c st' ⟨rfl,h1,B',r'⟩
   refine aC (h st' B' ?_)
   rw[<- ax] at h1
   cases e:(bn st').toList with
   | nil=>
    rw[e] at r'
    have:0=a₀.size:=r'
    lia
   | cons p ps=>
    obtain⟨a,b,c⟩:=p
    rw[e] at r' h1
    rw[aI] at h1
    have:ps=[]:=f7 (by lia)
    subst this
    obtain⟨_,_,u,z⟩:=r'
    have z':0+b=a₀.size:=z
    rw[z'] at u
    exact u
  case s2=>
   rintro x c st' _ hx ⟨rfl,h1,B',r'⟩
   refine au (wpS_get ?_)
   by_cases hz:(bn st').size<=1
   ·rw[if_pos hz]
    exact aC ⟨rfl,hz,B',r'⟩
   ·rw[if_neg hz]
    have go:∀ i,i+1<(bn st').size->wpS (model prog w) A E s (mergeAt' i) (fun a st''=>a=true/\(bn st'').size+(x+1)<=a₀.size/\Sb kd a₀ st''/\Runs rk (arrOf st'') (bn st'').toList 0 a₀.size) st':=fun i hi=>
     wpS_mgI R B' hD hi r' (ak _) fun st'' B'' e'' r'' _=>⟨rfl,by lia,B'',r''⟩
    refine au (wpS_mono (go _ ?_) ?_)
    ·(repeat' split) <;> lia
    ·rintro _ st'' ⟨rfl,e1,e2,e3⟩
     rw[if_neg (by simp)]
     exact aC ⟨rfl,e1,e2,e3⟩
 case step=>
  rintro x c st' _ hx ⟨lo,rfl,h1,h2,B',r'⟩
  dsimp only
  by_cases hge:lo ≥ a₀.size
  ·rw[if_pos hge]
   have:lo=a₀.size:=by lia
   subst this
   exact aC ⟨rfl,B',r'⟩
  rw[if_neg hge]
  refine au (wpS_run R B' hD (by lia) (by lia) fun n st1 K1 n1 n2 u1=>?_)
  dsimp only
  have put:∀ (N:Nat) (st2:SortSt),1<=N->lo+N<=a₀.size->Sb kd a₀ st2->Runs rk (arrOf st2) (bn st2).toList 0 lo->Up rk (arrOf st2) lo (lo+N) ->
    Runs rk (arrOf st2) ((bn st2).push (lo,N,0)).toList 0 (lo+N):=fun N st2 e1 e2 e3 e4 e5=>by
   rw[dy]
   exact e4.join ⟨rfl,e1,e5,rfl⟩
  by_cases hm:n<minRun' a₀.size a₀.size 0
  rw[if_pos hm]
  refine au (zdr ?_)
  refine au (wpS_ins R K1 hD (by lia) n1 (by lia) u1 fun st2 K2 u2=>?_)
  rw[if_neg (by simp)]
  have b1:1<=min (a₀.size - lo) (minRun' a₀.size a₀.size 0):=by lia
  have b2:lo+min (a₀.size - lo) (minRun' a₀.size a₀.size 0)<=a₀.size:=by lia
  generalize min (a₀.size - lo) (minRun' a₀.size a₀.size 0)=N at u2 b1 b2 ⊢
  rotate_left
  rw[if_neg hm]
  have K2:=K1
  have u2:=u1
  have b1:=n1
  have b2:lo+n<=a₀.size:=by lia
  generalize n=N at u2 b1 b2 ⊢
  all_goals
   have r2:=r'.congr (arr':=_) (fun i _ hi=>K2.left i hi)
   rw[<- K2.pend] at r2
   refine au (wpS_get ?_)
   split
   ·rename_i s1 m1 q1 _
    generalize power' a₀.size (2 * s1+m1) _ a₀.size=pw
    refine au (wpS_mono (ce (I:=fun y c st3=>c=(ab,())/\Sb kd a₀ st3/\Runs rk (arrOf st3) (bn st3).toList 0 lo/\Up rk (arrOf st3) lo (lo+N))
     (Q:=fun c st3=>c=(ab,())/\Sb kd a₀ st3/\Runs rk (arrOf st3) (bn st3).toList 0 lo/\Up rk (arrOf st3) lo (lo+N)) ?_ ?_ ⟨rfl,K2.sb,r2,u2⟩) ?_)
    ·rintro y c st3 _ hy ⟨rfl,B3,r3,u3⟩
     refine au (wpS_get ?_)
     split
     ·rename_i hsome
      split
      ·exact aC ⟨rfl,B3,r3,u3⟩
      ·have hz:(bn st3).size > 1:=by
        refine fN fun hc=>?_
        rw[if_neg (by lia)] at hsome
        cases hsome
       refine au (wpS_mgI R B3 hD (by lia) r3 (by lia) fun st4 B4 _ r4 k4=>?_)
       rw[if_neg (by simp)]
       exact aC ⟨rfl,B4,r4,u3.congr fun i i1 _=>k4 i i1⟩
     ·exact aC ⟨rfl,B3,r3,u3⟩
    ·exact fun c st3 z=>z
    ·rintro c st3 ⟨rfl,B3,r3,u3⟩
     dsimp only
     refine au (wpS_modify ?_)
     refine au (wpS_modify (aC ⟨_,rfl,by lia,b2,⟨B3.perm,B3.kind,B3.failed⟩,?_⟩))
     exact put N (setPending st3 ((bn st3).modify ((bn st3).size - 1) fun x=>(x.1,x.2.1,pw))) b1 b2 ⟨B3.perm,B3.kind,B3.failed⟩ (by
      show Runs rk (arrOf st3) ((bn st3).modify _ _).toList 0 lo
      rw[Array.toList_modify]
      exact r3.pow (map_mod (f:=fun x=>(x.1,x.2.1,pw)) fun r=>rfl).symm) u3
   ·exact au (wpS_modify (aC ⟨_,rfl,by lia,b2,⟨K2.sb.perm,K2.sb.kind,K2.sb.failed⟩,put _ _ b1 b2 K2.sb r2 u2⟩))
end
end L2

namespace L2
open PySem PySem.Spec PyProof.Rows
abbrev RwI:=List Int
def rkR(rows:List RwI)(r:RwI):Nat:=rows.countP fun q=>decide (q<r)
theorem zfd{α:Type}{p q:α->Bool}:∀ {l:List α},(∀ x,p x=true->q x=true)->(∃ x ∈ l,p x=false/\q x=true)->l.countP p<l.countP q
 | [],_,h=>by obtain⟨x,hx,_⟩:=h;cases hx
 | a :: l,h,⟨x,hx,hp,hq⟩=>by
  rw[jF,jF]
  have m:l.countP p<=l.countP q:=iM fun x _ hx=>h x hx
  rcases aN.mp hx with e | hx
  ·subst e
   rw[if_neg (by simp[hp]),if_pos hq]
   lia
  ·have:=zfd (l:=l) h ⟨x,hx,hp,hq⟩
   by_cases ha:p a=true
   ·rw[if_pos ha,if_pos (h a ha)];lia
   ·rw[if_neg ha]
    lia
theorem rkR_lt{rows:List RwI}{r r':RwI}(hr:r ∈ rows):decide (rkR rows r<rkR rows r')=decide (r<r'):=by
 by_cases h:r<r'
 ·rw[decide_eq_true h]
  refine decide_eq_true (zfd (fun q hq=>?_) ⟨r,hr,?_,decide_eq_true h⟩)
  ·exact decide_eq_true (List.lt_trans (of_decide_eq_true hq) h)
  ·exact decide_eq_false (List.lt_irrefl r)
 ·rw[decide_eq_false h]
  refine decide_eq_false (gN.mpr (iM fun q _ hq=>?_))
  refine decide_eq_true (dC fun hc=>h ?_)
  exact List.lt_of_le_of_lt (jB.mp hc) (of_decide_eq_true hq)
section
variable {prog:aL}{w:aX}{A:aS}{E:ae->ag->Prop}{s:ag}
structure SrtH(prog:aL)(w:aX)(HP:ba->Prop)(vs:List ae)(kd:SortKind)(row:ae->RwI):Prop where
 keep:∀ {h h':ba},HP h->(∀ b o,h.get? b=aa o->o.cls=.type "tuple" -> h'.get? b=aa o)->HP h'
 kind:∀ (A:aS) (s:ag) (E:ae->ag->Prop) (Q:SortKind->ag->Prop),HP s.heap->2<=vs.length->Q kd s->aw (model prog w) A (keyKind' vs.toArray) Q E s
 lt:∀ (A:aS) (s:ag),HP s.heap->∀ x ∈ vs,∀ y ∈ vs,∀ (E:ae->ag->Prop) (Q:Bool->ag->Prop),Q (decide (row x<row y)) s->aw (model prog w) A (keyLt' kd x y) Q E s
variable {HP:ba->Prop}{vs:List ae}{kd:SortKind}{row:ae->RwI}
theorem SrtH.rk(H:SrtH prog w HP vs kd row)(h:HP s.heap):Rk prog w A s kd (fun x=>x.1 ∈ vs) (fun x=>rkR (vs.map row) (row x.1)):=
 ⟨fun x y hx hy E Q q=>H.lt A s h _ hx _ hy E Q (by rw[rkR_lt (cv.mpr ⟨_,hx,rfl⟩)] at q;exact q)⟩
theorem zip_all{xs:Array Keyed}(hp:xs.toList.Perm (vs.toArray.zip vs.toArray).toList):∃ out:List ae,(xs.map (·.2)).toList=out/\out.Perm vs/\out=xs.toList.map (·.1):=by
 rw[fO] at hp
 have h2:∀ p ∈ xs.toList,p.1=p.2:=fun p hx=>(mem_zip_self (hp.mem_iff.mp hx)).1
 refine⟨xs.toList.map (·.2),Array.toList_map,?_,bX fun p hx=>(h2 p hx).symm⟩
 have:=hp.map (·.2)
 rwa [eE (ak _)] at this
theorem zf2{a:af}{n:Nat}{P:Fin->ag->Prop}(H:SrtH prog w HP vs kd row)(ho:s.heap.get? a=aa (seqObj "list" vs.toArray n))(hI:HP s.heap)(hl:vs.length<=10000000)
  (h:∀ out:List ae,out.Perm vs->(out.map row).Pairwise (·<=·)->P (.done (.ret .none)) { s with heap:=sortedHeap s.heap a vs out.toArray}):aw (model prog w) A (Builtin.«list.sort» ⟨[.ref a],[]⟩) P E s:=by
 rw[list_sort_plain]
 have ha:a<s.heap.objs.size:=aH ho
 refine ai (listItems_at ho rfl ?_)
 refine ai (listUpdate_at ho rfl ?_ (by rw[ci];simp;lia) (by simp))
 obtain⟨e1,ho1⟩:∃ e1,(s.heap.update a (bL fun _=>#[])).get? a=aa (seqObj "list" #[] e1):=⟨_,get?_update_seq ho (fun _=>#[])⟩
 refine ai (seqEpoch_at ho1 rfl ?_)
 refine ai (wpAny_newTuple ?_ (by show vs.length<=_;rw[ci];lia))
 refine ai (wpAny_newList ?_)
 refine bO ?_
 have ho6:(((s.heap.update a (bL fun _=>#[])).push (seqObj "tuple" vs.toArray 0)).push (seqObj "list" #[] 0)).get? a=aa (seqObj "list" #[] e1):=by
  rw[jt _ _ _ (by rw[size_push',fP];exact bf (cM ha)),jt _ _ _ (by rw[fP];exact bf ha)]
  exact ho1
 show aw (model prog w) A _ P E { s with heap:=((s.heap.update a (bL fun _=>#[])).push (seqObj "tuple" vs.toArray 0)).push (seqObj "list" #[] 0)}
 dsimp only
 have hI6:HP (((s.heap.update a (bL fun _=>#[])).push (seqObj "tuple" vs.toArray 0)).push (seqObj "list" #[] 0)):=H.keep hI fun b o hb hc=>by
  have hne:b ≠ a:=fun e=>by subst e;rw[ho] at hb;cases hb;exact absurd (show di "list" = di "tuple" from hc) (fun z=>by injection z with z;exact absurd z (by decide))
  refine aj _ (aj _ ?_)
  rw[i4 _ _ _ _ hne]
  exact hb
 have fin:∀ st':SortSt,(arrOf st').toList.Perm (vs.toArray.zip vs.toArray).toList->((arrOf st').toList.map fun p=>row p.1).Pairwise (·<=·)->P (.done (.ret .none)) { s with heap:=sortedHeap s.heap a vs ((arrOf st').map (·.2))}:=fun st' hp hs=>by
  obtain⟨out,e1,e2,e3⟩:=zip_all hp
  have e4:(arrOf st').map (·.2)=out.toArray:=by apply iP;rw[e1]
  rw[e4]
  refine h out e2 ?_
  rw[e3,db]
  exact hs
 have sz2:∀ st':SortSt,(arrOf st').toList.Perm (vs.toArray.zip vs.toArray).toList->((arrOf st').map (·.2)).size<=be+1:=fun st' hp=>by
  have:=hp.length_eq
  rw[ax] at this
  rw[Array.size_map,this,ci]
  simp
  lia
 by_cases h2:vs.toArray.size<2
 ·rw[if_pos h2,if_pos h2]
  refine ai (ar ?_)
  rw[StateT.run_pure]
  refine ai (ar ?_)
  dsimp only
  refine ai (seqEpoch_at ho6 rfl ?_)
  refine ai (listUpdate_at ho6 rfl ?_ (by simp) (sz2 (eX _ (vs.toArray.zip vs.toArray) #[] 7 ab) (.refl _)))
  simp only[bne_self_eq_false,bm,if_false]
  refine ar (fin (eX _ (vs.toArray.zip vs.toArray) #[] 7 ab) (.refl _) ?_)
  have hz:((vs.toArray.zip vs.toArray).toList.map fun p:Keyed=>row p.1).length<2:=by
   rw[am,fO]
   simpa using h2
  show((vs.toArray.zip vs.toArray).toList.map fun p:Keyed=>row p.1).Pairwise (·<=·)
  match hq:((vs.toArray.zip vs.toArray).toList.map fun p:Keyed=>row p.1) with
  | []=>exact .nil
  | [x]=>exact fq _ _
  | _ :: _ :: _=>rw[hq] at hz;simp at hz;lia
 ·rw[if_neg h2,if_neg h2]
  refine ai (H.kind _ { s with heap:=((s.heap.update a (bL fun _=>#[])).push (seqObj "tuple" vs.toArray 0)).push (seqObj "list" #[] 0)} _ _ hI6 (by simpa using h2) ?_)
  refine ai (bU (zhn (a₀:=vs.toArray.zip vs.toArray) (st:=eX kd (vs.toArray.zip vs.toArray) #[] 7 ab) (Q:=fun _ st'=>Sb kd (vs.toArray.zip vs.toArray) st'/\((arrOf st').toList.map fun p=>row p.1).Pairwise (·<=·))
   (H.rk (s:={ s with heap:=((s.heap.update a (bL fun _=>#[])).push (seqObj "tuple" vs.toArray 0)).push (seqObj "list" #[] 0)}) hI6) ⟨.refl _,rfl,rfl⟩ (fun x hx=>?_) (by simp at h2 ⊢;lia) rfl fun st' B u=>⟨B,?_⟩) ?_ fun _ _ e=>e)
  ·have hx':x ∈ vs.zip vs:=by rw[<- c8,fO] at hx;exact hx
   exact(mem_zip_self hx').2
  ·rw[gJ,cH]
   intro i j hi hj hij
   have hz:=B.size
   rw[ax] at hi hj
   have:=u i j (aO _) (by lia) (by lia)
   rw[zcE hi,zcE hj] at this
   rw[dB,dB]
   have hm:(arrOf st')[j] ∈ (vs.toArray.zip vs.toArray).toList:=B.perm.mem_iff.mp (c8.mpr (bx hj))
   rw[fO] at hm
   refine jB.mp fun hc=>?_
   have h3:=rkR_lt (rows:=vs.map row) (r':=row (arrOf st')[i].1) (cv.mpr ⟨_,(mem_zip_self hm).2,rfl⟩)
   rw[decide_eq_true hc] at h3
   have:=of_decide_eq_true h3
   lia
  ·rintro⟨⟨⟩,st'⟩ s' ⟨rfl,B,hs⟩
   dsimp only at B hs ⊢
   refine ai (seqEpoch_at ho6 rfl ?_)
   refine ai (listUpdate_at ho6 rfl ?_ (by simp) (sz2 st' B.perm))
   have hf:=B.failed
   simp only[bne_self_eq_false,bm,if_false]
   rw[hf]
   exact ar (fin st' B.perm hs)
theorem ziJ{l:af}{Q:ae->ag->Prop}(H:SrtH prog w HP vs kd row)(hl:s.heap.IsList l vs.toArray)(hI:HP s.heap)(hz:vs.length<=10000000)
  (h:∀ out:List ae,out.Perm vs->(out.map row).Pairwise (·<=·)->Q (.ref (s.heap.objs.size+1)) { s with heap:=sortedAll s.heap vs out.toArray}):aw (model prog w) A (call (.builtin "sorted") [.ref l]) Q E s:=by
 refine gP kind_sorted plain_sorted entry_sorted (args_sorted1 _) ?_
 unfold Builtin.«sorted»
 have hz':vs.length<=be:=by rw[ci];lia
 refine ai (m:=checkCount "sorted" 1 1 _) (ar ?_)
 refine ai (collect_list hl ?_ hz')
 refine ai (wpAny_newList ?_ hz')
 have hsz:((s.heap.push (seqObj "list" #[] 0)).update s.heap.objs.size (bL (· ++ vs.toArray))).objs.size=s.heap.objs.size+1:=by
  rw[fP,size_push']
 have hoL:(((s.heap.push (seqObj "list" #[] 0)).update s.heap.objs.size (bL (· ++ vs.toArray))).push (seqObj "list" vs.toArray 0)).get? (s.heap.objs.size+1)=aa (seqObj "list" vs.toArray 0):=by
  rw[<- hsz];exact aG _ rfl
 have hI2:HP (((s.heap.push (seqObj "list" #[] 0)).update s.heap.objs.size (bL (· ++ vs.toArray))).push (seqObj "list" vs.toArray 0)):=H.keep hI fun b o hb _=>by
  refine aj _ ?_
  rw[i4 _ _ _ _ (bf (aH hb))]
  exact aj _ hb
 show aw _ _ _ _ _ { s with heap:=((s.heap.push (seqObj "list" #[] 0)).update s.heap.objs.size (bL (· ++ vs.toArray))).push (seqObj "list" vs.toArray 0)}
 rw[hsz]
 refine ai (bO (wpAny_call_entry slot_list_sort ⟨_,hoL,rfl⟩ entry_list_sort (zf2 H hoL hI2 hz fun out p1 p2=>⟨_,rfl,?_⟩) (args_list_sort _)))
 exact ar ⟨_,rfl,h out p1 p2⟩
end
end L2

namespace L2
open PySem PySem.Spec PyProof.Rows
section
variable {prog:aL}{w:aX}{A:aS}{s:ag}
theorem zh1{Q:Bool->ag->Prop}:∀ {xs ys:List ae} {is js:List Int} (i:Nat),IntsAre xs is->IntsAre ys js->Q (decide (is<js)) s->PySem.W.KatLex prog w A true (decide (xs.length<ys.length)) Q (xs.zip ys) i s
 | _,_,_,_,i,.nil,.nil,h=>h
 | _,_,_,_,i,.nil,.cons n t r,h=>by
  refine jU ?_
  rw[decide_eq_true (by simp)]
  rwa [decide_eq_true (by simp)] at h
 | _,_,_,_,i,.cons n t r,.nil,h=>by
  refine jU ?_
  rw[decide_eq_false (by simp)]
  rwa [decide_eq_false (by simp)] at h
 | _,_,_,_,i,.cons (vs:=xs) (ns:=is) a t r,.cons (vs:=ys) (ns:=js) b u r',h=>by
  rw[b8]
  refine PySem.W.kat_cons (wpAny_eqBool_int ?_)
  by_cases e:a=b
  ·subst e
   rw[beq_self_eq_true]
   refine PySem.W.kat_yes ?_
   have e1:decide ((cr a t :: xs).length<(cr a u :: ys).length)=decide (xs.length<ys.length):=by simp
   have e2:decide (a :: is<a :: js)=decide (is<js):=by
    by_cases c:is<js
    ·rw[decide_eq_true c,decide_eq_true (dr.mpr (.inr ⟨rfl,c⟩))]
    ·rw[decide_eq_false c,decide_eq_false fun z=>(dr.mp z).elim (fun z=>by lia) fun z=>c z.2]
   rw[e2] at h
   rw[e1]
   exact zh1 (i+1) r r' h
  ·rw[beq_eq_false_iff_ne.mpr e]
   refine PySem.W.kat_no ?_
   have e2:decide (a :: is<b :: js)=decide (a<b):=by
    by_cases c:a<b
    ·rw[decide_eq_true c,decide_eq_true (dr.mpr (.inl c))]
    ·rw[decide_eq_false c,decide_eq_false fun z=>(dr.mp z).elim c fun z=>e z.1]
   rw[e2] at h
   cases hb:(true && i == 0) with
   | true=>exact oneLt_int h
   | false=>exact PySem.W.kat_one _ _ (lt_int h)
def zg9(h:ba)(row:ae->RwI)(vs:List ae):Prop:=∀ v ∈ vs,∃ a o xs n,v=.ref a/\h.get? a=aa o/\o.cls=.type "tuple" /\ o.data=.seq xs n/\IntsAre xs.toList (row v)/\row v ≠ []
theorem zeY{h:ba}{row:ae->RwI}:∀ {vs:List ae},zg9 h row vs->∃ fs,PySem.W.KatTups h vs fs/\fs.length=vs.length/\∀ v ∈ fs,∃ i t,v=.int i t
 | [],_=>⟨[],trivial,rfl,fun v hv=>by cases hv⟩
 | v :: vs,t=>by
  obtain⟨fs,k1,k2,k3⟩:=zeY (vs:=vs) fun v hv=>t v (al _ hv)
  obtain⟨a,o,xs,n,rfl,e1,e2,e3,e4,e5⟩:=t v av
  obtain⟨xs⟩:=xs
  generalize row (.ref a)=r at e4 e5
  cases e4 with
  | nil=>exact absurd rfl e5
  | cons i t _=>
   refine⟨.int i t :: fs,⟨⟨a,o,_,n,rfl,e1,e2,e3,rfl⟩,k1⟩,by rw[aI,aI,k2],fun v hv=>?_⟩
   rcases aN.mp hv with e | hv
   ·exact⟨i,t,e⟩
   ·exact k3 v hv
theorem srtH_tups{row:ae->RwI}{vs:List ae}:SrtH prog w (fun h=>zg9 h row vs) vs (tuples' true) row:=by
 refine⟨fun t k v hv=>?_,fun A s E Q t h2 q=>?_,fun A s t x hx y hy E Q q=>?_⟩
 ·obtain⟨a,o,xs,n,e0,e1,e2,e3,e4⟩:=t v hv
  exact⟨a,o,xs,n,e0,k a o e1 e2,e2,e3,e4⟩
 ·obtain⟨fs,k1,k2,k3⟩:=zeY t
  refine PySem.W.kat_kind (T:=.type "int") k1 (by lia) (fun v hv=>?_) rfl q
  obtain⟨i,t,rfl⟩:=k3 v hv
  exact .now
 ·obtain⟨a,oa,xs,n,rfl,a1,_,a3,a4,_⟩:=t x hx
  obtain⟨b,ob,ys,m,rfl,b1,_,b3,b4,_⟩:=t y hy
  refine PySem.W.kat_lt a1 a3 b1 b3 ?_
  rw[<- ax,<- ax]
  exact zh1 0 a4 b4 q
end
def vI:V->Int
 | .int i=>i
 | _=>0
def zhl(H:Hp)(a:af):RwI:=match H a with
 | some (.tup vs)=>vs.map vI
 | _=>[]
def rowV(H:Hp):ae->RwI
 | .ref a=>zhl H a
 | _=>[]
theorem zhv(r:RwI):(r.map V.int).map vI=r:=by
 rw[db]
 exact(bX fun _ _=>rfl).trans (iy r)
theorem zep:∀ {r:RwI} {us:List ae},Vals (r.map V.int) us->IntsAre us r
 | [],_,.nil=>.nil
 | i :: r,_,.cons h t=>by
  obtain⟨k,rfl⟩:=h
  exact .cons i k (zep t)
theorem zgN:∀ {as:List af} {us:List ae},Vals (as.map V.ref) us->us=as.map bw
 | [],_,.nil=>rfl
 | a :: as,_,.cons h t=>by
  cases h
  rw[aE,zgN t]
theorem zgZ:∀ as:List af,Vals (as.map V.ref) (as.map bw)
 | []=>.nil
 | a :: as=>.cons rfl (zgZ as)
def unR:ae->af
 | .ref a=>a
 | _=>default
theorem perm_refs{as:List af}{out:List ae}(h:out.Perm (as.map bw)):∃ as':List af,as'.Perm as/\out=as'.map bw:=by
 refine⟨out.map unR,?_,?_⟩
 ·have:=h.map unR
  rwa [db,show(unR ∘ bw)=id from rfl,iy] at this
 ·rw[db]
  refine(iy out).symm.trans (bX fun v hv=>?_)
  obtain⟨a,_,rfl⟩:=cv.mp (h.mem_iff.mp hv)
  rfl
def zgI(H:Hp)(as:List af):Prop:=∀ a ∈ as,∃ r:RwI,r ≠ []/\H a=aa (.tup (r.map V.int))
theorem Inv.tups{X:Cx}{pins:List (af × Obj)}{σ:St}{H:Hp}{s:ag}(I:Inv X pins σ H s){as:List af}(h:zgI H as):zg9 s.heap (rowV H) (as.map bw):=by
 intro v hv
 obtain⟨a,ha,rfl⟩:=cv.mp hv
 obtain⟨r,hr,hH⟩:=h a ha
 obtain⟨_,its,ri,o,e,hcl,n,hd⟩:=I.hok a _ hH
 have er:rowV H (.ref a)=r:=by
  show zhl H a=r
  unfold zhl
  rw[hH]
  exact zhv r
 rw[er]
 exact⟨a,o,_,n,rfl,e,hcl,congrArg l6 hd,zep ri,hr⟩
theorem call_srtG{X:Cx}:zdt X (.builtin "sorted") (fun xs H Q=>∃ (p:af) (as:List af),xs=[.ref p]/\SqL X.K H p (as.map V.ref)/\zgI H as/\as.length<=1000000/\∀ (as':List af) (l:af),as'.Perm as->(as'.map (zhl H)).Pairwise (·<=·)->H l=ab->Q (.ref l) (upd H l (.lst (as'.map V.ref)))):=by
 intro pins s σ H xs us Q I r h
 obtain⟨p,as,rfl,hq,hpr,hl,q⟩:=h
 obtain⟨u,rfl,rx⟩:=zfM r
 cases rx
 obtain⟨its,r',pl,hz⟩:=I.list hq
 cases zgN r'
 refine ziJ srtH_tups pl.isList (I.tups hpr) (by rw[am];lia) fun out p1 p2=>?_
 obtain⟨as',p3,rfl⟩:=perm_refs p1
 rw[db] at p2
 have sz:((s.heap.push (seqObj "list" #[] 0)).update s.heap.objs.size (bL (· ++ (as.map bw).toArray))).objs.size=s.heap.objs.size+1:=by rw[fP,size_push']
 have g0:(((s.heap.push (seqObj "list" #[] 0)).update s.heap.objs.size (bL (· ++ (as.map bw).toArray))).push (seqObj "list" (as.map bw).toArray 0)).get? (s.heap.objs.size+1)=aa (seqObj "list" (as.map bw).toArray 0):=by
  rw[<- sz];exact aG _ rfl
 obtain⟨e,he⟩:=sortedHeap_at (out:=(as'.map bw).toArray) g0
 refine⟨.ref (s.heap.objs.size+1),_,I.laid (a:=s.heap.objs.size+1) (o:=.lst (as'.map V.ref)) (h':=sortedAll s.heap (as.map bw) (as'.map bw).toArray) (t':=s.toks) (fun b o eb=>?_) (cE _) ⟨?_,as'.map bw,e,zgZ as',he⟩,rfl,q as' _ p3 p2 (I.hok.fresh (cE _))⟩
 ·exact sortedAll_old eb
 ·rw[am,p3.length_eq,ci];lia
end L2
namespace L3
open PySem PySem.Spec PyProof.Rows L2
def rowD(r:RwI):D:=.tup (r.map .int)
def zgW:D->Option RwI
 | .tup ds=>zfO ds
 | _=>ab
def zgF:List D->Option (List RwI)
 | []=>aa []
 | d :: ds=>(zgW d).bind fun p=>(zgF ds).map fun ps=>p :: ps
def srtR(rows:List RwI):List RwI:=rows.mergeSort fun a b=>decide (a<=b)
theorem zdj(rows:List RwI):(srtR rows).Perm rows:=eN _ _
theorem srtR_up(rows:List RwI):(srtR rows).Pairwise (·<=·):=by
 have:=fw (le:=fun a b:RwI=>decide (a<=b)) (fun a b c h1 h2=>decide_eq_true (List.le_trans (of_decide_eq_true h1) (of_decide_eq_true h2))) (fun a b=>by
  rcases List.le_total a b with h | h
  ·rw[decide_eq_true h];rfl
  ·rw[decide_eq_true h,je]) rows
 exact this.imp fun h=>of_decide_eq_true h
theorem srtR_only{rows rows':List RwI}(h:rows'.Perm rows)(hs:rows'.Pairwise (·<=·)):rows'=srtR rows:=
 kY (fun a b _ _ h1 h2=>List.le_antisymm h1 h2) hs (srtR_up rows) (h.trans (zdj rows).symm)
theorem zgw{F:Hp}:∀ {vs:List V} {ds:List D} {rows:List RwI},Reps F vs ds->zgF ds=aa rows->(∀ r ∈ rows,r ≠ [])->∃ as:List af,vs=as.map V.ref/\zgI F as/\rows=as.map (zhl F)
 | _,_,_,.nil,q,_=>by cases q;exact⟨[],rfl,(fun a ha=>by cases ha),rfl⟩
 | _,_,_,.cons r t,q,hn=>by
  obtain⟨p,q1,q⟩:=bind_some q
  obtain⟨ps,q2,q⟩:=map_some q
  subst q
  obtain⟨as,e1,e2,e3⟩:=zgw t q2 fun r hr=>hn r (al _ hr)
  cases r with
  | tup e rs=>
   have ei:=zd6 rs q1
   rw[ei] at e
   rename_i a _ _
   refine⟨a :: as,by rw[e1];rfl,fun b hb=>?_,?_⟩
   ·rcases aN.mp hb with h | h
    ·subst h;exact⟨p,hn p av,e⟩
    ·exact e2 b h
   ·rw[aE,<- e3]
    congr 1
    unfold zhl
    rw[e]
    exact(zhv p).symm
  | non=>cases q1
  | bl=>cases q1
  | int=>cases q1
  | str=>cases q1
  | lst=>cases q1
  | dic=>cases q1
theorem zgU{F:Hp}:∀ {as:List af},zgI F as->Reps F (as.map V.ref) ((as.map (zhl F)).map rowD)
 | [],_=>.nil
 | a :: as,h=>by
  obtain⟨r,hr,e⟩:=h a av
  have er:zhl F a=r:=by unfold zhl;rw[e];exact zhv r
  refine .cons ?_ (zgU fun b hb=>h b (al _ hb))
  rw[er]
  exact .tup e (.ints r)
noncomputable def gSrtG:List Ent->Option Ent
 | [x]=>(asL x).bind fun ds=>(zgF ds).bind fun rows=>gif ((∀ r ∈ rows,r ≠ [])/\rows.length<=1000000) (aa (.own ((srtR rows).map rowD)))
 | _=>ab
theorem c_srtG{X:Cx}:zet X (.builtin "sorted") gSrtG:=⟨_,call_srtG,fun H0 F H vs es res Q fh hh r q k=>by
 obtain⟨x,rfl⟩:=zeQ rfl (fun _ _ _=>rfl) q
 obtain⟨v,rfl,rz⟩:=zc5 r
 obtain⟨ds,q1,q⟩:=bind_some q
 obtain⟨rows,q2,q⟩:=bind_some q
 obtain⟨⟨hs,hl⟩,qz⟩:=za0 q
 cases qz
 obtain⟨l,ws,e',h1,h2⟩:=RepR.toL rz fh q1
 subst e'
 obtain⟨as,e1,e2,e3⟩:=zgw h2 q2 hs
 rw[e1] at h1
 have hA:zgI H as:=fun a ha=>by obtain⟨r,x1,x2⟩:=e2 a ha;exact⟨r,x1,fh _ _ x2⟩
 have hrow:∀ a ∈ as,zhl H a=zhl F a:=fun a ha=>by
  obtain⟨r,x1,x2⟩:=e2 a ha
  unfold zhl
  rw[x2,fh _ _ x2]
 refine⟨l,as,rfl,h1,hA,by rw[e3,am] at hl;exact hl,fun as' p p1 p2 hp=>?_⟩
 have e4:as'.map (zhl H)=as'.map (zhl F):=bX fun a ha=>hrow a (p1.mem_iff.mp ha)
 rw[e4] at p2
 have e5:as'.map (zhl F)=srtR rows:=srtR_only (by rw[e3];exact p1.map _) p2
 have e6:=zgU (F:=F) (as:=as') fun a ha=>e2 a (p1.mem_iff.mp ha)
 rw[e5] at e6
 exact k _ _ _ (Ex.lay fh hp) ⟨p,_,rfl,hh.free hp,zah,e6,fh.free hp⟩⟩
end L3

namespace L3
open PySem PySem.Spec PyProof.Rows L2
def xPop(i:Nat):FXE:=fun δ=>((oAt i δ).bind lOf).bind fun ds=>(ds[ds.length - 1]?).map fun d=>(d,δ.set i (aa (.obj (.lst ds.dropLast))))
def xCO(i:Nat)(g:GM)(fs:FXA):FXE:=fun δ=>(oAt i δ).bind fun _=>(fs δ).bind fun p=>(oAt i p.2).bind fun o=>(g o p.1).map fun q=>(q.1,p.2.set i (aa (.obj q.2)))
def ziq(i:Nat)(fe:FE):FS:=fun δ=>(fe δ).bind fun r=>match r with
 | .own ds=>aa (.nx (δ.set i (aa (.obj (.lst ds)))))
 | _=>ab
def xLst(fs:FXA):FXE:=fun δ=>(fs δ).bind fun p=>if p.1.length<=1000 then aa (.lst p.1,p.2) else ab
def fXAsg(tg:FG)(fx:FXE):FS:=fun δ=>(fx δ).bind fun p=>(tg p.1 p.2).map .nx
theorem lOf_some{o:OT}{ds:List D}(h:lOf o=aa ds):o=.lst ds:=by
 cases o <;> first | (cases h;rfl) | (cases h)
section
variable {X:Cx}{e:Expr}{es:List Expr}{pos pos' p p0 apos cpos:Pos}{fa fb fx:FXE}{fs:FXA}{fe:FE}{x y:Str}{tg:Expr}{tgf:FG}
theorem xpop(i:Nat)(hN:X.N[i]? = aa x:=by rfl)(hv:Vis X.env.scope x:=by first | exact az rfl | exact br (az rfl) | exact br (br rfl))(hd:(x == ("__debug__" : Str))=false:=by decide)(hcd:(x == ("__classdict__" : Str))=false:=by decide)
  (hbase:ck (.Name x p) "pop" X.env (eval (.Name x p) X.env)=eval (.Name x p) X.env:=by rfl) (hline:(apos.endLine == cpos.line)=true:=by rfl):VX X (.Call (.Attribute (.Name x p) "pop" apos) [] [] cpos) (xPop i):=by
 refine⟨_,⟨pe_bm0 dN PySem.F.slot_list_pop PySem.F.type_list_pop mt_pop (wv i hN hv hd hcd).h hbase hline⟩,fun B F H σ δ d δ' Q s q k=>?_⟩
 obtain⟨ds,q1,q⟩:=bind_some q
 obtain⟨o,q0,q1⟩:=bind_some q1
 obtain⟨d',q2,q⟩:=map_some q
 cases q
 cases lOf_some q1
 obtain⟨v,h1,A,t,n,h⟩:=s.ent i _ (zaR q0)
 cases t with
 | @lst l vs _ h2 h3=>
  have fl:=(h l (by simp)).1
  obtain⟨z,hz,rz⟩:=h3.get q2
  refine⟨_,h1,.inl ⟨rfl,vs,SqL.of h2⟩,l,vs,z,rfl,rfl,h2,by rw[h3.length];exact hz,?_⟩
  obtain⟨z1,z2⟩:=s.chg (o':=.lst ds.dropLast) (H':=upd H l (.lst vs.dropLast)) (F':=F) (zaR q0) h1 (.lst h2 h3) ⟨Same.refl _,fun b u hb=>by
    rw[zak fun z=>by subst z;rw[fl] at hb;cases hb]
    exact s.fh _ _ hb,fun b u hb=>by
    obtain⟨z1,z2⟩:=zbs hb
    rw[zak fun z=>z1 (by simp[z])]
    exact z2,fun _ _ _ _=>rfl⟩
   (.lst zah h3.dropLast) (by simp) fun b hb=>by
    simp at hb
    subst hb
    exact⟨fl,zcM (by simp)⟩
  exact k z F _ z1 z2 rz
theorem xco{CX:CXT}{k j:Nat}{f:af}{fd:bQ}{ps:List Str}{st:Stmt}{E:XK}{g:GM}(i:Nat)(F:FnOk X.prog X.w X.K X.mg X.base CX k f fd ps (spM X.K g))(D:Def X.K X.mg y st ps f fd)(hr:Room j X.A)(hg:Gl X y)(hx:zcG CX X E)
  (ha:VXA X es fs) (hjk:k<=j:=by decide) (hdb:(y == ("__debug__" : Str))=false:=by decide) (h2:es.all zao=true:=by rfl)
  (hN:X.N[i]? = aa x:=by rfl) (hv:Vis X.env.scope x:=by first | exact az rfl | exact br (az rfl) | exact br (br rfl)) (hd:(x == ("__debug__" : Str))=false:=by decide) (hcd:(x == ("__classdict__" : Str))=false:=by decide) :
  VX X (.Call (.Name y p) (.Name x p0 :: es) [] pos) (xCO i g fs):=by
 obtain⟨t,w,m⟩:=ha.h
 refine⟨_,wcl F D hr hg hx (wac (wv i hN hv hd hcd) w rfl) hjk hdb rfl h2,fun B F H σ δ d δ' Q s q kk=>?_⟩
 obtain⟨o0,q0,q⟩:=bind_some q
 obtain⟨p1,q1,q⟩:=bind_some q
 obtain⟨o,q2,q⟩:=bind_some q
 obtain⟨r,q3,q⟩:=map_some q
 cases q
 obtain⟨v,h1,_⟩:=s.ent i _ (zaR q0)
 refine⟨v,h1,m B F H σ δ p1.1 p1.2 _ s q1 fun vs F1 H1 s1 y1 r1=>?_⟩
 obtain⟨v',h1',A,t,n,h⟩:=s1.ent i _ (zaR q2)
 rw[h1] at h1'
 cases h1'
 rw[bF]
 refine⟨v,vs,F1,o,A,p1.1,r.1,r.2,rfl,s1.fh,t,n,fun a ha=>(h a ha).1,r1,q3,fun z F' H' A' ch t' n' f' rz=>?_⟩
 obtain⟨z1,z2⟩:=s1.chg (zaR q2) h1 t ch t' n' f'
 exact kk z F' H' z1 (y1.trans z2) rz
theorem xlst(ha:VXA X es fs):VX X (.List es pos) (xLst fs):=by
 obtain⟨t,w,m⟩:=ha.h
 refine⟨_,wlst w,fun B F H σ δ d δ' Q s q k=>?_⟩
 obtain⟨p1,q1,q⟩:=bind_some q
 split at q
 ·rename_i hl
  cases q
  refine m B F H σ δ p1.1 p1.2 _ s q1 fun vs F1 H1 s1 y1 r1=>⟨by rw[r1.length,ci];lia,fun a ha=>?_⟩
  have xa:Ex F1 H1 (upd F1 a (.lst vs)) (upd H1 a (.lst vs)):=Ex.alloc s1.fh ha
  exact k _ _ _ (s1.ext xa) (y1.trans (.of xa s1.bh)) (.lst zah (r1.mono (Same.alloc (s1.fh.free ha))))
 ·cases q
theorem sXAsg(he:VX X e fx)(hg:VG X tg tgf)(hs:swapsWithSole [tg] e pos.line X.env=pure false:=by rfl)(hw:swappedStores [tg] e X.env=pure ab:=by rfl)(h1:(bS [tg] X.env).map (·.2)=[assign tg X.env]:=by rfl):VS X (.Assign [tg] e pos) (fXAsg tgf fx):=by
 obtain⟨t,w,m⟩:=he.h
 obtain⟨t1,w1,m1⟩:=hg.h
 refine⟨_,sasg w w1 hs hw h1,fun B F H σ δ out DD s q k=>?_⟩
 obtain⟨p1,q1,q⟩:=bind_some q
 obtain⟨δ2,q2,q⟩:=map_some q
 cases q
 exact m B F H σ δ p1.1 p1.2 _ s q1 fun v F1 H1 s1 y1 r1=>m1 B F1 H1 σ p1.2 δ2 v p1.1 _ s1 r1 q2 fun σ' s'=>k σ' F1 H1 s' y1
theorem sSetL'{i:Nat}(h0:0<i)(hN:X.N.Nodup)(hi:X.N[i]? = aa x)(hx:Loc X.env.scope x)(he:VE X e fe)(hs:swapsWith e (aa (.Name x pos')) pos.line X.env=pure false:=by rfl)(hf:X.fn x=true \/ X.env.scope.names.lookup x=aa .local:=by first | exact .inl rfl | exact .inr rfl | assumption) :
  VS X (.Assign [.Name x pos'] e pos) (ziq i fe):=by
 obtain⟨t,w,m⟩:=he.h
 refine⟨_,sset hN hi hx w hs hf,fun B F H σ δ out DD s q k=>?_⟩
 obtain⟨r,q1,q⟩:=bind_some q
 cases r with
 | own ds=>
  cases q
  refine m B F H σ δ _ _ s q1 fun v F' H' x z=>k _ F' H' (s.putO x i h0 ?_) (.of x s.bh)
  obtain⟨l,vs,e,g0,g1,rs,g2⟩:=z
  subst e
  exact⟨⟨l,rfl⟩,[l],.lst g1 rs,by simp,fun a ha=>by simp at ha;subst ha;exact⟨g2,g0⟩⟩
 | _=>cases q
end
abbrev FXO:=En->Option (Option Int × En)
def xoNo:FXO:=fun δ=>aa (ab,δ)
def iOfD:D->Option Int
 | .int i=>aa i
 | _=>ab
def xoSo(fx:FXE):FXO:=fun δ=>(fx δ).bind fun p=>(iOfD p.1).map fun i=>(aa i,p.2)
def SemXO(K:ah)(t:TO)(f:FXO):Prop:=∀ (B:Bd) (F H:Hp) (σ:Sg) (δ:En) (o:Option Int) (δ':En) (Q:Option Int->Hp->Prop),RS K B F H σ δ->f δ=aa (o,δ')->(∀ F' H',RS K B F' H' σ δ'->FX B F F'->Q o H')->t σ H Q
structure VXO(X:Cx)(e:Option Expr)(f:FXO):Prop where
 h:∃ t,WO X e t/\SemXO X.K t f
def xSl(g:Ent->Option Int->Option Int->Option Ent)(fx:FXE)(fl fu:FXO):FXE:=fun δ=>(fx δ).bind fun p=>(fl p.2).bind fun l=>(fu l.2).bind fun u=>((g (.val p.1) l.1 u.1).bind asV).map fun d=>(d,u.2)
section
variable {X:Cx}{e tg iter:Expr}{lo hi:Option Expr}{fx:FXE}{fl fu:FXO}{pos p2:Pos}{tgf:FG}{f:FS}{body:List Stmt}
theorem xon:VXO X ab xoNo:=⟨_,won,fun B F H σ δ o δ' Q s q k=>by cases q;exact k F H s .refl⟩
theorem iOfD_some{d:D}{i:Int}(h:iOfD d=aa i):d=.int i:=by cases d <;> first | (cases h;rfl) | cases h
theorem xos(h:VX X e fx):VXO X (aa e) (xoSo fx):=by
 obtain⟨t,w,m⟩:=h.h
 refine⟨_,wos w,fun B F H σ δ o δ' Q s q k=>?_⟩
 obtain⟨p1,q1,q⟩:=bind_some q
 obtain⟨i,q2,q⟩:=map_some q
 cases q
 exact m B F H σ δ p1.1 p1.2 _ s q1 fun v F1 H1 s1 y1 r1=>⟨i,za9 (iOfD_some q2 ▸ r1),k F1 H1 s1 y1⟩
theorem xsl{g:Ent->Option Int->Option Int->Option Ent}(hr:SlD X g)(he:VX X e fx)(hl:VXO X lo fl)(hu:VXO X hi fu):VX X (.Subscript e (.Slice lo hi ab p2) pos) (xSl g fx fl fu):=by
 obtain⟨t,w,m⟩:=he.h
 obtain⟨t1,w1,m1⟩:=hl.h
 obtain⟨t2,w2,m2⟩:=hu.h
 obtain⟨rr,hr1,hr2⟩:=hr
 refine⟨_,wslice hr1 w w1 w2,fun B F H σ δ d δ' Q s q k=>?_⟩
 obtain⟨p1,q1,q⟩:=bind_some q
 obtain⟨l,q2,q⟩:=bind_some q
 obtain⟨u,q3,q⟩:=bind_some q
 obtain⟨d',q4,q⟩:=map_some q
 cases q
 obtain⟨res,q4,q5⟩:=bind_some q4
 refine m B F H σ δ p1.1 p1.2 _ s q1 fun v F1 H1 s1 y1 r1=>?_
 refine m1 B F1 H1 σ p1.2 l.1 l.2 _ s1 q2 fun F2 H2 s2 y2=>?_
 refine m2 B F2 H2 σ l.2 u.1 u.2 _ s2 q3 fun F3 H3 s3 y3=>?_
 refine hr2 H3 F3 H3 v l.1 u.1 (.val p1.1) res Q s3.fh (Same.refl _) (Rep.mono (y2.trans y3).ff r1) q4 fun v' F' H' x4 r4=>?_
 obtain⟨F5,x5,_,r5⟩:=RepR.frz x4 (Same.refl _) r4 q5
 exact k v' F5 H' (s3.ext x5) (((y1.trans y2).trans y3).trans (.of x5 s3.bh)) r5
end
end L3

namespace L2
open PySem PySem.Spec PyProof.Rows
section
variable {prog:aL}{w:aX}{A:aS}{E:ae->ag->Prop}{s:ag}
set_option maxRecDepth 100000
theorem init_rev{R:Result->ag->Prop}{I l S:af}{items:Array ae}(hh:A.handled=ab)(hne:l ≠ I)(hit:s.heap.IsRevIter I l ((items.size:Int) - 1))(hl:s.heap.IsList l items)(hn:items.size<=be)
  (hS:s.heap.get? S=aa { cls:=.type "list",data:=.seq #[]}) (hSI:S ≠ I) (hSl:S ≠ l)
  (hR:∀ s' acc c',(∀ b o,b ≠ I->b ≠ S->s.heap.get? b=aa o->s'.heap.get? b=aa o)->s'.gens=s.gens->s'.drawn=s.drawn->s'.os=s.os->s'.heap.get? S=aa { cls:=.type "list",data:=.seq acc c'}->ItemsOf (fun i v=>items[items.size - 1 - i]? = aa v) acc items.size->R (.ok (.ret .none)) s') :
  aw (model prog w) A.in1 (Builtin.«list.__init__» ⟨[.ref S,.ref I],[]⟩)
   (fun fin s'=>match fin with | .done f=>R (.ok f) s' | .again c'=>c'.quiet=true/\codeAny (model prog w) A c' R s') (fun e s'=>R (.error e) s') s:=by
 show aw _ _ (do let old <- iz (.ref S);g8 (.ref S) (fun _=>#[]);letGo old.toList.reverse;cR (.ref S) (.ref I) .none) _ _ s
 refine ai ?_
 unfold iz
 refine ai (wpAny_seqItems hS rfl (ar ?_))
 show aw _ _ (updateSeq S (fun _=>#[]) >>= fun _=>letGo (#[]:Array ae).toList.reverse >>= fun _=>cR (.ref S) (.ref I) .none) _ _ s
 refine ai (wpAny_updateSeq hS rfl ?_)
 have hS₂:=cK (bL (fun _=>(#[]:Array ae))) hS rfl
 have oth:∀ b o,b ≠ S->s.heap.get? b=aa o->(s.heap.update S (bL (fun _=>(#[]:Array ae)))).get? b=aa o:=
  fun b o hb e=>(bT _ _ (cx hb)).trans e
 refine ai (wpAny_letGo ?_)
 generalize s.heap.update S (bL (fun _=>(#[]:Array ae)))=H at hS₂ oth
 have hit':H.IsRevIter I l ((items.size:Int) - 1):=hit.at fun o e=>oth _ o (cx hSI) e
 have hl':H.IsList l items:=hl.at fun o e=>oth _ o (cx hSl) e
 unfold cR
 refine ai (wpAny_typeOf (s:={ s with heap:=H}) hit'.typeIs ?_)
 have h1:dG (.ref S) (.ref I)=false:=by
  unfold dG
  simp
  exact hSI
 have h2:(di "list_reverseiterator" == di "list")=false:=by decide
 have h3:(di "list_reverseiterator" == di "tuple")=false:=by decide
 simp only[h1,h2,h3,iW,bm,if_false]
 refine ai (wpAny_pyIter_revIter hit' ?_)
 refine ai (bO ?_)
 refine hint_rev (s:={ s with heap:=H}) hit' ?_
 rw[if_neg (by decide)]
 have hSf:S ∉ [I,l]:=by simp[hSI,hSl]
 have st0:0<=items.size/\H.IsRevIter I l ((items.size:Int) - 1 - ((0:Nat):Int))/\H.IsList l items:=⟨aO _,by simpa using hit',hl'⟩
 refine ar ⟨plainId_quiet i5 _,codeAny_extend_loopS (Walks.listRev (A:=A.in1) hh I l hne items).toS hn _ hSf _ items.size 0 _ _ _ rfl (aO _) st0 hS₂ (lh _) fun s' acc' c' hm hS' hacc=>?_⟩
 refine hR s' acc' c' (fun b ob hb hb2 e=>hm.heap b ob (fun hc=>?_) (oth b ob hb2 e)) hm.gens hm.drawn hm.os hS' hacc
 rcases aN.mp hc with h | h
 ·exact hb2 h
 ·exact hb (aT.mp h)
theorem zga{Q:ae->ag->Prop}{I l:af}{items:Array ae}(hh:A.handled=ab)(hne:l ≠ I)(hit:s.heap.IsRevIter I l ((items.size:Int) - 1))(hl:s.heap.IsList l items)(hsz:items.size<=be)
  (h:∀ (h':ba) (tk c:Nat) (acc:Array ae),(∀ b o,b ≠ I->s.heap.get? b=aa o->h'.get? b=aa o)->h'.get? s.heap.objs.size=aa { cls:=.type "list",data:=.seq acc c}->ItemsOf (fun i v=>items[items.size - 1 - i]? = aa v) acc items.size->Q (.ref s.heap.objs.size) { s with heap:=h',toks:=tk}) :
  aw (model prog w) A (call (.type "list") [.ref I]) Q E s:=by
 have lt:∀ a o,s.heap.get? a=aa o->s.heap.objs.size ≠ a:=fun a o e=>eR (aH e)
 obtain⟨oI,eI,_⟩:=id hit
 obtain⟨oL,eL,_⟩:=id hl
 refine callType_codes (Q₁:=fun obj s₁=>obj=.ref s.heap.objs.size/\s₁={ s with heap:=s.heap.push { cls:=.type "list",data:=.seq #[]}}) F.called_list (F.typeCall_list_1 _) F.entry_list_init
  (code_list_new _ ⟨rfl,rfl⟩) fun obj s₁ h₁=>?_
 obtain⟨rfl,rfl⟩:=h₁
 have hS:(s.heap.push { cls:=.type "list",data:=.seq #[]}).get? s.heap.objs.size=aa { cls:=.type "list",data:=.seq #[]}:=aG _ rfl
 refine⟨⟨_,hS,rfl⟩,F.args_list_init_2 _ _,init_rev (A:=A.in1) (I:=I) (l:=l) (items:=items) (s:={ s with heap:=s.heap.push { cls:=.type "list",data:=.seq #[]}}) hh hne (hit.at fun o e=>aj _ e) (hl.at fun o e=>aj _ e) hsz hS (lt _ _ eI) (lt _ _ eL) fun s' acc c' hk hg hd hos hS' hacc=>⟨rfl,?_⟩⟩
 obtain⟨h',g',d',tk',os'⟩:=s'
 cases (show g'=s.gens from hg)
 cases (show d'=s.drawn from hd)
 cases (show os'=s.os from hos)
 exact h h' tk' c' acc (fun b o hb e=>hk b o hb (cx (lt _ _ e)) (aj _ e)) hS' hacc
end
section
variable {X:Cx}{e tg:Expr}{t:TE}{p p1 pos pos1:Pos}
def tLRv(K:ah)(t:TE):TE:=fun σ H Q=>t σ H fun x H1=>∃ a xs,x=.ref a/\SqL K H1 a xs/\∀ q,H1 q=ab->Q (.ref q) (upd H1 q (.lst xs.reverse))
theorem pe_lrv(hc:X.calm=true)(he:PE X e t)(hg:Gl X "list")(hm:X.mg "list" = ab)(hv:a9 "list" = aa (.type "list"))(hg1:Gl X "reversed")(hm1:X.mg "reversed" = ab)(hv1:a9 "reversed" = aa (.type "reversed"))
  (h1:bj [e] X.env=(false,eval e X.env) :: bj [] X.env) (h2:bj [lP (.Name "reversed" p1) [e] [] pos1] X.env=(false,eval (.Call (.Name "reversed" p1) [e] [] pos1) X.env) :: bj [] X.env) :
  PE X (.Call (.Name "list" p) [.Call (.Name "reversed" p1) [e] [] pos1] [] pos) (tLRv X.K t):=by
 intro pins s σ H Q I h
 refine cC (zdz I hg hm hv ?_ (by decide) (by decide))
 refine cB ?_ h2 rfl
 rw[h2]
 refine gi (rest:=backTo pos (bj [] X.env)) ?_
 refine cC (zdz I hg1 hm1 hv1 ?_ (by decide) (by decide))
 refine cB ?_ h1 rfl
 refine thn (zhq he pa_nil h1 pos1 pins s σ H (one fun x H1=>∃ a xs,x=.ref a/\SqL X.K H1 a xs/\∀ q,H1 q=ab->Q (.ref q) (upd H1 q (.lst xs.reverse))) I ?_) ?_
 ·exact(show t σ H _ from h)
 ·rintro us s1 ⟨xs,H1,I1,r1,qx⟩
  obtain⟨x,rfl,a,vs,rfl,hq,kk⟩:=zia qx
  cases r1 with
  | cons r1 rn=>
   cases rn
   cases r1
   obtain⟨its,rv,pl,hz⟩:=I1.list hq
   have hs:its.toArray.size<=be:=by have:=rv.length;simp;lia
   have hl:=pl.isList
   have hlt:a<s1.heap.objs.size:=by obtain⟨o,e,_⟩:=hl;exact aH e
   refine call_reversed_list hl ?_
   refine gI ?_
   refine zga (I:=s1.heap.objs.size) (l:=a) (items:=its.toArray) (I.ok.hd hc) (bf hlt) ⟨_,aG _ rfl,rfl,rfl⟩ (hl.at fun o e=>aj _ e) hs fun h' tk c acc old hS ha=>?_
   have old':∀ b o,s1.heap.get? b=aa o->h'.get? b=aa o:=fun b o e=>old b o (bf (aH e)) (aj _ e)
   have hle:s1.heap.objs.size<=(s1.heap.push { cls:=.type "list_reverseiterator",data:=.fields #[.ref a,.int ((its.toArray.size:Int) - 1) 0]}).objs.size:=by rw[b9];exact cE _
   refine⟨.ref _,_,I1.laid (t':=tk) (o:=.lst vs.reverse) old' ?_ ⟨?_,acc.toList,c,rev_vals rv ha,?_⟩,rfl,kk _ (I1.hok.fresh ?_)⟩
   ·rw[b9];exact cE _
   ·rw[i6];exact hz
   ·simpa using hS
   ·rw[b9];exact cE _
theorem op_fdivB:OpR X (binaryOp .FloorDiv) (rI (fun _ j=>0<j/\j<18446744073709551616) fun i j=>.int (i / j)):=opI fun i j _ _ _ _ _ hc q=>by
 have h1:(0:Int)<j:=hc.1
 have h2:j<18446744073709551616:=hc.2
 refine floordiv_int (by lia) (by rw[gz i (by lia)];exact q) (.inl (PyProof.noPylong_of_log2 ?_))
 refine aZ ((Nat.log2_lt (by lia)).mpr (show j.natAbs<2 ^ 64 by lia)) (by decide)
def Itd(a:af)(o:Obj)(ks:List Str)(vs:List V):It:=⟨fun i H=>H a=aa (.frz o (.dK ((ks.map bp).zip vs)))/\i<ks.length,fun i H x H'=>H'=H/\∃ z,ks[i]? = aa z/\x=.str z,fun i H=>H a=aa (.frz o (.dK ((ks.map bp).zip vs)))/\ks.length<=i⟩
theorem kv_keys:∀ {ks:List Str} {vs:List V} {us:List (Key × ae)},ks.length=vs.length->KV ((ks.map bp).zip vs) us->us.map (·.1)=ks.map bp
 | [],[],us,_,r=>by
  unfold KV at r
  cases r
  rfl
 | x :: ks,v :: vs,us,hl,r=>by
  unfold KV at r
  rw[aE,b8] at r
  cases r with
  | cons h t=>rw[aE,aE,kv_keys (by simpa using hl) t,<- h.1]
theorem Inv.frzD{pins:List (af × Obj)}{σ:St}{H:Hp}{s:ag}{a:af}{o:Obj}{ks:List Str}{vs:List V}(I:Inv X pins σ H s)(e:H a=aa (.frz o (.dK ((ks.map bp).zip vs))))(hl:ks.length=vs.length) :
  (a == sysModules)=false/\∃ (us:List (Key × ae)) (es:Array DictEntry) (ep:Nat),o.data=.dict es ep/\us.map (·.1)=ks.map bp/\s.heap.DictAt (zc6 X.prog X.w) a us ep:=by
 obtain⟨h1,_,hd,us,r,o',es,ep,h2,h3,h4,h5⟩:=I.hok a _ e
 rw[h1] at h2
 cases h2
 exact⟨hd,us,es,ep,h4,kv_keys hl r,_,es,h1,h3,h4,h5⟩
theorem turn_dic{P:aL}{w:aX}{K:ah}{a it:af}{o:Obj}{ks:List Str}{vs:List V}{es:Array DictEntry}{ep:Nat}(hl:ks.length=vs.length)(ho:o.data=.dict es ep) :
  Turn P w K tg (Itd a o ks vs) [it] it (fun i h=>h.IsKeyIter it a i ks.length ep) where
 mem:=by simp
 obj:=fun i h st b hb=>by
  have e:b=it:=by simpa using hb
  subst e
  obtain⟨o,e,c,d⟩:=st
  exact⟨o,e,fun v z=>by rw[d] at z;cases z⟩
 keep:=fun i h h' st k=>st.at fun o e=>k it (by simp) o e
 item:=by
  intro X hP hw hK hc i pins s σ H E I hf st hg
  subst hP hw hK
  obtain⟨f0,f1,f2,f3,f4,f5⟩:=hf it (by simp)
  obtain⟨hg1,hg2⟩:=(show _/\_ from hg)
  obtain⟨_,us,es',ep',h4,hk,hd⟩:=I.frzD hg1 hl
  rw[ho] at h4
  cases h4
  have hu:us.length=ks.length:=by have:=congrArg gh hk;simpa using this
  have hlt:i<us.length:=by lia
  rw[<- hu] at st
  refine wpAny_pyNext_dict_item (knd:=zc6 X.prog X.w) (k:=us[i].1) (v:=us[i].2) st hd (by rw[aU hlt]) fun key h' hk' st' sb=>?_
  have hz:us[i].1=bp ks[i]:=by
   have:=congrArg (fun l=>l[i]?) hk
   simp only[aD,aU hlt,aU hg2,cJ,lU] at this
   exact this
  rw[hz] at hk'
  have hk2:keyIs (bp ks[i]) key=true:=hk'
  rcases za8 hk2 with ⟨_,_,z,_⟩ | ⟨z,t,e1,e2⟩
  ·cases z
  ·cases e1
   subst e2
   have I1:Inv X pins σ H { s with heap:=h'}:=I.turned (t':=s.toks) (fun b o hb e=>(sb.2 b hb).trans e) f0 f1 f3 f4 f5
   rw[hu] at st'
   exact⟨_,rfl,letGo_keyiter (s':={ s with heap:=h'}) st' ⟨.str ks[i],H,I1,⟨t,rfl⟩,⟨rfl,_,aU hg2,rfl⟩,st',fun b hb=>(hf b hb).1⟩⟩
 done:=by
  intro X hP hw hK hc i pins s σ H E I hf st hg
  subst hP hw hK
  obtain⟨f0,f1,f2,f3,f4,f5⟩:=hf it (by simp)
  obtain⟨hg1,hg2⟩:=(show _/\_ from hg)
  obtain⟨_,us,es',ep',h4,hk,hd⟩:=I.frzD hg1 hl
  rw[ho] at h4
  cases h4
  have hu:us.length=ks.length:=by have:=congrArg gh hk;simpa using this
  rw[<- hu] at st
  exact wpAny_pyNext_dict_end (knd:=zc6 X.prog X.w) (I.ok.hd hc) st hd (dm (by lia)) fun h' eb=>⟨rfl,I.turned (t':=s.toks) (fun b o hb e=>eb b o hb e) f0 f1 f3 f4 f5⟩
 self:=fun _ _ _ _ _ st h=>wpAny_pyIter_keyiter st h
def iDk(tl:TE):TI:=fun σ H R=>tl σ H fun x H1=>∃ a o ks vs,x=.ref a/\ks.length=vs.length/\H1 a=aa (.frz o (.dK ((ks.map bp).zip vs)))/\R (Itd a o ks vs) H1
theorem pi_dic{l:Expr}{tl:TE}(hl:PE X l tl):PI X tg l (iDk tl):=by
 intro pins s σ H R I h
 refine thn (hl pins s σ H _ I h) fun v s1 ⟨x,H1,I1,r1,q1⟩=>?_
 obtain⟨a,o,ks,vs,e,hl',ha,q⟩:=q1
 subst e
 cases r1
 obtain⟨hs,us,es,ep,h4,hk,hd⟩:=I1.frzD ha hl'
 have hu:us.length=ks.length:=by have:=congrArg gh hk;simpa using this
 refine wpAny_pyIter_dict (knd:=zc6 X.prog X.w) hs hd ?_
 refine⟨s1.heap.objs.size,[s1.heap.objs.size],_,_,H1,rfl,I1.kept (t':=s1.toks) fun b o e=>aj _ e,turn_dic hl' h4,⟨_,aG _ rfl,rfl,by rw[hu];rfl⟩,fun b hb=>?_,q⟩
 have e:b=s1.heap.objs.size:=by simpa using hb
 subst e
 exact I1.fpOk (ak _) (I1.hok.fresh (ak _))
end
end L2
namespace L3
open PySem PySem.Spec PyProof.Rows L2
def gLstRev:Ent->Option Ent:=fun x=>(asL x).bind fun ds=>aa (.own ds.reverse)
def zgz:List Ent->Option Ent
 | [x,y]=>(iOf x).bind fun i=>(iOf y).map fun j=>.val (.int (if j > i then j else i))
 | _=>ab
noncomputable def gDivB:=pI (fun _ j=>0<j/\j<18446744073709551616) fun i j=>.int (i / j)
def iD(fe:FE):FI:=fun δ=>(fe δ).bind fun x=>(dOf x).map fun p=>p.1.map D.str
section
variable {X:Cx}{e tg:Expr}{fe:FE}{p p1 pos pos1:Pos}
theorem vLstRev(he:VE X e fe)(hg:Gl X "list")(hm:X.mg "list" = ab)(hv:a9 "list" = aa (.type "list"))(hg1:Gl X "reversed")(hm1:X.mg "reversed" = ab)(hv1:a9 "reversed" = aa (.type "reversed"))(hc:X.calm=true:=by rfl)(h1:zao e=true:=by rfl) :
  VE X (.Call (.Name "list" p) [.Call (.Name "reversed" p1) [e] [] pos1] [] pos) (ex1 gLstRev fe):=by
 obtain⟨t,w,m⟩:=he.h
 refine⟨_,⟨pe_lrv hc w.h hg hm hv hg1 hm1 hv1 (zau h1) (zau rfl)⟩,fun B F H σ δ res Q s q k=>?_⟩
 obtain⟨en,q1,q⟩:=bind_some q
 refine m B F H σ δ en _ s q1 fun v F1 H1 x1 r1=>?_
 obtain⟨ds,q2,q3⟩:=bind_some q
 cases q3
 obtain⟨l,vs,rfl,hs,rs⟩:=r1.toL x1.fh q2
 refine⟨l,vs,rfl,hs,fun r hr=>?_⟩
 exact k _ F1 _ (x1.trans (Ex.lay x1.fh hr)) ⟨r,_,rfl,x1.hh.free hr,zah,rs.rev,x1.fh.free hr⟩
theorem zib(hc:X.calm=true:=by rfl):zet X (.builtin "max") zgz:=⟨_,call_max2 hc,fun H0 F H vs es res Q fh hh r q k=>by
 match es,q with
 | [x,y],q=>
  obtain⟨i,q1,q⟩:=bind_some q
  obtain⟨j,q2,q⟩:=map_some q
  cases zaS q1
  cases zaS q2
  cases q
  cases r with
  | cons r1 r=>
   cases r with
   | cons r2 r=>
    cases r
    cases za9 r1
    cases za9 r2
    exact⟨i,j,rfl,k _ F H (Ex.refl fh) (.int _)⟩⟩
theorem o_divB:OpD X (binaryOp .FloorDiv) gDivB:=⟨_,op_fdivB,semI (fun _ _ h=>h) fun _ _ _=>.int _⟩
theorem itOk_dic{B F0:Hp}{a:af}{o:Obj}{ks:List Str}{vs:List V}(h:F0 a=aa (.frz o (.dK ((ks.map bp).zip vs)))):ItOk B F0 (Itd a o ks vs) (ks.map D.str):=fun F H s1 s2 s3=>by
 have h':=s2 _ _ (s1 _ _ h)
 refine⟨⟨h',by simp⟩,fun i d e=>?_⟩
 rw[aD] at e
 by_cases hi:i<ks.length
 ·rw[aU hi] at e
  cases e
  refine⟨⟨h',hi⟩,fun x H' y=>?_⟩
  obtain⟨e',z,hz,y⟩:=y
  rw[aU hi] at hz
  cases hz
  subst e' y
  exact⟨F,Ex.refl s2,.str _⟩
 ·rw[dm (by lia)] at e;cases e
theorem iid(he:VE X e fe):VI X tg e (iD fe):=by
 obtain⟨t,w,m⟩:=he.h
 refine⟨_,⟨pi_dic w.h⟩,fun B F H σ δ ds R s q k=>?_⟩
 obtain⟨x,q1,q⟩:=bind_some q
 obtain⟨p,q2,q⟩:=map_some q
 cases q
 cases zeG q2
 refine m B F H σ δ _ _ s q1 fun v F1 H1 x1 r1=>?_
 cases (show Rep F1 v (.dic p.1 p.2) from r1) with
 | @dic a o ks vs ds e1 hl rs=>exact⟨a,o,p.1,vs,rfl,hl,x1.fh _ _ e1,k _ F1 H1 x1 (itOk_dic e1)⟩
end
end L3

namespace L2
open PySem PySem.Spec PyProof.Rows
structure CompSk(X:Cx)(N:List Str)(k:Nat)(fr:List Nat)(scope:Scope):Prop where
 kind:scope.kind=.function
 chk:(scope.names.all fun y=>match y.2 with
  | .cell=>false
  | .local=>scope.names.lookup y.1 == aa .local
  | .free=>X.env.scope.names.lookup y.1 == aa .cell || X.env.scope.names.lookup y.1 == aa .free
  | _=>true)=true
 len:N.length=k+fr.length
 nm:(N.drop k).map aa=fr.map (fun i=>X.N[i]?)
 nf:((N.drop k).all fun y=>scope.names.lookup y == aa .free)=true
section
variable {prog:aL}{w:aX}{A:aS}{R:Result->ag->Prop}{s:ag}
theorem zg8{elt tg iter:Expr}{ifs:List Expr}{scope:Scope}{pos:Pos}{it acc:ae}{env:Env}(J:Nat->ag->Prop)
  (one:∀ k z,J k z->aw (model prog w) A (pyNext it) (fun got z1=>match got with
   | none=>R (.ok .next) z1
   | some u=>aw (model prog w) A (letOwnedTupleGo tg it u) (fun _ z2=>aw (model prog w) A (assign tg env u) (fun _ z3=>
     aw (model prog w) A (forIn ifs true fun c r=>if r=true then do let ok <- isTrue c env (eval c env);pure (fY ok) else pure (fY r)) (fun yes z4=>
      if yes=true then aw (model prog w) A (eval elt env) (fun y z5=>aw (model prog w) A (call (.builtin "list.append") [acc,y]) (fun _ z6=>∃ j,j<k/\J j z6) (notedBy (model prog w) A env fun x z'=>R (.error x) z') z5) (notedBy (model prog w) A env fun x z'=>R (.error x) z') z4
      else ∃ j,j<k/\J j z4) (notedBy (model prog w) A env fun x z'=>R (.error x) z') z3) (notedBy (model prog w) A env fun x z'=>R (.error x) z') z2) (notedBy (model prog w) A env fun x z'=>R (.error x) z') z1) (notedBy (model prog w) A env fun x z'=>R (.error x) z') z)
  (k:Nat) (h:J k s):codeAny (model prog w) A (.compLoop (.ListComp elt [⟨tg,iter,ifs,0⟩] scope pos) 0 it acc env) R s:=by
 refine codeAny_loop rfl J (fun k z hz=>?_) k h
 show aw _ A ((compTurn (.ListComp elt [⟨tg,iter,ifs,0⟩] scope pos) 0 it acc env).onRaise _) _ _ z
 refine wpAny_noted ?_
 rw[compTurn_list]
 refine ai (wpAny_standAt (ai (thn (one k z hz) fun got z1 h1=>?_)))
 cases got with
 | none=>exact ar h1
 | some u=>
  refine ai (thn h1 fun _ z2 h2=>ai (thn h2 fun _ z3 h3=>ai (thn h3 fun yes z4 h4=>?_)))
  cases yes with
  | false=>exact ar ⟨rfl,h4⟩
  | true=>exact ai (ai (thn h4 fun y z5 h5=>ai (thn h5 fun _ z6 h6=>ar (ar ⟨rfl,h6⟩))))
end
section
variable {X:Cx}{N:List Str}{k:Nat}{fr:List Nat}{scope:Scope}
theorem CompSk.ncell(S:CompSk X N k fr scope):∀ y ∈ scope.names,y.2 ≠ .cell:=fun y hy e=>by
 have h:=cZ.mp S.chk y hy
 obtain⟨n,q⟩:=y
 cases (show q=.cell from e)
 exact absurd h (by simp)
theorem CompSk.loc(S:CompSk X N k fr scope):∀ y ∈ scope.names,y.2=.local->scope.names.lookup y.1=aa .local:=fun y hy e=>by
 have h:=cZ.mp S.chk y hy
 obtain⟨n,q⟩:=y
 cases (show q=.local from e)
 exact za3 h
theorem CompSk.free(S:CompSk X N k fr scope):∀ y ∈ scope.names,y.2=.free->X.env.kindOf y.1=aa .cell \/ X.env.kindOf y.1=aa .free:=fun y hy e=>by
 have h:=cZ.mp S.chk y hy
 obtain⟨n,q⟩:=y
 cases (show q=.free from e)
 exact(iX.mp (show(X.env.scope.names.lookup n == aa .cell || X.env.scope.names.lookup n == aa .free)=true from h)).imp za3 za3
variable {pins:List (af × Obj)}{σ:St}{H:Hp}{s:ag}
theorem comp_invK(S:CompSk X N k fr scope){fp:List af}{h₁:ba}{tk:Nat}(I:Inv X pins σ H s)(hf:∀ b ∈ fp,zg7 X pins H b)(hfo:∀ b ∈ fp,b<s.heap.objs.size)
  (hns:h₁.Ns s.heap.objs.size fun y=>([]:List (Str × ae)).reverse.lookup y) (old:∀ b o,s.heap.get? b=aa o->h₁.get? b=aa o) :
  Inv (cxC X N scope s.heap.objs.size s H fp) [] (aF k ab ++ zem fr σ) H { s with heap:=h₁,toks:=tk}:=by
 have sub:∀ y c,(zh0 X.env scope.names).lookup y=aa c->X.env.cells.lookup y=aa c:=zgS scope.names [] (fun _ _ z=>by cases z)
 have has:∀ y,(y,bD) ∈ scope.names->∃ c,(zh0 X.env scope.names).lookup y=aa c:=fun y hy=>cl_has scope.names [] y (I.ok.has y (S.free _ hy rfl)) (.inr hy)
 have celK:∀ c v,s.heap.IsCell c v->h₁.IsCell c v:=fun c v ⟨o,ho,hd⟩=>⟨o,old c o ho,hd⟩
 refine⟨⟨I.ok.mod,S.kind,I.ok.glob,I.ok.blt,ak _,fun y z c h1 h2=>I.ok.inj y z c (sub y c h1) (sub z c h2),fun y hy=>has y (bW (zc9 S.ncell hy)),fun y c hy _=>(by cases hy),I.ok.hd,I.ok.frames,.inl rfl,fun b hb=>⟨bf (hfo b hb),fun y c e=>(hf b hb).2.2.2.2.1 y c (sub y c e)⟩,
  I.bs,aJ I.ok.bsz I.sz,fun b o e hb=>?_,fun b hb hfs=>?_,I.stack,I.stkFree⟩,rfl,I.bare,Un.kept old,⟨_,hns,fun i y v e1 e2 e3=>?_⟩,fun y c e=>?_,I.hok.fresh (ak _),fun y c e=>I.freeC y c (sub y c e),fun p hp=>absurd (show p ∈ ([]:List (af × Obj)) from hp) (by simp),I.hok.kept old,?_⟩
 ·rcases (hf b hb).2.2.2.1 with z | z
  ·exact I.ok.noex b o e z
  ·exact absurd (aZ (aH e) (aJ I.ok.bsz z)) (ca _)
 ·exact(aN.mp (I.stkSub b hfs)).elim (hf b hb).2.1 (hf b hb).2.2.1
 ·by_cases hi:i<k
  ·rw[b6 (by rw[c6];exact hi),dM,if_pos hi] at e2
   cases e2
  ·rw[cD (by rw[c6];lia),c6] at e2
   have e1':N[i]? = aa y:=e1
   have d1:(N.drop k)[i - k]? = aa y:=by rw[gw,show k+(i - k)=i by lia];exact e1'
   have q1:((N.drop k).map aa)[i - k]? = aa (aa y):=by rw[aD,d1];rfl
   rw[S.nm,aD] at q1
   unfold zem at e2
   rw[aD] at e2
   cases q:fr[i - k]? with
   | none=>rw[q] at q1;cases q1
   | some i'=>
    rw[q] at q1 e2
    have n1:X.N[i']? = aa y:=bg q1
    have n2:(σ[i']?).join=aa v:=bg e2
    have n3:σ[i']? = aa (aa v):=by
     cases q':σ[i']? with
     | none=>rw[q'] at n2;cases n2
     | some o=>rw[q'] at n2;rw[show o=aa v from n2]
    have hfree:scope.names.lookup y=aa .free:=za3 (cZ.mp S.nf y (da d1))
    have hk:=S.free _ (bW hfree) rfl
    obtain⟨m,hn,hl⟩:=I.loc
    obtain⟨u,r,l⟩:=hl i' y v n1 n3 (hk.elim (fun z=>.inr (.inl z)) fun z=>.inr (.inr z))
    refine⟨u,r,.inr ⟨zdb hfree,?_⟩⟩
    rcases l with ⟨kd,_⟩ | ⟨_,c,ec,hc⟩
    ·rcases hk with z | z <;> (rw[show X.env.kindOf y=aa .local from kd] at z;cases z)
    ·obtain⟨c',ec'⟩:=has y (bW hfree)
     cases (bg ((sub y c' ec').symm.trans ec))
     exact⟨_,ec',celK _ _ hc⟩
 ·obtain⟨v,z⟩:=I.cell y c (sub y c e)
  exact⟨v,celK c v z⟩
 ·show(aF k ab ++ zem fr σ).length=N.length
  rw[S.len]
  simp[zem]
end
def lcG(k:Nat)(fr:List Nat)(g:TG)(tt:TT)(te:TE)(J:It)(σ:St)(H1:Hp)(R:af->Hp->Prop):Prop:=
 ∀ a,H1 a=ab->∃ W:Nat->Nat->List V->St->Hp->Prop,(∃ m,W 0 m [] (aF k ab ++ zem fr σ) (upd H1 a (.lst [])))/\∀ i m ys τ H,W i m ys τ H ->
  (J.stop i H/\R a H) \/ (J.go i H/\∀ x H',J.yld i H x H'->g x τ H' fun τ' H2=>tt τ' H2 fun b H3=>
   if b=true then te τ' H3 fun y H4=>H4 a=aa (.lst ys)/\ys.length<be/\∃ m',m'<m/\W (i+1) m' (ys ++ [y]) τ' (upd H4 a (.lst (ys ++ [y])))
   else ∃ m',m'<m/\W (i+1) m' ys τ' H3)
def tLG(k:Nat)(fr:List Nat)(wi:TI)(g:TG)(tt:TT)(te:TE):TE:=fun σ H Q=>wi σ H fun J H1=>lcG k fr g tt te J σ H1 fun a H2=>Q (.ref a) H2
section
variable {X:Cx}{N:List Str}{k:Nat}{fr:List Nat}{scope:Scope}{iter elt tg:Expr}{ifs:List Expr}{pos:Pos}{wi:TI}{g:TG}{te:TE}{tt:TT}
theorem pe_lg(S:CompSk X N k fr scope)(hc:X.calm=true)(hi:PI X tg iter wi)
  (hg:∀ (C:af) (s₀:ag) (H₀:Hp) (fp:List af),PG (cxC X N scope C s₀ H₀ fp) tg g)
  (ht:∀ (C:af) (s₀:ag) (H₀:Hp) (fp:List af),PTs (cxC X N scope C s₀ H₀ fp) ifs tt) (he:∀ (C:af) (s₀:ag) (H₀:Hp) (fp:List af),PE (cxC X N scope C s₀ H₀ fp) elt te)
  (hs:∀ z,cg iter X.env z=pure z:=by intro _;rfl):PE X (.ListComp elt [⟨tg,iter,ifs,0⟩] scope pos) (tLG k fr wi g tt te):=by
 intro pins s σ H Q I h
 rw[eval_ListComp]
 refine wpAny_comprehension_free (use:=ab) (cl:=zh0 X.env scope.names) rfl hs (zfs fun y hy e=>I.ok.has y.1 (S.free y hy e)) S.kind S.loc (thn (hi pins s σ H _ I h) fun xv s1 h1=>thn h1 fun itv s2 h2=>?_)
 obtain⟨it,fp,tn,J,H2,e,I2,T,st2,f2,q⟩:=h2
 subst e
 refine wpAny_newObj_type (wpAny_newFunctionEnv S.ncell (by intro y hy;simp at hy) (fun h₁ hns₁ hsb₁=>?_) S.kind)
 obtain⟨W,⟨m0,w0⟩,turn⟩:=q _ (I2.hok.fresh (ak _))
 have hfo:∀ b ∈ fp,b<s2.heap.objs.size:=fun b hb=>let⟨_,e,_⟩:=T.obj 0 _ st2 b hb;aH e
 have I3:Inv X pins σ (upd H2 s2.heap.objs.size (.lst [])) { s2 with heap:=s2.heap.push { cls:=.type "list",dict:=ab,data:=.seq ([]:List ae).toArray}}:=
  I2.laid (t':=s2.toks) (fun b o e=>aj _ e) (ak _) ⟨aO _,[],_,.nil,aG _ rfl⟩
 have f3:∀ b ∈ fp,zg7 X pins (upd H2 s2.heap.objs.size (.lst [])) b:=fun b hb=>⟨by rw[zak (bf (hfo b hb))];exact(f2 b hb).1,(f2 b hb).2⟩
 have st3:tn 0 (s2.heap.push { cls:=.type "list",dict:=ab,data:=.seq ([]:List ae).toArray}):=T.keep 0 s2.heap _ st2 fun b hb o e=>aj _ e
 generalize hs3:({ s2 with heap:=s2.heap.push { cls:=.type "list",dict:=ab,data:=.seq ([]:List ae).toArray}}:ag)=s3 at *
 replace st3:tn 0 s3.heap:=by rw[<- hs3];exact st3
 generalize hHD:upd H2 s2.heap.objs.size (.lst [])=H3 at *
 generalize hD:s2.heap.objs.size=D at *
 have hfo3:∀ b ∈ fp,b<s3.heap.objs.size:=fun b hb=>let⟨_,e,_⟩:=T.obj 0 _ st3 b hb;aH e
 have old:∀ b o,s3.heap.get? b=aa o->h₁.get? b=aa o:=fun b o e=>hsb₁.extBut b o (bf (aH e)) (aj _ e)
 have st1:tn 0 h₁:=T.keep 0 s3.heap h₁ st3 fun b hb o e=>old b o e
 have stat:∀ {pins':List (af × Obj)} {H':Hp},(∀ b ∈ fp,H' b=ab)->(∀ b ∈ fp,∀ p ∈ pins',p.1 ≠ b)->∀ b ∈ fp,zg7 (cxC X N scope s3.heap.objs.size s3 H3 fp) pins' H' b:=fun {pins' H'} hn hp b hb=>by
  refine⟨hn b hb,bf (hfo3 b hb),fun z=>?_,.inl hb,fun y c e=>(f3 b hb).2.2.2.2.1 y c (zgS scope.names [] (fun _ _ z=>by cases z) y c e),fun p hp'=>hp b hb p (by simpa [cxC] using hp')⟩
  exact(aN.mp (I3.stkSub b z)).elim (f3 b hb).2.1 (f3 b hb).2.2.1
 have loop:∀ s4:ag,Inv (cxC X N scope s3.heap.objs.size s3 H3 fp) [] (aF k ab ++ zem fr σ) H3 s4->tn 0 s4.heap ->
   codeAny (model X.prog X.w) X.A (.compLoop (.ListComp elt [⟨tg,iter,ifs,0⟩] scope pos) 0 (.ref it) (.ref D) (compEnvC scope (zh0 X.env scope.names) s3.heap.objs.size X.env)) (compPost (model X.prog X.w) X.A X.xe ab (EP X pins σ Q) (.ref D) s3.heap.objs.size) s4:=by
  intro s4 I4 st4
  refine zg8 (fun n s'=>∃ i ys τ H',Inv (cxC X N scope s3.heap.objs.size s3 H3 fp) [] τ H' s'/\tn i s'.heap/\(∀ b ∈ fp,H' b=ab)/\W i n ys τ H') ?_ m0
   ⟨0,[],_,_,I4,st4,fun b hb=>(f3 b hb).1,w0⟩
  rintro n s5 ⟨i,ys,τ,H5,I5,st5,fr5,w5⟩
  rcases turn i n ys τ H5 w5 with ⟨stop,qn⟩ | ⟨go,step⟩
  ·refine bU (T.done (cxC X N scope s3.heap.objs.size s3 H3 fp) rfl rfl rfl hc i [] s5 _ H5 (fun _ _=>False) I5 (stat fr5 (by simp)) st5 stop) (fun r s6 hr6=>?_) fun _ _ z=>z.elim
   obtain⟨hr,I6⟩:=hr6
   subst hr
   obtain⟨m,hn,_⟩:=id I6.loc
   refine⟨m,hn,fun h' hsb=>⟨.ref D,H5,?_,rfl,qn⟩⟩
   refine(zfp I3 f3 I6).turned (t':=s6.toks) (fun b o hb e=>(hsb.2 b hb).trans e) I6.free (eR I3.lt) (.inr I3.sz) ?_ ?_
   ·intro y c e z
    obtain⟨v,qc⟩:=I3.cell y c e
    exact absurd qc.lt (by rw[z];exact ca _)
   ·intro p hp z
    exact absurd (aH (I3.pin p hp).1) (by rw[z];exact ca _)
  ·refine bU (T.item (cxC X N scope s3.heap.objs.size s3 H3 fp) rfl rfl rfl hc i [] s5 _ H5 (fun _ _=>False) I5 (stat fr5 (by simp)) st5 go) (fun r s6 hr6=>?_) fun _ _ z=>z.elim
   obtain⟨u,hr,h6⟩:=hr6
   subst hr
   refine bU h6 (fun _ s7 h7=>?_) fun _ _ z=>z.elim
   obtain⟨y,H7,I7,r7,y7,st7,fr7⟩:=h7
   have I7':=I7.pinned (stat fr7 (by simp)) (T.obj _ _ st7)
   refine bU (hg _ _ _ _ _ s7 _ H7 y u _ I7' r7 (step y H7 y7)) (fun _ s8 h8=>?_) fun _ _ z=>z.elim
   obtain⟨τ8,H8,I8,q8⟩:=h8
   refine bU (ht _ _ _ _ _ s8 _ H8 _ I8 q8) (fun ok s9 h9=>?_) fun _ _ z=>z.elim
   obtain⟨H9,I9,q9⟩:=h9
   have again:∀ {s':ag} {H':Hp},Inv (cxC X N scope s3.heap.objs.size s3 H3 fp) ([] ++ zfb fp s7.heap) τ8 H' s' ->
     Inv (cxC X N scope s3.heap.objs.size s3 H3 fp) [] τ8 H' s'/\tn (i+1) s'.heap/\∀ b ∈ fp,H' b=ab:=fun {s' H'} I'=>by
    refine⟨I'.unpinned,T.keep _ _ _ st7 fun b hb o e=>(I'.pin (b,o) (aA _ (aA _ (zcz hb e)))).1,fun b hb=>?_⟩
    obtain⟨o,e,d⟩:=T.obj _ _ st7 b hb
    exact(I'.pin (b,o) (aA _ (aA _ (zcz hb e)))).2.1
   cases ok with
   | false=>
    rw[if_neg a8] at q9 ⊢
    obtain⟨m',hm,w9⟩:=q9
    obtain⟨a1,a2,a3⟩:=again I9
    exact⟨m',hm,i+1,ys,τ8,H9,a1,a2,a3,w9⟩
   | true=>
    rw[if_pos rfl] at q9 ⊢
    refine bU (he _ _ _ _ _ s9 _ H9 _ I9 q9) (fun zv s10 h10=>?_) fun _ _ z=>z.elim
    obtain⟨z,H10,I10,rz,hz,hlt,m',hm,w10⟩:=h10
    refine bU (zd0 (X:=cxC X N scope s3.heap.objs.size s3 H3 fp) _ s10 _ H10 (.ref D) [z] (.ref D) [zv] (fun _ H'=>H'=upd H10 D (.lst (ys ++ [z]))) I10 rfl (.cons rz .nil)
     ⟨_,ys,z,rfl,rfl,hz,hlt,rfl⟩) (fun _ s11 h11=>?_) fun _ _ z=>z.elim
    obtain⟨_,H11,I11,_,e11⟩:=h11
    subst e11
    obtain⟨a1,a2,a3⟩:=again I11
    exact⟨m',hm,i+1,ys ++ [z],τ8,_,a1,a2,a3,w10⟩
 have I4:=comp_invK S (tk:=s3.toks) I3 f3 hfo3 hns₁ old
 exact codeAny_compStart_list (loop _ I4 st1) (T.self _ 0 _ _ _ st1 (loop _ I4 st1))
end
end L2
namespace L3
open PySem PySem.Spec PyProof.Rows L2
def two:D->Option (D × D)
 | .tup [a,b]=>aa (a,b)
 | _=>ab
theorem two_some{d:D}{p:D × D}(h:two d=aa p):d=.tup [p.1,p.2]:=by
 unfold two at h
 split at h
 ·cases h;rfl
 ·cases h
def ziC(fr:List Nat)(δ:En)(d d':D):En:=aa (.val d) :: aa (.val d') :: fr.map fun i=>((δ[i]?).join).bind capt
def eL2(fr:List Nat)(fi:FI)(ft:FT)(fe:FE):FE:=fun δ=>(fi δ).bind fun ds=>(zcv (fun d=>(two d).bind fun p=>ft (ziC fr δ p.1 p.2)) (fun d=>(two d).bind fun p=>fe (ziC fr δ p.1 p.2)) ds).bind fun out=>if out.length<=1000000 then aa (.own out) else ab
theorem RS.cap2{K:ah}{B:Bd}{F H:Hp}{σ:Sg}{δ:En}{v v':V}{d d':D}(s:RS K B F H σ δ)(fr:List Nat)(r:Rep F v d)(r':Rep F v' d'):RS K B F H (aa v :: aa v' :: zem fr σ) (ziC fr δ d d'):=by
 have c:=s.cap fr r'
 refine⟨c.fh,c.bh,by simp[ziC,zem],fun j e h=>?_,fun a b l ds e hab h1 h2 h3 h4=>?_,fun a b e1 e2 v1 v2 ad hab q1 q2 q3 q4 q5=>?_,fun w o _ ho=>by cases ho⟩
 ·cases j with
  | zero=>cases h;exact⟨v,rfl,r⟩
  | succ j=>exact c.ent j e h
 ·cases a with
  | zero=>cases h1
  | succ a=>
   cases b with
   | zero=>cases h3;cases h4
   | succ b=>exact c.ap a b l ds e (fun z=>hab (by rw[z])) h1 h2 h3 h4
 ·cases a with
  | zero=>cases q1;cases q5
  | succ a=>
   cases b with
   | zero=>cases q3;exact fun _ z=>z
   | succ b=>exact c.ao a b e1 e2 v1 v2 ad (fun z=>hab (by rw[z])) q1 q2 q3 q4 q5
theorem SemE.l2{K:ah}{fr:List Nat}{wi:TI}{tt:TT}{te:TE}{fi:FI}{ft:FT}{fe:FE}(mi:SemI K wi fi)(mt:SemT K tt ft)(me:SemE K te fe):SemE K (tLG 2 fr wi (gTup K 2 (gCons (zge 0) (gCons (zge 1) gNil))) tt te) (eL2 fr fi ft fe):=fun B F H σ δ res Q s q k=>by
 obtain⟨ds,q1,q⟩:=bind_some q
 obtain⟨out,q2,q⟩:=bind_some q
 split at q
 ·rename_i hlen
  cases q
  refine mi B F H σ δ ds _ s q1 fun J F1 H1 x1 io=>?_
  intro a ha
  refine⟨fun i m ys τ H'=>m=ds.length - i/\i<=ds.length/\(∃ o1 o2,τ=o1 :: o2 :: zem fr σ)/\∃ F' done rest,Ex F1 H1 F' H'/\F' a=ab/\H' a=aa (.lst ys)/\Reps F' ys done/\zcv (fun d=>(two d).bind fun p=>ft (ziC fr δ p.1 p.2)) (fun d=>(two d).bind fun p=>fe (ziC fr δ p.1 p.2)) (ds.drop i)=aa rest/\out=done ++ rest,
   ⟨_,rfl,aO _,⟨ab,ab,rfl⟩,F1,[],out,Ex.lay x1.fh ha,x1.fh.free ha,zah,.nil,q2,rfl⟩,?_⟩
  rintro i m ys τ H' ⟨rfl,hi,⟨o1,o2,rfl⟩,F',dn,rest,x',fa,hH,rs,q',eo⟩
  have s':=(s.ext x1).ext x'
  obtain⟨hstop,hgo⟩:=io F' H' x'.ff x'.fh s'.bh
  by_cases hlt:i<ds.length
  ·right
   have hd:ds[i]? = aa ds[i]:=by simp[hlt]
   obtain⟨g1,g2⟩:=hgo i _ hd
   rw[bK hlt] at q'
   obtain⟨b,q3,q'⟩:=bind_some q'
   obtain⟨p,qt,q3⟩:=bind_some q3
   have et:=two_some qt
   refine⟨g1,fun v H2 yl=>?_⟩
   obtain⟨F2,x2,r2⟩:=g2 v H2 yl
   rw[et] at r2
   cases r2 with
   | tup e2 rs2=>
    cases rs2 with
    | cons ra rs3=>
     cases rs3 with
     | cons rb rs4=>
      cases rs4
      refine⟨_,_,rfl,SqT.of (x2.fh _ _ e2),rfl,_,_,rfl,_,_,rfl,rfl,?_⟩
      have sc:=(s'.ext x2).cap2 fr ra rb
      refine mt B F2 H2 _ _ b _ sc q3 fun F3 H3 x3=>?_
      have nn:∀ {Fz Hz:Hp},Ex F' H' Fz Hz->Fz a=ab:=fun x=>(x.nw _ _ hH rfl).trans fa
      cases b with
      | false=>
       refine iteF ⟨ds.length - (i+1),by lia,rfl,hlt,⟨_,_,rfl⟩,F3,dn,rest,(x'.trans x2).trans x3,nn (x2.trans x3),(x2.trans x3).hh _ _ hH,rs.mono (x2.trans x3).ff,q',eo⟩
      | true=>
       refine iteT ?_
       obtain⟨y,q4,q'⟩:=bind_some q'
       obtain⟨r,q5,q6⟩:=bind_some q4
       replace q5:(two ds[i]).bind (fun p=>fe (ziC fr δ p.1 p.2))=aa r:=q5
       rw[qt] at q5
       obtain⟨rest',q7,q'⟩:=map_some q'
       cases q'
       refine me B F3 H3 _ _ r _ (sc.ext x3) q5 fun w F4 H4 x4 z4=>?_
       obtain⟨F5,x5,_,r5⟩:=RepR.frz x4 (Same.refl _) z4 q6
       have xx:Ex F' H' F5 H4:=(x2.trans x3).trans x5
       have hy:ys.length<be:=by
        rw[rs.length,ci]
        have:out.length=dn.length+(rest'.length+1):=by rw[eo];simp
        lia
       refine⟨xx.hh _ _ hH,hy,ds.length - (i+1),by lia,rfl,hlt,⟨_,_,rfl⟩,F5,dn ++ [y],rest',?_,nn xx,zah,(rs.mono xx.ff).append (.one r5),q7,by rw[eo];simp⟩
       have xo:=x'.trans xx
       exact⟨xo.ff,fun b o e=>by rw[zak (zaD e (nn xx))];exact xo.fh b o e,fun b o e=>by rw[zak (zaD e ha)];exact xo.hh b o e,xo.nw⟩
  ·left
   have e:i=ds.length:=by lia
   subst e
   rw[fK] at q'
   cases q'
   rw[bF] at eo
   subst eo
   refine⟨hstop,k _ F' H' (x1.trans x') ⟨a,ys,rfl,x1.hh.free ha,hH,rs,fa⟩⟩
 ·cases q
section
variable {X:Cx}{N:List Str}{fr:List Nat}{x x':Str}{scope:Scope}{iter elt:Expr}{ifs:List Expr}{px px' tpos pos:Pos}{fi:FI}{fe:FE}{ft:FT}{tn:Nat}
theorem vl2(S:CompSk X N 2 fr scope)(n0:N[0]? = aa x)(n1:N[1]? = aa x')(nd:N.Nodup)(t0:scope.names.lookup x=aa .local)(t1:scope.names.lookup x'=aa .local)(hi:VI X (.Tuple [.Name x px,.Name x' px'] tn tpos) iter fi)
  (ht:∀ (C:af) (s₀:ag) (H₀:Hp) (fp:List af),VTs (cxC X N scope C s₀ H₀ fp) ifs ft) (he:∀ (C:af) (s₀:ag) (H₀:Hp) (fp:List af),VE (cxC X N scope C s₀ H₀ fp) elt fe)
  (hc:X.calm=true:=by rfl) (hs:∀ z,cg iter X.env z=pure z:=by intro _;rfl):VE X (.ListComp elt [⟨.Tuple [.Name x px,.Name x' px'] tn tpos,iter,ifs,0⟩] scope pos) (eL2 fr fi ft fe):=by
 obtain⟨_,w1,m1⟩:=hi.h
 have l0:(relabel scope X.env).names.lookup x=aa .local:=lookup_relabel_local t0
 have l1:(relabel scope X.env).names.lookup x'=aa .local:=lookup_relabel_local t1
 refine⟨_,⟨pe_lg S hc w1.h (fun C s₀ H₀ fp=>?_) (fun C s₀ H₀ fp=>((ht C s₀ H₀ fp).uni).h) (fun C s₀ H₀ fp=>((he C s₀ H₀ fp).uni).h) hs⟩,.l2 m1 zhc zhC⟩
 exact pg_tup (X:=cxC X N scope C s₀ H₀ fp) hc (zfK (zhg nd n0 (.inl l0) (.inr l0)) (zfK (zhg nd n1 (.inl l1) (.inr l1)) pgs_nil))
end
end L3

namespace L3
open PySem PySem.Spec PyProof.Rows L2
def TupK(K:ah)(a:af)(is:List Int):Prop:=∃ (o:Obj) (its:Array ae) (n:Nat),K.lookup a=aa o/\o.cls=.type "tuple" /\ o.data=.seq its n/\its.size<=be/\Vals (is.map V.int) its.toList
def eB(ds:List D):FE:=fun _=>aa (.bt ds)
theorem vglB{X:Cx}{x:Str}{pos:Pos}{is:List Int}(hg:Gl X x)(h:∃ a,X.mg x=aa (.ref a)/\TupK X.K a is)(hd:(x == ("__debug__" : Str))=false:=by decide):VE X (.Name x pos) (eB (is.map .int)):=by
 obtain⟨a,hm,o,its,n,h1,h2,h3,h4,h5⟩:=h
 refine⟨_,wgl (v:=.ref a) hg ⟨_,hm,rfl⟩ hd,fun B F H σ δ r Q s q k=>?_⟩
 cases q
 exact k _ F H (Ex.refl s.fh) ⟨a,is.map V.int,rfl,.inr ⟨o,its,n,h1,h2,h3,h4,h5⟩,Reps.ints is⟩
end L3

namespace L3
open PySem PySem.Spec PyProof.Rows L2
def putI(zs:List Int)(z:Int):List Int:=if z ∈ zs then zs else zs ++ [z]
def ddI(zs:List Int):List Int:=zs.foldl putI []
def ssI(zs:List Int):List Int:=(ddI zs).mergeSort fun a b=>decide (a<=b)
noncomputable def ze4:Ent->Option Ent:=fun x=>(asL x).bind fun ds=>(zfO ds).bind fun ns=>gif (ns.length<5) (aa (.own ((ssI ns).map .int)))
end L3

namespace TI
open PySem TS
def Ris(p:Array Nat):Prop:=p.toList.Pairwise (·<·)
theorem Ris.lt{p:Array Nat}(hr:Ris p){i k x y:Nat}(h:i<k)(h1:p[i]? = aa x)(h2:p[k]? = aa y):x<y:=by
 rw[<- bV] at h1 h2
 obtain⟨a1,rfl⟩:=aP.mp h1
 obtain⟨a2,rfl⟩:=aP.mp h2
 exact cH.mp hr i k a1 a2 h
theorem go_ok{p:Array Nat}{j:Nat}(hr:Ris p):∀ (f lo hi:Nat),hi<=p.size->lo<=hi->hi<=lo+f->(∀ i x,p[i]? = aa x->i<lo->x<j)->(∀ i x,p[i]? = aa x->hi<=i->j<=x) ->
  (∀ i x,p[i]? = aa x->i<fD p j f lo hi->x<j)/\(∀ i x,p[i]? = aa x->fD p j f lo hi<=i->j<=x)/\fD p j f lo hi<=p.size
 | 0,lo,hi,h1,h2,h3,a,b=>by
  have e:lo=hi:=by lia
  subst e
  exact⟨a,b,h1⟩
 | f+1,lo,hi,h1,h2,h3,a,b=>by
  unfold fD
  by_cases c:lo<hi
  ·rw[if_pos c]
   have hm:(lo+hi) / 2<p.size:=by lia
   have he:p[(lo+hi) / 2]? = aa p[(lo+hi) / 2]:=cw hm
   have hg:p.getD ((lo+hi) / 2) j=p[(lo+hi) / 2]:=by rw[em,he];rfl
   dsimp only
   rw[hg]
   generalize p[(lo+hi) / 2]=y at he
   split
   ·rename_i q
    refine go_ok hr f _ _ h1 (by lia) (by lia) (fun i x e hi'=>?_) b
    by_cases e2:i=(lo+hi) / 2
    ·subst e2;rw[he] at e;cases e;exact q
    ·exact fZ (hr.lt (by lia) e he) q
   ·rename_i q
    refine go_ok hr f _ _ (by lia) (by lia) (by lia) a fun i x e hi'=>?_
    by_cases e2:i=(lo+hi) / 2
    ·subst e2;rw[he] at e;cases e;lia
    ·have:=hr.lt (by lia) he e
     lia
  ·rw[if_neg c]
   have e:lo=hi:=by lia
   subst e
   exact⟨a,b,h1⟩
theorem zic{p:Array Nat}{j:Nat}(hr:Ris p):(∀ i x,p[i]? = aa x->i<cn p j->x<j)/\(∀ i x,p[i]? = aa x->cn p j<=i->j<=x)/\cn p j<=p.size:=
 go_ok hr p.size 0 p.size (ak _) (aO _) (by lia) (fun _ _ _ h=>absurd h (jV _)) fun i x e h=>by
  have:=(dv.mp e).1
  lia
theorem ins_ris{p:Array Nat}{j:Nat}(hr:Ris p)(h:p[cn p j]? ≠ aa j):Ris (fF p (cn p j) j):=by
 obtain⟨a,b,c⟩:=zic (j:=j) hr
 generalize cn p j=k at *
 have e:(fF p k j).toList=p.toList.take k ++ j :: p.toList.drop k:=by
  unfold fF
  simp[cF]
 unfold Ris
 rw[e,dz,eV]
 have hb:∀ x ∈ p.toList.drop k,j<x:=fun x hx=>by
  obtain⟨i,hi⟩:=iQ hx
  rw[gw,bV] at hi
  have h1:=b _ _ hi (by lia)
  by_cases e0:j=x
  ·subst e0
   by_cases ei:i=0
   ·subst ei;exact absurd hi h
   ·have hk:k<p.size:=by have:=(dv.mp hi).1;lia
    have h2:=b k _ (cw hk) (ak _)
    have h3:=hr.lt (show k<k+i by lia) (cw hk) hi
    lia
  ·lia
 have ha:∀ x ∈ p.toList.take k,x<j:=fun x hx=>by
  obtain⟨i,hi⟩:=iQ hx
  have hi1:=(aP.mp hi).1
  rw[bB] at hi1
  rw[c9 (by lia),bV] at hi
  exact a _ _ hi (by lia)
 refine⟨hr.sublist (jm _ _),⟨hb,hr.sublist (List.drop_sublist _ _)⟩,fun x hx y hy=>?_⟩
 rcases aN.mp hy with rfl | hy
 ·exact ha x hx
 ·exact fZ (ha x hx) (hb y hy)
theorem has_nil(j:Nat):jf #[] j=false:=by simp[jf]
structure Gd(t:SetTable):Prop where
 r:Ris t.place
 d:t.dummies=#[]
 m:7<=t.mask
theorem zhG{t:SetTable}(g:Gd t)(f:Nat->Int)(h:Int):∀ (n:Nat) (p:SetTable.Probe) (j:Nat) (d:Option Nat),p.dummy=ab->ju t f h n p=aa (.empty j d)->d=ab/\t.place[cn t.place j]? ≠ aa j
 | 0,_,_,_,_,q=>by cases q
 | n+1,p,j,d,hp,q=>by
  have ad:(t.advance p).dummy=ab:=by unfold SetTable.advance;split <;> exact hp
  unfold ju at q
  by_cases c:t.place[cn t.place p.j]? = aa p.j
  ·have e:t.slot p.j=.live (cn t.place p.j):=by unfold kh;dsimp only;rw[if_pos (by rw[c];exact beq_self_eq_true _)]
   rw[e] at q
   dsimp only at q
   split at q
   ·cases q
   ·exact zhG g f h n _ j d ad q
  ·have e:t.slot p.j=.empty:=by
    unfold kh
    dsimp only
    rw[if_neg (by simpa using c),g.d,has_nil]
    rfl
   rw[e] at q
   cases q
   exact⟨hp,c⟩
theorem range_ris(n:Nat):Ris (Array.range n):=by unfold Ris;rw[Array.toList_range];exact iA
theorem lay_gd{t:SetTable}(g:Gd t)(es:Array (Int × ae))(h:Int)(x:ae):Gd (layNew t es h x).2.1:=by
 have st:∀ (u:SetTable) (n:Nat),1<=n->Gd (u.standIn n):=fun u n hn=>⟨range_ris n,rfl,by show 7<=4 * n+4;lia⟩
 unfold layNew
 split
 ·rename_i sl wd q
  unfold SetTable.freeSlot at q
  split at q
  ·rename_i j d q1
   obtain⟨rfl,hn⟩:=zhG g _ _ _ _ _ _ rfl q1
   cases q
   dsimp only[gU]
   unfold jc
   split
   ·refine⟨ins_ris g.r hn,?_,g.m⟩
    show(if jf t.dummies j=true then _ else t.dummies)=#[]
    rw[g.d,has_nil]
    rfl
   ·refine st _ _ ?_
    unfold fF
    simp
    lia
  ·cases q
 ·exact st _ _ (by lia)
theorem not_full{t:SetTable}{n:Nat}(g:Gd t)(hf:t.fits n=true)(hn:n<=4):t.tooFull=false:=by
 unfold ki at hf
 simp only[eD,beq_iff_eq] at hf
 have:=g.m
 unfold SetTable.tooFull SetTable.fill
 rw[g.d,hf.1]
 simp
 lia
end TI
namespace TI
open PySem TS
def num:ae->Int
 | .int z _=>z
 | _=>0
structure IsZ(w:aX)(h:ba)(a:af)(zs:List Int):Prop where
 ex:∃ (o:Obj) (es:Array (Int × ae)) (ep:Nat) (t:SetTable),h.get? a=aa o/\o.ExactSet/\o.data=.set es ep t/\(∀ e ∈ es.toList,∃ z u,e=(hashInt z,cr z u))/\t.fits es.size=true/\t.led=!bt w/\Gd t/\(es.toList.map fun e=>num e.2).Perm zs
 nd:zs.Nodup
variable {prog:aL}{w:aX}{A:aS}{E:ae->ag->Prop}{s:ag}{a:af}{zs:List Int}
theorem elemsZ{es:List (Int × ae)}(h:∀ e ∈ es,∃ z u,e=(hashInt z,cr z u)):ElemsOf (intKind prog w) es:=fun e he=>by
 obtain⟨z,u,rfl⟩:=h e he
 exact⟨⟨z,by simp[intKind,ip],rfl⟩,rfl⟩
theorem freshZ:IsZ w (s.heap.push { cls:=.type "set",dict:=ab,data:=.set #[] 0 (.fresh 0 0 (!bt w))}) s.heap.objs.size []:=
 ⟨⟨_,#[],0,_,aG _ rfl,⟨rfl,rfl,rfl⟩,rfl,(fun e he=>by simp at he),rfl,rfl,⟨.nil,rfl,ak 7⟩,.nil⟩,.nil⟩
theorem IsZ.mono{h h':ba}(i:IsZ w h a zs)(k:∀ o,h.get? a=aa o->h'.get? a=aa o):IsZ w h' a zs:=
 let⟨o,es,ep,t,go,r⟩:=i.ex;⟨⟨o,es,ep,t,k o go,r⟩,i.nd⟩
theorem put_lenZ(zs:List Int)(z:Int):(L3.putI zs z).length<=zs.length+1:=by unfold L3.putI;split <;> simp
theorem relaidZ{o:Obj}{es:Array (Int × ae)}{ep:Nat}{t:SetTable}{h:ba}(go:h.get? a=aa o)(gx:o.ExactSet)(gd:o.data=.set es ep t){es':Array (Int × ae)}{t':SetTable}
  (ge:∀ e ∈ es'.toList,∃ z u,e=(hashInt z,cr z u)) (gf:t'.fits es'.size=true) (gl:t'.led=!bt w) (gp:Gd t') (gm:(es'.toList.map fun e=>num e.2).Perm zs) (nd:zs.Nodup) :
  IsZ w (h.update a (jW es' t')) a zs:=by
 have g:=cK (jW es' t') go (by rw[putSet_of es' t' gd];rfl)
 rw[putSet_of es' t' gd] at g
 exact⟨⟨_,es',ep+1,t',g,gx,rfl,ge,gf,gl,gp,gm⟩,nd⟩
theorem addZ{z:Int}{u:Tok}{Q:Bool->ag->Prop}(i:IsZ w s.heap a zs)(hz:zs.length<4)
  (k:∀ b h',eQ a s.heap h'->IsZ w h' a (L3.putI zs z)->Q b { s with heap:=h'}):aw (model prog w) A (setAddHashed a (.int z u) (hashInt z)) Q E s:=by
 obtain⟨o,es,ep,t,go,gx,gd,ge,gf,gl,gp,gm⟩:=i.ex
 have gE:=elemsZ (prog:=prog) (w:=w) ge
 have hk:(intKind prog w).is z (.int z u)=true:=by simp[intKind,ip]
 have sc:(cr z u).scannable=true:=rfl
 have gn:es.size=zs.length:=by rw[<- gm.length_eq,am,ax]
 have sb:scanBound=4096:=rfl
 unfold setAddHashed setAddHashedIn
 refine bO (ai (wpAny_setState_of go gd gf ?_))
 dsimp only
 rw[byScan_of (knd:=intKind prog w) sc (by lia) gE]
 simp only[↓reduceIte]
 unfold setAddByScan
 refine ai (ai (wpAny_rule (ai ?_)))
 refine wpAny_setScan_of (knd:=intKind prog w) hk go gd gf gE ?_
 cases hr:List.findIdx? (fun e=>(intKind prog w).is z e.2) es.toList with
 | some j=>
  dsimp only
  obtain⟨hj,hp,_⟩:=List.findIdx?_eq_some_iff_getElem.mp hr
  have hin:z ∈ zs:=by
   refine gm.mem_iff.mp (cv.mpr ⟨es.toList[j],g6 hj,?_⟩)
   obtain⟨v,e'⟩:=ji hp
   rw[e']
   rfl
  refine ar (ar ?_)
  have:=k false s.heap (.refl ..) (by unfold L3.putI;rw[if_pos hin];exact i)
  exact this
 | none=>
  dsimp only
  have hnot:z ∉ zs:=fun hin=>by
   obtain⟨e,he,hq⟩:=cv.mp (gm.mem_iff.mpr hin)
   obtain⟨y,v,rfl⟩:=ge e he
   have q:=List.findIdx?_eq_none_iff.mp hr _ he
   have:y=z:=hq
   subst this
   simp[intKind,ip] at q
  have hput:L3.putI zs z=zs ++ [z]:=if_neg hnot
  rw[hput] at k
  have nd:(zs ++ [z]).Nodup:=bN.mpr ⟨i.nd,by simp,fun x hx y hy=>by simp at hy;subst hy;exact fun e=>hnot (e ▸ hx)⟩
  have way:∀ (b:Bool) {s₁:ag} {R:Unit->ag->Prop},R () s₁->aw (model prog w) A (match b with | true=>rule "set.scan.the-table-gave-way" | false=>pure ()) R E s₁:=fun b _ _ q=>by cases b <;> first | exact ar q | exact wpAny_rule q
  have l1:=layNew_perm t es (hashInt z) (.int z u)
  have l2:=layNew_fits t es (hashInt z) (.int z u)
  have l3:=lay_led t es (hashInt z) (.int z u)
  have l4:=lay_gd gp es (hashInt z) (.int z u)
  show aw _ _ (match layNew t es (hashInt z) (.int z u) with | (es,t,wasDummy,gave)=>_) _ _ _
  generalize layNew t es (hashInt z) (.int z u)=L at l1 l2 l3 l4
  obtain⟨es1,t1,wd,gv⟩:=L
  dsimp only at l1 l2 l3 l4 ⊢
  have m1:∀ e ∈ es1.toList,∃ z u,e=(hashInt z,cr z u):=fun e he=>by
   rcases bu.mp ((dy ▸ l1).mem_iff.mp he) with q | q
   ·exact ge e q
   ·rw[aT.mp q];exact⟨z,u,rfl⟩
  have m2:(es1.toList.map fun e=>num e.2).Perm (zs ++ [z]):=by
   refine(l1.map _).trans ?_
   rw[dy,bM]
   exact gm.append_right _
  have m3:es1.size<=4:=by
   have:=l1.length_eq
   simp only[ax,Array.size_push] at this
   lia
  have nf:=not_full l4 l2 m3
  have up:=lI s.heap a (jW es1 t1)
  refine ai ?_
  refine way _ ?_
  have fin:aw (model prog w) A (storeSet a es1 t1 >>= fun _=>pure (aa true)) (fun r s'=>aw (model prog w) A (match r with
    | some added=>pure added
    | none=>setAddHashedIn a (.int z u) (hashInt z) 99999) Q E s') E s:=by
   refine ai (wpAny_storeSet_of go gd ?_ (fits_of_scanBound (by lia)))
   refine ar (ar ?_)
   exact k true _ up (relaidZ (w:=w) go gx gd m1 l2 (l3.1.trans gl) l4 m2 nd)
  split
  ·refine ai ?_
   rw[hashByValue_scannable 8 sc]
   refine ar ?_
   show aw _ _ (storeSet a es1 t1 >>= fun _=>if (!wd && t1.tooFull)=true then _ else _) _ _ _
   simp only[nf,d8,bm,↓reduceIte]
   exact fin
  ·refine ai (ar ?_)
   show aw _ _ (storeSet a es1 t1 >>= fun _=>if (!wd && t1.tooFull)=true then _ else _) _ _ _
   simp only[nf,d8,bm,↓reduceIte]
   exact fin
end TI
namespace TI
open PySem PyProof.Rows TS
section
variable {prog:aL}{w:aX}{A:aS}{R:Result->ag->Prop}{I:af}{fp wr:List af}{G:Array GenState->Array GenState->Prop}{n:Nat}{P:Nat->ae->Prop}{St:Nat->ag->Prop}
theorem updZ(W:WalksS prog w A.in1 I fp wr G n P St)(S:af)(hS:S ∉ fp)(val:Nat->Int)(hv:∀ i v,P i v->∃ t,v=.int (val i) t)(k:Nat) :
  ∀ (i:Nat) (s:ag) (zs:List Int),i+k=n->St i s->IsZ w s.heap S zs->zs.length+k<=4 ->
   (∀ s',Moved (S :: wr) G s s'->IsZ w s'.heap S (((dD i k).map val).foldl L3.putI zs)->R (.ok (.ret .none)) s')->codeAny (model prog w) A (.builtin "set.update.loop" ⟨[.ref S,.ref I],[]⟩) R s:=by
 have nw:S ∉ wr:=fun h=>hS (W.sub _ h)
 have sb:∀ b ∈ wr,b ∈ S :: wr:=fun b hb=>.tail _ hb
 induction k with
 | zero=>
  intro i s zs hi st is hz kk
  have e:i=n:=by lia
  subst e
  refine codeAny_builtin g9 ?_
  rw[cu fz _]
  refine ai (m:=pyNext (.ref I)) (W.done s _ _ st fun s' mv=>?_)
  exact ar (kk s' (mv.mono sb) (is.mono fun o e=>mv.heap S o nw e))
 | succ k ih=>
  intro i s zs hi st is hz kk
  refine codeAny_builtin g9 ?_
  rw[cu fz _]
  refine ai (m:=pyNext (.ref I)) (W.item i s _ _ (by lia) st fun v s' hp st' mv=>?_)
  obtain⟨t,rfl⟩:=hv i v hp
  refine ai (m:=holding [cr (val i) t] (setAdd S (.int (val i) t))) (bO ?_)
  unfold setAdd
  refine bO (ai (wpAny_pyHash_int ?_))
  refine addZ (s:={ s' with toks:=s'.toks+1}) (zs:=zs) (is.mono fun o e=>mv.heap S o nw e) (by lia) fun b h' same is'=>?_
  have old:∀ b o,b ≠ S->s'.heap.get? b=aa o->h'.get? b=aa o:=fun b o hb e=>(same.2 b hb).trans e
  refine ar ⟨plainId_quiet fz _,ih (i+1) _ (L3.putI zs (val i)) (by lia) ?_ is' (by have:=put_lenZ zs (val i);lia) fun s2 mv2 is2=>?_⟩
  ·exact W.frame _ s' h' _ st' (cE _) fun b hb o e=>old b o (fun q=>hS (q ▸ hb)) e
  ·refine kk s2 (Moved.trans W.gtrans ((mv.mono sb).then_heap (cE _) fun b o hb e=>old b o (fun q=>hb (q ▸ .head _)) e) mv2) ?_
   rw[List.range'_succ,aE,cc]
   exact is2
end
end TI
namespace TI
open PySem PyProof.Rows TS
section
variable {prog:aL}{w:aX}{A:aS}{E:ae->ag->Prop}{s:ag}
structure LeftZ(w:aX)(s:ag)(zs:List Int)(s2:ag):Prop where
 is:IsZ w s2.heap s.heap.objs.size zs
 old:∀ b o,b<s.heap.objs.size->s.heap.get? b=aa o->s2.heap.get? b=aa o
 sh:∃ h' tk,s2={ s with heap:=h',toks:=tk}
theorem left_ofZ{fp:List af}{it:Obj}{s':ag}{zs:List Int}(hf:∀ b ∈ fp,b=(s.heap.push (new w)).objs.size)(mv:Moved (s.heap.objs.size :: fp) (fun a b=>b=a) { s with heap:=(s.heap.push (new w)).push it} s')(is:IsZ w s'.heap s.heap.objs.size zs):LeftZ w s zs s':=by
 refine⟨is,fun b o hb e=>mv.heap b o (fun q=>?_) (aj _ (aj _ e)),?_⟩
 ·rcases aN.mp q with q | q
  ·exact absurd hb (q ▸ ca _)
  ·have:=hf b q
   rw[b9] at this
   exact absurd hb (gN.mpr (this ▸ cE _))
 ·obtain⟨h',g',d',tk',os'⟩:=s'
  have eg:g'=s.gens:=mv.gens
  have ed:d'=s.drawn:=mv.drawn
  have eo:os'=s.os:=mv.os
  subst eg ed eo
  exact⟨h',tk',rfl⟩
set_option maxRecDepth 100000 in
theorem init_listZ{l:af}{items:Array ae}{zs:List Int}(hh:A.handled=ab)(hl:s.heap.IsList l items)(hi:∀ (i:Nat) (v:ae),items[i]? = aa v->∃ t,v=cr (zs.getD i 0) t)(hz:items.size<=4) :
  aw (model prog w) A (Builtin.«set.__init__» ⟨[.ref s.heap.objs.size,.ref l],[]⟩) (fun f s2=>f=.done (.ret .none)/\LeftZ w s (((dD 0 items.size).map fun i=>zs.getD i 0).foldl L3.putI []) s2) E { s with heap:=s.heap.push (new w)}:=by
 obtain⟨o,go,oc,m,od⟩:=id hl
 obtain⟨ocls,odict,odata,oslots⟩:=o
 simp only at oc od
 subst oc od
 have g1:(s.heap.push (new w)).get? s.heap.objs.size=aa (new w):=aG _ rfl
 have g2:(s.heap.push (new w)).get? l=aa { cls:=.type "list",dict:=odict,data:=.seq items m,slots:=oslots}:=aj _ go
 have b1:=F.sub_list_set
 have b2:=F.sub_list_frozenset
 have b3:(di "list" == di "dict")=false:=by decide
 have hl1:(s.heap.push (new w)).IsList l items:=⟨_,g2,rfl,m,rfl⟩
 unfold new at g1 g2 ⊢
 unfold Builtin.«set.__init__» noKeywords j7
 generalize hPI:pyIter=PI
 wp_walk
 subst hPI
 refine wpAny_pyIter_list hl1 (ai (wpAny_runValue ?_))
 have ll:l<s.heap.objs.size:=aH go
 have ne:l ≠ (s.heap.push (new w)).objs.size:=by rw[b9];exact bf (cM ll)
 refine updZ ((lu (by simp[hh]) _ l ne items).toS) s.heap.objs.size ?_ (fun i=>zs.getD i 0) hi items.size 0 _ [] (by lia) ⟨⟨_,aG _ rfl,rfl,rfl⟩,hl1.push _⟩ ?_ (by simpa using hz) fun s' mv is=>?_
 ·rw[b9]
  simp only[aN,fQ,or_false,not_or]
  exact⟨bf (dh _),eR ll⟩
 ·exact(freshZ (w:=w) (s:=s)).mono fun o e=>aj _ e
 ·refine ar ?_
  exact ar ⟨rfl,left_ofZ (fp:=[(s.heap.push (new w)).objs.size]) (fun b hb=>aT.mp hb) mv is⟩
end
end TI
namespace TI
open PySem PyProof.Rows TS
section
variable {prog:aL}{w:aX}{A:aS}{E:ae->ag->Prop}{s:ag}{a:af}{o:Obj}{es:Array (Int × ae)}{ep:Nat}{t:SetTable}
theorem nextP{i slot:Nat}{R:Option (ae × Nat)->ag->Prop}(ho:s.heap.get? a=aa o)(hd:o.data=.set es ep t)(hf:t.fits es.size=true)(hb:bt w=false)(hl:t.led=true)(hz:¬ (!t.plain && decide (es.size > 1))=true)
  (k:R (match es[cn t.place slot]?,t.place[cn t.place slot]? with
   | some (_,x),aa j=>aa (x,j+1)
   | _,_=>ab) s):aw (model prog w) A (setNext a slot i ep) R E s:=by
 unfold setNext
 refine ai (wpAny_setState_of ho hd hf ?_)
 refine ai (zhR ?_)
 rw[hb]
 simp only[bm,↓reduceIte]
 rw[if_neg (by show ¬ ((!t.plain && decide (es.size > 1))=true);exact hz)]
 refine ai (wpAny_of_eq (a:=()) ?_ (ar k))
 obtain⟨mask,place,dummies,finger,led,moves,plain⟩:=t
 have hl':led=true:=hl
 subst hl'
 rfl
structure WkZ(prog:aL)(w:aX)(a n0:Nat)(zs:List Int)(I:af)(h:ba):Prop where
 ex:∃ (ys:List Int) (fp:List af) (St:Nat->ba->Prop),ys.Perm zs/\I ∈ fp/\(∀ b ∈ fp,b<h.objs.size/\(b=a \/ n0<=b))/\St 0 h/\∀ B:aS,B.handled=ab->Walks prog w B I fp [I] ys.length (fun i v=>∃ u,v=cr (ys.getD i 0) u) St
theorem WkZ.of{n0:Nat}{zs:List Int}{I:af}{h:ba}{ord:Array (Int × ae)}{fp:List af}{St:Nat->ba->Prop}(hp:ord.toList.Perm es.toList)(ge:∀ e ∈ es.toList,∃ z u,e=(hashInt z,cr z u))(gm:(es.toList.map fun e=>num e.2).Perm zs)
  (hI:I ∈ fp) (hb:∀ b ∈ fp,b<h.objs.size/\(b=a \/ n0<=b)) (st:St 0 h) (W:∀ B:aS,B.handled=ab->Walks prog w B I fp [I] es.size (fun i v=>v=(ord.getD i (0,.none)).2) St):WkZ prog w a n0 zs I h:=by
 have hl:ord.size=es.size:=by simpa using hp.length_eq
 refine⟨ord.toList.map fun e=>num e.2,fp,St,(hp.map _).trans gm,hI,hb,st,fun B hB=>?_⟩
 rw[am,ax,hl]
 refine(W B hB).weak fun i v hi e=>?_
 have hi':i<ord.size:=by lia
 obtain⟨z,u,hz⟩:=ge ord[i] (hp.mem_iff.mp (by simp))
 subst e
 refine⟨u,?_⟩
 simp[hi',hz,num]
theorem iterZ{zs:List Int}{Q:ae->ag->Prop}(is:IsZ w s.heap a zs)(hzs:zs.length<scanBound)
  (k:∀ I h' d,s.heap.objs.size<=I->WkZ prog w a s.heap.objs.size zs I h'->(∀ b o,s.heap.get? b=aa o->h'.get? b=aa o)->Q (.ref I) { s with heap:=h',drawn:=d}):aw (model prog w) A (pyIter (.ref a)) Q E s:=by
 obtain⟨o,es,ep,t,ho,gx,hd,ge,hf,gl,gp,gm⟩:=is.ex
 have hsb:es.size<scanBound:=by have:=gm.length_eq;simp at this;lia
 have ty:s.TypeIs (.ref a) "set" :=⟨o,ho,gx.1⟩
 have la:a<s.heap.objs.size:=aH ho
 refine wpAny_pyIter_slot ty jX (wpAny_call_entry jX ty Fx.iter_of ?_ (F.args_set_iter_1 _))
 unfold Builtin.«frozenset.__iter__» k8 slotArgs
 simp only[eF,eM,bm,↓reduceIte,bind_assoc,cQ,bne_self_eq_false]
 unfold kZ k0
 refine ai (ar (ai (ar ?_)))
 refine ai (ai (wpAny_setEntries_of ho hd hf (ar ?_)))
 unfold setDrawn
 refine ai (ai (wpAny_setState_of ho hd hf ?_))
 refine ai (zhR (ar ?_))
 show aw _ _ (if (!bt w && (!t.plain && decide (es.size > 1)))=true then _ else _) _ _ _
 have plain:∀ (ord:Array (Int × ae)) (slots:Nat->Nat),slots 0=0->ord.toList.Perm es.toList ->
   (∀ (i:Nat) (s:ag) (A:aS) (E:ae->ag->Prop) (R:Option (ae × Nat)->ag->Prop),i<es.size->s.heap.get? a=aa o->R (aa ((ord.getD i (0,.none)).2,slots (i+1))) s->aw (model prog w) A (setNext a (slots i) i ep) R E s) ->
   (∀ (s:ag) (A:aS) (E:ae->ag->Prop) (R:Option (ae × Nat)->ag->Prop),s.heap.get? a=aa o->R ab s->aw (model prog w) A (setNext a (slots es.size) es.size ep) R E s) ->
   aw (model prog w) A.in1 (pure (rawInt 0) >>= fun first=>setEpoch a >>= fun e=>newFields "set_iterator" [first,rawInt 0,.ref a,rawInt es.size,rawInt e] >>= fun r=>ret r)
    (fun fin s'=>∃ v,fin=.done (.ret v)/\∃ T' r,s'.TypeIs v T'/\typeLookup (.type T') (cU "__next__")=pure (aa r)/\Q v s') E s:=by
  intro ord slots s0 hp nx en
  refine ai (ar (ai (wpAny_setEpoch_of ho hd hf ?_)))
  refine ai (wpAny_newObj_type ?_)
  have g0:=aG s.heap (o:=itO (rawInt 0) 0 a es.size ep) rfl
  refine ar ⟨_,rfl,"set_iterator",_,⟨_,g0,rfl⟩,Fx.next_slot.lookup,?_⟩
  have hne:a ≠ s.heap.objs.size:=bf la
  refine k _ _ s.drawn (ak _) (WkZ.of hp ge gm (fp:=[s.heap.objs.size,a]) (by simp) (fun b hb=>?_) ?_ fun B hB=>walk1 hB hne hd hf _ slots nx en) fun b o e=>aj _ e
  ·rw[b9]
   rcases aN.mp hb with rfl | hb
   ·exact⟨dh _,.inr (ak _)⟩
   ·rw[aT.mp hb];exact⟨cM la,.inl rfl⟩
  ·rw[s0]
   exact⟨g0,aj _ ho⟩
 cases hb:bt w with
 | true=>
  have hp:=pick_perm (w.params.setOrder a ep) es
  have hl:(pickOrder (w.params.setOrder a ep) es).size=es.size:=by simpa using hp.length_eq
  refine plain (pickOrder (w.params.setOrder a ep) es) (fun _=>0) rfl hp (fun i s A E R hi g r=>nextA g hd hf hb ?_) fun s A E R g r=>nextA g hd hf hb ?_
  ·have:i<(pickOrder (w.params.setOrder a ep) es).size:=by lia
   simpa [this] using r
  ·simpa [hl] using r
 | false=>
  have led:t.led=true:=by rw[gl,hb];rfl
  by_cases hz:(!t.plain && decide (es.size > 1))=true
  rotate_left
  ·rw[if_neg (by simpa using hz)]
   have hpl:t.place.size=es.size:=by
    unfold ki at hf
    simp at hf
    exact hf.1
   have ge0:∀ i,i<es.size->t.place[i]? = aa (t.place.getD i 0):=fun i hi=>by
    rw[em,cw (by lia)];rfl
   have bl:∀ i,i<=es.size->cn t.place (if i=0 then 0 else t.place.getD (i - 1) 0+1)=i:=fun i hi=>by
    obtain⟨a1,a2,a3⟩:=zic (j:=if i=0 then 0 else t.place.getD (i - 1) 0+1) gp.r
    generalize cn t.place (if i=0 then 0 else t.place.getD (i - 1) 0+1)=b at a1 a2 a3
    by_cases h0:i=0
    ·subst h0
     simp only[↓reduceIte] at a1 a2
     by_cases hb:b=0
     ·exact hb
     ·exact absurd (a1 0 _ (ge0 0 (by lia)) (by lia)) (jV _)
    ·rw[if_neg h0] at a1 a2
     have c1:i - 1<b:=by
      by_cases hb:i - 1<b
      ·exact hb
      ·have:=a2 (i - 1) _ (ge0 (i - 1) (by lia)) (by lia)
       lia
     by_cases hi':i<b
     ·have h1:=a1 i _ (ge0 i (by lia)) hi'
      have h2:=gp.r.lt (show i - 1<i by lia) (ge0 (i - 1) (by lia)) (ge0 i (by lia))
      lia
     ·lia
   refine plain es (fun i=>if i=0 then 0 else t.place.getD (i - 1) 0+1) rfl .rfl (fun i s A E R hi g r=>nextP g hd hf hb led hz ?_) fun s A E R g r=>nextP g hd hf hb led hz ?_
   ·rw[bl i (by lia),ge0 i hi,cw hi]
    simp only[Nat.add_eq_zero_iff,Nat.succ_ne_self,and_false,if_false,dS,Nat.one_ne_zero] at r
    rw[em,cw hi] at r
    exact r
   ·rw[bl _ (ak _),Array.getElem?_eq_none (ak _)]
    exact r
  ·have pl:t.plain=false:=by simp at hz;exact hz.1
   have hz:¬ es.size<=1:=by simp at hz;lia
   rw[if_pos (by simp[pl];lia)]
   refine ai (draw_perm es.size _ _ _ (by simp) fun ys d hp=>?_)
   have yl:ys.length=es.size:=by simpa using hp.length_eq
   have yb:∀ p ∈ ys,p<es.size:=fun p hm=>by simpa using hp.mem_iff.mp hm
   refine ai (wpAny_newTuple ?_ (by rw[am,yl];exact fits_of_scanBound hsb))
   refine ai (wpAny_setEpoch_of (aj _ ho) hd hf ?_)
   refine ai (wpAny_newObj_type ?_)
   generalize hth:s.heap.push (seqObj "tuple" (ys.map fun(i:Nat)=>rawInt i).toArray 0)=th
   have tt:IsTup th s.heap.objs.size (ys.map fun(i:Nat)=>rawInt i).toArray:=by rw[<- hth];exact⟨_,aG _ rfl,rfl,0,rfl⟩
   have ts:th.objs.size=s.heap.objs.size+1:=by rw[<- hth,b9]
   have oo:th.get? a=aa o:=by rw[<- hth];exact aj _ ho
   have g0:=aG th (o:=itO (.ref s.heap.objs.size) 0 a es.size ep) rfl
   have hne:a ≠ th.objs.size:=by rw[ts];exact bf (cM la)
   have hnt:s.heap.objs.size ≠ th.objs.size:=by rw[ts];exact bf (dh _)
   show aw _ _ _ _ _ { s with heap:=th.push (itO (.ref s.heap.objs.size) 0 a es.size ep),drawn:=d}
   refine ar ⟨_,rfl,"set_iterator",_,⟨_,g0,rfl⟩,Fx.next_slot.lookup,?_⟩
   refine k _ _ d (by rw[ts];exact cE _) (WkZ.of (ord:=(ys.map fun p=>es.getD p (0,.none)).toArray) ?_ ge gm (fp:=[th.objs.size,a,s.heap.objs.size]) av (fun b hb=>?_) ⟨g0,aj _ oo,?_⟩ fun B hB=>walk2 (ps:=(ys.map fun(i:Nat)=>rawInt i).toArray) hB hne hnt hd hf _ (fun i=>ys.getD i 0) (by simp[yl]) fun i hi=>?_) fun b o e=>aj _ (by rw[<- hth];exact aj _ e)
   ·have:(aq es.size).map (fun p=>es.getD p (0,.none))=es.toList:=by
     apply fL
     ·simp
     ·intro i h1 h2
      simp at h1
      simp[h1]
    rw[<- this]
    exact hp.map _
   ·rw[b9,ts]
    simp only[aN,fQ,or_false] at hb
    rcases hb with rfl | rfl | rfl
    ·rw[ts];exact⟨dh _,.inr (cE _)⟩
    ·exact⟨cM (cM la),.inl rfl⟩
    ·exact⟨cM (dh _),.inr (ak _)⟩
   ·have hi':i<ys.length:=by lia
    have hq:ys[i]<es.size:=yb _ (g6 hi')
    refine⟨by simp[hi'],es[ys[i]].1,?_⟩
    simp[hi',hq]
   ·obtain⟨ot,got,r⟩:=tt
    exact⟨ot,aj _ got,r⟩
end
end TI
namespace TI
open PySem PyProof.Rows TS
section
variable {prog:aL}{w:aX}{A:aS}{E:ae->ag->Prop}{s:ag}{a:af}{zs:List Int}
set_option maxRecDepth 100000 in
theorem collZ{Q:List ae->ag->Prop}(hh:A.handled=ab)(is:IsZ w s.heap a zs)(hz:zs.length<scanBound)
  (k:∀ (vs:Array ae) (ys:List Int) s',ItemsOf (fun i v=>∃ u,v=cr (ys.getD i 0) u) vs ys.length->ys.Perm zs->(∀ b o,s.heap.get? b=aa o->s'.heap.get? b=aa o)->s'.gens=s.gens->s'.os=s.os->Q vs.toList s') :
  aw (model prog w) A (collect (.ref a)) Q E s:=by
 have la:a<s.heap.objs.size:=let⟨_,_,_,_,g,_⟩:=is.ex;aH g
 unfold collect
 refine ai (wpAny_runValue (codeAny_builtin F.entry_proto_collect ?_))
 rw[cu F.plain_proto_collect _]
 refine ai (m:=newList []) (wpAny_newObj_type ?_)
 refine ar ⟨plainId_quiet jv _,?_⟩
 refine codeAny_builtin F.entry_list_iadd ?_
 rw[cu jv _]
 generalize hL:s.heap.push { cls:=.type "list",data:=.seq ([]:List ae).toArray}=L
 have gl:L.get? s.heap.objs.size=aa { cls:=.type "list",data:=.seq ([]:List ae).toArray}:=by rw[<- hL];exact aG _ rfl
 have ls:L.objs.size=s.heap.objs.size+1:=by rw[<- hL,b9]
 have il:IsZ w L a zs:=is.mono fun o e=>by rw[<- hL];exact aj _ e
 have ty:gB { s with heap:=L} (.ref a) "set" :=let⟨o,_,_,_,g,x,_⟩:=il.ex;⟨o,g,x.1⟩
 show aw _ A.in1 (cR (.ref s.heap.objs.size) (.ref a) (.ref s.heap.objs.size)) _ _ { s with heap:=L}
 have ns:dG (.ref s.heap.objs.size) (.ref a)=false:=by simp[dG];exact eR la
 unfold cR
 refine ai (wpAny_typeOf ty ?_)
 rw[if_neg (by rw[ns];decide)]
 refine ai (iterZ (s:={ s with heap:=L}) il hz fun I h' d hI wk old=>?_)
 have ty':gB { s with heap:=h',drawn:=d} (.ref a) "set" :=let⟨o,_,_,_,g,x,_⟩:=il.ex;⟨o,old a o g,x.1⟩
 refine ai (bO ?_)
 unfold ek
 refine ai (wpAny_specialOf ty' Fx.len_of ?_)
 wp_delta
 refine ai (wpAny_isInstance (b:=true) ty' (by rw[isSubtype_type];kernel_rfl) ?_)
 show aw _ A.in1 (typeOf (bw a) >>= _) _ _ _
 refine ai (wpAny_typeOf ty' (ar ?_))
 rw[if_pos (by decide)]
 refine ai (wpAny_rule ?_)
 unfold lj g8
 have gs:h'.get? s.heap.objs.size=aa { cls:=.type "list",data:=.seq ([]:List ae).toArray}:=old _ _ gl
 refine ai (ai (wpAny_updateSeq gs rfl ?_))
 have gs1:=cK (bL (·.push eW)) gs rfl
 refine wpAny_updateSeq gs1 rfl ?_
 have gs2:=cK (bL (·.pop)) gs1 rfl
 obtain⟨ys,fp,St,yp,If,fb,st,W⟩:=wk.ex
 have nf:s.heap.objs.size ∉ fp:=fun q=>by
  rcases (fb _ q).2 with e | e
  ·exact absurd la (e ▸ ca _)
  ·have e':L.objs.size<=s.heap.objs.size:=e
   rw[ls] at e'
   exact absurd e' (Nat.not_succ_le_self _)
 have W1:=W A.in1 hh
 have same:∀ b o,b ≠ s.heap.objs.size->h'.get? b=aa o->((h'.update s.heap.objs.size (bL (·.push eW))).update s.heap.objs.size (bL (·.pop))).get? b=aa o:=fun b o hb e=>
  (bT _ _ (cx hb)).trans ((bT _ _ (cx hb)).trans e)
 have st':=W1.frame 0 h' _ st fun b hb o e=>same b o (fun q=>nf (q ▸ hb)) e
 have yl:ys.length<=be:=fits_of_scanBound (by rw[yp.length_eq];exact hz)
 refine ar ⟨plainId_quiet i5 _,?_⟩
 refine codeAny_extend_loopS W1.toS yl _ nf _ ys.length 0 _ _ _ rfl (aO _) st' gs2 (lh _) fun s' acc c mv gS it=>?_
 show aw _ A (load s.heap.objs.size >>= _) _ _ s'
 refine ai (wpAny_load gS ?_)
 refine ar (k acc ys s' it yp (fun b o e=>?_) mv.gens mv.os)
 have lt:=aH e
 have hb:b ≠ s.heap.objs.size:=bf lt
 refine mv.heap b o (fun q=>?_) (same b o hb (old b o (by show L.get? b=_;rw[<- hL];exact aj _ e)))
 rcases aN.mp q with q | q
 ·exact hb q
 ·rw[aT.mp q] at lt
  have e':L.objs.size<=I:=hI
  rw[ls] at e'
  exact absurd lt (gN.mpr (Nat.le_of_succ_le e'))
end
end TI
namespace TI
open PySem PyProof.Rows TS
theorem ints_of{ys:List Int}{vs:Array ae}(h:ItemsOf (fun i v=>∃ u,v=cr (ys.getD i 0) u) vs ys.length):IntsAre vs.toList ys:=by
 obtain⟨hl,hv⟩:=h
 have key:∀ (l:List ae) (y:List Int),l.length=y.length->(∀ (j:Nat) (v:ae),l[j]? = aa v->∃ u,v=cr (y.getD j 0) u)->IntsAre l y:=by
  intro l
  induction l with
  | nil=>
   intro y hl _
   match y,hl with
   | [],_=>exact .nil
  | cons v l ih=>
   intro y hl h
   match y,hl with
   | z :: y,hl=>
    obtain⟨u,rfl⟩:=h 0 v rfl
    exact .cons _ _ (ih y (by simpa using hl) fun j v hv=>by simpa using h (j+1) v (by simpa using hv))
 exact key vs.toList ys (by simpa using hl) fun j v e=>hv j v (by rw[bV] at e;exact e)
section
variable {prog:aL}{w:aX}{A:aS}{E:ae->ag->Prop}{s:ag}{a:af}{zs:List Int}
theorem srtdZ{Q:ae->ag->Prop}(hh:A.handled=ab)(is:IsZ w s.heap a zs)(hz:zs.length<64)
  (k:∀ (out:List ae) (ss:List Int) (e:Nat) (s1:ag) (h':ba),IntsAre out ss->ss.Perm zs->ss.Pairwise (·<=·)->(∀ b o,s.heap.get? b=aa o->s1.heap.get? b=aa o)->s1.gens=s.gens->s1.os=s.os ->
   h'.get? s1.heap.objs.size=aa (seqObj "list" out.toArray e)->(∀ b o,s1.heap.get? b=aa o->h'.get? b=aa o)->Q (.ref s1.heap.objs.size) { s1 with heap:=h'}) :
  aw (model prog w) A (call (.builtin "sorted") [.ref a]) Q E s:=by
 refine gP kind_sorted plain_sorted entry_sorted (args_sorted1 _) ?_
 unfold Builtin.«sorted»
 refine ai (m:=checkCount "sorted" 1 1 _) (ar ?_)
 refine ai (collZ hh is (by have:scanBound=4096:=rfl;lia) fun vs ys s1 it yp old eg eo=>?_)
 have sv:=ints_of it
 have vl:vs.toList.length<64:=by have:=it.1;have:=yp.length_eq;simp;lia
 have g0:(s1.heap.push (seqObj "list" vs.toList.toArray 0)).get? s1.heap.objs.size=aa (seqObj "list" vs.toList.toArray 0):=aG _ rfl
 refine ai (wpAny_newList ?_ (fits_of_scanBound (by have:scanBound=4096:=rfl;lia)))
 show aw _ _ _ _ _ { s1 with heap:=s1.heap.push (seqObj "list" vs.toList.toArray 0)}
 have sz:(s1.heap.push (seqObj "list" vs.toList.toArray 0)).objs.size=s1.heap.objs.size+1:=by rw[b9]
 refine ai (bO (wpAny_call_entry slot_list_sort ⟨_,g0,rfl⟩ entry_list_sort (list_sort_tree g0 sv vl fun out ss h1 h2 h3=>⟨_,rfl,?_⟩) (args_list_sort _)))
 obtain⟨e,he⟩:=sortedHeap_at (out:=out) g0
 refine ar ⟨_,rfl,?_⟩
 refine k out.toList ss e s1 _ h1 (h2.trans yp) h3 old eg eo (by rw[Array.toArray_toList];exact he) fun b o eb=>?_
 have lt:=aH eb
 rw[sortedHeap_old (bf lt) (by rw[sz];exact cM lt)]
 exact aj _ eb
end
theorem uniqZ{l m:List Int}(h1:l.Pairwise (·<=·))(h2:m.Pairwise (·<=·))(p:l.Perm m):l=m:=
 p.eq_of_pairwise (fun a b _ _ x y=>Int.le_antisymm x y) h1 h2
theorem ss_eq{zs ss:List Int}(h:ss.Pairwise (·<=·))(p:ss.Perm (L3.ddI zs)):L3.ssI zs=ss:=by
 have hs:(L3.ssI zs).Pairwise fun a b=>decide (a<=b)=true:=fw (le:=fun a b:Int=>decide (a<=b)) (fun a b c x y=>decide_eq_true (dH (of_decide_eq_true x) (of_decide_eq_true y))) (fun a b=>by
  rcases k5 a b with h | h
  ·rw[decide_eq_true h];rfl
  ·rw[decide_eq_true h,je]) (L3.ddI zs)
 exact uniqZ (hs.imp fun h=>of_decide_eq_true h) h ((eN _ _).trans p.symm)
end TI
namespace L2
open PySem PySem.Spec PyProof.Rows TS
def tSI(K:ah)(t:TE):TE:=fun σ H Q=>t σ H fun x H1=>∃ a zs,x=.ref a/\SqL K H1 a (zs.map V.int)/\zs.length<5/\∀ r,H1 r=ab->Q (.ref r) (upd H1 r (.lst ((L3.ssI zs).map V.int)))
section
variable {X:Cx}{e:Expr}{t:TE}{p p1 pos pos1:Pos}
theorem all_atI(zs:List Int)(n:Nat)(h:n=zs.length):(dD 0 n).map (fun i=>zs.getD i 0)=zs:=by
 subst h
 apply fL
 ·simp
 ·intro i h1 h2
  simp[h2]
theorem set_ofI{pins:List (af × Obj)}{σ:St}{H:Hp}{s:ag}{a:af}{zs:List Int}{Q:ae->ag->Prop}(hc:X.calm=true)(I:Inv X pins σ H s)(hq:SqL X.K H a (zs.map V.int))(hz:zs.length<5)
  (k:∀ s2,TI.LeftZ X.w s (L3.ddI zs) s2->Q (.ref s.heap.objs.size) s2):aw (model X.prog X.w) X.A (call (.type "set") [.ref a]) Q X.xe s:=by
 have hh:=I.ok.hd hc
 obtain⟨its,rv,pl,_⟩:=I.list hq
 have hl:its.toArray.size=zs.length:=by have:=rv.length;simp at this;simp;lia
 have hi:∀ (i:Nat) (v:ae),its.toArray[i]? = aa v->∃ t,v=cr (zs.getD i 0) t:=fun i v hv=>by
  have hv':its[i]? = aa v:=by simpa using hv
  obtain⟨hi,e⟩:=aP.mp hv'
  have hz':i<zs.length:=by simp at hl;lia
  have:=L3.Vals.getE rv i (by simpa using hz') hi
  rw[e] at this
  simp only[jG] at this
  obtain⟨t,e'⟩:=this
  exact⟨t,by rw[e'];simp[hz']⟩
 refine call_set (P:=TI.LeftZ X.w s (L3.ddI zs)) hh (fun B hB=>?_) k
 have:=TI.init_listZ (prog:=X.prog) (w:=X.w) (E:=X.xe) hB pl.isList hi (by lia)
 rw[all_atI zs _ hl] at this
 exact this
theorem zfC:∀ {out:List ae} {ss:List Int},IntsAre out ss->Vals (ss.map V.int) out
 | _,_,.nil=>.nil
 | _,_,.cons _ _ h=>.cons ⟨_,rfl⟩ (zfC h)
theorem zhD(hc:X.calm=true)(he:PE X e t)(hg:Gl X "sorted")(hm:X.mg "sorted" = ab)(hv:a9 "sorted" = aa (.builtin "sorted"))(hg1:Gl X "set")(hm1:X.mg "set" = ab)(hv1:a9 "set" = aa (.type "set"))
  (h1:bj [e] X.env=(false,eval e X.env) :: bj [] X.env) (h2:bj [lP (.Name "set" p1) [e] [] pos1] X.env=(false,eval (.Call (.Name "set" p1) [e] [] pos1) X.env) :: bj [] X.env) :
  PE X (.Call (.Name "sorted" p) [.Call (.Name "set" p1) [e] [] pos1] [] pos) (tSI X.K t):=by
 intro pins s σ H Q I h
 refine cC (zdz I hg hm hv ?_ (by decide) (by decide))
 refine fW ?_ h2 rfl
 rw[h2]
 refine gi (rest:=backTo pos (bj [] X.env)) ?_
 refine cC (zdz I hg1 hm1 hv1 ?_ (by decide) (by decide))
 refine cB ?_ h1 rfl
 refine thn (zhq he pa_nil h1 pos1 pins s σ H (one fun x H1=>∃ a zs,x=.ref a/\SqL X.K H1 a (zs.map V.int)/\zs.length<5/\∀ r,H1 r=ab->Q (.ref r) (upd H1 r (.lst ((L3.ssI zs).map V.int)))) I ?_) ?_
 ·exact(show t σ H _ from h)
 ·rintro us s1 ⟨xs,H1,I1,r1,qx⟩
  obtain⟨x,rfl,a,zs,rfl,ht,hz,kk⟩:=zia qx
  cases r1 with
  | cons r1 rn=>
   cases rn
   cases r1
   refine set_ofI hc I1 ht hz fun s2 lf=>?_
   refine gI ?_
   have I2:Inv X pins σ H1 s2:=by
    obtain⟨h',tk,rfl⟩:=lf.sh
    exact I1.kept (t':=tk) fun b o e=>lf.old b o (aH e) e
   have hd:(L3.ddI zs).length<=zs.length:=by
    have:∀ (zs acc:List Int),(zs.foldl L3.putI acc).length<=acc.length+zs.length:=fun zs=>by
     induction zs with
     | nil=>exact fun acc=>ak _
     | cons z zs ih=>
      intro acc
      have h1:=ih (L3.putI acc z)
      have h2:=TI.put_lenZ acc z
      rw[cc,aI]
      lia
    have h:=this zs []
    rwa [cQ,bq] at h
   refine TI.srtdZ (I.ok.hd hc) lf.is (by lia) fun out ss ep s3 h' so sp srt' old eg eo gr old2=>?_
   have I3:Inv X pins σ H1 s3:=I2.drawn old eg eo
   have hf:H1 s3.heap.objs.size=ab:=I3.hok.fresh (ak _)
   have kq:=kk s3.heap.objs.size hf
   rw[TI.ss_eq srt' sp] at kq
   refine⟨.ref s3.heap.objs.size,_,I3.laid (t':=s3.toks) (o:=.lst (ss.map V.int)) old2 (ak _) ?_,rfl,kq⟩
   have sl:=sp.length_eq
   exact⟨by rw[am,ci];lia,out,ep,zfC so,gr⟩
end
end L2
namespace L3
open PySem PySem.Spec PyProof.Rows L2
theorem zfw{F:Hp}:∀ (zs:List Int),Reps F (zs.map V.int) (zs.map D.int)
 | []=>.nil
 | z :: zs=>.cons (.int z) (zfw zs)
theorem vSortSetI{X:Cx}{e:Expr}{fe:FE}{p p1 pos pos1:Pos}(he:VE X e fe)(hg:Gl X "sorted")(hm:X.mg "sorted" = ab)(hv:a9 "sorted" = aa (.builtin "sorted"))(hg1:Gl X "set")(hm1:X.mg "set" = ab)(hv1:a9 "set" = aa (.type "set"))(hc:X.calm=true:=by rfl)(h1:zao e=true:=by rfl) :
  VE X (.Call (.Name "sorted" p) [.Call (.Name "set" p1) [e] [] pos1] [] pos) (ex1 ze4 fe):=by
 obtain⟨t,w,m⟩:=he.h
 refine⟨_,⟨zhD hc w.h hg hm hv hg1 hm1 hv1 (zau h1) (zau rfl)⟩,fun B F H σ δ res Q s q k=>?_⟩
 obtain⟨en,q1,q⟩:=bind_some q
 refine m B F H σ δ en _ s q1 fun v F1 H1 x1 r1=>?_
 obtain⟨ds,q2,q⟩:=bind_some q
 obtain⟨ns,q3,q⟩:=bind_some q
 obtain⟨hz,q4⟩:=za0 q
 cases q4
 obtain⟨l,vs,e1,h1,h2⟩:=r1.toL x1.fh q2
 cases zd6 h2 q3
 refine⟨l,ns,e1,h1,hz,fun r hr=>?_⟩
 exact k _ _ _ (x1.trans (Ex.lay x1.fh hr)) ⟨r,_,rfl,x1.hh.free hr,zah,zfw _,x1.fh.free hr⟩
end L3

namespace L3
theorem jqa{α β:Type}(a:α)(f:α->Option β):(aa a).bind f=f a:=rfl
theorem jqb{α β:Type}(f:α->Option β):(ab:Option α).bind f=ab:=rfl
theorem jqc{α β:Type}(a:α)(f:α->β):(aa a).map f=aa (f a):=rfl
theorem jqd{α β:Type}(f:α->β):(ab:Option α).map f=ab:=rfl
theorem jqe{α:Type}{a:α}{l:List α}:(a :: l)[0]? = aa a:=rfl
theorem jqf{α:Type}{a:α}{l:List α}{i:Nat}:(a :: l)[i+1]? = l[i]?:=rfl
theorem jqg{α:Type}{a b:α}{l:List α}:(a :: l).set 0 b=b :: l:=rfl
theorem jqh{α:Type}{a b:α}{l:List α}{i:Nat}:(a :: l).set (i+1) b=a :: l.set i b:=rfl
theorem jqi{α:Type}{a:α}{l m:List α}:(a :: l) ++ m=a :: (l ++ m):=rfl
theorem jqj{α:Type}(l:List α):[] ++ l=l:=rfl
theorem jqk{α:Type}(l:List α):l ++ []=l:=bF l
theorem jqn{α β:Type}{f:α->β}{a:α}{l:List α}:(a :: l).map f=f a :: l.map f:=rfl
theorem jqo{α β:Type}{f:α->β}:([]:List α).map f=[]:=rfl
theorem jqp{α:Type}{a:α}{l:List α}:(a :: l).length=l.length+1:=rfl
theorem jqq{α:Type}:([]:List α).length=0:=rfl
theorem jqr:(false=true)=False:=bm
theorem jqt:(!true)=false:=rfl
theorem jqu:(!false)=true:=rfl
theorem jqx{α:Type}(a:Option α):(aa a).join=a:=rfl
theorem jqy{h:Decidable True}:decide True=true:=decide_true h
theorem jqz{h:Decidable False}:decide False=false:=decide_false h
theorem jra{α:Type}{_:Decidable True}(a b:α):(if True then a else b)=a:=if_true a b
theorem jrb{α:Type}{_:Decidable False}(a b:α):(if False then a else b)=b:=if_false a b
theorem jrc(p:Prop):(p \/ True)=True:=or_true p
theorem jrd(p:Prop):(True \/ p)=True:=true_or p
theorem jre(p:Prop):(p/\True)=p:=and_true p
theorem jrf(p:Prop):(True/\p)=p:=true_and p
end L3

namespace CE
open PySem L2 L3
def oD:Option Int->D
 | none=>.non
 | some i=>.int i
theorem oD_s(i:Int):oD (aa i)=.int i:=rfl
theorem oD_n:oD ab=.non:=rfl
def stp(c:Option Int)(p:Int):Option Int:=if p=0 then ab else c.map (· + p)
def lw(cs:List (Option Int)):Option Int:=minI (cs.filterMap id)
def tc(fit:Nat->Nat->Bool)(c:Nat->Nat->Option Int)(i j:Nat):Option Int:=if 0<i/\0<j then (if (fit i (j - 1) && fit (i - 1) j)=true then c (i - 1) (j - 1) else ab) else ab
structure Pr where
 put:Int
 left:Int
 exch:Int
 turn:Int
def Pr.d(p:Pr):D:=.tup [.int p.put,.int p.left,.int p.exch,.int p.turn]
variable (fit:Nat->Nat->Bool)(p:Pr)(fr:Bool)
def cel:Nat->Nat->Option Int
 | 0,0=>aa 0
 | 0,j+1=>if fr=true then aa 0 else stp (cel 0 j) p.put
 | i+1,0=>stp (cel i 0) p.left
 | i+1,j+1=>lw [if fit i j=true then cel i j else stp (cel i j) p.exch,stp (cel (i+1) j) p.put,stp (cel i (j+1)) p.left,
   stp (if 0<i/\0<j then (if (fit i (j - 1) && fit (i - 1) j)=true then cel (i - 1) (j - 1) else ab) else ab) p.turn]
termination_by i j=>(i,j)
theorem zhU:cel fit p fr 0 0=aa 0:=by rw[cel]
theorem zim(j:Nat):cel fit p fr 0 (j+1)=if fr=true then aa 0 else stp (cel fit p fr 0 j) p.put:=by rw[cel]
theorem cel_s0(i:Nat):cel fit p fr (i+1) 0=stp (cel fit p fr i 0) p.left:=by rw[cel]
theorem zeX(i j:Nat):cel fit p fr (i+1) (j+1)=lw [if fit i j=true then cel fit p fr i j else stp (cel fit p fr i j) p.exch,stp (cel fit p fr (i+1) j) p.put,stp (cel fit p fr i (j+1)) p.left,stp (tc fit (cel fit p fr) i j) p.turn]:=by
 rw[cel]
 rfl
end CE
namespace L3
open PySem L2
def zdS(P:List Str)(T:List Nat)(i j:Nat):Bool:=inS (mkS [T.getD j 0]) (P.getD i (mkS []))
end L3
namespace CE
open PySem L2 L3
theorem minI_mem:∀ {ns:List Int} {m:Int},minI ns=aa m->m ∈ ns
 | [],m,h=>by cases h
 | n :: ns,m,h=>by
  have h':ns.foldl (fun a b=>if b<a then b else a) n=m:=bg h
  have key:∀ (ns:List Int) (n:Int),ns.foldl (fun a b=>if b<a then b else a) n=n \/ ns.foldl (fun a b=>if b<a then b else a) n ∈ ns:=by
   intro ns
   induction ns with
   | nil=>intro n;left;rfl
   | cons b ns ih=>
    intro n
    rw[cc]
    rcases ih (if b<n then b else n) with q | q
    ·rw[q]
     split
     ·right;exact av
     ·left;rfl
    ·right;exact al _ q
  rcases key ns n with q | q
  ·rw[<- h',q];exact av
  ·rw[<- h'];exact al _ q
theorem minI_le:∀ {ns:List Int} {c:Int},c ∈ ns->∃ m,minI ns=aa m/\m<=c
 | [],c,h=>by cases h
 | n :: ns,c,h=>by
  refine⟨_,rfl,?_⟩
  have key:∀ (ns:List Int) (n:Int),ns.foldl (fun a b=>if b<a then b else a) n<=n/\∀ c ∈ ns,ns.foldl (fun a b=>if b<a then b else a) n<=c:=by
   intro ns
   induction ns with
   | nil=>intro n;exact⟨dY _,by simp⟩
   | cons b ns ih=>
    intro n
    rw[cc]
    obtain⟨h1,h2⟩:=ih (if b<n then b else n)
    have h3:(if b<n then b else n)<=n/\(if b<n then b else n)<=b:=by split <;> lia
    refine⟨by lia,fun c hc=>?_⟩
    rcases aN.mp hc with rfl | hc
    ·lia
    ·exact h2 c hc
  rcases aN.mp h with rfl | h
  ·exact(key ns _).1
  ·exact(key ns n).2 c h
theorem lw_mem{cs:List (Option Int)}{m:Int}(h:lw cs=aa m):aa m ∈ cs:=by
 have:=minI_mem h
 obtain⟨x,h1,h2⟩:=eS.mp this
 have:x=aa m:=h2
 rw[<- this];exact h1
theorem lw_le{cs:List (Option Int)}{c:Int}(h:aa c ∈ cs):∃ m,lw cs=aa m/\m<=c:=minI_le (eS.mpr ⟨aa c,h,rfl⟩)
theorem zdo{c:Option Int}{q m:Int}(h:stp c q=aa m):q ≠ 0/\∃ a,c=aa a/\m=a+q:=by
 unfold stp at h
 split at h
 ·cases h
 ·rename_i hq
  cases c with
  | none=>cases h
  | some a=>exact⟨hq,a,rfl,(bg h).symm⟩
theorem zfv{a q:Int}(hq:q ≠ 0):stp (aa a) q=aa (a+q):=by unfold stp;rw[if_neg hq];rfl
inductive Ld(fit:Nat->Nat->Bool)(p:Pr)(fr:Bool):Nat->Nat->Int->Prop
 | nil:Ld fit p fr 0 0 0
 | free {j:Nat}:fr=true->Ld fit p fr 0 j 0
 | same {i j:Nat} {c:Int}:Ld fit p fr i j c->fit i j=true->Ld fit p fr (i+1) (j+1) c
 | exch {i j:Nat} {c:Int}:Ld fit p fr i j c->fit i j=false->p.exch ≠ 0->Ld fit p fr (i+1) (j+1) (c+p.exch)
 | put {i j:Nat} {c:Int}:Ld fit p fr i j c->p.put ≠ 0->Ld fit p fr i (j+1) (c+p.put)
 | left {i j:Nat} {c:Int}:Ld fit p fr i j c->p.left ≠ 0->Ld fit p fr (i+1) j (c+p.left)
 | turn {i j:Nat} {c:Int}:Ld fit p fr i j c->fit (i+1) j=true->fit i (j+1)=true->p.turn ≠ 0->Ld fit p fr (i+2) (j+2) (c+p.turn)
structure Pr.Ok(p:Pr):Prop where
 put:0<=p.put
 left:0<=p.left
 exch:0<=p.exch
 turn:0<=p.turn
variable {fit:Nat->Nat->Bool}{p:Pr}{fr:Bool}
theorem Ld.nonneg(hp:p.Ok){i j:Nat}{c:Int}(h:Ld fit p fr i j c):0<=c:=by
 have:=hp.put;have:=hp.left;have:=hp.exch;have:=hp.turn
 induction h <;> lia
theorem cel_ld:∀ (n i j:Nat),i+j=n->∀ m,cel fit p fr i j=aa m->Ld fit p fr i j m:=by
 intro n
 induction n using Nat.strongRecOn with
 | _ n ih=>
  intro i j hn m h
  cases i with
  | zero=>
   cases j with
   | zero=>rw[zhU] at h;cases h;exact .nil
   | succ j=>
    rw[zim] at h
    split at h
    ·rename_i hf;cases h;exact .free hf
    ·obtain⟨hq,a,e1,rfl⟩:=zdo h
     exact .put (ih j (by lia) 0 j (by lia) a e1) hq
  | succ i=>
   cases j with
   | zero=>
    rw[cel_s0] at h
    obtain⟨hq,a,e1,rfl⟩:=zdo h
    exact .left (ih i (by lia) i 0 (by lia) a e1) hq
   | succ j=>
    rw[zeX] at h
    have hm:=lw_mem h
    simp only[aN,fQ,or_false] at hm
    rcases hm with hm | hm | hm | hm
    ·by_cases hf:fit i j=true
     ·rw[if_pos hf] at hm;exact .same (ih (i+j) (by lia) i j rfl m hm.symm) hf
     ·rw[if_neg hf] at hm
      obtain⟨hq,a,e1,rfl⟩:=zdo hm.symm
      exact .exch (ih (i+j) (by lia) i j rfl a e1) (by simpa using hf) hq
    ·obtain⟨hq,a,e1,rfl⟩:=zdo hm.symm
     exact .put (ih (i+1+j) (by lia) (i+1) j rfl a e1) hq
    ·obtain⟨hq,a,e1,rfl⟩:=zdo hm.symm
     exact .left (ih (i+(j+1)) (by lia) i (j+1) rfl a e1) hq
    ·obtain⟨hq,a,e1,rfl⟩:=zdo hm.symm
     unfold tc at e1
     split at e1
     ·rename_i hij
      split at e1
      ·rename_i hf
       rw[eD] at hf
       obtain⟨i',rfl⟩:∃ i',i=i'+1:=⟨i - 1,by lia⟩
       obtain⟨j',rfl⟩:∃ j',j=j'+1:=⟨j - 1,by lia⟩
       simp only[dS] at e1 hf
       exact .turn (ih (i'+j') (by lia) i' j' rfl a e1) hf.1 hf.2 hq
      ·cases e1
     ·cases e1
theorem ld_cel(hp:p.Ok){i j:Nat}{c:Int}(h:Ld fit p fr i j c):∃ m,cel fit p fr i j=aa m/\m<=c:=by
 have q1:=hp.put;have q2:=hp.left;have q3:=hp.exch;have q4:=hp.turn
 induction h with
 | nil=>exact⟨0,zhU ..,dY _⟩
 | @free j hf=>
  cases j with
  | zero=>exact⟨0,zhU ..,dY _⟩
  | succ j=>exact⟨0,by rw[zim,if_pos hf],dY _⟩
 | @same i j c h hf ih=>
  obtain⟨m,e,hm⟩:=ih
  obtain⟨m',e',hm'⟩:=lw_le (cs:=[if fit i j=true then cel fit p fr i j else stp (cel fit p fr i j) p.exch,stp (cel fit p fr (i+1) j) p.put,stp (cel fit p fr i (j+1)) p.left,stp (tc fit (cel fit p fr) i j) p.turn]) (c:=m) (by rw[if_pos hf,e];simp)
  exact⟨m',by rw[zeX];exact e',by lia⟩
 | @exch i j c h hf hq ih=>
  obtain⟨m,e,hm⟩:=ih
  obtain⟨m',e',hm'⟩:=lw_le (cs:=[if fit i j=true then cel fit p fr i j else stp (cel fit p fr i j) p.exch,stp (cel fit p fr (i+1) j) p.put,stp (cel fit p fr i (j+1)) p.left,stp (tc fit (cel fit p fr) i j) p.turn]) (c:=m+p.exch) (by rw[if_neg (by rw[hf];decide),e,zfv hq];simp)
  exact⟨m',by rw[zeX];exact e',by lia⟩
 | @put i j c h hq ih=>
  obtain⟨m,e,hm⟩:=ih
  cases i with
  | zero=>
   rw[zim]
   cases fr with
   | true=>
    have:=Ld.nonneg hp h
    exact⟨0,rfl,by lia⟩
   | false=>exact⟨m+p.put,by rw[if_neg (by decide),e,zfv hq],by lia⟩
  | succ i=>
   obtain⟨m',e',hm'⟩:=lw_le (cs:=[if fit i j=true then cel fit p fr i j else stp (cel fit p fr i j) p.exch,stp (cel fit p fr (i+1) j) p.put,stp (cel fit p fr i (j+1)) p.left,stp (tc fit (cel fit p fr) i j) p.turn]) (c:=m+p.put) (by rw[e,zfv hq];simp)
   exact⟨m',by rw[zeX];exact e',by lia⟩
 | @left i j c h hq ih=>
  obtain⟨m,e,hm⟩:=ih
  cases j with
  | zero=>exact⟨m+p.left,by rw[cel_s0,e,zfv hq],by lia⟩
  | succ j=>
   obtain⟨m',e',hm'⟩:=lw_le (cs:=[if fit i j=true then cel fit p fr i j else stp (cel fit p fr i j) p.exch,stp (cel fit p fr (i+1) j) p.put,stp (cel fit p fr i (j+1)) p.left,stp (tc fit (cel fit p fr) i j) p.turn]) (c:=m+p.left) (by rw[e,zfv hq];simp)
   exact⟨m',by rw[zeX];exact e',by lia⟩
 | @turn i j c h hf1 hf2 hq ih=>
  obtain⟨m,e,hm⟩:=ih
  have ht:tc fit (cel fit p fr) (i+1) (j+1)=aa m:=by
   unfold tc
   rw[if_pos ⟨by lia,by lia⟩,dS,dS,hf1,hf2]
   exact e
  obtain⟨m',e',hm'⟩:=lw_le (cs:=[if fit (i+1) (j+1)=true then cel fit p fr (i+1) (j+1) else stp (cel fit p fr (i+1) (j+1)) p.exch,stp (cel fit p fr (i+1+1) (j+1)) p.put,stp (cel fit p fr (i+1) (j+1+1)) p.left,stp (tc fit (cel fit p fr) (i+1) (j+1)) p.turn]) (c:=m+p.turn) (by rw[ht,zfv hq];simp)
  exact⟨m',by rw[zeX];exact e',by lia⟩
theorem zhz(hp:p.Ok){i j:Nat}{m:Int}(h:cel fit p fr i j=aa m):Ld fit p fr i j m/\∀ c,Ld fit p fr i j c->m<=c:=
 ⟨cel_ld _ i j rfl m h,fun c hc=>by obtain⟨m',e,hm⟩:=ld_cel hp hc;rw[h] at e;cases e;exact hm⟩
theorem Ld.swap{fit':Nat->Nat->Bool}{n m:Nat}(hf:∀ i j,i<n->j<m->fit' j i=fit i j)(hpl:p.put=p.left){i j:Nat}{c:Int}(h:Ld fit p false i j c):i<=n->j<=m->Ld fit' p false j i c:=by
 induction h with
 | nil=>intro _ _;exact .nil
 | free h=>cases h
 | same h hs ih=>intro h1 h2;exact .same (ih (by lia) (by lia)) (by rw[hf _ _ (by lia) (by lia)];exact hs)
 | exch h hs hq ih=>intro h1 h2;exact .exch (ih (by lia) (by lia)) (by rw[hf _ _ (by lia) (by lia)];exact hs) hq
 | put h hq ih=>intro h1 h2;have:=Ld.left (ih (by lia) (by lia)) (by rw[<- hpl];exact hq);rwa [<- hpl] at this
 | left h hq ih=>intro h1 h2;have:=Ld.put (ih (by lia) (by lia)) (by rw[hpl];exact hq);rwa [hpl] at this
 | turn h hs1 hs2 hq ih=>intro h1 h2;exact .turn (ih (by lia) (by lia)) (by rw[hf _ _ (by lia) (by lia)];exact hs2) (by rw[hf _ _ (by lia) (by lia)];exact hs1) hq
theorem Ld.zero(hp:p.Ok){i j:Nat}{c:Int}(h:Ld fit p false i j c):c=0->i=j/\∀ a,a<i->fit a a=true:=by
 have q1:=hp.put;have q2:=hp.left;have q3:=hp.exch;have q4:=hp.turn
 induction h with
 | nil=>intro _;exact⟨rfl,fun a h=>by lia⟩
 | free h=>cases h
 | @same i j c h hs ih=>
  intro e
  obtain⟨e1,e2⟩:=ih e
  subst e1
  refine⟨rfl,fun a ha=>?_⟩
  by_cases ha':a<i
  ·exact e2 a ha'
  ·rw[show a=i by lia];exact hs
 | exch h hs hq ih=>intro e;have:=Ld.nonneg hp h;lia
 | put h hq ih=>intro e;have:=Ld.nonneg hp h;lia
 | left h hq ih=>intro e;have:=Ld.nonneg hp h;lia
 | turn h _ _ hq ih=>intro e;have:=Ld.nonneg hp h;lia
end CE
namespace CE
open PySem L2 L3
theorem inS_one(c:Nat)(z:Str):inS (mkS [c]) z=decide (c ∈ z.cps.toList):=StrLaws.found_one z c
def wP(w:List Nat):List Str:=w.map fun c=>mkS [c]
theorem wP_len(w:List Nat):(wP w).length=w.length:=by simp[wP]
theorem fit_w{w t:List Nat}{i j:Nat}(hi:i<w.length)(hj:j<t.length):zdS (wP w) t i j=decide (t[j]=w[i]):=by
 unfold zdS wP
 have e1:(w.map fun c=>mkS [c]).getD i (mkS [])=mkS [w[i]]:=by simp[hi]
 have e2:t.getD j 0=t[j]:=by simp[hj]
 rw[e1,e2,inS_one,zda]
 simp
def wd(p:Pr)(w t:List Nat):Option Int:=cel (zdS (wP w) t) p false w.length t.length
end CE
namespace CE
open PySem L2 L3
end CE
namespace CE
open PySem L2 L3
section
variable (fit:Nat->Nat->Bool)(p:Pr)
inductive St1:Nat->Nat->Nat->Nat->Int->Prop
 | same {i j:Nat}:fit i j=true->St1 i j (i+1) (j+1) 0
 | exch {i j:Nat}:fit i j=false->p.exch ≠ 0->St1 i j (i+1) (j+1) p.exch
 | put {i j:Nat}:p.put ≠ 0->St1 i j i (j+1) p.put
 | left {i j:Nat}:p.left ≠ 0->St1 i j (i+1) j p.left
 | turn {i j:Nat}:fit (i+1) j=true->fit i (j+1)=true->p.turn ≠ 0->St1 i j (i+2) (j+2) p.turn
inductive Sg(a b:Nat):Nat->Nat->Int->Prop
 | nil:Sg a b a b 0
 | snoc {i j i' j':Nat} {c q:Int}:Sg a b i j c->St1 fit p i j i' j' q->Sg a b i' j' (c+q)
end
variable {fit fit':Nat->Nat->Bool}{p:Pr}
theorem St1.le{i j i' j':Nat}{q:Int}(h:St1 fit p i j i' j' q):i<=i'/\j<=j':=by cases h <;> lia
theorem Sg.le{a b i j:Nat}{c:Int}(h:Sg fit p a b i j c):a<=i/\b<=j:=by
 induction h with
 | nil=>lia
 | snoc _ s ih=>have:=s.le;lia
theorem Sg.cons{a b a' b' i j:Nat}{q c:Int}(s:St1 fit p a b a' b' q)(h:Sg fit p a' b' i j c):Sg fit p a b i j (c+q):=by
 induction h with
 | nil=>have:=Sg.snoc (.nil (a:=a) (b:=b)) s;rwa [dI] at this ⊢
 | snoc _ s' ih=>have:=Sg.snoc ih s';rwa [Int.add_right_comm] at this
theorem Ld.sg{i j:Nat}{c:Int}(h:Ld fit p false i j c):Sg fit p 0 0 i j c:=by
 induction h with
 | nil=>exact .nil
 | free h=>cases h
 | same _ h ih=>have:=Sg.snoc ih (.same h);rwa [f6] at this
 | exch _ h q ih=>exact .snoc ih (.exch h q)
 | put _ q ih=>exact .snoc ih (.put q)
 | left _ q ih=>exact .snoc ih (.left q)
 | turn _ h1 h2 q ih=>exact .snoc ih (.turn h1 h2 q)
theorem Ld.step{fr:Bool}{i j i' j':Nat}{c q:Int}(h:Ld fit p fr i j c)(s:St1 fit p i j i' j' q):Ld fit p fr i' j' (c+q):=by
 cases s with
 | same e=>rw[f6];exact .same h e
 | exch e q=>exact .exch h e q
 | put q=>exact .put h q
 | left q=>exact .left h q
 | turn e1 e2 q=>exact .turn h e1 e2 q
theorem Sg.ldF{b i j:Nat}{c:Int}(h:Sg fit p 0 b i j c):Ld fit p true i j c:=by
 induction h with
 | nil=>exact .free rfl
 | snoc _ s ih=>exact ih.step s
theorem Ld.sgF{i j:Nat}{c:Int}(h:Ld fit p true i j c):∃ b,b<=j/\Sg fit p 0 b i j c:=by
 induction h with
 | nil=>exact⟨0,ak _,.nil⟩
 | @free j _=>exact⟨j,ak _,.nil⟩
 | same _ h ih=>
  obtain⟨b,hb,s⟩:=ih
  have:=Sg.snoc s (.same h)
  rw[f6] at this
  exact⟨b,by lia,this⟩
 | exch _ h q ih=>obtain⟨b,hb,s⟩:=ih;exact⟨b,by lia,.snoc s (.exch h q)⟩
 | put _ q ih=>obtain⟨b,hb,s⟩:=ih;exact⟨b,by lia,.snoc s (.put q)⟩
 | left _ q ih=>obtain⟨b,hb,s⟩:=ih;exact⟨b,by lia,.snoc s (.left q)⟩
 | turn _ h1 h2 q ih=>obtain⟨b,hb,s⟩:=ih;exact⟨b,by lia,.snoc s (.turn h1 h2 q)⟩
theorem St1.rev{m e i j i' j':Nat}{q:Int}(hf:∀ x y,x<m->y<e->fit' x y=fit (m - 1 - x) (e - 1 - y))(hm:i'<=m)(he:j'<=e)(h:St1 fit p i j i' j' q):St1 fit' p (m - i') (e - j') (m - i) (e - j) q:=by
 cases h with
 | same h=>
  rw[show m - i=m - (i+1)+1 by lia,show e - j=e - (j+1)+1 by lia]
  exact .same (by rw[hf _ _ (by lia) (by lia),show m - 1 - (m - (i+1))=i by lia,show e - 1 - (e - (j+1))=j by lia];exact h)
 | exch h q=>
  rw[show m - i=m - (i+1)+1 by lia,show e - j=e - (j+1)+1 by lia]
  exact .exch (by rw[hf _ _ (by lia) (by lia),show m - 1 - (m - (i+1))=i by lia,show e - 1 - (e - (j+1))=j by lia];exact h) q
 | put q=>
  rw[show e - j=e - (j+1)+1 by lia]
  exact .put q
 | left q=>
  rw[show m - i=m - (i+1)+1 by lia]
  exact .left q
 | turn h1 h2 q=>
  rw[show m - i=m - (i+2)+2 by lia,show e - j=e - (j+2)+2 by lia]
  refine .turn ?_ ?_ q
  ·rw[hf _ _ (by lia) (by lia),show m - 1 - (m - (i+2)+1)=i by lia,show e - 1 - (e - (j+2))=j+1 by lia];exact h2
  ·rw[hf _ _ (by lia) (by lia),show m - 1 - (m - (i+2))=i+1 by lia,show e - 1 - (e - (j+2)+1)=j by lia];exact h1
theorem Sg.rev{m e a b i j:Nat}{c:Int}(hf:∀ x y,x<m->y<e->fit' x y=fit (m - 1 - x) (e - 1 - y))(h:Sg fit p a b i j c):i<=m->j<=e->Sg fit' p (m - i) (e - j) (m - a) (e - b) c:=by
 induction h with
 | nil=>intro _ _;exact .nil
 | snoc _ s ih=>
  intro hm he
  have:=s.le
  exact Sg.cons (s.rev hf hm he) (ih (by lia) (by lia))
theorem St1.shift{b0 m l i j i' j':Nat}{q:Int}(hf:∀ x y,x<m->y<l->fit' x y=fit x (b0+y))(hm:i'<=m)(he:j'<=b0+l)(hb:b0<=j)(h:St1 fit p i j i' j' q):St1 fit' p i (j - b0) i' (j' - b0) q:=by
 cases h with
 | same h=>
  rw[show j+1 - b0=j - b0+1 by lia]
  exact .same (by rw[hf _ _ (by lia) (by lia),show b0+(j - b0)=j by lia];exact h)
 | exch h q=>
  rw[show j+1 - b0=j - b0+1 by lia]
  exact .exch (by rw[hf _ _ (by lia) (by lia),show b0+(j - b0)=j by lia];exact h) q
 | put q=>rw[show j+1 - b0=j - b0+1 by lia];exact .put q
 | left q=>exact .left q
 | turn h1 h2 q=>
  rw[show j+2 - b0=j - b0+2 by lia]
  refine .turn ?_ ?_ q
  ·rw[hf _ _ (by lia) (by lia),show b0+(j - b0)=j by lia];exact h1
  ·rw[hf _ _ (by lia) (by lia),show b0+(j - b0+1)=j+1 by lia];exact h2
theorem Sg.shift{b0 m l a b i j:Nat}{c:Int}(hf:∀ x y,x<m->y<l->fit' x y=fit x (b0+y))(h:Sg fit p a b i j c):i<=m->j<=b0+l->b0<=b->Sg fit' p a (b - b0) i (j - b0) c:=by
 induction h with
 | nil=>intro _ _ _;exact .nil
 | snoc g s ih=>
  intro hm he hb
  have:=s.le
  have:=g.le
  exact .snoc (ih (by lia) (by lia) hb) (s.shift hf hm he (by lia))
theorem St1.back{b0 m l i j i' j':Nat}{q:Int}(hf:∀ x y,x<m->y<l->fit' x y=fit x (b0+y))(hm:i'<=m)(he:j'<=l)(h:St1 fit' p i j i' j' q):St1 fit p i (b0+j) i' (b0+j') q:=by
 cases h with
 | same h=>exact .same (by rw[<- hf _ _ (by lia) (by lia)];exact h)
 | exch h q=>exact .exch (by rw[<- hf _ _ (by lia) (by lia)];exact h) q
 | put q=>exact .put q
 | left q=>exact .left q
 | turn h1 h2 q=>exact .turn (by rw[<- hf _ _ (by lia) (by lia)];exact h1) (by rw[kj,<- hf _ _ (by lia) (by lia)];exact h2) q
theorem Sg.back{b0 m l a b i j:Nat}{c:Int}(hf:∀ x y,x<m->y<l->fit' x y=fit x (b0+y))(h:Sg fit' p a b i j c):i<=m->j<=l->Sg fit p a (b0+b) i (b0+j) c:=by
 induction h with
 | nil=>intro _ _;exact .nil
 | snoc _ s ih=>
  intro hm he
  have:=s.le
  exact .snoc (ih (by lia) (by lia)) (s.back hf hm he)
end CE
namespace CE
open PySem L2 L3
def pl:Pr:=⟨1,1,1,0⟩
theorem pl_ok:pl.Ok:=⟨by decide,by decide,by decide,by decide⟩
section
variable {fit:Nat->Nat->Bool}
theorem St1.pl{i j i' j':Nat}{q:Int}(h:St1 fit pl i j i' j' q):(i'=i+1/\j'=j+1/\q=0/\fit i j=true) \/ (q=1/\((i'=i+1/\j'=j+1) \/ (i'=i/\j'=j+1) \/ (i'=i+1/\j'=j))):=by
 cases h with
 | same h=>exact .inl ⟨rfl,rfl,rfl,h⟩
 | exch _ _=>exact .inr ⟨rfl,.inl ⟨rfl,rfl⟩⟩
 | put _=>exact .inr ⟨rfl,.inr (.inl ⟨rfl,rfl⟩)⟩
 | left _=>exact .inr ⟨rfl,.inr (.inr ⟨rfl,rfl⟩)⟩
 | turn _ _ h=>exact absurd rfl h
theorem Sg.dist{a b i j:Nat}{c:Int}(h:Sg fit pl a b i j c):0<=c/\((j:Int) - b) - ((i:Int) - a)<=c/\((i:Int) - a) - ((j:Int) - b)<=c:=by
 induction h with
 | nil=>lia
 | snoc _ s ih=>rcases s.pl with ⟨rfl,rfl,rfl,_⟩ | ⟨rfl,⟨rfl,rfl⟩ | ⟨rfl,rfl⟩ | ⟨rfl,rfl⟩⟩ <;> lia
theorem Sg.cut{a b i j:Nat}{c:Int}(h:Sg fit pl a b i j c):∀ k,a<=k->k<=i->∃ y c1 c2,Sg fit pl a b k y c1/\Sg fit pl k y i j c2/\c=c1+c2:=by
 induction h with
 | nil=>
  intro k h1 h2
  have:k=a:=by lia
  subst this
  exact⟨b,0,0,.nil,.nil,rfl⟩
 | @snoc i j i' j' c q h s ih=>
  intro k h1 h2
  by_cases hk:k<=i
  ·obtain⟨y,c1,c2,e1,e2,e3⟩:=ih k h1 hk
   exact⟨y,c1,c2+q,e1,.snoc e2 s,by lia⟩
  ·have hk':k=i':=by rcases s.pl with ⟨rfl,rfl,rfl,_⟩ | ⟨rfl,⟨rfl,rfl⟩ | ⟨rfl,rfl⟩ | ⟨rfl,rfl⟩⟩ <;> lia
   subst hk'
   exact⟨j',c+q,0,.snoc h s,.nil,by lia⟩
theorem Sg.whole{a b i j:Nat}{c:Int}(h:Sg fit pl a b i j c):c=0->i - a=j - b/\∀ x,a+x<i->fit (a+x) (b+x)=true:=by
 induction h with
 | nil=>intro _;exact⟨by lia,fun x hx=>by lia⟩
 | @snoc i j i' j' c q h s ih=>
  intro hc
  have hd:=h.dist
  have hl:=h.le
  rcases s.pl with ⟨rfl,rfl,rfl,hf⟩ | ⟨rfl,_⟩
  ·obtain⟨e1,e2⟩:=ih (by lia)
   refine⟨by lia,fun x hx=>?_⟩
   by_cases hx':a+x<i
   ·exact e2 x hx'
   ·have:x=i - a:=by lia
    subst this
    rw[show a+(i - a)=i by lia,show b+(i - a)=j by lia]
    exact hf
  ·lia
theorem Sg.part{i j:Nat}{pt:Nat->Nat}(hm:∀ r,pt r<=pt (r+1)):∀ (n:Nat) {b:Nat} {c:Int} (r0:Nat),Sg fit pl (pt r0) b i j c->c<n->pt (r0+n)=i ->
  ∃ r y,r0<=r/\r<r0+n/\(∃ c1 c2,Sg fit pl (pt r0) b (pt r) y c1/\Sg fit pl (pt r) y i j c2/\c=c1+c2)/\∀ x,pt r+x<pt (r+1)->fit (pt r+x) (y+x)=true/\y+x<j
 | 0,b,c,r0,h,hc,_=>by have:=h.dist;lia
 | n+1,b,c,r0,h,hc,he=>by
  have up:∀ k s,pt s<=pt (s+k):=fun k=>by
   induction k with
   | zero=>intro s;exact ak _
   | succ k ih=>intro s;exact aJ (ih s) (hm _)
  have u1:pt (r0+1)<=i:=by have:=up n (r0+1);rw[show r0+1+n=r0+(n+1) by lia,he] at this;exact this
  obtain⟨y,c1,c2,e1,e2,e3⟩:=h.cut (pt (r0+1)) (hm r0) u1
  by_cases hz:c1=0
  ·obtain⟨w1,w2⟩:=e1.whole hz
   have l1:=e1.le
   have l2:=e2.le
   refine⟨r0,b,ak _,by lia,⟨0,c,.nil,h,by lia⟩,fun x hx=>⟨w2 x hx,by lia⟩⟩
  ·have d1:=e1.dist
   obtain⟨r,z,h1,h2,⟨d1,d2,g1,g2,g3⟩,h4⟩:=Sg.part hm n (r0+1) e2 (by lia) (by rw[show r0+1+n=r0+(n+1) by lia];exact he)
   refine⟨r,z,by lia,by lia,⟨c1+d1,d2,?_,g2,by lia⟩,h4⟩
   clear h4 g2 h1 h2 e2 h
   have app:∀ {a b i j i' j':Nat} {c d:Int},Sg fit pl a b i j c->Sg fit pl i j i' j' d->Sg fit pl a b i' j' (c+d):=by
    intro a b i j i' j' c d p q
    induction q with
    | nil=>rw[f6];exact p
    | snoc _ s ih=>rw[<- Int.add_assoc];exact .snoc ih s
   exact app e1 g1
end
def pcsL(q:Nat)(t:Nat->Nat)(lo hi:Nat):List (List Nat):=(aq (hi - lo+1 - q)).map fun p=>(aq q).map fun x=>t (lo+p+x)
theorem zeP{q:Nat}{t:Nat->Nat}{lo hi:Nat}(h:lo+q<=hi+1)(hl:lo<=hi):pcsL q t lo (hi+1)=pcsL q t lo hi ++ [(aq q).map fun x=>t (hi+1 - q+x)]:=by
 unfold pcsL
 rw[show hi+1 - lo+1 - q=(hi - lo+1 - q)+1 by lia,cA,bM]
 congr 1
 rw[jg]
 congr 1
 refine bX fun x _=>?_
 rw[show lo+(hi - lo+1 - q)=hi+1 - q by lia]
theorem zdn{q:Nat}{t:Nat->Nat}{lo hi:Nat}(hl:lo<=hi)(hq:1<=q):(pcsL q t lo hi).Sublist (pcsL q t lo (hi+1)):=by
 by_cases h:lo+q<=hi+1
 ·rw[zeP h hl];exact List.sublist_append_left _ _
 ·unfold pcsL
  rw[show hi+1 - lo+1 - q=0 by lia,show hi - lo+1 - q=0 by lia]
  exact .refl _
theorem Sg.pieces{q lo:Nat}{w t:Nat->Nat}(hq:1<=q){b i j:Nat}{c:Int}(h:Sg (fun i j=>decide (t j=w i)) pl 0 b i j c)(hb:lo<=b) :
  ∃ (G:List (List Nat)) (r:Nat),G.Sublist (pcsL q w 0 i)/\G.Sublist (pcsL q t lo j)/\r<=i/\b+r<=j/\(∀ x,x<r->t (j - 1 - x)=w (i - 1 - x))/\(i:Int) - c * q - (min r (q - 1):Nat)<=(G.length:Int):=by
 induction h with
 | nil=>exact⟨[],0,jH _,jH _,ak _,ak _,fun x hx=>by lia,by simp⟩
 | @snoc i j i' j' c q' h s ih=>
  obtain⟨G,r,g1,g2,r1,r2,r3,g3⟩:=ih
  have hl:=h.le
  rcases s.pl with ⟨rfl,rfl,rfl,hf⟩ | ⟨rfl,hs⟩
  ·have hf':t j=w i:=of_decide_eq_true hf
   have run:∀ x,x<r+1->t (j+1 - 1 - x)=w (i+1 - 1 - x):=fun x hx=>by
    cases x with
    | zero=>exact hf'
    | succ x=>rw[show j+1 - 1 - (x+1)=j - 1 - x by lia,show i+1 - 1 - (x+1)=i - 1 - x by lia];exact r3 x (by lia)
   rw[f6]
   by_cases hr:q<=r+1
   ·refine⟨G ++ [(aq q).map fun x=>w (i+1 - q+x)],r+1,?_,?_,by lia,by lia,run,?_⟩
    ·rw[zeP (by lia) (aO _)]
     exact g1.append (.refl _)
    ·rw[zeP (by lia) (by lia)]
     refine g2.append ?_
     have:((aq q).map fun x=>w (i+1 - q+x))=(aq q).map fun x=>t (j+1 - q+x):=bX fun x hx=>by
      have hx':=bR.mp hx
      have:=run (q - 1 - x) (by lia)
      rw[show j+1 - 1 - (q - 1 - x)=j+1 - q+x by lia,show i+1 - 1 - (q - 1 - x)=i+1 - q+x by lia] at this
      exact this.symm
     rw[this]
     exact .refl _
    ·rw[ay,cy]
     have e1:min r (q - 1)=q - 1:=by lia
     have e2:min (r+1) (q - 1)=q - 1:=by lia
     rw[e1] at g3
     rw[e2]
     lia
   ·refine⟨G,r+1,g1.trans (zdn (aO _) hq),g2.trans (zdn (by lia) hq),by lia,by lia,run,?_⟩
    have e1:min r (q - 1)=r:=by lia
    have e2:min (r+1) (q - 1)=r+1:=by lia
    rw[e1] at g3
    rw[e2]
    lia
  ·have hc:(c+1) * (q:Int)=c * q+q:=by rw[Int.add_mul,Int.one_mul]
   have e0:min 0 (q - 1)=0:=by lia
   have e1:min r (q - 1)<=q - 1:=by lia
   rcases hs with ⟨rfl,rfl⟩ | ⟨rfl,rfl⟩ | ⟨rfl,rfl⟩
   ·exact⟨G,0,g1.trans (zdn (aO _) hq),g2.trans (zdn (by lia) hq),by lia,by lia,fun x hx=>by lia,by rw[hc,e0];lia⟩
   ·exact⟨G,0,g1,g2.trans (zdn (by lia) hq),by lia,by lia,fun x hx=>by lia,by rw[hc,e0];lia⟩
   ·exact⟨G,0,g1.trans (zdn (aO _) hq),g2,by lia,by lia,fun x hx=>by lia,by rw[hc,e0];lia⟩
end CE
namespace L3
open PySem L2
theorem fSeqR{f g:FS}{δ δ':En}{e:Ent}(h:f δ=aa (.rt e δ')):zaT f g δ=aa (.rt e δ'):=by unfold zaT;rw[h];rfl
theorem zf0{fe:FE}{δ:En}{d:D}(h:fe δ=aa (.val d)):zb9 fe δ=aa (.rt (.val d) δ):=by unfold zb9;rw[h];rfl
theorem zbw{i:Nat}{e:FE}{r:FS}{δ:En}{v:D}(h:e δ=aa (.val v)):zaT (zca i e) r δ=r (δ.set i (aa (.val v))):=by
 simp only[zaT,zca,h,aQ,sqO,stE,toN,cJ]
theorem zex{i:Nat}{e:FE}{δ:En}{v:D}(h:e δ=aa (.val v)):zca i e δ=aa (.nx (δ.set i (aa (.val v)))):=by unfold zca;rw[h];rfl
theorem zfo{E F:FE}{δ:En}{a b:Int}(h1:E δ=aa (.val (.int a)))(h2:F δ=aa (.val (.int b))):ex2 zbi E F δ=aa (.val (.int (a+b))):=by simp only[ex2,h1,h2,zbi,pI0,iOf,jqa,jqc]
theorem zhr{E:FE}{δ:En}{z:Str}{n:Nat}(h:E δ=aa (.val (.str z)))(hn:z.length=n)(hl:n<=1000000):eCB zaX (zaa E zae) δ=aa (.val (.int (n:Int))):=by subst hn;simp only[eCB,zaa,h,zae,jqc,jqa,zaX,sOf,hl,zaY,zaf]
theorem forN{it:FI}{tg:FG}{f r:FS}{δ δ':En}{ds:List D}(h:it δ=aa ds)(hl:loop tg f ds δ=aa (.nx δ')):zaT (zd1 it tg f) r δ=r δ':=zbh (by unfold zd1;rw[h];exact hl)
theorem zhy{E F:FE}{δ:En}{a b:Int}(h1:E δ=aa (.val (.int a)))(h2:F δ=aa (.val (.int b))):ex2 zdA E F δ=aa (.val (.int (a - b))):=by simp only[ex2,h1,h2,zdA,pI0,iOf,jqa,jqc]
theorem zhk{i:Nat}{e:FE}{δ:En}{ds:List D}{v:D}(h0:δ[i]? = aa (aa (.own ds)))(h:e δ=aa (.val v))(hl:ds.length<1000000):zgk i e δ=aa (.nx (δ.set i (aa (.own (ds ++ [v]))))):=by
 unfold zgk;rw[h0,h];simp (disch:=omega) only[jqa,asV,zaY,zaf]
theorem zfl{E F:FE}{δ:En}{a b:Int}(h1:E δ=aa (.val (.int a)))(h2:F δ=aa (.val (.int b)))(hb:0<b):ex2 zbu E F δ=aa (.val (.int (a % b))):=by simp (disch:=omega) only[ex2,h1,h2,zbu,pI,iOf,jqa,zcY,zaf]
theorem zfI{E F:FE}{δ:En}{a b:Int}(h1:E δ=aa (.val (.int a)))(h2:F δ=aa (.val (.int b)))(hb:0<b/\b<1000000):ex2 zcw E F δ=aa (.val (.int (a / b))):=by simp (disch:=omega) only[ex2,h1,h2,zcw,pI,iOf,jqa,zfH,zaf]
theorem eqTT{E F:FE}{δ:En}{a b:Int}(h1:E δ=aa (.val (.int a)))(h2:F δ=aa (.val (.int b))):tOf (ex2 gEq E F) δ=aa (decide (a=b)):=by by_cases e:a=b <;> simp only[tOf,ex2,h1,e,h2,gEq,zhe,jqa,jqy,jqc,bOf,jqz]
theorem ixLB{E F:FE}{δ:En}{ds:List D}{a:Int}{v:D}(h1:E δ=aa (.bor ds))(h2:F δ=aa (.val (.int a)))(h:atI ds a=aa v):ex2 zcR E F δ=aa (.val v):=by simp only[ex2,h1,h2,zcR,asL,iOf,jqa,h,jqc]
theorem ixLO{E F:FE}{δ:En}{ds:List D}{a:Int}{v:D}(h1:E δ=aa (.own ds))(h2:F δ=aa (.val (.int a)))(h:atI ds a=aa v):ex2 zcR E F δ=aa (.val v):=by simp only[ex2,h1,h2,zcR,asL,iOf,jqa,h,jqc]
theorem orLt{X Y:FE}{δ:En}{a b c:Int}(hX:X δ=aa (.val (.int a)))(hY:Y δ=aa (.val (.int b))):fOr (tOf (ex2 gLt X (eC (.int c)))) (tOf (ex2 gLt Y (eC (.int c)))) δ=aa (decide (a<c \/ b<c)):=by
 by_cases c1:a<c
 ·simp only[fOr,tOf,ex2,hX,eC,gLt,pI0,iOf,jqa,jqc,c1,jqy,bOf,jra,jrd]
 ·by_cases c2:b<c <;> simp only[fOr,tOf,ex2,hX,eC,gLt,pI0,iOf,jqa,jqc,c1,jqz,bOf,hY,c2,jqy,jqr,jrb,jrc,or_self]
theorem orB{X Y:FE}{δ:En}{a b:Bool}(hX:X δ=aa (.val (.bl a)))(hY:Y δ=aa (.val (.bl b))):fOr (tOf X) (tOf Y) δ=aa (a || b):=by
 cases a <;> simp only[fOr,tOf,hX,jqa,bOf,hY,jqr,jrb,Bool.false_or,jra,jh]
theorem ixTT{E F:FE}{δ:En}{ds:List D}{a:Int}{v:D}(h1:E δ=aa (.val (.tup ds)))(h2:F δ=aa (.val (.int a)))(h:atI ds a=aa v):ex2 zfi E F δ=aa (.val v):=by simp only[ex2,h1,h2,zfi,zez,iOf,jqa,h,jqc]
theorem ixSS{E F:FE}{δ:En}{tx:List Nat}{a:Int}{t:Nat}(h1:E δ=aa (.val (.str (mkS tx))))(hl:tx.length<=1000000)(h2:F δ=aa (.val (.int a)))(h:atI tx a=aa t):ex2 gIxS E F δ=aa (.val (.str (mkS [t]))):=by simp only[ex2,h1,h2,gIxS,sOf,iOf,jqa,zaJ,hl,zaY,zda,h,jqc,zaf]
theorem inSS{E F:FE}{δ:En}{z w:Str}(h1:E δ=aa (.val (.str z)))(h2:F δ=aa (.val (.str w))):ex2 gInS E F δ=aa (.val (.bl (inS z w))):=by simp only[ex2,h1,h2,gInS,sOf,jqa,jqc]
theorem niSS{E F:FE}{δ:En}{z w:Str}(h1:E δ=aa (.val (.str z)))(h2:F δ=aa (.val (.str w))):ex2 gNiS E F δ=aa (.val (.bl (!inS z w))):=by simp only[ex2,h1,h2,gNiS,sOf,jqa,jqc]
theorem low4{A B C E:FE}{δ:En}{a b c d:D}{g:List D->Option Ent}(hA:A δ=aa (.val a))(hB:B δ=aa (.val b))(hC:C δ=aa (.val c))(hE:E δ=aa (.val d)):zag [.v] g (zaa (zcg (zaa A (zaa B (zaa C (zaa E zae))))) zae) δ=g [.lst [a,b,c,d]]:=by simp only[zag,zaa,zcg,hA,hB,hC,hE,zae,jqc,jqa,jqp,jqq,Nat.reduceLeDiff,zew,asV,jra,zbg,zcx]
theorem ze5{X Y:FE}{δ:En}{a b:D}{g:List D->Option Ent}(hX:X δ=aa (.val a))(hY:Y δ=aa (.val b)):zag [.v,.v] g (zaa X (zaa Y zae)) δ=g [a,b]:=by
 unfold zag zaa zae;rw[hX];simp only[aQ];rw[hY];rfl
theorem eIfI{A B C:FE}{δ:En}{q:Bool}{a b:D}(hA:A δ=aa (.val (.bl q)))(hB:B δ=aa (.val a))(hC:C δ=aa (.val b)):eIf (tOf A) B C δ=aa (.val (if q=true then a else b)):=by
 cases q <;> simp only[eIf,tOf,hA,jqa,bOf,hB,hC,jqr,jrb,jra]
theorem zef{i:Nat}{e:FE}{δ:En}{ds:List D}(h:e δ=aa (.own ds)):zca i e δ=aa (.nx (δ.set i (aa (.own ds)))):=by unfold zca;rw[h];rfl
theorem ixLW{E F:FE}{δ:En}{ds:List D}{a:Int}{v:D}(h1:E δ=aa (.vw ds))(h2:F δ=aa (.val (.int a)))(h:atI ds a=aa v):ex2 zcR E F δ=aa (.val v):=by simp only[ex2,h1,h2,zcR,asL,iOf,jqa,h,jqc]
theorem eLst1{E:FE}{δ:En}{v:D}(h:E δ=aa (.val v)):zcg (zaa E zae) δ=aa (.own [v]):=by unfold zcg zaa zae;rw[h];rfl
end L3

namespace N45
open PySem L2 L3 PyProof.Rows
noncomputable section
def zcB:FE:=
  (ex2 zfi (zab 0) (zab 1))
def zc8:FS:=
  (zb9 (eCB zc4 (zaa (eLC [1] (iB 0) zcK zcB) zae)))
def zcn:List D->Option Ent:=zcU [.b,.v] 0 zc8
def zaP:FS:=
  (zaT (fIf (fOr (tOf (ex2 gLt (zab 3) (eC (.int 2)))) (tOf (ex2 gLt (eCB zaX (zaa (zab 2) zae)) (eC (.int 2))))) (zb9 (eC .non)) fNx)
   (zaT (fIf (fOr (tOf (ex2 gNiS (ex2 gIxS (zab 2) (ex1 zgi (eC (.int 2)))) (ex2 zfi (zab 1) (ex2 zdA (zab 3) (eC (.int 1)))))) (tOf (ex2 gNiS (ex2 gIxS (zab 2) (ex1 zgi (eC (.int 1)))) (ex2 zfi (zab 1) (ex2 zdA (zab 3) (eC (.int 2))))))) (zb9 (eC .non)) fNx)
   (zb9 (ex2 zfi (ex2 zcR (zab 0) (ex1 zgi (eC (.int 2)))) (ex2 zdA (zab 3) (eC (.int 2)))))))
def zaO:List D->Option Ent:=zcU [.b,.v,.v,.v] 0 zaP
def zdd:FS:=
  (zaT (fIf (fOr (tOf (ex2 gIsN (zab 0) (eC .non))) (tOf (ex2 gEq (zab 1) (eC (.int 0))))) (zb9 (eC .non)) fNx)
   (zb9 (ex2 zbi (zab 0) (zab 1))))
def zbd:List D->Option Ent:=zcU [.v,.v] 0 zdd
def zdJ:FE:=
  (zab 0)
def zdN:FT:=
  (tOf (ex2 gNoN (zab 0) (eC .non)))
def zfX:FS:=
  (zb9 (ex2 gMinD (eLC [] (qV (zab 0)) zdN zdJ) (eC .non)))
def zdq:List D->Option Ent:=zcU [.v] 0 zfX
def zde:FS:=
  (zb9 (eCB gTupS (zaa (zab 0) zae)))
def zaK:List D->Option Ent:=zcU [.v] 0 zde
def zcL:FE:=
  (zab 0)
def zch:FT:=
  (tOf (ex2 gEq (eSl zdu (zab 2) (oSo (zab 0)) (oSo (ex2 zbi (zab 0) (eCB zaX (zaa (zab 1) zae))))) (zab 1)))
def zdH:FS:=
  (zb9 (eLC [0,1] (iR1 (zaa (ex2 zbi (ex2 zdA (eCB zaX (zaa (zab 1) zae)) (eCB zaX (zaa (zab 0) zae))) (eC (.int 1))) zae)) zch zcL))
def zce:List D->Option Ent:=zcU [.v,.v] 0 zdH
def zcI:FE:=
  (zeA (zaa (eCB zgz (zaa (ex2 zdA (ex2 zdA (zab 0) (eCB zaX (zaa (zab 2) zae))) (zab 1)) (zaa (eC (.int 0)) zae))) (zaa (zab 0) zae)))
def zeR:FS:=
  (zb9 (eLC [1,0] (iR1 (zaa (ex2 zbi (eCB zaX (zaa (zab 2) zae)) (eC (.int 1))) zae)) zcK zcI))
def zdW:List D->Option Ent:=zcU [.v,.v,.v] 0 zeR
def zbb:FS:=
  (zaT (zca 4 (eSl zdu (zab 0) (oSo (zab 3)) (oSo (ex2 zbi (zab 3) (zab 1)))))
   (fDput 2 (zab 4) (ex2 zbi (eDget 2 (zaa (zab 4) (zaa (eC (.int 0)) zae))) (eC (.int 1)))))
def zbJ:FS:=
  (zaT (fSetO 2 eD0)
   (zaT (zd1 (iR1 (zaa (ex2 zbi (ex2 zdA (eCB zaX (zaa (zab 0) zae)) (zab 1)) (eC (.int 1))) zae)) (gNm 3) zbb)
   (fFrzD 2 (zhb 2))))
def zaE:List D->Option Ent:=zcU [.v,.v] 3 zbJ
def zaA:FE:=
  (eCB zgv (zaa (ex2 gDx (zab 1) (zab 0)) (zaa (eBM gGet (zab 2) (zaa (zab 0) (zaa (eC (.int 0)) zae))) zae)))
def zcA:FS:=
  (zb9 (eCB gSum (zaa (eLC [0,1] (iD (zab 0)) zcK zaA) zae)))
def zbD:List D->Option Ent:=zcU [.v,.v] 0 zcA
def ze3:FS:=
  (fIf (fAnd (tOf (ex2 gGt (eCB zb2 (zaa (zab 1) zae)) (eC (.int 0)))) (tOf (ex2 gLe (zab 2) (ex2 zfi (ex2 zcR (zab 1) (ex1 zgi (eC (.int 1)))) (eC (.int 1)))))) (fSIx 1 (ex1 zgi (eC (.int 1))) (zeA (zaa (ex2 zfi (ex2 zcR (zab 1) (ex1 zgi (eC (.int 1)))) (eC (.int 0))) (zaa (eCB zgz (zaa (ex2 zfi (ex2 zcR (zab 1) (ex1 zgi (eC (.int 1)))) (eC (.int 1))) (zaa (zab 3) zae))) zae)))) (zgk 1 (zeA (zaa (zab 2) (zaa (zab 3) zae)))))
def zeJ:FS:=
  (zaT (zca 1 (zcg zae))
   (zaT (zd1 (iL (eCB gSrtG (zaa (zab 0) zae))) (gTp (zba (gNm 2) (zba (gNm 3) zdZ))) ze3)
   (zb9 (eCB zc4 (zaa (zab 1) zae)))))
def zdm:List D->Option Ent:=zcU [.b] 3 zeJ
def zc7:FS:=
  (zb9 (eAnd (ex1 (gIsi "int") (zab 0)) (ex1 gNot (ex1 (gIsi "bool") (zab 0)))))
def zbX:List D->Option Ent:=zcU [.v] 0 zc7
def zbQ:FE:=
  (ex2 zdL (zab 0) (eCB zcV (zaa (ex2 gGe (zab 0) (ex2 gPow (eC (.int 10)) (eC (.int 18)))) zae)))
def zbO:FS:=
  (zaT (zca 6 (ex2 zbu (zab 5) (eCB zb2 (zaa (zab 2) zae))))
   (zaT (zca 7 (ex2 zbi (ex2 zdL (ex2 zbu (ex2 zbi (ex2 zbi (ex2 zcR (zab 2) (zab 6)) (ex2 zdL (ex2 zdL (zab 5) (zab 5)) (eC (.int 16807)))) (ex2 zdL (eC (.int 3)) (zab 5))) (eC (.int 2147483629))) (ex2 zcR (zcg (zaa (eC (.int 48271)) (zaa (eC (.int 69621)) (zaa (eC (.int 39373)) (zaa (eC (.int 16807)) zae))))) (ex2 zbu (zab 5) (eC (.int 4))))) (eC (.int 7))))
   (zaT (zgk 4 (ex2 zcR (zcg (zaa (ex2 zbu (ex2 zdL (zab 7) (zab 7)) (eC (.int 2147483629))) (zaa (ex2 zbu (ex2 zcR (zab 3) (zab 6)) (ex2 gPow (eC (.int 10)) (eC (.int 18)))) zae))) (eCB zcV (zaa (ex2 gNe (ex2 zcR (zab 3) (zab 6)) (eC (.int 0))) zae))))
   (fSIx 3 (zab 6) (ex2 gDivB (ex2 zcR (zab 3) (zab 6)) (ex2 gPow (eC (.int 10)) (eC (.int 18))))))))
def zc0:FS:=
  (zaT (zca 2 (ex2 gCat (eCB zdk (zaa (zab 0) zae)) (ex2 gRep (zcg (zaa (eC (.int 0)) zae)) (eCB zcV (zaa (ex2 gEq (eCB zb2 (zaa (zab 0) zae)) (eC (.int 0))) zae)))))
   (fFrz 2 (zaT (zca 3 (eLC [] (iL (zab 2)) zcK zbQ))
   (zaT (zca 4 (zcg zae))
   (zaT (zd1 (iR1 (zaa (zab 1) zae)) (gNm 5) zbO)
   (zb9 (ex1 gLstRev (zab 4))))))))
def zcc:List D->Option Ent:=zcU [.b,.v] 6 zc0
def zdK:FS:=
  (zb9 (ex2 gIxS (eC (.str "abcdefghijklmnopqrstuvwxyz")) (ex2 zbu (ex2 zbi (zab 0) (ex2 zdL (zab 1) (ex2 zbi (eC (.int 1)) (ex2 zbu (ex2 zcw (zab 0) (eC (.int 26))) (eC (.int 8)))))) (eC (.int 26)))))
def zas:List D->Option Ent:=zcU [.v,.v] 0 zdK
def zcs:FS:=
  (zaT (fFNew 0 "Sight" [] "most" (zab 1))
   (zaT (fFNew 0 "Sight" ["most"] "end" (eC (.int 0)))
   (fFNew 0 "Sight" ["most","end"] "pairs" (zcg zae))))
def zbq:GM:=zgR 1 0 zcs
def zcl:FS:=
  (zaT (fIf (fAnd (tOf (ex2 gNoN (zab 1) (eC .non))) (tOf (ex2 gLe (zab 1) (eFld 0 "Sight" ["most","end","pairs"] 0)))) (fFApp 0 "Sight" ["most","end","pairs"] 2 (zeA (zaa (eFld 0 "Sight" ["most","end","pairs"] 1) (zaa (zab 1) zae)))) fNx)
   (zho 0 "Sight" ["most","end","pairs"] 1 (ex2 zbi (eFld 0 "Sight" ["most","end","pairs"] 1) (eC (.int 1)))))
def zbC:GM:=zgR 1 0 zcl
def zdi:FS:=
  (zaT (zca 1 (eCB zc4 (zaa (eFld 0 "Sight" ["most","end","pairs"] 2) zae)))
   (zaT (zho 0 "Sight" ["most","end","pairs"] 2 (zcg zae))
   (zhb 1)))
def zcq:GM:=zgR 0 1 zdi
def zbH:FS:=
  (zgk 2 (zag [.v,.v] zbd (zaa (ex2 zcR (zab 2) (ex2 zdA (zab 3) (eC (.int 1)))) (zaa (ex2 ziU (zab 1) (eC (.int 1))) zae))))
def zcO:FS:=
  (zaT (zca 2 (zcg (zaa (eC (.int 0)) zae)))
   (zaT (zd1 (iR2 (zaa (eC (.int 1)) (zaa (ex2 zbi (eCB zb2 (zaa (zab 0) zae)) (eC (.int 1))) zae))) (gNm 3) zbH)
   (zb9 (eCB zc4 (zaa (zab 2) zae)))))
def zbN:List D->Option Ent:=zcU [.v,.t] 2 zcO
def zbn:FS:=
  (zaT (zca 8 (ex2 gInS (ex2 gIxS (zab 2) (ex1 zgi (eC (.int 1)))) (ex2 zfi (zab 1) (ex2 zdA (zab 7) (eC (.int 1))))))
   (zgk 6 (zag [.v] zdq (zaa (zcg (zaa (eIf (tOf (zab 8)) (ex2 zfi (zab 5) (ex2 zdA (zab 7) (eC (.int 1)))) (zag [.v,.v] zbd (zaa (ex2 zfi (zab 5) (ex2 zdA (zab 7) (eC (.int 1)))) (zaa (ex2 ziU (zab 3) (eC (.int 2))) zae)))) (zaa (zag [.v,.v] zbd (zaa (ex2 zfi (zab 5) (zab 7)) (zaa (ex2 ziU (zab 3) (eC (.int 0))) zae))) (zaa (zag [.v,.v] zbd (zaa (ex2 zcR (zab 6) (ex2 zdA (zab 7) (eC (.int 1)))) (zaa (ex2 ziU (zab 3) (eC (.int 1))) zae))) (zaa (zag [.v,.v] zbd (zaa (zag [.b,.v,.v,.v] zaO (zaa (zab 0) (zaa (zab 1) (zaa (zab 2) (zaa (zab 7) zae))))) (zaa (ex2 ziU (zab 3) (eC (.int 3))) zae))) zae))))) zae))))
def zbT:FS:=
  (zaT (zca 5 (ex2 zcR (zab 0) (ex1 zgi (eC (.int 1)))))
   (zaT (zca 6 (zcg (zaa (eIf (tOf (zab 4)) (eC (.int 0)) (zag [.v,.v] zbd (zaa (ex2 zfi (zab 5) (eC (.int 0))) (zaa (ex2 ziU (zab 3) (eC (.int 0))) zae)))) zae)))
   (zaT (zd1 (iR2 (zaa (eC (.int 1)) (zaa (ex2 zbi (eCB zb2 (zaa (zab 1) zae)) (eC (.int 1))) zae))) (gNm 7) zbn)
   (zb9 (eCB zc4 (zaa (zab 6) zae))))))
def zbS:List D->Option Ent:=zcU [.b,.v,.v,.t,.v] 4 zbT
def zb3:FS:=
  (zgk 3 (zeA (zaa (eCB zgz (zaa (ex2 zdA (ex2 zdA (zab 7) (zab 5)) (zab 1)) (zaa (eC (.int 0)) zae))) (zaa (eCB zgv (zaa (ex2 zbi (ex2 zdA (ex2 zbi (zab 7) (eCB zaX (zaa (zab 0) zae))) (zab 5)) (zab 1)) (zaa (eCB zaX (zaa (zab 2) zae)) zae))) zae))))
def zbv:FS:=
  (zaT (zca 5 (ex2 zcw (ex2 zdL (zab 4) (eCB zaX (zaa (zab 0) zae))) (ex2 zbi (zab 1) (eC (.int 1)))))
   (zaT (zca 6 (ex2 zcw (ex2 zdL (ex2 zbi (zab 4) (eC (.int 1))) (eCB zaX (zaa (zab 0) zae))) (ex2 zbi (zab 1) (eC (.int 1)))))
   (zd1 (iL (zag [.v,.v] zce (zaa (eSl zdu (zab 0) (oSo (zab 5)) (oSo (zab 6))) (zaa (zab 2) zae)))) (gNm 7) zb3)))
def zb6:FS:=
  (zaT (zca 3 (zcg zae))
   (zaT (zd1 (iR1 (zaa (ex2 zbi (zab 1) (eC (.int 1))) zae)) (gNm 4) zbv)
   (zb9 (zag [.b] zdm (zaa (zab 3) zae)))))
def zbB:List D->Option Ent:=zcU [.v,.v,.v] 5 zb6
def zaV:FS:=
  (fIf (tOf (ex2 gGe (zag [.v,.v] zbD (zaa (zab 5) (zaa (zag [.v,.v] zaE (zaa (eSl zdu (zab 2) (oSo (zab 7)) (oSo (zab 8))) (zaa (zab 3) zae))) zae))) (zab 4))) (zgk 6 (zeA (zaa (zab 7) (zaa (zab 8) zae)))) fNx)
def zbR:FS:=
  (zaT (zca 4 (ex2 zdA (ex2 zbi (ex2 zdA (eCB zaX (zaa (zab 0) zae)) (zab 3)) (eC (.int 1))) (ex2 zdL (zab 1) (zab 3))))
   (zaT (zca 5 (zag [.v,.v] zaE (zaa (zab 0) (zaa (zab 3) zae))))
   (zaT (zca 6 (zcg zae))
   (zaT (zd1 (iL (zag [.v,.v,.v] zdW (zaa (zab 0) (zaa (zab 1) (zaa (zab 2) zae))))) (gTp (zba (gNm 7) (zba (gNm 8) zdZ))) zaV)
   (zb9 (zag [.b] zdm (zaa (zab 6) zae)))))))
def zaM:List D->Option Ent:=zcU [.v,.v,.v,.v] 5 zbR
def zb5:FS:=
  (fIf (fOr (fNot (tOf (ex1 (gIsi "tuple") (zab 2)))) (fOr (tOf (ex2 gNe (eCB zb2 (zaa (zab 2) zae)) (eC (.int 2)))) (fOr (fNot (tOf (zag [.v] zbX (zaa (ex2 zfi (zab 2) (eC (.int 0))) zae)))) (fNot (tOf (zag [.v] zbX (zaa (ex2 zfi (zab 2) (eC (.int 1))) zae))))))) (zb9 (eC (.bl false))) fNx)
def zdc:FS:=
  (zaT (fIf (fOr (fNot (tOf (ex1 (gIsi "tuple") (zab 0)))) (tOf (ex2 gNe (eCB zb2 (zaa (zab 0) zae)) (eCB zb2 (zaa (zab 1) zae))))) (zb9 (eC (.bl false))) fNx)
   (zaT (zd1 (iT (zab 0)) (gNm 2) zb5)
   (zb9 (ex2 gEqD (eCB zdk (zaa (zab 0) zae)) (zab 1)))))
def zbz:List D->Option Ent:=zcU [.v,.b] 1 zdc
def zbf:FS:=
  (zaT (fIf (tOf (ex2 gEq (ex2 zbu (zab 6) (eC (.int 12))) (eC (.int 0)))) (zfj 5 (xPop 0)) fNx)
   (zaT (zca 4 (ex2 zdI (zab 4) (zag [.v,.v] zas (zaa (zab 3) (zaa (ex2 zbu (zab 5) (zab 2)) zae)))))
   (zca 5 (ex2 zcw (zab 5) (zab 2)))))
def zck:FS:=
  (zaT (zca 4 (eC (.str "")))
   (zaT (zca 5 (eC (.int 0)))
   (zaT (zd1 (iR1 (zaa (zab 1) zae)) (gNm 6) zbf)
   (zhb 4))))
def zaz:GM:=zgR 3 3 zck
def zbK:FS:=
  (zaT (zca 7 (ex2 zbu (ex2 zbu (zab 4) (eC (.int 41))) (ex2 zbi (eCB zaX (zaa (zab 1) zae)) (eC (.int 1)))))
   (zaT (zca 8 (ex2 zbu (ex2 zcw (zab 4) (eC (.int 41))) (eC (.int 3))))
   (zaT (zca 9 (ex2 zcR (zcg (zaa (zag [.v,.v] zas (zaa (zab 3) (zaa (ex2 zbu (ex2 zcw (zab 4) (eC (.int 123))) (zab 2)) zae))) (zaa (eC (.str "")) (zaa (zag [.v,.v] zas (zaa (zab 3) (zaa (ex2 zbu (ex2 zcw (zab 4) (eC (.int 123))) (zab 2)) zae))) zae)))) (zab 8)))
   (zaT (zca 1 (ex2 zdI (ex2 zdI (eSl zdu (zab 1) oNo (oSo (zab 7))) (zab 9)) (eSl zdu (zab 1) (oSo (ex2 zbi (zab 7) (eCB zcV (zaa (ex2 gGt (zab 8) (eC (.int 0))) zae)))) oNo)))
   (zca 4 (ex2 zcw (zab 4) (ex2 zdL (eC (.int 123)) (zab 2))))))))
def zci:FS:=
  (zaT (zfj 4 (xPop 0))
   (zaT (zca 5 (ex2 zbu (zab 4) (eC (.int 4))))
   (zaT (zca 4 (ex2 zcw (zab 4) (eC (.int 4))))
   (zaT (zd1 (iR1 (zaa (zab 5) zae)) (gNm 6) zbK)
   (zhb 1)))))
def zaU:GM:=zgR 3 6 zci
def zc1:FS:=
  (zgk 4 (zag [.b,.v,.v,.t,.v] zbS (zaa (zab 4) (zaa (zab 0) (zaa (eSl zdu (zab 1) oNo (oSo (zab 5))) (zaa (zab 2) (zaa (zab 3) zae)))))))
def zcX:FE:=
  (zag [.b,.v] zcn (zaa (zab 1) (zaa (zab 0) zae)))
def zeb:FS:=
  (zaT (zca 4 (zcg (zaa (zag [.v,.t] zbN (zaa (zab 0) (zaa (zab 2) zae))) zae)))
   (zaT (zd1 (iR2 (zaa (eC (.int 1)) (zaa (ex2 zbi (eCB zaX (zaa (zab 1) zae)) (eC (.int 1))) zae))) (gNm 5) zc1)
   (zb9 (eCB zc4 (zaa (eLC [4] (iR1 (zaa (ex2 zbi (eCB zb2 (zaa (zab 0) zae)) (eC (.int 1))) zae)) zcK zcX) zae)))))
def zcP:List D->Option Ent:=zcU [.v,.v,.t,.v] 2 zeb
def zct:FS:=
  (zb9 (zag [.v,.v,.v,.v] zaM (zaa (zab 0) (zaa (zab 1) (zaa (zab 2) (zaa (eC (.int 1)) zae))))))
def zaZ:List D->Option Ent:=zcU [.v,.v,.v] 0 zct
def zdv:FS:=
  (zaT (zfj 7 (x2 zdI (x2 zdI (xP (zab 7)) (xCO 0 zaz (zbx (x2 zbu (xPop 0) (xP (eC (.int 12)))) (zbx (xP (zab 2)) (zbx (xP (zab 3)) zg5))))) (xSl zdu (xCO 0 zaU (zbx (xP (zab 6)) (zbx (xP (zab 2)) (zbx (xP (zab 3)) zg5)))) xoNo (xoSo (xP (eC (.int 20)))))))
   (ziy (xLst (zbx (xP (zab 6)) (zbx (xP (zab 5)) (zbx (x2 zdI (xP (zab 7)) (xCO 0 zaz (zbx (x2 zbu (xPop 0) (xP (eC (.int 9)))) (zbx (xP (zab 2)) (zbx (xP (zab 3)) zg5))))) zg5))))))
def zdG:FS:=
  (zaT (zfj 7 (x2 zdI (xCO 0 zaz (zbx (x2 zbu (xPop 0) (xP (eC (.int 16)))) (zbx (xP (zab 2)) (zbx (xP (zab 3)) zg5)))) (xCO 0 zaU (zbx (xP (zab 6)) (zbx (xP (zab 2)) (zbx (xP (zab 3)) zg5))))))
   zdv)
def zdB:FS:=
  (zaT (zfj 6 (xCO 0 zaz (zbx (xP (zab 4)) (zbx (xP (zab 2)) (zbx (xP (zab 3)) zg5)))))
   zdG)
def zdE:FS:=
  (zaT (zca 5 (ex2 zcR (zcg (zaa (ex2 zbu (ex2 zcw (zab 1) (eC (.int 400000))) (eC (.int 4))) (zaa (ex2 zbu (ex2 zcw (zab 1) (eC (.int 400000))) (eC (.int 7))) (zaa (ex2 zbu (ex2 zcw (zab 1) (eC (.int 400000))) (eC (.int 41))) zae)))) (ex2 zcw (ex2 zbu (ex2 zcw (zab 1) (eC (.int 20000000))) (eC (.int 6))) (eC (.int 2)))))
   zdB)
def zdw:FS:=
  (zaT (zca 4 (ex2 zcR (zcg (zaa (ex2 zbu (ex2 zcw (zab 1) (eC (.int 832))) (eC (.int 13))) (zaa (ex2 zbu (ex2 zcw (zab 1) (eC (.int 832))) (eC (.int 7))) (zaa (ex2 zbu (ex2 zcw (zab 1) (eC (.int 832))) (eC (.int 41))) zae)))) (ex2 zcw (ex2 zbu (ex2 zcw (zab 1) (eC (.int 40000))) (eC (.int 8))) (eC (.int 3)))))
   zdE)
def zdD:FS:=
  (zaT (zca 3 (ex2 zbu (ex2 zcw (zab 1) (eC (.int 4))) (eC (.int 208))))
   zdw)
def zdx:FS:=
  (zaT (zca 2 (ex2 zbi (eC (.int 2)) (ex2 zbu (zab 1) (eC (.int 4)))))
   zdD)
def zc3:FS:=
  (zaT (zfj 1 (xPop 0))
   zdx)
def zbV:GM:=zgR 0 7 zc3
def zcu:FS:=
  (zb9 (ex2 zfi (zag [.v,.v,.t,.v] zcP (zaa (zab 0) (zaa (zab 1) (zaa (zab 2) (zaa (eC (.bl true)) zae))))) (ex1 zgi (eC (.int 1)))))
def zbp:List D->Option Ent:=zcU [.v,.v,.t] 0 zcu
def zcH:FS:=
  (fX (xM 4 "Sight" ["most","end","pairs"] zbC (zaa (zab 5) zae)))
def zfa:FS:=
  (zaT (fSetO 4 (eMake "Sight" zbq (zaa (zab 2) zae)))
   (zaT (zd1 (iT (zag [.v,.v,.t] zbp (zaa (zab 0) (zaa (zab 1) (zaa (zab 3) zae))))) (gNm 5) zcH)
   (ziy (xM 4 "Sight" ["most","end","pairs"] zcq zae))))
def zbo:List D->Option Ent:=zcU [.v,.v,.v,.t] 2 zfa
def zaN:FE:=
  (zeA (zaa (ex2 zbi (zab 2) (zab 0)) (zaa (zab 1) zae)))
def zbE:FS:=
  (zaT (fIf (tOf (ex2 gGt (zab 3) (zab 4))) (zb9 (zcg zae)) fNx)
   (zaT (zca 5 (zag [.v,.v,.v,.t] zbo (zaa (zag [.v] zaK (zaa (zab 0) zae)) (zaa (eSl zdu (zab 2) (oSo (zab 3)) (oSo (zab 4))) (zaa (zab 1) (zaa (eB ([1,1,1,0].map .int)) zae))))))
   (zb9 (eL2 [3] (iT (zab 5)) zcK zaN))))
def zbe:List D->Option Ent:=zcU [.v,.v,.v,.v,.v] 1 zbE
def zbG:FS:=
  (fExt 4 (zag [.v,.v,.v,.v,.v] zbe (zaa (zab 0) (zaa (zab 1) (zaa (zab 2) (zaa (eCB zgz (zaa (zab 5) (zaa (eC (.int 0)) zae))) (zaa (eCB zgv (zaa (zab 6) (zaa (eCB zaX (zaa (zab 2) zae)) zae))) zae)))))))
def zcj:FS:=
  (zaT (zca 4 (zcg zae))
   (zaT (zd1 (iT (zab 3)) (gTp (zba (gNm 5) (zba (gNm 6) zdZ))) zbG)
   (zb9 (eCB zc4 (zaa (zab 4) zae)))))
def zbt:List D->Option Ent:=zcU [.v,.v,.v,.v] 3 zcj
def zeD:FS:=
  (fIf (fNot (tOf (zag [.v,.b] zbz (zaa (zag [.v,.v,.v,.v] zbt (zaa (zab 2) (zaa (zab 3) (zaa (zab 4) (zaa (zab 9) zae))))) (zaa (zab 6) zae))))) (zb9 (eC (.bl false))) fNx)
def zig:FE:=
  (zeA (zaa (ex2 zcR (zab 1) (zab 0)) (zaa (ex2 zdA (ex2 zcR (zab 1) (ex2 zbi (zab 0) (eC (.int 1)))) (eC (.int 1))) zae)))
def zf3:FS:=
  (zgk 6 (zeA (zaa (ex2 zbi (zab 12) (zab 14)) (zaa (zab 15) zae))))
def zfT:FS:=
  (zd1 (iT (zag [.v,.v,.v,.t] zbo (zaa (zab 5) (zaa (eSl zdu (zab 4) (oSo (zab 12)) (oSo (zab 13))) (zaa (zab 3) (zaa (zeA (zaa (eC (.int 1)) (zaa (eC (.int 1)) (zaa (eC (.int 1)) (zaa (eC (.int 0)) zae))))) zae)))))) (gTp (zba (gNm 14) (zba (gNm 15) zdZ))) zf3)
def F_law_S11:FS:=
  (fFrz 11 (zaT (zd1 (iL (zab 11)) (gTp (zba (gNm 12) (zba (gNm 13) zdZ))) zfT)
   (zb9 (zag [.v,.b] zbz (zaa (zag [.v,.v,.v,.v] zbt (zaa (zab 2) (zaa (zab 3) (zaa (zab 4) (zaa (eCB zc4 (zaa (zab 11) zae)) zae))))) (zaa (zab 6) zae))))))
def zgG:FS:=
  (zaT (zca 6 (zcg zae))
   F_law_S11)
def zis:FS:=
  (zaT (zca 11 (eLC [10] (iR1 (zaa (ex2 zdA (eCB zb2 (zaa (zab 10) zae)) (eC (.int 1))) zae)) zcK zig))
   zgG)
def zeN:FS:=
  (zaT (zca 10 (ex1 ze4 (zcg (zaa (ex2 zbu (ex2 zcw (zab 8) (eC (.int 6))) (ex2 zbi (eCB zaX (zaa (zab 4) zae)) (eC (.int 1)))) (zaa (ex2 zbu (ex2 zcw (zab 8) (eC (.int 600))) (ex2 zbi (eCB zaX (zaa (zab 4) zae)) (eC (.int 1)))) (zaa (eCB zaX (zaa (zab 4) zae)) zae))))))
   zis)
def F_law_S7:FS:=
  (fFrz 7 (zaT (zd1 (iL (zab 7)) (gNm 9) zeD)
   zeN))
def zik:FS:=
  (zaT (zgk 7 (zag [.v,.v,.v,.v] zaM (zaa (zab 2) (zaa (zab 3) (zaa (zab 4) (zaa (ex2 zbi (eC (.int 1)) (ex2 zbu (zab 8) (eC (.int 6)))) zae))))))
   F_law_S7)
def zio:FS:=
  (zaT (zfj 8 (xPop 1))
   zik)
def zid:FS:=
  (zaT (zca 7 (zcg (zaa (zag [.v,.v,.v] zbB (zaa (zab 2) (zaa (zab 3) (zaa (zab 4) zae)))) (zaa (zag [.v,.v,.v] zaZ (zaa (zab 2) (zaa (zab 3) (zaa (zab 4) zae)))) zae))))
   zio)
def zhO:FS:=
  (zaT (zca 6 (eCB zdk (zaa (zag [.v,.v,.v,.t] zbo (zaa (zab 5) (zaa (zab 4) (zaa (zab 3) (zaa (zeA (zaa (eC (.int 1)) (zaa (eC (.int 1)) (zaa (eC (.int 1)) (zaa (eC (.int 0)) zae))))) zae))))) zae)))
   zid)
def zif:FS:=
  (zaT (zca 5 (zag [.v] zaK (zaa (zab 2) zae)))
   zhO)
def zhK:FS:=
  (zaT (fXAsg (gLs (zba (gNm 2) (zba (gNm 3) (zba (gNm 4) zdZ)))) (xCO 1 zbV zg5))
   zif)
def F_law:FS:=
  (zaT (ziq 1 (zag [.b,.v] zcc (zaa (eSl gSlL (zab 0) oNo (oSo (eC (.int 63)))) (zaa (eC (.int 30)) zae))))
   zhK)
def g_law:List D->Option Ent:=zcU [.b] 15 F_law
end
end N45

namespace N45
open PySem L2 L3 PyProof.Rows
def top(i:Nat):Stmt:=PySem.Challenge.pw_nearfind_k45_whole_found_in_kept.main.body.getD i (.Pass ⟨0,0,0,0⟩)
def clsB(st:Stmt)(j:Nat):Stmt:=match st with
 | .ClassDef _ _ _ b _ _ _ _ _ _ _=>b.getD j (.Pass ⟨0,0,0,0⟩)
 | _=>.Pass ⟨0,0,0,0⟩
abbrev zbA:Stmt:=top 5
theorem sc_cells_of:FnScope ["P","T","prices","free","columns","signs"] ["P","T","prices","free"] (zad zbA):=⟨rfl,rfl,rfl,by decide +kernel,rfl,by decide +kernel,by decide +kernel⟩
abbrev za2:Stmt:=top 6
theorem zfP:FnScope ["columns","classes"] ["columns","classes"] (zad za2):=⟨rfl,rfl,rfl,by decide +kernel,rfl,by decide +kernel,by decide +kernel⟩
abbrev zaG:Stmt:=top 7
theorem sc_first_column:FnScope ["pattern","prices","column","classes"] ["pattern","prices"] (zad zaG):=⟨rfl,rfl,rfl,by decide +kernel,rfl,by decide +kernel,by decide +kernel⟩
abbrev zav:Stmt:=top 8
theorem sc_further_column:FnScope ["columns","pattern","text","prices","free","before","column","classes","fits"] ["columns","pattern","text","prices","free"] (zad zav):=⟨rfl,rfl,rfl,by decide +kernel,rfl,by decide +kernel,by decide +kernel⟩
abbrev zai:Stmt:=top 9
theorem zdf:FnScope ["columns","pattern","text","classes"] ["columns","pattern","text","classes"] (zad zai):=⟨rfl,rfl,rfl,by decide +kernel,rfl,by decide +kernel,by decide +kernel⟩
abbrev zbY:Stmt:=top 10
theorem ziP:FnScope ["cell","price"] ["cell","price"] (zad zbY):=⟨rfl,rfl,rfl,by decide +kernel,rfl,by decide +kernel,by decide +kernel⟩
abbrev zcm:Stmt:=top 11
theorem sc_lowest:FnScope ["cells"] ["cells"] (zad zcm):=⟨rfl,rfl,rfl,by decide +kernel,rfl,by decide +kernel,by decide +kernel⟩
abbrev zbZ:Stmt:=top 14
theorem sc_ends_in:FnScope ["P","T","most","prices","sight","price"] ["P","T","most","prices"] (zad zbZ):=⟨rfl,rfl,rfl,by decide +kernel,rfl,by decide +kernel,by decide +kernel⟩
abbrev zay:Stmt:=top 15
theorem zec:FnScope ["pattern","text","prices"] ["pattern","text","prices"] (zad zay):=⟨rfl,rfl,rfl,by decide +kernel,rfl,by decide +kernel,by decide +kernel⟩
abbrev za6:Stmt:=top 18
theorem zgd:FnScope ["W"] ["W"] (zad za6):=⟨rfl,rfl,rfl,by decide +kernel,rfl,by decide +kernel,by decide +kernel⟩
abbrev zaH:Stmt:=top 20
theorem sc_ends_in_kept:FnScope ["W","most","T","kept","found","begin","end"] ["W","most","T","kept"] (zad zaH):=⟨rfl,rfl,rfl,by decide +kernel,rfl,by decide +kernel,by decide +kernel⟩
abbrev zar:Stmt:=top 21
theorem sc_ends_in_stretch:FnScope ["word","most","text","begin","end","told"] ["word","most","text","begin","end"] (zad zar):=⟨rfl,rfl,rfl,by decide +kernel,rfl,by decide +kernel,by decide +kernel⟩
abbrev zaB:Stmt:=top 23
theorem sc_kept_by_parts:FnScope ["W","most","T","found","number","begin","end","place"] ["W","most","T"] (zad zaB):=⟨rfl,rfl,rfl,by decide +kernel,rfl,by decide +kernel,by decide +kernel⟩
abbrev zax:Stmt:=top 24
theorem zed:FnScope ["W","most","T"] ["W","most","T"] (zad zax):=⟨rfl,rfl,rfl,by decide +kernel,rfl,by decide +kernel,by decide +kernel⟩
abbrev zat:Stmt:=top 25
theorem sc_kept_by_pieces:FnScope ["W","most","T","long","needed","pieces","found","begin","end"] ["W","most","T","long"] (zad zat):=⟨rfl,rfl,rfl,by decide +kernel,rfl,by decide +kernel,by decide +kernel⟩
abbrev zbl:Stmt:=top 26
theorem zgP:FnScope ["part","text"] ["part","text"] (zad zbl):=⟨rfl,rfl,rfl,by decide +kernel,rfl,by decide +kernel,by decide +kernel⟩
abbrev zb0:Stmt:=top 27
theorem ziE:FnScope ["word","most","text"] ["word","most","text"] (zad zb0):=⟨rfl,rfl,rfl,by decide +kernel,rfl,by decide +kernel,by decide +kernel⟩
abbrev zaq:Stmt:=top 28
theorem sc_times_of_pieces:FnScope ["text","long","times","place","piece"] ["text","long"] (zad zaq):=⟨rfl,rfl,rfl,by decide +kernel,rfl,by decide +kernel,by decide +kernel⟩
abbrev zaC:Stmt:=top 29
theorem zes:FnScope ["times","other_times"] ["times","other_times"] (zad zaC):=⟨rfl,rfl,rfl,by decide +kernel,rfl,by decide +kernel,by decide +kernel⟩
abbrev zco:Stmt:=top 30
theorem sc_joined:FnScope ["stretches","kept","begin","end"] ["stretches"] (zad zco):=⟨rfl,rfl,rfl,by decide +kernel,rfl,by decide +kernel,by decide +kernel⟩
abbrev za7:Stmt:=top 32
theorem zf8:FnScope ["_law_found"] ["_law_found"] (zad za7):=⟨rfl,rfl,rfl,by decide +kernel,rfl,by decide +kernel,by decide +kernel⟩
abbrev za4:Stmt:=top 33
theorem sc__law_pairs:FnScope ["_law_found","_law_due","_law_pair"] ["_law_found","_law_due"] (zad za4):=⟨rfl,rfl,rfl,by decide +kernel,rfl,by decide +kernel,by decide +kernel⟩
abbrev zbm:Stmt:=top 34
theorem sc__law_deck:FnScope ["_law_cells","_law_many","_law_own","_law_row","_law_deck_here","_law_k","_law_at","_law_one"] ["_law_cells","_law_many"] (zad zbm):=⟨rfl,rfl,rfl,by decide +kernel,rfl,by decide +kernel,by decide +kernel⟩
abbrev zbj:Stmt:=top 35
theorem zgQ:FnScope ["_law_turn","_law_number"] ["_law_turn","_law_number"] (zad zbj):=⟨rfl,rfl,rfl,by decide +kernel,rfl,by decide +kernel,by decide +kernel⟩
abbrev zaI:Stmt:=top 36
theorem sc__law_letters:FnScope ["_law_deck_here","_law_many","_law_few","_law_turn","_law_found","_law_cell","_law_k"] ["_law_deck_here","_law_many","_law_few","_law_turn"] (zad zaI):=⟨rfl,rfl,rfl,by decide +kernel,rfl,by decide +kernel,by decide +kernel⟩
abbrev zaF:Stmt:=top 37
theorem sc__law_slipped:FnScope ["_law_deck_here","_law_word","_law_few","_law_turn","_law_cell","_law_slips","_law_k","_law_at","_law_way","_law_sign_here"] ["_law_deck_here","_law_word","_law_few","_law_turn"] (zad zaF):=⟨rfl,rfl,rfl,by decide +kernel,rfl,by decide +kernel,by decide +kernel⟩
abbrev zbk:Stmt:=top 38
theorem sc__law_case:FnScope ["_law_deck_here","_law_cell","_law_few","_law_turn","_law_long","_law_most","_law_word","_law_text"] ["_law_deck_here"] (zad zbk):=⟨rfl,rfl,rfl,by decide +kernel,rfl,by decide +kernel,by decide +kernel⟩
abbrev zdF:Stmt:=top 39
theorem sc_law:FnScope ["_law_script","_law_deck_here","_law_word","_law_most","_law_text","_law_pattern","_law_due","_law_some","_law_turn","_law_kept","_law_lows","_law_drawn","_law_begin","_law_end","_law_place","_law_price"] ["_law_script"] (zad zdF):=⟨rfl,rfl,rfl,by decide +kernel,rfl,by decide +kernel,by decide +kernel⟩
abbrev zaw:Stmt:=clsB (top 13) 0
theorem zeh:FnScope ["self","most"] ["self","most"] (zad zaw):=⟨rfl,rfl,rfl,by decide +kernel,rfl,by decide +kernel,by decide +kernel⟩
abbrev za5:Stmt:=clsB (top 13) 1
theorem zfG:FnScope ["self","price"] ["self","price"] (zad za5):=⟨rfl,rfl,rfl,by decide +kernel,rfl,by decide +kernel,by decide +kernel⟩
abbrev za1:Stmt:=clsB (top 13) 2
theorem sc_Sight_tell:FnScope ["self","told"] ["self"] (zad za1):=⟨rfl,rfl,rfl,by decide +kernel,rfl,by decide +kernel,by decide +kernel⟩
theorem boot_bool:a9 "bool" = aa (.type "bool"):=by kernel_rfl
theorem zdY:a9 "int" = aa (.type "int"):=by kernel_rfl
theorem zb7:a9 "isinstance" = aa (.builtin "isinstance"):=by kernel_rfl
theorem zam:a9 "len" = aa (.builtin "len"):=by kernel_rfl
theorem zd9:a9 "list" = aa (.type "list"):=by kernel_rfl
theorem zeE:a9 "max" = aa (.builtin "max"):=by kernel_rfl
theorem zeF:a9 "min" = aa (.builtin "min"):=by kernel_rfl
theorem boot_range:a9 "range" = aa (.type "range"):=by kernel_rfl
theorem zgh:a9 "reversed" = aa (.type "reversed"):=by kernel_rfl
theorem boot_set:a9 "set" = aa (.type "set"):=by kernel_rfl
theorem ze0:a9 "sorted" = aa (.builtin "sorted"):=by kernel_rfl
theorem boot_sum:a9 "sum" = aa (.builtin "sum"):=by kernel_rfl
theorem zbc:a9 "tuple" = aa (.type "tuple"):=by kernel_rfl
structure Txt(K:ah)(mg:Str->Option ae):Prop where
 m_bool:mg "bool" = ab
 m_int:mg "int" = ab
 m_isinstance:mg "isinstance" = ab
 m_len:mg "len" = ab
 m_list:mg "list" = ab
 m_max:mg "max" = ab
 m_min:mg "min" = ab
 m_range:mg "range" = ab
 m_reversed:mg "reversed" = ab
 m_set:mg "set" = ab
 m_sorted:mg "sorted" = ab
 m_sum:mg "sum" = ab
 m_tuple:mg "tuple" = ab
 g_PUT:∃ u,mg "PUT" = aa u/\RelV (.int 0) u
 g_LEFT:∃ u,mg "LEFT" = aa u/\RelV (.int 1) u
 g_EXCHANGED:∃ u,mg "EXCHANGED" = aa u/\RelV (.int 2) u
 g_TURNED:∃ u,mg "TURNED" = aa u/\RelV (.int 3) u
 u_PLAIN_PRICES:∃ a,mg "PLAIN_PRICES" = aa (.ref a)/\TupK K a [1,1,1,0]
 c_Sight:∃ C,ClsD K mg "Sight" ["most","end","pairs"] C
 d_cells_of:∃ f fd,DefD K mg "cells_of" zbA ["P","T","prices","free"] f fd
 d_row_across:∃ f fd,Def K mg "row_across" za2 ["columns","classes"] f fd
 d_first_column:∃ f fd,Def K mg "first_column" zaG ["pattern","prices"] f fd
 d_further_column:∃ f fd,Def K mg "further_column" zav ["columns","pattern","text","prices","free"] f fd
 d_cell_ahead_of_turn:∃ f fd,Def K mg "cell_ahead_of_turn" zai ["columns","pattern","text","classes"] f fd
 d_stepped:∃ f fd,Def K mg "stepped" zbY ["cell","price"] f fd
 d_lowest:∃ f fd,Def K mg "lowest" zcm ["cells"] f fd
 d_ends_in:∃ f fd,Def K mg "ends_in" zbZ ["P","T","most","prices"] f fd
 d_prices_at_ends:∃ f fd,Def K mg "prices_at_ends" zay ["pattern","text","prices"] f fd
 d_pattern_of:∃ f fd,Def K mg "pattern_of" za6 ["W"] f fd
 d_ends_in_kept:∃ f fd,Def K mg "ends_in_kept" zaH ["W","most","T","kept"] f fd
 d_ends_in_stretch:∃ f fd,Def K mg "ends_in_stretch" zar ["word","most","text","begin","end"] f fd
 d_kept_by_parts:∃ f fd,Def K mg "kept_by_parts" zaB ["W","most","T"] f fd
 d_kept_by_counts:∃ f fd,Def K mg "kept_by_counts" zax ["W","most","T"] f fd
 d_kept_by_pieces:∃ f fd,Def K mg "kept_by_pieces" zat ["W","most","T","long"] f fd
 d_places_of:∃ f fd,Def K mg "places_of" zbl ["part","text"] f fd
 d_windows:∃ f fd,Def K mg "windows" zb0 ["word","most","text"] f fd
 d_times_of_pieces:∃ f fd,Def K mg "times_of_pieces" zaq ["text","long"] f fd
 d_number_shared:∃ f fd,Def K mg "number_shared" zaC ["times","other_times"] f fd
 d_joined:∃ f fd,Def K mg "joined" zco ["stretches"] f fd
 d__law_whole:∃ f fd,Def K mg "_law_whole" za7 ["_law_found"] f fd
 d__law_pairs:∃ f fd,Def K mg "_law_pairs" za4 ["_law_found","_law_due"] f fd
 d__law_deck:∃ f fd,Def K mg "_law_deck" zbm ["_law_cells","_law_many"] f fd
 d__law_sign:∃ f fd,Def K mg "_law_sign" zbj ["_law_turn","_law_number"] f fd
 d__law_letters:∃ f fd,Def K mg "_law_letters" zaI ["_law_deck_here","_law_many","_law_few","_law_turn"] f fd
 d__law_slipped:∃ f fd,Def K mg "_law_slipped" zaF ["_law_deck_here","_law_word","_law_few","_law_turn"] f fd
 d__law_case:∃ f fd,Def K mg "_law_case" zbk ["_law_deck_here"] f fd
 d_Sight___init__:∃ f fd,MakeD K "Sight" zaw "Sight.__init__" ["self","most"] f fd
 d_Sight_come:∃ f fd,MethD K "Sight" "come" za5 "Sight.come" ["self","price"] f fd
 d_Sight_tell:∃ f fd,MethD K "Sight" "tell" za1 "Sight.tell" ["self"] f fd
section
variable {P:aL}{w:aX}{K:ah}{mg:Str->Option ae}{base:ba}{f:af}{fd:bQ}
theorem zfZ(T:Txt K mg)(F:FunA K "row_across" "row_across" za2 f fd):FnOk P w K mg base CX0 1 f fd ["columns","classes"] (spD K [.b,.v] zcn):=by
 refine zbr F zfP zc8 rfl (fun _ _ h=>h) fun cdv A outer s H E hr=>?_
 have hu:=zbW hr
 exact(ss1 (zdR (vct zer (by rfl) T.m_tuple zbc (zac (vlc (N:=["column","classes"]) (fr:=[1]) ⟨rfl,rfl,rfl,by decide +kernel,rfl,rfl⟩ (iib 0) (fun _ _ _ _=>by exact if0) (fun _ _ _ _=>by exact(vix zdM (vv 0) (vv 1) (fun _ _=>rfl)))) zan))))
theorem zdg(T:Txt K mg)(F:FunA K "cell_ahead_of_turn" "cell_ahead_of_turn" zai f fd):FnOk P w K mg base CX0 1 f fd ["columns","pattern","text","classes"] (spD K [.b,.v,.v,.v] zaO):=by
 refine zbr F zdf zaP rfl (fun _ _ h=>h) fun cdv A outer s H E hr=>?_
 have hu:=zbW hr
 exact(ssc (sIf (tww (tor' (tcm ((o_lt)) (vv 3) zap (zb1 _)) (tor1' (tcm ((o_lt)) (vcb zb8 (by rfl) T.m_len zam (zac (vv 2) zan)) zap (zb1 _))))) (ss1 (zdR vnon)) ss0)
   (ssc (sIf (tww (tor' (tcm (o_niS) (vix x_str (vv 2) (vun zfh zap) (fun _ _=>rfl)) (vix zdM (vv 1) (vop zcW (vv 3) zap) (fun _ _=>rfl)) (by with_unfolding_all rfl)) (tor1' (tcm (o_niS) (vix x_str (vv 2) (vun zfh zap) (fun _ _=>rfl)) (vix zdM (vv 1) (vop zcW (vv 3) zap) (fun _ _=>rfl)) (by with_unfolding_all rfl))))) (ss1 (zdR vnon)) ss0)
   (ss1 (zdR (vix zdM (vix zcb (vv 0) (vun zfh zap) (fun _ _=>rfl)) (vop zcW (vv 3) zap) (fun _ _=>rfl))))))
theorem zfx(T:Txt K mg)(F:FunA K "stepped" "stepped" zbY f fd):FnOk P w K mg base CX0 1 f fd ["cell","price"] (spD K [.v,.v] zbd):=by
 refine zbr F ziP zdd rfl (fun _ _ h=>h) fun cdv A outer s H E hr=>?_
 have hu:=zbW hr
 exact(ssc (sIf (tww (tor' (tcm (o_isN) (vv 0) vnon (zb1 _)) (tor1' (tcm (o_eq) (vv 1) zap (zb1 _))))) (ss1 (zdR vnon)) ss0)
   (ss1 (zdR (vop zbL (vv 0) (vv 1)))))
theorem ok_lowest(T:Txt K mg)(F:FunA K "lowest" "lowest" zcm f fd):FnOk P w K mg base CX0 1 f fd ["cells"] (spD K [.v] zdq):=by
 refine zbr F sc_lowest zfX rfl (fun _ _ h=>h) fun cdv A outer s H E hr=>?_
 have hu:=zbW hr
 exact(ss1 (zdR (vminD (vlc (N:=["cell"]) (fr:=[]) ⟨rfl,rfl,rfl,by decide +kernel,rfl,rfl⟩ (iiq (vv 0)) (fun _ _ _ _=>by exact(if1 (tcm (o_noN) (vv 0) vnon (zb1 _)))) (fun _ _ _ _=>by exact(vv 0))) vnon (by rfl) T.m_min zeF)))
theorem zdX(T:Txt K mg)(F:FunA K "pattern_of" "pattern_of" za6 f fd):FnOk P w K mg base CX0 1 f fd ["W"] (spD K [.v] zaK):=by
 refine zbr F zgd zde rfl (fun _ _ h=>h) fun cdv A outer s H E hr=>?_
 have hu:=zbW hr
 exact(ss1 (zdR (vct c_tupS (by rfl) T.m_tuple zbc (zac (vv 0) zan))))
theorem zgy(T:Txt K mg)(F:FunA K "places_of" "places_of" zbl f fd):FnOk P w K mg base CX0 1 f fd ["part","text"] (spD K [.v,.v] zce):=by
 refine zbr F zgP zdH rfl (fun _ _ h=>h) fun cdv A outer s H E hr=>?_
 have hu:=zbW hr
 exact(ss1 (zdR (vlc (N:=["place","part","text"]) (fr:=[0,1]) ⟨rfl,rfl,rfl,by decide +kernel,rfl,rfl⟩ (iir1 (by rfl) T.m_range (zac (vop zbL (vop zcW (vcb zb8 (by rfl) T.m_len zam (zac (vv 1) zan)) (vcb zb8 (by rfl) T.m_len zam (zac (vv 0) zan))) zap) zan)) (fun _ _ _ _=>by exact(if1 (tcm (o_eq) (vsl zfg (vv 2) (vos (vv 0)) (vos (vop zbL (vv 0) (vcb zb8 (by rfl) T.m_len zam (zac (vv 1) zan))))) (vv 1) (zb1 _)))) (fun _ _ _ _=>by exact(vv 0)))))
theorem ziG(T:Txt K mg)(F:FunA K "windows" "windows" zb0 f fd):FnOk P w K mg base CX0 1 f fd ["word","most","text"] (spD K [.v,.v,.v] zdW):=by
 refine zbr F ziE zeR rfl (fun _ _ h=>h) fun cdv A outer s H E hr=>?_
 have hu:=zbW hr
 exact(ss1 (zdR (vlc (N:=["end","most","word"]) (fr:=[1,0]) ⟨rfl,rfl,rfl,by decide +kernel,rfl,rfl⟩ (iir1 (by rfl) T.m_range (zac (vop zbL (vcb zb8 (by rfl) T.m_len zam (zac (vv 2) zan)) zap) zan)) (fun _ _ _ _=>by exact if0) (fun _ _ _ _=>by exact(vtup (zac (vcb zib (by rfl) T.m_max zeE (zac (vop zcW (vop zcW (vv 0) (vcb zb8 (by rfl) T.m_len zam (zac (vv 2) zan))) (vv 1)) (zac zap zan))) (zac (vv 0) zan)))))))
theorem zd7(T:Txt K mg)(F:FunA K "times_of_pieces" "times_of_pieces" zaq f fd):FnOk P w K mg base CX0 1 f fd ["text","long"] (spD K [.v,.v] zaE):=by
 refine zbr F sc_times_of_pieces zbJ rfl (fun _ _ h=>h) fun cdv A outer s H E hr=>?_
 have hu:=zbW hr
 exact(ssc (sSetO (i:=2) (by decide) sc_times_of_pieces.nd rfl (az rfl) vD0)
   (ssc (zgA (iir1 (by rfl) T.m_range (zac (vop zbL (vop zcW (vcb zb8 (by rfl) T.m_len zam (zac (vv 0) zan)) (vv 1)) zap) zan)) (gnm (i:=3) sc_times_of_pieces.nd rfl (az rfl))
   (ssc (zcT (i:=4) sc_times_of_pieces.nd rfl (az rfl) (vsl zfg (vv 0) (vos (vv 3)) (vos (vop zbL (vv 3) (vv 1)))))
   (ss1 (sDput 2 (vop zbL (vDget 2 (zac (vv 4) (zac zap zan))) zap) (vv 4) (hg:=fun a b=>⟨pg_sub a.h b.h set_dic⟩)))))
   (sFrzD 2 (ss1 (sRetV 2)))))
theorem zeu(T:Txt K mg)(F:FunA K "number_shared" "number_shared" zaC f fd):FnOk P w K mg base CX0 1 f fd ["times","other_times"] (spD K [.v,.v] zbD):=by
 refine zbr F zes zcA rfl (fun _ _ h=>h) fun cdv A outer s H E hr=>?_
 have hu:=zbW hr
 exact(ss1 (zdR (vcb c_sum (by rfl) T.m_sum boot_sum (zac (vlc (N:=["piece","times","other_times"]) (fr:=[0,1]) ⟨rfl,rfl,rfl,by decide +kernel,rfl,rfl⟩ (iid (vv 0)) (fun _ _ _ _=>by exact if0) (fun _ _ _ _=>by exact(vcb c_min2 (by rfl) T.m_min zeF (zac (vix x_dic (vv 1) (vv 0) (fun _ _=>rfl)) (zac (vbm m_get (vv 2) (zac (vv 0) (zac zap zan))) zan))))) zan))))
theorem zgo(T:Txt K mg)(F:FunA K "joined" "joined" zco f fd):FnOk P w K mg base CX0 1 f fd ["stretches"] (spD K [.b] zdm):=by
 refine zbr F sc_joined zeJ rfl (fun _ _ h=>h) fun cdv A outer s H E hr=>?_
 have hu:=zbW hr
 exact(ssc (zcT (i:=1) sc_joined.nd rfl (az rfl) (zfm zan))
   (ssc (zgA (iil (vcb c_srtG (by rfl) T.m_sorted ze0 (zac (vv 0) zan))) (gtp rfl (ziL (gnm (i:=2) sc_joined.nd rfl (az rfl)) (ziL (gnm (i:=3) sc_joined.nd rfl (az rfl)) gns0)) (hl:=gl1 (gl1 (gl0))))
   (ss1 (sIf (tww (tan (tcm (o_gt) (vcb zdy (by rfl) T.m_len zam (zac (vv 1) zan)) zap (zb1 _)) (tan1 (tcm (o_le) (vv 2) (vix zdM (vix zcb (vv 1) (vun zfh zap) (fun _ _=>rfl)) zap (fun _ _=>rfl)) (zb1 _))))) (ss1 (sSIx 1 (vtup (zac (vix zdM (vix zcb (vv 1) (vun zfh zap) (fun _ _=>rfl)) zap (fun _ _=>rfl)) (zac (vcb zib (by rfl) T.m_max zeE (zac (vix zdM (vix zcb (vv 1) (vun zfh zap) (fun _ _=>rfl)) zap (fun _ _=>rfl)) (zac (vv 3) zan))) zan))) (vun zfh zap) (hg:=fun a b=>⟨pg_sub a.h b.h zhJ⟩))) (ss1 (sApp 1 (vtup (zac (vv 2) (zac (vv 3) zan))))))))
   (ss1 (zdR (vct zer (by rfl) T.m_tuple zbc (zac (vv 1) zan))))))
theorem zgf(T:Txt K mg)(F:FunA K "_law_whole" "_law_whole" za7 f fd):FnOk P w K mg base CX0 1 f fd ["_law_found"] (spD K [.v] zbX):=by
 refine zbr F zf8 zc7 rfl (fun _ _ h=>h) fun cdv A outer s H E hr=>?_
 have hu:=zbW hr
 exact(ss1 (zdR (vand (visi (vv 0) (by rfl) T.m_isinstance zb7 (by rfl) T.m_int zdY) (vone (vnot (visi (vv 0) (by rfl) T.m_isinstance zb7 (by rfl) T.m_bool boot_bool))))))
theorem zgr(T:Txt K mg)(F:FunA K "_law_deck" "_law_deck" zbm f fd):FnOk P w K mg base CX0 1 f fd ["_law_cells","_law_many"] (spD K [.b,.v] zcc):=by
 refine zbr F sc__law_deck zc0 rfl (fun _ _ h=>h) fun cdv A outer s H E hr=>?_
 have hu:=zbW hr
 exact(ssc (zcT (i:=2) sc__law_deck.nd rfl (az rfl) (vop o_cat (vct zhs (by rfl) T.m_list zd9 (zac (vv 0) zan)) (vop o_rep (zfm (zac zap zan)) (vct zii (by rfl) T.m_int zdY (zac (vcmp (o_eq) (vcb zdy (by rfl) T.m_len zam (zac (vv 0) zan)) zap (zb1 _)) zan)))))
   (sFrz 2 (ssc (sSetLC (i:=3) sc__law_deck.nd rfl (az rfl) (N:=["_law_cell"]) (fr:=[]) ⟨rfl,rfl,rfl,by decide +kernel,rfl,rfl⟩ (iil (vv 2)) (fun _ _ _ _=>by exact if0) (fun _ _ _ _=>by exact(vop zeO (vv 0) (vct zii (by rfl) T.m_int zdY (zac (vcmp (o_ge) (vv 0) (vop o_pow zap zap) (zb1 _)) zan)))))
   (ssc (zcT (i:=4) sc__law_deck.nd rfl (az rfl) (zfm zan))
   (ssc (zgA (iir1 (by rfl) T.m_range (zac (vv 1) zan)) (gnm (i:=5) sc__law_deck.nd rfl (az rfl))
   (ssc (zcT (i:=6) sc__law_deck.nd rfl (az rfl) (vop zbU (vv 5) (vcb zdy (by rfl) T.m_len zam (zac (vv 2) zan))))
   (ssc (zcT (i:=7) sc__law_deck.nd rfl (az rfl) (vop zbL (vop zeO (vop zbU (vop zbL (vop zbL (vix zcb (vv 2) (vv 6) (fun _ _=>rfl)) (vop zeO (vop zeO (vv 5) (vv 5)) zap)) (vop zeO zap (vv 5))) zap) (vix zcb (zfm (zac zap (zac zap (zac zap (zac zap zan))))) (vop zbU (vv 5) zap) (fun _ _=>rfl))) zap))
   (ssc (sApp 4 (vix zcb (zfm (zac (vop zbU (vop zeO (vv 7) (vv 7)) zap) (zac (vop zbU (vix zcb (vv 3) (vv 6) (fun _ _=>rfl)) (vop o_pow zap zap)) zan))) (vct zii (by rfl) T.m_int zdY (zac (vcmp (o_ne) (vix zcb (vv 3) (vv 6) (fun _ _=>rfl)) zap (zb1 _)) zan)) (fun _ _=>rfl)))
   (ss1 (sSIx 3 (vop o_divB (vix zcb (vv 3) (vv 6) (fun _ _=>rfl)) (vop o_pow zap zap)) (vv 6) (hg:=fun a b=>⟨pg_sub a.h b.h zhJ⟩)))))))
   (ss1 (zdR (vLstRev (vv 4) (by rfl) T.m_list zd9 (by rfl) T.m_reversed zgh))))))))
theorem zeq(T:Txt K mg)(F:FunA K "_law_sign" "_law_sign" zbj f fd):FnOk P w K mg base CX0 1 f fd ["_law_turn","_law_number"] (spD K [.v,.v] zas):=by
 refine zbr F zgQ zdK rfl (fun _ _ h=>h) fun cdv A outer s H E hr=>?_
 have hu:=zbW hr
 exact(ss1 (zdR (vix x_str vstr (vop zbU (vop zbL (vv 0) (vop zeO (vv 1) (vop zbL zap (vop zbU (vop zcF (vv 0) zap) zap)))) zap) (fun _ _=>rfl))))
theorem zek(T:Txt K mg)(F:FunA K "__init__" "Sight.__init__" zaw f fd):FnOk P w K mg base CX0 1 f fd ["self","most"] (spM K zbq):=by
 obtain⟨C_Sight,DC_Sight⟩:=T.c_Sight
 refine zfB (n:=1) F zeh zcs rfl (fun _ _ _ h=>h) fun cdv A outer s H E hr=>?_
 have hu:=zbW hr
 exact(ssc (sFNew (ns:=[]) 0 DC_Sight.toF (vv 1))
   (ssc (sFNew (ns:=["most"]) 0 DC_Sight.toF zap)
   (ss1 (sFNew (ns:=["most","end"]) 0 DC_Sight.toF (zfm zan)))))
theorem zfR(T:Txt K mg)(F:FunA K "come" "Sight.come" za5 f fd):FnOk P w K mg base CX0 1 f fd ["self","price"] (spM K zbC):=by
 obtain⟨C_Sight,DC_Sight⟩:=T.c_Sight
 refine zfB (n:=1) F zfG zcl rfl (fun _ _ _ h=>h) fun cdv A outer s H E hr=>?_
 have hu:=zbW hr
 exact(ssc (sIf (tww (tan (tcm (o_noN) (vv 1) vnon (zb1 _)) (tan1 (tcm (o_le) (vv 1) (vFld (ns:=["most","end","pairs"]) 0 0 DC_Sight.toF) (zb1 _))))) (ss1 (sFApp (ns:=["most","end","pairs"]) 0 2 DC_Sight.toF (vtup (zac (vFld (ns:=["most","end","pairs"]) 0 1 DC_Sight.toF) (zac (vv 1) zan))))) ss0)
   (ss1 (sFSet (ns:=["most","end","pairs"]) 0 1 DC_Sight.toF (vop zbL (vFld (ns:=["most","end","pairs"]) 0 1 DC_Sight.toF) zap))))
theorem zfY(T:Txt K mg)(F:FunA K "tell" "Sight.tell" za1 f fd):FnOk P w K mg base CX0 1 f fd ["self"] (spM K zcq):=by
 obtain⟨C_Sight,DC_Sight⟩:=T.c_Sight
 refine zfB (n:=0) F sc_Sight_tell zdi rfl (fun _ _ _ h=>h) fun cdv A outer s H E hr=>?_
 have hu:=zbW hr
 exact(ssc (zcT (i:=1) sc_Sight_tell.nd rfl (az rfl) (vct zer (by rfl) T.m_tuple zbc (zac (vFld (ns:=["most","end","pairs"]) 0 2 DC_Sight.toF) zan)))
   (ssc (sFSet (ns:=["most","end","pairs"]) 0 2 DC_Sight.toF (zfm zan))
   (ss1 (sRetV 1))))
theorem ze7(T:Txt K mg)(F:FunA K "first_column" "first_column" zaG f fd):FnOk P w K mg base CX0 2 f fd ["pattern","prices"] (spD K [.v,.t] zbN):=by
 obtain⟨f_stepped,fd_stepped,D_stepped⟩:=T.d_stepped
 have G_stepped:FnOk P w K mg base CX0 1 f_stepped fd_stepped ["cell","price"] (spD K [.v,.v] zbd):=zfx T (.of D_stepped.fn)
 refine zbr F sc_first_column zcO rfl (fun _ _ h=>h) fun cdv A outer s H E hr=>?_
 have hu:=zbW hr
 exact(ssc (zcT (i:=2) sc_first_column.nd rfl (az rfl) (zfm (zac zap zan)))
   (ssc (zgA (iir2 (by rfl) T.m_range (zac zap (zac (vop zbL (vcb zdy (by rfl) T.m_len zam (zac (vv 0) zan)) zap) zan))) (gnm (i:=3) sc_first_column.nd rfl (az rfl))
   (ss1 (sApp 2 (vcl G_stepped D_stepped hr (by rfl) zaQ (zac (vix zcb (vv 2) (vop zcW (vv 3) zap) (fun _ _=>rfl)) (zac (vix x_bt (vv 1) (vglI (by rfl) T.g_LEFT) (fun _ _=>rfl)) zan))))))
   (ss1 (zdR (vct zer (by rfl) T.m_tuple zbc (zac (vv 2) zan))))))
theorem zel(T:Txt K mg)(F:FunA K "further_column" "further_column" zav f fd):FnOk P w K mg base CX0 2 f fd ["columns","pattern","text","prices","free"] (spD K [.b,.v,.v,.t,.v] zbS):=by
 obtain⟨f_cell_ahead_of_turn,fd_cell_ahead_of_turn,D_cell_ahead_of_turn⟩:=T.d_cell_ahead_of_turn
 have G_cell_ahead_of_turn:FnOk P w K mg base CX0 1 f_cell_ahead_of_turn fd_cell_ahead_of_turn ["columns","pattern","text","classes"] (spD K [.b,.v,.v,.v] zaO):=zdg T (.of D_cell_ahead_of_turn.fn)
 obtain⟨f_lowest,fd_lowest,D_lowest⟩:=T.d_lowest
 have G_lowest:FnOk P w K mg base CX0 1 f_lowest fd_lowest ["cells"] (spD K [.v] zdq):=ok_lowest T (.of D_lowest.fn)
 obtain⟨f_stepped,fd_stepped,D_stepped⟩:=T.d_stepped
 have G_stepped:FnOk P w K mg base CX0 1 f_stepped fd_stepped ["cell","price"] (spD K [.v,.v] zbd):=zfx T (.of D_stepped.fn)
 refine zbr F sc_further_column zbT rfl (fun _ _ h=>h) fun cdv A outer s H E hr=>?_
 have hu:=zbW hr
 exact(ssc (zcT (i:=5) sc_further_column.nd rfl (az rfl) (vix zcb (vv 0) (vun zfh zap) (fun _ _=>rfl)))
   (ssc (zcT (i:=6) sc_further_column.nd rfl (az rfl) (zfm (zac (vif (tva (vv 4)) zap (vcl G_stepped D_stepped hr (by rfl) zaQ (zac (vix zdM (vv 5) zap (fun _ _=>rfl)) (zac (vix x_bt (vv 3) (vglI (by rfl) T.g_PUT) (fun _ _=>rfl)) zan)))) zan)))
   (ssc (zgA (iir2 (by rfl) T.m_range (zac zap (zac (vop zbL (vcb zdy (by rfl) T.m_len zam (zac (vv 1) zan)) zap) zan))) (gnm (i:=7) sc_further_column.nd rfl (az rfl))
   (ssc (zcT (i:=8) sc_further_column.nd rfl (az rfl) (vcmp (o_inS) (vix x_str (vv 2) (vun zfh zap) (fun _ _=>rfl)) (vix zdM (vv 1) (vop zcW (vv 7) zap) (fun _ _=>rfl)) (by with_unfolding_all rfl)))
   (ss1 (sApp 6 (vcl G_lowest D_lowest hr (by rfl) zaQ (zac (zfm (zac (vif (tva (vv 8)) (vix zdM (vv 5) (vop zcW (vv 7) zap) (fun _ _=>rfl)) (vcl G_stepped D_stepped hr (by rfl) zaQ (zac (vix zdM (vv 5) (vop zcW (vv 7) zap) (fun _ _=>rfl)) (zac (vix x_bt (vv 3) (vglI (by rfl) T.g_EXCHANGED) (fun _ _=>rfl)) zan)))) (zac (vcl G_stepped D_stepped hr (by rfl) zaQ (zac (vix zdM (vv 5) (vv 7) (fun _ _=>rfl)) (zac (vix x_bt (vv 3) (vglI (by rfl) T.g_PUT) (fun _ _=>rfl)) zan))) (zac (vcl G_stepped D_stepped hr (by rfl) zaQ (zac (vix zcb (vv 6) (vop zcW (vv 7) zap) (fun _ _=>rfl)) (zac (vix x_bt (vv 3) (vglI (by rfl) T.g_LEFT) (fun _ _=>rfl)) zan))) (zac (vcl G_stepped D_stepped hr (by rfl) zaQ (zac (vcl G_cell_ahead_of_turn D_cell_ahead_of_turn hr (by rfl) zaQ (zac (vv 0) (zac (vv 1) (zac (vv 2) (zac (vv 7) zan))))) (zac (vix x_bt (vv 3) (vglI (by rfl) T.g_TURNED) (fun _ _=>rfl)) zan))) zan))))) zan))))))
   (ss1 (zdR (vct zer (by rfl) T.m_tuple zbc (zac (vv 6) zan)))))))
theorem zey(T:Txt K mg)(F:FunA K "kept_by_parts" "kept_by_parts" zaB f fd):FnOk P w K mg base CX0 2 f fd ["W","most","T"] (spD K [.v,.v,.v] zbB):=by
 obtain⟨f_joined,fd_joined,D_joined⟩:=T.d_joined
 have G_joined:FnOk P w K mg base CX0 1 f_joined fd_joined ["stretches"] (spD K [.b] zdm):=zgo T (.of D_joined.fn)
 obtain⟨f_places_of,fd_places_of,D_places_of⟩:=T.d_places_of
 have G_places_of:FnOk P w K mg base CX0 1 f_places_of fd_places_of ["part","text"] (spD K [.v,.v] zce):=zgy T (.of D_places_of.fn)
 refine zbr F sc_kept_by_parts zb6 rfl (fun _ _ h=>h) fun cdv A outer s H E hr=>?_
 have hu:=zbW hr
 exact(ssc (zcT (i:=3) sc_kept_by_parts.nd rfl (az rfl) (zfm zan))
   (ssc (zgA (iir1 (by rfl) T.m_range (zac (vop zbL (vv 1) zap) zan)) (gnm (i:=4) sc_kept_by_parts.nd rfl (az rfl))
   (ssc (zcT (i:=5) sc_kept_by_parts.nd rfl (az rfl) (vop zcF (vop zeO (vv 4) (vcb zb8 (by rfl) T.m_len zam (zac (vv 0) zan))) (vop zbL (vv 1) zap)))
   (ssc (zcT (i:=6) sc_kept_by_parts.nd rfl (az rfl) (vop zcF (vop zeO (vop zbL (vv 4) zap) (vcb zb8 (by rfl) T.m_len zam (zac (vv 0) zan))) (vop zbL (vv 1) zap)))
   (ss1 (zgA (iil (vcl G_places_of D_places_of hr (by rfl) zaQ (zac (vsl zfg (vv 0) (vos (vv 5)) (vos (vv 6))) (zac (vv 2) zan)))) (gnm (i:=7) sc_kept_by_parts.nd rfl (az rfl))
   (ss1 (sApp 3 (vtup (zac (vcb zib (by rfl) T.m_max zeE (zac (vop zcW (vop zcW (vv 7) (vv 5)) (vv 1)) (zac zap zan))) (zac (vcb c_min2 (by rfl) T.m_min zeF (zac (vop zbL (vop zcW (vop zbL (vv 7) (vcb zb8 (by rfl) T.m_len zam (zac (vv 0) zan))) (vv 5)) (vv 1)) (zac (vcb zb8 (by rfl) T.m_len zam (zac (vv 2) zan)) zan))) zan))))))))))
   (ss1 (zdR (vcl G_joined D_joined hr (by rfl) zaQ (zac (vv 3) zan))))))
theorem zcS(T:Txt K mg)(F:FunA K "kept_by_pieces" "kept_by_pieces" zat f fd):FnOk P w K mg base CX0 2 f fd ["W","most","T","long"] (spD K [.v,.v,.v,.v] zaM):=by
 obtain⟨f_joined,fd_joined,D_joined⟩:=T.d_joined
 have G_joined:FnOk P w K mg base CX0 1 f_joined fd_joined ["stretches"] (spD K [.b] zdm):=zgo T (.of D_joined.fn)
 obtain⟨f_number_shared,fd_number_shared,D_number_shared⟩:=T.d_number_shared
 have G_number_shared:FnOk P w K mg base CX0 1 f_number_shared fd_number_shared ["times","other_times"] (spD K [.v,.v] zbD):=zeu T (.of D_number_shared.fn)
 obtain⟨f_times_of_pieces,fd_times_of_pieces,D_times_of_pieces⟩:=T.d_times_of_pieces
 have G_times_of_pieces:FnOk P w K mg base CX0 1 f_times_of_pieces fd_times_of_pieces ["text","long"] (spD K [.v,.v] zaE):=zd7 T (.of D_times_of_pieces.fn)
 obtain⟨f_windows,fd_windows,D_windows⟩:=T.d_windows
 have G_windows:FnOk P w K mg base CX0 1 f_windows fd_windows ["word","most","text"] (spD K [.v,.v,.v] zdW):=ziG T (.of D_windows.fn)
 refine zbr F sc_kept_by_pieces zbR rfl (fun _ _ h=>h) fun cdv A outer s H E hr=>?_
 have hu:=zbW hr
 exact(ssc (zcT (i:=4) sc_kept_by_pieces.nd rfl (az rfl) (vop zcW (vop zbL (vop zcW (vcb zb8 (by rfl) T.m_len zam (zac (vv 0) zan)) (vv 3)) zap) (vop zeO (vv 1) (vv 3))))
   (ssc (zcT (i:=5) sc_kept_by_pieces.nd rfl (az rfl) (vcl G_times_of_pieces D_times_of_pieces hr (by rfl) zaQ (zac (vv 0) (zac (vv 3) zan))))
   (ssc (zcT (i:=6) sc_kept_by_pieces.nd rfl (az rfl) (zfm zan))
   (ssc (zgA (iil (vcl G_windows D_windows hr (by rfl) zaQ (zac (vv 0) (zac (vv 1) (zac (vv 2) zan))))) (gtp rfl (ziL (gnm (i:=7) sc_kept_by_pieces.nd rfl (az rfl)) (ziL (gnm (i:=8) sc_kept_by_pieces.nd rfl (az rfl)) gns0)) (hl:=gl1 (gl1 (gl0))))
   (ss1 (sIf (tcm (o_ge) (vcl G_number_shared D_number_shared hr (by rfl) zaQ (zac (vv 5) (zac (vcl G_times_of_pieces D_times_of_pieces hr (by rfl) zaQ (zac (vsl zfg (vv 2) (vos (vv 7)) (vos (vv 8))) (zac (vv 3) zan))) zan))) (vv 4) (zb1 _)) (ss1 (sApp 6 (vtup (zac (vv 7) (zac (vv 8) zan))))) ss0)))
   (ss1 (zdR (vcl G_joined D_joined hr (by rfl) zaQ (zac (vv 6) zan))))))))
theorem zfL(T:Txt K mg)(F:FunA K "_law_pairs" "_law_pairs" za4 f fd):FnOk P w K mg base CX0 2 f fd ["_law_found","_law_due"] (spD K [.v,.b] zbz):=by
 obtain⟨f__law_whole,fd__law_whole,D__law_whole⟩:=T.d__law_whole
 have G__law_whole:FnOk P w K mg base CX0 1 f__law_whole fd__law_whole ["_law_found"] (spD K [.v] zbX):=zgf T (.of D__law_whole.fn)
 refine zbr F sc__law_pairs zdc rfl (fun _ _ h=>h) fun cdv A outer s H E hr=>?_
 have hu:=zbW hr
 exact(ssc (sIf (tww (tor' (tnt (tva (visi (vv 0) (by rfl) T.m_isinstance zb7 (by rfl) T.m_tuple zbc))) (tor1' (tcm (o_ne) (vcb zdy (by rfl) T.m_len zam (zac (vv 0) zan)) (vcb zdy (by rfl) T.m_len zam (zac (vv 1) zan)) (zb1 _))))) (ss1 (zdR vbl)) ss0)
   (ssc (zgA (iit (vv 0)) (gnm (i:=2) sc__law_pairs.nd rfl (az rfl))
   (ss1 (sIf (tww (tor' (tnt (tva (visi (vv 2) (by rfl) T.m_isinstance zb7 (by rfl) T.m_tuple zbc))) (tor' (tcm (o_ne) (vcb zdy (by rfl) T.m_len zam (zac (vv 2) zan)) zap (zb1 _)) (tor' (tnt (tva (vcl G__law_whole D__law_whole hr (by rfl) zaQ (zac (vix zdM (vv 2) zap (fun _ _=>rfl)) zan)))) (tor1' (tnt (tva (vcl G__law_whole D__law_whole hr (by rfl) zaQ (zac (vix zdM (vv 2) zap (fun _ _=>rfl)) zan))))))))) (ss1 (zdR vbl)) ss0)))
   (ss1 (zdR (vcmp (o_eqD hr) (vct zhs (by rfl) T.m_list zd9 (zac (vv 0) zan)) (vv 1) (zb1 _))))))
theorem zeU(T:Txt K mg)(F:FunA K "_law_letters" "_law_letters" zaI f fd):FnOk P w K mg base CX0 2 f fd ["_law_deck_here","_law_many","_law_few","_law_turn"] (spM K zaz):=by
 obtain⟨f__law_sign,fd__law_sign,D__law_sign⟩:=T.d__law_sign
 have G__law_sign:FnOk P w K mg base CX0 1 f__law_sign fd__law_sign ["_law_turn","_law_number"] (spD K [.v,.v] zas):=zeq T (.of D__law_sign.fn)
 refine zfB (n:=3) F sc__law_letters zck rfl (fun _ _ _ h=>h) fun cdv A outer s H E hr=>?_
 have hu:=zbW hr
 exact(ssc (zcT (i:=4) sc__law_letters.nd rfl (az rfl) vstr)
   (ssc (zcT (i:=5) sc__law_letters.nd rfl (az rfl) zap)
   (ssc (zgA (iir1 (by rfl) T.m_range (zac (vv 1) zan)) (gnm (i:=6) sc__law_letters.nd rfl (az rfl))
   (ssc (sIf (tcm (o_eq) (vop zbU (vv 6) zap) zap (zb1 _)) (ss1 (zhw (i:=5) sc__law_letters.nd rfl (az rfl) (xpop 0))) ss0)
   (ssc (zcT (i:=4) sc__law_letters.nd rfl (az rfl) (vop zeV (vv 4) (vcl G__law_sign D__law_sign hr (by rfl) zaQ (zac (vv 3) (zac (vop zbU (vv 5) (vv 2)) zan)))))
   (ss1 (zcT (i:=5) sc__law_letters.nd rfl (az rfl) (vop zcF (vv 5) (vv 2)))))))
   (ss1 (sRetV 4)))))
theorem ze2(T:Txt K mg)(F:FunA K "_law_slipped" "_law_slipped" zaF f fd):FnOk P w K mg base CX0 2 f fd ["_law_deck_here","_law_word","_law_few","_law_turn"] (spM K zaU):=by
 obtain⟨f__law_sign,fd__law_sign,D__law_sign⟩:=T.d__law_sign
 have G__law_sign:FnOk P w K mg base CX0 1 f__law_sign fd__law_sign ["_law_turn","_law_number"] (spD K [.v,.v] zas):=zeq T (.of D__law_sign.fn)
 refine zfB (n:=3) F sc__law_slipped zci rfl (fun _ _ _ h=>h) fun cdv A outer s H E hr=>?_
 have hu:=zbW hr
 exact(ssc (zhw (i:=4) sc__law_slipped.nd rfl (az rfl) (xpop 0))
   (ssc (zcT (i:=5) sc__law_slipped.nd rfl (az rfl) (vop zbU (vv 4) zap))
   (ssc (zcT (i:=4) sc__law_slipped.nd rfl (az rfl) (vop zcF (vv 4) zap))
   (ssc (zgA (iir1 (by rfl) T.m_range (zac (vv 5) zan)) (gnm (i:=6) sc__law_slipped.nd rfl (az rfl))
   (ssc (zcT (i:=7) sc__law_slipped.nd rfl (az rfl) (vop zbU (vop zbU (vv 4) zap) (vop zbL (vcb zb8 (by rfl) T.m_len zam (zac (vv 1) zan)) zap)))
   (ssc (zcT (i:=8) sc__law_slipped.nd rfl (az rfl) (vop zbU (vop zcF (vv 4) zap) zap))
   (ssc (zcT (i:=9) sc__law_slipped.nd rfl (az rfl) (vix zcb (zfm (zac (vcl G__law_sign D__law_sign hr (by rfl) zaQ (zac (vv 3) (zac (vop zbU (vop zcF (vv 4) zap) (vv 2)) zan))) (zac vstr (zac (vcl G__law_sign D__law_sign hr (by rfl) zaQ (zac (vv 3) (zac (vop zbU (vop zcF (vv 4) zap) (vv 2)) zan))) zan)))) (vv 8) (fun _ _=>rfl)))
   (ssc (zcT (i:=1) sc__law_slipped.nd rfl (az rfl) (vop zeV (vop zeV (vsl zfg (vv 1) von (vos (vv 7))) (vv 9)) (vsl zfg (vv 1) (vos (vop zbL (vv 7) (vct zii (by rfl) T.m_int zdY (zac (vcmp (o_gt) (vv 8) zap (zb1 _)) zan)))) von)))
   (ss1 (zcT (i:=4) sc__law_slipped.nd rfl (az rfl) (vop zcF (vv 4) (vop zeO zap (vv 2))))))))))
   (ss1 (sRetV 1))))))
theorem zhm(T:Txt K mg)(F:FunA K "cells_of" "cells_of" zbA f fd):FnOk P w K mg base CX0 3 f fd ["P","T","prices","free"] (spD K [.v,.v,.t,.v] zcP):=by
 obtain⟨f_first_column,fd_first_column,D_first_column⟩:=T.d_first_column
 have G_first_column:FnOk P w K mg base CX0 2 f_first_column fd_first_column ["pattern","prices"] (spD K [.v,.t] zbN):=ze7 T (.of D_first_column.fn)
 obtain⟨f_further_column,fd_further_column,D_further_column⟩:=T.d_further_column
 have G_further_column:FnOk P w K mg base CX0 2 f_further_column fd_further_column ["columns","pattern","text","prices","free"] (spD K [.b,.v,.v,.t,.v] zbS):=zel T (.of D_further_column.fn)
 obtain⟨f_row_across,fd_row_across,D_row_across⟩:=T.d_row_across
 have G_row_across:FnOk P w K mg base CX0 1 f_row_across fd_row_across ["columns","classes"] (spD K [.b,.v] zcn):=zfZ T (.of D_row_across.fn)
 refine zbr F sc_cells_of zeb rfl (fun _ _ h=>h) fun cdv A outer s H E hr=>?_
 have hu:=zbW hr
 exact(ssc (zcT (i:=4) sc_cells_of.nd rfl (br rfl) (zfm (zac (vcl G_first_column D_first_column hr (by rfl) zaQ (zac (vv 0) (zac (vv 2) zan))) zan)))
   (ssc (zgA (iir2 (by rfl) T.m_range (zac zap (zac (vop zbL (vcb zb8 (by rfl) T.m_len zam (zac (vv 1) zan)) zap) zan))) (gnm (i:=5) sc_cells_of.nd rfl (az rfl))
   (ss1 (sApp 4 (vcl G_further_column D_further_column hr (by rfl) zaQ (zac (vv 4) (zac (vv 0) (zac (vsl zfg (vv 1) von (vos (vv 5))) (zac (vv 2) (zac (vv 3) zan)))))))))
   (ss1 (zdR (vct zer (by rfl) T.m_tuple zbc (zac (vlc (N:=["classes","columns"]) (fr:=[4]) ⟨rfl,rfl,rfl,by decide +kernel,rfl,rfl⟩ (iir1 (by rfl) T.m_range (zac (vop zbL (vcb zdy (by rfl) T.m_len zam (zac (vv 0) zan)) zap) zan)) (fun _ _ _ _=>by exact if0) (fun _ _ _ _=>by exact(vcl G_row_across D_row_across hr (by rfl) zaQ (zac (vv 1) (zac (vv 0) zan))))) zan))))))
theorem zee(T:Txt K mg)(F:FunA K "kept_by_counts" "kept_by_counts" zax f fd):FnOk P w K mg base CX0 3 f fd ["W","most","T"] (spD K [.v,.v,.v] zaZ):=by
 obtain⟨f_kept_by_pieces,fd_kept_by_pieces,D_kept_by_pieces⟩:=T.d_kept_by_pieces
 have G_kept_by_pieces:FnOk P w K mg base CX0 2 f_kept_by_pieces fd_kept_by_pieces ["W","most","T","long"] (spD K [.v,.v,.v,.v] zaM):=zcS T (.of D_kept_by_pieces.fn)
 refine zbr F zed zct rfl (fun _ _ h=>h) fun cdv A outer s H E hr=>?_
 have hu:=zbW hr
 exact(ss1 (zdR (vcl G_kept_by_pieces D_kept_by_pieces hr (by rfl) zaQ (zac (vv 0) (zac (vv 1) (zac (vv 2) (zac zap zan)))))))
theorem zgO(T:Txt K mg)(F:FunA K "_law_case" "_law_case" zbk f fd):FnOk P w K mg base CX0 3 f fd ["_law_deck_here"] (spM K zbV):=by
 obtain⟨f__law_letters,fd__law_letters,D__law_letters⟩:=T.d__law_letters
 have G__law_letters:FnOk P w K mg base CX0 2 f__law_letters fd__law_letters ["_law_deck_here","_law_many","_law_few","_law_turn"] (spM K zaz):=zeU T (.of D__law_letters.fn)
 obtain⟨f__law_slipped,fd__law_slipped,D__law_slipped⟩:=T.d__law_slipped
 have G__law_slipped:FnOk P w K mg base CX0 2 f__law_slipped fd__law_slipped ["_law_deck_here","_law_word","_law_few","_law_turn"] (spM K zaU):=ze2 T (.of D__law_slipped.fn)
 refine zfB (n:=0) F sc__law_case zc3 rfl (fun _ _ _ h=>h) fun cdv A outer s H E hr=>?_
 have hu:=zbW hr
 exact(ssc (zhw (i:=1) sc__law_case.nd rfl (az rfl) (xpop 0))
   (ssc (zcT (i:=2) sc__law_case.nd rfl (az rfl) (vop zbL zap (vop zbU (vv 1) zap)))
   (ssc (zcT (i:=3) sc__law_case.nd rfl (az rfl) (vop zbU (vop zcF (vv 1) zap) zap))
   (ssc (zcT (i:=4) sc__law_case.nd rfl (az rfl) (vix zcb (zfm (zac (vop zbU (vop zcF (vv 1) zap) zap) (zac (vop zbU (vop zcF (vv 1) zap) zap) (zac (vop zbU (vop zcF (vv 1) zap) zap) zan)))) (vop zcF (vop zbU (vop zcF (vv 1) zap) zap) zap) (fun _ _=>rfl)))
   (ssc (zcT (i:=5) sc__law_case.nd rfl (az rfl) (vix zcb (zfm (zac (vop zbU (vop zcF (vv 1) zap) zap) (zac (vop zbU (vop zcF (vv 1) zap) zap) (zac (vop zbU (vop zcF (vv 1) zap) zap) zan)))) (vop zcF (vop zbU (vop zcF (vv 1) zap) zap) zap) (fun _ _=>rfl)))
   (ssc (zhw (i:=6) sc__law_case.nd rfl (az rfl) (xco 0 G__law_letters D__law_letters hr (by rfl) zaQ (zcN (zcC (vv 4)) (zcN (zcC (vv 2)) (zcN (zcC (vv 3)) xnil)))))
   (ssc (zhw (i:=7) sc__law_case.nd rfl (az rfl) (xop zeV (xco 0 G__law_letters D__law_letters hr (by rfl) zaQ (zcN (xop zbU (xpop 0) (zcC zap)) (zcN (zcC (vv 2)) (zcN (zcC (vv 3)) xnil)))) (xco 0 G__law_slipped D__law_slipped hr (by rfl) zaQ (zcN (zcC (vv 6)) (zcN (zcC (vv 2)) (zcN (zcC (vv 3)) xnil))))))
   (ssc (zhw (i:=7) sc__law_case.nd rfl (az rfl) (xop zeV (xop zeV (zcC (vv 7)) (xco 0 G__law_letters D__law_letters hr (by rfl) zaQ (zcN (xop zbU (xpop 0) (zcC zap)) (zcN (zcC (vv 2)) (zcN (zcC (vv 3)) xnil))))) (xsl zfg (xco 0 G__law_slipped D__law_slipped hr (by rfl) zaQ (zcN (zcC (vv 6)) (zcN (zcC (vv 2)) (zcN (zcC (vv 3)) xnil)))) xon (xos (zcC zap)))))
   (ss1 (sXRet (xlst (zcN (zcC (vv 6)) (zcN (zcC (vv 5)) (zcN (xop zeV (zcC (vv 7)) (xco 0 G__law_letters D__law_letters hr (by rfl) zaQ (zcN (xop zbU (xpop 0) (zcC zap)) (zcN (zcC (vv 2)) (zcN (zcC (vv 3)) xnil))))) xnil))))))))))))))
theorem zej(T:Txt K mg)(F:FunA K "prices_at_ends" "prices_at_ends" zay f fd):FnOk P w K mg base CX0 4 f fd ["pattern","text","prices"] (spD K [.v,.v,.t] zbp):=by
 obtain⟨f_cells_of,fd_cells_of,D_cells_of⟩:=T.d_cells_of
 have G_cells_of:FnOk P w K mg base CX0 3 f_cells_of fd_cells_of ["P","T","prices","free"] (spD K [.v,.v,.t,.v] zcP):=zhm T D_cells_of.fn
 refine zbr F zec zcu rfl (fun _ _ h=>h) fun cdv A outer s H E hr=>?_
 have hu:=zbW hr
 exact(ss1 (zdR (vix zdM (vclF G_cells_of D_cells_of hr (by rfl) zaQ (zac (vv 0) (zac (vv 1) (zac (vv 2) (zac vbl zan))))) (vun zfh zap) (fun _ _=>rfl))))
theorem zfr(T:Txt K mg)(F:FunA K "ends_in" "ends_in" zbZ f fd):FnOk P w K mg base CX0 5 f fd ["P","T","most","prices"] (spD K [.v,.v,.v,.t] zbo):=by
 obtain⟨C_Sight,DC_Sight⟩:=T.c_Sight
 obtain⟨f_Sight___init__,fd_Sight___init__,D_Sight___init__⟩:=T.d_Sight___init__
 have G_Sight___init__:FnOk P w K mg base CX0 1 f_Sight___init__ fd_Sight___init__ ["self","most"] (spM K zbq):=zek T D_Sight___init__.fn
 obtain⟨f_Sight_come,fd_Sight_come,D_Sight_come⟩:=T.d_Sight_come
 have G_Sight_come:FnOk P w K mg base CX0 1 f_Sight_come fd_Sight_come ["self","price"] (spM K zbC):=zfR T D_Sight_come.fn
 obtain⟨f_Sight_tell,fd_Sight_tell,D_Sight_tell⟩:=T.d_Sight_tell
 have G_Sight_tell:FnOk P w K mg base CX0 1 f_Sight_tell fd_Sight_tell ["self"] (spM K zcq):=zfY T D_Sight_tell.fn
 obtain⟨f_prices_at_ends,fd_prices_at_ends,D_prices_at_ends⟩:=T.d_prices_at_ends
 have G_prices_at_ends:FnOk P w K mg base CX0 4 f_prices_at_ends fd_prices_at_ends ["pattern","text","prices"] (spD K [.v,.v,.t] zbp):=zej T (.of D_prices_at_ends.fn)
 refine zbr F sc_ends_in zfa rfl (fun _ _ h=>h) fun cdv A outer s H E hr=>?_
 have hu:=zbW hr
 exact(ssc (sSetO (i:=4) (by decide) sc_ends_in.nd rfl (az rfl) (vmake DC_Sight D_Sight___init__ G_Sight___init__ hr (by rfl) zaQ (zac (vv 2) zan)))
   (ssc (zgA (iit (vcl G_prices_at_ends D_prices_at_ends hr (by rfl) zaQ (zac (vv 0) (zac (vv 1) (zac (vv 3) zan))))) (gnm (i:=5) sc_ends_in.nd rfl (az rfl))
   (ss1 (sX (xmeth (ns:=["most","end","pairs"]) 4 DC_Sight D_Sight_come G_Sight_come hr zaQ (zac (vv 5) zan)))))
   (ss1 (sXRet (xmeth0 (ns:=["most","end","pairs"]) 4 DC_Sight D_Sight_tell G_Sight_tell hr zaQ)))))
theorem zd3(T:Txt K mg)(F:FunA K "ends_in_stretch" "ends_in_stretch" zar f fd):FnOk P w K mg base CX0 6 f fd ["word","most","text","begin","end"] (spD K [.v,.v,.v,.v,.v] zbe):=by
 obtain⟨f_ends_in,fd_ends_in,D_ends_in⟩:=T.d_ends_in
 have G_ends_in:FnOk P w K mg base CX0 5 f_ends_in fd_ends_in ["P","T","most","prices"] (spD K [.v,.v,.v,.t] zbo):=zfr T (.of D_ends_in.fn)
 obtain⟨f_pattern_of,fd_pattern_of,D_pattern_of⟩:=T.d_pattern_of
 have G_pattern_of:FnOk P w K mg base CX0 1 f_pattern_of fd_pattern_of ["W"] (spD K [.v] zaK):=zdX T (.of D_pattern_of.fn)
 refine zbr F sc_ends_in_stretch zbE rfl (fun _ _ h=>h) fun cdv A outer s H E hr=>?_
 have hu:=zbW hr
 exact(ssc (sIf (tcm (o_gt) (vv 3) (vv 4) (zb1 _)) (ss1 (zdR (zfm zan))) ss0)
   (ssc (zcT (i:=5) sc_ends_in_stretch.nd rfl (az rfl) (vcl G_ends_in D_ends_in hr (by rfl) zaQ (zac (vcl G_pattern_of D_pattern_of hr (by rfl) zaQ (zac (vv 0) zan)) (zac (vsl zfg (vv 2) (vos (vv 3)) (vos (vv 4))) (zac (vv 1) (zac (vglB (by rfl) T.u_PLAIN_PRICES) zan))))))
   (ss1 (zdR (vl2 (N:=["signs","price","begin"]) (fr:=[3]) ⟨rfl,rfl,rfl,rfl,rfl⟩ rfl rfl (by decide +kernel) rfl rfl (iit (vv 5)) (fun _ _ _ _=>by exact if0) (fun _ _ _ _=>by exact(vtup (zac (vop zbL (vv 2) (vv 0)) (zac (vv 1) zan)))))))))
theorem zeS(T:Txt K mg)(F:FunA K "ends_in_kept" "ends_in_kept" zaH f fd):FnOk P w K mg base CX0 7 f fd ["W","most","T","kept"] (spD K [.v,.v,.v,.v] zbt):=by
 obtain⟨f_ends_in_stretch,fd_ends_in_stretch,D_ends_in_stretch⟩:=T.d_ends_in_stretch
 have G_ends_in_stretch:FnOk P w K mg base CX0 6 f_ends_in_stretch fd_ends_in_stretch ["word","most","text","begin","end"] (spD K [.v,.v,.v,.v,.v] zbe):=zd3 T (.of D_ends_in_stretch.fn)
 refine zbr F sc_ends_in_kept zcj rfl (fun _ _ h=>h) fun cdv A outer s H E hr=>?_
 have hu:=zbW hr
 exact(ssc (zcT (i:=4) sc_ends_in_kept.nd rfl (az rfl) (zfm zan))
   (ssc (zgA (iit (vv 3)) (gtp rfl (ziL (gnm (i:=5) sc_ends_in_kept.nd rfl (az rfl)) (ziL (gnm (i:=6) sc_ends_in_kept.nd rfl (az rfl)) gns0)) (hl:=gl1 (gl1 (gl0))))
   (ss1 (sExt 4 (vcl G_ends_in_stretch D_ends_in_stretch hr (by rfl) zaQ (zac (vv 0) (zac (vv 1) (zac (vv 2) (zac (vcb zib (by rfl) T.m_max zeE (zac (vv 5) (zac zap zan))) (zac (vcb c_min2 (by rfl) T.m_min zeF (zac (vv 6) (zac (vcb zb8 (by rfl) T.m_len zam (zac (vv 2) zan)) zan))) zan)))))))))
   (ss1 (zdR (vct zer (by rfl) T.m_tuple zbc (zac (vv 4) zan))))))
theorem ok_law(T:Txt K mg)(F:FunA K "law" "law" zdF f fd):FnOk P w K mg base CX0 8 f fd ["_law_script"] (spD K [.b] g_law):=by
 obtain⟨f__law_case,fd__law_case,D__law_case⟩:=T.d__law_case
 have G__law_case:FnOk P w K mg base CX0 3 f__law_case fd__law_case ["_law_deck_here"] (spM K zbV):=zgO T (.of D__law_case.fn)
 obtain⟨f__law_deck,fd__law_deck,D__law_deck⟩:=T.d__law_deck
 have G__law_deck:FnOk P w K mg base CX0 1 f__law_deck fd__law_deck ["_law_cells","_law_many"] (spD K [.b,.v] zcc):=zgr T (.of D__law_deck.fn)
 obtain⟨f__law_pairs,fd__law_pairs,D__law_pairs⟩:=T.d__law_pairs
 have G__law_pairs:FnOk P w K mg base CX0 2 f__law_pairs fd__law_pairs ["_law_found","_law_due"] (spD K [.v,.b] zbz):=zfL T (.of D__law_pairs.fn)
 obtain⟨f_ends_in,fd_ends_in,D_ends_in⟩:=T.d_ends_in
 have G_ends_in:FnOk P w K mg base CX0 5 f_ends_in fd_ends_in ["P","T","most","prices"] (spD K [.v,.v,.v,.t] zbo):=zfr T (.of D_ends_in.fn)
 obtain⟨f_ends_in_kept,fd_ends_in_kept,D_ends_in_kept⟩:=T.d_ends_in_kept
 have G_ends_in_kept:FnOk P w K mg base CX0 7 f_ends_in_kept fd_ends_in_kept ["W","most","T","kept"] (spD K [.v,.v,.v,.v] zbt):=zeS T (.of D_ends_in_kept.fn)
 obtain⟨f_kept_by_counts,fd_kept_by_counts,D_kept_by_counts⟩:=T.d_kept_by_counts
 have G_kept_by_counts:FnOk P w K mg base CX0 3 f_kept_by_counts fd_kept_by_counts ["W","most","T"] (spD K [.v,.v,.v] zaZ):=zee T (.of D_kept_by_counts.fn)
 obtain⟨f_kept_by_parts,fd_kept_by_parts,D_kept_by_parts⟩:=T.d_kept_by_parts
 have G_kept_by_parts:FnOk P w K mg base CX0 2 f_kept_by_parts fd_kept_by_parts ["W","most","T"] (spD K [.v,.v,.v] zbB):=zey T (.of D_kept_by_parts.fn)
 obtain⟨f_kept_by_pieces,fd_kept_by_pieces,D_kept_by_pieces⟩:=T.d_kept_by_pieces
 have G_kept_by_pieces:FnOk P w K mg base CX0 2 f_kept_by_pieces fd_kept_by_pieces ["W","most","T","long"] (spD K [.v,.v,.v,.v] zaM):=zcS T (.of D_kept_by_pieces.fn)
 obtain⟨f_pattern_of,fd_pattern_of,D_pattern_of⟩:=T.d_pattern_of
 have G_pattern_of:FnOk P w K mg base CX0 1 f_pattern_of fd_pattern_of ["W"] (spD K [.v] zaK):=zdX T (.of D_pattern_of.fn)
 refine zbr F sc_law F_law rfl (fun _ _ h=>h) fun cdv A outer s H E hr=>?_
 have hu:=zbW hr
 exact(ssc (sSetL' (i:=1) (by decide) sc_law.nd rfl (az rfl) (vcl G__law_deck D__law_deck hr (by rfl) zaQ (zac (vsl l_list (vv 0) von (vos zap)) (zac zap zan))))
   (ssc (sXAsg (xco 1 G__law_case D__law_case hr (by rfl) zaQ xnil) (gls rfl (ziL (gnm (i:=2) sc_law.nd rfl (az rfl)) (ziL (gnm (i:=3) sc_law.nd rfl (az rfl)) (ziL (gnm (i:=4) sc_law.nd rfl (az rfl)) gns0))) (hl:=gl1 (gl1 (gl1 (gl0))))))
   (ssc (zcT (i:=5) sc_law.nd rfl (az rfl) (vcl G_pattern_of D_pattern_of hr (by rfl) zaQ (zac (vv 2) zan)))
   (ssc (zcT (i:=6) sc_law.nd rfl (az rfl) (vct zhs (by rfl) T.m_list zd9 (zac (vcl G_ends_in D_ends_in hr (by rfl) zaQ (zac (vv 5) (zac (vv 4) (zac (vv 3) (zac (vtup (zac zap (zac zap (zac zap (zac zap zan))))) zan))))) zan)))
   (ssc (zcT (i:=7) sc_law.nd rfl (az rfl) (zfm (zac (vcl G_kept_by_parts D_kept_by_parts hr (by rfl) zaQ (zac (vv 2) (zac (vv 3) (zac (vv 4) zan)))) (zac (vcl G_kept_by_counts D_kept_by_counts hr (by rfl) zaQ (zac (vv 2) (zac (vv 3) (zac (vv 4) zan)))) zan))))
   (ssc (zhw (i:=8) sc_law.nd rfl (az rfl) (xpop 1))
   (ssc (sApp 7 (vcl G_kept_by_pieces D_kept_by_pieces hr (by rfl) zaQ (zac (vv 2) (zac (vv 3) (zac (vv 4) (zac (vop zbL zap (vop zbU (vv 8) zap)) zan))))))
   (sFrz 7 (ssc (zgA (iil (vv 7)) (gnm (i:=9) sc_law.nd rfl (az rfl))
   (ss1 (sIf (tnt (tva (vcl G__law_pairs D__law_pairs hr (by rfl) zaQ (zac (vcl G_ends_in_kept D_ends_in_kept hr (by rfl) zaQ (zac (vv 2) (zac (vv 3) (zac (vv 4) (zac (vv 9) zan))))) (zac (vv 6) zan))))) (ss1 (zdR vbl)) ss0)))
   (ssc (zcT (i:=10) sc_law.nd rfl (br rfl) (vSortSetI (zfm (zac (vop zbU (vop zcF (vv 8) zap) (vop zbL (vcb zb8 (by rfl) T.m_len zam (zac (vv 4) zan)) zap)) (zac (vop zbU (vop zcF (vv 8) zap) (vop zbL (vcb zb8 (by rfl) T.m_len zam (zac (vv 4) zan)) zap)) (zac (vcb zb8 (by rfl) T.m_len zam (zac (vv 4) zan)) zan)))) (by rfl) T.m_sorted ze0 (by rfl) T.m_set boot_set))
   (ssc (sSetLC (i:=11) sc_law.nd rfl (az rfl) (N:=["_law_k","_law_lows"]) (fr:=[10]) ⟨rfl,rfl,rfl,by decide +kernel,rfl,rfl⟩ (iir1 (by rfl) T.m_range (zac (vop zcW (vcb zdy (by rfl) T.m_len zam (zac (vv 10) zan)) zap) zan)) (fun _ _ _ _=>by exact if0) (fun _ _ _ _=>by exact(vtup (zac (vix zcb (vv 1) (vv 0) (fun _ _=>rfl)) (zac (vop zcW (vix zcb (vv 1) (vop zbL (vv 0) zap) (fun _ _=>rfl)) zap) zan)))))
   (ssc (zcT (i:=6) sc_law.nd rfl (az rfl) (zfm zan))
   (sFrz 11 (ssc (zgA (iil (vv 11)) (gtp rfl (ziL (gnm (i:=12) sc_law.nd rfl (az rfl)) (ziL (gnm (i:=13) sc_law.nd rfl (az rfl)) gns0)) (hl:=gl1 (gl1 (gl0))))
   (ss1 (zgA (iit (vcl G_ends_in D_ends_in hr (by rfl) zaQ (zac (vv 5) (zac (vsl zfg (vv 4) (vos (vv 12)) (vos (vv 13))) (zac (vv 3) (zac (vtup (zac zap (zac zap (zac zap (zac zap zan))))) zan)))))) (gtp rfl (ziL (gnm (i:=14) sc_law.nd rfl (az rfl)) (ziL (gnm (i:=15) sc_law.nd rfl (az rfl)) gns0)) (hl:=gl1 (gl1 (gl0))))
   (ss1 (sApp 6 (vtup (zac (vop zbL (vv 12) (vv 14)) (zac (vv 15) zan))))))))
   (ss1 (zdR (vcl G__law_pairs D__law_pairs hr (by rfl) zaQ (zac (vcl G_ends_in_kept D_ends_in_kept hr (by rfl) zaQ (zac (vv 2) (zac (vv 3) (zac (vv 4) (zac (vct zer (by rfl) T.m_tuple zbc (zac (vv 11) zan)) zan))))) (zac (vv 6) zan)))))))))))))))))))
end
end N45

namespace N45
open PySem L2 L3
open CE in
theorem zcy(c:Option Int)(q:Int):zbd [oD c,.int q]=aa (.val (oD (stp c q))):=by
 cases c with
 | none=>simp (disch:=omega) only[zbd,zcU,stE,stN,oD,jqc,jqa,zdd,zaT,fIf,fOr,tOf,ex2,zab,aF,jqk,eC,gIsN,isN,gEq,zhe,zb9,toN,fNx,zbi,jqe,bOf,jqf,jra,sqO,zg6,stp,jqd,ite_self]
 | some i=>
  by_cases h:q=0
  ·simp (disch:=omega) only[zbd,zcU,stE,stN,oD,h,jqc,jqa,zdd,zaT,fIf,fOr,tOf,ex2,zab,aF,jqk,eC,gIsN,isN,gEq,zhe,zb9,toN,fNx,zbi,jqe,bOf,jqf,jqy,jqr,jrb,jra,sqO,zg6,stp]
  ·simp (disch:=omega) only[zbd,zcU,stE,stN,oD,jqc,jqa,zdd,zaT,fIf,fOr,tOf,ex2,zab,aF,jqk,eC,gIsN,isN,gEq,zhe,zb9,toN,fNx,zbi,jqe,bOf,jqf,h,jqz,jqr,jrb,sqO,pI0,iOf,zg6,stp]
open CE in
theorem zhi(δ:En)(cs:List (Option Int)):zcv (fun d=>zdN (cEn [] δ d)) (fun d=>zdJ (cEn [] δ d)) (cs.map oD)=aa ((cs.filterMap id).map D.int):=by
 induction cs with
 | nil=>rfl
 | cons c cs ih=>
  rw[aE,zcv,ih]
  cases c with
  | none=>rfl
  | some i=>rfl
open CE in
theorem lowest_q(cs:List (Option Int))(d:D)(hd:qOf (.val d)=aa (cs.map oD))(h:cs.length<=1000000):zdq [d]=aa (.val (oD (lw cs))):=by
 have hE:eLC [] (qV (zab 0)) zdN zdJ [aa (.val d)]=aa (.own ((cs.filterMap id).map D.int)):=
  zen (by unfold qV;exact hd) (zhi _ cs) (by rw[am];exact aJ (List.length_filterMap_le _ _) h)
 simp (disch:=omega) only[zdq,zcU,stE,stN,jqc,jqa,zfX,zb9,ex2,aF,jqk,eC,gMinD,asL,toN,hE,zgl]
 cases hm:minI (cs.filterMap id) with
 | none=>simp (disch:=omega) only[jqa,jqc,zg6,oD,lw,hm]
 | some m=>simp (disch:=omega) only[jqa,jqc,zg6,oD,lw,hm]
open CE in
theorem lowest_eq(cs:List (Option Int))(h:cs.length<=1000000):zdq [.lst (cs.map oD)]=aa (.val (oD (lw cs))):=lowest_q cs _ rfl h
def zgW(c:Nat->Nat->Option Int)(n a:Nat):D:=.tup ((aq (n+1)).map fun j=>CE.oD (c a j))
def _root_.CE.Pr.ds(p:CE.Pr):List D:=[.int p.put,.int p.left,.int p.exch,.int p.turn]
def zcd(c:Nat->Nat->Option Int)(m j:Nat):D:=.tup ((aq (m+1)).map fun i=>CE.oD (c i j))
theorem zff(f:Nat->D)(n:Nat){k:Int}(h0:0<=k)(h:k.toNat<=n):atI ((aq (n+1)).map f) k=aa (f k.toNat):=by
 refine atI_int h0 ?_
 rw[aD,bC (by lia)]
 rfl
theorem zir(f:Nat->D)(n:Nat):atI ((aq (n+1)).map f) (-1)=aa (f n):=atI_m1 (by rw[cA,bM];simp)
theorem atI_m2{α:Type}{xs:List α}{x:α}(h2:2<=xs.length)(h:xs[xs.length - 2]? = aa x):atI xs (-2)=aa x:=by
 unfold atI ixN
 rw[if_neg (by lia),if_pos (by lia)]
 show xs[(-2+(xs.length:Int)).toNat]? = _
 rw[show(-2+(xs.length:Int)).toNat=xs.length - 2 by lia]
 exact h
theorem rng_last2(f:Nat->D)(n:Nat):atI ((aq (n+1+1)).map f) (-2)=aa (f n):=by
 refine atI_m2 (by simp) ?_
 rw[am,bz,show n+1+1 - 2=n by lia,aD,bC (by lia)]
 rfl
structure Win(c:Nat->Nat->Option Int)(fit:Nat->Nat->Bool)(P:List Str)(j:Nat)(cs:List D)(tx:List Nat):Prop where
 l:tx.length<=1000000
 c1:atI cs (-1)=aa (zcd c P.length j)
 s1:∃ t,atI tx (-1)=aa t/\∀ i,i<P.length->inS (mkS [t]) (P.getD i (mkS []))=fit i j
 two:(tx.length<2/\j=0) \/ (2<=tx.length/\0<j/\atI cs (-2)=aa (zcd c P.length (j - 1))/\∃ t,atI tx (-2)=aa t/\∀ i,i<P.length->inS (mkS [t]) (P.getD i (mkS []))=fit i (j - 1))
open CE in
theorem ahead_eq{c:Nat->Nat->Option Int}{fit:Nat->Nat->Bool}{P:List Str}{j:Nat}{cs:List D}{tx:List Nat}(W:Win c fit P j cs tx)(i:Nat)(hi:i<P.length) :
  zaO [.lst cs,.tup (P.map .str),.str (mkS tx),.int (1+(i:Int))]=aa (.val (oD (tc fit c i j))):=by
 have hl:tx.length<=1000000:=W.l
 suffices hF:zaP [aa (.bor cs),aa (.val (.tup (P.map .str))),aa (.val (.str (mkS tx))),aa (.val (.int (1+(i:Int))))]=aa (.rt (.val (oD (tc fit c i j))) [aa (.bor cs),aa (.val (.tup (P.map .str))),aa (.val (.str (mkS tx))),aa (.val (.int (1+(i:Int))))]) from
  (congrArg (fun o=>bY o _) hF).trans rfl
 have t1:=orLt (X:=zab 3) (Y:=eCB zaX (zaa (zab 2) zae)) (c:=2) (δ:=[aa (.bor cs),aa (.val (.tup (P.map .str))),aa (.val (.str (mkS tx))),aa (.val (.int (1+(i:Int))))]) rfl (zhr rfl (zaJ tx) hl)
 by_cases h:0<i/\2<=tx.length
 ·rcases W.two with ⟨h2,_⟩ | ⟨_,hj,q2,t',e2,g2⟩
  ·lia
  ·obtain⟨t,e1,g1⟩:=W.s1
   have hi1:i - 1<P.length:=eU (Nat.sub_le _ _) hi
   have ht:tc fit c i j=if (fit i (j - 1) && fit (i - 1) j)=true then c (i - 1) (j - 1) else ab:=by unfold tc;rw[if_pos ⟨h.1,hj⟩]
   have k1:1+(i:Int) - 1=(i:Int):=by lia
   have k2:1+(i:Int) - 2=((i - 1:Nat):Int):=by lia
   have a3:=zei D.str (mkS []) (xs:=P) (i:=(i:Int)) (dU _) (by simpa using hi)
   have a4:=zei D.str (mkS []) (xs:=P) (i:=((i - 1:Nat):Int)) (dU _) (by simpa using hi1)
   have a6:atI ((aq (P.length+1)).map fun k=>oD (c k (j - 1))) ((i - 1:Nat):Int)=aa (oD (c (i - 1) (j - 1))):=by
    rw[zff _ _ (dU _) (by simp;lia)];rfl
   have f1:=g2 i hi
   have f2:=g1 (i - 1) hi1
   have s1:=zhy (E:=zab 3) (F:=eC (.int 1)) (δ:=[aa (.bor cs),aa (.val (.tup (P.map .str))),aa (.val (.str (mkS tx))),aa (.val (.int (1+(i:Int))))]) rfl rfl
   have s2:=zhy (E:=zab 3) (F:=eC (.int 2)) (δ:=[aa (.bor cs),aa (.val (.tup (P.map .str))),aa (.val (.str (mkS tx))),aa (.val (.int (1+(i:Int))))]) rfl rfl
   rw[k1] at s1
   rw[k2] at s2
   have n1:=niSS (ixSS (E:=zab 2) (F:=ex1 zgi (eC (.int 2))) rfl hl rfl e2) (ixTT (E:=zab 1) rfl s1 a3)
   have n2:=niSS (ixSS (E:=zab 2) (F:=ex1 zgi (eC (.int 1))) rfl hl rfl e1) (ixTT (E:=zab 1) rfl s2 a4)
   have t2:=orB n1 n2
   rw[de,de,f1,f2,<- Bool.not_and] at t2
   rw[decide_eq_false (by lia)] at t1
   refine(show zaP _=_ from zbh (fIfF t1)).trans ?_
   rw[ht]
   cases v:(fit i (j - 1) && fit (i - 1) j) with
   | false=>rw[v] at t2;exact fSeqR ((fIfT t2).trans (zf0 rfl))
   | true=>rw[v] at t2;exact(zbh (fIfF t2)).trans (zf0 (ixTT (ixLB rfl rfl q2) s2 a6))
 ·have ht:tc fit c i j=ab:=by
   unfold tc
   rw[if_neg]
   intro q
   rcases W.two with ⟨h2,hj⟩ | ⟨h2,_⟩
   ·lia
   ·exact h ⟨q.1,h2⟩
  rw[decide_eq_true (by lia)] at t1
  rw[ht]
  exact show zaP _=_ from fSeqR ((fIfT t1).trans (zf0 rfl))
open CE in
theorem zhu(P:List Str)(p:Pr)(free:Bool)(fit:Nat->Nat->Bool)(k:Nat)(hk:k<P.length)(hP:P.length<=100000) :
  zbH [aa (.val (.tup (P.map .str))),aa (.bt p.ds),aa (.own ((aq (k+1)).map fun i=>oD (cel fit p free i 0))),aa (.val (.int (1+(k:Int))))] =
  aa (.nx [aa (.val (.tup (P.map .str))),aa (.bt p.ds),aa (.own ((aq (k+1+1)).map fun i=>oD (cel fit p free i 0))),aa (.val (.int (1+(k:Int))))]):=by
 have hl:(((aq (k+1)).map fun i=>oD (cel fit p free i 0))).length<1000000:=by simp;lia
 have hx:atI ((aq (k+1)).map fun i=>oD (cel fit p free i 0)) (1+(k:Int) - 1)=aa (oD (cel fit p free k 0)):=by
  rw[zff _ _ (by lia) (by lia),show(1+(k:Int) - 1).toNat=k by lia]
 have h0:atI [D.int p.put,D.int p.left,D.int p.exch,D.int p.turn] 1=aa (.int p.left):=rfl
 have e:(aq (k+1+1)).map (fun i=>oD (cel fit p free i 0))=(aq (k+1)).map (fun i=>oD (cel fit p free i 0)) ++ [oD (cel fit p free (k+1) 0)]:=by
  rw[cA (n:=k+1),bM];rfl
 rw[e,cel_s0]
 simp (disch:=omega) only[zbH,zgk,Pr.ds,jqf,jqe,zag,zaa,ex2,zab,eC,zdA,pI0,iOf,jqa,jqc,zcR,asL,hx,ziU,btOf,h0,zae,zbg,zcx,asV,zcy,zaY,jqh,jqg,zaf]
open CE in
theorem firstc_eq(P:List Str)(p:Pr)(free:Bool)(fit:Nat->Nat->Bool)(hP:P.length<=100000) :
  zbN [.tup (P.map .str),.tup p.ds]=aa (.val (zcd (cel fit p free) P.length 0)):=by
 obtain⟨δ',w1,kv,rfl⟩:=zbP (tg:=gNm 3) (f:=zbH) (fun k δ=>∃ kv,δ=[aa (.val (.tup (P.map .str))),aa (.bt p.ds),aa (.own ((aq (k+1)).map fun i=>oD (cel fit p free i 0))),kv])
  ((aq P.length).map fun(k:Nat)=>D.int (1+(k:Int))) 0 _ (fun k d δ hd hδ=>by
   obtain⟨kv,rfl⟩:=hδ
   rw[bq]
   rw[aD] at hd
   have hk:k<P.length:=by
    cases q:(aq P.length)[k]? with
    | none=>rw[q] at hd;cases hd
    | some z=>have:=(aP.mp q).1;simpa using this
   rw[bC hk] at hd
   cases hd
   exact⟨_,_,rfl,.inl (zhu P p free fit k hk hP),_,rfl⟩) ⟨ab,rfl⟩
 have hb1:b62 1:=zcD (by decide)
 have hb2:b62 ((P.length:Int)+1):=zcD (by lia)
 have hn:((P.length:Int)+1 - 1).toNat=P.length:=by lia
 have hl:P.length<=100000:=hP
 simp only[am,bz,bq] at w1
 simp only[cA (n:=0),ik,cO,aE,b5,zhU,oD_s,oD_n] at w1
 simp (disch:=omega) only[zbN,zcU,stE,stN,jqc,jqa,zcO,zaT,zca,zcg,zaa,eC,zae,jqp,jqq,Nat.reduceLeDiff,zew,asV,jra,aF,toN,zbi,sqO,zd1,iR2,ex2,eCB,zab,pI0,iOf,jqi,jqj,jqh,jqg,jqe,zb2,zez,am,zd5,jre,hn,zaf,w1,zb9,jqf,zc4,asL,zg6,zcd]
open CE in
theorem zgM(P:List Str)(p:Pr)(free:Bool)(fit:Nat->Nat->Bool)(cs:List D)(tx:List Nat)(j k:Nat)(W:Win (cel fit p free) fit P j cs tx)(f8:Option Ent)(hk:k<P.length)(hP:P.length<=100000) :
  zbn [aa (.bor cs),aa (.val (.tup (P.map .str))),aa (.val (.str (mkS tx))),aa (.bt p.ds),aa (.val (.bl free)),aa (.val (zcd (cel fit p free) P.length j)),aa (.own ((aq (k+1)).map fun i=>oD (cel fit p free i (j+1)))),aa (.val (.int (1+(k:Int)))),f8] =
  aa (.nx [aa (.bor cs),aa (.val (.tup (P.map .str))),aa (.val (.str (mkS tx))),aa (.bt p.ds),aa (.val (.bl free)),aa (.val (zcd (cel fit p free) P.length j)),aa (.own ((aq (k+1+1)).map fun i=>oD (cel fit p free i (j+1)))),aa (.val (.int (1+(k:Int)))),aa (.val (.bl (fit k j)))]):=by
 have hl:(((aq (k+1)).map fun i=>oD (cel fit p free i (j+1)))).length<1000000:=by simp;lia
 have hx:atI ((aq (k+1)).map fun i=>oD (cel fit p free i (j+1))) (1+(k:Int) - 1)=aa (oD (cel fit p free k (j+1))):=by
  rw[zff _ _ (by lia) (by lia),show(1+(k:Int) - 1).toNat=k by lia]
 obtain⟨t,a1,g1⟩:=W.s1
 have f1:=g1 k hk
 have k1:1+(k:Int) - 1=(k:Int):=by lia
 have a2:=zei D.str (mkS []) (xs:=P) (i:=(k:Int)) (dU _) (by simpa using hk)
 have a3:atI ((aq (P.length+1)).map fun i=>oD (cel fit p free i j)) (k:Int)=aa (oD (cel fit p free k j)):=by
  rw[zff _ _ (dU _) (by simp;lia)];rfl
 have a4:atI ((aq (P.length+1)).map fun i=>oD (cel fit p free i j)) (1+(k:Int))=aa (oD (cel fit p free (k+1) j)):=by
  rw[zff _ _ (by lia) (by lia),show(1+(k:Int)).toNat=k+1 by lia]
 rw[k1] at hx
 have e:(aq (k+1+1)).map (fun i=>oD (cel fit p free i (j+1)))=(aq (k+1)).map (fun i=>oD (cel fit p free i (j+1))) ++ [oD (cel fit p free (k+1) (j+1))]:=by
  rw[cA (n:=k+1),bM];rfl
 rw[e,zeX]
 generalize (aq (k+1)).map (fun i=>oD (cel fit p free i (j+1)))=ds at *
 have sA:=zhy (E:=zab 7) (F:=eC (.int 1)) (δ:=[aa (.bor cs),aa (.val (.tup (P.map .str))),aa (.val (.str (mkS tx))),aa (.bt p.ds),aa (.val (.bl free)),aa (.val (zcd (cel fit p free) P.length j)),aa (.own ds),aa (.val (.int (1+(k:Int)))),f8]) rfl rfl
 have sB:=zhy (E:=zab 7) (F:=eC (.int 1)) (δ:=[aa (.bor cs),aa (.val (.tup (P.map .str))),aa (.val (.str (mkS tx))),aa (.bt p.ds),aa (.val (.bl free)),aa (.val (zcd (cel fit p free) P.length j)),aa (.own ds),aa (.val (.int (1+(k:Int)))),aa (.val (.bl (fit k j)))]) rfl rfl
 rw[k1] at sA sB
 have v8:=inSS (ixSS (E:=zab 2) (F:=ex1 zgi (eC (.int 1))) rfl W.l rfl a1) (ixTT (E:=zab 1) rfl sA a2)
 rw[de,f1] at v8
 have x1:=ixTT (E:=zab 5) rfl sB a3
 have x4:=ixTT (E:=zab 5) (F:=zab 7) (δ:=[aa (.bor cs),aa (.val (.tup (P.map .str))),aa (.val (.str (mkS tx))),aa (.bt p.ds),aa (.val (.bl free)),aa (.val (zcd (cel fit p free) P.length j)),aa (.own ds),aa (.val (.int (1+(k:Int)))),aa (.val (.bl (fit k j)))]) rfl rfl a4
 have xL:=ixLW (E:=zab 6) rfl sB hx
 have y1:=eIfI (A:=zab 8) rfl x1 ((ze5 x1 (Y:=ex2 ziU (zab 3) (eC (.int 2))) (b:=.int p.exch) rfl).trans (zcy _ _))
 have y2:=(ze5 x4 (Y:=ex2 ziU (zab 3) (eC (.int 0))) (b:=.int p.put) rfl).trans (zcy _ _)
 have y3:=(ze5 xL (Y:=ex2 ziU (zab 3) (eC (.int 1))) (b:=.int p.left) rfl).trans (zcy _ _)
 have z4:zag [.b,.v,.v,.v] zaO (zaa (zab 0) (zaa (zab 1) (zaa (zab 2) (zaa (zab 7) zae)))) [aa (.bor cs),aa (.val (.tup (P.map .str))),aa (.val (.str (mkS tx))),aa (.bt p.ds),aa (.val (.bl free)),aa (.val (zcd (cel fit p free) P.length j)),aa (.own ds),aa (.val (.int (1+(k:Int)))),aa (.val (.bl (fit k j)))]=aa (.val (oD (tc fit (cel fit p free) k j))):=ahead_eq W k hk
 have y4:=(ze5 z4 (Y:=ex2 ziU (zab 3) (eC (.int 3))) (b:=.int p.turn) rfl).trans (zcy _ _)
 rw[show(if fit k j=true then oD (cel fit p free k j) else oD (stp (cel fit p free k j) p.exch))=oD (if fit k j=true then cel fit p free k j else stp (cel fit p free k j) p.exch) by cases fit k j <;> rfl] at y1
 exact(show zbn _=_ from zbw v8).trans (zhk rfl ((low4 y1 y2 y3 y4).trans (lowest_eq [_,_,_,_] (show 4<=1000000 by decide))) hl)
open CE in
theorem ziH(P:List Str)(p:Pr)(free:Bool)(fit:Nat->Nat->Bool)(cs:List D)(tx:List Nat)(j:Nat)(W:Win (cel fit p free) fit P j cs tx)(hP:P.length<=100000) :
  zbS [.lst cs,.tup (P.map .str),.str (mkS tx),.tup p.ds,.bl free]=aa (.val (zcd (cel fit p free) P.length (j+1))):=by
 obtain⟨δ',w1,kv,fv,rfl⟩:=zbP (tg:=gNm 7) (f:=zbn) (fun k δ=>∃ kv fv,δ=[aa (.bor cs),aa (.val (.tup (P.map .str))),aa (.val (.str (mkS tx))),aa (.bt p.ds),aa (.val (.bl free)),aa (.val (zcd (cel fit p free) P.length j)),aa (.own ((aq (k+1)).map fun i=>oD (cel fit p free i (j+1)))),kv,fv])
  ((aq P.length).map fun(k:Nat)=>D.int (1+(k:Int))) 0 _ (fun k d δ hd hδ=>by
   obtain⟨kv,fv,rfl⟩:=hδ
   rw[bq]
   rw[aD] at hd
   have hk:k<P.length:=by
    cases q:(aq P.length)[k]? with
    | none=>rw[q] at hd;cases hd
    | some z=>have:=(aP.mp q).1;simpa using this
   rw[bC hk] at hd
   cases hd
   exact⟨_,_,rfl,.inl (zgM P p free fit cs tx j k W _ hk hP),_,_,rfl⟩) ⟨ab,ab,rfl⟩
 have hb1:b62 1:=zcD (by decide)
 have hb2:b62 ((P.length:Int)+1):=zcD (by lia)
 have hn:((P.length:Int)+1 - 1).toNat=P.length:=by lia
 have hl:P.length<=100000:=hP
 have c1:=W.c1
 have a2:atI ((aq (P.length+1)).map fun i=>oD (cel fit p free i j)) 0=aa (oD (cel fit p free 0 j)):=by
  rw[zff _ _ (by lia) (by simp)];rfl
 simp only[am,bz,bq] at w1
 simp only[cA (n:=0),ik,cO,aE,b5,zim] at w1
 suffices hF:∃ δ,zbT [aa (.bor cs),aa (.val (.tup (P.map .str))),aa (.val (.str (mkS tx))),aa (.bt p.ds),aa (.val (.bl free)),ab,ab,ab,ab]=aa (.rt (.val (zcd (cel fit p free) P.length (j+1))) δ) from
  hF.elim fun _ h=>(congrArg (fun o=>bY o _) h).trans rfl
 have x0:=ixLB (E:=zab 0) (F:=ex1 zgi (eC (.int 1))) (δ:=[aa (.bor cs),aa (.val (.tup (P.map .str))),aa (.val (.str (mkS tx))),aa (.bt p.ds),aa (.val (.bl free)),ab,ab,ab,ab]) rfl rfl c1
 have y0:=eIfI (A:=zab 4) (B:=eC (.int 0)) (δ:=[aa (.bor cs),aa (.val (.tup (P.map .str))),aa (.val (.str (mkS tx))),aa (.bt p.ds),aa (.val (.bl free)),aa (.val (zcd (cel fit p free) P.length j)),ab,ab,ab]) rfl rfl ((ze5 (ixTT (E:=zab 5) (F:=eC (.int 0)) rfl rfl a2) (Y:=ex2 ziU (zab 3) (eC (.int 0))) (b:=.int p.put) rfl).trans (zcy _ _))
 have h0:oD (if free=true then aa 0 else stp (cel fit p free 0 j) p.put)=(if free=true then D.int 0 else oD (stp (cel fit p free 0 j) p.put)):=by cases free <;> rfl
 rw[h0] at w1
 have z0:=eLst1 y0
 generalize (if free=true then D.int 0 else oD (stp (cel fit p free 0 j) p.put))=v0 at *
 have ir:iR2 (zaa (eC (.int 1)) (zaa (ex2 zbi (eCB zb2 (zaa (zab 1) zae)) (eC (.int 1))) zae)) [aa (.bor cs),aa (.val (.tup (P.map .str))),aa (.val (.str (mkS tx))),aa (.bt p.ds),aa (.val (.bl free)),aa (.val (zcd (cel fit p free) P.length j)),aa (.own [v0]),ab,ab]=aa ((aq P.length).map fun(k:Nat)=>D.int (1+(k:Int))):=by
  simp only[iR2,zaa,eC,ex2,eCB,zab,jqf,jqe,zae,jqc,jqa,zb2,zez,am,zbi,pI0,iOf,hb2,jre,Int.reduceNeg,Int.reduceLT,and_self,zd5,hn,zaf]
 exact⟨_,(show zbT _=_ from zbw x0).trans ((zbh (zef z0)).trans ((forN ir w1).trans rfl))⟩
theorem getD_in{T:List Nat}{k:Nat}(h:k<T.length):T[k]? = aa (T.getD k 0):=by
 rw[aU h,bE,aU h]
 rfl
open CE in
theorem win_take(P:List Str)(T:List Nat)(c:Nat->Nat->Option Int)(k:Nat)(hk:k<T.length)(hT:T.length<=100000):Win c (zdS P T) P k ((aq (k+1)).map fun j=>zcd c P.length j) (T.take (k+1)):=by
 have hl:(T.take (k+1)).length=k+1:=by rw[bB];lia
 refine⟨by lia,zir _ _,⟨T.getD k 0,?_,fun i _=>rfl⟩,?_⟩
 ·refine atI_m1 ?_
  rw[gO,hl,c9 (by lia),show k+1 - 1=k by lia]
  exact getD_in hk
 ·by_cases h:k=0
  ·exact .inl ⟨by lia,h⟩
  ·obtain⟨n,rfl⟩:∃ n,k=n+1:=⟨k - 1,by lia⟩
   refine .inr ⟨by lia,by lia,rng_last2 _ n,T.getD n 0,?_,fun i _=>rfl⟩
   refine atI_m2 (by lia) ?_
   rw[hl,c9 (by lia),show n+1+1 - 2=n by lia]
   exact getD_in (by lia)
open CE in
theorem across_eq(c:Nat->Nat->Option Int)(m n i:Nat)(hi:i<=m)(hn:n<=100000):zcn [.lst ((aq (n+1)).map fun j=>zcd c m j),.int (i:Int)]=aa (.val (zgW c n i)):=by
 have ec:eLC [1] (iB 0) zcK zcB [aa (.bor ((aq (n+1)).map fun j=>zcd c m j)),aa (.val (.int (i:Int)))]=aa (.own ((aq (n+1)).map fun j=>oD (c i j))):=by
  refine zen (ds:=(aq (n+1)).map fun j=>zcd c m j) rfl ?_ (by simp;lia)
  refine zg2 _ _ (by simp) (fun d _=>rfl) fun k d hd=>?_
  rw[aD] at hd
  obtain⟨j,e1,e2⟩:=iC.mp hd
  subst e2
  have ha:atI ((aq (m+1)).map fun i=>oD (c i j)) (i:Int)=aa (oD (c i j)):=by
   rw[zff _ _ (by lia) (by lia)];rfl
  refine⟨oD (c i j),?_,by rw[aD,e1];rfl⟩
  simp only[zcB,ex2,zab,cEn,zcd,jqn,jqf,jqe,jqx,jqa,capt,jqo,zfi,zez,iOf,ha,jqc,asV]
 have hl:n<=100000:=hn
 simp (disch:=omega) only[zcn,zcU,stE,stN,jqc,jqa,zc8,zb9,eCB,zaa,aF,jqk,zae,toN,ec,zc4,asL,zg6,zgW]
open CE in
theorem cells_eq(P:List Str)(T:List Nat)(p:Pr)(free:Bool)(hP:P.length<=100000)(hT:T.length<=100000) :
  zcP [.tup (P.map .str),.str (mkS T),.tup p.ds,.bl free]=aa (.val (.tup ((aq (P.length+1)).map fun i=>zgW (cel (zdS P T) p free) T.length i))):=by
 obtain⟨δ',w1,kv,rfl⟩:=zbP (tg:=gNm 5) (f:=zc1) (fun k δ=>∃ kv,δ=[aa (.val (.tup (P.map .str))),aa (.val (.str (mkS T))),aa (.bt p.ds),aa (.val (.bl free)),aa (.own ((aq (k+1)).map fun j=>zcd (cel (zdS P T) p free) P.length j)),kv])
  ((aq T.length).map fun(k:Nat)=>D.int (1+(k:Int))) 0 _ (fun k d δ hd hδ=>by
   obtain⟨kv,rfl⟩:=hδ
   rw[bq]
   rw[aD] at hd
   have hk:k<T.length:=by
    cases q:(aq T.length)[k]? with
    | none=>rw[q] at hd;cases hd
    | some z=>have:=(aP.mp q).1;simpa using this
   rw[bC hk] at hd
   cases hd
   have fe:=ziH P p free (zdS P T) ((aq (k+1)).map fun j=>zcd (cel (zdS P T) p free) P.length j) (T.take (k+1)) k (win_take P T _ k hk hT) hP
   have hl:((aq (k+1)).map fun j=>zcd (cel (zdS P T) p free) P.length j).length<1000000:=by simp;lia
   have e:(aq (k+1+1)).map (fun j=>zcd (cel (zdS P T) p free) P.length j)=(aq (k+1)).map (fun j=>zcd (cel (zdS P T) p free) P.length j) ++ [zcd (cel (zdS P T) p free) P.length (k+1)]:=by
    rw[cA (n:=k+1),bM];rfl
   have hc:zbI T ab (aa (1+(k:Int)))=T.take (k+1):=by rw[zeB _ (by lia),show(1+(k:Int)).toNat=k+1 by lia]
   have hm:T.length<=1000000:=by lia
   refine⟨_,_,rfl,.inl ?_,aa (.val (.int (1+(k:Int)))),rfl⟩
   rw[e]
   simp (disch:=omega) only[zc1,zgk,jqh,jqg,jqf,jqe,zag,zaa,zab,eSl,oNo,oSo,jqa,iOf,jqc,zdu,sOf,zaJ,zaY,zda,hc,zaf,zae,zbg,zcx,asL,asV,asT,fe]) ⟨ab,rfl⟩
 have hb1:b62 1:=zcD (by decide)
 have hb2:b62 ((T.length:Int)+1):=zcD (by lia)
 have hb3:b62 ((P.length:Int)+1):=zcD (by lia)
 have hn:((T.length:Int)+1 - 1).toNat=T.length:=by lia
 have hn3:((P.length:Int)+1).toNat=P.length+1:=by lia
 have f1:=firstc_eq P p free (zdS P T) hP
 have hm:T.length<=1000000:=by lia
 have hm2:P.length<=100000:=hP
 simp only[am,bz,bq] at w1
 simp only[cA (n:=0),ik,cO,aE,b5] at w1
 have ec:eLC [4] (iR1 (zaa (ex2 zbi (eCB zb2 (zaa (zab 0) zae)) (eC (.int 1))) zae)) zcK zcX [aa (.val (.tup (P.map .str))),aa (.val (.str (mkS T))),aa (.bt p.ds),aa (.val (.bl free)),aa (.own ((aq (T.length+1)).map fun j=>zcd (cel (zdS P T) p free) P.length j)),kv] =
   aa (.own ((aq (P.length+1)).map fun i=>zgW (cel (zdS P T) p free) T.length i)):=by
  refine zen (ds:=(aq (P.length+1)).map fun(i:Nat)=>D.int (0+(i:Int))) ?_ ?_ (by simp;lia)
  ·simp (disch:=omega) only[iR1,zaa,ex2,eCB,zab,jqe,zae,jqc,jqa,zb2,zez,am,eC,zbi,pI0,iOf,zd5,hn3,zaf]
  ·refine zg2 _ _ (by simp) (fun d _=>rfl) fun k d hd=>?_
   rw[aD] at hd
   obtain⟨i,e1,e2⟩:=iC.mp hd
   subst e2
   have hi:i<=P.length:=by
    have:=bR.mp (da e1)
    lia
   have ac:=across_eq (cel (zdS P T) p free) P.length T.length i hi hT
   refine⟨zgW (cel (zdS P T) p free) T.length i,?_,by rw[aD,e1];rfl⟩
   rw[show(0+(i:Int))=(i:Int) by lia]
   simp only[zcX,zag,zaa,zab,cEn,jqn,jqf,jqe,jqx,jqa,capt,jqo,zae,jqc,zbg,zcx,asL,asV,ac]
 simp only[zbi] at ec
 simp (disch:=omega) only[zcP,zcU,stE,stN,jqc,jqa,zeb,zaT,zca,zcg,zaa,zag,zab,aF,zae,toN,zbi,jqi,jqj,jqe,jqf,zbg,zcx,asV,asT,f1,jqp,jqq,Nat.reduceLeDiff,zew,jra,jqh,jqg,sqO,zd1,iR2,eC,ex2,eCB,zaX,sOf,zaJ,zaY,zaf,pI0,iOf,zd5,jre,hn,w1,zb9]
 simp (disch:=omega) only[ec,jqa,zc4,asL,jqc,zg6]
theorem alph:("abcdefghijklmnopqrstuvwxyz" : Str).cps.toList=(aq 26).map fun i=>97+i:=by decide +kernel
theorem deck_at(own:List Int)(k:Nat)(h:0<own.length):0<=(0+(k:Int)) % (own.length:Int)/\(0+(k:Int)) % (own.length:Int)<own.length:=⟨du _ (by lia),dj _ (by lia)⟩
theorem four_at(k:Nat):∃ m:Int,atI [D.int 48271,D.int 69621,D.int 39373,D.int 16807] ((0+(k:Int)) % 4)=aa (.int m)/\0<=m/\m<=69621:=by
 have h:(0+(k:Int)) % 4=0 \/ (0+(k:Int)) % 4=1 \/ (0+(k:Int)) % 4=2 \/ (0+(k:Int)) % 4=3:=by lia
 rcases h with h | h | h | h <;> rw[h]
 ·exact⟨48271,rfl,by decide,by decide⟩
 ·exact⟨69621,rfl,by decide,by decide⟩
 ·exact⟨39373,rfl,by decide,by decide⟩
 ·exact⟨16807,rfl,by decide,by decide⟩
theorem p18:(10:Int) ^ (18:Int).toNat=1000000000000000000:=by decide
theorem g18:(0<=(18:Int)/\(18:Int)<=1000000)/\(10:Int).natAbs<18446744073709551616:=by decide
theorem pow18{δ:En}:ex2 gPow (eC (.int 10)) (eC (.int 18)) δ=aa (.val (.int 1000000000000000000)):=by
 unfold ex2 eC gPow pI
 simp only[aQ,iOf,g18,and_self,zaf,p18]
theorem divB{E F:FE}{δ:En}{a b:Int}(h1:E δ=aa (.val (.int a)))(h2:F δ=aa (.val (.int b)))(hb:0<b/\b<18446744073709551616):ex2 gDivB E F δ=aa (.val (.int (a / b))):=by
 unfold ex2 gDivB pI
 simp only[h1,h2,aQ,iOf,hb,and_self,zaf]
theorem deck_turn(c0 c1:Option Ent)(own row dk:List Int)(k:Nat)(x6 x7:Option Ent)(h0:0<own.length)(hr:row.length=own.length)(hk:k<1000)(hd:dk.length=k):∃ (row':List Int) (d:Int) (y6 y7:Option Ent),row'.length=own.length /\
  zbO [c0,c1,aa (.val (.lst (own.map .int))),aa (.own (row.map .int)),aa (.own (dk.map .int)),aa (.val (.int (0+(k:Int)))),x6,x7] =
  aa (.nx [c0,c1,aa (.val (.lst (own.map .int))),aa (.own (row'.map .int)),aa (.own ((dk ++ [d]).map .int)),aa (.val (.int (0+(k:Int)))),y6,y7]):=by
 obtain⟨a1,a2⟩:=deck_at own k h0
 obtain⟨m,hm,m0,m1⟩:=four_at k
 have ow:atI (own.map D.int) ((0+(k:Int)) % (own.length:Int))=aa (.int (own.getD ((0+(k:Int)) % (own.length:Int)).toNat 0)):=zei D.int 0 a1 (by lia)
 have rw':atI (row.map D.int) ((0+(k:Int)) % (own.length:Int))=aa (.int (row.getD ((0+(k:Int)) % (own.length:Int)).toNat 0)):=zei D.int 0 a1 (by lia)
 have ix:ixN (row.map D.int).length ((0+(k:Int)) % (own.length:Int))=aa ((0+(k:Int)) % (own.length:Int)).toNat:=by
  have:=ixN_nat (n:=(row.map D.int).length) (i:=((0+(k:Int)) % (own.length:Int)).toNat) (by rw[am];lia)
  rwa [Int.toNat_of_nonneg a1] at this
 have hlo:(own.map D.int).length=own.length:=am _
 have hdl:(dk.map D.int).length<1000000:=by rw[am];lia
 generalize hat:(0+(k:Int)) % (own.length:Int)=at' at *
 generalize own.getD at'.toNat 0=o at ow
 generalize hrr:row.getD at'.toNat 0=r at rw'
 have hb1:b64 (0+(k:Int)):=zdC (by lia)
 have hps:0<(own.length:Int):=by lia
 have hb3:b64 ((o+(0+(k:Int)) * (0+(k:Int)) * 16807+3 * (0+(k:Int))) % 2147483629):=zdC (by lia)
 have hb4:b64 ((o+(0+(k:Int)) * (0+(k:Int)) * 16807+3 * (0+(k:Int))) % 2147483629 * m+7):=by
  have h1:0<=(o+(0+(k:Int)) * (0+(k:Int)) * 16807+3 * (0+(k:Int))) % 2147483629:=by lia
  have h2:(o+(0+(k:Int)) * (0+(k:Int)) * 16807+3 * (0+(k:Int))) % 2147483629<=2147483629:=by lia
  generalize (o+(0+(k:Int)) * (0+(k:Int)) * 16807+3 * (0+(k:Int))) % 2147483629=u at h1 h2
  have h3:=j8 h1 m0
  have h4:=Int.mul_le_mul h2 m1 m0 (by decide:(0:Int)<=2147483629)
  exact zdC (by lia)
 have s1:ex2 zbu (zab 5) (eCB zb2 (zaa (zab 2) zae)) [c0,c1,aa (.val (.lst (own.map .int))),aa (.own (row.map .int)),aa (.own (dk.map .int)),aa (.val (.int (0+(k:Int)))),x6,x7]=aa (.val (.int at')):=by
  rw[<- hat]
  simp (disch:=omega) only[ex2,zab,jqf,jqe,eCB,zaa,zae,jqc,jqa,zb2,zez,asL,hlo,zbu,pI,iOf,zcY,zaf]
 have s2:∃ v,(ex2 zbi (ex2 zdL (ex2 zbu (ex2 zbi (ex2 zbi (ex2 zcR (zab 2) (zab 6)) (ex2 zdL (ex2 zdL (zab 5) (zab 5)) (eC (.int 16807)))) (ex2 zdL (eC (.int 3)) (zab 5))) (eC (.int 2147483629))) (ex2 zcR (zcg (zaa (eC (.int 48271)) (zaa (eC (.int 69621)) (zaa (eC (.int 39373)) (zaa (eC (.int 16807)) zae))))) (ex2 zbu (zab 5) (eC (.int 4))))) (eC (.int 7))) [c0,c1,aa (.val (.lst (own.map .int))),aa (.own (row.map .int)),aa (.own (dk.map .int)),aa (.val (.int (0+(k:Int)))),aa (.val (.int at')),x7]=aa (.val (.int v))/\b64 v:=by
  refine⟨_,?_,hb4⟩
  simp (disch:=omega) only[ex2,zab,jqf,jqe,zcR,asL,iOf,jqa,ow,jqc,zdL,pI,zd2,jrc,zaf,eC,zbi,pI0,zbu,zcY,zcg,zaa,zae,jqp,jqq,Nat.reduceLeDiff,zew,asV,jra,hm]
 obtain⟨v,s2,hv⟩:=s2
 have s3:∃ d:Int,(ex2 zcR (zcg (zaa (ex2 zbu (ex2 zdL (zab 7) (zab 7)) (eC (.int 2147483629))) (zaa (ex2 zbu (ex2 zcR (zab 3) (zab 6)) (ex2 gPow (eC (.int 10)) (eC (.int 18)))) zae))) (eCB zcV (zaa (ex2 gNe (ex2 zcR (zab 3) (zab 6)) (eC (.int 0))) zae))) [c0,c1,aa (.val (.lst (own.map .int))),aa (.own (row.map .int)),aa (.own (dk.map .int)),aa (.val (.int (0+(k:Int)))),aa (.val (.int at')),aa (.val (.int v))]=aa (.val (.int d)):=by
  have q1:=zfl (E:=ex2 zcR (zab 3) (zab 6)) (δ:=[c0,c1,aa (.val (.lst (own.map .int))),aa (.own (row.map .int)),aa (.own (dk.map .int)),aa (.val (.int (0+(k:Int)))),aa (.val (.int at')),aa (.val (.int v))]) (ixLW rfl rfl rw') pow18 (by decide)
  generalize ex2 zbu (ex2 zcR (zab 3) (zab 6)) (ex2 gPow (eC (.int 10)) (eC (.int 18)))=EE at q1 ⊢
  by_cases hz:r=0
  ·refine⟨v * v % 2147483629,?_⟩
   have a0:atI [D.int (v * v % 2147483629),D.int (r % 1000000000000000000)] 0=aa (.int (v * v % 2147483629)):=rfl
   simp (disch:=omega) only[ex2,zcg,zaa,zab,jqf,jqe,zdL,pI,iOf,jqa,hv,jrc,zaf,eC,zbu,zcY,q1,hz,zae,jqc,jqp,jqq,Nat.reduceLeDiff,zew,asV,jra,eCB,zcR,asL,rw',gNe,zhe,jqy,jqt,zcV,jqr,jrb]
   rw[hz] at a0
   simp only[a0,cJ]
  ·refine⟨r % 1000000000000000000,?_⟩
   have a0:atI [D.int (v * v % 2147483629),D.int (r % 1000000000000000000)] 1=aa (.int (r % 1000000000000000000)):=rfl
   simp (disch:=omega) only[ex2,zcg,zaa,zab,jqf,jqe,zdL,pI,iOf,jqa,hv,jrc,zaf,eC,zbu,zcY,q1,zae,jqc,jqp,jqq,Nat.reduceLeDiff,zew,asV,jra,eCB,zcR,asL,rw',gNe,zhe,hz,jqz,jqu,zcV,a0]
 obtain⟨d,s3⟩:=s3
 have s4:=divB (E:=ex2 zcR (zab 3) (zab 6)) (δ:=[c0,c1,aa (.val (.lst (own.map .int))),aa (.own (row.map .int)),aa (.own (dk.map .int ++ [.int d])),aa (.val (.int (0+(k:Int)))),aa (.val (.int at')),aa (.val (.int v))]) (ixLW rfl rfl rw') pow18 (by decide)
 refine⟨row.set at'.toNat (r / 1000000000000000000),d,aa (.val (.int at')),aa (.val (.int v)),by rw[ie];exact hr,?_⟩
 refine(show zbO _=_ from zbh (zex s1)).trans ((zbh (zex s2)).trans ((zbh (zhk rfl s3 hdl)).trans ?_))
 rw[bM,aE,b5,List.map_set]
 show fSIx 3 (zab 6) _ [c0,c1,aa (.val (.lst (own.map .int))),aa (.own (row.map .int)),aa (.own (dk.map .int ++ [.int d])),aa (.val (.int (0+(k:Int)))),aa (.val (.int at')),aa (.val (.int v))]=_
 unfold fSIx
 simp only[e9,dg,s4,aQ,asV]
 simp only[zab,jqf,jqe,jqa,iOf,jqh,jqg,ix,jqc]
theorem deck_loop(c0 c1:Option Ent)(own row:List Int)(n:Nat)(h0:0<own.length)(hr:row.length=own.length)(hn:n<=1000):∃ (row' dk:List Int) (y5 y6 y7:Option Ent),dk.length=n /\
  loop (gNm 5) zbO ((aq n).map fun(i:Nat)=>D.int (0+(i:Int))) [c0,c1,aa (.val (.lst (own.map .int))),aa (.own (row.map .int)),aa (.own []),ab,ab,ab] =
  aa (.nx [c0,c1,aa (.val (.lst (own.map .int))),aa (.own (row'.map .int)),aa (.own (dk.map .int)),y5,y6,y7]):=by
 obtain⟨δ',w1,row',dk,y5,y6,y7,_,h1,rfl⟩:=zbP (tg:=gNm 5) (f:=zbO) (fun k δ=>∃ (row' dk:List Int) (y5 y6 y7:Option Ent),row'.length=own.length/\dk.length=k/\δ=[c0,c1,aa (.val (.lst (own.map .int))),aa (.own (row'.map .int)),aa (.own (dk.map .int)),y5,y6,y7])
  ((aq n).map fun(i:Nat)=>D.int (0+(i:Int))) 0 [c0,c1,aa (.val (.lst (own.map .int))),aa (.own (row.map .int)),aa (.own []),ab,ab,ab] (fun k d δ hd hδ=>by
   obtain⟨row',dk,y5,y6,y7,e1,e2,rfl⟩:=hδ
   have hk:k<n:=by have:=(aP.mp hd).1;simpa using this
   rw[aD,bC hk] at hd
   cases hd
   obtain⟨row2,d,z6,z7,f1,f2⟩:=deck_turn c0 c1 own row' dk k y6 y7 h0 e1 (by lia) (by lia)
   exact⟨_,_,rfl,.inl f2,row2,dk ++ [d],_,z6,z7,f1,by rw[ay,e2];rfl,rfl⟩) ⟨row,[],ab,ab,ab,hr,rfl,rfl⟩
 exact⟨row',dk,y5,y6,y7,by simpa using h1,w1⟩
theorem deck_comp(own:List Int)(δ:En):zcv (fun d=>zcK (cEn [] δ d)) (fun d=>zbQ (cEn [] δ d)) (own.map D.int)=aa ((own.map fun c=>c * (if c ≥ 1000000000000000000 then 1 else 0)).map D.int):=by
 induction own with
 | nil=>rfl
 | cons x xs ih=>
  rw[aE,zcv,ih]
  have q:zbQ (cEn [] δ (D.int x))=aa (.val (.int (x * (if x ≥ 1000000000000000000 then 1 else 0)))):=by
   unfold zbQ cEn
   have p:=pow18 (δ:=aa (Ent.val (D.int x)) :: [])
   have b1:b64 1:=zdC (by decide)
   have b0:b64 0:=zdC (by decide)
   generalize ex2 gPow (eC (.int 10)) (eC (.int 18))=EE at p ⊢
   by_cases hx:x ≥ 1000000000000000000
   ·simp only[ex2,zab,jqo,jqe,eCB,zaa,p,gGe,pI0,iOf,jqa,jqc,hx,jqy,zae,zcV,jra,zdL,pI,Int.reduceNeg,Int.reduceLT,jre,zd2,jrc,zaf]
   ·simp only[ex2,zab,jqo,jqe,eCB,zaa,p,gGe,pI0,iOf,jqa,jqc,hx,jqz,zae,zcV,jqr,jrb,zdL,pI,Int.reduceNeg,Int.reduceLT,jre,zd2,jrc,zaf]
  rw[q]
  rfl
theorem deck_ok(ns:List Int)(hn:ns.length<=63):∃ dk:List Int,dk.length=30/\zcc [.lst (ns.map .int),.int 30]=aa (.own (dk.map .int)):=by
 obtain⟨own,h0,h1,s1⟩:∃ own:List Int,0<own.length/\own.length<=64/\(ex2 gCat (eCB zdk (zaa (zab 0) zae)) (ex2 gRep (zcg (zaa (eC (.int 0)) zae)) (eCB zcV (zaa (ex2 gEq (eCB zb2 (zaa (zab 0) zae)) (eC (.int 0))) zae)))) [aa (.bor (ns.map .int)),aa (.val (.int 30)),ab,ab,ab,ab,ab,ab]=aa (.own (own.map .int)):=by
  have hl:(ns.map D.int).length=ns.length:=am _
  by_cases hz:ns.length=0
  ·refine⟨[0],by decide,by decide,?_⟩
   have hnil:ns=[]:=fg.mp hz
   subst hnil
   have hr:gRep (.own [.int 0]) (.val (.int 1))=aa (.own [.int 0]):=by simp (decide:=true) only[gRep,asLt,iOf,Int.reduceNeg,jqa,jrf,zaf];rfl
   simp (disch:=omega) only[ex2,eCB,zaa,zab,jqo,jqe,zae,jqc,jqa,zdk,zez,asL,zcg,eC,jqp,jqq,Nat.reduceLeDiff,zew,asV,jra,zb2,Int.ofNat_zero,gEq,zhe,jqy,zcV,hr,gCat,asLt,zaY,jqj,zaf,jqn]
  ·refine⟨ns,by lia,by lia,?_⟩
   have hz':¬ (ns.length:Int)=0:=by lia
   have hr:gRep (.own [.int 0]) (.val (.int 0))=aa (.own []):=by simp (decide:=true) only[gRep,asLt,iOf,Int.reduceNeg,jqa,jrf,zaf];rfl
   simp (disch:=omega) only[ex2,eCB,zaa,zab,jqe,zae,jqc,jqa,zdk,zez,asL,zcg,eC,jqp,jqq,Nat.reduceLeDiff,zew,asV,jra,zb2,hl,gEq,zhe,hz',jqz,zcV,jqr,jrb,hr,gCat,asLt,jqk,zaY,zaf]
 obtain⟨row',dk,y5,y6,y7,h2,s3⟩:=deck_loop (aa (.bor (ns.map .int))) (aa (.val (.int 30))) own (own.map fun c=>c * (if c ≥ 1000000000000000000 then 1 else 0)) 30 h0 (by simp) (by decide)
 have s2:eLC [] (iL (zab 2)) zcK zbQ [aa (.bor (ns.map .int)),aa (.val (.int 30)),aa (.val (.lst (own.map .int))),ab,ab,ab,ab,ab]=aa (.own ((own.map fun c=>c * (if c ≥ 1000000000000000000 then 1 else 0)).map .int)):=
  zen rfl (deck_comp own _) (by simp;lia)
 refine⟨dk.reverse,by rw[i6];exact h2,?_⟩
 suffices hF:zc0 [aa (.bor (ns.map .int)),aa (.val (.int 30)),ab,ab,ab,ab,ab,ab]=aa (.rt (.own (dk.reverse.map .int)) [aa (.bor (ns.map .int)),aa (.val (.int 30)),aa (.val (.lst (own.map .int))),aa (.own (row'.map .int)),aa (.own (dk.map .int)),y5,y6,y7]) from (congrArg (fun o=>bY o _) hF).trans rfl
 have hb:b62 30:=zcD (by decide)
 generalize own.map D.int=ow at *
 generalize (own.map fun c=>c * (if c ≥ 1000000000000000000 then 1 else 0)).map D.int=rw0 at *
 refine(show zc0 _=_ from zbh (zef s1)).trans ?_
 simp only[fFrz,List.set_cons_succ,List.set_cons_zero,e9,dg]
 refine(zbh (zef s2)).trans ((zbh (zef (show zcg zae _=aa (.own []) from rfl))).trans ((forN (ds:=(aq 30).map fun(i:Nat)=>D.int (0+(i:Int))) ?_ s3).trans ?_))
 ·simp only[iR1,zaa,zab,jqf,jqe,zae,jqc,jqa,iOf,Int.reduceNeg,Int.reduceLT,jre,zd5,zaf];rfl
 ·rw[List.map_reverse];rfl
theorem ziv{fe:FE}{δ:En}{d:D}(h:fe δ=aa (.val d)):xP fe δ=aa (d,δ):=by unfold xP;rw[h];rfl
theorem x2_i{g:Ent->Ent->Option Ent}{fa fb:FXE}{δ δ1 δ2:En}{a b d:D}(h1:fa δ=aa (a,δ1))(h2:fb δ1=aa (b,δ2))(h3:g (.val a) (.val b)=aa (.val d)):x2 g fa fb δ=aa (d,δ2):=by
 unfold x2;rw[h1];simp only[aQ];rw[h2];simp only[aQ,h3,asV,cJ]
theorem ziY{fe:FXE}{fa:FXA}{δ δ1 δ2:En}{d:D}{ds:List D}(h1:fe δ=aa (d,δ1))(h2:fa δ1=aa (ds,δ2)):zbx fe fa δ=aa (d :: ds,δ2):=by
 unfold zbx;rw[h1];simp only[aQ];rw[h2];rfl
theorem xCO_i{i:Nat}{g:GM}{fs:FXA}{δ δ1:En}{o0 o o':OT}{ds:List D}{d:D}(h0:oAt i δ=aa o0)(h1:fs δ=aa (ds,δ1))(h2:oAt i δ1=aa o)(h3:g o ds=aa (d,o')):xCO i g fs δ=aa (d,δ1.set i (aa (.obj o'))):=by
 unfold xCO;rw[h0];simp only[aQ];rw[h1];simp only[aQ];rw[h2];simp only[aQ];rw[h3];rfl
theorem zdO{i:Nat}{fx:FXE}{δ δ1:En}{d:D}(h:fx δ=aa (d,δ1)):zfj i fx δ=aa (.nx (δ1.set i (aa (.val d)))):=by unfold zfj;rw[h];rfl
theorem xLst_i{fs:FXA}{δ δ1:En}{ds:List D}(h:fs δ=aa (ds,δ1))(hl:ds.length<=1000):xLst fs δ=aa (.lst ds,δ1):=by unfold xLst;rw[h];simp only[aQ];rw[if_pos hl]
theorem fXRet_i{fx:FXE}{δ δ1:En}{d:D}(h:fx δ=aa (d,δ1)):ziy fx δ=aa (.rt (.val d) δ1):=by unfold ziy;rw[h];rfl
theorem pop_i(dk:List Int)(h:0<dk.length)(i:Nat){δ:En}(hi:oAt i δ=aa (.lst (dk.map .int))):∃ d:Int,xPop i δ=aa (.int d,δ.set i (aa (.obj (.lst (dk.dropLast.map .int))))):=by
 refine⟨dk[dk.length - 1],?_⟩
 unfold xPop
 rw[hi]
 simp only[aQ,lOf,am,aD,aU (show dk.length - 1<dk.length by lia),cJ,jw]
theorem alphl:("abcdefghijklmnopqrstuvwxyz" : Str).length=26:=by decide +kernel
theorem sign_ok(turn num:Int)(h:0<=turn/\turn<208)(hn:0<=num/\num<10):∃ c,zas [.int turn,.int num]=aa (.val (.str (mkS [c]))):=by
 have b1:b64 num:=zdC (by lia)
 have i0:0<=(turn+num * (1+turn / 26 % 8)) % 26:=by lia
 have i1:(turn+num * (1+turn / 26 % 8)) % 26<26:=by lia
 have ha:atI ("abcdefghijklmnopqrstuvwxyz" : Str).cps.toList ((turn+num * (1+turn / 26 % 8)) % 26)=aa (97+(aq 26).getD ((turn+num * (1+turn / 26 % 8)) % 26).toNat 0):=by
  rw[alph]
  exact zei (fun i=>97+i) 0 i0 (by simp;lia)
 refine⟨97+(aq 26).getD ((turn+num * (1+turn / 26 % 8)) % 26).toNat 0,?_⟩
 simp (disch:=omega) only[zas,zcU,stE,stN,jqc,jqa,zdK,zb9,ex2,eC,zab,aF,jqk,zcw,pI,iOf,zfH,zaf,zbu,zcY,zbi,pI0,zdL,gIxS,sOf,alphl,zaY,toN,jqe,jqf,zd2,jrc,ha,zg6]
theorem zgp(dk:List Int)(m:Option Ent)(few turn c:Int)(t:List Nat)(k:Nat)(hf:2<=few/\few<=5)(ht:0<=turn/\turn<208)(hk:k<1000)(hl:t.length<1000)(hd:k % 12=0->0<dk.length) :
  ∃ (dk':List Int) (ch:Nat) (c':Int),dk'.length=(if k % 12=0 then dk.length - 1 else dk.length) /\
  zbf [aa (.obj (.lst (dk.map .int))),m,aa (.val (.int few)),aa (.val (.int turn)),aa (.val (.str (mkS t))),aa (.val (.int c)),aa (.val (.int (0+(k:Int))))] =
  aa (.nx [aa (.obj (.lst (dk'.map .int))),m,aa (.val (.int few)),aa (.val (.int turn)),aa (.val (.str (mkS (t ++ [ch])))),aa (.val (.int c')),aa (.val (.int (0+(k:Int))))]):=by
 have key:∀ (o:Option Ent) (c:Int),∃ (ch:Nat) (c':Int),(zaT (zca 4 (ex2 zdI (zab 4) (zag [.v,.v] zas (zaa (zab 3) (zaa (ex2 zbu (zab 5) (zab 2)) zae))))) (zca 5 (ex2 zcw (zab 5) (zab 2)))) [o,m,aa (.val (.int few)),aa (.val (.int turn)),aa (.val (.str (mkS t))),aa (.val (.int c)),aa (.val (.int (0+(k:Int))))] =
   aa (.nx [o,m,aa (.val (.int few)),aa (.val (.int turn)),aa (.val (.str (mkS (t ++ [ch])))),aa (.val (.int c')),aa (.val (.int (0+(k:Int))))]):=by
  intro o c
  obtain⟨ch,hs⟩:=sign_ok turn (c % few) ht ⟨du _ (by lia),by have:=dj c (show 0<few by lia);lia⟩
  refine⟨ch,c / few,?_⟩
  have e1:ex2 zbu (zab 5) (zab 2) [o,m,aa (.val (.int few)),aa (.val (.int turn)),aa (.val (.str (mkS t))),aa (.val (.int c)),aa (.val (.int (0+(k:Int))))]=aa (.val (.int (c % few))):=zfl rfl rfl (by lia)
  refine(zbh (zex (v:=.str (mkS (t ++ [ch]))) ?_)).trans (zex (zfI rfl rfl (by lia)))
  have e2:zag [.v,.v] zas (zaa (zab 3) (zaa (ex2 zbu (zab 5) (zab 2)) zae)) [o,m,aa (.val (.int few)),aa (.val (.int turn)),aa (.val (.str (mkS t))),aa (.val (.int c)),aa (.val (.int (0+(k:Int))))]=aa (.val (.str (mkS [ch]))):=(ze5 rfl e1).trans hs
  generalize zag [.v,.v] zas (zaa (zab 3) (zaa (ex2 zbu (zab 5) (zab 2)) zae))=CC at e2 ⊢
  have hz:t.length+1<=1000000:=by lia
  simp only[ex2,zab,jqf,jqe,e2,zdI,sOf,jqa,zaJ,jqp,jqq,hz,zaY,zhB,zaf]
 have hc:tOf (ex2 gEq (ex2 zbu (zab 6) (eC (.int 12))) (eC (.int 0))) [aa (.obj (.lst (dk.map .int))),m,aa (.val (.int few)),aa (.val (.int turn)),aa (.val (.str (mkS t))),aa (.val (.int c)),aa (.val (.int (0+(k:Int))))]=aa (decide ((0+(k:Int)) % 12=0)):=eqTT (zfl rfl rfl (by decide)) rfl
 by_cases hz:k % 12=0
 ·rw[decide_eq_true (show(0+(k:Int)) % 12=0 by lia)] at hc
  obtain⟨d,hp⟩:=pop_i dk (hd hz) 0 (δ:=[aa (.obj (.lst (dk.map .int))),m,aa (.val (.int few)),aa (.val (.int turn)),aa (.val (.str (mkS t))),aa (.val (.int c)),aa (.val (.int (0+(k:Int))))]) rfl
  obtain⟨ch,c',e⟩:=key (aa (.obj (.lst (dk.dropLast.map .int)))) d
  exact⟨dk.dropLast,ch,c',by rw[if_pos hz,cL],(show zbf _=_ from zbh ((fIfT hc).trans (zdO hp))).trans e⟩
 ·rw[decide_eq_false (show ¬ (0+(k:Int)) % 12=0 by lia)] at hc
  obtain⟨ch,c',e⟩:=key (aa (.obj (.lst (dk.map .int)))) c
  exact⟨dk,ch,c',by rw[if_neg hz],(show zbf _=_ from zbh (fIfF hc)).trans e⟩
theorem zfq(dk:List Int)(many few turn:Int)(hf:2<=few/\few<=5)(ht:0<=turn/\turn<208)(h0:0<=many/\many<900)(hd:(many.toNat+11) / 12<=dk.length) :
  ∃ (dk':List Int) (t:List Nat),dk'.length=dk.length - (many.toNat+11) / 12/\t.length=many.toNat/\zaz (.lst (dk.map .int)) [.int many,.int few,.int turn]=aa (.str (mkS t),.lst (dk'.map .int)):=by
 obtain⟨δ',w1,dk',t,c,x6,h1,h2,rfl⟩:=zbP (tg:=gNm 6) (f:=zbf) (fun k δ=>∃ (dk':List Int) (t:List Nat) (c:Int) (x6:Option Ent),dk'.length=dk.length - (k+11) / 12/\t.length=k/\δ=[aa (.obj (.lst (dk'.map .int))),aa (.val (.int many)),aa (.val (.int few)),aa (.val (.int turn)),aa (.val (.str (mkS t))),aa (.val (.int c)),x6])
  ((aq many.toNat).map fun(i:Nat)=>D.int (0+(i:Int))) 0 [aa (.obj (.lst (dk.map .int))),aa (.val (.int many)),aa (.val (.int few)),aa (.val (.int turn)),aa (.val (.str (mkS []))),aa (.val (.int 0)),ab] (fun k d δ hd' hδ=>by
   obtain⟨dk',t,c,x6,e1,e2,rfl⟩:=hδ
   have hk:k<many.toNat:=by have:=(aP.mp hd').1;simpa using this
   rw[aD,bC hk] at hd'
   cases hd'
   obtain⟨dk2,ch,c',f1,f2⟩:=zgp dk' (aa (.val (.int many))) few turn c t k hf ht (by lia) (by lia) (by lia)
   refine⟨_,_,rfl,.inl f2,dk2,t ++ [ch],c',_,?_,by rw[ay,e2];rfl,rfl⟩
   rw[f1]
   split <;> lia) ⟨dk,[],0,ab,by simp,rfl,rfl⟩
 simp only[am,bz,bq] at h1 h2 w1
 refine⟨dk',t,h1,h2,?_⟩
 have hF:zck [aa (.obj (.lst (dk.map .int))),aa (.val (.int many)),aa (.val (.int few)),aa (.val (.int turn)),ab,ab,ab]=aa (.rt (.val (.str (mkS t))) [aa (.obj (.lst (dk'.map .int))),aa (.val (.int many)),aa (.val (.int few)),aa (.val (.int turn)),aa (.val (.str (mkS t))),aa (.val (.int c)),x6]):=by
  refine(show zck _=_ from zbw (v:=.str (mkS [])) rfl).trans ((zbw (v:=.int 0) rfl).trans ((forN ?_ w1).trans rfl))
  have hb:b62 many:=zcD (by lia)
  simp only[iR1,zaa,zab,jqf,jqe,zae,jqc,jqa,iOf,hb,zaf]
 unfold zaz zgR
 rw[if_pos (show [D.int many,D.int few,D.int turn].length=3 from rfl)]
 exact(congrArg (fun o=>bY o _) hF).trans rfl
theorem slip_turn(o m5:Option Ent)(few turn c:Int)(t:List Nat)(k x7 x8 x9:Option Ent)(hf:2<=few/\few<=5)(ht:0<=turn/\turn<208)(hl:t.length<1000) :
  ∃ (u:List Nat) (c':Int) (y7 y8 y9:Option Ent),u.length<=t.length+1 /\
  zbK [o,aa (.val (.str (mkS t))),aa (.val (.int few)),aa (.val (.int turn)),aa (.val (.int c)),m5,k,x7,x8,x9] =
  aa (.nx [o,aa (.val (.str (mkS u))),aa (.val (.int few)),aa (.val (.int turn)),aa (.val (.int c')),m5,k,y7,y8,y9]):=by
 have a0:0<=c % 41 % ((t.length:Int)+1):=du _ (by lia)
 have s7:ex2 zbu (ex2 zbu (zab 4) (eC (.int 41))) (ex2 zbi (eCB zaX (zaa (zab 1) zae)) (eC (.int 1))) [o,aa (.val (.str (mkS t))),aa (.val (.int few)),aa (.val (.int turn)),aa (.val (.int c)),m5,k,x7,x8,x9]=aa (.val (.int (c % 41 % ((t.length:Int)+1)))):=
  zfl (zfl rfl rfl (by decide)) (zfo (zhr rfl (zaJ t) (by lia)) rfl) (by lia)
 generalize c % 41 % ((t.length:Int)+1)=at' at a0 s7
 have s8:ex2 zbu (ex2 zcw (zab 4) (eC (.int 41))) (eC (.int 3)) [o,aa (.val (.str (mkS t))),aa (.val (.int few)),aa (.val (.int turn)),aa (.val (.int c)),m5,k,aa (.val (.int at')),x8,x9]=aa (.val (.int (c / 41 % 3))):=zfl (zfI rfl rfl (by decide)) rfl (by decide)
 have w0:c / 41 % 3=0 \/ c / 41 % 3=1 \/ c / 41 % 3=2:=by lia
 generalize c / 41 % 3=way at s8 w0
 obtain⟨ch,hs⟩:=sign_ok turn (c / 123 % few) ht ⟨du _ (by lia),by have:=dj (c / 123) (show 0<few by lia);lia⟩
 have e2:zag [.v,.v] zas (zaa (zab 3) (zaa (ex2 zbu (ex2 zcw (zab 4) (eC (.int 123))) (zab 2)) zae)) [o,aa (.val (.str (mkS t))),aa (.val (.int few)),aa (.val (.int turn)),aa (.val (.int c)),m5,k,aa (.val (.int at')),aa (.val (.int way)),x9]=aa (.val (.str (mkS [ch]))):=(ze5 rfl (zfl (zfI rfl rfl (by decide)) rfl (by lia))).trans hs
 obtain⟨sg,hsg,s9⟩:∃ sg:List Nat,sg.length<=1/\ex2 zcR (zcg (zaa (zag [.v,.v] zas (zaa (zab 3) (zaa (ex2 zbu (ex2 zcw (zab 4) (eC (.int 123))) (zab 2)) zae))) (zaa (eC (.str "")) (zaa (zag [.v,.v] zas (zaa (zab 3) (zaa (ex2 zbu (ex2 zcw (zab 4) (eC (.int 123))) (zab 2)) zae))) zae)))) (zab 8) [o,aa (.val (.str (mkS t))),aa (.val (.int few)),aa (.val (.int turn)),aa (.val (.int c)),m5,k,aa (.val (.int at')),aa (.val (.int way)),x9]=aa (.val (.str (mkS sg))):=by
  generalize zag [.v,.v] zas (zaa (zab 3) (zaa (ex2 zbu (ex2 zcw (zab 4) (eC (.int 123))) (zab 2)) zae))=CC at e2 ⊢
  have hE:(zcg (zaa CC (zaa (eC (.str "")) (zaa CC zae)))) [o,aa (.val (.str (mkS t))),aa (.val (.int few)),aa (.val (.int turn)),aa (.val (.int c)),m5,k,aa (.val (.int at')),aa (.val (.int way)),x9]=aa (.own [.str (mkS [ch]),.str (mkS []),.str (mkS [ch])]):=by
   unfold zcg zaa zae;rw[e2];rfl
  rcases w0 with rfl | rfl | rfl
  ·exact⟨[ch],by simp,ixLO hE rfl rfl⟩
  ·exact⟨[],by simp,ixLO hE rfl rfl⟩
  ·exact⟨[ch],by simp,ixLO hE rfl rfl⟩
 obtain⟨j,hj,sj⟩:∃ j:Int,0<=j/\ex2 zbi (zab 7) (eCB zcV (zaa (ex2 gGt (zab 8) (eC (.int 0))) zae)) [o,aa (.val (.str (mkS t))),aa (.val (.int few)),aa (.val (.int turn)),aa (.val (.int c)),m5,k,aa (.val (.int at')),aa (.val (.int way)),aa (.val (.str (mkS sg)))]=aa (.val (.int (at'+j))):=by
  by_cases hw:way > 0
  ·exact⟨1,by decide,by simp only[ex2,zab,jqf,jqe,eCB,zaa,eC,gGt,pI0,iOf,jqa,jqc,hw,jqy,zae,zcV,jra,zbi]⟩
  ·exact⟨0,by decide,by simp only[ex2,zab,jqf,jqe,eCB,zaa,eC,gGt,pI0,iOf,jqa,jqc,hw,jqz,zae,zcV,jqr,jrb,zbi]⟩
 have s1:ex2 zdI (ex2 zdI (eSl zdu (zab 1) oNo (oSo (zab 7))) (zab 9)) (eSl zdu (zab 1) (oSo (ex2 zbi (zab 7) (eCB zcV (zaa (ex2 gGt (zab 8) (eC (.int 0))) zae)))) oNo) [o,aa (.val (.str (mkS t))),aa (.val (.int few)),aa (.val (.int turn)),aa (.val (.int c)),m5,k,aa (.val (.int at')),aa (.val (.int way)),aa (.val (.str (mkS sg)))] =
   aa (.val (.str (mkS ((t.take at'.toNat ++ sg) ++ t.drop (at'+j).toNat)))):=by
  generalize ex2 zbi (zab 7) (eCB zcV (zaa (ex2 gGt (zab 8) (eC (.int 0))) zae))=JJ at sj ⊢
  have c1:=zeB t a0
  have c2:=ziz t (show 0<=at'+j by lia)
  have z0:t.length<=1000000:=by lia
  have z1:(t.take at'.toNat).length+sg.length<=1000000:=by rw[bB];lia
  have z2:(t.take at'.toNat ++ sg).length+(t.drop (at'+j).toNat).length<=1000000:=by rw[ay,bB,cY];lia
  simp only[ex2,eSl,zab,jqf,jqe,oNo,oSo,jqa,iOf,jqc,zdu,sOf,zaJ,z0,zaY,zda,c1,zaf,zdI,z1,zhB,sj,c2,z2]
 have hb:0<123 * few/\123 * few<1000000:=by lia
 have b1:b64 few:=zdC (by lia)
 have s4:ex2 zcw (zab 4) (ex2 zdL (eC (.int 123)) (zab 2)) [o,aa (.val (.str (mkS ((t.take at'.toNat ++ sg) ++ t.drop (at'+j).toNat)))),aa (.val (.int few)),aa (.val (.int turn)),aa (.val (.int c)),m5,k,aa (.val (.int at')),aa (.val (.int way)),aa (.val (.str (mkS sg)))]=aa (.val (.int (c / (123 * few)))):=zfI rfl (by simp (disch:=omega) only[ex2,eC,zab,jqf,jqe,zdL,pI,iOf,jqa,zd2,jrc,zaf]) hb
 refine⟨(t.take at'.toNat ++ sg) ++ t.drop (at'+j).toNat,_,_,_,_,?_,(show zbK _=_ from zbh (zex s7)).trans ((zbh (zex s8)).trans ((zbh (zex s9)).trans ((zbh (zex s1)).trans (zex s4))))⟩
 rw[ay,ay,bB,cY]
 lia
theorem ziT(dk:List Int)(t:List Nat)(few turn:Int)(hf:2<=few/\few<=5)(ht:0<=turn/\turn<208)(hl:t.length<900)(hd:0<dk.length) :
  ∃ u:List Nat,u.length<=t.length+3/\zaU (.lst (dk.map .int)) [.str (mkS t),.int few,.int turn]=aa (.str (mkS u),.lst (dk.dropLast.map .int)):=by
 obtain⟨d,hp⟩:=pop_i dk hd 0 (δ:=[aa (.obj (.lst (dk.map .int))),aa (.val (.str (mkS t))),aa (.val (.int few)),aa (.val (.int turn)),ab,ab,ab,ab,ab,ab]) rfl
 have r0:0<=d % 4/\d % 4<4:=by lia
 obtain⟨δ',w1,u,c,x6,x7,x8,x9,h1,rfl⟩:=zbP (tg:=gNm 6) (f:=zbK) (fun k δ=>∃ (u:List Nat) (c:Int) (x6 x7 x8 x9:Option Ent),u.length<=t.length+k/\δ=[aa (.obj (.lst (dk.dropLast.map .int))),aa (.val (.str (mkS u))),aa (.val (.int few)),aa (.val (.int turn)),aa (.val (.int c)),aa (.val (.int (d % 4))),x6,x7,x8,x9])
  ((aq (d % 4).toNat).map fun(i:Nat)=>D.int (0+(i:Int))) 0 [aa (.obj (.lst (dk.dropLast.map .int))),aa (.val (.str (mkS t))),aa (.val (.int few)),aa (.val (.int turn)),aa (.val (.int (d / 4))),aa (.val (.int (d % 4))),ab,ab,ab,ab] (fun k d' δ hd' hδ=>by
   obtain⟨u,c,x6,x7,x8,x9,e1,rfl⟩:=hδ
   have hk:k<(d % 4).toNat:=by have:=(aP.mp hd').1;simpa using this
   obtain⟨v,c',y7,y8,y9,f1,f2⟩:=slip_turn (aa (.obj (.lst (dk.dropLast.map .int)))) (aa (.val (.int (d % 4)))) few turn c u (aa (.val d')) x7 x8 x9 hf ht (by lia)
   exact⟨_,_,rfl,.inl f2,v,c',_,y7,y8,y9,by lia,rfl⟩) ⟨t,d / 4,ab,ab,ab,ab,by lia,rfl⟩
 simp only[am,bz,bq] at h1 w1
 refine⟨u,by lia,?_⟩
 have hF:zci [aa (.obj (.lst (dk.map .int))),aa (.val (.str (mkS t))),aa (.val (.int few)),aa (.val (.int turn)),ab,ab,ab,ab,ab,ab]=aa (.rt (.val (.str (mkS u))) [aa (.obj (.lst (dk.dropLast.map .int))),aa (.val (.str (mkS u))),aa (.val (.int few)),aa (.val (.int turn)),aa (.val (.int c)),aa (.val (.int (d % 4))),x6,x7,x8,x9]):=by
  refine(show zci _=_ from zbh (zdO hp)).trans ((zbw (v:=.int (d % 4)) (zfl rfl rfl (by decide))).trans ((zbw (v:=.int (d / 4)) (zfI rfl rfl (by decide))).trans ((forN ?_ w1).trans rfl)))
  have hb:b62 (d % 4):=zcD (by lia)
  simp only[iR1,zaa,zab,jqf,jqe,zae,jqc,jqa,iOf,hb,zaf]
 unfold zaU zgR
 rw[if_pos (show [D.str (mkS t),D.int few,D.int turn].length=3 from rfl)]
 exact(congrArg (fun o=>bY o _) hF).trans rfl
theorem zgb(dk:List Int)(n few turn:Int)(c1 x4 x5 x6 x7:Option Ent)(hf:2<=few/\few<=5)(ht:0<=turn/\turn<208)(hn:0<n/\n<=16)(hd:3<=dk.length) :
  ∃ (dk':List Int) (t:List Nat),dk.length<=dk'.length+3/\(n<=13->dk.length<=dk'.length+2)/\t.length<16/\xCO 0 zaz (zbx (x2 zbu (xPop 0) (xP (eC (.int n)))) (zbx (xP (zab 2)) (zbx (xP (zab 3)) zg5))) [aa (.obj (.lst (dk.map .int))),c1,aa (.val (.int few)),aa (.val (.int turn)),x4,x5,x6,x7] =
   aa (.str (mkS t),[aa (.obj (.lst (dk'.map .int))),c1,aa (.val (.int few)),aa (.val (.int turn)),x4,x5,x6,x7]):=by
 obtain⟨d,hp⟩:=pop_i dk (by lia) 0 (δ:=[aa (.obj (.lst (dk.map .int))),c1,aa (.val (.int few)),aa (.val (.int turn)),x4,x5,x6,x7]) rfl
 have m0:0<=d % n:=du _ (by lia)
 have m1:d % n<n:=dj _ (by lia)
 have hm:zbu (.val (.int d)) (.val (.int n))=aa (.val (.int (d % n))):=by simp (disch:=omega) only[zbu,pI,iOf,jqa,zcY,zaf]
 have hdl:dk.dropLast.length=dk.length - 1:=cL
 obtain⟨dk',t,h1,h2,h3⟩:=zfq dk.dropLast (d % n) few turn hf ht (by lia) (by lia)
 refine⟨dk',t,by lia,by lia,by lia,?_⟩
 exact(xCO_i (i:=0) (δ1:=[aa (.obj (.lst (dk.dropLast.map .int))),c1,aa (.val (.int few)),aa (.val (.int turn)),x4,x5,x6,x7]) (o0:=.lst (dk.map .int)) rfl (ziY (x2_i hp (ziv rfl) hm) (ziY (ziv rfl) (ziY (ziv rfl) rfl))) rfl h3).trans rfl
theorem zhX(dk:List Int)(t:List Nat)(few turn:Int)(c1 x4 x5 x7:Option Ent)(hf:2<=few/\few<=5)(ht:0<=turn/\turn<208)(hl:t.length<900)(hd:0<dk.length) :
  ∃ u:List Nat,u.length<=t.length+3/\xCO 0 zaU (zbx (xP (zab 6)) (zbx (xP (zab 2)) (zbx (xP (zab 3)) zg5))) [aa (.obj (.lst (dk.map .int))),c1,aa (.val (.int few)),aa (.val (.int turn)),x4,x5,aa (.val (.str (mkS t))),x7] =
   aa (.str (mkS u),[aa (.obj (.lst (dk.dropLast.map .int))),c1,aa (.val (.int few)),aa (.val (.int turn)),x4,x5,aa (.val (.str (mkS t))),x7]):=by
 obtain⟨u,h1,h2⟩:=ziT dk t few turn hf ht hl hd
 exact⟨u,h1,(xCO_i (i:=0) (δ1:=[aa (.obj (.lst (dk.map .int))),c1,aa (.val (.int few)),aa (.val (.int turn)),x4,x5,aa (.val (.str (mkS t))),x7]) (o0:=.lst (dk.map .int)) rfl (ziY (ziv rfl) (ziY (ziv rfl) (ziY (ziv rfl) rfl))) rfl h2).trans rfl⟩
theorem addS(a b:List Nat)(h:a.length+b.length<=1000000):zdI (.val (.str (mkS a))) (.val (.str (mkS b)))=aa (.val (.str (mkS (a ++ b)))):=by
 simp only[zdI,sOf,jqa,zaJ,h,zaY,zhB,zaf]
theorem zh9(a b c i:Int)(h:0<=i/\i<3):∃ m,(m=a \/ m=b \/ m=c)/\atI [D.int a,D.int b,D.int c] i=aa (.int m):=by
 have:i=0 \/ i=1 \/ i=2:=by lia
 rcases this with rfl | rfl | rfl
 ·exact⟨a,.inl rfl,rfl⟩
 ·exact⟨b,.inr (.inl rfl),rfl⟩
 ·exact⟨c,.inr (.inr rfl),rfl⟩
theorem lst3{A B C:FE}{δ:En}{a b c:D}(hA:A δ=aa (.val a))(hB:B δ=aa (.val b))(hC:C δ=aa (.val c)):zcg (zaa A (zaa B (zaa C zae))) δ=aa (.own [a,b,c]):=by
 unfold zcg zaa zae;rw[hA];simp only[aQ];rw[hB];simp only[aQ];rw[hC];rfl
theorem divB7{E F:FE}{δ:En}{a b:Int}(h1:E δ=aa (.val (.int a)))(h2:F δ=aa (.val (.int b)))(hb:0<b/\b<1000000000):ex2 zcw E F δ=aa (.val (.int (a / b))):=by simp (disch:=omega) only[ex2,h1,h2,zcw,pI,iOf,jqa,zfH,zaf]
theorem case_ok(dk:List Int)(hd:dk.length=30):∃ (dk':List Int) (w t:List Nat) (m:Int),1<=dk'.length/\w.length<=40/\0<=m/\m<=40/\t.length<=300/\zbV (.lst (dk.map .int)) []=aa (.lst [.str (mkS w),.int m,.str (mkS t)],.lst (dk'.map .int)):=by
 obtain⟨c,hp⟩:=pop_i dk (by lia) 0 (δ:=[aa (.obj (.lst (dk.map .int))),ab,ab,ab,ab,ab,ab,ab]) rfl
 have hd1:dk.dropLast.length=29:=by rw[cL,hd]
 generalize dk.dropLast=d1 at hp hd1
 have hf:2<=2+c % 4/\2+c % 4<=5:=by lia
 have ht:0<=c / 4 % 208/\c / 4 % 208<208:=by lia
 obtain⟨lg,hlg,alg⟩:=zh9 (c / 832 % 13) (c / 832 % 7) (c / 832 % 41) (c / 40000 % 8 / 3) (by lia)
 obtain⟨ms,hms,ams⟩:=zh9 (c / 400000 % 4) (c / 400000 % 7) (c / 400000 % 41) (c / 20000000 % 6 / 2) (by lia)
 have hlg':0<=lg/\lg<=40:=by lia
 have hms':0<=ms/\ms<=40:=by lia
 have s2:ex2 zbi (eC (.int 2)) (ex2 zbu (zab 1) (eC (.int 4))) [aa (.obj (.lst (d1.map .int))),aa (.val (.int c)),ab,ab,ab,ab,ab,ab]=aa (.val (.int (2+c % 4))):=zfo rfl (zfl rfl rfl (by decide))
 generalize 2+c % 4=few at hf s2
 have s3:ex2 zbu (ex2 zcw (zab 1) (eC (.int 4))) (eC (.int 208)) [aa (.obj (.lst (d1.map .int))),aa (.val (.int c)),aa (.val (.int few)),ab,ab,ab,ab,ab]=aa (.val (.int (c / 4 % 208))):=zfl (zfI rfl rfl (by decide)) rfl (by decide)
 generalize c / 4 % 208=turn at ht s3
 have s4:ex2 zcR (zcg (zaa (ex2 zbu (ex2 zcw (zab 1) (eC (.int 832))) (eC (.int 13))) (zaa (ex2 zbu (ex2 zcw (zab 1) (eC (.int 832))) (eC (.int 7))) (zaa (ex2 zbu (ex2 zcw (zab 1) (eC (.int 832))) (eC (.int 41))) zae)))) (ex2 zcw (ex2 zbu (ex2 zcw (zab 1) (eC (.int 40000))) (eC (.int 8))) (eC (.int 3))) [aa (.obj (.lst (d1.map .int))),aa (.val (.int c)),aa (.val (.int few)),aa (.val (.int turn)),ab,ab,ab,ab]=aa (.val (.int lg)):=
  ixLO (lst3 (zfl (zfI rfl rfl (by decide)) rfl (by decide)) (zfl (zfI rfl rfl (by decide)) rfl (by decide)) (zfl (zfI rfl rfl (by decide)) rfl (by decide))) (zfI (zfl (zfI rfl rfl (by decide)) rfl (by decide)) rfl (by decide)) alg
 have s5:ex2 zcR (zcg (zaa (ex2 zbu (ex2 zcw (zab 1) (eC (.int 400000))) (eC (.int 4))) (zaa (ex2 zbu (ex2 zcw (zab 1) (eC (.int 400000))) (eC (.int 7))) (zaa (ex2 zbu (ex2 zcw (zab 1) (eC (.int 400000))) (eC (.int 41))) zae)))) (ex2 zcw (ex2 zbu (ex2 zcw (zab 1) (eC (.int 20000000))) (eC (.int 6))) (eC (.int 2))) [aa (.obj (.lst (d1.map .int))),aa (.val (.int c)),aa (.val (.int few)),aa (.val (.int turn)),aa (.val (.int lg)),ab,ab,ab]=aa (.val (.int ms)):=
  ixLO (lst3 (zfl (zfI rfl rfl (by decide)) rfl (by decide)) (zfl (zfI rfl rfl (by decide)) rfl (by decide)) (zfl (zfI rfl rfl (by decide)) rfl (by decide))) (zfI (zfl (divB7 rfl rfl (by decide)) rfl (by decide)) rfl (by decide)) ams
 obtain⟨d2,w,w1,w2,w3⟩:=zfq d1 lg few turn hf ht (by lia) (by lia)
 have s6:xCO 0 zaz (zbx (xP (zab 4)) (zbx (xP (zab 2)) (zbx (xP (zab 3)) zg5))) [aa (.obj (.lst (d1.map .int))),aa (.val (.int c)),aa (.val (.int few)),aa (.val (.int turn)),aa (.val (.int lg)),aa (.val (.int ms)),ab,ab]=aa (.str (mkS w),[aa (.obj (.lst (d2.map .int))),aa (.val (.int c)),aa (.val (.int few)),aa (.val (.int turn)),aa (.val (.int lg)),aa (.val (.int ms)),ab,ab]):=
  (xCO_i (i:=0) (δ1:=[aa (.obj (.lst (d1.map .int))),aa (.val (.int c)),aa (.val (.int few)),aa (.val (.int turn)),aa (.val (.int lg)),aa (.val (.int ms)),ab,ab]) (o0:=.lst (d1.map .int)) rfl (ziY (ziv rfl) (ziY (ziv rfl) (ziY (ziv rfl) rfl))) rfl w3).trans rfl
 have hd2:25<=d2.length:=by lia
 obtain⟨d3,t1,p1,_,p2,p3⟩:=zgb d2 16 few turn (aa (.val (.int c))) (aa (.val (.int lg))) (aa (.val (.int ms))) (aa (.val (.str (mkS w)))) ab hf ht (by decide) (by lia)
 obtain⟨u1,q1,q2⟩:=zhX d3 w few turn (aa (.val (.int c))) (aa (.val (.int lg))) (aa (.val (.int ms))) ab hf ht (by lia) (by lia)
 have l3:d3.dropLast.length=d3.length - 1:=cL
 have s7:=x2_i p3 q2 (addS t1 u1 (by lia))
 generalize d3.dropLast=d4 at l3 q2 s7
 obtain⟨tx,htx⟩:∃ tx,tx=t1 ++ u1:=⟨_,rfl⟩
 have ltx:tx.length<=15+43:=by rw[htx,ay];lia
 rw[<- htx] at s7
 obtain⟨d5,t2,p4,_,p5,p6⟩:=zgb d4 12 few turn (aa (.val (.int c))) (aa (.val (.int lg))) (aa (.val (.int ms))) (aa (.val (.str (mkS w)))) (aa (.val (.str (mkS tx)))) hf ht (by decide) (by lia)
 obtain⟨u2,q3,q4⟩:=zhX d5 w few turn (aa (.val (.int c))) (aa (.val (.int lg))) (aa (.val (.int ms))) (aa (.val (.str (mkS tx)))) hf ht (by lia) (by lia)
 have l5:d5.dropLast.length=d5.length - 1:=cL
 generalize d5.dropLast=d6 at l5 q4
 have s8:xSl zdu (xCO 0 zaU (zbx (xP (zab 6)) (zbx (xP (zab 2)) (zbx (xP (zab 3)) zg5)))) xoNo (xoSo (xP (eC (.int 20)))) [aa (.obj (.lst (d5.map .int))),aa (.val (.int c)),aa (.val (.int few)),aa (.val (.int turn)),aa (.val (.int lg)),aa (.val (.int ms)),aa (.val (.str (mkS w))),aa (.val (.str (mkS tx)))] =
   aa (.str (mkS (u2.take 20)),[aa (.obj (.lst (d6.map .int))),aa (.val (.int c)),aa (.val (.int few)),aa (.val (.int turn)),aa (.val (.int lg)),aa (.val (.int ms)),aa (.val (.str (mkS w))),aa (.val (.str (mkS tx)))]):=by
  have hz:u2.length<=1000000:=by lia
  have hc:zbI u2 ab (aa 20)=u2.take 20:=zeB u2 (by decide)
  have hg:zdu (.val (.str (mkS u2))) ab (aa 20)=aa (.val (.str (mkS (u2.take 20)))):=by simp only[zdu,sOf,jqa,zaJ,hz,zaY,zda,hc,zaf]
  unfold xSl
  rw[q4]
  simp only[aQ,xoNo,xoSo,ziv (show eC (.int 20) _=aa (.val (.int 20)) from rfl),iOfD,cJ,hg,asV]
 have s9:=x2_i (x2_i (ziv (fe:=zab 7) rfl) p6 (addS tx t2 (by lia))) s8 (addS (tx ++ t2) (u2.take 20) (by rw[ay,bB];lia))
 obtain⟨ty,hty⟩:∃ ty,ty=tx ++ t2 ++ u2.take 20:=⟨_,rfl⟩
 have lty:ty.length<=15+43+15+20:=by rw[hty,ay,ay,bB];lia
 rw[<- hty] at s9
 obtain⟨d7,t3,p7,_,p8,p9⟩:=zgb d6 9 few turn (aa (.val (.int c))) (aa (.val (.int lg))) (aa (.val (.int ms))) (aa (.val (.str (mkS w)))) (aa (.val (.str (mkS ty)))) hf ht (by decide) (by lia)
 have s10:=x2_i (ziv (fe:=zab 7) rfl) p9 (addS ty t3 (by lia))
 refine⟨d7,w,ty ++ t3,ms,by lia,by lia,by lia,by lia,by rw[ay];lia,?_⟩
 have s11:=ziY (ziv (fe:=zab 6) (δ:=[aa (.obj (.lst (d6.map .int))),aa (.val (.int c)),aa (.val (.int few)),aa (.val (.int turn)),aa (.val (.int lg)),aa (.val (.int ms)),aa (.val (.str (mkS w))),aa (.val (.str (mkS ty)))]) (d:=.str (mkS w)) rfl) (ziY (ziv (fe:=zab 5) (d:=.int ms) rfl) (ziY s10 (show zg5 _=aa ([],_) from rfl)))
 have hF:zc3 [aa (.obj (.lst (dk.map .int))),ab,ab,ab,ab,ab,ab,ab]=aa (.rt (.val (.lst [.str (mkS w),.int ms,.str (mkS (ty ++ t3))])) [aa (.obj (.lst (d7.map .int))),aa (.val (.int c)),aa (.val (.int few)),aa (.val (.int turn)),aa (.val (.int lg)),aa (.val (.int ms)),aa (.val (.str (mkS w))),aa (.val (.str (mkS ty)))]):=by
  refine(show zc3 _=_ from zbh (zdO hp)).trans ((show zdx _=_ from zbw s2).trans ((show zdD _=_ from zbw s3).trans ((show zdw _=_ from zbw s4).trans ((show zdE _=_ from zbw s5).trans ((show zdB _=_ from zbh (zdO s6)).trans ((show zdG _=_ from zbh (zdO s7)).trans ((show zdv _=_ from zbh (zdO s9)).trans ?_)))))))
  exact fXRet_i (xLst_i s11 (by simp))
 unfold zbV zgR
 rw[if_pos (show([]:List D).length=0 from rfl)]
 exact(congrArg (fun o=>bY o _) hF).trans rfl
def prD(p:Int × Int):D:=.tup [.int p.1,.int p.2]
def jst(acc:List (Int × Int))(p:Int × Int):List (Int × Int):=match acc.getLast? with
 | some l=>if p.1<=l.2 then acc.dropLast ++ [(l.1,if p.2 > l.2 then p.2 else l.2)] else acc ++ [p]
 | none=>acc ++ [p]
def jnd(ps:List (Int × Int)):List (Int × Int):=ps.foldl jst []
theorem set_last{α:Type}{xs:List α}{x y:α}(h:xs.getLast? = aa x):xs.set (xs.length - 1) y=xs.dropLast ++ [y]:=by
 obtain⟨ys,rfl⟩:=gQ.mp h
 rw[iR,ay,cy,dS,iK _ _ (ak _),jd]
 rfl
theorem ixN_m1{n:Nat}(h:0<n):ixN n (-1)=aa (n - 1):=by
 unfold ixN
 rw[if_neg (by decide),if_pos (by lia),show(-1+(n:Int)).toNat=n - 1 by lia]
theorem jst_len(acc:List (Int × Int))(p:Int × Int):(jst acc p).length<=acc.length+1:=by
 unfold jst
 split
 ·split
  ·rw[ay,cL,cy];lia
  ·rw[ay,cy];exact ak _
 ·rw[ay,cy];exact ak _
theorem sIx_i{i:Nat}{fi fe:FE}{δ:En}{ds:List D}{d:D}{k:Int}{j:Nat}(h0:δ[i]? = aa (aa (.own ds)))(h1:fe δ=aa (.val d))(h2:fi δ=aa (.val (.int k)))(h3:ixN ds.length k=aa j):fSIx i fi fe δ=aa (.nx (δ.set i (aa (.own (ds.set j d))))):=by
 unfold fSIx
 rw[h0]
 show((fe δ).bind asV).bind _=_
 rw[h1,h2]
 simp only[aQ,asV,iOf,h3,cJ]
theorem andI{X Y:FT}{δ:En}{a b:Bool}(hX:X δ=aa a)(hY:a=true->Y δ=aa b):fAnd X Y δ=aa (a && b):=by
 cases a with
 | false=>unfold fAnd;rw[hX];rfl
 | true=>unfold fAnd;rw[hX];exact hY rfl
theorem tup2{A B:FE}{δ:En}{a b:D}(hA:A δ=aa (.val a))(hB:B δ=aa (.val b)):zeA (zaa A (zaa B zae)) δ=aa (.val (.tup [a,b])):=by
 unfold zeA zaa zae;rw[hA];simp only[aQ];rw[hB];rfl
theorem max2{A B:FE}{δ:En}{a b:Int}(hA:A δ=aa (.val (.int a)))(hB:B δ=aa (.val (.int b))):eCB zgz (zaa A (zaa B zae)) δ=aa (.val (.int (if b > a then b else a))):=by
 unfold eCB zaa zae;rw[hA];simp only[aQ];rw[hB];rfl
theorem leII{E F:FE}{δ:En}{a b:Int}(h1:E δ=aa (.val (.int a)))(h2:F δ=aa (.val (.int b))):tOf (ex2 gLe E F) δ=aa (decide (a<=b)):=by by_cases e:a<=b <;> simp only[tOf,ex2,h1,h2,gLe,pI0,iOf,jqa,jqc,e,jqy,bOf,jqz]
theorem geII{E F:FE}{δ:En}{a b:Int}(h1:E δ=aa (.val (.int a)))(h2:F δ=aa (.val (.int b))):tOf (ex2 gGe E F) δ=aa (decide (a ≥ b)):=by by_cases e:a ≥ b <;> simp only[tOf,ex2,h1,h2,gGe,pI0,iOf,jqa,jqc,e,jqy,bOf,jqz]
theorem jst_body{C:FT}{V:FE}{s:Option Ent}{acc:List (Int × Int)}{p:Int × Int}(hl:acc.length<100000)
  (hC:C [s,aa (.own (acc.map prD)),aa (.val (.int p.1)),aa (.val (.int p.2))]=aa (match acc.getLast? with | some l=>decide (p.1<=l.2) | none=>false))
  (hV:∀ l,acc.getLast? = aa l->V [s,aa (.own (acc.map prD)),aa (.val (.int p.1)),aa (.val (.int p.2))]=aa (.val (prD (l.1,if p.2 > l.2 then p.2 else l.2)))) :
  (fIf C (fSIx 1 (ex1 zgi (eC (.int 1))) V) (zgk 1 (zeA (zaa (zab 2) (zaa (zab 3) zae))))) [s,aa (.own (acc.map prD)),aa (.val (.int p.1)),aa (.val (.int p.2))] =
  aa (.nx [s,aa (.own ((jst acc p).map prD)),aa (.val (.int p.1)),aa (.val (.int p.2))]):=by
 have ap:(zgk 1 (zeA (zaa (zab 2) (zaa (zab 3) zae)))) [s,aa (.own (acc.map prD)),aa (.val (.int p.1)),aa (.val (.int p.2))]=aa (.nx [s,aa (.own ((acc ++ [p]).map prD)),aa (.val (.int p.1)),aa (.val (.int p.2))]):=by
  rw[bM]
  exact zhk rfl (tup2 rfl rfl) (by rw[am];lia)
 cases q:acc.getLast? with
 | none=>
  rw[q] at hC
  rw[fIfF hC,ap]
  unfold jst
  rw[q]
 | some l=>
  rw[q] at hC
  have hpos:0<acc.length:=by cases acc with
   | nil=>cases q
   | cons _ _=>simp
  by_cases hb:p.1<=l.2
  ·rw[show(match aa l with | some l=>decide (p.1<=l.2) | none=>false)=true from decide_eq_true hb] at hC
   rw[fIfT hC]
   refine(sIx_i (k:=-1) rfl (hV l q) rfl (ixN_m1 (by rw[am];exact hpos))).trans ?_
   have e:jst acc p=acc.dropLast ++ [(l.1,if p.2 > l.2 then p.2 else l.2)]:=by unfold jst;rw[q];exact if_pos hb
   have hq:(acc.map prD).getLast? = aa (prD l):=by rw[jx,q];rfl
   rw[set_last hq,e,bM,jw]
   rfl
  ·rw[show(match aa l with | some l=>decide (p.1<=l.2) | none=>false)=false from decide_eq_false hb] at hC
   rw[fIfF hC,ap]
   have e:jst acc p=acc ++ [p]:=by unfold jst;rw[q];exact if_neg hb
   rw[e]
theorem last_at{acc:List (Int × Int)}{l:Int × Int}(h:acc.getLast? = aa l):atI (acc.map prD) (-1)=aa (prD l):=atI_m1 (by rw[jx,h];rfl)
theorem last_i{s a b:Option Ent}{acc:List (Int × Int)}{l:Int × Int}(h:acc.getLast? = aa l):ex2 zcR (zab 1) (ex1 zgi (eC (.int 1))) [s,aa (.own (acc.map prD)),a,b]=aa (.val (prD l)):=ixLW rfl rfl (last_at h)
theorem zhh(s:Option Ent)(acc:List (Int × Int))(p:Int × Int)(hl:acc.length<100000) :
  ze3 [s,aa (.own (acc.map prD)),aa (.val (.int p.1)),aa (.val (.int p.2))]=aa (.nx [s,aa (.own ((jst acc p).map prD)),aa (.val (.int p.1)),aa (.val (.int p.2))]):=by
 refine jst_body hl ?_ fun l h=>tup2 (ixTT (last_i h) rfl rfl) (max2 (ixTT (last_i h) rfl rfl) rfl)
 have e1:eCB zb2 (zaa (zab 1) zae) [s,aa (.own (acc.map prD)),aa (.val (.int p.1)),aa (.val (.int p.2))]=aa (.val (.int (acc.length:Int))):=by simp only[eCB,zaa,zab,jqf,jqe,zae,jqc,jqa,zb2,zez,asL,am]
 have e2:tOf (ex2 gGt (eCB zb2 (zaa (zab 1) zae)) (eC (.int 0))) [s,aa (.own (acc.map prD)),aa (.val (.int p.1)),aa (.val (.int p.2))]=aa (decide (acc.length > 0)):=by
  generalize eCB zb2 (zaa (zab 1) zae)=EE at e1 ⊢
  by_cases h:acc.length > 0
  ·simp only[tOf,ex2,e1,eC,gGt,pI0,iOf,jqa,jqc,show(acc.length:Int) > 0 by lia,jqy,bOf,h]
  ·simp only[tOf,ex2,e1,eC,gGt,pI0,iOf,jqa,jqc,show ¬(acc.length:Int) > 0 by lia,jqz,bOf,h]
 cases q:acc.getLast? with
 | none=>
  have:acc=[]:=gR.mp q
  subst this
  exact andI (b:=false) e2 fun h=>by simp at h
 | some l=>
  have hpos:acc.length > 0:=by cases acc with
   | nil=>cases q
   | cons _ _=>simp
  rw[decide_eq_true hpos] at e2
  exact andI (b:=decide (p.1<=l.2)) e2 fun _=>leII rfl (ixTT (last_i q) rfl rfl)
theorem jloop{f:FS}(hf:∀ (s:Option Ent) (acc:List (Int × Int)) (p:Int × Int),acc.length<100000->f [s,aa (.own (acc.map prD)),aa (.val (.int p.1)),aa (.val (.int p.2))]=aa (.nx [s,aa (.own ((jst acc p).map prD)),aa (.val (.int p.1)),aa (.val (.int p.2))])) :
  ∀ (ps:List (Int × Int)) (s:Option Ent) (acc:List (Int × Int)) (a b:Option Ent),acc.length+ps.length<100000->∃ a' b',loop (gTp (zba (gNm 2) (zba (gNm 3) zdZ))) f (ps.map prD) [s,aa (.own (acc.map prD)),a,b]=aa (.nx [s,aa (.own ((ps.foldl jst acc).map prD)),a',b'])
 | [],s,acc,a,b,_=>⟨a,b,rfl⟩
 | p :: ps,s,acc,a,b,h=>by
  rw[aI] at h
  have:=jst_len acc p
  obtain⟨a',b',e⟩:=jloop hf ps s (jst acc p) (aa (.val (.int p.1))) (aa (.val (.int p.2))) (by lia)
  exact⟨a',b',(zbM rfl (hf s acc p (by lia))).trans e⟩
theorem zgD:∀ (ps acc:List (Int × Int)),(ps.foldl jst acc).length<=acc.length+ps.length
 | [],acc=>ak _
 | p :: ps,acc=>by
  have h1:=zgD ps (jst acc p)
  have h2:=jst_len acc p
  rw[cc,aI]
  lia
def prR(p:Int × Int):RwI:=[p.1,p.2]
def ofR(r:RwI):Int × Int:=(r.getD 0 0,r.getD 1 0)
def zdQ(ps:List (Int × Int)):List (Int × Int):=(srtR (ps.map prR)).map ofR
theorem rows_map(ps:List (Int × Int)):zgF (ps.map prD)=aa (ps.map prR):=by
 induction ps with
 | nil=>rfl
 | cons p ps ih=>rw[aE,zgF,ih];rfl
theorem srtP_D(ps:List (Int × Int)):(srtR (ps.map prR)).map rowD=(zdQ ps).map prD:=by
 unfold zdQ
 rw[db]
 refine bX fun r hr=>?_
 obtain⟨p,_,rfl⟩:=cv.mp ((zdj _).mem_iff.mp hr)
 rfl
theorem ze1(ps:List (Int × Int)):(zdQ ps).Perm ps:=by
 have h:=(zdj (ps.map prR)).map ofR
 rw[db] at h
 exact h.trans (.of_eq ((bX fun p _=>rfl).trans (iy ps)))
theorem srt_g{ps:List (Int × Int)}(hl:ps.length<=1000000){δ:En}{E:FE}(h:E δ=aa (.bor (ps.map prD))):iL (eCB gSrtG (zaa E zae)) δ=aa ((zdQ ps).map prD):=by
 have e:eCB gSrtG (zaa E zae) δ=aa (.own ((zdQ ps).map prD)):=by
  have hr:∀ r ∈ ps.map prR,r ≠ []:=fun r hr=>by
   obtain⟨p,_,rfl⟩:=cv.mp hr
   exact List.cons_ne_nil _ _
  have hl':(ps.map prR).length<=1000000:=by rw[am];exact hl
  unfold eCB zaa zae
  rw[h]
  simp only[aQ,gSrtG,asL,rows_map,srtP_D,cJ]
  rw[eq_true (And.intro hr hl'),zaf]
 unfold iL
 rw[e]
 rfl
theorem zgn(ps:List (Int × Int))(hl:ps.length<=90000):zdm [.lst (ps.map prD)]=aa (.val (.tup ((jnd (zdQ ps)).map prD))):=by
 have hp:=(ze1 ps).length_eq
 obtain⟨a',b',e⟩:=jloop zhh (zdQ ps) (aa (.bor (ps.map prD))) [] ab ab (by simp;lia)
 have hj:(jnd (zdQ ps)).length<=90000:=by have:=zgD (zdQ ps) [];simp at this;exact aJ this (by lia)
 have hF:zeJ [aa (.bor (ps.map prD)),ab,ab,ab]=aa (.rt (.val (.tup ((jnd (zdQ ps)).map prD))) [aa (.bor (ps.map prD)),aa (.own ((jnd (zdQ ps)).map prD)),a',b']):=by
  refine(show zeJ _=_ from zbh (zef (show zcg zae _=aa (.own []) from rfl))).trans ((forN (srt_g (by lia) rfl) e).trans (zf0 ?_))
  have hz:((jnd (zdQ ps)).map prD).length<=1000000:=by rw[am];lia
  show eCB zc4 (zaa (zab 1) zae) [aa (.bor (ps.map prD)),aa (.own ((jnd (zdQ ps)).map prD)),a',b']=_
  simp only[eCB,zaa,zab,jqf,jqe,zae,jqc,jqa,zc4,asL]
 exact(congrArg (fun o=>bY o _) hF).trans rfl
theorem whole_ok(i:Int):zbX [.int i]=aa (.val (.bl true)):=by
 have t1:("int" == "int")=true:=rfl
 have t2:("int" == "bool")=false:=rfl
 have t4:("bool" == "int")=false:=rfl
 simp only[zbX,zcU,stE,stN,jqc,jqa,zc7,zb9,eAnd,ex1,zab,aF,jqk,toN,jqe,gIsi,isiD,tyN,t1,t2,d8,iW,bOf,t4,gNot,jqu,jra,zg6]
theorem ziN(a b:Option Ent)(p:Int × Int):zb5 [a,b,aa (.val (prD p))]=aa (.nx [a,b,aa (.val (prD p))]):=by
 have t1:("tuple" == "tuple")=true:=rfl
 have i0:atI [D.int p.1,D.int p.2] 0=aa (.int p.1):=rfl
 have i1:atI [D.int p.1,D.int p.2] 1=aa (.int p.2):=rfl
 simp (decide:=true) only[zb5,fIf,fOr,fNot,tOf,ex1,zab,prD,jqf,jqe,jqa,gIsi,isiD,tyN,t1,jh,bOf,jqc,jqt,ex2,eCB,zaa,zae,zb2,zez,jqp,jqq,eC,gNe,zhe,jqy,zag,zfi,iOf,i0,zbg,zcx,asV,whole_ok,i1,jrb,zb9,toN,fNx]
theorem zfz(a b:Option Ent):∀ (ps:List (Int × Int)) (x:Option Ent),∃ x',loop (gNm 2) zb5 (ps.map prD) [a,b,x]=aa (.nx [a,b,x'])
 | [],x=>⟨x,rfl⟩
 | p :: ps,x=>by
  obtain⟨x',e⟩:=zfz a b ps (aa (.val (prD p)))
  exact⟨x',(zbM rfl (ziN a b p)).trans e⟩
theorem eqPr:∀ ps:List (Int × Int),zgV (eqD 8) (ps.map prD) (ps.map prD)=aa true
 | []=>rfl
 | p :: ps=>by
  rw[aE,zgV,eqPr ps]
  have h:eqD 8 (prD p) (prD p)=aa true:=by
   show zgV (eqD 7) [D.int p.1,D.int p.2] [D.int p.1,D.int p.2]=aa true
   have h1:∀ i:Int,eqD 7 (.int i) (.int i)=aa true:=fun i=>by
    show(if (true && true)=true then aa (i == i) else ab)=aa true
    simp only[km,if_true,beq_self_eq_true]
   simp only[zgV,h1,aQ,cJ,km]
  rw[h]
  rfl
theorem ziu(ps:List (Int × Int))(hl:ps.length<=90000):zbz [.tup (ps.map prD),.lst (ps.map prD)]=aa (.val (.bl true)):=by
 obtain⟨x',e⟩:=zfz (aa (.val (.tup (ps.map prD)))) (aa (.bor (ps.map prD))) ps ab
 have t1:("tuple" == "tuple")=true:=rfl
 have hz:(ps.map prD).length<=1000000:=by rw[am];lia
 have q:=eqPr ps
 generalize ps.map prD=L at e hz q ⊢
 simp only[zbz,zcU,stE,stN,jqc,jqa,zdc,zaT,fIf,fOr,fNot,tOf,ex1,zab,aF,ex2,eCB,zaa,zae,gNe,zhe,zb9,eC,toN,fNx,jqi,jqj,jqe,gIsi,isiD,tyN,t1,jh,bOf,jqt,zb2,zez,jqf,asL,jqy,jqr,jrb,sqO,zd1,iT,e,zdk,gEqD,sqOf,q,zg6]
theorem mulI{E F:FE}{δ:En}{a b:Int}(h1:E δ=aa (.val (.int a)))(h2:F δ=aa (.val (.int b)))(hb:b64 a):ex2 zdL E F δ=aa (.val (.int (a * b))):=by simp only[ex2,h1,h2,zdL,pI,iOf,jqa,hb,jrd,zaf]
theorem min2{A B:FE}{δ:En}{a b:Int}(hA:A δ=aa (.val (.int a)))(hB:B δ=aa (.val (.int b))):eCB zgv (zaa A (zaa B zae)) δ=aa (.val (.int (if b<a then b else a))):=by
 unfold eCB zaa zae;rw[hA];simp only[aQ];rw[hB];rfl
theorem zhP(t:List Nat)(a b:Int){A B E:FE}{δ:En}(hl:t.length<=1000000)(hE:E δ=aa (.val (.str (mkS t))))(hA:A δ=aa (.val (.int a)))(hB:B δ=aa (.val (.int b))):eSl zdu E (oSo A) (oSo B) δ=aa (.val (.str (mkS (zbI t (aa a) (aa b))))):=by
 simp only[eSl,hE,oSo,hA,jqa,iOf,jqc,hB,zdu,sOf,zaJ,hl,zaY,zda,zaf]
theorem eqS{E F:FE}{δ:En}{a b:List Nat}(h1:E δ=aa (.val (.str (mkS a))))(h2:F δ=aa (.val (.str (mkS b)))):tOf (ex2 gEq E F) δ=aa (decide (a=b)):=by
 by_cases e:a=b
 ·have e':mkS a=mkS b:=by rw[e]
  simp only[tOf,ex2,h1,e,h2,gEq,zhe,jqa,jqy,jqc,bOf]
 ·have e':¬ mkS a=mkS b:=fun q=>e (mkS_inj q)
  simp only[tOf,ex2,h1,h2,gEq,zhe,jqa,e',jqz,jqc,bOf,e]
theorem rngI{E:FE}{δ:En}{n:Nat}(h:E δ=aa (.val (.int (n:Int))))(hn:n<1000000000):iR1 (zaa E zae) δ=aa ((aq n).map fun(i:Nat)=>D.int (0+(i:Int))):=by
 have hb:b62 (n:Int):=zcD (by lia)
 have ez:((n:Int)).toNat=n:=by lia
 simp only[iR1,zaa,h,zae,jqc,jqa,iOf,hb,ez,zaf]
def pB(n:Nat)(m:Int)(i:Nat):Int:=(0+(i:Int)) * (n:Int) / (m+1)
def pE(n:Nat)(m:Int)(i:Nat):Int:=(0+(i:Int)+1) * (n:Int) / (m+1)
theorem pBE(n:Nat){m:Int}{i:Nat}(h:(i:Int)<=m):0<=pB n m i/\pB n m i<=pE n m i/\pE n m i<=n:=by
 unfold pB pE
 have hm:0<m+1:=by lia
 refine⟨Int.ediv_nonneg (j8 (by lia) (by lia)) (by lia),Int.ediv_le_ediv hm (dW (by lia) (by lia)),?_⟩
 refine Int.ediv_le_of_le_mul hm ?_
 rw[Int.mul_comm (n:Int)]
 exact dW (by lia) (by lia)
theorem cut_len(w:List Nat){b e:Int}(h0:0<=b)(h1:b<=e)(h2:e<=w.length):((zbI w (aa b) (aa e)).length:Int)=e - b:=by
 obtain⟨b,rfl⟩:=bv h0
 obtain⟨e,rfl⟩:=bv (dH h0 h1)
 unfold zbI
 rw[HT.sIx_nat,HT.sIx_nat,bB,cY]
 lia
def stnd(w t:List Nat)(b e:Int)(a:Nat):Bool:=decide (zbI t (aa (0+(a:Int))) (aa (0+(a:Int)+(e - b)))=zbI w (aa b) (aa e))
def spr(n:Nat)(m:Int)(l:Nat)(b:Int)(a:Nat):Int × Int:=(if 0 > 0+(a:Int) - b - m then 0 else 0+(a:Int) - b - m,if (l:Int)<0+(a:Int)+n - b+m then (l:Int) else 0+(a:Int)+n - b+m)
def plc(w t:List Nat)(b e:Int):List Nat:=(aq ((t.length:Int) - (e - b)+1).toNat).filter (stnd w t b e)
theorem plc_len(w t:List Nat){b e:Int}(h:b<=e):(plc w t b e).length<=t.length+1:=by
 unfold plc
 refine aJ (fU _ _) ?_
 rw[bz]
 lia
def zeT(w t:List Nat)(m:Int)(k:Nat):List (Int × Int):=(aq k).flatMap fun i=>(plc w t (pB w.length m i) (pE w.length m i)).map (spr w.length m t.length (pB w.length m i))
theorem zg3(w t:List Nat)(m:Int)(k:Nat):zeT w t m (k+1)=zeT w t m k ++ (plc w t (pB w.length m k) (pE w.length m k)).map (spr w.length m t.length (pB w.length m k)):=by
 unfold zeT
 rw[cA,eO]
 simp
theorem zgg(w t:List Nat)(m:Int)(ht:t.length<=900):∀ k:Nat,(k:Int)<=m+1->(zeT w t m k).length<=k * 901
 | 0,_=>ak _
 | k+1,h=>by
  rw[zg3,ay,am]
  have h1:=zgg w t m ht k (by lia)
  have h2:=plc_len w t (b:=pB w.length m k) (e:=pE w.length m k) (pBE w.length (by lia)).2.1
  lia
theorem places_ok(w t:List Nat)(b e:Int)(h0:0<=b)(h1:b<=e)(h2:e<=w.length)(hw:w.length<=1000)(ht:t.length<=900):zce [.str (mkS (zbI w (aa b) (aa e))),.str (mkS t)]=aa (.own ((plc w t b e).map fun(a:Nat)=>D.int (0+(a:Int)))):=by
 have hl:=cut_len w h0 h1 h2
 have hw':(zbI w (aa b) (aa e)).length<=1000:=aJ (zeH _ _ _) hw
 have hlt:∀ a:Nat,stnd w t b e a=decide (zbI t (aa (0+(a:Int))) (aa (0+(a:Int)+((zbI w (aa b) (aa e)).length:Int)))=zbI w (aa b) (aa e)):=fun a=>by rw[hl];rfl
 have hd:(plc w t b e)=(aq ((t.length:Int) - ((zbI w (aa b) (aa e)).length:Int)+1).toNat).filter (stnd w t b e):=by rw[hl];rfl
 rw[hd]
 generalize stnd w t b e=P at hlt ⊢
 generalize zbI w (aa b) (aa e)=p at hlt hw' ⊢
 have hc:∀ (es:List Nat) (δ:En),δ[0]? = aa (aa (.val (.str (mkS p))))->δ[1]? = aa (aa (.val (.str (mkS t))))->zcv (fun d=>zch (cEn [0,1] δ d)) (fun d=>zcL (cEn [0,1] δ d)) (es.map fun(i:Nat)=>D.int (0+(i:Int)))=aa ((es.filter P).map fun(a:Nat)=>D.int (0+(a:Int))):=by
  intro es δ h1 h2
  induction es with
  | nil=>rfl
  | cons a es ih=>
   have hcE:cEn [0,1] δ (D.int (0+(a:Int)))=[aa (.val (.int (0+(a:Int)))),aa (.val (.str (mkS p))),aa (.val (.str (mkS t)))]:=by
    simp only[cEn,aE,b5,h1,h2,eK,aQ,capt]
   have hT:zch [aa (.val (.int (0+(a:Int)))),aa (.val (.str (mkS p))),aa (.val (.str (mkS t)))]=aa (P a):=by
    rw[hlt]
    exact eqS (zhP t _ _ (by lia) rfl rfl (zfo rfl (zhr rfl (zaJ p) (by lia)))) rfl
   rw[aE,zcv,ih,hcE,hT]
   simp only[aQ]
   cases hP:P a with
   | true=>rw[if_pos rfl,hG hP];rfl
   | false=>rw[if_neg (by simp),hJ (by rw[hP];simp)]
 have e1:ex2 zbi (ex2 zdA (eCB zaX (zaa (zab 1) zae)) (eCB zaX (zaa (zab 0) zae))) (eC (.int 1)) [aa (.val (.str (mkS p))),aa (.val (.str (mkS t)))]=aa (.val (.int ((t.length:Int) - (p.length:Int)+1))):=zfo (zhy (zhr rfl (zaJ t) (by lia)) (zhr rfl (zaJ p) (by lia))) rfl
 have e2:iR1 (zaa (ex2 zbi (ex2 zdA (eCB zaX (zaa (zab 1) zae)) (eCB zaX (zaa (zab 0) zae))) (eC (.int 1))) zae) [aa (.val (.str (mkS p))),aa (.val (.str (mkS t)))]=aa ((aq ((t.length:Int) - (p.length:Int)+1).toNat).map fun(i:Nat)=>D.int (0+(i:Int))):=by
  have hb:b62 ((t.length:Int) - (p.length:Int)+1):=zcD (by lia)
  generalize ex2 zbi (ex2 zdA (eCB zaX (zaa (zab 1) zae)) (eCB zaX (zaa (zab 0) zae))) (eC (.int 1))=EE at e1 ⊢
  simp only[iR1,zaa,e1,zae,jqc,jqa,iOf,hb,zaf]
 have e3:=zen (fr:=[0,1]) (ft:=zch) (fe:=zcL) e2 (hc (aq ((t.length:Int) - (p.length:Int)+1).toNat) _ rfl rfl) (by
  rw[am]
  refine aJ (fU _ _) ?_
  rw[bz]
  lia)
 have hF:zdH [aa (.val (.str (mkS p))),aa (.val (.str (mkS t)))]=aa (.rt (.own (((aq ((t.length:Int) - (p.length:Int)+1).toNat).filter P).map fun(a:Nat)=>D.int (0+(a:Int)))) [aa (.val (.str (mkS p))),aa (.val (.str (mkS t)))]):=by
  show zb9 _ _=_
  unfold zb9
  rw[e3]
  rfl
 exact(congrArg (fun o=>bY o _) hF).trans rfl
theorem zhH(w t:List Nat)(m b:Int)(x4 x6:Option Ent)(hw:w.length<=1000)(ht:t.length<=900):∀ (as:List Nat) (acc:List (Int × Int)) (x7:Option Ent),acc.length+as.length<1000000->∃ y7,
  loop (gNm 7) zb3 (as.map fun(a:Nat)=>D.int (0+(a:Int))) [aa (.val (.str (mkS w))),aa (.val (.int m)),aa (.val (.str (mkS t))),aa (.own (acc.map prD)),x4,aa (.val (.int b)),x6,x7] =
  aa (.nx [aa (.val (.str (mkS w))),aa (.val (.int m)),aa (.val (.str (mkS t))),aa (.own ((acc ++ as.map (spr w.length m t.length b)).map prD)),x4,aa (.val (.int b)),x6,y7])
 | [],acc,x7,_=>⟨x7,by rw[b5,b5,bF];rfl⟩
 | a :: as,acc,x7,h=>by
  rw[aI] at h
  obtain⟨y7,e⟩:=zhH w t m b x4 x6 hw ht as (acc ++ [spr w.length m t.length b a]) (aa (.val (.int (0+(a:Int))))) (by rw[ay,cy];lia)
  refine⟨y7,(zbM rfl (show zb3 _=_ from (zhk (ds:=acc.map prD) rfl (tup2 (max2 (zhy (zhy rfl rfl) rfl) rfl) (min2 (zfo (zhy (zfo rfl (zhr rfl (zaJ w) (by lia))) rfl) rfl) (zhr rfl (zaJ t) (by lia)))) (by rw[am];lia)))).trans ?_⟩
  rw[bG] at e
  rw[show acc.map prD ++ [D.tup [.int (if 0 > 0+(a:Int) - b - m then 0 else 0+(a:Int) - b - m),.int (if (t.length:Int)<0+(a:Int)+w.length - b+m then (t.length:Int) else 0+(a:Int)+w.length - b+m)]]=(acc ++ [spr w.length m t.length b a]).map prD by rw[bM];rfl]
  exact e
theorem ziw(w t:List Nat)(m:Int)(k:Nat)(x5 x6 x7:Option Ent)(hm:0<=m/\m<=90)(hk:(k:Int)<=m)(hw:w.length<=1000)(ht:t.length<=900):∃ y5 y6 y7,
  zbv [aa (.val (.str (mkS w))),aa (.val (.int m)),aa (.val (.str (mkS t))),aa (.own ((zeT w t m k).map prD)),aa (.val (.int (0+(k:Int)))),x5,x6,x7] =
  aa (.nx [aa (.val (.str (mkS w))),aa (.val (.int m)),aa (.val (.str (mkS t))),aa (.own ((zeT w t m (k+1)).map prD)),aa (.val (.int (0+(k:Int)))),y5,y6,y7]):=by
 obtain⟨h0,h1,h2⟩:=pBE w.length hk
 have hl:=zgg w t m ht k (by lia)
 have hp:=plc_len w t h1
 have s5:ex2 zcw (ex2 zdL (zab 4) (eCB zaX (zaa (zab 0) zae))) (ex2 zbi (zab 1) (eC (.int 1))) [aa (.val (.str (mkS w))),aa (.val (.int m)),aa (.val (.str (mkS t))),aa (.own ((zeT w t m k).map prD)),aa (.val (.int (0+(k:Int)))),x5,x6,x7]=aa (.val (.int (pB w.length m k))):=
  zfI (mulI rfl (zhr rfl (zaJ w) (by lia)) (zdC (by lia))) (zfo rfl rfl) (by lia)
 have s6:ex2 zcw (ex2 zdL (ex2 zbi (zab 4) (eC (.int 1))) (eCB zaX (zaa (zab 0) zae))) (ex2 zbi (zab 1) (eC (.int 1))) [aa (.val (.str (mkS w))),aa (.val (.int m)),aa (.val (.str (mkS t))),aa (.own ((zeT w t m k).map prD)),aa (.val (.int (0+(k:Int)))),aa (.val (.int (pB w.length m k))),x6,x7]=aa (.val (.int (pE w.length m k))):=
  zfI (mulI (zfo rfl rfl) (zhr rfl (zaJ w) (by lia)) (zdC (by lia))) (zfo rfl rfl) (by lia)
 obtain⟨y7,e7⟩:=zhH w t m (pB w.length m k) (aa (.val (.int (0+(k:Int))))) (aa (.val (.int (pE w.length m k)))) hw ht (plc w t (pB w.length m k) (pE w.length m k)) (zeT w t m k) x7 (by lia)
 have e1:eSl zdu (zab 0) (oSo (zab 5)) (oSo (zab 6)) [aa (.val (.str (mkS w))),aa (.val (.int m)),aa (.val (.str (mkS t))),aa (.own ((zeT w t m k).map prD)),aa (.val (.int (0+(k:Int)))),aa (.val (.int (pB w.length m k))),aa (.val (.int (pE w.length m k))),x7]=aa (.val (.str (mkS (zbI w (aa (pB w.length m k)) (aa (pE w.length m k)))))):=zhP w _ _ (by lia) rfl rfl rfl
 have e2:=(ze5 (g:=zce) (Y:=zab 2) e1 rfl).trans (places_ok w t (pB w.length m k) (pE w.length m k) h0 h1 h2 hw ht)
 have e3:iL (zag [.v,.v] zce (zaa (eSl zdu (zab 0) (oSo (zab 5)) (oSo (zab 6))) (zaa (zab 2) zae))) [aa (.val (.str (mkS w))),aa (.val (.int m)),aa (.val (.str (mkS t))),aa (.own ((zeT w t m k).map prD)),aa (.val (.int (0+(k:Int)))),aa (.val (.int (pB w.length m k))),aa (.val (.int (pE w.length m k))),x7]=aa ((plc w t (pB w.length m k) (pE w.length m k)).map fun(a:Nat)=>D.int (0+(a:Int))):=by
  unfold iL
  rw[e2]
  rfl
 refine⟨aa (.val (.int (pB w.length m k))),aa (.val (.int (pE w.length m k))),y7,(show zbv _=_ from zbh (zex s5)).trans ((zbh (zex s6)).trans ?_)⟩
 rw[zg3]
 exact(show zd1 _ _ _ _=_ by unfold zd1;exact(congrArg (fun o=>bY o _) e3).trans e7)
theorem parts_ok(w t:List Nat)(m:Int)(hm:0<=m/\m<=90)(hw:w.length<=1000)(ht:t.length<=900):zbB [.str (mkS w),.int m,.str (mkS t)]=aa (.val (.tup ((jnd (zdQ (zeT w t m (m.toNat+1)))).map prD))):=by
 obtain⟨n,rfl⟩:=bv hm.1
 rw[show((n:Int)).toNat=n by lia]
 obtain⟨δ',w1,x4,x5,x6,x7,rfl⟩:=zbP (tg:=gNm 4) (f:=zbv) (fun k δ=>∃ x4 x5 x6 x7,δ=[aa (.val (.str (mkS w))),aa (.val (.int (n:Int))),aa (.val (.str (mkS t))),aa (.own ((zeT w t n k).map prD)),x4,x5,x6,x7])
  ((aq (n+1)).map fun(i:Nat)=>D.int (0+(i:Int))) 0 [aa (.val (.str (mkS w))),aa (.val (.int (n:Int))),aa (.val (.str (mkS t))),aa (.own []),ab,ab,ab,ab] (fun k d δ hd hδ=>by
   obtain⟨x4,x5,x6,x7,rfl⟩:=hδ
   rw[bq]
   have hk:k<n+1:=by have:=(aP.mp hd).1;simpa using this
   rw[aD,bC hk] at hd
   cases hd
   obtain⟨y5,y6,y7,h⟩:=ziw w t n k x5 x6 x7 hm (by lia) hw ht
   exact⟨_,_,rfl,.inl h,_,y5,y6,y7,rfl⟩) ⟨ab,ab,ab,ab,rfl⟩
 simp only[am,bz,bq] at w1
 have hl:=zgg w t n ht (n+1) (by lia)
 have hj:=zgn (zeT w t n (n+1)) (by lia)
 generalize zeT w t n (n+1)=fs at w1 hj ⊢
 have hF:zb6 [aa (.val (.str (mkS w))),aa (.val (.int (n:Int))),aa (.val (.str (mkS t))),ab,ab,ab,ab,ab]=aa (.rt (.val (.tup ((jnd (zdQ fs)).map prD))) [aa (.val (.str (mkS w))),aa (.val (.int (n:Int))),aa (.val (.str (mkS t))),aa (.own (fs.map prD)),x4,x5,x6,x7]):=by
  refine(show zb6 _=_ from zbh (zef (show zcg zae _=aa (.own []) from rfl))).trans ((forN (rngI (n:=n+1) ((zfo rfl rfl).trans (by rw[Int.natCast_add];rfl)) (by lia)) w1).trans (zf0 ?_))
  simp only[zag,zaa,zab,jqf,jqe,zae,jqc,jqa,zbg,zcx,asL,hj]
 exact(congrArg (fun o=>bY o _) hF).trans rfl
def lkI:List Str->List Int->Str->Option Int
 | k :: ks,i :: is,z=>if k=z then aa i else lkI ks is z
 | _,_,_=>ab
theorem zfQ(z:Str):∀ (ks:List Str) (is:List Int),lkD ks (is.map .int) z=(lkI ks is z).map .int
 | [],is=>by cases is <;> rfl
 | k :: ks,[]=>rfl
 | k :: ks,i :: is=>by
  rw[aE]
  simp only[lkD,lkI]
  by_cases e:k=z
  ·rw[if_pos e,if_pos e];rfl
  ·rw[if_neg e,if_neg e];exact zfQ z ks is
theorem lkI_mem{z:Str}:∀ {ks:List Str} {is:List Int},ks.length=is.length->z ∈ ks->∃ i,lkI ks is z=aa i
 | [],_,_,h=>by cases h
 | k :: ks,[],hl,_=>by cases hl
 | k :: ks,i :: is,hl,h=>by
  simp only[lkI]
  by_cases e:k=z
  ·exact⟨i,if_pos e⟩
  ·rw[if_neg e]
   exact lkI_mem (by simpa using hl) ((aN.mp h).resolve_left fun q=>e q.symm)
def zeo(p:List Str × List Int)(z:Str):List Str × List Int:=(pkD p.1 z,pvG p.1 p.2 z ((lkI p.1 p.2 z).getD 0+1))
theorem pvG_map(z:Str)(v:Int)(ks:List Str)(is:List Int):pvG ks (is.map D.int) z (.int v)=(pvG ks is z v).map .int:=by
 have key:∀ (ks:List Str) (is:List Int),ej (fun x y=>if x=z then D.int v else y) ks (is.map D.int)=(ej (fun x y=>if x=z then v else y) ks is).map .int:=by
  intro ks
  induction ks with
  | nil=>intro is;rfl
  | cons k ks ih=>
   intro is
   cases is with
   | nil=>rfl
   | cons i is=>
    rw[aE,cV,cV,aE,ih]
    by_cases e:k=z
    ·rw[if_pos e,if_pos e]
    ·rw[if_neg e,if_neg e]
 unfold pvG
 by_cases h:z ∈ ks
 ·rw[if_pos h,if_pos h];exact key ks is
 ·rw[if_neg h,if_neg h,bM];rfl
theorem zh8(p:List Str × List Int)(z:Str)(h:p.1.length=p.2.length):(zeo p z).1.length=(zeo p z).2.length/\(zeo p z).1.length<=p.1.length+1:=zf6 h
def pcs(t:List Nat)(long:Int):List Str:=(aq ((t.length:Int) - long+1).toNat).map fun(p:Nat)=>mkS (zbI t (aa (0+(p:Int))) (aa (0+(p:Int)+long)))
def tms(t:List Nat)(long:Int):List Str × List Int:=(pcs t long).foldl zeo ([],[])
def dcD(p:List Str × List Int):D:=.dic p.1 (p.2.map .int)
theorem zeC:∀ (zs:List Str) (p:List Str × List Int),p.1.length=p.2.length->(zs.foldl zeo p).1.length=(zs.foldl zeo p).2.length/\(zs.foldl zeo p).1.length<=p.1.length+zs.length
 | [],p,h=>⟨h,ak _⟩
 | z :: zs,p,h=>by
  obtain⟨h1,h2⟩:=zh8 p z h
  obtain⟨h3,h4⟩:=zeC zs (zeo p z) h1
  refine⟨h3,?_⟩
  rw[cc,aI]
  lia
theorem tms_len(t:List Nat)(long:Int):(tms t long).1.length=(tms t long).2.length:=(zeC _ _ rfl).1
theorem get_e{δ:En}{i:Nat}{FZ FD:FE}{p:List Str × List Int}{z:Str}(h0:dAt i δ=aa (p.1,p.2.map .int))(hz:FZ δ=aa (.val (.str z))):eDget i (zaa FZ (zaa (eC (.int 0)) zae)) δ=aa (.val (.int ((lkI p.1 p.2 z).getD 0))):=by
 unfold eDget zaa zae eC
 rw[h0,hz]
 simp only[aQ,cJ,gDg,sOf,zfQ]
 cases lkI p.1 p.2 z <;> rfl
theorem ziX(t:List Nat)(long:Int)(p:List Str × List Int)(k:Nat)(x4:Option Ent)(hp:p.1.length<=900000)(hl:t.length<=1000000) :
  zbb [aa (.val (.str (mkS t))),aa (.val (.int long)),aa (.obj (.dic p.1 (p.2.map .int))),aa (.val (.int (0+(k:Int)))),x4] =
  aa (.nx [aa (.val (.str (mkS t))),aa (.val (.int long)),aa (.obj (.dic (zeo p (mkS (zbI t (aa (0+(k:Int))) (aa (0+(k:Int)+long))))).1 ((zeo p (mkS (zbI t (aa (0+(k:Int))) (aa (0+(k:Int)+long))))).2.map .int))),aa (.val (.int (0+(k:Int)))),aa (.val (.str (mkS (zbI t (aa (0+(k:Int))) (aa (0+(k:Int)+long))))))]):=by
 have s4:eSl zdu (zab 0) (oSo (zab 3)) (oSo (ex2 zbi (zab 3) (zab 1))) [aa (.val (.str (mkS t))),aa (.val (.int long)),aa (.obj (.dic p.1 (p.2.map .int))),aa (.val (.int (0+(k:Int)))),x4]=aa (.val (.str (mkS (zbI t (aa (0+(k:Int))) (aa (0+(k:Int)+long)))))):=by
  simp only[eSl,zab,jqe,oSo,jqf,jqa,iOf,jqc,ex2,zbi,pI0,zdu,sOf,zaJ,hl,zaY,zda,zaf]
 generalize zbI t (aa (0+(k:Int))) (aa (0+(k:Int)+long))=z at s4 ⊢
 have s5:ex2 zbi (eDget 2 (zaa (zab 4) (zaa (eC (.int 0)) zae))) (eC (.int 1)) [aa (.val (.str (mkS t))),aa (.val (.int long)),aa (.obj (.dic p.1 (p.2.map .int))),aa (.val (.int (0+(k:Int)))),aa (.val (.str (mkS z)))]=aa (.val (.int ((lkI p.1 p.2 (mkS z)).getD 0+1))):=zfo (get_e (FD:=zab 0) rfl rfl) rfl
 refine(show zbb _=_ from zbh (zex s4)).trans ?_
 show fDput 2 (zab 4) _ [aa (.val (.str (mkS t))),aa (.val (.int long)),aa (.obj (.dic p.1 (p.2.map .int))),aa (.val (.int (0+(k:Int)))),aa (.val (.str (mkS z)))]=_
 unfold fDput
 rw[s5]
 have hd:dAt 2 [aa (.val (.str (mkS t))),aa (.val (.int long)),aa (.obj (.dic p.1 (p.2.map .int))),aa (.val (.int (0+(k:Int)))),aa (.val (.str (mkS z)))]=aa (p.1,p.2.map .int):=rfl
 have hs:sz (p.1.length+1)=True:=zaY (by lia)
 simp only[jqa,asV,zab,jqf,jqe,sOf,hd,jqh,jqg,hs,zaf,pvG_map,zeo]
theorem zhV(t:List Nat)(long:Int)(h0:0<long/\long<1000)(hl:t.length<=1000):zaE [.str (mkS t),.int long]=aa (.val (dcD (tms t long))):=by
 have hn:(pcs t long).length=((t.length:Int) - long+1).toNat:=by unfold pcs;simp
 obtain⟨δ',w1,x3,x4,rfl⟩:=zbP (tg:=gNm 3) (f:=zbb) (fun k δ=>∃ x3 x4,δ=[aa (.val (.str (mkS t))),aa (.val (.int long)),aa (.obj (.dic (((pcs t long).take k).foldl zeo ([],[])).1 ((((pcs t long).take k).foldl zeo ([],[])).2.map .int))),x3,x4])
  ((aq ((t.length:Int) - long+1).toNat).map fun(i:Nat)=>D.int (0+(i:Int))) 0 [aa (.val (.str (mkS t))),aa (.val (.int long)),aa (.obj (.dic [] [])),ab,ab] (fun k d δ hd hδ=>by
   obtain⟨x3,x4,rfl⟩:=hδ
   rw[bq]
   have hk:k<((t.length:Int) - long+1).toNat:=by have:=(aP.mp hd).1;simpa using this
   rw[aD,bC hk] at hd
   cases hd
   have hb:=(zeC ((pcs t long).take k) ([],[]) rfl).2
   rw[bB] at hb
   have hg:(pcs t long)[k]? = aa (mkS (zbI t (aa (0+(k:Int))) (aa (0+(k:Int)+long)))):=by
    unfold pcs
    rw[aD,bC hk]
    rfl
   have h:=ziX t long (((pcs t long).take k).foldl zeo ([],[])) k x4 (by simp at hb;lia) (by lia)
   refine⟨_,_,rfl,.inl h,aa (.val (.int (0+(k:Int)))),aa (.val (.str (mkS (zbI t (aa (0+(k:Int))) (aa (0+(k:Int)+long)))))),?_⟩
   rw[List.take_add_one,hg,jn]
   rfl) ⟨ab,ab,rfl⟩
 simp only[am,bz,bq] at w1
 rw[<- hn,fM] at w1
 suffices hF:zbJ [aa (.val (.str (mkS t))),aa (.val (.int long)),ab,ab,ab]=aa (.rt (.val (dcD (tms t long))) [aa (.val (.str (mkS t))),aa (.val (.int long)),aa (.val (dcD (tms t long))),x3,x4]) from (congrArg (fun o=>bY o _) hF).trans rfl
 refine(show zbJ _=_ from zbh (δ':=[aa (.val (.str (mkS t))),aa (.val (.int long)),aa (.obj (.dic [] [])),ab,ab]) rfl).trans ((forN (ds:=(aq ((t.length:Int) - long+1).toNat).map fun(i:Nat)=>D.int (0+(i:Int))) ?_ (by rw[<- hn];exact w1)).trans rfl)
 have e1:ex2 zbi (ex2 zdA (eCB zaX (zaa (zab 0) zae)) (zab 1)) (eC (.int 1)) [aa (.val (.str (mkS t))),aa (.val (.int long)),aa (.obj (.dic [] [])),ab,ab]=aa (.val (.int ((t.length:Int) - long+1))):=zfo (zhy (zhr rfl (zaJ t) (by lia)) rfl) rfl
 have hb:b62 ((t.length:Int) - long+1):=zcD (by lia)
 generalize ex2 zbi (ex2 zdA (eCB zaX (zaa (zab 0) zae)) (zab 1)) (eC (.int 1))=EE at e1 ⊢
 simp only[iR1,zaa,e1,zae,jqc,jqa,iOf,hb,zaf]
def shF(p q:List Str × List Int)(z:Str):Int:=if (lkI q.1 q.2 z).getD 0<(lkI p.1 p.2 z).getD 0 then (lkI q.1 q.2 z).getD 0 else (lkI p.1 p.2 z).getD 0
def shr(p q:List Str × List Int):Int:=(p.1.map (shF p q)).sum
theorem shr_c(p q:List Str × List Int)(z:Str)(i:Int)(h:lkI p.1 p.2 z=aa i):zaA [aa (.val (.str z)),aa (.val (dcD p)),aa (.val (dcD q))]=aa (.val (.int (shF p q z))):=by
 have e1:ex2 gDx (zab 1) (zab 0) [aa (.val (.str z)),aa (.val (dcD p)),aa (.val (dcD q))]=aa (.val (.int i)):=by
  simp only[ex2,zab,dcD,jqf,jqe,gDx,dOf,sOf,jqa,zfQ,h,jqc]
 have e2:eBM gGet (zab 2) (zaa (zab 0) (zaa (eC (.int 0)) zae)) [aa (.val (.str z)),aa (.val (dcD p)),aa (.val (dcD q))]=aa (.val (.int ((lkI q.1 q.2 z).getD 0))):=by
  simp only[eBM,zab,dcD,jqf,jqe,zaa,eC,zae,jqc,jqa,gGet,dOf,gDg,sOf,zfQ]
  cases lkI q.1 q.2 z <;> rfl
 unfold zaA shF
 rw[h]
 generalize ex2 gDx (zab 1) (zab 0)=E1 at e1 ⊢
 generalize eBM gGet (zab 2) (zaa (zab 0) (zaa (eC (.int 0)) zae))=E2 at e2 ⊢
 simp only[eCB,zaa,e1,e2,zae,jqc,jqa,zgv,iOf,Option.getD_some]
theorem shr_e{δ:En}{i j:Nat}{p q:List Str × List Int}(hp:p.1.length=p.2.length)(hl:p.1.length<=1000)(hi:δ[i]? = aa (aa (.val (dcD p))))(hj:δ[j]? = aa (aa (.val (dcD q))))(he:zab i δ=aa (.val (dcD p))) :
  eCB gSum (zaa (eLC [i,j] (iD (zab i)) zcK zaA) zae) δ=aa (.val (.int (shr p q))):=by
 have hc:∀ zs:List Str,(∀ z ∈ zs,z ∈ p.1)->zcv (fun d=>zcK (cEn [i,j] δ d)) (fun d=>zaA (cEn [i,j] δ d)) (zs.map D.str)=aa ((zs.map (shF p q)).map D.int):=by
  intro zs
  induction zs with
  | nil=>intro _;rfl
  | cons z zs ih=>
   intro h
   obtain⟨v,hv⟩:=lkI_mem hp (h z av)
   have hcE:cEn [i,j] δ (D.str z)=[aa (.val (.str z)),aa (.val (dcD p)),aa (.val (dcD q))]:=by
    simp only[cEn,aE,b5,hi,hj,eK,aQ,capt]
   rw[aE,zcv,ih fun y hy=>h y (al _ hy),hcE,shr_c p q z v hv]
   rfl
 have e1:iD (zab i) δ=aa (p.1.map D.str):=by
  unfold iD
  rw[he]
  rfl
 have e2:eLC [i,j] (iD (zab i)) zcK zaA δ=aa (.own ((p.1.map (shF p q)).map D.int)):=zen e1 (hc p.1 fun _ h=>h) (by simp;lia)
 generalize eLC [i,j] (iD (zab i)) zcK zaA=EE at e2 ⊢
 simp only[eCB,zaa,e2,zae,jqc,jqa,gSum,asL,zgl,shr]
theorem shared_ok(p q:List Str × List Int)(hp:p.1.length=p.2.length)(hl:p.1.length<=1000):zbD [dcD p,dcD q]=aa (.val (.int (shr p q))):=by
 have e:=shr_e (δ:=[aa (.val (dcD p)),aa (.val (dcD q))]) (i:=0) (j:=1) (q:=q) hp hl rfl rfl rfl
 have hF:zcA [aa (.val (dcD p)),aa (.val (dcD q))]=aa (.rt (.val (.int (shr p q))) [aa (.val (dcD p)),aa (.val (dcD q))]):=zf0 e
 exact(congrArg (fun o=>bY o _) hF).trans rfl
theorem tms_le(t:List Nat)(long:Int)(h:0<long):(tms t long).1.length<=t.length:=by
 have:=(zeC (pcs t long) ([],[]) rfl).2
 have hn:(pcs t long).length=((t.length:Int) - long+1).toNat:=by unfold pcs;simp
 show((pcs t long).foldl zeo ([],[])).1.length<=_
 simp at this
 lia
def wb(n:Nat)(m:Int)(e:Nat):Int:=if 0 > 0+(e:Int) - (n:Int) - m then 0 else 0+(e:Int) - (n:Int) - m
def wPr(n:Nat)(m:Int)(e:Nat):Int × Int:=(wb n m e,0+(e:Int))
def fnd(P:Nat->Bool)(n:Nat)(m:Int)(k:Nat):List (Int × Int):=((aq k).filter P).map (wPr n m)
theorem fnd_succ(P:Nat->Bool)(n:Nat)(m:Int)(k:Nat):fnd P n m (k+1)=if P k=true then fnd P n m k ++ [wPr n m k] else fnd P n m k:=by
 unfold fnd
 rw[cA,List.filter_append]
 by_cases h:P k=true
 ·rw[if_pos h,hG h,jY,bM];rfl
 ·rw[if_neg h,hJ h,jY,bF]
theorem fnd_len(P:Nat->Bool)(n:Nat)(m:Int)(k:Nat):(fnd P n m k).length<=k:=by
 unfold fnd
 rw[am]
 exact aJ (fU _ _) (by simp)
theorem ziQ(w t:List Nat)(m:Int)(hw:w.length<=1000)(ht:t.length<=900):zdW [.str (mkS w),.int m,.str (mkS t)]=aa (.own ((aq (t.length+1)).map fun e=>prD (wPr w.length m e))):=by
 have hc:∀ (es:List Nat) (δ:En),δ[1]? = aa (aa (.val (.int m)))->δ[0]? = aa (aa (.val (.str (mkS w))))->zcv (fun d=>zcK (cEn [1,0] δ d)) (fun d=>zcI (cEn [1,0] δ d)) (es.map fun(i:Nat)=>D.int (0+(i:Int)))=aa (es.map fun e=>prD (wPr w.length m e)):=by
  intro es δ h1 h2
  induction es with
  | nil=>rfl
  | cons e es ih=>
   have hcE:cEn [1,0] δ (D.int (0+(e:Int)))=[aa (.val (.int (0+(e:Int)))),aa (.val (.int m)),aa (.val (.str (mkS w)))]:=by
    simp only[cEn,aE,b5,h1,h2,eK,aQ,capt]
   rw[aE,zcv,ih,hcE]
   have hC:zcI [aa (.val (.int (0+(e:Int)))),aa (.val (.int m)),aa (.val (.str (mkS w)))]=aa (.val (prD (wPr w.length m e))):=
    tup2 (max2 (zhy (zhy rfl (zhr rfl (zaJ w) (by lia))) rfl) rfl) rfl
   rw[hC]
   rfl
 have e1:ex2 zbi (eCB zaX (zaa (zab 2) zae)) (eC (.int 1)) [aa (.val (.str (mkS w))),aa (.val (.int m)),aa (.val (.str (mkS t)))]=aa (.val (.int ((t.length:Int)+1))):=zfo (zhr rfl (zaJ t) (by lia)) rfl
 have e2:iR1 (zaa (ex2 zbi (eCB zaX (zaa (zab 2) zae)) (eC (.int 1))) zae) [aa (.val (.str (mkS w))),aa (.val (.int m)),aa (.val (.str (mkS t)))]=aa ((aq (t.length+1)).map fun(i:Nat)=>D.int (0+(i:Int))):=by
  have hb:b62 ((t.length:Int)+1):=zcD (by lia)
  generalize ex2 zbi (eCB zaX (zaa (zab 2) zae)) (eC (.int 1))=EE at e1 ⊢
  have ez:((t.length:Int)+1).toNat=t.length+1:=by lia
  simp only[iR1,zaa,e1,zae,jqc,jqa,iOf,hb,ez,zaf]
 have e3:=zen (fr:=[1,0]) (ft:=zcK) (fe:=zcI) e2 (hc (aq (t.length+1)) _ rfl rfl) (by simp;lia)
 have hF:zeR [aa (.val (.str (mkS w))),aa (.val (.int m)),aa (.val (.str (mkS t)))]=aa (.rt (.own ((aq (t.length+1)).map fun e=>prD (wPr w.length m e))) [aa (.val (.str (mkS w))),aa (.val (.int m)),aa (.val (.str (mkS t)))]):=by
  show zb9 _ _=_
  unfold zb9
  rw[e3]
  rfl
 exact(congrArg (fun o=>bY o _) hF).trans rfl
def win(w t:List Nat)(m:Int)(e:Nat):List Nat:=zbI t (aa (wb w.length m e)) (aa (0+(e:Int)))
def zb4(w t:List Nat)(m long:Int)(e:Nat):Bool:=decide (shr (tms w long) (tms (win w t m e) long) ≥ (w.length:Int) - long+1 - m * long)
theorem slice_i(t:List Nat)(a b:Int){A B E:FE}{δ:En}(hl:t.length<=1000000)(hE:E δ=aa (.val (.str (mkS t))))(hA:A δ=aa (.val (.int a)))(hB:B δ=aa (.val (.int b))):eSl zdu E (oSo A) (oSo B) δ=aa (.val (.str (mkS (zbI t (aa a) (aa b))))):=by
 simp only[eSl,hE,oSo,hA,jqa,iOf,jqc,hB,zdu,sOf,zaJ,hl,zaY,zda,zaf]
theorem kept_turn(w t:List Nat)(m long:Int)(k:Nat)(W M:Option Ent)(h0:0<long/\long<1000)(hw:w.length<=1000)(ht:t.length<=900)(hk:k<10000) :
  zaV [W,M,aa (.val (.str (mkS t))),aa (.val (.int long)),aa (.val (.int ((w.length:Int) - long+1 - m * long))),aa (.val (dcD (tms w long))),aa (.own ((fnd (zb4 w t m long) w.length m k).map prD)),aa (.val (.int (wb w.length m k))),aa (.val (.int (0+(k:Int))))] =
  aa (.nx [W,M,aa (.val (.str (mkS t))),aa (.val (.int long)),aa (.val (.int ((w.length:Int) - long+1 - m * long))),aa (.val (dcD (tms w long))),aa (.own ((fnd (zb4 w t m long) w.length m (k+1)).map prD)),aa (.val (.int (wb w.length m k))),aa (.val (.int (0+(k:Int))))]):=by
 have hl:=fnd_len (zb4 w t m long) w.length m k
 have hwin:(win w t m k).length<=900:=aJ (zeH _ _ _) ht
 have e1:eSl zdu (zab 2) (oSo (zab 7)) (oSo (zab 8)) [W,M,aa (.val (.str (mkS t))),aa (.val (.int long)),aa (.val (.int ((w.length:Int) - long+1 - m * long))),aa (.val (dcD (tms w long))),aa (.own ((fnd (zb4 w t m long) w.length m k).map prD)),aa (.val (.int (wb w.length m k))),aa (.val (.int (0+(k:Int))))]=aa (.val (.str (mkS (win w t m k)))):=slice_i t _ _ (by lia) rfl rfl rfl
 have e2:=(ze5 (g:=zaE) e1 (Y:=zab 3) rfl).trans (zhV (win w t m k) long h0 (by lia))
 have hle:=tms_le w long h0.1
 have e3:=(ze5 (g:=zbD) (X:=zab 5) rfl e2).trans (shared_ok (tms w long) (tms (win w t m k) long) (tms_len _ _) (by lia))
 have e4:=geII (F:=zab 4) e3 rfl
 rw[fnd_succ]
 by_cases hq:zb4 w t m long k=true
 ·rw[if_pos hq,bM]
  have hq':decide (shr (tms w long) (tms (win w t m k) long) ≥ (w.length:Int) - long+1 - m * long)=true:=hq
  rw[hq'] at e4
  exact(show zaV _=_ from fIfT e4).trans (zhk rfl (tup2 rfl rfl) (by rw[am];lia))
 ·rw[if_neg hq]
  have hq':decide (shr (tms w long) (tms (win w t m k) long) ≥ (w.length:Int) - long+1 - m * long)=false:=Bool.eq_false_iff.mpr hq
  rw[hq'] at e4
  exact(show zaV _=_ from fIfF e4)
theorem kept_ok(w t:List Nat)(m long:Int)(h0:0<long/\long<1000)(hm:0<=m/\m<=1000)(hw:w.length<=1000)(ht:t.length<=900):zaM [.str (mkS w),.int m,.str (mkS t),.int long]=aa (.val (.tup ((jnd (zdQ (fnd (zb4 w t m long) w.length m (t.length+1)))).map prD))):=by
 have b1:b64 m:=zdC (by lia)
 have s4:ex2 zdA (ex2 zbi (ex2 zdA (eCB zaX (zaa (zab 0) zae)) (zab 3)) (eC (.int 1))) (ex2 zdL (zab 1) (zab 3)) [aa (.val (.str (mkS w))),aa (.val (.int m)),aa (.val (.str (mkS t))),aa (.val (.int long)),ab,ab,ab,ab,ab]=aa (.val (.int ((w.length:Int) - long+1 - m * long))):=
  zhy (zfo (zhy (zhr rfl (zaJ w) (by lia)) rfl) rfl) (by simp only[ex2,zab,jqf,jqe,zdL,pI,iOf,jqa,b1,jrd,zaf])
 have s5:=(ze5 (g:=zaE) (X:=zab 0) (Y:=zab 3) (δ:=[aa (.val (.str (mkS w))),aa (.val (.int m)),aa (.val (.str (mkS t))),aa (.val (.int long)),aa (.val (.int ((w.length:Int) - long+1 - m * long))),ab,ab,ab,ab]) rfl rfl).trans (zhV w long h0 hw)
 have e0:((aq (t.length+1)).map fun e=>prD (wPr w.length m e)).length=t.length+1:=by simp
 obtain⟨δ',w1,x7,x8,rfl⟩:=zbP (tg:=gTp (zba (gNm 7) (zba (gNm 8) zdZ))) (f:=zaV) (fun k δ=>∃ x7 x8,δ=[aa (.val (.str (mkS w))),aa (.val (.int m)),aa (.val (.str (mkS t))),aa (.val (.int long)),aa (.val (.int ((w.length:Int) - long+1 - m * long))),aa (.val (dcD (tms w long))),aa (.own ((fnd (zb4 w t m long) w.length m k).map prD)),x7,x8])
  ((aq (t.length+1)).map fun e=>prD (wPr w.length m e)) 0 [aa (.val (.str (mkS w))),aa (.val (.int m)),aa (.val (.str (mkS t))),aa (.val (.int long)),aa (.val (.int ((w.length:Int) - long+1 - m * long))),aa (.val (dcD (tms w long))),aa (.own []),ab,ab] (fun k d δ hd hδ=>by
   obtain⟨x7,x8,rfl⟩:=hδ
   rw[bq]
   have hk:k<t.length+1:=by have:=(aP.mp hd).1;simpa using this
   rw[aD,bC hk] at hd
   cases hd
   exact⟨_,_,rfl,.inl (kept_turn w t m long k _ _ h0 hw ht (by lia)),_,_,rfl⟩) ⟨ab,ab,rfl⟩
 simp only[e0,bq] at w1
 have e6:=ziQ w t m hw ht
 have hj:=zgn (fnd (zb4 w t m long) w.length m (t.length+1)) (aJ (fnd_len _ _ _ _) (by lia))
 generalize fnd (zb4 w t m long) w.length m (t.length+1)=fs at w1 hj ⊢
 generalize (aq (t.length+1)).map (fun e=>prD (wPr w.length m e))=ws at w1 e6 e0
 have hF:zbR [aa (.val (.str (mkS w))),aa (.val (.int m)),aa (.val (.str (mkS t))),aa (.val (.int long)),ab,ab,ab,ab,ab]=aa (.rt (.val (.tup ((jnd (zdQ fs)).map prD))) [aa (.val (.str (mkS w))),aa (.val (.int m)),aa (.val (.str (mkS t))),aa (.val (.int long)),aa (.val (.int ((w.length:Int) - long+1 - m * long))),aa (.val (dcD (tms w long))),aa (.own (fs.map prD)),x7,x8]):=by
  refine(show zbR _=_ from zbw s4).trans ((zbw s5).trans ((zbh (zef (show zcg zae _=aa (.own []) from rfl))).trans ((forN ?_ w1).trans (zf0 ?_))))
  ·simp only[iL,zag,zaa,zab,jqe,jqf,zae,jqc,jqa,zbg,zcx,asV,e6]
  ·simp only[zag,zaa,zab,jqf,jqe,zae,jqc,jqa,zbg,zcx,asL,hj]
 exact(congrArg (fun o=>bY o _) hF).trans rfl
section
open CE
variable (P:List Str)(T:List Nat)(p:Pr)
def siO(most:Int)(e:Nat)(prs:List D):OT:=.ins "Sight" ["most","end","pairs"] [.val (.int most),.val (.int (e:Int)),.lst prs]
def seD(most:Int)(x:Option Int)(j:Nat):List D:=match x with
 | some x=>if x<=most then [.tup [.int (j:Int),.int x]] else []
 | none=>[]
theorem seD_len(most:Int)(x:Option Int)(j:Nat):(seD most x j).length<=1:=by
 unfold seD
 split
 ·split <;> simp
 ·simp
theorem sinit_ok(most:Int):zbq (.ins "Sight" [] []) [.int most]=aa (.non,siO most 0 []):=by
 simp only[zbq,zgR,jqp,jqq,bq,zcs,zaT,fFNew,zab,jqn,jqo,aF,jqk,jqf,jqe,jqa,toO,oAt,zdl,jqj,jqg,sqO,eC,jqi,zcg,zae,Nat.reduceLeDiff,zew,jqc,jra,endM,siO]
 all_goals rfl
theorem come_ok(most:Int)(x:Option Int)(e:Nat)(prs:List D)(hl:prs.length<100000):zbC (siO most e prs) [oD x]=aa (.non,siO most (e+1) (prs ++ seD most x e)):=by
 have ee:((e+1:Nat):Int)=(e:Int)+1:=rfl
 unfold siO
 rw[ee]
 cases x with
 | none=>
  rw[show seD most ab e=[] from rfl,bF]
  simp (disch:=omega) only[zbC,zgR,oD_n,jqp,jqq,bq,zcl,zaT,fIf,fAnd,tOf,ex2,zab,jqn,jqo,aF,jqk,jqf,jqe,eC,gNoN,isN,jqa,jqt,bOf,eFld,oAt,zdl,fE,gLe,pI0,iOf,jqc,jqb,jqr,jrb,fFApp,zeA,zaa,zae,Nat.reduceAdd,Nat.reduceLeDiff,zew,asV,jra,jqg,lOf,jqh,zaY,zaf,fNx,zbi,sqO,zho,toO,Nat.reduceLT,endM]
 | some x=>
  by_cases h:x<=most
  ·rw[show seD most (aa x) e=[.tup [.int (e:Int),.int x]] from if_pos h]
   simp (disch:=omega) only[zbC,zgR,oD_s,jqp,jqq,bq,zcl,zaT,fIf,fAnd,tOf,ex2,zab,jqn,jqo,aF,jqk,jqf,jqe,eC,gNoN,isN,jqa,jqu,bOf,eFld,oAt,zdl,fE,gLe,pI0,iOf,jqc,h,jqy,jra,fFApp,zeA,zaa,zae,Nat.reduceAdd,Nat.reduceLeDiff,zew,asV,jqg,lOf,jqh,zaY,zaf,fNx,zbi,sqO,zho,toO,Nat.reduceLT,endM]
  ·rw[show seD most (aa x) e=[] from if_neg h,bF]
   simp (disch:=omega) only[zbC,zgR,oD_s,jqp,jqq,bq,zcl,zaT,fIf,fAnd,tOf,ex2,zab,jqn,jqo,aF,jqk,jqf,jqe,eC,gNoN,isN,jqa,jqu,bOf,eFld,oAt,zdl,fE,gLe,pI0,iOf,jqc,h,jqz,jra,fFApp,zeA,zaa,zae,Nat.reduceAdd,Nat.reduceLeDiff,zew,asV,jqg,lOf,jqh,zaY,zaf,fNx,jqr,jrb,zbi,sqO,zho,toO,Nat.reduceLT,endM]
theorem tell_ok(most:Int)(e:Nat)(prs:List D):zcq (siO most e prs) []=aa (.tup prs,siO most e []):=by
 unfold siO
 simp (disch:=omega) only[zcq,zgR,jqq,zdi,zaT,zca,eCB,zaa,eFld,oAt,jqo,aF,jqi,jqj,jqe,jqa,zdl,jqf,fE,zae,jqc,zc4,asL,jqh,jqg,toN,sqO,zho,zcg,Nat.reduceLeDiff,zew,jra,toO,jqp,bq,Nat.reduceAdd,Nat.reduceLT,zhb,endM]
abbrev cT:Nat->Nat->Option Int:=cel (zdS P T) p true
def seR(most:Int)(a b:Nat):List D:=(dD a (b - a)).flatMap fun j=>seD most (cT P T p P.length j) j
theorem zhN(most:Int)(a:Nat):seR P T p most a a=[]:=by simp[seR]
theorem seR_succ(most:Int){a b:Nat}(h:a<=b):seR P T p most a (b+1)=seR P T p most a b ++ seD most (cT P T p P.length b) b:=by
 unfold seR
 rw[show b+1 - a=(b - a)+1 by lia,List.range'_concat,eO]
 simp[show a+(b - a)=b by lia]
theorem seR_app(most:Int){a b d:Nat}(h1:a<=b)(h2:b<=d):seR P T p most a b ++ seR P T p most b d=seR P T p most a d:=by
 unfold seR
 rw[<- eO,show d - a=(b - a)+(d - b) by lia,<- iS,show a+(b - a)=b by lia]
end
section
open CE
variable (P:List Str)(T:List Nat)(p:Pr)
theorem isC_si(most:Int)(e:Nat)(prs:List D):isC "Sight" ["most","end","pairs"] (siO most e prs)=aa [.val (.int most),.val (.int (e:Int)),.lst prs]:=zdl
theorem zfu(x0 x1 x3 y2:Option Ent)(most:Int):∀ (n a:Nat) (prs:List D) (x5:Option Ent),prs.length+n<100000->∃ y5,
  loop (gNm 5) zcH ((dD a n).map fun(j:Nat)=>oD (cT P T p P.length j)) [x0,x1,y2,x3,aa (.obj (siO most a prs)),x5] =
  aa (.nx [x0,x1,y2,x3,aa (.obj (siO most (a+n) (prs ++ seR P T p most a (a+n)))),y5])
 | 0,a,prs,x5,_=>⟨x5,by rw[g5,zhN,bF];rfl⟩
 | n+1,a,prs,x5,hl=>by
  have cm:=come_ok most (cT P T p P.length a) a prs (by lia)
  have st:zcH [x0,x1,y2,x3,aa (.obj (siO most a prs)),aa (.val (oD (cT P T p P.length a)))]=aa (.nx [x0,x1,y2,x3,aa (.obj (siO most (a+1) (prs ++ seD most (cT P T p P.length a) a))),aa (.val (oD (cT P T p P.length a)))]):=by
   have c1:=isC_si most a prs
   generalize siO most a prs=o1 at *
   generalize siO most (a+1) (prs ++ seD most (cT P T p P.length a) a)=o2 at *
   generalize oD (cT P T p P.length a)=d at *
   simp only[zcH,fX,xM,oAt,jqf,jqe,zaa,zab,zae,jqc,jqa,zew,asV,jqh,jqg,c1,cm]
  have pl:=seD_len most (cT P T p P.length a) a
  obtain⟨y5,e⟩:=zfu x0 x1 x3 y2 most n (a+1) (prs ++ seD most (cT P T p P.length a) a) (aa (.val (oD (cT P T p P.length a)))) (by rw[ay];lia)
  refine⟨y5,jI (zbM rfl st) (jI e ?_)⟩
  have q:seD most (cT P T p P.length a) a=seR P T p most a (a+1):=by rw[seR_succ P T p most (ak a),zhN,cO]
  rw[bG,q,seR_app P T p most (by lia) (by lia),show a+1+n=a+(n+1) by lia]
variable (hP:P.length<=100000)(hT:T.length<=10000)
include hP hT
theorem ends_at:zbp [.tup (P.map .str),.str (mkS T),.tup p.ds]=aa (.val (.tup ((dD 0 (T.length+1)).map fun(j:Nat)=>oD (cT P T p P.length j)))):=by
 have c:=cells_eq P T p true hP (by lia)
 have l1:=zir (fun i=>zgW (cel (zdS P T) p true) T.length i) P.length
 rw[<- iU]
 simp (disch:=omega) only[zbp,zcU,stE,stN,jqc,jqa,zcu,zb9,ex2,zag,zaa,zab,aF,jqk,eC,zae,ex1,zgi,iOf,Int.reduceNeg,zfi,zez,toN,jqe,jqf,zbg,zcx,asV,asT,c,l1,zg6]
 rfl
theorem ends_ok(most:Int):zbo [.tup (P.map .str),.str (mkS T),.int most,.tup p.ds]=aa (.val (.tup (seR P T p most 0 (T.length+1)))):=by
 have e:=ends_at P T p hP hT
 obtain⟨y5,lo⟩:=zfu P T p (aa (.val (.tup (P.map .str)))) (aa (.val (.str (mkS T)))) (aa (.bt p.ds)) (aa (.val (.int most))) most (T.length+1) 0 [] ab (by simp;lia)
 rw[cO,bq] at lo
 have t:=tell_ok most (T.length+1) (seR P T p most 0 (T.length+1))
 have i1:=sinit_ok most
 have c2:=isC_si most (T.length+1) (seR P T p most 0 (T.length+1))
 generalize (dD 0 (T.length+1)).map (fun(j:Nat)=>oD (cT P T p P.length j))=ls at *
 generalize siO most 0 []=o1 at *
 generalize siO most (T.length+1) (seR P T p most 0 (T.length+1))=o2 at *
 generalize siO most (T.length+1) []=o3 at *
 generalize seR P T p most 0 (T.length+1)=rr at *
 generalize P.map D.str=pp at *
 simp only[zbo,zcU,stE,stN,jqc,jqa,zfa,zaT,fSetO,eMake,zaa,zab,aF,zae,jqi,jqj,jqf,jqe,zew,asV,i1,jqh,jqg,sqO,zd1,iT,zag,zbg,zcx,asT,e,zez,lo,ziy,xM,oAt,c2,t,zg6]
end
theorem row_le{p q:Int × Int}(h:prR p<=prR q):p.1<=q.1:=by
 refine dC fun hc=>?_
 exact(jB.mpr h) (dr.mpr (.inl (by lia)))
theorem srtP_up(ps:List (Int × Int)):(zdQ ps).Pairwise fun p q=>p.1<=q.1:=by
 unfold zdQ
 rw[gJ]
 refine(srtR_up (ps.map prR)).imp_of_mem fun {a b} ha hb h=>?_
 obtain⟨p,_,rfl⟩:=cv.mp ((zdj _).mem_iff.mp ha)
 obtain⟨q,_,rfl⟩:=cv.mp ((zdj _).mem_iff.mp hb)
 exact row_le h
structure Kp(n:Int)(K:List (Int × Int)):Prop where
 apart:K.Pairwise fun p q=>p.2<q.1
 ok:∀ p ∈ K,0<=p.1/\p.1<=p.2/\p.2<=n
theorem jst_kp{n:Int}{acc:List (Int × Int)}{p:Int × Int}(k:Kp n acc)(h:∀ q ∈ acc,q.1<=p.1)(hp:0<=p.1/\p.1<=p.2/\p.2<=n) :
  Kp n (jst acc p)/\(∀ q ∈ jst acc p,q.1<=p.1)/\(∀ q,q=p \/ (∃ r ∈ acc,r.1<=q.1/\q.2<=r.2)->∃ r ∈ jst acc p,r.1<=q.1/\q.2<=r.2):=by
 have app:(∀ q ∈ acc,q.2<p.1)->Kp n (acc ++ [p])/\(∀ q ∈ acc ++ [p],q.1<=p.1)/\(∀ q,q=p \/ (∃ r ∈ acc,r.1<=q.1/\q.2<=r.2)->∃ r ∈ acc ++ [p],r.1<=q.1/\q.2<=r.2):=fun hl=>by
  refine⟨⟨dz.mpr ⟨k.apart,fq _ _,fun a ha b hb=>by rw[aT] at hb;subst hb;exact hl a ha⟩,fun q hq=>?_⟩,fun q hq=>?_,fun q hq=>?_⟩
  ·rcases bu.mp hq with hq | hq
   ·exact k.ok q hq
   ·rw[aT] at hq;subst hq;exact hp
  ·rcases bu.mp hq with hq | hq
   ·exact h q hq
   ·rw[aT] at hq;subst hq;exact dY _
  ·rcases hq with rfl | ⟨r,hr,h1,h2⟩
   ·exact⟨_,aA _ (aT.mpr rfl),dY _,dY _⟩
   ·exact⟨r,bA _ hr,h1,h2⟩
 unfold jst
 cases q0:acc.getLast? with
 | none=>
  have:acc=[]:=gR.mp q0
  exact app fun q hq=>by rw[this] at hq;cases hq
 | some l=>
  obtain⟨ys,rfl⟩:=gQ.mp q0
  have hl:l ∈ ys ++ [l]:=aA _ (aT.mpr rfl)
  have pw:=dz.mp k.apart
  dsimp only
  by_cases hc:p.1<=l.2
  ·rw[if_pos hc,iR]
   have kl:=k.ok l hl
   have ll:=h l hl
   have mx:l.2<=(if p.2 > l.2 then p.2 else l.2)/\p.2<=(if p.2 > l.2 then p.2 else l.2)/\(if p.2 > l.2 then p.2 else l.2)<=n:=by split <;> lia
   generalize (if p.2 > l.2 then p.2 else l.2)=M at mx
   refine⟨⟨dz.mpr ⟨pw.1,fq _ _,fun a ha b hb=>?_⟩,fun q hq=>?_⟩,fun q hq=>?_,fun q hq=>?_⟩
   ·rw[aT] at hb;subst hb;exact pw.2.2 a ha l (aT.mpr rfl)
   ·rcases bu.mp hq with hq | hq
    ·exact k.ok q (bA _ hq)
    ·rw[aT] at hq;subst hq
     exact⟨kl.1,by show l.1<=M;lia,mx.2.2⟩
   ·rcases bu.mp hq with hq | hq
    ·exact h q (bA _ hq)
    ·rw[aT] at hq;subst hq;exact ll
   ·rcases hq with rfl | ⟨r,hr,h1,h2⟩
    ·exact⟨(l.1,M),aA _ (aT.mpr rfl),ll,mx.2.1⟩
    ·rcases bu.mp hr with hr | hr
     ·exact⟨r,bA _ hr,h1,h2⟩
     ·rw[aT] at hr;subst hr
      exact⟨(r.1,M),aA _ (aT.mpr rfl),h1,dH h2 mx.1⟩
  ·rw[if_neg hc]
   refine app fun q hq=>?_
   have kl:=k.ok l hl
   rcases bu.mp hq with hq | hq
   ·have:=pw.2.2 q hq l (aT.mpr rfl)
    lia
   ·rw[aT] at hq;subst hq;lia
theorem zhM{n:Int}:∀ (ps acc:List (Int × Int)),Kp n acc->(∀ q ∈ acc,∀ p ∈ ps,q.1<=p.1)->(ps.Pairwise fun p q=>p.1<=q.1)->(∀ p ∈ ps,0<=p.1/\p.1<=p.2/\p.2<=n) ->
  Kp n (ps.foldl jst acc)/\∀ q,(q ∈ ps \/ ∃ r ∈ acc,r.1<=q.1/\q.2<=r.2)->∃ r ∈ ps.foldl jst acc,r.1<=q.1/\q.2<=r.2
 | [],acc,k,_,_,_=>⟨k,fun q hq=>hq.elim (fun h=>by cases h) fun h=>h⟩
 | p :: ps,acc,k,h,hs,ho=>by
  obtain⟨hs1,hs2⟩:=eV.mp hs
  obtain⟨a1,a2,a3⟩:=jst_kp k (fun q hq=>h q hq p av) (ho p av)
  obtain⟨b1,b2⟩:=zhM ps (jst acc p) a1 (fun q hq r hr=>dH (a2 q hq) (hs1 r hr)) hs2 fun r hr=>ho r (al _ hr)
  refine⟨b1,fun q hq=>b2 q ?_⟩
  rcases hq with hq | hq
  ·rcases aN.mp hq with rfl | hq
   ·exact .inr (a3 q (.inl rfl))
   ·exact .inl hq
  ·exact .inr (a3 q (.inr hq))
theorem jnd_kp{n:Int}(ps:List (Int × Int))(ho:∀ p ∈ ps,0<=p.1/\p.1<=p.2/\p.2<=n):Kp n (jnd (zdQ ps))/\∀ q ∈ ps,∃ r ∈ jnd (zdQ ps),r.1<=q.1/\q.2<=r.2:=by
 obtain⟨h1,h2⟩:=zhM (n:=n) (zdQ ps) [] ⟨.nil,fun p hp=>by cases hp⟩ (fun q hq=>by cases hq) (srtP_up ps) fun p hp=>ho p ((ze1 ps).mem_iff.mp hp)
 exact⟨h1,fun q hq=>h2 q (.inl ((ze1 ps).mem_iff.mpr hq))⟩
theorem zg1{α:Type}[DecidableEq α]:∀ (K G:List α),K.Nodup->(∀ g ∈ G,g ∈ K)->(K.map fun z=>G.count z).sum=G.length
 | K,[],_,_=>by
  have:∀ K:List α,(K.map fun z=>([]:List α).count z).sum=0:=fun K=>by
   induction K with
   | nil=>rfl
   | cons z K ih=>rw[aE,fJ,ih];rfl
  exact this K
 | K,g :: G,nd,h=>by
  have ih:=zg1 K G nd fun x hx=>h x (al _ hx)
  have key:∀ (K:List α),K.Nodup->(K.map fun z=>(g :: G).count z).sum=(K.map fun z=>G.count z).sum+if g ∈ K then 1 else 0:=by
   intro K nd
   induction K with
   | nil=>rfl
   | cons z K ihK=>
    obtain⟨n1,n2⟩:=aW.mp nd
    rw[aE,aE,fJ,fJ,ihK n2,jZ]
    by_cases e:g=z
    ·subst e
     rw[if_pos (by simp),if_neg n1,if_pos av]
     lia
    ·rw[if_neg (by simpa using e)]
     by_cases hk:g ∈ K
     ·rw[if_pos hk,if_pos (al _ hk)];lia
     ·rw[if_neg hk,if_neg (fun z'=>by rcases aN.mp z' with e' | e';exact e e';exact hk e')];lia
  rw[key K nd,ih,if_pos (h g av),aI]
theorem zfS{y:Str}:∀ {ks:List Str} {is:List Int},y ∉ ks->lkI ks is y=ab
 | [],_,_=>by unfold lkI;rfl
 | k :: ks,[],_=>by unfold lkI;rfl
 | k :: ks,i :: is,h=>by
  unfold lkI
  rw[if_neg (fun e=>h (by rw[e];exact av))]
  exact zfS fun z=>h (al _ z)
theorem lkI_zip{k y:Str}{v:Int}:∀ {ks:List Str} {is:List Int},ks.length=is.length->lkI ks (ej (fun x y=>if x=k then v else y) ks is) y=if y=k/\y ∈ ks then aa v else lkI ks is y
 | [],is,_=>by rw[if_neg (fun z=>by cases z.2)];cases is <;> rfl
 | x :: ks,[],h=>by cases h
 | x :: ks,i :: is,h=>by
  rw[cV]
  unfold lkI
  by_cases e:x=y
  ·rw[if_pos e,if_pos e]
   by_cases e2:x=k
   ·rw[if_pos e2,if_pos ⟨e ▸ e2,by rw[e];exact av⟩]
   ·rw[if_neg e2,if_neg (fun z=>e2 (e.trans z.1))]
  ·rw[if_neg e,if_neg e,lkI_zip (by simpa using h)]
   by_cases e2:y=k/\y ∈ ks
   ·rw[if_pos e2,if_pos ⟨e2.1,al _ e2.2⟩]
   ·rw[if_neg e2,if_neg (fun z=>e2 ⟨z.1,(aN.mp z.2).resolve_left fun q=>e q.symm⟩)]
theorem lkI_app{k y:Str}{v:Int}:∀ {ks:List Str} {is:List Int},ks.length=is.length->lkI (ks ++ [k]) (is ++ [v]) y=if y ∈ ks then lkI ks is y else if k=y then aa v else ab
 | [],[],_=>by
  rw[if_neg (fun z=>by cases z)]
  show lkI [k] [v] y=_
  unfold lkI
  split
  ·rfl
  ·unfold lkI;rfl
 | [],_ :: _,h=>by cases h
 | x :: ks,[],h=>by cases h
 | x :: ks,i :: is,h=>by
  rw[gZ,gZ]
  unfold lkI
  by_cases e:x=y
  ·rw[if_pos e,if_pos e,if_pos (by rw[e];exact av)]
  ·rw[if_neg e,if_neg e,lkI_app (by simpa using h)]
   by_cases e2:y ∈ ks
   ·rw[if_pos e2,if_pos (al _ e2)]
   ·rw[if_neg e2,if_neg (fun z=>(aN.mp z).elim (fun q=>e q.symm) e2)]
theorem tput_lk(p:List Str × List Int)(z y:Str)(h:p.1.length=p.2.length)(nd:p.1.Nodup):(zeo p z).1.Nodup/\((lkI (zeo p z).1 (zeo p z).2 y).getD 0=(lkI p.1 p.2 y).getD 0+if y=z then 1 else 0)/\(y ∈ (zeo p z).1 ↔ y ∈ p.1 \/ y=z):=by
 show(pkD p.1 z).Nodup/\((lkI (pkD p.1 z) (pvG p.1 p.2 z ((lkI p.1 p.2 z).getD 0+1)) y).getD 0=_)/\(y ∈ pkD p.1 z ↔ _)
 unfold pkD pvG
 by_cases hz:z ∈ p.1
 ·rw[if_pos hz,if_pos hz,lkI_zip h]
  refine⟨nd,?_,fun q=>.inl q,fun q=>q.elim id fun e=>e ▸ hz⟩
  by_cases e:y=z
  ·subst e
   rw[if_pos ⟨rfl,hz⟩,if_pos rfl]
   rfl
  ·rw[if_neg (fun q=>e q.1),if_neg e]
   lia
 ·rw[if_neg hz,if_neg hz,lkI_app h]
  refine⟨?_,?_,?_⟩
  ·rw[bN]
   exact⟨nd,aW.mpr ⟨fun q=>(by cases q),eY⟩,fun a ha b hb e=>by rw[aT] at hb;subst hb;subst e;exact hz ha⟩
  ·by_cases e:y=z
   ·subst e
    rw[if_neg hz,if_pos rfl,if_pos rfl,zfS hz]
    rfl
   ·rw[if_neg e]
    by_cases e2:y ∈ p.1
    ·rw[if_pos e2];lia
    ·rw[if_neg e2,if_neg (fun q=>e q.symm),zfS e2];rfl
  ·rw[bu,aT]
theorem zhA:∀ (zs:List Str) (p:List Str × List Int),p.1.length=p.2.length->p.1.Nodup->(zs.foldl zeo p).1.Nodup/\(∀ y,(lkI (zs.foldl zeo p).1 (zs.foldl zeo p).2 y).getD 0=(lkI p.1 p.2 y).getD 0+(zs.count y:Nat))/\∀ y,y ∈ (zs.foldl zeo p).1 ↔ y ∈ p.1 \/ y ∈ zs
 | [],p,_,nd=>⟨nd,fun y=>by simp,fun y=>by simp⟩
 | z :: zs,p,h,nd=>by
  have tl:=(zh8 p z h).1
  have t:=fun y=>tput_lk p z y h nd
  obtain⟨a1,a2,a3⟩:=zhA zs (zeo p z) tl (t z).1
  refine⟨a1,fun y=>?_,fun y=>?_⟩
  ·rw[cc,a2,(t y).2.1,jZ]
   by_cases e:y=z
   ·subst e;rw[if_pos rfl,if_pos (by simp)];lia
   ·rw[if_neg e,if_neg (by simpa using fun q=>e q.symm)];lia
  ·rw[cc,a3,(t y).2.2,aN]
   constructor
   ·rintro ((h | h) | h)
    ·exact .inl h
    ·exact .inr (.inl h)
    ·exact .inr (.inr h)
   ·rintro (h | h | h)
    ·exact .inl (.inl h)
    ·exact .inl (.inr h)
    ·exact .inr h
theorem shr_ge(u v:List Nat)(long:Int)(G:List Str)(h1:G.Sublist (pcs u long))(h2:G.Sublist (pcs v long)):(G.length:Int)<=shr (tms u long) (tms v long):=by
 obtain⟨a1,a2,a3⟩:=zhA (pcs u long) ([],[]) rfl eY
 obtain⟨b1,b2,b3⟩:=zhA (pcs v long) ([],[]) rfl eY
 have e0:∀ y,(lkI [] [] y).getD 0=0:=fun y=>rfl
 have hu:∀ z,(lkI (tms u long).1 (tms u long).2 z).getD 0=((pcs u long).count z:Nat):=fun z=>by rw[show tms u long=(pcs u long).foldl zeo ([],[]) from rfl,a2];show 0+_=_;lia
 have hv:∀ z,(lkI (tms v long).1 (tms v long).2 z).getD 0=((pcs v long).count z:Nat):=fun z=>by rw[show tms v long=(pcs v long).foldl zeo ([],[]) from rfl,b2];show 0+_=_;lia
 have hs:∀ z,(G.count z:Int)<=shF (tms u long) (tms v long) z:=fun z=>by
  have c1:=h1.count_le z
  have c2:=h2.count_le z
  unfold shF
  rw[hu,hv]
  split <;> lia
 have hsum:=zg1 (tms u long).1 G a1 fun g hg=>(a3 g).mpr (.inr (h1.subset hg))
 unfold shr
 rw[<- hsum]
 generalize (tms u long).1=K
 clear a1 a3 hsum
 induction K with
 | nil=>exact dY _
 | cons z K ih=>
  rw[aE,fJ,aE,fJ]
  have:=hs z
  lia
section
open CE
theorem cutN(xs:List Nat)(a b:Nat)(h:a<=b)(hb:b<=xs.length):zbI xs (aa (a:Int)) (aa (b:Int))=(aq (b - a)).map fun x=>xs.getD (a+x) 0:=by
 unfold zbI
 rw[HT.sIx_nat,HT.sIx_nat,eP (aJ h hb),eP hb]
 refine fL ?_ fun i h1 h2=>?_
 ·rw[bB,cY,am,bz];lia
 ·rw[am,bz] at h2
  rw[List.getElem_take,jp,jG,List.getElem_range]
  rw[bE,aU (by lia)]
  rfl
abbrev ft0(w t:List Nat):Nat->Nat->Bool:=fun i j=>decide (t.getD j 0=w.getD i 0)
theorem fit0(w t:List Nat)(x y:Nat)(hx:x<w.length)(hy:y<t.length):ft0 w t x y=zdS (wP w) t x (0+y):=by
 rw[bq,fit_w hx hy]
 show decide (t.getD y 0=w.getD x 0)=_
 rw[bE,bE,aU hy,aU hx]
 rfl
variable {w t:List Nat}{s j:Nat}{c:Int}
theorem sg0(h:Sg (zdS (wP w) t) pl 0 s w.length j c)(hj:j<=t.length):Sg (ft0 w t) pl 0 s w.length j c:=by
 have:=h.shift (b0:=0) (m:=w.length) (l:=t.length) (fit':=ft0 w t) (fun x y hx hy=>fit0 w t x y hx hy) (ak _) (by lia) (aO _)
 simpa using this
def ptN(n M r:Nat):Nat:=r * n / (M+1)
theorem ptB(n M r:Nat):pB n (M:Int) r=(ptN n M r:Nat):=by
 unfold pB ptN
 rw[dI,jJ]
 push_cast
 rfl
theorem ptE(n M r:Nat):pE n (M:Int) r=(ptN n M (r+1):Nat):=by
 unfold pE ptN
 rw[dI,jJ]
 push_cast
 rfl
theorem parts_k3(M:Nat)(h:Sg (zdS (wP w) t) pl 0 s w.length j c)(hc:c<=M)(hj:j<=t.length):∃ q ∈ zeT w t (M:Int) (M+1),q.1<=s/\(j:Int)<=q.2:=by
 have h0:=sg0 h hj
 have e0:ptN w.length M 0=0:=by unfold ptN;simp
 have e1:ptN w.length M (M+1)=w.length:=by unfold ptN;exact Nat.mul_div_cancel_left _ (Nat.succ_pos M)
 have up:∀ r,ptN w.length M r<=ptN w.length M (r+1):=fun r=>Nat.div_le_div_right (Nat.mul_le_mul_right _ (cE r))
 rw[<- e0] at h0
 obtain⟨r,y,_,r2,⟨c1,c2,g1,g2,g3⟩,g4⟩:=Sg.part up (M+1) 0 h0 (by lia) (by rw[bq];exact e1)
 rw[e0] at g1
 have d1:=g1.dist
 have d2:=g2.dist
 have l1:=g1.le
 have l2:=g2.le
 have hb:=pBE w.length (m:=(M:Int)) (i:=r) (by lia)
 rw[ptB,ptE] at hb
 have hd:ptN w.length M (r+1)<=w.length:=by lia
 have hlen:y+(ptN w.length M (r+1) - ptN w.length M r)<=t.length:=by
  by_cases e:ptN w.length M r=ptN w.length M (r+1)
  ·lia
  ·have:=(g4 (ptN w.length M (r+1) - ptN w.length M r - 1) (by have:=up r;lia)).2
   lia
 have hst:stnd w t (pB w.length (M:Int) r) (pE w.length (M:Int) r) y=true:=by
  unfold stnd
  refine decide_eq_true ?_
  rw[ptB,ptE,dI,show((y:Int)+(((ptN w.length M (r+1):Nat):Int) - ((ptN w.length M r:Nat):Int)))=((y+(ptN w.length M (r+1) - ptN w.length M r):Nat):Int) by have:=up r;lia,cutN t y _ (by lia) hlen,cutN w _ _ (up r) hd,dO]
  refine bX fun x hx=>?_
  have hx':=bR.mp hx
  exact of_decide_eq_true (g4 x (by lia)).1
 have hpl:y ∈ plc w t (pB w.length (M:Int) r) (pE w.length (M:Int) r):=by
  unfold plc
  refine dP.mpr ⟨bR.mpr ?_,hst⟩
  rw[ptB,ptE]
  have:=up r
  lia
 refine⟨spr w.length (M:Int) t.length (pB w.length (M:Int) r) y,?_,?_,?_⟩
 ·unfold zeT
  exact jK.mpr ⟨r,bR.mpr (by lia),cv.mpr ⟨y,hpl,rfl⟩⟩
 ·unfold spr
  rw[ptB]
  dsimp only
  split <;> lia
 ·unfold spr
  rw[ptB]
  dsimp only
  split <;> lia
theorem parts_ok2(w t:List Nat)(M:Nat):∀ p ∈ zeT w t (M:Int) (M+1),0<=p.1/\p.1<=p.2/\p.2<=(t.length:Int):=by
 intro p hp
 unfold zeT at hp
 obtain⟨r,hr,hp⟩:=jK.mp hp
 obtain⟨y,hy,rfl⟩:=cv.mp hp
 have hr':=bR.mp hr
 have hb:=pBE w.length (m:=(M:Int)) (i:=r) (by lia)
 have hy1:=bR.mp (dP.mp hy).1
 unfold spr
 dsimp only
 refine⟨?_,?_,?_⟩ <;> (repeat' split) <;> lia
theorem pcs_eq(xs:List Nat)(q:Nat)(f:Nat->Nat)(lo hi:Nat)(hl:xs.length=hi - lo)(hf:∀ i,i<xs.length->xs.getD i 0=f (lo+i)):pcs xs (q:Int)=(pcsL q f lo hi).map mkS:=by
 unfold pcs pcsL
 rw[db,show((xs.length:Int) - (q:Int)+1).toNat=hi - lo+1 - q by lia]
 refine bX fun p hp=>?_
 have hp':=bR.mp hp
 rw[dI,show((p:Int)+(q:Int))=((p+q:Nat):Int) by lia,cutN xs p (p+q) (by lia) (by lia),dO]
 show mkS _=mkS _
 congr 1
 refine bX fun x hx=>?_
 have hx':=bR.mp hx
 rw[hf _ (by lia),kj]
theorem pieces_k3(M q:Nat)(hq:1<=q)(h:Sg (zdS (wP w) t) pl 0 s w.length j c)(hc:c<=M)(hj:j<=t.length):∃ p ∈ fnd (zb4 w t (M:Int) (q:Int)) w.length (M:Int) (t.length+1),p.1<=s/\(j:Int)<=p.2:=by
 have h0:=sg0 h hj
 have d:=h0.dist
 have l:=h0.le
 obtain⟨lo,hlo,hlo2,hlo3⟩:∃ lo:Nat,wb w.length (M:Int) j=lo/\lo<=s/\lo<=j:=by
  refine⟨(wb w.length (M:Int) j).toNat,?_,?_,?_⟩ <;> unfold wb <;> split <;> lia
 obtain⟨G,r,g1,g2,_,_,_,g3⟩:=Sg.pieces (q:=q) (lo:=lo) (w:=fun i=>w.getD i 0) (t:=fun j=>t.getD j 0) hq h0 hlo2
 have hwin:win w t (M:Int) j=(aq (j - lo)).map fun x=>t.getD (lo+x) 0:=by
  unfold win
  rw[hlo,dI]
  exact cutN t lo j hlo3 hj
 have wl:(win w t (M:Int) j).length=j - lo:=by rw[hwin,am,bz]
 have e1:=pcs_eq w q (fun i=>w.getD i 0) 0 w.length (by lia) fun i _=>by rw[bq]
 have e2:=pcs_eq (win w t (M:Int) j) q (fun j=>t.getD j 0) lo j wl fun i hi=>by
  rw[wl] at hi
  rw[hwin,bE,aD,bC hi]
  rfl
 have sg:=shr_ge w (win w t (M:Int) j) (q:Int) (G.map mkS) (by rw[e1];exact g1.map _) (by rw[e2];exact g2.map _)
 rw[am] at sg
 have hen:zb4 w t (M:Int) (q:Int) j=true:=by
  unfold zb4
  refine decide_eq_true ?_
  have m1:min r (q - 1)<=q - 1:=eA _ _
  have m2:c * (q:Int)<=(M:Int) * (q:Int):=dW hc (by lia)
  generalize c * (q:Int)=cq at g3 m2
  generalize (M:Int) * (q:Int)=mq at m2 ⊢
  lia
 refine⟨wPr w.length (M:Int) j,?_,?_,?_⟩
 ·unfold fnd
  exact cv.mpr ⟨j,dP.mpr ⟨bR.mpr (by lia),hen⟩,rfl⟩
 ·show wb w.length (M:Int) j<=s
  lia
 ·show(j:Int)<=0+(j:Int)
  lia
theorem ziF(w t:List Nat)(M:Nat)(P:Nat->Bool):∀ p ∈ fnd P w.length (M:Int) (t.length+1),0<=p.1/\p.1<=p.2/\p.2<=(t.length:Int):=by
 intro p hp
 unfold fnd at hp
 obtain⟨e,he,rfl⟩:=cv.mp hp
 have he':=bR.mp (dP.mp he).1
 show 0<=wb w.length (M:Int) e/\wb w.length (M:Int) e<=0+(e:Int)/\0+(e:Int)<=(t.length:Int)
 unfold wb
 split <;> lia
end
section
open CE
def zfk(M:Int)(x:Option Int)(j:Nat):List (Int × Int):=match x with
 | some x=>if x<=M then [((j:Int),x)] else []
 | none=>[]
theorem seD_pr(M:Int)(x:Option Int)(j:Nat):seD M x j=(zfk M x j).map prD:=by
 unfold seD zfk
 cases x with
 | none=>rfl
 | some x=>
  dsimp only
  split <;> rfl
abbrev cW(w t:List Nat)(j:Nat):Option Int:=cel (zdS (wP w) t) pl true w.length j
def wE(w t:List Nat)(M:Int)(a b:Nat):List (Int × Int):=(dD a (b - a)).flatMap fun j=>zfk M (cW w t j) j
theorem wE_app(w t:List Nat)(M:Int){a b c:Nat}(h1:a<=b)(h2:b<=c):wE w t M a b ++ wE w t M b c=wE w t M a c:=by
 unfold wE
 rw[<- eO,show c - a=(b - a)+(c - b) by lia,<- iS,show a+(b - a)=b by lia]
def sE(w t:List Nat)(M:Int)(p:Int × Int):List (Int × Int):=(aq ((p.2 - p.1).toNat+1)).flatMap fun j=>zfk M (cW w (zbI t (aa p.1) (aa p.2)) j) (p.1.toNat+j)
variable {w t:List Nat}{M:Int}{K:List (Int × Int)}(kp:Kp (t.length:Int) K)
 (k3:∀ (s j:Nat) (c:Int),Sg (zdS (wP w) t) pl 0 s w.length j c->c<=M->j<=t.length->∃ p ∈ K,p.1<=(s:Int)/\(j:Int)<=p.2)
include kp k3
theorem kept_cell{b e:Nat}(hp:((b:Int),(e:Int)) ∈ K){j:Nat}(hj:j<=e - b):zfk M (cW w (zbI t (aa (b:Int)) (aa (e:Int))) j) (b+j)=zfk M (cW w t (b+j)) (b+j):=by
 obtain⟨_,o2,o3⟩:=kp.ok _ hp
 have hbe:b<=e:=by have:(b:Int)<=e:=o2;lia
 have hen:e<=t.length:=by have:(e:Int)<=t.length:=o3;lia
 rw[cutN t b e hbe hen]
 generalize hT:(aq (e - b)).map (fun x=>t.getD (b+x) 0)=T'
 have hf:∀ x y,x<w.length->y<e - b->zdS (wP w) T' x y=zdS (wP w) t x (b+y):=fun x y _ hy=>by
  unfold zdS
  have:T'.getD y 0=t.getD (b+y) 0:=by rw[<- hT,bE,aD,bC hy];rfl
  rw[this]
 have up:∀ x',cW w T' j=aa x'->∃ x,cW w t (b+j)=aa x/\x<=x':=fun x' hx=>by
  obtain⟨s',hs,g⟩:=Ld.sgF (zhz pl_ok hx).1
  exact ld_cel pl_ok (Sg.ldF (g.back (b0:=b) (m:=w.length) (l:=e - b) hf (ak _) hj))
 have dn:∀ x,cW w t (b+j)=aa x->x<=M->∃ x',cW w T' j=aa x'/\x'<=x:=fun x hx hM=>by
  obtain⟨s,hs,g⟩:=Ld.sgF (zhz pl_ok hx).1
  obtain⟨q,hq,q1,q2⟩:=k3 s (b+j) x g hM (by lia)
  have hqe:b<=s:=by
   have ok:=kp.ok q hq
   rcases cH.mp kp.apart with pw
   obtain⟨i1,hi1,e1⟩:=eG.mp hq
   obtain⟨i2,hi2,e2⟩:=eG.mp hp
   by_cases hii:i1=i2
   ·subst hii
    rw[e1] at e2
    rw[e2] at q1
    have:(b:Int)<=s:=q1
    lia
   ·rcases Nat.lt_or_gt_of_ne hii with hlt | hlt
    ·have:=pw i1 i2 hi1 hi2 hlt
     rw[e1,e2] at this
     have:q.2<(b:Int):=this
     lia
    ·have:=pw i2 i1 hi2 hi1 hlt
     rw[e1,e2] at this
     have:(e:Int)<q.1:=this
     lia
  have g':=g.shift (b0:=b) (m:=w.length) (l:=e - b) (fit':=zdS (wP w) T') hf (ak _) (by lia) hqe
  rw[dO] at g'
  exact ld_cel pl_ok (Sg.ldF g')
 unfold zfk
 cases h1:cW w t (b+j) with
 | none=>
  cases h2:cW w T' j with
  | none=>rfl
  | some x'=>obtain⟨x,hx,_⟩:=up x' h2;rw[h1] at hx;cases hx
 | some x=>
  by_cases hM:x<=M
  ·obtain⟨x',h2,h3⟩:=dn x h1 hM
   obtain⟨x2,h4,h5⟩:=up x' h2
   rw[h1] at h4
   cases h4
   have:x'=x:=by lia
   subst this
   rw[h2]
  ·cases h2:cW w T' j with
   | none=>dsimp only;rw[if_neg hM]
   | some x'=>
    obtain⟨x2,h4,h5⟩:=up x' h2
    rw[h1] at h4
    cases h4
    dsimp only
    rw[if_neg hM,if_neg (by lia)]
theorem sE_eq{p:Int × Int}(hp:p ∈ K):sE w t M p=wE w t M p.1.toNat (p.2.toNat+1):=by
 obtain⟨o1,o2,o3⟩:=kp.ok p hp
 obtain⟨p1,p2⟩:=p
 dsimp only at o1 o2 o3
 obtain⟨b,rfl⟩:=bv o1
 obtain⟨e,rfl⟩:=bv (dH o1 o2)
 unfold sE wE
 dsimp only
 rw[show((b:Nat):Int).toNat=b by lia,show((e:Nat):Int).toNat=e by lia,show(((e:Nat):Int) - ((b:Nat):Int)).toNat=e - b by lia,show e+1 - b=e - b+1 by lia,List.range'_eq_map_range,List.flatMap_map]
 have key:∀ l:List Nat,(∀ j ∈ l,j<=e - b)->(l.flatMap fun j=>zfk M (cW w (zbI t (aa (b:Int)) (aa (e:Int))) j) (b+j))=l.flatMap fun a=>zfk M (cW w t (b+a)) (b+a):=fun l=>by
  induction l with
  | nil=>intro _;rfl
  | cons j l ih=>
   intro hl
   rw[cN,cN,ih fun x hx=>hl x (al _ hx),kept_cell kp k3 hp (hl j av)]
 exact key _ fun j hj=>by have:=bR.mp hj;lia
omit kp k3 in
theorem wE_none{a b:Nat}(h:∀ j,a<=j->j<b->zfk M (cW w t j) j=[]):wE w t M a b=[]:=by
 unfold wE
 refine List.flatMap_eq_nil_iff.mpr fun j hj=>?_
 rw[List.mem_range'_1] at hj
 exact h j hj.1 (by lia)
theorem zhT:∀ (L:List (Int × Int)) (lo:Nat),(∀ p ∈ L,p ∈ K)->(L.Pairwise fun p q=>p.2<q.1)->(∀ p ∈ L,(lo:Int)<=p.1)->(∀ j,lo<=j->j<=t.length->zfk M (cW w t j) j ≠ []->∃ p ∈ L,p.1<=(j:Int)/\(j:Int)<=p.2)->lo<=t.length+1->L.flatMap (sE w t M)=wE w t M lo (t.length+1)
 | [],lo,_,_,_,h,_=>(wE_none fun j h1 h2=>dC fun hc=>by obtain⟨p,hp,_⟩:=h j h1 (by lia) hc;cases hp).symm
 | p :: L,lo,hK,pw,hlo,h,hn=>by
  obtain⟨pw1,pw2⟩:=eV.mp pw
  have hpK:=hK p av
  obtain⟨o1,o2,o3⟩:=kp.ok p hpK
  have l1:=hlo p av
  have ih:=zhT L (p.2.toNat+1) (fun q hq=>hK q (al _ hq)) pw2 (fun q hq=>by have:=pw1 q hq;lia) (fun j h1 h2 h3=>by
   obtain⟨q,hq,q1,q2⟩:=h j (by lia) h2 h3
   rcases aN.mp hq with rfl | hq
   ·lia
   ·exact⟨q,hq,q1,q2⟩) (by lia)
  rw[cN,ih,sE_eq kp k3 hpK]
  have gap:wE w t M lo p.1.toNat=[]:=wE_none fun j h1 h2=>dC fun hc=>by
   obtain⟨q,hq,q1,q2⟩:=h j h1 (by lia) hc
   rcases aN.mp hq with rfl | hq
   ·lia
   ·have:=pw1 q hq;lia
  rw[wE_app w t M (show p.1.toNat<=p.2.toNat+1 by lia) (show p.2.toNat+1<=t.length+1 by lia)]
  have:=wE_app w t M (show lo<=p.1.toNat by lia) (show p.1.toNat<=t.length+1 by lia)
  rw[gap,cO] at this
  exact this
theorem kept_same:K.flatMap (sE w t M)=wE w t M 0 (t.length+1):=by
 refine zhT kp k3 K 0 (fun _ h=>h) kp.apart (fun p hp=>(kp.ok p hp).1) (fun j _ hj hne=>?_) (aO _)
 cases hx:cW w t j with
 | none=>rw[hx] at hne;exact absurd rfl hne
 | some x=>
  rw[hx] at hne
  by_cases hM:x<=M
  ·obtain⟨s,hs,g⟩:=Ld.sgF (zhz pl_ok hx).1
   obtain⟨p,hp,p1,p2⟩:=k3 s j x g hM hj
   exact⟨p,hp,by lia,p2⟩
  ·exact absurd (by unfold zfk;dsimp only;rw[if_neg hM]) hne
end
section
open CE
theorem patn_eq(w:List Nat)(h:w.length<=1000):zaK [.str (mkS w)]=aa (.val (.tup ((wP w).map .str))):=by
 have hl:(mkS w).length<=1000000:=by rw[zaJ];lia
 simp (disch:=omega) only[zaK,zcU,stE,stN,jqc,jqa,zde,zb9,eCB,zaa,zab,aF,jqk,zae,toN,jqe,gTupS,sOf,zaY,sgn_mkS,zaf,zg6,wP]
theorem told_eq(w t:List Nat)(M:Int):seR (wP w) t pl M 0 (t.length+1)=(wE w t M 0 (t.length+1)).map prD:=by
 unfold seR wE
 rw[jL]
 congr 1
 funext j
 rw[seD_pr,wP_len]
theorem wE_len(w t:List Nat)(M:Int)(a b:Nat):(wE w t M a b).length<=b - a:=by
 have:∀ l:List Nat,(l.flatMap fun j=>zfk M (cW w t j) j).length<=l.length:=fun l=>by
  induction l with
  | nil=>simp
  | cons x l ih=>
   have h1:(zfk M (cW w t x) x).length<=1:=by
    unfold zfk
    split
    ·split <;> simp
    ·simp
   rw[cN,ay,aI]
   lia
 have h:=this (dD a (b - a))
 rwa [List.length_range'] at h
theorem zhx(w t:List Nat)(M:Int)(hw:w.length<=1000)(ht:t.length<=900):zbo [.tup ((wP w).map .str),.str (mkS t),.int M,.tup pl.ds]=aa (.val (.tup ((wE w t M 0 (t.length+1)).map prD))):=by
 rw[<- told_eq]
 exact ends_ok (wP w) t pl (by rw[wP_len];lia) (by lia) M
def shf(b:Int)(p:Int × Int):Int × Int:=(b+p.1,p.2)
theorem sePr_shf(M:Int)(x:Option Int)(b j:Nat):zfk M x (b+j)=(zfk M x j).map (shf b):=by
 unfold zfk
 cases x with
 | none=>rfl
 | some x=>
  dsimp only
  split
  ·rw[jg];unfold shf;congr 2
  ·rfl
theorem sE_shf(w t:List Nat)(M:Int){b e:Nat}(h:b<=e)(he:e<=t.length):(wE w (zbI t (aa (b:Int)) (aa (e:Int))) M 0 ((zbI t (aa (b:Int)) (aa (e:Int))).length+1)).map (shf b)=sE w t M ((b:Int),(e:Int)):=by
 have hl:(zbI t (aa (b:Int)) (aa (e:Int))).length=e - b:=by rw[cutN t b e h he,am,bz]
 unfold wE sE
 rw[hl,jL,kU,<- iU]
 dsimp only
 rw[show(((e:Nat):Int) - ((b:Nat):Int)).toNat=e - b by lia,show((b:Nat):Int).toNat=b by lia]
 congr 1
 funext j
 exact(sePr_shf M _ b j).symm
theorem zij(δ:En)(b:Int)(h:δ[3]? = aa (aa (.val (.int b)))):∀ ps:List (Int × Int),zcv (fun d=>(two d).bind fun p=>zcK (ziC [3] δ p.1 p.2)) (fun d=>(two d).bind fun p=>zaN (ziC [3] δ p.1 p.2)) (ps.map prD)=aa ((ps.map (shf b)).map prD)
 | []=>rfl
 | p :: ps=>by
  have hE:ziC [3] δ (.int p.1) (.int p.2)=[aa (.val (.int p.1)),aa (.val (.int p.2)),aa (.val (.int b))]:=by
   simp only[ziC,aE,b5,h,eK,aQ,capt]
  have hC:zaN (ziC [3] δ (.int p.1) (.int p.2))=aa (.val (prD (shf b p))):=by
   rw[hE]
   exact tup2 (zfo rfl rfl) rfl
  rw[aE,zcv,zij δ b h ps]
  show(bY (aa true) fun q=>if q=true then ((zaN (ziC [3] δ (.int p.1) (.int p.2))).bind asV).bind fun y=>_ else _)=_
  rw[hC]
  rfl
theorem ziK(w t:List Nat)(M:Int){b e:Nat}(h:b<=e)(he:e<=t.length)(hw:w.length<=1000)(ht:t.length<=900):zbe [.str (mkS w),.int M,.str (mkS t),.int (b:Int),.int (e:Int)]=aa (.own ((sE w t M ((b:Int),(e:Int))).map prD)):=by
 have hl:(zbI t (aa (b:Int)) (aa (e:Int))).length<=900:=aJ (zeH _ _ _) ht
 have c0:tOf (ex2 gGt (zab 3) (zab 4)) [aa (.val (.str (mkS w))),aa (.val (.int M)),aa (.val (.str (mkS t))),aa (.val (.int (b:Int))),aa (.val (.int (e:Int))),ab]=aa false:=by
  have hn:¬ ((b:Int) > (e:Int)):=by lia
  simp only[tOf,ex2,zab,jqf,jqe,gGt,pI0,iOf,jqa,jqc,hn,jqz,bOf]
 have z1:zag [.v] zaK (zaa (zab 0) zae) [aa (.val (.str (mkS w))),aa (.val (.int M)),aa (.val (.str (mkS t))),aa (.val (.int (b:Int))),aa (.val (.int (e:Int))),ab]=aa (.val (.tup ((wP w).map .str))):=by
  have:=patn_eq w hw
  simp only[zag,zaa,zab,jqe,zae,jqc,jqa,zbg,zcx,asV,this]
 have z2:eSl zdu (zab 2) (oSo (zab 3)) (oSo (zab 4)) [aa (.val (.str (mkS w))),aa (.val (.int M)),aa (.val (.str (mkS t))),aa (.val (.int (b:Int))),aa (.val (.int (e:Int))),ab]=aa (.val (.str (mkS (zbI t (aa (b:Int)) (aa (e:Int)))))):=zhP t _ _ (by lia) rfl rfl rfl
 have ee:=zhx w (zbI t (aa (b:Int)) (aa (e:Int))) M hw hl
 have s5:zag [.v,.v,.v,.t] zbo (zaa (zag [.v] zaK (zaa (zab 0) zae)) (zaa (eSl zdu (zab 2) (oSo (zab 3)) (oSo (zab 4))) (zaa (zab 1) (zaa (eB ([1,1,1,0].map .int)) zae)))) [aa (.val (.str (mkS w))),aa (.val (.int M)),aa (.val (.str (mkS t))),aa (.val (.int (b:Int))),aa (.val (.int (e:Int))),ab]=aa (.val (.tup ((wE w (zbI t (aa (b:Int)) (aa (e:Int))) M 0 ((zbI t (aa (b:Int)) (aa (e:Int))).length+1)).map prD))):=by
  generalize (wE w (zbI t (aa (b:Int)) (aa (e:Int))) M 0 ((zbI t (aa (b:Int)) (aa (e:Int))).length+1)).map prD=R at ee
  generalize zag [.v] zaK (zaa (zab 0) zae)=E1 at z1
  generalize eSl zdu (zab 2) (oSo (zab 3)) (oSo (zab 4))=E2 at z2
  generalize (wP w).map D.str=pp at z1 ee
  have hb:eB (([1,1,1,0]:List Int).map .int) [aa (.val (.str (mkS w))),aa (.val (.int M)),aa (.val (.str (mkS t))),aa (.val (.int (b:Int))),aa (.val (.int (e:Int))),ab]=aa (.bt pl.ds):=rfl
  generalize eB (([1,1,1,0]:List Int).map .int)=E3 at hb
  generalize pl.ds=pd at hb ee
  simp only[zag,zaa,z1,z2,zab,jqf,jqe,hb,zae,jqc,jqa,zbg,zcx,asV,asT,ee]
 have hn:=wE_len w (zbI t (aa (b:Int)) (aa (e:Int))) M 0 ((zbI t (aa (b:Int)) (aa (e:Int))).length+1)
 generalize hps:wE w (zbI t (aa (b:Int)) (aa (e:Int))) M 0 ((zbI t (aa (b:Int)) (aa (e:Int))).length+1)=ps at s5 hn
 have hsE:=sE_shf w t M h he
 rw[hps] at hsE
 have e3:eL2 [3] (iT (zab 5)) zcK zaN [aa (.val (.str (mkS w))),aa (.val (.int M)),aa (.val (.str (mkS t))),aa (.val (.int (b:Int))),aa (.val (.int (e:Int))),aa (.val (.tup (ps.map prD)))]=aa (.own ((sE w t M ((b:Int),(e:Int))).map prD)):=by
  unfold eL2
  show(zcv _ _ (ps.map prD)).bind _=_
  rw[zij _ (b:Int) rfl ps,hsE]
  show(if _ then _ else _)=_
  rw[if_pos (by rw[<- hsE,am,am];lia)]
 have hF:zbE [aa (.val (.str (mkS w))),aa (.val (.int M)),aa (.val (.str (mkS t))),aa (.val (.int (b:Int))),aa (.val (.int (e:Int))),ab]=aa (.rt (.own ((sE w t M ((b:Int),(e:Int))).map prD)) [aa (.val (.str (mkS w))),aa (.val (.int M)),aa (.val (.str (mkS t))),aa (.val (.int (b:Int))),aa (.val (.int (e:Int))),aa (.val (.tup (ps.map prD)))]):=by
  refine(show zbE _=_ from zbh (fIfF c0)).trans ((zbw s5).trans ?_)
  show zb9 _ _=_
  unfold zb9
  rw[show([aa (Ent.val (.str (mkS w))),aa (.val (.int M)),aa (.val (.str (mkS t))),aa (.val (.int (b:Int))),aa (.val (.int (e:Int))),ab]:En).set 5 (aa (.val (.tup (ps.map prD))))=[aa (.val (.str (mkS w))),aa (.val (.int M)),aa (.val (.str (mkS t))),aa (.val (.int (b:Int))),aa (.val (.int (e:Int))),aa (.val (.tup (ps.map prD)))] from rfl,e3]
  rfl
 exact(congrArg (fun o=>bY o _) hF).trans rfl
theorem extI{i:Nat}{fe:FE}{δ:En}{ds es:List D}(h0:δ[i]? = aa (aa (.own ds)))(h:fe δ=aa (.own es))(hl:ds.length+es.length<=1000000):fExt i fe δ=aa (.nx (δ.set i (aa (.own (ds ++ es))))):=by
 unfold fExt
 rw[h0]
 dsimp only
 rw[h]
 simp only[aQ]
 rw[show gif (sz (ds.length+es.length)) _=_ from by rw[zaY hl,zaf]]
theorem sE_len(w t:List Nat)(M:Int)(p:Int × Int):(sE w t M p).length<=(p.2 - p.1).toNat+1:=by
 unfold sE
 have:∀ l:List Nat,(l.flatMap fun j=>zfk M (cW w (zbI t (aa p.1) (aa p.2)) j) (p.1.toNat+j)).length<=l.length:=fun l=>by
  induction l with
  | nil=>simp
  | cons x l ih=>
   have h1:(zfk M (cW w (zbI t (aa p.1) (aa p.2)) x) (p.1.toNat+x)).length<=1:=by
    unfold zfk
    split
    ·split <;> simp
    ·simp
   rw[cN,ay,aI]
   lia
 have h:=this (aq ((p.2 - p.1).toNat+1))
 rwa [bz] at h
theorem zha(w t:List Nat)(M n:Int):∀ (L:List (Int × Int)) (lo:Int),(L.Pairwise fun p q=>p.2<q.1)->(∀ p ∈ L,lo<=p.1/\p.1<=p.2/\p.2<=n)->lo<=n+1->((L.flatMap (sE w t M)).length:Int)<=n+1 - lo
 | [],lo,_,_,h=>by show(0:Int)<=_;lia
 | p :: L,lo,pw,ho,_=>by
  obtain⟨pw1,pw2⟩:=eV.mp pw
  obtain⟨o1,o2,o3⟩:=ho p av
  have ih:=zha w t M n L (p.2+1) pw2 (fun q hq=>⟨by have:=pw1 q hq;lia,(ho q (al _ hq)).2⟩) (by lia)
  have h1:=sE_len w t M p
  rw[cN,ay]
  lia
theorem zgt(w t:List Nat)(M:Int)(x3:Option Ent)(hw:w.length<=1000)(ht:t.length<=900):∀ (L:List (Int × Int)) (acc:List (Int × Int)) (x5 x6:Option Ent),(∀ p ∈ L,0<=p.1/\p.1<=p.2/\p.2<=(t.length:Int))->acc.length+(L.flatMap (sE w t M)).length<=1000000->∃ y5 y6,
  loop (gTp (zba (gNm 5) (zba (gNm 6) zdZ))) zbG (L.map prD) [aa (.val (.str (mkS w))),aa (.val (.int M)),aa (.val (.str (mkS t))),x3,aa (.own (acc.map prD)),x5,x6] =
  aa (.nx [aa (.val (.str (mkS w))),aa (.val (.int M)),aa (.val (.str (mkS t))),x3,aa (.own ((acc ++ L.flatMap (sE w t M)).map prD)),y5,y6])
 | [],acc,x5,x6,_,_=>⟨x5,x6,by rw[jM,bF];rfl⟩
 | p :: L,acc,x5,x6,ho,hl=>by
  obtain⟨o1,o2,o3⟩:=ho p av
  rw[cN,ay] at hl
  obtain⟨y5,y6,e⟩:=zgt w t M x3 hw ht L (acc ++ sE w t M p) (aa (.val (.int p.1))) (aa (.val (.int p.2))) (fun q hq=>ho q (al _ hq)) (by rw[ay];lia)
  have st:zbG [aa (.val (.str (mkS w))),aa (.val (.int M)),aa (.val (.str (mkS t))),x3,aa (.own (acc.map prD)),aa (.val (.int p.1)),aa (.val (.int p.2))]=aa (.nx [aa (.val (.str (mkS w))),aa (.val (.int M)),aa (.val (.str (mkS t))),x3,aa (.own ((acc ++ sE w t M p).map prD)),aa (.val (.int p.1)),aa (.val (.int p.2))]):=by
   obtain⟨p1,p2⟩:=p
   dsimp only at o1 o2 o3
   obtain⟨b,rfl⟩:=bv o1
   obtain⟨f,rfl⟩:=bv (dH o1 o2)
   have v5:=max2 (A:=zab 5) (B:=eC (.int 0)) (δ:=[aa (.val (.str (mkS w))),aa (.val (.int M)),aa (.val (.str (mkS t))),x3,aa (.own (acc.map prD)),aa (.val (.int (b:Int))),aa (.val (.int (f:Int)))]) rfl rfl
   rw[if_neg (by lia)] at v5
   have v6:=min2 (A:=zab 6) (B:=eCB zaX (zaa (zab 2) zae)) (δ:=[aa (.val (.str (mkS w))),aa (.val (.int M)),aa (.val (.str (mkS t))),x3,aa (.own (acc.map prD)),aa (.val (.int (b:Int))),aa (.val (.int (f:Int)))]) rfl (zhr rfl (zaJ t) (by lia))
   rw[if_neg (by lia)] at v6
   have se:=ziK w t M (b:=b) (e:=f) (by lia) (by lia) hw ht
   have hc:zag [.v,.v,.v,.v,.v] zbe (zaa (zab 0) (zaa (zab 1) (zaa (zab 2) (zaa (eCB zgz (zaa (zab 5) (zaa (eC (.int 0)) zae))) (zaa (eCB zgv (zaa (zab 6) (zaa (eCB zaX (zaa (zab 2) zae)) zae))) zae))))) [aa (.val (.str (mkS w))),aa (.val (.int M)),aa (.val (.str (mkS t))),x3,aa (.own (acc.map prD)),aa (.val (.int (b:Int))),aa (.val (.int (f:Int)))]=aa (.own ((sE w t M ((b:Int),(f:Int))).map prD)):=by
    generalize (sE w t M ((b:Int),(f:Int))).map prD=R at se
    generalize eCB zgz (zaa (zab 5) (zaa (eC (.int 0)) zae))=E5 at v5
    generalize eCB zgv (zaa (zab 6) (zaa (eCB zaX (zaa (zab 2) zae)) zae))=E6 at v6
    simp only[zag,zaa,zab,jqe,jqf,v5,v6,zae,jqc,jqa,zbg,zcx,asV,se]
   refine(show zbG _=_ from extI (ds:=acc.map prD) rfl hc (by rw[am,am];lia)).trans ?_
   rw[bM]
   rfl
  refine⟨y5,y6,?_⟩
  rw[bG] at e
  exact(zbM rfl st).trans e
theorem kept_eq(w t:List Nat)(M:Int)(K:List (Int × Int))(kp:Kp (t.length:Int) K)(hw:w.length<=1000)(ht:t.length<=900):zbt [.str (mkS w),.int M,.str (mkS t),.tup (K.map prD)]=aa (.val (.tup ((K.flatMap (sE w t M)).map prD))):=by
 have tl:=zha w t M (t.length:Int) K 0 kp.apart kp.ok (by lia)
 obtain⟨y5,y6,e⟩:=zgt w t M (aa (.val (.tup (K.map prD)))) hw ht K [] ab ab kp.ok (by rw[cQ];lia)
 rw[cO] at e
 have hF:zcj [aa (.val (.str (mkS w))),aa (.val (.int M)),aa (.val (.str (mkS t))),aa (.val (.tup (K.map prD))),ab,ab,ab]=aa (.rt (.val (.tup ((K.flatMap (sE w t M)).map prD))) [aa (.val (.str (mkS w))),aa (.val (.int M)),aa (.val (.str (mkS t))),aa (.val (.tup (K.map prD))),aa (.own ((K.flatMap (sE w t M)).map prD)),y5,y6]):=by
  refine(show zcj _=_ from zbh (zef (show zcg zae _=aa (.own []) from rfl))).trans ((forN (ds:=K.map prD) rfl e).trans (zf0 ?_))
  have hz:((K.flatMap (sE w t M)).map prD).length<=1000000:=by rw[am];lia
  generalize (K.flatMap (sE w t M)).map prD=R at hz
  simp only[eCB,zaa,zab,jqf,jqe,zae,jqc,jqa,zc4,asL]
 exact(congrArg (fun o=>bY o _) hF).trans rfl
end
section
open CE
theorem counts_eq(w t:List Nat)(m:Int)(hm:0<=m/\m<=1000)(hw:w.length<=1000)(ht:t.length<=900):zaZ [.str (mkS w),.int m,.str (mkS t)]=aa (.val (.tup ((jnd (zdQ (fnd (zb4 w t m 1) w.length m (t.length+1)))).map prD))):=by
 have h:=kept_ok w t m 1 (by decide) hm hw ht
 generalize (jnd (zdQ (fnd (zb4 w t m 1) w.length m (t.length+1)))).map prD=R at h
 simp only[zaZ,zcU,stE,stN,jqc,jqa,zct,zb9,zag,zaa,zab,aF,jqk,eC,zae,toN,jqe,jqf,zbg,zcx,asV,h,zg6]
structure Sv(w t:List Nat)(M:Int)(K:List (Int × Int)):Prop where
 kp:Kp (t.length:Int) K
 k3:∀ (s j:Nat) (c:Int),Sg (zdS (wP w) t) pl 0 s w.length j c->c<=M->j<=t.length->∃ p ∈ K,p.1<=(s:Int)/\(j:Int)<=p.2
theorem sv_parts(w t:List Nat)(M:Nat):Sv w t M (jnd (zdQ (zeT w t M (M+1)))):=by
 obtain⟨h1,h2⟩:=jnd_kp (n:=(t.length:Int)) (zeT w t M (M+1)) (parts_ok2 w t M)
 refine⟨h1,fun s j c g hc hj=>?_⟩
 obtain⟨q,hq,q1,q2⟩:=parts_k3 M g hc hj
 obtain⟨r,hr,r1,r2⟩:=h2 q hq
 exact⟨r,hr,by lia,by lia⟩
theorem zgY(w t:List Nat)(M q:Nat)(hq:1<=q):Sv w t M (jnd (zdQ (fnd (zb4 w t M q) w.length M (t.length+1)))):=by
 obtain⟨h1,h2⟩:=jnd_kp (n:=(t.length:Int)) (fnd (zb4 w t M q) w.length M (t.length+1)) (ziF w t M _)
 refine⟨h1,fun s j c g hc hj=>?_⟩
 obtain⟨p,hp,p1,p2⟩:=pieces_k3 M q hq g hc hj
 obtain⟨r,hr,r1,r2⟩:=h2 p hp
 exact⟨r,hr,by lia,by lia⟩
variable {w t:List Nat}{M:Int}(hw:w.length<=1000)(ht:t.length<=900)
include hw ht
theorem zfJ{K:List (Int × Int)}(sv:Sv w t M K)(a b x5 x7 x8 x10 x11 x12 x13 x14 x15:Option Ent) :
  zeD [a,b,aa (.val (.str (mkS w))),aa (.val (.int M)),aa (.val (.str (mkS t))),x5,aa (.own ((wE w t M 0 (t.length+1)).map prD)),x7,x8,aa (.val (.tup (K.map prD))),x10,x11,x12,x13,x14,x15] =
  aa (.nx [a,b,aa (.val (.str (mkS w))),aa (.val (.int M)),aa (.val (.str (mkS t))),x5,aa (.own ((wE w t M 0 (t.length+1)).map prD)),x7,x8,aa (.val (.tup (K.map prD))),x10,x11,x12,x13,x14,x15]):=by
 have e1:=kept_eq w t M K sv.kp hw ht
 rw[kept_same sv.kp sv.k3] at e1
 have hl:=wE_len w t M 0 (t.length+1)
 have e2:=ziu (wE w t M 0 (t.length+1)) (by lia)
 generalize (wE w t M 0 (t.length+1)).map prD=R at e1 e2 ⊢
 generalize K.map prD=KK at e1 ⊢
 simp only[zeD,fIf,fNot,tOf,zag,zaa,zab,jqf,jqe,zae,jqc,jqa,zbg,zcx,asV,e1,asL,e2,bOf,jqt,zb9,eC,toN,fNx,jqr,jrb]
theorem due_in(a b c x5 x7 x8 x9 x10 x11 x13:Option Ent)(x3 x4:Option Ent)(lo:Int):∀ (ps acc:List (Int × Int)) (x14 x15:Option Ent),acc.length+ps.length<1000000->∃ y14 y15,
  loop (gTp (zba (gNm 14) (zba (gNm 15) zdZ))) zf3 (ps.map prD) [a,b,c,x3,x4,x5,aa (.own (acc.map prD)),x7,x8,x9,x10,x11,aa (.val (.int lo)),x13,x14,x15] =
  aa (.nx [a,b,c,x3,x4,x5,aa (.own ((acc ++ ps.map (shf lo)).map prD)),x7,x8,x9,x10,x11,aa (.val (.int lo)),x13,y14,y15])
 | [],acc,x14,x15,_=>⟨x14,x15,by rw[b5,b5,bF];rfl⟩
 | p :: ps,acc,x14,x15,h=>by
  rw[aI] at h
  obtain⟨y14,y15,e⟩:=due_in a b c x5 x7 x8 x9 x10 x11 x13 x3 x4 lo ps (acc ++ [shf lo p]) (aa (.val (.int p.1))) (aa (.val (.int p.2))) (by rw[ay,cy];lia)
  have st:zf3 [a,b,c,x3,x4,x5,aa (.own (acc.map prD)),x7,x8,x9,x10,x11,aa (.val (.int lo)),x13,aa (.val (.int p.1)),aa (.val (.int p.2))]=aa (.nx [a,b,c,x3,x4,x5,aa (.own ((acc ++ [shf lo p]).map prD)),x7,x8,x9,x10,x11,aa (.val (.int lo)),x13,aa (.val (.int p.1)),aa (.val (.int p.2))]):=by
   rw[bM]
   exact zhk (ds:=acc.map prD) rfl (tup2 (zfo rfl rfl) rfl) (by rw[am];lia)
  refine⟨y14,y15,?_⟩
  rw[bG] at e
  exact(zbM rfl st).trans e
theorem due_turn(a b x7 x8 x9 x10 x11:Option Ent){lo hi:Nat}(h:lo<=hi)(he:hi<=t.length)(acc:List (Int × Int))(ha:acc.length<10000)(x14 x15:Option Ent):∃ y14 y15,
  zfT [a,b,aa (.val (.str (mkS w))),aa (.val (.int M)),aa (.val (.str (mkS t))),aa (.val (.tup ((wP w).map .str))),aa (.own (acc.map prD)),x7,x8,x9,x10,x11,aa (.val (.int (lo:Int))),aa (.val (.int (hi:Int))),x14,x15] =
  aa (.nx [a,b,aa (.val (.str (mkS w))),aa (.val (.int M)),aa (.val (.str (mkS t))),aa (.val (.tup ((wP w).map .str))),aa (.own ((acc ++ sE w t M ((lo:Int),(hi:Int))).map prD)),x7,x8,x9,x10,x11,aa (.val (.int (lo:Int))),aa (.val (.int (hi:Int))),y14,y15]):=by
 have hl:(zbI t (aa (lo:Int)) (aa (hi:Int))).length<=900:=aJ (zeH _ _ _) ht
 have ee:=zhx w (zbI t (aa (lo:Int)) (aa (hi:Int))) M hw hl
 have hn:=wE_len w (zbI t (aa (lo:Int)) (aa (hi:Int))) M 0 ((zbI t (aa (lo:Int)) (aa (hi:Int))).length+1)
 have hs:=sE_shf w t M h he
 generalize wE w (zbI t (aa (lo:Int)) (aa (hi:Int))) M 0 ((zbI t (aa (lo:Int)) (aa (hi:Int))).length+1)=ps at ee hn hs
 obtain⟨y14,y15,e⟩:=due_in hw ht a b (aa (.val (.str (mkS w)))) (aa (.val (.tup ((wP w).map .str)))) x7 x8 x9 x10 x11 (aa (.val (.int (hi:Int)))) (aa (.val (.int M))) (aa (.val (.str (mkS t)))) (lo:Int) ps acc x14 x15 (by lia)
 rw[hs] at e
 refine⟨y14,y15,?_⟩
 have z2:eSl zdu (zab 4) (oSo (zab 12)) (oSo (zab 13)) [a,b,aa (.val (.str (mkS w))),aa (.val (.int M)),aa (.val (.str (mkS t))),aa (.val (.tup ((wP w).map .str))),aa (.own (acc.map prD)),x7,x8,x9,x10,x11,aa (.val (.int (lo:Int))),aa (.val (.int (hi:Int))),x14,x15]=aa (.val (.str (mkS (zbI t (aa (lo:Int)) (aa (hi:Int)))))):=zhP t _ _ (by lia) rfl rfl rfl
 have e3:iT (zag [.v,.v,.v,.t] zbo (zaa (zab 5) (zaa (eSl zdu (zab 4) (oSo (zab 12)) (oSo (zab 13))) (zaa (zab 3) (zaa (zeA (zaa (eC (.int 1)) (zaa (eC (.int 1)) (zaa (eC (.int 1)) (zaa (eC (.int 0)) zae))))) zae))))) [a,b,aa (.val (.str (mkS w))),aa (.val (.int M)),aa (.val (.str (mkS t))),aa (.val (.tup ((wP w).map .str))),aa (.own (acc.map prD)),x7,x8,x9,x10,x11,aa (.val (.int (lo:Int))),aa (.val (.int (hi:Int))),x14,x15]=aa (ps.map prD):=by
  have hb:zeA (zaa (eC (.int 1)) (zaa (eC (.int 1)) (zaa (eC (.int 1)) (zaa (eC (.int 0)) zae)))) [a,b,aa (.val (.str (mkS w))),aa (.val (.int M)),aa (.val (.str (mkS t))),aa (.val (.tup ((wP w).map .str))),aa (.own (acc.map prD)),x7,x8,x9,x10,x11,aa (.val (.int (lo:Int))),aa (.val (.int (hi:Int))),x14,x15]=aa (.val (.tup pl.ds)):=rfl
  generalize ps.map prD=R at ee
  generalize zeA (zaa (eC (.int 1)) (zaa (eC (.int 1)) (zaa (eC (.int 1)) (zaa (eC (.int 0)) zae))))=E3 at hb
  generalize eSl zdu (zab 4) (oSo (zab 12)) (oSo (zab 13))=E2 at z2
  generalize pl.ds=pd at hb ee
  generalize (wP w).map D.str=pp at hb ee z2
  simp only[iT,zag,zaa,zab,jqf,jqe,z2,hb,zae,jqc,jqa,zbg,zcx,asV,asT,ee,zez]
 show zd1 _ _ _ _=_
 unfold zd1
 exact(congrArg (fun o=>bY o _) e3).trans e
theorem zh7(a b x7 x8 x9 x10 x11:Option Ent):∀ (L acc:List (Int × Int)) (x12 x13 x14 x15:Option Ent),(∀ p ∈ L,0<=p.1/\p.1<=p.2/\p.2<=(t.length:Int))->acc.length+(L.flatMap (sE w t M)).length<10000->∃ y12 y13 y14 y15,
  loop (gTp (zba (gNm 12) (zba (gNm 13) zdZ))) zfT (L.map prD) [a,b,aa (.val (.str (mkS w))),aa (.val (.int M)),aa (.val (.str (mkS t))),aa (.val (.tup ((wP w).map .str))),aa (.own (acc.map prD)),x7,x8,x9,x10,x11,x12,x13,x14,x15] =
  aa (.nx [a,b,aa (.val (.str (mkS w))),aa (.val (.int M)),aa (.val (.str (mkS t))),aa (.val (.tup ((wP w).map .str))),aa (.own ((acc ++ L.flatMap (sE w t M)).map prD)),x7,x8,x9,x10,x11,y12,y13,y14,y15])
 | [],acc,x12,x13,x14,x15,_,_=>⟨x12,x13,x14,x15,by rw[jM,bF];rfl⟩
 | p :: L,acc,x12,x13,x14,x15,ho,hl=>by
  obtain⟨o1,o2,o3⟩:=ho p av
  obtain⟨p1,p2⟩:=p
  dsimp only at o1 o2 o3
  obtain⟨lo,rfl⟩:=bv o1
  obtain⟨hi,rfl⟩:=bv (dH o1 o2)
  rw[cN,ay] at hl
  obtain⟨z14,z15,e1⟩:=due_turn hw ht (M:=M) a b x7 x8 x9 x10 x11 (lo:=lo) (hi:=hi) (by lia) (by lia) acc (by lia) x14 x15
  obtain⟨y12,y13,y14,y15,e2⟩:=zh7 a b x7 x8 x9 x10 x11 L (acc ++ sE w t M ((lo:Int),(hi:Int))) (aa (.val (.int (lo:Int)))) (aa (.val (.int (hi:Int)))) z14 z15 (fun q hq=>ho q (al _ hq)) (by rw[ay];lia)
  refine⟨y12,y13,y14,y15,?_⟩
  rw[bG] at e2
  exact(zbM rfl e1).trans e2
end
theorem putI_mem(zs:List Int)(z y:Int):y ∈ putI zs z ↔ y ∈ zs \/ y=z:=by
 unfold putI
 split
 ·rename_i h
  exact⟨.inl,fun q=>q.elim id fun e=>e ▸ h⟩
 ·rw[bu,aT]
theorem putI_nd(zs:List Int)(z:Int)(h:zs.Nodup):(putI zs z).Nodup:=by
 unfold putI
 split
 ·exact h
 ·rename_i hz
  rw[bN]
  exact⟨h,aW.mpr ⟨fun q=>(by cases q),eY⟩,fun a ha b hb e=>by rw[aT] at hb;subst hb;subst e;exact hz ha⟩
theorem ddI_ok:∀ (zs acc:List Int),acc.Nodup->(zs.foldl putI acc).Nodup/\∀ y,y ∈ zs.foldl putI acc ↔ y ∈ acc \/ y ∈ zs
 | [],acc,h=>⟨h,fun y=>by simp⟩
 | z :: zs,acc,h=>by
  obtain⟨h1,h2⟩:=ddI_ok zs (putI acc z) (putI_nd acc z h)
  refine⟨h1,fun y=>?_⟩
  rw[cc,h2,putI_mem,aN]
  constructor
  ·rintro ((h | h) | h)
   ·exact .inl h
   ·exact .inr (.inl h)
   ·exact .inr (.inr h)
  ·rintro (h | h | h)
   ·exact .inl (.inl h)
   ·exact .inl (.inr h)
   ·exact .inr h
theorem ssI_ok(zs:List Int):(ssI zs).Pairwise (·<·)/\∀ y,y ∈ ssI zs ↔ y ∈ zs:=by
 obtain⟨h1,h2⟩:=ddI_ok zs [] eY
 have hp:(ssI zs).Perm (ddI zs):=eN _ _
 have hs:(ssI zs).Pairwise fun a b=>decide (a<=b)=true:=fw (le:=fun a b:Int=>decide (a<=b)) (fun a b c x y=>decide_eq_true (dH (of_decide_eq_true x) (of_decide_eq_true y))) (fun a b=>by
  rcases k5 a b with h | h
  ·rw[decide_eq_true h];rfl
  ·rw[decide_eq_true h,je]) (ddI zs)
 have nd:(ssI zs).Nodup:=hp.nodup_iff.mpr h1
 refine⟨(hs.and nd).imp fun⟨x,y⟩=>?_,fun y=>hp.mem_iff.trans ((h2 y).trans ⟨fun h=>h.elim (fun q=>by cases q) id,.inr⟩)⟩
 have:=of_decide_eq_true x
 lia
def drw(ls:List Int):List (Int × Int):=(aq (ls.length - 1)).map fun k=>(ls.getD k 0,ls.getD (k+1) 0 - 1)
theorem drw_kp{n:Int}(ls:List Int)(h:ls.Pairwise (·<·))(hb:∀ y ∈ ls,0<=y/\y<=n):Kp n (drw ls):=by
 have gd:∀ k,k<ls.length->ls.getD k 0=ls[k]?.getD 0/\ls.getD k 0 ∈ ls:=fun k hk=>by
  rw[bE]
  refine⟨rfl,?_⟩
  rw[aU hk]
  exact g6 hk
 have lt:∀ i k,i<k->k<ls.length->ls.getD i 0<ls.getD k 0:=fun i k hik hk=>by
  rw[bE,bE,aU hk,aU (fZ hik hk)]
  exact cH.mp h i k (fZ hik hk) hk hik
 refine⟨?_,fun p hp=>?_⟩
 ·unfold drw
  rw[gJ]
  refine(iA (n:=ls.length - 1)).imp_of_mem fun {a b} ha hb hab=>?_
  have hb':=bR.mp hb
  dsimp only
  by_cases e:a+1=b
  ·subst e;lia
  ·have:=lt (a+1) b (by lia) (by lia)
   lia
 ·unfold drw at hp
  obtain⟨k,hk,rfl⟩:=cv.mp hp
  have hk':=bR.mp hk
  have a1:=hb _ (gd k (by lia)).2
  have a2:=hb _ (gd (k+1) (by lia)).2
  have a3:=lt k (k+1) (by lia) (by lia)
  exact⟨a1.1,by show ls.getD k 0<=ls.getD (k+1) 0 - 1;lia,by show ls.getD (k+1) 0 - 1<=n;lia⟩
section
open CE
theorem ddI_len:∀ (zs acc:List Int),(zs.foldl putI acc).length<=acc.length+zs.length
 | [],acc=>ak _
 | z :: zs,acc=>by
  have h:=ddI_len zs (putI acc z)
  have:(putI acc z).length<=acc.length+1:=by unfold putI;split <;> simp
  rw[cc,aI]
  lia
theorem ssI_len(zs:List Int):(ssI zs).length<=zs.length:=by
 have h:=ddI_len zs []
 have:(ssI zs).length=(ddI zs).length:=(eN _ _).length_eq
 rw[cQ,bq] at h
 exact this ▸ h
theorem cmpR{ft:D->Option Bool}{fe:D->Option Ent}(g:Nat->D):∀ (es:List Nat),(∀ i ∈ es,ft (D.int (0+(i:Int)))=aa true/\fe (D.int (0+(i:Int)))=aa (.val (g i)))->zcv ft fe (es.map fun(i:Nat)=>D.int (0+(i:Int)))=aa (es.map g)
 | [],_=>rfl
 | i :: es,h=>by
  obtain⟨h1,h2⟩:=h i av
  rw[aE,zcv,h1,h2,cmpR g es fun x hx=>h x (al _ hx)]
  rfl
theorem drw_comp(ls:List Int)(hl:ls.length<=1000){δ:En}(h:δ[10]? = aa (aa (.own (ls.map .int)))):eLC [10] (iR1 (zaa (ex2 zdA (eCB zb2 (zaa (zab 10) zae)) (eC (.int 1))) zae)) zcK zig δ=aa (.own ((drw ls).map prD)) \/ ls=[]:=by
 by_cases e:ls=[]
 ·exact .inr e
 have hp:0<ls.length:=iZ.mpr e
 have hv:zab 10 δ=aa (.vw (ls.map .int)):=by unfold zab;rw[h]
 have hn:ex2 zdA (eCB zb2 (zaa (zab 10) zae)) (eC (.int 1)) δ=aa (.val (.int ((ls.length - 1:Nat):Int))):=by
  refine(zhy (a:=(ls.length:Int)) ?_ rfl).trans ?_
  ·unfold eCB zaa zae;rw[hv];simp only[aQ]
   show aa (Ent.val (.int ((ls.map D.int).length:Int)))=_
   rw[am]
  ·rw[Int.ofNat_sub hp];rfl
 left
 refine zen (rngI hn (by lia)) ?_ ?_
 ·unfold drw
  rw[db]
  refine cmpR _ _ fun i hi=>⟨rfl,?_⟩
  have hi':=bR.mp hi
  have hc:cEn [10] δ (D.int (0+(i:Int)))=[aa (.val (.int (0+(i:Int)))),aa (.vw (ls.map .int))]:=by
   simp only[cEn,aE,b5,h,eK,aQ,capt]
  have ga:∀ j:Nat,j<ls.length->atI (ls.map D.int) (j:Int)=aa (.int (ls.getD j 0)):=fun j hj=>atI_of (by
   rw[aD,aU hj,bE,aU hj];rfl)
  rw[hc]
  refine tup2 (ixLW rfl rfl ?_) (zhy (a:=ls.getD (i+1) 0) (ixLW rfl (zfo rfl rfl) ?_) rfl)
  ·rw[dI];exact ga i (by lia)
  ·rw[dI];exact ga (i+1) (by lia)
 ·unfold drw;rw[am,am,bz];lia
theorem law_low(a b x6 x7 x9:Option Ent)(w t:List Nat)(M T:Int)(hw:w.length<=1000)(ht:t.length<=900):∃ δ,
  zeN [a,b,aa (.val (.str (mkS w))),aa (.val (.int M)),aa (.val (.str (mkS t))),aa (.val (.tup ((wP w).map .str))),x6,x7,aa (.val (.int T)),x9,ab,ab,ab,ab,ab,ab]=aa (.rt (.val (.bl true)) δ):=by
 obtain⟨zs,hz⟩:∃ zs:List Int,zs=[T / 6 % ((t.length:Int)+1),T / 600 % ((t.length:Int)+1),(t.length:Int)]:=⟨_,rfl⟩
 obtain⟨o1,o2⟩:=ssI_ok zs
 have ol:=ssI_len zs
 have e10:ex1 ze4 (zcg (zaa (ex2 zbu (ex2 zcw (zab 8) (eC (.int 6))) (ex2 zbi (eCB zaX (zaa (zab 4) zae)) (eC (.int 1)))) (zaa (ex2 zbu (ex2 zcw (zab 8) (eC (.int 600))) (ex2 zbi (eCB zaX (zaa (zab 4) zae)) (eC (.int 1)))) (zaa (eCB zaX (zaa (zab 4) zae)) zae)))) [a,b,aa (.val (.str (mkS w))),aa (.val (.int M)),aa (.val (.str (mkS t))),aa (.val (.tup ((wP w).map .str))),x6,x7,aa (.val (.int T)),x9,ab,ab,ab,ab,ab,ab]=aa (.own ((ssI zs).map .int)):=by
  have hl:eCB zaX (zaa (zab 4) zae) [a,b,aa (.val (.str (mkS w))),aa (.val (.int M)),aa (.val (.str (mkS t))),aa (.val (.tup ((wP w).map .str))),x6,x7,aa (.val (.int T)),x9,ab,ab,ab,ab,ab,ab]=aa (.val (.int (t.length:Int))):=zhr rfl (zaJ t) (by lia)
  unfold ex1
  rw[lst3 (zfl (b:=(t.length:Int)+1) (zfI (a:=T) (b:=6) rfl rfl (by decide)) (zfo hl rfl) (by lia)) (zfl (b:=(t.length:Int)+1) (zfI (a:=T) (b:=600) rfl rfl (by decide)) (zfo hl rfl) (by lia)) hl,hz]
  exact gif_pos (by show 3<5;decide)
 have hmem:∀ y ∈ ssI zs,0<=y/\y<=(t.length:Int):=fun y hy=>by
  have h0:=(o2 y).mp hy
  have hb:(0:Int)<(t.length:Int)+1:=by lia
  rw[hz] at h0
  rcases aN.mp h0 with rfl | h0
  ·exact⟨du _ (by lia),by have:=dj (T / 6) hb;lia⟩
  rcases aN.mp h0 with rfl | h0
  ·exact⟨du _ (by lia),by have:=dj (T / 600) hb;lia⟩
  rw[aT] at h0
  lia
 have hne:ssI zs ≠ []:=fun h=>by
  have:(t.length:Int) ∈ ssI zs:=(o2 _).mpr (by rw[hz];simp)
  rw[h] at this;cases this
 have l3:(ssI zs).length<=3:=by rw[hz] at ol ⊢;exact ol
 generalize ssI zs=ls at o1 e10 hmem hne l3
 have e11:=(drw_comp ls (by lia) (δ:=[a,b,aa (.val (.str (mkS w))),aa (.val (.int M)),aa (.val (.str (mkS t))),aa (.val (.tup ((wP w).map .str))),x6,x7,aa (.val (.int T)),x9,aa (.own (ls.map .int)),ab,ab,ab,ab,ab]) rfl).resolve_right hne
 have kp:=drw_kp ls o1 hmem
 have dl:(drw ls).length<=3:=by unfold drw;rw[am,bz];lia
 generalize drw ls=K at e11 kp dl
 have fl:=zha w t M (t.length:Int) K 0 kp.1 kp.2 (by lia)
 obtain⟨y12,y13,y14,y15,e12⟩:=zh7 hw ht (M:=M) a b x7 (aa (.val (.int T))) x9 (aa (.own (ls.map .int))) (aa (.val (.lst (K.map prD)))) K [] ab ab ab ab kp.2 (by rw[cQ];lia)
 rw[cO] at e12
 have e13:=kept_eq w t M K kp hw ht
 have e14:=ziu (K.flatMap (sE w t M)) (by lia)
 generalize (K.flatMap (sE w t M)).map prD=R at e12 e13 e14
 generalize K.map prD=KK at e11 e12 e13
 refine⟨[a,b,aa (.val (.str (mkS w))),aa (.val (.int M)),aa (.val (.str (mkS t))),aa (.val (.tup ((wP w).map .str))),aa (.own R),x7,aa (.val (.int T)),x9,aa (.own (ls.map .int)),aa (.val (.lst KK)),y12,y13,y14,y15],?_⟩
 refine(show zeN _=_ from zbh (zef e10)).trans ((show zis _=_ from zbh (zef e11)).trans ((show zgG _=_ from zbh (zef (show zcg zae _=aa (.own []) from rfl))).trans ?_))
 refine(forN (r:=zb9 (zag [.v,.b] zbz (zaa (zag [.v,.v,.v,.v] zbt (zaa (zab 2) (zaa (zab 3) (zaa (zab 4) (zaa (eCB zc4 (zaa (zab 11) zae)) zae))))) (zaa (zab 6) zae)))) (show iL (zab 11) _=aa KK from rfl) e12).trans (zf0 ?_)
 generalize (wP w).map D.str=pp
 generalize ls.map D.int=lz
 simp only[zag,zaa,zab,jqf,jqe,eCB,zae,jqc,jqa,zc4,asL,zbg,zcx,asV,e13,e14]
theorem main(ns:List Int)(hn:ns.length<=63):g_law [.lst (ns.map .int)]=aa (.val (.bl true)):=by
 obtain⟨dk,hd,s1⟩:=deck_ok (ns.take 63) (by rw[bB];lia)
 have hcut:zbI (ns.map D.int) ab (aa 63)=(ns.take 63).map D.int:=by rw[zeB _ (by decide),List.map_take];rfl
 have e1:ziq 1 (zag [.b,.v] zcc (zaa (eSl gSlL (zab 0) oNo (oSo (eC (.int 63)))) (zaa (eC (.int 30)) zae))) [aa (.bor (ns.map .int)),ab,ab,ab,ab,ab,ab,ab,ab,ab,ab,ab,ab,ab,ab,ab]=aa (.nx [aa (.bor (ns.map .int)),aa (.obj (.lst (dk.map .int))),ab,ab,ab,ab,ab,ab,ab,ab,ab,ab,ab,ab,ab,ab]):=by
  have q:zag [.b,.v] zcc (zaa (eSl gSlL (zab 0) oNo (oSo (eC (.int 63)))) (zaa (eC (.int 30)) zae)) [aa (.bor (ns.map .int)),ab,ab,ab,ab,ab,ab,ab,ab,ab,ab,ab,ab,ab,ab,ab]=aa (.own (dk.map .int)):=by
   simp only[zag,zaa,eSl,zab,jqe,oNo,oSo,eC,jqa,iOf,jqc,gSlL,asL,hcut,zae,zbg,zcx,asV,s1]
  unfold ziq
  rw[q]
  rfl
 obtain⟨d2,w,t,m,h2,hw,m0,m1,ht,s2⟩:=case_ok dk hd
 have e2:fXAsg (gLs (zba (gNm 2) (zba (gNm 3) (zba (gNm 4) zdZ)))) (xCO 1 zbV zg5) [aa (.bor (ns.map .int)),aa (.obj (.lst (dk.map .int))),ab,ab,ab,ab,ab,ab,ab,ab,ab,ab,ab,ab,ab,ab]=aa (.nx [aa (.bor (ns.map .int)),aa (.obj (.lst (d2.map .int))),aa (.val (.str (mkS w))),aa (.val (.int m)),aa (.val (.str (mkS t))),ab,ab,ab,ab,ab,ab,ab,ab,ab,ab,ab]):=by
  have q:=xCO_i (i:=1) (g:=zbV) (fs:=zg5) (δ:=[aa (.bor (ns.map .int)),aa (.obj (.lst (dk.map .int))),ab,ab,ab,ab,ab,ab,ab,ab,ab,ab,ab,ab,ab,ab]) (o0:=.lst (dk.map .int)) rfl rfl rfl s2
  unfold fXAsg
  rw[q]
  rfl
 obtain⟨M,rfl⟩:=bv m0
 generalize hA:aa (Ent.bor (ns.map D.int))=A at *
 have hwl:w.length<=1000:=by lia
 have htl:t.length<=900:=by lia
 have e5:zag [.v] zaK (zaa (zab 2) zae) [A,aa (.obj (.lst (d2.map .int))),aa (.val (.str (mkS w))),aa (.val (.int (M:Int))),aa (.val (.str (mkS t))),ab,ab,ab,ab,ab,ab,ab,ab,ab,ab,ab]=aa (.val (.tup ((wP w).map .str))):=by
  have q:=patn_eq w hwl
  generalize (wP w).map D.str=pp at q
  simp only[zag,zaa,zab,jqf,jqe,zae,jqc,jqa,zbg,zcx,asV,q]
 have e6:eCB zdk (zaa (zag [.v,.v,.v,.t] zbo (zaa (zab 5) (zaa (zab 4) (zaa (zab 3) (zaa (zeA (zaa (eC (.int 1)) (zaa (eC (.int 1)) (zaa (eC (.int 1)) (zaa (eC (.int 0)) zae))))) zae))))) zae) [A,aa (.obj (.lst (d2.map .int))),aa (.val (.str (mkS w))),aa (.val (.int (M:Int))),aa (.val (.str (mkS t))),aa (.val (.tup ((wP w).map .str))),ab,ab,ab,ab,ab,ab,ab,ab,ab,ab]=aa (.own ((wE w t (M:Int) 0 (t.length+1)).map prD)):=by
  have q:=zhx w t M hwl htl
  have hb:zeA (zaa (eC (.int 1)) (zaa (eC (.int 1)) (zaa (eC (.int 1)) (zaa (eC (.int 0)) zae)))) [A,aa (.obj (.lst (d2.map .int))),aa (.val (.str (mkS w))),aa (.val (.int (M:Int))),aa (.val (.str (mkS t))),aa (.val (.tup ((wP w).map .str))),ab,ab,ab,ab,ab,ab,ab,ab,ab,ab]=aa (.val (.tup pl.ds)):=rfl
  generalize (wE w t (M:Int) 0 (t.length+1)).map prD=R at q ⊢
  generalize zeA (zaa (eC (.int 1)) (zaa (eC (.int 1)) (zaa (eC (.int 1)) (zaa (eC (.int 0)) zae))))=E3 at hb ⊢
  generalize pl.ds=pd at hb q
  generalize (wP w).map D.str=pp at hb q ⊢
  simp only[eCB,zaa,zag,zab,jqf,jqe,hb,zae,jqc,jqa,zbg,zcx,asV,asT,q,zdk,zez]
 obtain⟨T,hp⟩:=pop_i d2 (by lia) 1 (δ:=[A,aa (.obj (.lst (d2.map .int))),aa (.val (.str (mkS w))),aa (.val (.int (M:Int))),aa (.val (.str (mkS t))),aa (.val (.tup ((wP w).map .str))),aa (.own ((wE w t (M:Int) 0 (t.length+1)).map prD)),aa (.own [.tup ((jnd (zdQ (zeT w t M (M+1)))).map prD),.tup ((jnd (zdQ (fnd (zb4 w t M 1) w.length M (t.length+1)))).map prD)]),ab,ab,ab,ab,ab,ab,ab,ab]) rfl
 have q1:=parts_ok w t M (by lia) hwl htl
 rw[de] at q1
 have q2:=counts_eq w t M (by lia) hwl htl
 have sv1:=sv_parts w t M
 have sv2:=zgY w t M 1 (ak 1)
 obtain⟨q,hq,q0,q6⟩:∃ q:Nat,1+T % 6=(q:Int)/\1<=q/\q<1000:=⟨(1+T % 6).toNat,by lia,by lia,by lia⟩
 have q3:=kept_ok w t M q (by lia) (by lia) hwl htl
 have sv3:=zgY w t M q q0
 rw[show((1:Nat):Int)=1 from rfl] at sv2
 generalize jnd (zdQ (zeT w t M (M+1)))=K1 at *
 generalize jnd (zdQ (fnd (zb4 w t M 1) w.length M (t.length+1)))=K2 at *
 generalize jnd (zdQ (fnd (zb4 w t M q) w.length M (t.length+1)))=K3 at *
 generalize hdx:aa (Ent.obj (.lst (d2.map D.int)))=DX at *
 have e7:zcg (zaa (zag [.v,.v,.v] zbB (zaa (zab 2) (zaa (zab 3) (zaa (zab 4) zae)))) (zaa (zag [.v,.v,.v] zaZ (zaa (zab 2) (zaa (zab 3) (zaa (zab 4) zae)))) zae)) [A,DX,aa (.val (.str (mkS w))),aa (.val (.int (M:Int))),aa (.val (.str (mkS t))),aa (.val (.tup ((wP w).map .str))),aa (.own ((wE w t (M:Int) 0 (t.length+1)).map prD)),ab,ab,ab,ab,ab,ab,ab,ab,ab]=aa (.own [.tup (K1.map prD),.tup (K2.map prD)]):=by
  generalize K1.map prD=k1 at q1 ⊢
  generalize K2.map prD=k2 at q2 ⊢
  generalize (wE w t (M:Int) 0 (t.length+1)).map prD=R
  generalize (wP w).map D.str=pp
  simp only[zcg,zaa,zag,zab,jqf,jqe,zae,jqc,jqa,zbg,zcx,asV,q1,q2,jqp,jqq,Nat.reduceLeDiff,zew,jra]
 generalize hdy:aa (Ent.obj (.lst (d2.dropLast.map D.int)))=DY at *
 have e8:zgk 7 (zag [.v,.v,.v,.v] zaM (zaa (zab 2) (zaa (zab 3) (zaa (zab 4) (zaa (ex2 zbi (eC (.int 1)) (ex2 zbu (zab 8) (eC (.int 6)))) zae))))) [A,DY,aa (.val (.str (mkS w))),aa (.val (.int (M:Int))),aa (.val (.str (mkS t))),aa (.val (.tup ((wP w).map .str))),aa (.own ((wE w t (M:Int) 0 (t.length+1)).map prD)),aa (.own [.tup (K1.map prD),.tup (K2.map prD)]),aa (.val (.int T)),ab,ab,ab,ab,ab,ab,ab]=aa (.nx [A,DY,aa (.val (.str (mkS w))),aa (.val (.int (M:Int))),aa (.val (.str (mkS t))),aa (.val (.tup ((wP w).map .str))),aa (.own ((wE w t (M:Int) 0 (t.length+1)).map prD)),aa (.own [.tup (K1.map prD),.tup (K2.map prD),.tup (K3.map prD)]),aa (.val (.int T)),ab,ab,ab,ab,ab,ab,ab]):=by
  refine zhk (ds:=[.tup (K1.map prD),.tup (K2.map prD)]) (v:=.tup (K3.map prD)) rfl ?_ (by show 2<1000000;decide)
  have z:ex2 zbi (eC (.int 1)) (ex2 zbu (zab 8) (eC (.int 6))) [A,DY,aa (.val (.str (mkS w))),aa (.val (.int (M:Int))),aa (.val (.str (mkS t))),aa (.val (.tup ((wP w).map .str))),aa (.own ((wE w t (M:Int) 0 (t.length+1)).map prD)),aa (.own [.tup (K1.map prD),.tup (K2.map prD)]),aa (.val (.int T)),ab,ab,ab,ab,ab,ab,ab]=aa (.val (.int (q:Int))):=(zfo rfl (zfl rfl rfl (by decide))).trans (by rw[hq])
  generalize ex2 zbi (eC (.int 1)) (ex2 zbu (zab 8) (eC (.int 6)))=E at z ⊢
  generalize K1.map prD=k1 at z ⊢
  generalize K2.map prD=k2 at z ⊢
  generalize K3.map prD=k3 at q3 ⊢
  generalize (wE w t (M:Int) 0 (t.length+1)).map prD=R at z ⊢
  generalize (wP w).map D.str=pp at z ⊢
  simp only[zag,zaa,zab,jqf,jqe,z,zae,jqc,jqa,zbg,zcx,asV,q3]
 have w1:loop (gNm 9) zeD [.tup (K1.map prD),.tup (K2.map prD),.tup (K3.map prD)] [A,DY,aa (.val (.str (mkS w))),aa (.val (.int (M:Int))),aa (.val (.str (mkS t))),aa (.val (.tup ((wP w).map .str))),aa (.own ((wE w t (M:Int) 0 (t.length+1)).map prD)),aa (.val (.lst [.tup (K1.map prD),.tup (K2.map prD),.tup (K3.map prD)])),aa (.val (.int T)),ab,ab,ab,ab,ab,ab,ab]=aa (.nx [A,DY,aa (.val (.str (mkS w))),aa (.val (.int (M:Int))),aa (.val (.str (mkS t))),aa (.val (.tup ((wP w).map .str))),aa (.own ((wE w t (M:Int) 0 (t.length+1)).map prD)),aa (.val (.lst [.tup (K1.map prD),.tup (K2.map prD),.tup (K3.map prD)])),aa (.val (.int T)),aa (.val (.tup (K3.map prD))),ab,ab,ab,ab,ab,ab]):=by
  refine jI (zbM rfl (zfJ hwl htl sv1 A DY _ _ _ _ _ _ _ _ _)) ?_
  refine jI (zbM rfl (zfJ hwl htl sv2 A DY _ _ _ _ _ _ _ _ _)) ?_
  exact zbM rfl (zfJ hwl htl sv3 A DY _ _ _ _ _ _ _ _ _)
 obtain⟨δ,hE⟩:=law_low A DY (aa (.own ((wE w t (M:Int) 0 (t.length+1)).map prD))) (aa (.val (.lst [.tup (K1.map prD),.tup (K2.map prD),.tup (K3.map prD)]))) (aa (.val (.tup (K3.map prD)))) w t M T hwl htl
 have hF:F_law [A,ab,ab,ab,ab,ab,ab,ab,ab,ab,ab,ab,ab,ab,ab,ab]=aa (.rt (.val (.bl true)) δ):=by
  refine(show F_law _=_ from zbh e1).trans ((show zhK _=_ from zbh e2).trans ((show zif _=_ from zbw e5).trans ((show zhO _=_ from zbh (zef e6)).trans ((show zid _=_ from zbh (zef e7)).trans ((show zio _=_ from zbh (zdO hp)).trans ((show zik _=_ from zbh e8).trans ?_))))))
  exact(forN (r:=zeN) (show iL (zab 7) _=aa [.tup (K1.map prD),.tup (K2.map prD),.tup (K3.map prD)] from rfl) w1).trans hE
 subst hA
 exact(congrArg (fun o=>bY o _) hF).trans rfl
end
end N45
namespace N45
open PySem L2 L3 PyProof.Rows
def spLaw(K:ah):Sp:=fun vs H Q _=>∃ (a:af) (ns:List Int),vs=[.ref a]/\SqL K H a (ns.map V.int)/\ns.length<=63/\∀ H',Q (.bl true) H'
theorem sp_law{K:ah}{vs:List V}{H:Hp}{Q:VK}{E:XK}(h:spLaw K vs H Q E):spD K [.b] g_law vs H Q E:=by
 obtain⟨a,ns,rfl,hq,hl,k⟩:=h
 refine⟨fun _=>ab,_,_,fun _ _ e=>(nomatch e),.cons (k:=.b) (d:=.lst (ns.map D.int)) ⟨a,_,rfl,hq,Reps.ints ns⟩ .nil,main ns hl,fun v F' H' _ r=>?_⟩
 cases zgE r
 exact k H'
theorem all_mk{l:ii}{w:aX}{K:ah}{h:ba}{mg:Str->Option ae}{fa:af}(X:K.In h)(G:h.Ns aB mg)(hfa:mg "law" = aa (.ref fa))
  {C_Sight:af}
  {f_11:af} {od_11 an_11:Option af} {sl_11:Array (Option ae)} {oc_11 kV_11 dc_11 pm_11 cd_11 ct_11:ae}
  {df_11:ae}
  {f_27:af} {od_27 an_27:Option af} {sl_27:Array (Option ae)} {oc_27 kV_27 dc_27 pm_27 cd_27 ct_27:ae}
  {f_15:af} {od_15 an_15:Option af} {sl_15:Array (Option ae)} {oc_15 kV_15 dc_15 pm_15 cd_15 ct_15:ae}
  {f_16:af} {od_16 an_16:Option af} {sl_16:Array (Option ae)} {oc_16 kV_16 dc_16 pm_16 cd_16 ct_16:ae}
  {f_10:af} {od_10 an_10:Option af} {sl_10:Array (Option ae)} {oc_10 kV_10 dc_10 pm_10 cd_10 ct_10:ae}
  {f_28:af} {od_28 an_28:Option af} {sl_28:Array (Option ae)} {oc_28 kV_28 dc_28 pm_28 cd_28 ct_28:ae}
  {f_22:af} {od_22 an_22:Option af} {sl_22:Array (Option ae)} {oc_22 kV_22 dc_22 pm_22 cd_22 ct_22:ae}
  {f_12:af} {od_12 an_12:Option af} {sl_12:Array (Option ae)} {oc_12 kV_12 dc_12 pm_12 cd_12 ct_12:ae}
  {f_26:af} {od_26 an_26:Option af} {sl_26:Array (Option ae)} {oc_26 kV_26 dc_26 pm_26 cd_26 ct_26:ae}
  {f_24:af} {od_24 an_24:Option af} {sl_24:Array (Option ae)} {oc_24 kV_24 dc_24 pm_24 cd_24 ct_24:ae}
  {f_13:af} {od_13 an_13:Option af} {sl_13:Array (Option ae)} {oc_13 kV_13 dc_13 pm_13 cd_13 ct_13:ae}
  {f_14:af} {od_14 an_14:Option af} {sl_14:Array (Option ae)} {oc_14 kV_14 dc_14 pm_14 cd_14 ct_14:ae}
  {f_19:af} {od_19 an_19:Option af} {sl_19:Array (Option ae)} {oc_19 kV_19 dc_19 pm_19 cd_19 ct_19:ae}
  {f_18:af} {od_18 an_18:Option af} {sl_18:Array (Option ae)} {oc_18 kV_18 dc_18 pm_18 cd_18 ct_18:ae}
  {f_20:af} {od_20 an_20:Option af} {sl_20:Array (Option ae)} {oc_20 kV_20 dc_20 pm_20 cd_20 ct_20:ae}
  {f_25:af} {od_25 an_25:Option af} {sl_25:Array (Option ae)} {oc_25 kV_25 dc_25 pm_25 cd_25 ct_25:ae}
  {f_30:af} {od_30 an_30:Option af} {sl_30:Array (Option ae)} {oc_30 kV_30 dc_30 pm_30 cd_30 ct_30:ae}
  {f_29:af} {od_29 an_29:Option af} {sl_29:Array (Option ae)} {oc_29 kV_29 dc_29 pm_29 cd_29 ct_29:ae}
  {f_23:af} {od_23 an_23:Option af} {sl_23:Array (Option ae)} {oc_23 kV_23 dc_23 pm_23 cd_23 ct_23:ae}
  {f_17:af} {od_17 an_17:Option af} {sl_17:Array (Option ae)} {oc_17 kV_17 dc_17 pm_17 cd_17 ct_17:ae}
  {f_9:af} {od_9 an_9:Option af} {sl_9:Array (Option ae)} {oc_9 kV_9 dc_9 pm_9 cd_9 ct_9:ae}
  {f_6:af} {od_6 an_6:Option af} {sl_6:Array (Option ae)} {oc_6 kV_6 dc_6 pm_6 cd_6 ct_6:ae}
  {f_4:af} {od_4 an_4:Option af} {sl_4:Array (Option ae)} {oc_4 kV_4 dc_4 pm_4 cd_4 ct_4:ae}
  {f_7:af} {od_7 an_7:Option af} {sl_7:Array (Option ae)} {oc_7 kV_7 dc_7 pm_7 cd_7 ct_7:ae}
  {f_5:af} {od_5 an_5:Option af} {sl_5:Array (Option ae)} {oc_5 kV_5 dc_5 pm_5 cd_5 ct_5:ae}
  {f_8:af} {od_8 an_8:Option af} {sl_8:Array (Option ae)} {oc_8 kV_8 dc_8 pm_8 cd_8 ct_8:ae}
  {f_3:af} {od_3 an_3:Option af} {sl_3:Array (Option ae)} {oc_3 kV_3 dc_3 pm_3 cd_3 ct_3:ae}
  {f_21:af} {od_21 an_21:Option af} {sl_21:Array (Option ae)} {oc_21 kV_21 dc_21 pm_21 cd_21 ct_21:ae}
  {f_0:af} {od_0 an_0:Option af} {sl_0:Array (Option ae)} {oc_0 kV_0 dc_0 pm_0 cd_0 ct_0:ae}
  {f_1:af} {od_1 an_1:Option af} {sl_1:Array (Option ae)} {oc_1 kV_1 dc_1 pm_1 cd_1 ct_1:ae}
  {f_2:af} {od_2 an_2:Option af} {sl_2:Array (Option ae)} {oc_2 kV_2 dc_2 pm_2 cd_2 ct_2:ae}
  {tk_PUT:Tok}
  {tk_LEFT:Tok}
  {tk_EXCHANGED:Tok}
  {tk_TURNED:Tok}
  {ua_PLAIN_PRICES:af} {un_PLAIN_PRICES:Nat} {t0_PLAIN_PRICES t1_PLAIN_PRICES t2_PLAIN_PRICES t3_PLAIN_PRICES:Tok}
  (a_Sight:aK K aB "Sight" = aa (aa (.ref C_Sight))) (p1_Sight:eu K C_Sight lK=true) (p2_Sight:fB K C_Sight=true) (p3_Sight:gH K C_Sight=true) (p4_Sight:bJ K (.ref C_Sight) "__setattr__" = aa (aa (.builtin "object.__setattr__")))
  (n_Sight_most:bJ K (.ref C_Sight) "most" = aa ab)
  (n_Sight_end:bJ K (.ref C_Sight) "end" = aa ab)
  (n_Sight_pairs:bJ K (.ref C_Sight) "pairs" = aa ab)
  (m1_Sight:hZ K C_Sight=true) (m2_Sight:aM K (.ref C_Sight)=true)
  (a_11:aK K aB "cells_of" = aa (aa (.ref f_11))) (l_11:K.lookup f_11=aa ⟨oc_11,od_11,.func (aV "cells_of" "cells_of" (zal zbA) (zaj zbA) (zad zbA) df_11 kV_11 dc_11 pm_11 an_11 cd_11 ct_11),sl_11⟩) (c_11:aR K cd_11 "cells_of" = true) (k_11:aM K (.ref f_11)=true)
  (e_11:DfOk K df_11)
  (a_27:aK K aB "row_across" = aa (aa (.ref f_27))) (l_27:K.lookup f_27=aa ⟨oc_27,od_27,.func (aV "row_across" "row_across" (zal za2) (zaj za2) (zad za2) .none kV_27 dc_27 pm_27 an_27 cd_27 ct_27),sl_27⟩) (c_27:aR K cd_27 "row_across" = true) (k_27:aM K (.ref f_27)=true)
  (a_15:aK K aB "first_column" = aa (aa (.ref f_15))) (l_15:K.lookup f_15=aa ⟨oc_15,od_15,.func (aV "first_column" "first_column" (zal zaG) (zaj zaG) (zad zaG) .none kV_15 dc_15 pm_15 an_15 cd_15 ct_15),sl_15⟩) (c_15:aR K cd_15 "first_column" = true) (k_15:aM K (.ref f_15)=true)
  (a_16:aK K aB "further_column" = aa (aa (.ref f_16))) (l_16:K.lookup f_16=aa ⟨oc_16,od_16,.func (aV "further_column" "further_column" (zal zav) (zaj zav) (zad zav) .none kV_16 dc_16 pm_16 an_16 cd_16 ct_16),sl_16⟩) (c_16:aR K cd_16 "further_column" = true) (k_16:aM K (.ref f_16)=true)
  (a_10:aK K aB "cell_ahead_of_turn" = aa (aa (.ref f_10))) (l_10:K.lookup f_10=aa ⟨oc_10,od_10,.func (aV "cell_ahead_of_turn" "cell_ahead_of_turn" (zal zai) (zaj zai) (zad zai) .none kV_10 dc_10 pm_10 an_10 cd_10 ct_10),sl_10⟩) (c_10:aR K cd_10 "cell_ahead_of_turn" = true) (k_10:aM K (.ref f_10)=true)
  (a_28:aK K aB "stepped" = aa (aa (.ref f_28))) (l_28:K.lookup f_28=aa ⟨oc_28,od_28,.func (aV "stepped" "stepped" (zal zbY) (zaj zbY) (zad zbY) .none kV_28 dc_28 pm_28 an_28 cd_28 ct_28),sl_28⟩) (c_28:aR K cd_28 "stepped" = true) (k_28:aM K (.ref f_28)=true)
  (a_22:aK K aB "lowest" = aa (aa (.ref f_22))) (l_22:K.lookup f_22=aa ⟨oc_22,od_22,.func (aV "lowest" "lowest" (zal zcm) (zaj zcm) (zad zcm) .none kV_22 dc_22 pm_22 an_22 cd_22 ct_22),sl_22⟩) (c_22:aR K cd_22 "lowest" = true) (k_22:aM K (.ref f_22)=true)
  (a_12:aK K aB "ends_in" = aa (aa (.ref f_12))) (l_12:K.lookup f_12=aa ⟨oc_12,od_12,.func (aV "ends_in" "ends_in" (zal zbZ) (zaj zbZ) (zad zbZ) .none kV_12 dc_12 pm_12 an_12 cd_12 ct_12),sl_12⟩) (c_12:aR K cd_12 "ends_in" = true) (k_12:aM K (.ref f_12)=true)
  (a_26:aK K aB "prices_at_ends" = aa (aa (.ref f_26))) (l_26:K.lookup f_26=aa ⟨oc_26,od_26,.func (aV "prices_at_ends" "prices_at_ends" (zal zay) (zaj zay) (zad zay) .none kV_26 dc_26 pm_26 an_26 cd_26 ct_26),sl_26⟩) (c_26:aR K cd_26 "prices_at_ends" = true) (k_26:aM K (.ref f_26)=true)
  (a_24:aK K aB "pattern_of" = aa (aa (.ref f_24))) (l_24:K.lookup f_24=aa ⟨oc_24,od_24,.func (aV "pattern_of" "pattern_of" (zal za6) (zaj za6) (zad za6) .none kV_24 dc_24 pm_24 an_24 cd_24 ct_24),sl_24⟩) (c_24:aR K cd_24 "pattern_of" = true) (k_24:aM K (.ref f_24)=true)
  (a_13:aK K aB "ends_in_kept" = aa (aa (.ref f_13))) (l_13:K.lookup f_13=aa ⟨oc_13,od_13,.func (aV "ends_in_kept" "ends_in_kept" (zal zaH) (zaj zaH) (zad zaH) .none kV_13 dc_13 pm_13 an_13 cd_13 ct_13),sl_13⟩) (c_13:aR K cd_13 "ends_in_kept" = true) (k_13:aM K (.ref f_13)=true)
  (a_14:aK K aB "ends_in_stretch" = aa (aa (.ref f_14))) (l_14:K.lookup f_14=aa ⟨oc_14,od_14,.func (aV "ends_in_stretch" "ends_in_stretch" (zal zar) (zaj zar) (zad zar) .none kV_14 dc_14 pm_14 an_14 cd_14 ct_14),sl_14⟩) (c_14:aR K cd_14 "ends_in_stretch" = true) (k_14:aM K (.ref f_14)=true)
  (a_19:aK K aB "kept_by_parts" = aa (aa (.ref f_19))) (l_19:K.lookup f_19=aa ⟨oc_19,od_19,.func (aV "kept_by_parts" "kept_by_parts" (zal zaB) (zaj zaB) (zad zaB) .none kV_19 dc_19 pm_19 an_19 cd_19 ct_19),sl_19⟩) (c_19:aR K cd_19 "kept_by_parts" = true) (k_19:aM K (.ref f_19)=true)
  (a_18:aK K aB "kept_by_counts" = aa (aa (.ref f_18))) (l_18:K.lookup f_18=aa ⟨oc_18,od_18,.func (aV "kept_by_counts" "kept_by_counts" (zal zax) (zaj zax) (zad zax) .none kV_18 dc_18 pm_18 an_18 cd_18 ct_18),sl_18⟩) (c_18:aR K cd_18 "kept_by_counts" = true) (k_18:aM K (.ref f_18)=true)
  (a_20:aK K aB "kept_by_pieces" = aa (aa (.ref f_20))) (l_20:K.lookup f_20=aa ⟨oc_20,od_20,.func (aV "kept_by_pieces" "kept_by_pieces" (zal zat) (zaj zat) (zad zat) .none kV_20 dc_20 pm_20 an_20 cd_20 ct_20),sl_20⟩) (c_20:aR K cd_20 "kept_by_pieces" = true) (k_20:aM K (.ref f_20)=true)
  (a_25:aK K aB "places_of" = aa (aa (.ref f_25))) (l_25:K.lookup f_25=aa ⟨oc_25,od_25,.func (aV "places_of" "places_of" (zal zbl) (zaj zbl) (zad zbl) .none kV_25 dc_25 pm_25 an_25 cd_25 ct_25),sl_25⟩) (c_25:aR K cd_25 "places_of" = true) (k_25:aM K (.ref f_25)=true)
  (a_30:aK K aB "windows" = aa (aa (.ref f_30))) (l_30:K.lookup f_30=aa ⟨oc_30,od_30,.func (aV "windows" "windows" (zal zb0) (zaj zb0) (zad zb0) .none kV_30 dc_30 pm_30 an_30 cd_30 ct_30),sl_30⟩) (c_30:aR K cd_30 "windows" = true) (k_30:aM K (.ref f_30)=true)
  (a_29:aK K aB "times_of_pieces" = aa (aa (.ref f_29))) (l_29:K.lookup f_29=aa ⟨oc_29,od_29,.func (aV "times_of_pieces" "times_of_pieces" (zal zaq) (zaj zaq) (zad zaq) .none kV_29 dc_29 pm_29 an_29 cd_29 ct_29),sl_29⟩) (c_29:aR K cd_29 "times_of_pieces" = true) (k_29:aM K (.ref f_29)=true)
  (a_23:aK K aB "number_shared" = aa (aa (.ref f_23))) (l_23:K.lookup f_23=aa ⟨oc_23,od_23,.func (aV "number_shared" "number_shared" (zal zaC) (zaj zaC) (zad zaC) .none kV_23 dc_23 pm_23 an_23 cd_23 ct_23),sl_23⟩) (c_23:aR K cd_23 "number_shared" = true) (k_23:aM K (.ref f_23)=true)
  (a_17:aK K aB "joined" = aa (aa (.ref f_17))) (l_17:K.lookup f_17=aa ⟨oc_17,od_17,.func (aV "joined" "joined" (zal zco) (zaj zco) (zad zco) .none kV_17 dc_17 pm_17 an_17 cd_17 ct_17),sl_17⟩) (c_17:aR K cd_17 "joined" = true) (k_17:aM K (.ref f_17)=true)
  (a_9:aK K aB "_law_whole" = aa (aa (.ref f_9))) (l_9:K.lookup f_9=aa ⟨oc_9,od_9,.func (aV "_law_whole" "_law_whole" (zal za7) (zaj za7) (zad za7) .none kV_9 dc_9 pm_9 an_9 cd_9 ct_9),sl_9⟩) (c_9:aR K cd_9 "_law_whole" = true) (k_9:aM K (.ref f_9)=true)
  (a_6:aK K aB "_law_pairs" = aa (aa (.ref f_6))) (l_6:K.lookup f_6=aa ⟨oc_6,od_6,.func (aV "_law_pairs" "_law_pairs" (zal za4) (zaj za4) (zad za4) .none kV_6 dc_6 pm_6 an_6 cd_6 ct_6),sl_6⟩) (c_6:aR K cd_6 "_law_pairs" = true) (k_6:aM K (.ref f_6)=true)
  (a_4:aK K aB "_law_deck" = aa (aa (.ref f_4))) (l_4:K.lookup f_4=aa ⟨oc_4,od_4,.func (aV "_law_deck" "_law_deck" (zal zbm) (zaj zbm) (zad zbm) .none kV_4 dc_4 pm_4 an_4 cd_4 ct_4),sl_4⟩) (c_4:aR K cd_4 "_law_deck" = true) (k_4:aM K (.ref f_4)=true)
  (a_7:aK K aB "_law_sign" = aa (aa (.ref f_7))) (l_7:K.lookup f_7=aa ⟨oc_7,od_7,.func (aV "_law_sign" "_law_sign" (zal zbj) (zaj zbj) (zad zbj) .none kV_7 dc_7 pm_7 an_7 cd_7 ct_7),sl_7⟩) (c_7:aR K cd_7 "_law_sign" = true) (k_7:aM K (.ref f_7)=true)
  (a_5:aK K aB "_law_letters" = aa (aa (.ref f_5))) (l_5:K.lookup f_5=aa ⟨oc_5,od_5,.func (aV "_law_letters" "_law_letters" (zal zaI) (zaj zaI) (zad zaI) .none kV_5 dc_5 pm_5 an_5 cd_5 ct_5),sl_5⟩) (c_5:aR K cd_5 "_law_letters" = true) (k_5:aM K (.ref f_5)=true)
  (a_8:aK K aB "_law_slipped" = aa (aa (.ref f_8))) (l_8:K.lookup f_8=aa ⟨oc_8,od_8,.func (aV "_law_slipped" "_law_slipped" (zal zaF) (zaj zaF) (zad zaF) .none kV_8 dc_8 pm_8 an_8 cd_8 ct_8),sl_8⟩) (c_8:aR K cd_8 "_law_slipped" = true) (k_8:aM K (.ref f_8)=true)
  (a_3:aK K aB "_law_case" = aa (aa (.ref f_3))) (l_3:K.lookup f_3=aa ⟨oc_3,od_3,.func (aV "_law_case" "_law_case" (zal zbk) (zaj zbk) (zad zbk) .none kV_3 dc_3 pm_3 an_3 cd_3 ct_3),sl_3⟩) (c_3:aR K cd_3 "_law_case" = true) (k_3:aM K (.ref f_3)=true)
  (a_21:aK K aB "law" = aa (aa (.ref f_21))) (l_21:K.lookup f_21=aa ⟨oc_21,od_21,.func (aV "law" "law" (zal zdF) (zaj zdF) (zad zdF) .none kV_21 dc_21 pm_21 an_21 cd_21 ct_21),sl_21⟩) (c_21:aR K cd_21 "law" = true) (k_21:aM K (.ref f_21)=true)
  (a_0:bJ K (.ref C_Sight) "__init__" = aa (aa (.ref f_0))) (l_0:K.lookup f_0=aa ⟨oc_0,od_0,.func (aV "__init__" "Sight.__init__" (zal zaw) (zaj zaw) (zad zaw) .none kV_0 dc_0 pm_0 an_0 cd_0 ct_0),sl_0⟩) (c_0:aR K cd_0 "Sight.__init__" = true) (k_0:aM K (.ref f_0)=true) (i_0:eT K (.ref f_0)=true)
  (a_1:bJ K (.ref C_Sight) "come" = aa (aa (.ref f_1))) (l_1:K.lookup f_1=aa ⟨oc_1,od_1,.func (aV "come" "Sight.come" (zal za5) (zaj za5) (zad za5) .none kV_1 dc_1 pm_1 an_1 cd_1 ct_1),sl_1⟩) (c_1:aR K cd_1 "Sight.come" = true) (k_1:aM K (.ref f_1)=true) (i_1:eT K (.ref f_1)=true)
  (a_2:bJ K (.ref C_Sight) "tell" = aa (aa (.ref f_2))) (l_2:K.lookup f_2=aa ⟨oc_2,od_2,.func (aV "tell" "Sight.tell" (zal za1) (zaj za1) (zad za1) .none kV_2 dc_2 pm_2 an_2 cd_2 ct_2),sl_2⟩) (c_2:aR K cd_2 "Sight.tell" = true) (k_2:aM K (.ref f_2)=true) (i_2:eT K (.ref f_2)=true)
  (z_bool:aK K aB "bool" = aa ab)
  (z_int:aK K aB "int" = aa ab)
  (z_isinstance:aK K aB "isinstance" = aa ab)
  (z_len:aK K aB "len" = aa ab)
  (z_list:aK K aB "list" = aa ab)
  (z_max:aK K aB "max" = aa ab)
  (z_min:aK K aB "min" = aa ab)
  (z_range:aK K aB "range" = aa ab)
  (z_reversed:aK K aB "reversed" = aa ab)
  (z_set:aK K aB "set" = aa ab)
  (z_sorted:aK K aB "sorted" = aa ab)
  (z_sum:aK K aB "sum" = aa ab)
  (z_tuple:aK K aB "tuple" = aa ab)
  (q_PUT:aK K aB "PUT" = aa (aa (.int 0 tk_PUT)))
  (q_LEFT:aK K aB "LEFT" = aa (aa (.int 1 tk_LEFT)))
  (q_EXCHANGED:aK K aB "EXCHANGED" = aa (aa (.int 2 tk_EXCHANGED)))
  (q_TURNED:aK K aB "TURNED" = aa (aa (.int 3 tk_TURNED)))
  (q_PLAIN_PRICES:aK K aB "PLAIN_PRICES" = aa (aa (.ref ua_PLAIN_PRICES))) (l_PLAIN_PRICES:K.lookup ua_PLAIN_PRICES=aa ⟨.type "tuple",ab,.seq #[.int 1 t0_PLAIN_PRICES,.int 1 t1_PLAIN_PRICES,.int 1 t2_PLAIN_PRICES,.int 0 t3_PLAIN_PRICES] un_PLAIN_PRICES,#[]⟩) :
  ∃ fd:bQ,(∀ (s:ag) (v:ae),BindsTo s fd ⟨[v],[]⟩ [("_law_script",v)])/\∀ base:ba,K.In base->base.Ns aB mg->FnOk l.prog w K mg base CX0 8 fa fd ["_law_script"] (spLaw K):=by
 have e:=hfa.symm.trans (aY X G a_21)
 cases e
 have DC_Sight:ClsD K mg "Sight" ["most","end","pairs"] C_Sight:=⟨a_Sight,aY X G a_Sight,⟨p1_Sight,p2_Sight,p3_Sight,p4_Sight⟩,fun f hf=>by
  simp only[aN,fQ,or_false] at hf
  rcases hf with rfl | rfl | rfl
  ·exact n_Sight_most
  ·exact n_Sight_end
  ·exact n_Sight_pairs⟩
 obtain⟨T_11,o_11,n_11,rfl,h1_11,h2_11⟩:=e_11
 have F_11:FunA K "cells_of" "cells_of" zbA f_11 _:=⟨⟨oc_11,od_11,.ref T_11,kV_11,dc_11,pm_11,an_11,cd_11,ct_11,sl_11,rfl,l_11,c_11⟩,k_11⟩
 have D_11:DefD K mg "cells_of" zbA ["P","T","prices","free"] _ _:=⟨F_11,aY X G a_11,(fun s us KI hl=>match us,hl with | [_,_,_,_],_=>im KI rfl h1_11 h2_11 rfl rfl),(fun s us KI hl=>match us,(show us.length=3 from Nat.succ.inj ((ay (as:=us) (bs:=[gL false])).symm.trans hl)),hl with | [_,_,_],_,_=>im KI rfl h1_11 h2_11 rfl rfl),⟨(fun s us ws KI hl=>by
  obtain⟨e1,e2,e3⟩:=gK_shape hl
  rw[e3]
  exact match us,e1,ws,e2 with | [_,_,_],_,[_],_=>im KI rfl h1_11 h2_11 rfl rfl),fun r rz=>gK_rel r rz⟩⟩
 have F_27:=zaW (st:=za2) l_27 c_27 k_27
 have D_27:Def K mg "row_across" za2 ["columns","classes"] _ _:=⟨F_27,aY X G a_27,F_27.binds (ps:=["columns","classes"]) fun _ _ _ _ _ _ us hl=>by obtain⟨_,_,rfl⟩:=len2 hl;rfl⟩
 have F_15:=zaW (st:=zaG) l_15 c_15 k_15
 have D_15:Def K mg "first_column" zaG ["pattern","prices"] _ _:=⟨F_15,aY X G a_15,F_15.binds (ps:=["pattern","prices"]) fun _ _ _ _ _ _ us hl=>by obtain⟨_,_,rfl⟩:=len2 hl;rfl⟩
 have F_16:=zaW (st:=zav) l_16 c_16 k_16
 have D_16:Def K mg "further_column" zav ["columns","pattern","text","prices","free"] _ _:=⟨F_16,aY X G a_16,F_16.binds (ps:=["columns","pattern","text","prices","free"]) fun _ _ _ _ _ _ us hl=>by obtain⟨_,_,_,_,_,rfl⟩:=len5 hl;rfl⟩
 have F_10:=zaW (st:=zai) l_10 c_10 k_10
 have D_10:Def K mg "cell_ahead_of_turn" zai ["columns","pattern","text","classes"] _ _:=⟨F_10,aY X G a_10,F_10.binds (ps:=["columns","pattern","text","classes"]) fun _ _ _ _ _ _ us hl=>by obtain⟨_,_,_,_,rfl⟩:=len4 hl;rfl⟩
 have F_28:=zaW (st:=zbY) l_28 c_28 k_28
 have D_28:Def K mg "stepped" zbY ["cell","price"] _ _:=⟨F_28,aY X G a_28,F_28.binds (ps:=["cell","price"]) fun _ _ _ _ _ _ us hl=>by obtain⟨_,_,rfl⟩:=len2 hl;rfl⟩
 have F_22:=zaW (st:=zcm) l_22 c_22 k_22
 have D_22:Def K mg "lowest" zcm ["cells"] _ _:=⟨F_22,aY X G a_22,F_22.binds (ps:=["cells"]) fun _ _ _ _ _ _ us hl=>by obtain⟨_,rfl⟩:=len1 hl;rfl⟩
 have F_12:=zaW (st:=zbZ) l_12 c_12 k_12
 have D_12:Def K mg "ends_in" zbZ ["P","T","most","prices"] _ _:=⟨F_12,aY X G a_12,F_12.binds (ps:=["P","T","most","prices"]) fun _ _ _ _ _ _ us hl=>by obtain⟨_,_,_,_,rfl⟩:=len4 hl;rfl⟩
 have F_26:=zaW (st:=zay) l_26 c_26 k_26
 have D_26:Def K mg "prices_at_ends" zay ["pattern","text","prices"] _ _:=⟨F_26,aY X G a_26,F_26.binds (ps:=["pattern","text","prices"]) fun _ _ _ _ _ _ us hl=>by obtain⟨_,_,_,rfl⟩:=len3 hl;rfl⟩
 have F_24:=zaW (st:=za6) l_24 c_24 k_24
 have D_24:Def K mg "pattern_of" za6 ["W"] _ _:=⟨F_24,aY X G a_24,F_24.binds (ps:=["W"]) fun _ _ _ _ _ _ us hl=>by obtain⟨_,rfl⟩:=len1 hl;rfl⟩
 have F_13:=zaW (st:=zaH) l_13 c_13 k_13
 have D_13:Def K mg "ends_in_kept" zaH ["W","most","T","kept"] _ _:=⟨F_13,aY X G a_13,F_13.binds (ps:=["W","most","T","kept"]) fun _ _ _ _ _ _ us hl=>by obtain⟨_,_,_,_,rfl⟩:=len4 hl;rfl⟩
 have F_14:=zaW (st:=zar) l_14 c_14 k_14
 have D_14:Def K mg "ends_in_stretch" zar ["word","most","text","begin","end"] _ _:=⟨F_14,aY X G a_14,F_14.binds (ps:=["word","most","text","begin","end"]) fun _ _ _ _ _ _ us hl=>by obtain⟨_,_,_,_,_,rfl⟩:=len5 hl;rfl⟩
 have F_19:=zaW (st:=zaB) l_19 c_19 k_19
 have D_19:Def K mg "kept_by_parts" zaB ["W","most","T"] _ _:=⟨F_19,aY X G a_19,F_19.binds (ps:=["W","most","T"]) fun _ _ _ _ _ _ us hl=>by obtain⟨_,_,_,rfl⟩:=len3 hl;rfl⟩
 have F_18:=zaW (st:=zax) l_18 c_18 k_18
 have D_18:Def K mg "kept_by_counts" zax ["W","most","T"] _ _:=⟨F_18,aY X G a_18,F_18.binds (ps:=["W","most","T"]) fun _ _ _ _ _ _ us hl=>by obtain⟨_,_,_,rfl⟩:=len3 hl;rfl⟩
 have F_20:=zaW (st:=zat) l_20 c_20 k_20
 have D_20:Def K mg "kept_by_pieces" zat ["W","most","T","long"] _ _:=⟨F_20,aY X G a_20,F_20.binds (ps:=["W","most","T","long"]) fun _ _ _ _ _ _ us hl=>by obtain⟨_,_,_,_,rfl⟩:=len4 hl;rfl⟩
 have F_25:=zaW (st:=zbl) l_25 c_25 k_25
 have D_25:Def K mg "places_of" zbl ["part","text"] _ _:=⟨F_25,aY X G a_25,F_25.binds (ps:=["part","text"]) fun _ _ _ _ _ _ us hl=>by obtain⟨_,_,rfl⟩:=len2 hl;rfl⟩
 have F_30:=zaW (st:=zb0) l_30 c_30 k_30
 have D_30:Def K mg "windows" zb0 ["word","most","text"] _ _:=⟨F_30,aY X G a_30,F_30.binds (ps:=["word","most","text"]) fun _ _ _ _ _ _ us hl=>by obtain⟨_,_,_,rfl⟩:=len3 hl;rfl⟩
 have F_29:=zaW (st:=zaq) l_29 c_29 k_29
 have D_29:Def K mg "times_of_pieces" zaq ["text","long"] _ _:=⟨F_29,aY X G a_29,F_29.binds (ps:=["text","long"]) fun _ _ _ _ _ _ us hl=>by obtain⟨_,_,rfl⟩:=len2 hl;rfl⟩
 have F_23:=zaW (st:=zaC) l_23 c_23 k_23
 have D_23:Def K mg "number_shared" zaC ["times","other_times"] _ _:=⟨F_23,aY X G a_23,F_23.binds (ps:=["times","other_times"]) fun _ _ _ _ _ _ us hl=>by obtain⟨_,_,rfl⟩:=len2 hl;rfl⟩
 have F_17:=zaW (st:=zco) l_17 c_17 k_17
 have D_17:Def K mg "joined" zco ["stretches"] _ _:=⟨F_17,aY X G a_17,F_17.binds (ps:=["stretches"]) fun _ _ _ _ _ _ us hl=>by obtain⟨_,rfl⟩:=len1 hl;rfl⟩
 have F_9:=zaW (st:=za7) l_9 c_9 k_9
 have D_9:Def K mg "_law_whole" za7 ["_law_found"] _ _:=⟨F_9,aY X G a_9,F_9.binds (ps:=["_law_found"]) fun _ _ _ _ _ _ us hl=>by obtain⟨_,rfl⟩:=len1 hl;rfl⟩
 have F_6:=zaW (st:=za4) l_6 c_6 k_6
 have D_6:Def K mg "_law_pairs" za4 ["_law_found","_law_due"] _ _:=⟨F_6,aY X G a_6,F_6.binds (ps:=["_law_found","_law_due"]) fun _ _ _ _ _ _ us hl=>by obtain⟨_,_,rfl⟩:=len2 hl;rfl⟩
 have F_4:=zaW (st:=zbm) l_4 c_4 k_4
 have D_4:Def K mg "_law_deck" zbm ["_law_cells","_law_many"] _ _:=⟨F_4,aY X G a_4,F_4.binds (ps:=["_law_cells","_law_many"]) fun _ _ _ _ _ _ us hl=>by obtain⟨_,_,rfl⟩:=len2 hl;rfl⟩
 have F_7:=zaW (st:=zbj) l_7 c_7 k_7
 have D_7:Def K mg "_law_sign" zbj ["_law_turn","_law_number"] _ _:=⟨F_7,aY X G a_7,F_7.binds (ps:=["_law_turn","_law_number"]) fun _ _ _ _ _ _ us hl=>by obtain⟨_,_,rfl⟩:=len2 hl;rfl⟩
 have F_5:=zaW (st:=zaI) l_5 c_5 k_5
 have D_5:Def K mg "_law_letters" zaI ["_law_deck_here","_law_many","_law_few","_law_turn"] _ _:=⟨F_5,aY X G a_5,F_5.binds (ps:=["_law_deck_here","_law_many","_law_few","_law_turn"]) fun _ _ _ _ _ _ us hl=>by obtain⟨_,_,_,_,rfl⟩:=len4 hl;rfl⟩
 have F_8:=zaW (st:=zaF) l_8 c_8 k_8
 have D_8:Def K mg "_law_slipped" zaF ["_law_deck_here","_law_word","_law_few","_law_turn"] _ _:=⟨F_8,aY X G a_8,F_8.binds (ps:=["_law_deck_here","_law_word","_law_few","_law_turn"]) fun _ _ _ _ _ _ us hl=>by obtain⟨_,_,_,_,rfl⟩:=len4 hl;rfl⟩
 have F_3:=zaW (st:=zbk) l_3 c_3 k_3
 have D_3:Def K mg "_law_case" zbk ["_law_deck_here"] _ _:=⟨F_3,aY X G a_3,F_3.binds (ps:=["_law_deck_here"]) fun _ _ _ _ _ _ us hl=>by obtain⟨_,rfl⟩:=len1 hl;rfl⟩
 have F_21:=zaW (st:=zdF) l_21 c_21 k_21
 have D_21:Def K mg "law" zdF ["_law_script"] _ _:=⟨F_21,aY X G a_21,F_21.binds (ps:=["_law_script"]) fun _ _ _ _ _ _ us hl=>by obtain⟨_,rfl⟩:=len1 hl;rfl⟩
 have F_0:=zaW (st:=zaw) l_0 c_0 k_0
 have D_0:MakeD K "Sight" zaw "Sight.__init__" ["self","most"] _ _:=⟨.of F_0,fun C h=>by cases zcQ a_Sight h;exact⟨m1_Sight,a_0,i_0,m2_Sight⟩,F_0.binds (ps:=["self","most"]) fun _ _ _ _ _ _ us hl=>by obtain⟨_,_,rfl⟩:=len2 hl;rfl⟩
 have F_1:=zaW (st:=za5) l_1 c_1 k_1
 have D_1:MethD K "Sight" "come" za5 "Sight.come" ["self","price"] _ _:=⟨.of F_1,fun C h=>by cases zcQ a_Sight h;exact⟨a_1,i_1,k_1⟩,F_1.binds (ps:=["self","price"]) fun _ _ _ _ _ _ us hl=>by obtain⟨_,_,rfl⟩:=len2 hl;rfl⟩
 have F_2:=zaW (st:=za1) l_2 c_2 k_2
 have D_2:MethD K "Sight" "tell" za1 "Sight.tell" ["self"] _ _:=⟨.of F_2,fun C h=>by cases zcQ a_Sight h;exact⟨a_2,i_2,k_2⟩,F_2.binds (ps:=["self"]) fun _ _ _ _ _ _ us hl=>by obtain⟨_,rfl⟩:=len1 hl;rfl⟩
 have T:Txt K mg:={ m_bool:=bP X G z_bool,m_int:=bP X G z_int,m_isinstance:=bP X G z_isinstance,m_len:=bP X G z_len,m_list:=bP X G z_list,m_max:=bP X G z_max,m_min:=bP X G z_min,m_range:=bP X G z_range,m_reversed:=bP X G z_reversed,m_set:=bP X G z_set,m_sorted:=bP X G z_sorted,m_sum:=bP X G z_sum,m_tuple:=bP X G z_tuple,g_PUT:=⟨_,aY X G q_PUT,⟨_,rfl⟩⟩,g_LEFT:=⟨_,aY X G q_LEFT,⟨_,rfl⟩⟩,g_EXCHANGED:=⟨_,aY X G q_EXCHANGED,⟨_,rfl⟩⟩,g_TURNED:=⟨_,aY X G q_TURNED,⟨_,rfl⟩⟩,u_PLAIN_PRICES:=⟨_,aY X G q_PLAIN_PRICES,_,_,_,l_PLAIN_PRICES,rfl,rfl,Nat.le_of_ble_eq_true rfl,.cons ⟨_,rfl⟩ (.cons ⟨_,rfl⟩ (.cons ⟨_,rfl⟩ (.cons ⟨_,rfl⟩ (.nil))))⟩,c_Sight:=⟨_,DC_Sight⟩,d_cells_of:=⟨_,_,D_11⟩,d_row_across:=⟨_,_,D_27⟩,d_first_column:=⟨_,_,D_15⟩,d_further_column:=⟨_,_,D_16⟩,d_cell_ahead_of_turn:=⟨_,_,D_10⟩,d_stepped:=⟨_,_,D_28⟩,d_lowest:=⟨_,_,D_22⟩,d_ends_in:=⟨_,_,D_12⟩,d_prices_at_ends:=⟨_,_,D_26⟩,d_pattern_of:=⟨_,_,D_24⟩,d_ends_in_kept:=⟨_,_,D_13⟩,d_ends_in_stretch:=⟨_,_,D_14⟩,d_kept_by_parts:=⟨_,_,D_19⟩,d_kept_by_counts:=⟨_,_,D_18⟩,d_kept_by_pieces:=⟨_,_,D_20⟩,d_places_of:=⟨_,_,D_25⟩,d_windows:=⟨_,_,D_30⟩,d_times_of_pieces:=⟨_,_,D_29⟩,d_number_shared:=⟨_,_,D_23⟩,d_joined:=⟨_,_,D_17⟩,d__law_whole:=⟨_,_,D_9⟩,d__law_pairs:=⟨_,_,D_6⟩,d__law_deck:=⟨_,_,D_4⟩,d__law_sign:=⟨_,_,D_7⟩,d__law_letters:=⟨_,_,D_5⟩,d__law_slipped:=⟨_,_,D_8⟩,d__law_case:=⟨_,_,D_3⟩,d_Sight___init__:=⟨_,_,D_0⟩,d_Sight_come:=⟨_,_,D_1⟩,d_Sight_tell:=⟨_,_,D_2⟩}
 exact⟨aV "law" "law" (zal zdF) (zaj zdF) (zad zdF) .none kV_21 dc_21 pm_21 an_21 cd_21 ct_21,fun s v=>.of_eq rfl,fun base _ _=>(ok_law T (.of F_21)).imp fun _ _ _ _ h=>sp_law h⟩
theorem walk{l:ii}{q:aL}{loose:List Str}{XP:(Str->Option ae)->ba->Prop}{YP:aX->ba->Prop}{d:DefRec}{K:Params->ah}(hn:l.most=aa 63)(hdf:d.params.defaults=[])
  (hY:∀ (w:aX) (h:ba),YP w h->(K w.params).In h)
  (F:∀ (w:aX) (mg:Str->Option ae) (fa:af) (h:ba),(K w.params).In h->h.Ns aB mg->mg d.name=aa (.ref fa) ->
   ∃ fd:bQ,(∀ (s:ag) (u:ae),BindsTo s fd ⟨[u],[]⟩ [("_law_script",u)])/\∀ base:ba,(K w.params).In base->base.Ns aB mg->FnOk l.prog w (K w.params) mg base CX0 8 fa fd ["_law_script"] (spLaw (K w.params))) :
  ke q loose XP YP l.row.toRowW d [] (fun f vs=>jQ f vs):=
 L2.walk_of (n:=63) (k:=8) (x:= "_law_script") (CX:=fun _=>CX0) (sp:=fun w=>spLaw (K w.params)) hn (by decide) hdf ⟨rfl,by decide,by decide⟩ hY F (fun _ _ a ns hl _ hS=>⟨a,ns,rfl,hS,hl,fun _=>rfl⟩) fun _ _ _ _ _ z=>z
end N45
open PySem
def topView:aL:=PySem.W.view PySem.Challenge.pw_nearfind_k45_whole_found_in_kept [39]
def topLoose:List Str:=["PUT","LEFT","EXCHANGED","TURNED","cells_of","row_across","first_column","further_column","cell_ahead_of_turn","stepped","lowest","Sight","ends_in","prices_at_ends","PLAIN_PRICES","pattern_of","ends_in_kept","ends_in_stretch","kept_by_parts","kept_by_counts","kept_by_pieces","places_of","windows","times_of_pieces","number_shared","joined","_law_whole","_law_pairs","_law_deck","_law_sign","_law_letters","_law_slipped","_law_case"].map cU
open PySem.W in
local macro_rules | `(tactic| o_head $H)=>`(tactic| refine holds_open (q:=topView) (loose:=topLoose) (Xt:=fun s=>recOk (RowW.records (OpenRow.toRowW (OpenLaw.row PySem.Challenge.rw_nearfind_k45_whole_found_in_kept))) s) (XP:=fun _ _=>True) (Yf:=Hook.obs $H) (Ya:=Hook.val $H) (YP:=Hook.says $H) (N:=12000) ?hl (Hook.of $H) (Hook.keeps $H) (fun _ _=>trivial) (fun _ _ _ _ _=>trivial) (by rfl) (by rfl) (by rfl) (fun s e=>recFacts_of e) (by rfl) (by assumption) (by decide +kernel) ⟨rfl,rfl,rfl,rfl,rfl,by decide +kernel⟩ ?hw ?hc)
open PySem PySem.W PyProof.Rows
set_option maxRecDepth 100000 in
set_option maxHeartbeats 0 in
theorem PySem.Challenge.cw_nearfind_k45_whole_found_in_kept_holds : PySem.Challenge.rw_nearfind_k45_whole_found_in_kept.Holds := by
 w_on;o_law;k_head
 (case hw=>w_witness2)
 (case hl=>exact fun w=>by kernel_rfl)
 k_fill
 refine N45.walk (l:=PySem.Challenge.rw_nearfind_k45_whole_found_in_kept) rfl rfl (fun w h Y=>PySem.W.kIn_of Y) ?F
 case F=>
  intro w mg fa h KX G hmg
  refine' N45.all_mk KX G hmg ?a_Sight ?p1_Sight ?p2_Sight ?p3_Sight ?p4_Sight ?n_Sight_most ?n_Sight_end ?n_Sight_pairs ?m1_Sight ?m2_Sight ?a_11 ?l_11 ?c_11 ?k_11 ?e_11 ?a_27 ?l_27 ?c_27 ?k_27 ?a_15 ?l_15 ?c_15 ?k_15 ?a_16 ?l_16 ?c_16 ?k_16 ?a_10 ?l_10 ?c_10 ?k_10 ?a_28 ?l_28 ?c_28 ?k_28 ?a_22 ?l_22 ?c_22 ?k_22 ?a_12 ?l_12 ?c_12 ?k_12 ?a_26 ?l_26 ?c_26 ?k_26 ?a_24 ?l_24 ?c_24 ?k_24 ?a_13 ?l_13 ?c_13 ?k_13 ?a_14 ?l_14 ?c_14 ?k_14 ?a_19 ?l_19 ?c_19 ?k_19 ?a_18 ?l_18 ?c_18 ?k_18 ?a_20 ?l_20 ?c_20 ?k_20 ?a_25 ?l_25 ?c_25 ?k_25 ?a_30 ?l_30 ?c_30 ?k_30 ?a_29 ?l_29 ?c_29 ?k_29 ?a_23 ?l_23 ?c_23 ?k_23 ?a_17 ?l_17 ?c_17 ?k_17 ?a_9 ?l_9 ?c_9 ?k_9 ?a_6 ?l_6 ?c_6 ?k_6 ?a_4 ?l_4 ?c_4 ?k_4 ?a_7 ?l_7 ?c_7 ?k_7 ?a_5 ?l_5 ?c_5 ?k_5 ?a_8 ?l_8 ?c_8 ?k_8 ?a_3 ?l_3 ?c_3 ?k_3 ?a_21 ?l_21 ?c_21 ?k_21 ?a_0 ?l_0 ?c_0 ?k_0 ?i_0 ?a_1 ?l_1 ?c_1 ?k_1 ?i_1 ?a_2 ?l_2 ?c_2 ?k_2 ?i_2 ?z_bool ?z_int ?z_isinstance ?z_len ?z_list ?z_max ?z_min ?z_range ?z_reversed ?z_set ?z_sorted ?z_sum ?z_tuple ?q_PUT ?q_LEFT ?q_EXCHANGED ?q_TURNED ?q_PLAIN_PRICES ?l_PLAIN_PRICES
  (case a_Sight=>k_is)
  (case p1_Sight=>k_is)
  (case p2_Sight=>k_is)
  (case p3_Sight=>k_is)
  (case p4_Sight=>k_is)
  (case n_Sight_most=>k_is)
  (case n_Sight_end=>k_is)
  (case n_Sight_pairs=>k_is)
  (case m1_Sight=>k_is)
  (case m2_Sight=>k_is)
  (case a_11=>k_is)
  (case l_11=>k_is)
  (case c_11=>k_is)
  (case k_11=>k_is)
  (case e_11=>exact⟨_,_,_,rfl,by k_is,rfl⟩)
  (case a_27=>k_is)
  (case l_27=>k_is)
  (case c_27=>k_is)
  (case k_27=>k_is)
  (case a_15=>k_is)
  (case l_15=>k_is)
  (case c_15=>k_is)
  (case k_15=>k_is)
  (case a_16=>k_is)
  (case l_16=>k_is)
  (case c_16=>k_is)
  (case k_16=>k_is)
  (case a_10=>k_is)
  (case l_10=>k_is)
  (case c_10=>k_is)
  (case k_10=>k_is)
  (case a_28=>k_is)
  (case l_28=>k_is)
  (case c_28=>k_is)
  (case k_28=>k_is)
  (case a_22=>k_is)
  (case l_22=>k_is)
  (case c_22=>k_is)
  (case k_22=>k_is)
  (case a_12=>k_is)
  (case l_12=>k_is)
  (case c_12=>k_is)
  (case k_12=>k_is)
  (case a_26=>k_is)
  (case l_26=>k_is)
  (case c_26=>k_is)
  (case k_26=>k_is)
  (case a_24=>k_is)
  (case l_24=>k_is)
  (case c_24=>k_is)
  (case k_24=>k_is)
  (case a_13=>k_is)
  (case l_13=>k_is)
  (case c_13=>k_is)
  (case k_13=>k_is)
  (case a_14=>k_is)
  (case l_14=>k_is)
  (case c_14=>k_is)
  (case k_14=>k_is)
  (case a_19=>k_is)
  (case l_19=>k_is)
  (case c_19=>k_is)
  (case k_19=>k_is)
  (case a_18=>k_is)
  (case l_18=>k_is)
  (case c_18=>k_is)
  (case k_18=>k_is)
  (case a_20=>k_is)
  (case l_20=>k_is)
  (case c_20=>k_is)
  (case k_20=>k_is)
  (case a_25=>k_is)
  (case l_25=>k_is)
  (case c_25=>k_is)
  (case k_25=>k_is)
  (case a_30=>k_is)
  (case l_30=>k_is)
  (case c_30=>k_is)
  (case k_30=>k_is)
  (case a_29=>k_is)
  (case l_29=>k_is)
  (case c_29=>k_is)
  (case k_29=>k_is)
  (case a_23=>k_is)
  (case l_23=>k_is)
  (case c_23=>k_is)
  (case k_23=>k_is)
  (case a_17=>k_is)
  (case l_17=>k_is)
  (case c_17=>k_is)
  (case k_17=>k_is)
  (case a_9=>k_is)
  (case l_9=>k_is)
  (case c_9=>k_is)
  (case k_9=>k_is)
  (case a_6=>k_is)
  (case l_6=>k_is)
  (case c_6=>k_is)
  (case k_6=>k_is)
  (case a_4=>k_is)
  (case l_4=>k_is)
  (case c_4=>k_is)
  (case k_4=>k_is)
  (case a_7=>k_is)
  (case l_7=>k_is)
  (case c_7=>k_is)
  (case k_7=>k_is)
  (case a_5=>k_is)
  (case l_5=>k_is)
  (case c_5=>k_is)
  (case k_5=>k_is)
  (case a_8=>k_is)
  (case l_8=>k_is)
  (case c_8=>k_is)
  (case k_8=>k_is)
  (case a_3=>k_is)
  (case l_3=>k_is)
  (case c_3=>k_is)
  (case k_3=>k_is)
  (case a_21=>k_is)
  (case l_21=>k_is)
  (case c_21=>k_is)
  (case k_21=>k_is)
  (case a_0=>k_is)
  (case l_0=>k_is)
  (case c_0=>k_is)
  (case k_0=>k_is)
  (case i_0=>k_is)
  (case a_1=>k_is)
  (case l_1=>k_is)
  (case c_1=>k_is)
  (case k_1=>k_is)
  (case i_1=>k_is)
  (case a_2=>k_is)
  (case l_2=>k_is)
  (case c_2=>k_is)
  (case k_2=>k_is)
  (case i_2=>k_is)
  (case z_bool=>k_is)
  (case z_int=>k_is)
  (case z_isinstance=>k_is)
  (case z_len=>k_is)
  (case z_list=>k_is)
  (case z_max=>k_is)
  (case z_min=>k_is)
  (case z_range=>k_is)
  (case z_reversed=>k_is)
  (case z_set=>k_is)
  (case z_sorted=>k_is)
  (case z_sum=>k_is)
  (case z_tuple=>k_is)
  (case q_PUT=>k_is)
  (case q_LEFT=>k_is)
  (case q_EXCHANGED=>k_is)
  (case q_TURNED=>k_is)
  (case q_PLAIN_PRICES=>k_is)
  (case l_PLAIN_PRICES=>k_is)
#print axioms PySem.Challenge.cw_nearfind_k45_whole_found_in_kept_holds


