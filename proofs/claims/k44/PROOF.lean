import PyProof.Rows.All
import Wide.All
import OpenK.AllK
import Wide.FinOn
import Lean
import PyProof.EqAt
import PyProof.EqKinds
import PyProof.TupleCall
import PyProof.NeKinds
import PyProof.SetNew
import PyProof.SetRoads
import PyProof.Rows.SetFrom
import PyProof.CollectStr
import PyProof.ZipIter
import PyProof.Rows.StrNews2
import PyProof.Rows.StrCut
import KE.KRevIter
import PyProof.Rows.StrRev
import PySem.Challenge.RW_nearfind_k44_whole_nothing_lost
open Array renaming length_toList->aC,getElem_mem->bu,getElem?_toList->cQ,mem_toList_iff->cV,toList_extract->cZ,getElem_extract->db,getElem_toList->dj,toList_append->du,append_empty->dA,toList_reverse->dZ,toList_zip->eT,size_extract->fN,getElem?_eq_some_iff->fQ,toList_setIfInBounds->fS,perm_iff_toList_perm->fT,toList_push->fY,getElem?_eq_getElem->f9,ext'->hU,reverse_empty->ik,toList->iw
open Bool renaming false_ne_true->aX,false_eq_true->bG,and_eq_true->cP,false_and->eu,eq_iff_iff->fg,or_false->ic,not_eq_true'->iP,and_false->jr,true_and->jB
open Classical renaming propDecidable->j9
open Decidable renaming byContradiction->gc
open Eq renaming trans->gy
open False renaming elim->bY
open ForInStep renaming yield->jh
open Int renaming eq_ofNat_of_zero_le->b7,natCast_nonneg->dB,emod_nonneg->dC,emod_lt_of_pos->dD,mul_le_mul_of_nonneg_right->dE,le_refl->dH,toNat_natCast->dI,zero_add->et,add_zero->fq,fdiv_eq_ediv_of_nonneg->fP,le_trans->iF,natCast_ediv->ja,mul_nonneg->ju
open List renaming range->ak,mem_cons_of_mem->al,length_map->aq,mem_cons_self->aw,getElem?_map->ax,map_cons->ay,replicate->aD,getElem?_eq_getElem->aF,mem_append_right->aJ,getElem?_eq_some_iff->aO,length_append->aP,length_cons->aQ,nodup_cons->aV,mem_cons->aY,mem_singleton->a7,size_toArray->a8,getElem?_set->bj,getElem?_range->bo,getD_eq_getElem?_getD->br,length_take->bv,mem_append->bx,mem_append_left->bz,length_range->bI,mem_map->bJ,mem_range->bK,map_congr_left->bL,lookup_cons->bN,nodup_append->bO,drop_eq_getElem_cons->bQ,zip_cons_cons->bS,append_nil->bV,map_append->bW,lookup->b5,append_assoc->b6,getElem?_append_left->ca,range_succ->ce,mem_of_getElem?->cg,map_nil->ci,take_of_length_le->cn,extract_eq_drop_take->cy,length_singleton->cA,getElem?_eq_none->cB,length_drop->cC,all_eq_true->cD,length_dropLast->cF,foldl_cons->cG,replicate_succ->cJ,map_map->cK,zipWith_cons_cons->cL,getElem?_append_right->cN,mem_filter->cU,getElem?_take_of_lt->cX,getElem?_cons_succ->c8,length_reverse->c9,cons_lt_cons_iff->dc,flatten_cons->de,reverse_cons->dg,findIdx?_eq_some_iff_getElem->dq,sum_cons->dw,mem_filterMap->dy,nil_append->dz,range'->dG,zipWith->dQ,length_filter_le->dR,map_snd_zip->dW,pairwise_append->dX,pairwise_iff_getElem->d8,getElem?_replicate->eB,getElem?_cons_zero->eD,pairwise_singleton->eG,length->eJ,drop_eq_nil_of_le->eM,find?_cons_of_pos->eN,find?_cons_of_neg->eO,all_cons->eP,ext_getElem->eQ,take_length->eR,map_reverse->eV,length_replicate->eW,perm_append_comm->eY,take_append_drop->eZ,eq_nil_of_length_eq_zero->fw,filterMap_cons->fB,flatMap_append->fD,drop_zero->fG,getElem?_eq_none_iff->fZ,getLast?_eq_getElem?->f7,getLast?_eq_some_iff->gd,getLast?_eq_none_iff->gf,drop_length->gk,cons_append->gv,not_mem_nil->gw,getElem_map->gz,mem_flatMap->gA,filter_cons_of_pos->gC,filter_cons_of_neg->gD,of_mem_zip->gG,length_set->gH,length_zip->gJ,range_zero->gL,getElem?_set_self->gN,map_id->gP,dropLast_eq_take->gT,getElem?_reverse->gU,pairwise_reverse->gX,set_append_right->gY,countP_mono_left->gZ,nodup_nil->g5,getElem?_set_ne->g8,mem_iff_getElem->hJ,dropLast_concat->hZ,take_succ_cons->ig,filterMap_map->iA,getElem?_drop->iE,pairwise_cons->iH,foldl_append->iJ,ext_getElem?->iN,getElem_drop->iO,reverse_perm->iQ,pairwise_map->iS,map_dropLast->iV,getLast?_map->iW,not_lt->i3,map_fst_zip->i7,countP_cons->i8,nil_sublist->i9,foldl->jd,forIn_cons->jg,filter_nil->jm,count_cons->jn,forIn_nil->jp,take_zero->jq,drop_drop->jt,map->kW
open List.Pairwise renaming of_cons->km,nil->kO
open List.Perm renaming eq_of_pairwise->j7
open List.cons renaming injEq->k6,inj->k7
open Nat renaming le_refl->ai,le_trans->aL,zero_le->aS,lt_of_lt_of_le->aW,ne_of_lt->bp,zero_add->bq,le_of_lt->bA,lt_irrefl->cc,sub_self->c6,min_eq_left->da,add_lt_of_lt_sub->di,le_succ->dm,add_le_add_left->dt,le_of_eq->dM,add_comm->dO,sub_zero->dP,min_le_right->dU,le_add_right->dY,lt_of_le_of_lt->ef,add_zero->ej,add_sub_cancel->em,add_sub_cancel_left->eF,lt_of_not_le->eS,ne_of_gt->gh,lt_succ_self->gj,sub_add_cancel->iG,lt_of_succ_lt->iU,min_eq_right->i6,not_lt->jj,min_le_left->jk,add_assoc->jA
open Ne renaming symm->cj
open Option renaming some->aa,none->ab,bind_some->aT,bind->bM,map_some->cz,join_some->gx,map_eq_some_iff->gR,getD_none->i5,none->ki,map->ku
open Option.some renaming inj->bf,injEq->kQ
open Or renaming inl->au,inr->bw
open Prod renaming snd->kU,fst->kX
open Prod.mk renaming inj->kg
open PyProof.Rows renaming wpS_bind->ar,wpS_pure->aA,pendingOf->bi,wpS_forRange->bX,callWith_type1->bZ,slot_tuple_getitem->dv,callWith_builtin1->jb,callWith_kw->j6
open PyProof.Rows.SortSt renaming mk'->ey
open PySem renaming Value->ae,Addr->af,Shared->ah,wpAny_bind->aj,mainGlobals->av,wpAny_pure->aE,wpAny->aI,Program->aR,World->aU,sizeLine->aZ,Around->a9,Heap->ba,starEach->be,bootBuiltins->bn,FuncData->bD,compareOp->bF,assignEach->bH,wpAny_holding->bT,attributeBase->bU,wpAny_Call_Name_kw->cf,sizeLine_eq->ck,foldedSetIterable->cr,mem_of_lookup->cx,wpAny_mono->cM,strKind->c7,Within->iu,call->jf
open PySem.Around renaming under_plainId->cY,under->iy
open PySem.AutoListH renaming list___mul___list_int_3->iY
open PySem.Builtin.Builtins renaming bindParams->fL
open PySem.Builtin.List renaming listExtendWith->cI,listSameRef->dr,listTooLong->ed,listLengthHint->fM,listItems->gQ,listUpdate->kc
open PySem.Builtin.Range renaming rangeSize->j8
open PySem.Builtin.Slice renaming slicePlaces->dh,sliceApplied->fR,sliceAdjust->gb,slicePartIndex->jo,sliceFields->jN
open PySem.Builtin.Str renaming strSliceIndices->cH,occurrences->eA
open PySem.Builtin.Tuple renaming tupleExact->cE,tupleItemsOf->jz,tupleHashOf->jM
open PySem.Calls renaming callWith_builtin->eK,spliced_cons->fJ,Name_function_global->fO,spliced_nil->fW,evalArgs_plain->hG
open PySem.Code renaming isFrame->iz,frames->kh
open PySem.Data renaming seq->kR
open PySem.DictEntry renaming refKey->kS
open PySem.EqMixed renaming eq_bool_str->jF,eq_str_bool->jG,ne_bool_str->jK,ne_str_bool->jL,eq_int_str->jS,eq_str_int->jU,ne_int_str->jY,ne_str_int->j0
open PySem.EqNone renaming eq_none_none->jC,eq_none_bool->jD,eq_bool_none->jE,ne_none_none->jH,ne_none_bool->jI,ne_bool_none->jJ,eq_none_int->jP,eq_none_str->jQ,eq_int_none->jR,eq_str_none->jT,ne_none_int->jV,ne_none_str->jW,ne_int_none->jX,ne_str_none->jZ
open PySem.Expr renaming Call->kL
open PySem.F renaming plain_min_loop->bR,entry_min_loop->dF,plainAttrs_list->eE,slot_dict_get->eX,slot_list_append->gl,type_list_append->gp,slot_str_getitem->gq,slot_tuple_index->gu,plainAttrs_dict->gB,type_dict_get->gW,plain_extend_loop->ij,plain_list_iadd->iM,slot_int_rmul->je
open PySem.Heap renaming get?_push_of_some->am,get?_push_size->aM,lt_size->aN,get?_update_other->b9,size_push->dL,get?_update_self->dN,size_update->eU,SameBut->e9,get?_update_ne->im,get?_push_ne->iR
open PySem.Heap.DictOf renaming new->k5
open PySem.Heap.IsList renaming push->kY
open PySem.Heap.IsSliceOf renaming new->iC
open PySem.Heap.IsTuple renaming push->kP
open PySem.IsL renaming update->kT
open PySem.ItemsOf renaming nil->kj
open PySem.NameKind renaming free->bC,cell->cO
open PySem.Obj renaming mapSeq->bP
open PySem.Paired renaming length->jw
open PySem.PassesOwn renaming never->ji
open PySem.SeqAt renaming EqAt->jc
open PySem.SeqAt.EqAt renaming int_str->ip,str_int->iq,none_bool->ko,bool_none->kq,bool_bool->kr,none_int->kx,none_str->ky,bool_int->kz,bool_str->kB,int_none->kC,int_bool->kD,str_none->kE,str_bool->kF,int_int->kI,str_str->kJ,same->kZ
open PySem.Str renaming ofString->dJ,length->f6,empty->kH
open PySem.StrLaws renaming strSliceIndices_plain->fz
open PySem.Txt renaming slice_le->gr,sliceBy->iZ,slice->jv
open PySem.Value renaming ref->bE,type->cR,int->fH,str->fI,none->g6,bool->g7,isStrOf->h8,isStrOf_shape->ie,bytes->ke,float->kf
open PySem.W renaming Frag->ag,nsIn->az,keepIn->aB,codeIn->aG,mg_of->aH,fnOf->aK,findIn->bB,mg_none_of->b8,emptyDict->cw,instObj->cS,plainGet->dS,isFn->d9,hasDictIn->eH,plainGet_of->fC,lookIn->fF,callWith_K->fK,methodObj->fU,plainOver->fV,takerIn->gE,makesIn->gF,OpenLaw->gI,binds_K->gM,cellsFrom_some->gO,methodCall_KW->gS,specialIn->iI,handedIn->i4,kat_nil->jl,WalkO->jx
open PySem.W.Looks renaming here->kG
open PySem.W.RowW renaming records->jO
open PySem.W.WData renaming int->kK
open PySem.W.WShape renaming has->kt
open PySem.Walks renaming listRev->jy
open PySem.Within renaming cons->kM
open Std.Legacy.Range renaming forIn_eq_forIn_range'->ii
open Sum renaming inr->bm,inl->gg
open Sum.inr renaming inj->iX
open True renaming intro->g9
noncomputable section
namespace TopH
open PySem PySem.W PyProof.Rows
local macro_rules | `(tactic| o_head $H)=>`(tactic| (contradiction;exact $H))
set_option maxRecDepth 100000
set_option maxHeartbeats 0 in
noncomputable def topHook:Hook:=by
 refine(fun(_:False->PySem.Challenge.rw_nearfind_k44_whole_nothing_lost.row.Holds)=>?H) ?g
 rotate_left
 intro _
 k_head
abbrev topProg:aR:=PySem.Challenge.pw_nearfind_k44_whole_nothing_lost
noncomputable def topView:aR:=view topProg [48]
noncomputable def topLoose:List Str:=["kept_by_parts","kept_by_counts","kept_by_pieces","places_of","windows","times_of_pieces","number_shared","joined","PUT","LEFT","EXCHANGED","TURNED","cells_of","row_across","first_column","further_column","cell_ahead_of_turn","stepped","lowest","CLASSES_USED","SIGNS_USED","PLACE_IN_PRICES","row_between","last_step","comes_last","can_stand","is_done","step_price","Sight","ends_in","stretch_at","prices_at_ends","prices_by_length","first_lowest","pattern_of","_law_deck","_law_sign","_law_letters","_law_slipped","_law_case","_law_lies","_law_apart"].map dJ
abbrev topRow:RowW:=OpenRow.toRowW (OpenLaw.row PySem.Challenge.rw_nearfind_k44_whole_nothing_lost)
abbrev topAt(w:aU):Prop:=(openEnds treeTable topProg w 12000).map (fun s=>(openSeen topView topLoose (importedModules topProg.main.body) (fun s=>recOk (jO topRow) s) true s,topHook.obs s))=aa (openGood topView topLoose,topHook.val w)
theorem topLeft0(w:aU):topAt (w.withFollow "special-get-raises" false):=by kernel_rfl
theorem topLeft1(w:aU):topAt (w.withFollow "special-get-raises" true):=by kernel_rfl
theorem topLeft:∀ w:aU,topAt w:=byRow2 "special-get-raises" (P:=topAt) topLeft0 topLeft1
end TopH
set_option Elab.async false
set_option linter.all false
set_option maxRecDepth 100000
namespace L2
open PySem PySem.Spec PyProof.Rows
abbrev Key:=Sum Int Str
def keyIs:Key->ae->Bool
 | .inl k,v=>Value.isInt k v
 | .inr x,v=>h8 x v
def keyH(w:aU):Key->Int
 | .inl k=>hashInt k
 | .inr x=>hashStr w x
theorem zbh:∀ {k:Key} {v:ae},keyIs k v=true->(∃ i t,k=gg i/\v=fH i t) \/ (∃ x t,k=bm x/\v=fI x t)
 | .inl i,v,h=>by
  obtain⟨t,e⟩:=Value.isInt_shape (k:=i) (v:=v) h
  exact .inl ⟨i,t,rfl,e⟩
 | .inr x,v,h=>by
  obtain⟨t,e⟩:=ie (x:=x) (v:=v) h
  exact .inr ⟨x,t,rfl,e⟩
theorem key_ll(a b:Int):decide ((gg a:Key)=gg b)=(a == b):=by
 by_cases e:a=b
 ·subst e;simp
 ·have h:¬ (gg a:Key)=gg b:=fun q=>e (Sum.inl.inj q)
  rw[decide_eq_false h]
  exact(beq_eq_false_iff_ne.mpr e).symm
theorem key_rr(a b:Str):decide ((bm a:Key)=bm b)=decide (a=b):=by
 by_cases e:a=b
 ·subst e;simp
 ·have h:¬ (bm a:Key)=bm b:=fun q=>e (iX q)
  rw[decide_eq_false h,decide_eq_false e]
theorem key_lr(a:Int)(b:Str):decide ((gg a:Key)=bm b)=false:=decide_eq_false (fun q=>nomatch q)
theorem key_rl(a:Str)(b:Int):decide ((bm a:Key)=gg b)=false:=decide_eq_false (fun q=>nomatch q)
def zdz(prog:aR)(w:aU):PySem.KeyKind prog w Key where
 is:=keyIs
 hash:=keyH w
 inj:=fun v a b ha hb=>by
  rcases zbh ha with ⟨i,t,rfl,rfl⟩ | ⟨x,t,rfl,rfl⟩
  ·rcases zbh hb with ⟨j,u,rfl,e⟩ | ⟨y,u,rfl,e⟩
   ·injection e with e1 _;rw[e1]
   ·exact nomatch e
  ·rcases zbh hb with ⟨j,u,rfl,e⟩ | ⟨y,u,rfl,e⟩
   ·exact nomatch e
   ·injection e with e1 _;rw[e1]
 byValue:=fun k v h=>by
  rcases zbh h with ⟨i,t,rfl,rfl⟩ | ⟨x,t,rfl,rfl⟩ <;> rfl
 pyHash:=fun hv h=>by
  rcases zbh hv with ⟨i,t,rfl,rfl⟩ | ⟨x,t,rfl,rfl⟩
  ·exact wpAny_pyHash_int h
  ·exact wpAny_pyHash_str h
 eqBool:=fun hu hv h=>by
  rcases zbh hu with ⟨i,t,rfl,rfl⟩ | ⟨x,t,rfl,rfl⟩
  ·rcases zbh hv with ⟨j,u,rfl,rfl⟩ | ⟨y,u,rfl,rfl⟩
   ·rw[key_ll] at h;exact wpAny_eqBool_int h
   ·rw[key_lr] at h;exact ip i t y u _ _ _ _ h
  ·rcases zbh hv with ⟨j,u,rfl,rfl⟩ | ⟨y,u,rfl,rfl⟩
   ·rw[key_rl] at h;exact iq x t j u _ _ _ _ h
   ·rw[key_rr] at h;exact wpAny_eqBool_str h
 «strs» :=fun k x t v h=>by
  rcases zbh h with ⟨i,u,rfl,e⟩ | ⟨y,u,rfl,e⟩
  ·exact nomatch e
  ·injection e with e1 _
   subst e1
   cases v <;> rfl
end L2
namespace L2
open PySem PySem.Spec PyProof.Rows
inductive V where
 | non | bl (b:Bool) | int (i:Int) | str (x:Str) | byt (b:Array UInt8) | flt (b:UInt64) | ref (a:af) | ty (n:String)
 deriving DecidableEq
def RelV:V->ae->Prop
 | .non,u=>u=g6
 | .bl b,u=>u=g7 b
 | .int i,u=>∃ t,u=fH i t
 | .str x,u=>∃ t,u=fI x t
 | .byt b,u=>∃ t,u=ke b t
 | .flt b,u=>∃ t,u=kf b t
 | .ref a,u=>u=bE a
 | .ty n,u=>u=cR n
abbrev Vals:List V->List ae->Prop:=Paired RelV
theorem Vals.length{xs:List V}{us:List ae}(r:Vals xs us):xs.length=us.length:=jw r
theorem Vals.get:∀ {xs:List V} {us:List ae} {i:Nat} {x:V},Vals xs us->xs[i]? = aa x->∃ u,us[i]? = aa u/\RelV x u
 | _,_,_,_,.nil,e=>by simp at e
 | _,_,0,_,.cons r _,e=>by simp at e;subst e;exact⟨_,rfl,r⟩
 | _,_,i+1,x,.cons _ t,e=>by
  obtain⟨u,h1,h2⟩:=Vals.get (i:=i) (x:=x) t (by simpa using e)
  exact⟨u,by simpa using h1,h2⟩
theorem Vals.set{x:V}{u:ae}(r:RelV x u):∀ {xs:List V} {us:List ae} (i:Nat),Vals xs us->Vals (xs.set i x) (us.set i u)
 | _,_,_,.nil=>.nil
 | _,_,0,.cons _ t=>.cons r t
 | _,_,i+1,.cons q t=>.cons q (Vals.set r i t)
theorem Vals.append:∀ {xs ys:List V} {us ws:List ae},Vals xs us->Vals ys ws->Vals (xs ++ ys) (us ++ ws)
 | _,_,_,_,.nil,s=>s
 | _,_,_,_,.cons r t,s=>.cons r (Vals.append t s)
theorem Vals.take:∀ {xs:List V} {us:List ae} (n:Nat),Vals xs us->Vals (xs.take n) (us.take n)
 | _,_,0,_=>.nil
 | _,_,_+1,.nil=>.nil
 | _,_,n+1,.cons r t=>.cons r (Vals.take n t)
theorem Vals.drop:∀ {xs:List V} {us:List ae} (n:Nat),Vals xs us->Vals (xs.drop n) (us.drop n)
 | _,_,0,r=>r
 | _,_,_+1,.nil=>.nil
 | _,_,n+1,.cons _ t=>Vals.drop n t
theorem Vals.none_of:∀ {xs:List V} {us:List ae} {i:Nat},Vals xs us->xs[i]? = ab->us[i]? = ab:=fun {xs us i} r e=>by
 have h1:=r.length
 have h2:xs.length<=i:=fZ.mp e
 exact fZ.mpr (by lia)
def RelO:Option V->Option ae->Prop
 | some v,aa u=>RelV v u
 | none,ab=>True
 | _,_=>False
def KV{κ:Type}:List (κ × V)->List (κ × ae)->Prop:=Paired fun(p:κ × V) (q:κ × ae)=>p.1=q.1/\RelV p.2 q.2
def kV:Key->V
 | .inl i=>.int i
 | .inr x=>.str x
inductive HO where
  | lst (xs:List V)
  | tup (xs:List V)
  | dK (kvs:List (Key × V)) | dT (kvs:List (List Key × V))
  | set (S:Int->Bool) (n:Nat)
  | ins (C dx:af) (fs:List (Str × V))
  | own (x:af)
  | xd (fs:List (Str × V))
  | met (f x:af)
  | rng (lo hi:Int)
  | frz (o:Obj) (u:HO)
  | tbl (ps:Array ae)
  | ext (φ:ba->Prop)
abbrev Hp:=af->Option HO
def upd(H:Hp)(a:af)(o:HO):Hp:=fun b=>if b=a then aa o else H b
theorem zaj{H:Hp}{a:af}{o:HO}:upd H a o a=aa o:=by unfold upd;rw[if_pos rfl]
theorem zan{H:Hp}{a b:af}{o:HO}(h:b ≠ a):upd H a o b=H b:=by unfold upd;rw[if_neg h]
theorem zaZ{H:Hp}{a b:af}{o:HO}(h:H a=aa o)(h':H b=ab):a ≠ b:=by
 intro e;subst e;rw[h] at h';cases h'
section
variable (P:aR)(w:aU)
def TupN(h:ba)(a:af)(ts:Array ae):Prop:=∃ o,h.get? a=aa o/\o.cls=.type "tuple" /\ ∃ n,(o.data,o.dict)=(kR ts n,ab)
theorem TupN.is{h:ba}{a:af}{ts:Array ae}(x:TupN h a ts):IsTup h a ts:=let⟨o,e,c,n,d⟩:=x;⟨o,e,c,n,(kg d).1⟩
theorem TupN.lt{h:ba}{a:af}{ts:Array ae}(x:TupN h a ts):a<h.objs.size:=x.is.lt
theorem TupN.nod{h:ba}{a:af}{ts:Array ae}(x:TupN h a ts):∃ o,h.get? a=aa o/\o.dict=ab:=let⟨o,e,_,_,d⟩:=x;⟨o,e,(kg d).2⟩
theorem TupN.new(h:ba)(ts:Array ae):TupN (h.push { cls:=.type "tuple",data:=.seq ts}) h.objs.size ts:=⟨_,aM _ rfl,rfl,0,rfl⟩
instance {h:ba}{a:af}{ts:Array ae}:Coe (TupN h a ts) (IsTup h a ts):=⟨TupN.is⟩
def ObjOk(H:Hp)(h:ba)(a:af):HO->Prop
 | .lst xs=>xs.length<=aZ/\∃ (its:List ae) (n:Nat),Vals xs its/\h.get? a=aa { cls:=.type "list",data:=.seq its.toArray n}
 | .tup xs=>xs.length<=aZ/\∃ its:List ae,Vals xs its/\TupN h a its.toArray
 | .dK kvs=>kvs.length<=aZ/\(a == sysModules)=false/\∃ vs,KV kvs vs/\h.DictOf (zdz P w) a vs
 | .dT kvs=>kvs.length<=aZ/\(a == sysModules)=false/\∃ xs:List (List Key × af × ae),
   Paired (fun(p:List Key × V) (q:List Key × af × ae)=>p.1=q.1/\H q.2.1=aa (.tup (p.1.map kV))/\RelV p.2 q.2.2) kvs xs /\
   ∃ o es ep,h.get? a=aa o/\o.ExactDict/\o.data=.dict es ep/\es.toList=xs.map (entryOfKey (tupleKind (zdz P w)))/\(xs.map (·.1)).Nodup
 | .set S n=>h.SetOf (intKind P w) a S n
 | .ins C dx fs=>H dx=aa (.own a)/\fs.length<=1000/\dx ≠ a/\h.get? a=aa (cS C dx) /\
   ∃ mA,h.Ns1 dx mA/\(∀ f,RelO (fs.lookup f) (mA f))/\iu mA (fs.map (·.1))
 | .own _=>∃ o,h.get? a=aa o
 | .xd fs=>∃ mA,h.Ns1 a mA/\∀ f,RelO (fs.lookup f) (mA f)
 | .rng lo hi=>∃ t u v,h.get? a=aa { cls:=.type "range",data:=.fields #[.int lo t,.int hi u,.int 1 v]}
 | .frz o u=>h.get? a=aa o/\ObjOk H h a u
 | .tbl ps=>h.get? a=aa { cls:=.none,data:=.fields ps}
 | .met f x=>h.get? a=aa (fU (.ref f) (.ref x))
 | .ext φ=>φ h/\(∃ o,h.get? a=aa o)/\∀ h1 h2:ba,φ h1->(∀ o,h1.get? a=aa o->h2.get? a=aa o)->φ h2
def HOk(H:Hp)(h:ba):Prop:=∀ a o,H a=aa o->ObjOk P w H h a o
end
section
variable {P:aR}{w:aU}{H H':Hp}{h h':ba}{a:af}{o:HO}
theorem ObjOk.lt(x:ObjOk P w H h a o):a<h.objs.size:=by
 cases o with
 | lst xs=>obtain⟨_,_,_,_,e⟩:=x;exact aN e
 | tup xs=>obtain⟨_,_,_,p⟩:=x;exact p.lt
 | dK kvs=>obtain⟨_,_,_,_,o,_,_,e,_⟩:=x;exact aN e
 | dT kvs=>obtain⟨_,_,_,_,o,_,_,e,_⟩:=x;exact aN e
 | set S n=>obtain⟨o,_,_,_,e,_⟩:=x;exact aN e
 | ins C dx fs=>obtain⟨_,_,_,e,_⟩:=x;exact aN e
 | own y=>obtain⟨_,e⟩:=x;exact aN e
 | xd fs=>obtain⟨_,⟨_,_,_,e,_⟩,_⟩:=x;exact aN e
 | rng lo hi=>obtain⟨_,_,_,e⟩:=x;exact aN e
 | frz ob u=>obtain⟨e,_⟩:=x;exact aN e
 | tbl ps=>exact aN (show h.get? a=aa _ from x)
 | met f y=>exact aN (show h.get? a=aa _ from x)
 | ext φ=>obtain⟨_,⟨_,e⟩,_⟩:=x;exact aN e
theorem Paired.mapP{α β:Type}{F G:α->β->Prop}:∀ {l₁:List α} {l₂:List β},Paired F l₁ l₂->(∀ a b,F a b->G a b)->Paired G l₁ l₂
 | _,_,.nil,_=>.nil
 | _,_,.cons r t,f=>.cons (f _ _ r) (Paired.mapP t f)
theorem ObjOk.stay(x:ObjOk P w H h a o)(k:∀ b u,(b=a \/ H b=aa (.own a))->h.get? b=aa u->h'.get? b=aa u)
  (ho:∀ b,H b=aa (.own a)->H' b=aa (.own a)) (ht:∀ b xs,H b=aa (.tup xs)->H' b=aa (.tup xs)):ObjOk P w H' h' a o:=by
 induction o with
 | lst xs=>obtain⟨z,its,n,r,e⟩:=x;exact⟨z,its,n,r,k _ _ (.inl rfl) e⟩
 | tup xs=>obtain⟨z,its,r,ob,e,c⟩:=x;exact⟨z,its,r,ob,k _ _ (.inl rfl) e,c⟩
 | dK kvs=>obtain⟨z,y,vs,r,ob,es,ep,e,c⟩:=x;exact⟨z,y,vs,r,ob,es,ep,k _ _ (.inl rfl) e,c⟩
 | dT kvs=>
  obtain⟨z,y,xs,r,ob,es,ep,e,c⟩:=x
  exact⟨z,y,xs,Paired.mapP r fun p q z=>⟨z.1,ht _ _ z.2.1,z.2.2⟩,ob,es,ep,k _ _ (.inl rfl) e,c⟩
 | set S n=>obtain⟨ob,es,ep,t,e,c⟩:=x;exact⟨ob,es,ep,t,k _ _ (.inl rfl) e,c⟩
 | ins C dx fs=>
  obtain⟨d,z,ne,e,mA,⟨od,es,ep,e2,c⟩,r⟩:=x
  exact⟨ho _ d,z,ne,k _ _ (.inl rfl) e,mA,⟨od,es,ep,k _ _ (.inr d) e2,c⟩,r⟩
 | own y=>obtain⟨ob,e⟩:=x;exact⟨ob,k _ _ (.inl rfl) e⟩
 | xd fs=>obtain⟨mA,⟨od,es,ep,e,c⟩,r⟩:=x;exact⟨mA,⟨od,es,ep,k _ _ (.inl rfl) e,c⟩,r⟩
 | rng lo hi=>obtain⟨t,u,v,e⟩:=x;exact⟨t,u,v,k _ _ (.inl rfl) e⟩
 | frz ob u ih=>obtain⟨e,q⟩:=x;exact⟨k _ _ (.inl rfl) e,ih q⟩
 | tbl ps=>
  have e:h.get? a=aa { cls:=.none,data:=.fields ps}:=x
  show h'.get? a=aa { cls:=.none,data:=.fields ps}
  exact k a _ (.inl rfl) e
 | met f y=>
  have e:h.get? a=aa (fU (.ref f) (.ref y)):=x
  show h'.get? a=aa (fU (.ref f) (.ref y))
  exact k a _ (.inl rfl) e
 | ext φ=>obtain⟨p,⟨o,e⟩,st⟩:=x;exact⟨st _ _ p fun o q=>k _ _ (.inl rfl) q,⟨o,k _ _ (.inl rfl) e⟩,st⟩
theorem HOk.lt(x:HOk P w H h)(e:H a=aa o):a<h.objs.size:=(x a o e).lt
theorem HOk.fresh(x:HOk P w H h)(e:h.objs.size<=a):H a=ab:=by
 cases q:H a with
 | none=>rfl
 | some u=>exact absurd (aW (x.lt q) e) (cc _)
theorem HOk.kept(x:HOk P w H h)(k:∀ b u,h.get? b=aa u->h'.get? b=aa u):HOk P w H h':=fun a o e=>
 (x a o e).stay (fun b u _ q=>k b u q) (fun _ q=>q) fun _ _ q=>q
theorem HOk.laid(x:HOk P w H h)(k:∀ b u,h.get? b=aa u->h'.get? b=aa u)(hp:h.objs.size<=a)(new:ObjOk P w (upd H a o) h' a o):HOk P w (upd H a o) h':=fun b u e=>by
 have hn:=x.fresh hp
 by_cases hb:b=a
 ·subst hb;rw[zaj] at e;cases e;exact new
 ·rw[zan hb] at e
  exact(x b u e).stay (fun c v _ q=>k c v q) (fun c q=>by rw[zan (zaZ q hn)];exact q) fun c xs q=>by rw[zan (zaZ q hn)];exact q
end
def Rd(H:Hp)(a:af)(u:HO):Prop:=H a=aa u \/ ∃ o,H a=aa (.frz o u)
theorem Rd.of{H:Hp}{a:af}{u:HO}(h:H a=aa u):Rd H a u:=.inl h
theorem Rd.ok{P:aR}{w:aU}{H:Hp}{h:ba}{a:af}{u:HO}(r:Rd H a u)(x:HOk P w H h):ObjOk P w H h a u:=by
 rcases r with r | ⟨o,r⟩
 ·exact x a u r
 ·obtain⟨_,q⟩:=x a _ r
  exact q
def Mut:Option HO->Prop
 | some (.lst _)=>True
 | some (.dK _)=>True
 | some (.dT _)=>True
 | some (.set _ _)=>True
 | some (.ins _ _ _)=>True
 | some (.ext _)=>True
 | _=>False
section
variable {P:aR}{w:aU}{H:Hp}{h h':ba}{x e:af}{o':HO}
theorem HOk.write(ok:HOk P w H h)(mu:Mut (H x))(he:e=x \/ H e=aa (.own x))(k:∀ b u,b ≠ e->h.get? b=aa u->h'.get? b=aa u)(heo:∃ u,h'.get? e=aa u)
  (new:ObjOk P w (upd H x o') h' x o'):HOk P w (upd H x o') h':=fun b u q=>by
 have nown:∀ c y,H c=aa (.own y)->c ≠ x:=fun c y r z=>by subst z;rw[r] at mu;exact mu
 have ntup:∀ c xs,H c=aa (.tup xs)->c ≠ x:=fun c xs r z=>by subst z;rw[r] at mu;exact mu
 by_cases hb:b=x
 ·subst hb;rw[zaj] at q;cases q;exact new
 ·rw[zan hb] at q
  by_cases hbe:b=e
  ·have q':H b=aa (.own x):=by
    rcases he with z | z
    ·exact absurd (hbe.trans z) hb
    ·rw[hbe];exact z
   rw[q] at q';cases q'
   obtain⟨v,hv⟩:=heo
   exact⟨v,by rw[hbe];exact hv⟩
  ·refine(ok b u q).stay (fun c v hc r=>k c v ?_ r) (fun c r=>by rw[zan (nown c b r)];exact r) fun c xs r=>by rw[zan (ntup c xs r)];exact r
   rcases hc with rfl | hc
   ·exact hbe
   ·rintro rfl
    rcases he with z | z
    ·exact nown c b hc z
    ·rw[hc] at z;cases z;exact hb rfl
end
structure Un(fs ex:List af)(H H':Hp)(h h':ba):Prop where
 keep:∀ b o,h.get? b=aa o->H b=ab->b ∉ fs->b ∉ ex->h'.get? b=aa o
 slot:∀ b o,h.get? b=aa o->H b=ab->b ∈ fs->b ∉ ex->∃ sl,h'.get? b=aa { o with slots:=sl}
 free:∀ b o,h.get? b=aa o->H b=ab->b ∉ ex->H' b=ab
 there:∀ b o,h.get? b=aa o->b ∉ ex->∃ o',h'.get? b=aa o'
 tups:∀ b xs,H b=aa (.tup xs)->H' b=aa (.tup xs)
 frzs:∀ b o u,H b=aa (.frz o u)->H' b=aa (.frz o u)
 tbls:∀ b ps,H b=aa (.tbl ps)->∃ more,H' b=aa (.tbl (ps ++ more))
section
variable {fs fs' ex ex':List af}{H H1 H2:Hp}{h h1 h2 h':ba}{a x e:af}{o:HO}
theorem Un.any(u:Un fs ex H H1 h h1){b:af}{ob:Obj}(q:h.get? b=aa ob)(n:H b=ab)(hx:b ∉ ex):∃ sl,h1.get? b=aa { ob with slots:=sl}:=by
 by_cases hb:b ∈ fs
 ·exact u.slot b ob q n hb hx
 ·exact⟨ob.slots,u.keep b ob q n hb hx⟩
theorem Un.kept(k:∀ b u,h.get? b=aa u->h'.get? b=aa u):Un fs ex H H h h':=
 ⟨fun b ob q _ _ _=>k b ob q,fun b ob q _ _ _=>⟨ob.slots,k b ob q⟩,fun _ _ _ n _=>n,fun b ob q _=>⟨ob,k b ob q⟩,fun _ _ q=>q,fun _ _ _ q=>q,fun _ ps q=>⟨#[],by rw[q];simp⟩⟩
theorem Un.refl:Un fs ex H H h h:=Un.kept fun _ _ q=>q
theorem Un.laid(k:∀ b u,h.get? b=aa u->h'.get? b=aa u)(hp:h.objs.size<=a)(hn:H a=ab):Un fs ex H (upd H a o) h h' where
 keep:=fun b u q _ _ _=>k b u q
 slot:=fun b u q _ _ _=>⟨u.slots,k b u q⟩
 free:=fun b u q n _=>by rw[zan (bp (aW (aN q) hp))];exact n
 there:=fun b u q _=>⟨u,k b u q⟩
 tups:=fun b xs q=>by rw[zan (zaZ q hn)];exact q
 frzs:=fun b u xs q=>by rw[zan (zaZ q hn)];exact q
 tbls:=fun b ps q=>⟨#[],by rw[zan (zaZ q hn),q];simp⟩
theorem Un.write(mu:Mut (H x))(he:e=x \/ H e=aa (.own x))(k:∀ b u,b ≠ e->h.get? b=aa u->h'.get? b=aa u)(heo:∃ u,h'.get? e=aa u):Un fs ex H (upd H x o) h h':=by
 have hx:∀ b,H b=ab->b ≠ x:=fun b n z=>by subst z;rw[n] at mu;exact mu
 have hb:∀ b,H b=ab->b ≠ e:=fun b n z=>by
  subst z
  rcases he with r | r
  ·exact hx b n r
  ·rw[n] at r;cases r
 have hm:∀ b u,H b=aa u->¬ Mut (aa u)->b ≠ x:=fun b u q nm z=>by subst z;rw[q] at mu;exact nm mu
 refine⟨fun b u q n _ _=>k b u (hb b n) q,fun b u q n _ _=>⟨u.slots,k b u (hb b n) q⟩,fun b u q n _=>by rw[zan (hx b n)];exact n,fun b u q _=>?_,
  fun b xs q=>by rw[zan (hm b _ q fun z=>z)];exact q,fun b u xs q=>by rw[zan (hm b _ q fun z=>z)];exact q,fun b ps q=>⟨#[],by rw[zan (hm b _ q fun z=>z),q];simp⟩⟩
 by_cases hbe:b=e
 ·subst hbe;exact heo
 ·exact⟨u,k b u hbe q⟩
end
def trk(h:ba)(H:Hp):List af:=(ak h.objs.size).filter fun a=>(H a).isSome
def hidT(h:ba)(H:Hp):ba:=PySem.W.hideAll h (trk h H)
theorem hidT_size(h:ba)(H:Hp):(hidT h H).objs.size=h.objs.size:=PySem.W.hideAll_size _ _
theorem hidT_get{h:ba}{H:Hp}{b:af}{o:Obj}(e:h.get? b=aa o)(n:H b=ab):(hidT h H).get? b=aa o:=
 PySem.W.hideAll_get _ e fun hm=>by
  have q:(H b).isSome=true:=(cU.mp hm).2
  rw[n] at q;simp at q
theorem of_hidT{h:ba}{H:Hp}{b:af}{o:Obj}(e:(hidT h H).get? b=aa o):h.get? b=aa o/\H b=ab:=by
 have e':h.get? b=aa o:=PySem.W.of_hideAll (trk h H) e
 refine⟨e',?_⟩
 cases q:H b with
 | none=>rfl
 | some x=>
  have hm:b ∈ trk h H:=cU.mpr ⟨bK.mpr (aN e'),by simp[q]⟩
  have z:(hidT h H).get? b=ab:=PySem.W.hideAll_none (trk h H) hm
  rw[z] at e;cases e
def allNews(g h:ba)(L:af):List (af × Obj):=(ak h.objs.size).filterMap fun a=>if a=L \/ (g.get? a).isSome=true then ab else (h.get? a).map fun o=>(a,o)
def rest(g h:ba)(L d:af):List (af × Obj):=(allNews g h L).filter fun p=>decide (p.1 ≠ d)
end L2
namespace L2
open PySem PySem.Spec PyProof.Rows
structure Mod(K:ag)(mg:Str->Option ae)(base:ba):Prop where
 kin:K.In base
 glob:base.Ns av mg
 blt:∃ mb,base.Ns builtinsNs mb/\∀ x:Str,x ≠ "__name__" -> mb x=bn x
 nolimit:base.NoLimit
structure Cx where
 prog:aR
 w:aU
 K:ag
 mg:Str->Option ae
 base:ba
 A:a9
 N:List Str
 s₀:ah
 H₀:Hp
 env:Env
 outer:List Env
 stack:List Env
 ex:List af
 fn:Str->Bool
 calm:Bool
 pn:List (af × Obj)
 xe:ae->ah->Prop
def frs(l:List Env):List af:=l.filterMap (·.frame)
abbrev Cx.fs(X:Cx):List af:=frs X.outer
def Vis(sc:Scope)(x:Str):Prop:=sc.names.lookup x=aa .local \/ sc.names.lookup x=aa .cell \/ sc.names.lookup x=aa .free
def Loc(sc:Scope)(x:Str):Prop:=sc.names.lookup x=aa .local \/ sc.names.lookup x=aa .cell
def Look(env:Env)(h:ba)(m:Str->Option ae)(x:Str)(u:ae):Prop:=
 (env.kindOf x=aa .local/\m x=aa u) \/ ((env.kindOf x=aa .cell \/ env.kindOf x=aa .free)/\∃ c,env.cells.lookup x=aa c/\h.IsCell c (aa u))
structure Cx.Ok(X:Cx):Prop where
 mod:Mod X.K X.mg X.base
 kind:X.env.scope.kind=.function
 glob:X.env.globals=av
 blt:X.env.builtins=builtinsNs
 above:X.s₀.heap.objs.size<=X.env.locals
 inj:∀ x y c,X.env.cells.lookup x=aa c->X.env.cells.lookup y=aa c->x=y
 has:∀ x,(X.env.kindOf x=aa .cell \/ X.env.kindOf x=aa .free)->∃ c,X.env.cells.lookup x=aa c
 cab:∀ x c,X.fn x=true->X.env.cells.lookup x=aa c->X.s₀.heap.objs.size<=c
 hd:X.calm=true->X.A.handled=ab
 frames:X.A.frames=aa X.stack
 stk:X.stack=X.outer \/ (X.stack=X.env :: X.outer/\X.env.frame=aa X.env.locals)
 exf:∀ b ∈ X.ex,b ≠ X.env.locals/\∀ x c,X.env.cells.lookup x=aa c->c ≠ b
 bs:∀ b o,X.base.get? b=aa o->X.s₀.heap.get? b=aa o/\X.H₀ b=ab
 bsz:X.base.objs.size<=X.s₀.heap.objs.size
 noex:∀ b o,X.base.get? b=aa o->b ∉ X.ex
 exfs:∀ b ∈ X.ex,b ∉ X.fs
 funs:X.s₀.heap.FunFrames X.base X.outer
 frf:∀ b ∈ X.fs,X.H₀ b=ab
structure Inv(X:Cx)(pins:List (af × Obj))(σ:List (Option V))(H:Hp)(s:ah):Prop where
 ok:X.Ok
 os:s.os=X.s₀.os
 bare:AllBare s.gens
 base:Un X.fs X.ex X.H₀ H X.s₀.heap s.heap
 loc:∃ m,s.heap.Ns X.env.locals m/\∀ (i:Nat) (x:Str) (v:V),X.N[i]? = aa x->σ[i]? = aa (aa v)->Vis X.env.scope x->∃ u,RelV v u/\Look X.env s.heap m x u
 cell:∀ x c,X.env.cells.lookup x=aa c->∃ v,s.heap.IsCell c v
 free:H X.env.locals=ab
 freeC:∀ x c,X.env.cells.lookup x=aa c->H c=ab
 pin:∀ p ∈ X.pn ++ pins,s.heap.get? p.1=aa p.2/\H p.1=ab/\p.1 ≠ X.env.locals/\p.1 ∉ X.fs/\∀ v,p.2.data ≠ .cell v
 hok:HOk X.prog X.w H s.heap
 len:σ.length=X.N.length
section
variable {X:Cx}{pins:List (af × Obj)}{σ:List (Option V)}{H H':Hp}{s:ah}{h':ba}
theorem Cx.Ok.nofr(ok:X.Ok){b:af}{o:Obj}(e:X.base.get? b=aa o):b ∉ X.fs:=fun hb=>by
 have:=(ok.funs.mem hb).1
 rw[e] at this;cases this
theorem Inv.bs(I:Inv X pins σ H s):∀ b o,X.base.get? b=aa o->s.heap.get? b=aa o/\H b=ab:=fun b o e=>
 ⟨I.base.keep b o (I.ok.bs b o e).1 (I.ok.bs b o e).2 (I.ok.nofr e) (I.ok.noex b o e),I.base.free b o (I.ok.bs b o e).1 (I.ok.bs b o e).2 (I.ok.noex b o e)⟩
theorem Inv.bk(I:Inv X pins σ H s):∀ b o,X.base.get? b=aa o->s.heap.get? b=aa o:=fun b o e=>(I.bs b o e).1
theorem Inv.mod(I:Inv X pins σ H s):Mod X.K X.mg X.base:=I.ok.mod
theorem Inv.kIn(I:Inv X pins σ H s):X.K.In s.heap:=I.ok.mod.kin.keeps I.bk
theorem Inv.lt(I:Inv X pins σ H s):X.env.locals<s.heap.objs.size:=let⟨_,hn,_⟩:=I.loc;hn.lt
theorem Inv.sz(I:Inv X pins σ H s):X.s₀.heap.objs.size<=s.heap.objs.size:=aL I.ok.above (bA I.lt)
theorem Inv.nofs(I:Inv X pins σ H s){a:af}(h:s.heap.objs.size<=a):a ∉ X.fs:=fun hb=>by
 obtain⟨_,o,ho,_⟩:=I.ok.funs.mem hb
 exact absurd (aW (aN ho) (aL I.sz h)) (cc _)
theorem Inv.cne(I:Inv X pins σ H s):∀ x c,X.env.cells.lookup x=aa c->c ≠ X.env.locals:=fun x c e z=>by
 obtain⟨v,o,ho,hd⟩:=I.cell x c e
 obtain⟨m,⟨o',es,ep,ho',hd',_⟩,_⟩:=I.loc
 rw[z,ho'] at ho;cases ho;rw[hd'] at hd;cases hd
theorem Inv.funs(I:Inv X pins σ H s):s.heap.FunFrames X.base X.outer:=by
 have all:∀ (l:List Env),(∀ b ∈ frs l,b ∈ X.fs)->X.s₀.heap.FunFrames X.base l->s.heap.FunFrames X.base l:=by
  intro l
  induction l with
  | nil=>intro _ _;trivial
  | cons env r ih=>
   intro hs hl
   obtain⟨hk,⟨L,o,hf,hn,ho,hd⟩,hr⟩:=hl
   have hL:L ∈ X.fs:=hs L (by unfold frs;rw[fB,hf];exact aw)
   obtain⟨sl,e⟩:=I.base.slot L o ho (I.ok.frf L hL) hL fun z=>I.ok.exfs L z hL
   exact⟨hk,⟨L,_,hf,hn,e,hd⟩,ih (fun b hb=>hs b (by unfold frs;rw[fB,hf];exact al _ hb)) hr⟩
 exact all X.outer (fun _ hb=>hb) I.ok.funs
theorem Inv.stack(I:Inv X pins σ H s):s.heap.FunFrames X.base X.stack:=by
 rcases I.ok.stk with e | ⟨e,hf⟩
 ·rw[e];exact I.funs
 ·rw[e]
  obtain⟨m,hn,_⟩:=I.loc
  refine .cons (by rw[I.ok.kind];decide) hf hn ?_ I.funs
  exact Heap.get?_none_of_le (aL I.ok.bsz I.ok.above)
theorem Inv.stkSub(I:Inv X pins σ H s):∀ b ∈ frs X.stack,b ∈ X.env.locals :: X.fs:=fun b hb=>by
 rcases I.ok.stk with e | ⟨e,hf⟩
 ·rw[e] at hb;exact al _ hb
 ·rw[e] at hb
  unfold frs at hb
  rw[fB,hf] at hb
  exact hb
theorem Inv.stkFree(I:Inv X pins σ H s):∀ b ∈ frs X.stack,H b=ab:=fun b hb=>by
 rcases aY.mp (I.stkSub b hb) with e | hb
 ·rw[e];exact I.free
 ·obtain⟨_,o,ho,_⟩:=I.ok.funs.mem hb
  exact I.base.free b o ho (I.ok.frf b hb) fun z=>I.ok.exfs b z hb
theorem Inv.step{g':Array GenState}{t':Nat}{d':Drawn}{ch:List af}(I:Inv X pins σ H s)
  (hch:∀ b ∈ ch,(b ∈ X.ex \/ X.s₀.heap.objs.size<=b)/\b ≠ X.env.locals/\(∀ x c,X.env.cells.lookup x=aa c->c ≠ b)/\∀ p ∈ X.pn ++ pins,p.1 ≠ b)
  (keep:∀ b o,b ≠ X.env.locals->b ∉ X.fs->b ∉ ch->s.heap.get? b=aa o->H b=ab->h'.get? b=aa o)
  (slot:∀ b o,b ≠ X.env.locals->b ∈ X.fs->b ∉ ch->s.heap.get? b=aa o->H b=ab->∃ sl,h'.get? b=aa { o with slots:=sl}) (free:∀ b o,b ∉ ch->s.heap.get? b=aa o->H b=ab->H' b=ab)
  (there:∀ b o,b ∉ ch->s.heap.get? b=aa o->∃ o',h'.get? b=aa o')
  (tups:∀ b xs,H b=aa (.tup xs)->H' b=aa (.tup xs)) (frzs:∀ b o u,H b=aa (.frz o u)->H' b=aa (.frz o u)) (tbls:∀ b ps,H b=aa (.tbl ps)->∃ more,H' b=aa (.tbl (ps ++ more)))
  (ns:∀ m,s.heap.Ns X.env.locals m->h'.Ns X.env.locals m) (hok:HOk X.prog X.w H' h') (hg:AllBare g') :
  Inv X pins σ H' { s with heap:=h',gens:=g',drawn:=d',toks:=t'}:=by
 have neL:∀ b o,X.s₀.heap.get? b=aa o->b ≠ X.env.locals:=fun b o e=>bp (aW (aN e) I.ok.above)
 have neC:∀ b o,X.s₀.heap.get? b=aa o->b ∉ X.ex->b ∉ ch:=fun b o e hx hb=>by
  rcases (hch b hb).1 with z | z
  ·exact hx z
  ·exact absurd (aW (aN e) z) (cc _)
 have cellK:∀ x c,X.env.cells.lookup x=aa c->∀ v,s.heap.IsCell c v->h'.IsCell c v:=fun x c e v ⟨o,ho,hd⟩=>by
  have nch:c ∉ ch:=fun z=>(hch c z).2.2.1 x c e rfl
  by_cases hc:c ∈ X.fs
  ·obtain⟨sl,q⟩:=slot c o (I.cne x c e) hc nch ho (I.freeC x c e)
   exact⟨_,q,hd⟩
  ·exact⟨o,keep c o (I.cne x c e) hc nch ho (I.freeC x c e),hd⟩
 refine⟨I.ok,I.os,hg,⟨fun b o e n hb hx=>?_,fun b o e n hb hx=>?_,fun b o e n hx=>?_,fun b o e hx=>?_,fun b xs e=>tups b xs (I.base.tups b xs e),fun b o xs e=>frzs b o xs (I.base.frzs b o xs e),fun b ps e=>?_⟩,?_,fun x c e=>?_,?_,fun x c e=>?_,fun p hp=>?_,hok,I.len⟩
 ·exact keep b o (neL b o e) hb (neC b o e hx) (I.base.keep b o e n hb hx) (I.base.free b o e n hx)
 ·obtain⟨sl,e1⟩:=I.base.slot b o e n hb hx
  obtain⟨sl',e2⟩:=slot b _ (neL b o e) hb (neC b o e hx) e1 (I.base.free b o e n hx)
  exact⟨sl',e2⟩
 ·obtain⟨o',e1⟩:=I.base.there b o e hx
  exact free b o' (neC b o e hx) e1 (I.base.free b o e n hx)
 ·obtain⟨o',e1⟩:=I.base.there b o e hx
  exact there b o' (neC b o e hx) e1
 ·obtain⟨m1,e1⟩:=I.base.tbls b ps e
  obtain⟨m2,e2⟩:=tbls b _ e1
  exact⟨m1 ++ m2,by rw[e2,Array.append_assoc]⟩
 ·obtain⟨m,hn,hl⟩:=I.loc
  refine⟨m,ns m hn,fun i x v e1 e2 e3=>?_⟩
  obtain⟨u,r,l⟩:=hl i x v e1 e2 e3
  refine⟨u,r,?_⟩
  rcases l with l | ⟨k,c,e,z⟩
  ·exact .inl l
  ·exact .inr ⟨k,c,e,cellK x c e _ z⟩
 ·obtain⟨v,z⟩:=I.cell x c e
  exact⟨v,cellK x c e v z⟩
 ·obtain⟨m,⟨o,_,_,ho,_⟩,_⟩:=I.loc
  exact free _ o (fun z=>(hch _ z).2.1 rfl) ho I.free
 ·obtain⟨v,o,ho,hd⟩:=I.cell x c e
  exact free c o (fun z=>(hch c z).2.2.1 x c e rfl) ho (I.freeC x c e)
 ·obtain⟨e,n,ne,nf,d⟩:=I.pin p hp
  have nch:p.1 ∉ ch:=fun z=>(hch p.1 z).2.2.2 p hp rfl
  exact⟨keep p.1 p.2 ne nf nch e n,free p.1 p.2 nch e n,ne,nf,d⟩
theorem Inv.un{t':Nat}(I:Inv X pins σ H s)(u:Un X.fs [] H H' s.heap h')(hok:HOk X.prog X.w H' h'):Inv X pins σ H' { s with heap:=h',toks:=t'}:=by
 obtain⟨m,⟨o,es,ep,ho,r⟩,_⟩:=id I.loc
 obtain⟨sl,hL⟩:=u.any ho I.free (by simp)
 exact I.step (g':=s.gens) (d':=s.drawn) (ch:=[]) (fun _ z=>nomatch z) (fun b o _ hb _ e n=>u.keep b o e n hb (by simp)) (fun b o _ hb _ e n=>u.slot b o e n hb (by simp)) (fun b o _ e n=>u.free b o e n (by simp)) (fun b o _ e=>u.there b o e (by simp)) u.tups u.frzs u.tbls (fun m' hm=>by
  obtain⟨o',es',ep',ho',r'⟩:=hm
  rw[ho] at ho';cases ho'
  exact⟨_,es',ep',hL,r'⟩) hok I.bare
theorem Inv.call{g':Array GenState}{t':Nat}{d':Drawn}{ch:List af}(I:Inv X pins σ H s)(u:Un (frs X.stack) ch H H' s.heap h')(hok:HOk X.prog X.w H' h')(hg:AllBare g')
  (hch:∀ b ∈ ch,(b ∈ X.ex \/ X.s₀.heap.objs.size<=b)/\b ≠ X.env.locals/\(∀ x c,X.env.cells.lookup x=aa c->c ≠ b)/\∀ p ∈ X.pn ++ pins,p.1 ≠ b) :
  Inv X pins σ H' { s with heap:=h',gens:=g',drawn:=d',toks:=t'}:=by
 obtain⟨m,⟨o,es,ep,ho,r⟩,_⟩:=id I.loc
 obtain⟨sl,hL⟩:=u.any ho I.free fun z=>(hch _ z).2.1 rfl
 exact I.step (ch:=ch) hch (fun b o hL hb hc e n=>u.keep b o e n (fun z=>(aY.mp (I.stkSub b z)).elim hL hb) hc) (fun b o _ _ hc e n=>u.any e n hc) (fun b o hc e n=>u.free b o e n hc) (fun b o hc e=>u.there b o e hc) u.tups u.frzs u.tbls (fun m' hm=>by
  obtain⟨o',es',ep',ho',r'⟩:=hm
  rw[ho] at ho';cases ho'
  exact⟨_,es',ep',hL,r'⟩) hok hg
theorem Inv.turned{t':Nat}{it:af}(I:Inv X pins σ H s)(k:∀ b o,b ≠ it->s.heap.get? b=aa o->h'.get? b=aa o)(hn:H it=ab)(hL:it ≠ X.env.locals)
  (h1:it ∈ X.ex \/ X.s₀.heap.objs.size<=it) (h2:∀ x c,X.env.cells.lookup x=aa c->c ≠ it) (h3:∀ p ∈ X.pn ++ pins,p.1 ≠ it):Inv X pins σ H { s with heap:=h',toks:=t'}:=by
 have nit:∀ b u,H b=aa u->b ≠ it:=fun b u e z=>by rw[z,hn] at e;cases e
 refine I.step (g':=s.gens) (d':=s.drawn) (ch:=[it]) (fun b hb=>?_) (fun b o _ _ hc e _=>k b o (fun z=>hc (by simp[z])) e) (fun b o _ _ hc e _=>⟨o.slots,k b o (fun z=>hc (by simp[z])) e⟩) (fun _ _ _ _ n=>n)
  (fun b o hc e=>⟨o,k b o (fun z=>hc (by simp[z])) e⟩) (fun _ _ e=>e) (fun _ _ _ e=>e) (fun b ps e=>⟨#[],by rw[e];simp⟩) (fun m hm=>?_) (fun b u e=>?_) I.bare
 ·have e:b=it:=by simpa using hb
  subst e
  exact⟨h1,hL,h2,h3⟩
 ·obtain⟨o,es,ep,ho,r⟩:=hm
  exact⟨o,es,ep,k _ o (cj hL) ho,r⟩
 ·refine(I.hok b u e).stay (fun c v hc q=>k c v ?_ q) (fun _ q=>q) fun _ _ q=>q
  rcases hc with z | z
  ·rw[z];exact nit b u e
  ·exact nit c _ z
theorem Inv.tok(I:Inv X pins σ H s)(t:Nat):Inv X pins σ H { s with toks:=t}:=I.un (h':=s.heap) (t':=t) Un.refl I.hok
theorem Inv.kept{t':Nat}(I:Inv X pins σ H s)(k:∀ b u,s.heap.get? b=aa u->h'.get? b=aa u):Inv X pins σ H { s with heap:=h',toks:=t'}:=I.un (Un.kept k) (I.hok.kept k)
theorem Inv.laid{a:af}{o:HO}{t':Nat}(I:Inv X pins σ H s)(k:∀ b u,s.heap.get? b=aa u->h'.get? b=aa u)(hp:s.heap.objs.size<=a)(new:ObjOk X.prog X.w (upd H a o) h' a o) :
  Inv X pins σ (upd H a o) { s with heap:=h',toks:=t'}:=I.un (Un.laid k hp (I.hok.fresh hp)) (I.hok.laid k hp new)
theorem Inv.write{x e:af}{o:HO}{t':Nat}(I:Inv X pins σ H s)(mu:Mut (H x))(he:e=x \/ H e=aa (.own x))(k:∀ b u,b ≠ e->s.heap.get? b=aa u->h'.get? b=aa u)(heo:∃ u,h'.get? e=aa u)
  (new:ObjOk X.prog X.w (upd H x o) h' x o):Inv X pins σ (upd H x o) { s with heap:=h',toks:=t'}:=I.un (Un.write mu he k heo) (I.hok.write mu he k heo new)
theorem Inv.pins_of{pins':List (af × Obj)}(I:Inv X pins σ H s)(h:∀ p ∈ pins',s.heap.get? p.1=aa p.2/\H p.1=ab/\p.1 ≠ X.env.locals/\p.1 ∉ X.fs/\∀ v,p.2.data ≠ .cell v):Inv X pins' σ H s:=
 ⟨I.ok,I.os,I.bare,I.base,I.loc,I.cell,I.free,I.freeC,fun p hp=>(bx.mp hp).elim (fun z=>I.pin p (bz _ z)) (h p),I.hok,I.len⟩
theorem ziP{N:List Str}(hN:N.Nodup){i j:Nat}{x:Str}(a:N[i]? = aa x)(b:N[j]? = aa x):i=j:=by
 obtain⟨h1,e1⟩:=aO.mp a
 obtain⟨h2,e2⟩:=aO.mp b
 exact(List.getElem_inj hN).mp (e1.trans e2.symm)
theorem zhG{M:Model}{A:a9}{E:ae->ah->Prop}{i:Nat}{x:Str}{v:V}{u:ae}{Q:Unit->ah->Prop}(I:Inv X pins σ H s)(hN:X.N.Nodup)(hi:X.N[i]? = aa x)(hx:Loc X.env.scope x)(r:RelV v u)
  (h:∀ s',Inv X pins (σ.set i (aa v)) H s'->(∃ a,e9 a s.heap s'.heap/\(a=X.env.locals \/ X.env.cells.lookup x=aa a))->Q () s') (hf:X.fn x=true \/ X.env.scope.names.lookup x=aa .local:=by first | exact .inl rfl | exact .inr rfl | assumption):aI M A (storeName X.env x u) Q E s:=by
 obtain⟨m,hn,hl⟩:=id I.loc
 have hcls:(X.env.scope.kind == .class || (X.env.scope.kind == .module && X.env.locals != X.env.globals))=false:=by rw[I.ok.kind];rfl
 have hiσ:i<σ.length:=by rw[I.len];exact(aO.mp hi).1
 have cne:=I.cne
 have tracked:∀ {a:af} {h':ba},(∃ o,s.heap.get? a=aa o/\H a=ab)->e9 a s.heap h'->HOk X.prog X.w H h':=fun {a h'} ha hs b ob e=>by
  obtain⟨_,_,hfree⟩:=ha
  refine(I.hok b ob e).stay (fun c w' hc q=>(hs.2 c ?_).trans q) (fun _ q=>q) fun _ _ q=>q
  rintro rfl
  rcases hc with rfl | hc
  ·rw[hfree] at e;cases e
  ·rw[hfree] at hc;cases hc
 rcases hx with hk | hk
 ·refine wpAny_storeName_local hk hn (fun h' hn' hs=>?_) hcls
  obtain⟨oL,_,_,hoL,_⟩:=id hn
  refine h _ ⟨I.ok,I.os,I.bare,⟨fun b o e n hb hx=>?_,fun b o e n hb hx=>?_,I.base.free,fun b o e hx=>?_,I.base.tups,I.base.frzs,I.base.tbls⟩,⟨_,hn',fun j y v' e1 e2 e3=>?_⟩,fun y c e=>?_,I.free,I.freeC,fun p hp=>?_,tracked ⟨oL,hoL,I.free⟩ hs,by simpa using I.len⟩ ⟨_,hs,.inl rfl⟩
  ·exact(hs.2 b (bp (aW (aN e) I.ok.above))).trans (I.base.keep b o e n hb hx)
  ·obtain⟨sl,e1⟩:=I.base.slot b o e n hb hx
   exact⟨sl,(hs.2 b (bp (aW (aN e) I.ok.above))).trans e1⟩
  ·obtain⟨o',e1⟩:=I.base.there b o e hx
   exact⟨o',(hs.2 b (bp (aW (aN e) I.ok.above))).trans e1⟩
  ·by_cases hj:j=i
   ·subst hj
    rw[hi] at e1;cases e1
    rw[gN hiσ] at e2
    cases e2
    exact⟨u,r,.inl ⟨hk,by simp⟩⟩
   ·rw[g8 (cj hj)] at e2
    obtain⟨u',r',q⟩:=hl j y v' e1 e2 e3
    refine⟨u',r',?_⟩
    rcases q with ⟨k,e⟩ | ⟨k,c,e,z⟩
    ·refine .inl ⟨k,?_⟩
     have:y ≠ x:=fun e=>hj (ziP hN e1 (e ▸ hi))
     simp[this,e]
    ·exact .inr ⟨k,c,e,z.sameBut hs (cne y c e)⟩
  ·obtain⟨w',z⟩:=I.cell y c e
   exact⟨w',z.sameBut hs (cne y c e)⟩
  ·obtain⟨e,n,ne,nf,d⟩:=I.pin p hp
   exact⟨(hs.2 p.1 ne).trans e,n,ne,nf,d⟩
 ·have hfn:X.fn x=true:=by
   rcases hf with z | z
   ·exact z
   ·rw[z] at hk;cases hk
  obtain⟨c,hc⟩:=I.ok.has x (.inl hk)
  obtain⟨w',z⟩:=I.cell x c hc
  refine wpAny_storeName_cell I.ok.kind hk hc z (fun h' hc' hs=>?_)
  obtain⟨oc,hoc,hocd⟩:=id z
  refine h { s with heap:=h'} ⟨I.ok,I.os,I.bare,⟨fun b o e n hb hx=>?_,fun b o e n hb hx=>?_,I.base.free,fun b o e hx=>?_,I.base.tups,I.base.frzs,I.base.tbls⟩,⟨m,hn.sameBut hs (cj (cne x c hc)),fun j y v' e1 e2 e3=>?_⟩,fun y c' e=>?_,I.free,I.freeC,fun p hp=>?_,tracked ⟨oc,hoc,I.freeC x c hc⟩ hs,by simpa using I.len⟩ ⟨c,hs,.inr hc⟩
  ·exact(hs.2 b (bp (aW (aN e) (I.ok.cab x c hfn hc)))).trans (I.base.keep b o e n hb hx)
  ·obtain⟨sl,e1⟩:=I.base.slot b o e n hb hx
   exact⟨sl,(hs.2 b (bp (aW (aN e) (I.ok.cab x c hfn hc)))).trans e1⟩
  ·obtain⟨o',e1⟩:=I.base.there b o e hx
   exact⟨o',(hs.2 b (bp (aW (aN e) (I.ok.cab x c hfn hc)))).trans e1⟩
  ·by_cases hj:j=i
   ·subst hj
    rw[hi] at e1;cases e1
    rw[gN hiσ] at e2
    cases e2
    exact⟨u,r,.inr ⟨.inl hk,c,hc,hc'⟩⟩
   ·rw[g8 (cj hj)] at e2
    obtain⟨u',r',q⟩:=hl j y v' e1 e2 e3
    refine⟨u',r',?_⟩
    rcases q with q | ⟨k,c',e,z'⟩
    ·exact .inl q
    ·refine .inr ⟨k,c',e,z'.sameBut hs ?_⟩
     rintro rfl
     exact hj (ziP hN e1 (I.ok.inj _ _ _ e hc ▸ hi))
  ·by_cases hcc:c'=c
   ·subst hcc;exact⟨_,hc'⟩
   ·obtain⟨w2,z2⟩:=I.cell y c' e
    exact⟨w2,z2.sameBut hs hcc⟩
  ·obtain⟨e,n,ne,nf,d⟩:=I.pin p hp
   refine⟨(hs.2 p.1 ?_).trans e,n,ne,nf,d⟩
   intro q
   rw[q,hoc] at e
   have q':oc=p.2:=bf e
   exact d w' (by rw[<- q'];exact hocd)
theorem zgz{M:Model}{A:a9}{E:ae->ah->Prop}{i:Nat}{x:Str}{v:V}{u:ae}{Q:Unit->ah->Prop}(I:Inv X pins σ H s)(hN:X.N.Nodup)(hi:X.N[i]? = aa x)(hx:Loc X.env.scope x)(r:RelV v u)
  (h:∀ s',Inv X pins (σ.set i (aa v)) H s'->Q () s') (hf:X.fn x=true \/ X.env.scope.names.lookup x=aa .local:=by first | exact .inl rfl | exact .inr rfl | assumption):aI M A (storeName X.env x u) Q E s:=
 zhG I hN hi hx r (fun s' I' _=>h s' I') hf
theorem Inv.call'{s':ah}{ch:List af}(I:Inv X pins σ H s)(ho:s'.os=s.os)(u:Un (frs X.stack) ch H H' s.heap s'.heap)(hok:HOk X.prog X.w H' s'.heap)(hg:AllBare s'.gens)
  (hch:∀ b ∈ ch,(b ∈ X.ex \/ X.s₀.heap.objs.size<=b)/\b ≠ X.env.locals/\(∀ x c,X.env.cells.lookup x=aa c->c ≠ b)/\∀ p ∈ X.pn ++ pins,p.1 ≠ b):Inv X pins σ H' s':=by
 obtain⟨h',g',d',t',o'⟩:=s'
 have e:o'=s.os:=ho
 subst e
 exact I.call (g':=g') (t':=t') (d':=d') u hok hg hch
end
abbrev XK:=ae->Option af->Hp->Prop
abbrev St:=List (Option V)
abbrev VK:=V->Hp->Prop
abbrev TE:=St->Hp->VK->Prop
abbrev TT:=St->Hp->(Bool->Hp->Prop)->Prop
abbrev TA:=St->Hp->(List V->Hp->Prop)->Prop
structure Ends where
 nx:St->Hp->Prop
 rt:VK
 bk:St->Hp->Prop:=fun _ _=>False
 ct:St->Hp->Prop:=fun _ _=>False
abbrev TS:=Ends->St->Hp->Prop
def EP(X:Cx)(pins:List (af × Obj))(σ:St)(Q:VK)(u:ae)(s':ah):Prop:=∃ v H',Inv X pins σ H' s'/\RelV v u/\Q v H'
def TP(X:Cx)(pins:List (af × Obj))(σ:St)(Q:Bool->Hp->Prop)(b:Bool)(s':ah):Prop:=∃ H',Inv X pins σ H' s'/\Q b H'
def AP(X:Cx)(pins:List (af × Obj))(σ:St)(Q:List V->Hp->Prop)(us:List ae)(s':ah):Prop:=∃ vs H',Inv X pins σ H' s'/\Vals vs us/\Q vs H'
def SP(X:Cx)(pins:List (af × Obj))(D:Ends)(f:Flow)(s':ah):Prop:=
 match f with
 | .next=>∃ σ' H',Inv X pins σ' H' s'/\D.nx σ' H'
 | .brk=>∃ σ' H',Inv X pins σ' H' s'/\D.bk σ' H'
 | .cont=>∃ σ' H',Inv X pins σ' H' s'/\D.ct σ' H'
 | .ret u=>∃ v σ' H',Inv X pins σ' H' s'/\RelV v u/\D.rt v H'
def PE(X:Cx)(e:Expr)(t:TE):Prop:=
 ∀ (pins:List (af × Obj)) (s:ah) (σ:St) (H:Hp) (Q:VK),Inv X pins σ H s->t σ H Q->aI (model X.prog X.w) X.A (eval e X.env) (EP X pins σ Q) X.xe s
def PT(X:Cx)(e:Expr)(t:TT):Prop:=
 ∀ (pins:List (af × Obj)) (s:ah) (σ:St) (H:Hp) (Q:Bool->Hp->Prop),Inv X pins σ H s->t σ H Q->aI (model X.prog X.w) X.A (isTrue e X.env (eval e X.env)) (TP X pins σ Q) X.xe s
def PW(X:Cx)(e:Expr)(t:TT):Prop:=
 ∀ (whole:Sem ae) (pins:List (af × Obj)) (s:ah) (σ:St) (H:Hp) (Q:Bool->Hp->Prop),Inv X pins σ H s->t σ H Q->aI (model X.prog X.w) X.A (isTrue e X.env whole) (TP X pins σ Q) X.xe s
theorem PW.pt{X:Cx}{e:Expr}{t:TT}(h:PW X e t):PT X e t:=h _
def PA(X:Cx)(es:List Expr)(t:TA):Prop:=
 ∀ (pos:Pos) (pins:List (af × Obj)) (s:ah) (σ:St) (H:Hp) (Q:List V->Hp->Prop),Inv X pins σ H s->t σ H Q->aI (model X.prog X.w) X.A (spliced (backTo pos (be es X.env))) (AP X pins σ Q) X.xe s
def PS(X:Cx)(st:Stmt)(t:TS):Prop:=
 ∀ (pins:List (af × Obj)) (s:ah) (σ:St) (H:Hp) (D:Ends),Inv X pins σ H s->t D σ H->aI (model X.prog X.w) X.A (exec st X.env) (SP X pins D) X.xe s
def PSs(X:Cx)(st:List Stmt)(t:TS):Prop:=
 ∀ (pins:List (af × Obj)) (s:ah) (σ:St) (H:Hp) (D:Ends),Inv X pins σ H s->t D σ H->aI (model X.prog X.w) X.A (execs st X.env) (SP X pins D) X.xe s
theorem thn{α:Type}{t:Sem α}{Q Q':α->ah->Prop}{M:Model}{A:a9}{E:ae->ah->Prop}{s:ah}(h:aI M A t Q E s)(hQ:∀ a s,Q a s->Q' a s):aI M A t Q' E s:=cM h hQ fun _ _ x=>x
end L2
namespace L2
open PySem PySem.Spec PyProof.Rows
section
variable {X:Cx}
def tVar(i:Nat):TE:=fun σ H Q=>∃ v,σ[i]? = aa (aa v)/\Q v H
def tC(v:V):TE:=fun _ H Q=>Q v H
theorem pe_var{i:Nat}{x:Str}{pos:Pos}(hN:X.N[i]? = aa x)(hv:Vis X.env.scope x)(hd:(x == ("__debug__" : Str))=false:=by decide)(hcd:(x == ("__classdict__" : Str))=false:=by decide):PE X (.Name x pos) (tVar i):=by
 intro pins s σ H Q I h
 obtain⟨v,e,h⟩:=h
 obtain⟨m,hn,hl⟩:=I.loc
 obtain⟨u,r,l⟩:=hl i x v hN e hv
 have fin:EP X pins σ Q u s:=⟨v,H,I,r,h⟩
 rcases l with ⟨hk,hm⟩ | ⟨hk,c,hc,hcell⟩
 ·exact wpAny_Name (wpAny_loadName_local I.ok.kind hk hn hm fin) hd
 ·rcases hk with hk | hk
  ·exact wpAny_Name (wpAny_loadName_cell I.ok.kind hk hc hcell fin) hd
  ·exact wpAny_Name (wpAny_loadName_free I.ok.kind hk hc hcell fin hcd) hd
theorem pe_int{i j pos}:PE X (.Constant (.int i) j pos) (tC (.int i)):=fun _ _ _ H _ I h=>wpAny_Constant_int ⟨.int i,H,I.tok _,⟨_,rfl⟩,h⟩
theorem pe_bl{b j pos}:PE X (.Constant (.bool b) j pos) (tC (.bl b)):=fun _ _ _ H _ I h=>Constant_bool ⟨.bl b,H,I,rfl,h⟩
theorem pe_non{j pos}:PE X (.Constant .none j pos) (tC .non):=fun _ _ _ H _ I h=>Constant_none ⟨.non,H,I,rfl,h⟩
theorem pe_str{x j pos}:PE X (.Constant (.str x) j pos) (tC (.str x)):=fun _ _ _ H _ I h=>Calls.Constant_str ⟨.str x,H,I.tok _,⟨_,rfl⟩,h⟩
def Gl(X:Cx)(x:Str):Prop:=X.env.kindOf x=aa .globalImplicit
theorem zhV{E:ae->ah->Prop}{pins:List (af × Obj)}{s:ah}{σ:St}{H:Hp}{x:Str}{u:ae}{pos:Pos}{Q:ae->ah->Prop}(I:Inv X pins σ H s)(hg:Gl X x)(hm:X.mg x=aa u)(h:Q u s)
  (hd:(x == ("__debug__" : Str))=false:=by decide):aI (model X.prog X.w) X.A (eval (.Name x pos) X.env) Q E s:=
 fO I.ok.kind hg (Calls.loadGlobal_global (by rw[I.ok.glob];exact I.mod.glob.keeps I.bk) hm h) hd
theorem zep{E:ae->ah->Prop}{pins:List (af × Obj)}{s:ah}{σ:St}{H:Hp}{x:Str}{u:ae}{pos:Pos}{Q:ae->ah->Prop}(I:Inv X pins σ H s)(hg:Gl X x)(hm:X.mg x=ab)(hv:bn x=aa u)(h:Q u s)
  (hn:x ≠ "__name__" :=by decide) (hd:(x == ("__debug__" : Str))=false:=by decide):aI (model X.prog X.w) X.A (eval (.Name x pos) X.env) Q E s:=by
 obtain⟨mb,h1,h2⟩:=I.mod.blt
 exact fO I.ok.kind hg (Calls.loadGlobal_builtin (by rw[I.ok.glob];exact I.mod.glob.keeps I.bk) hm (by rw[I.ok.blt];exact h1.keeps I.bk) ((h2 x hn).trans hv) h) hd
theorem pe_glob{x:Str}{v:V}{u:ae}{pos:Pos}(hg:Gl X x)(hm:X.mg x=aa u)(r:RelV v u)(hd:(x == ("__debug__" : Str))=false:=by decide):PE X (.Name x pos) (tC v):=
 fun _ _ _ H _ I h=>zhV I hg hm ⟨v,H,I,r,h⟩ hd
variable {a b:Expr}{ta tb:TE}{pos:Pos}
def tB(t:TE):TT:=fun σ H Q=>t σ H fun x H1=>∃ c,x=.bl c/\Q c H1
theorem pt_val{e:Expr}{t:TE}(h:PE X e t)(he:∀ whole,isTrue e X.env whole=(do let v <- whole;standAt e.pos;holding [v] (truthy v)):=by intro _;rfl):PT X e (tB t):=by
 intro pins s σ H Q I hw
 refine isTrue_plain (thn (h pins s σ H _ I hw) fun v s1 ⟨x,H1,I1,r1,q1⟩=>?_) (he _)
 obtain⟨d,rfl,q⟩:=q1
 cases r1
 exact wpAny_truthy_bool ⟨H1,I1,q⟩
variable {tA tB':TT}{rest:List Expr}
def tAnd(t u:TT):TT:=fun σ H Q=>t σ H fun c H1=>if c=true then u σ H1 Q else Q false H1
def tOr(t u:TT):TT:=fun σ H Q=>t σ H fun c H1=>if c=true then Q true H1 else u σ H1 Q
def tNot(t:TT):TT:=fun σ H Q=>t σ H fun c H1=>Q (!c) H1
theorem pw_and1(ha:PT X a tA):PW X (.BoolOp .And [a] pos) tA:=by
 intro wh pins s σ H Q I h
 refine isTrue_and (thn (ha pins s σ H Q I h) fun c s1 e=>?_)
 cases c with
 | true=>exact isTrue_and_nil e
 | false=>exact e
theorem pw_or1(ha:PT X a tA):PW X (.BoolOp .Or [a] pos) tA:=by
 intro wh pins s σ H Q I h
 refine isTrue_or (thn (ha pins s σ H Q I h) fun c s1 e=>?_)
 cases c with
 | false=>exact isTrue_or_nil e
 | true=>exact e
theorem pw_and(ha:PT X a tA)(hb:PW X (.BoolOp .And (b :: rest) pos) tB'):PW X (.BoolOp .And (a :: b :: rest) pos) (tAnd tA tB'):=by
 intro wh pins s σ H Q I h
 refine isTrue_and (thn (ha pins s σ H _ I h) fun c s1 ⟨H1,I1,q1⟩=>?_)
 cases c with
 | true=>exact hb wh pins s1 σ H1 Q I1 q1
 | false=>exact⟨H1,I1,q1⟩
theorem pw_or(ha:PT X a tA)(hb:PW X (.BoolOp .Or (b :: rest) pos) tB'):PW X (.BoolOp .Or (a :: b :: rest) pos) (tOr tA tB'):=by
 intro wh pins s σ H Q I h
 refine isTrue_or (thn (ha pins s σ H _ I h) fun c s1 ⟨H1,I1,q1⟩=>?_)
 cases c with
 | true=>exact⟨H1,I1,q1⟩
 | false=>exact hb wh pins s1 σ H1 Q I1 q1
theorem pt_not(ha:PT X a tA):PT X (.UnaryOp .Not a pos) (tNot tA):=by
 intro pins s σ H Q I h
 exact isTrue_not (ha pins s σ H (fun c H1=>Q (!c) H1) I h)
def tAndV(ta tb:TE):TE:=fun σ H Q=>ta σ H fun x H1=>∃ c,x=.bl c/\if c=true then tb σ H1 Q else Q (.bl false) H1
def tOrV(ta tb:TE):TE:=fun σ H Q=>ta σ H fun x H1=>∃ c,x=.bl c/\if c=true then Q (.bl true) H1 else tb σ H1 Q
theorem pe_one{op}{t:TE}(h:PE X a t):PE X (.BoolOp op [a] pos) t:=fun pins s σ H Q I hw=>BoolOp_one (h pins s σ H Q I hw)
theorem pe_and(ha:PE X a ta)(hb:PE X (.BoolOp .And (b :: rest) pos) tb):PE X (.BoolOp .And (a :: b :: rest) pos) (tAndV ta tb):=by
 intro pins s σ H Q I h
 refine BoolOp_and (thn (ha pins s σ H _ I h) fun v s1 ⟨x,H1,I1,r1,q1⟩=>?_)
 obtain⟨c,rfl,q1⟩:=q1
 cases r1
 refine wpAny_truthy_bool ?_
 cases c with
 | true=>exact hb pins s1 σ H1 Q I1 q1
 | false=>exact⟨.bl false,H1,I1,rfl,q1⟩
theorem pe_or(ha:PE X a ta)(hb:PE X (.BoolOp .Or (b :: rest) pos) tb):PE X (.BoolOp .Or (a :: b :: rest) pos) (tOrV ta tb):=by
 intro pins s σ H Q I h
 refine BoolOp_or (thn (ha pins s σ H _ I h) fun v s1 ⟨x,H1,I1,r1,q1⟩=>?_)
 obtain⟨c,rfl,q1⟩:=q1
 cases r1
 refine wpAny_truthy_bool ?_
 cases c with
 | false=>exact hb pins s1 σ H1 Q I1 q1
 | true=>exact⟨.bl true,H1,I1,rfl,q1⟩
def tIf(t:TT)(ta tb:TE):TE:=fun σ H Q=>t σ H fun c H1=>if c=true then ta σ H1 Q else tb σ H1 Q
theorem pe_ifExp{c:Expr}(hc:PT X c tA)(ha:PE X a ta)(hb:PE X b tb):PE X (.IfExp c a b pos) (tIf tA ta tb):=by
 intro pins s σ H Q I h
 refine wpAny_IfExp (thn (hc pins s σ H _ I h) fun d s1 ⟨H1,I1,q1⟩=>?_)
 cases d with
 | true=>exact ha pins s1 σ H1 Q I1 q1
 | false=>exact hb pins s1 σ H1 Q I1 q1
end
end L2
namespace L2
open PySem PySem.Spec PyProof.Rows
def SqL(K:ag)(H:Hp)(a:af)(xs:List V):Prop:=
 Rd H a (.lst xs) \/
  ∃ (o:Obj) (its:Array ae) (n:Nat),K.lookup a=aa o/\o.cls=.type "list" /\ o.dict=ab/\o.data=.seq its n/\its.size<=aZ/\Vals xs its.toList
def SqT(K:ag)(H:Hp)(a:af)(xs:List V):Prop:=
 Rd H a (.tup xs) \/
  ∃ (o:Obj) (its:Array ae) (n:Nat),K.lookup a=aa o/\o.cls=.type "tuple" /\ o.data=.seq its n/\its.size<=aZ/\Vals xs its.toList
def absV:ae->Option V
 | .none=>aa .non
 | .bool b=>aa (.bl b)
 | .int i _=>aa (.int i)
 | .str x _=>aa (.str x)
 | .bytes b _=>aa (.byt b)
 | .float b _=>aa (.flt b)
 | .ref a=>aa (.ref a)
 | .type n=>aa (.ty n)
 | _=>ab
theorem RelV.abs{x:V}{u:ae}(r:RelV x u):absV u=aa x:=by
 cases x with
 | non=>cases r;rfl
 | bl _=>cases r;rfl
 | int _=>obtain⟨t,rfl⟩:=r;rfl
 | str _=>obtain⟨t,rfl⟩:=r;rfl
 | byt _=>obtain⟨t,rfl⟩:=r;rfl
 | flt _=>obtain⟨t,rfl⟩:=r;rfl
 | ref _=>cases r;rfl
 | ty _=>cases r;rfl
theorem RelV.inj{x y:V}{u:ae}(r:RelV x u)(q:RelV y u):x=y:=bf (r.abs.symm.trans q.abs)
theorem Vals.inj:∀ {xs ys:List V} {us:List ae},Vals xs us->Vals ys us->xs=ys
 | _,_,_,.nil,.nil=>rfl
 | _,_,_,.cons r t,.cons r' t'=>by rw[r.inj r',Vals.inj t t']
section
variable {X:Cx}{pins:List (af × Obj)}{σ:St}{H:Hp}{s:ah}{a:af}{xs ys:List V}
theorem SqL.of{K:ag}(h:H a=aa (.lst xs)):SqL K H a xs:=.inl (.inl h)
theorem SqT.of{K:ag}(h:H a=aa (.tup xs)):SqT K H a xs:=.inl (.inl h)
theorem Inv.list(I:Inv X pins σ H s)(h:SqL X.K H a xs):∃ its:List ae,Vals xs its/\PlainL s.heap a its.toArray/\xs.length<=aZ:=by
 rcases h with h | ⟨o,its,n,hk,hc,hd,hs,hz,r⟩
 ·obtain⟨z,its,n,r,e⟩:=h.ok I.hok
  exact⟨its,r,⟨_,n,e,rfl,rfl,rfl⟩,z⟩
 ·refine⟨its.toList,r,⟨o,n,I.kIn a o hk,hc,hd,by simpa using hs⟩,?_⟩
  have e:=r.length
  simp only[aC] at e
  lia
theorem Inv.tuple(I:Inv X pins σ H s)(h:SqT X.K H a xs):∃ its:List ae,Vals xs its/\IsTup s.heap a its.toArray/\xs.length<=aZ:=by
 rcases h with h | ⟨o,its,n,hk,hc,hs,hz,r⟩
 ·obtain⟨z,its,r,p⟩:=h.ok I.hok
  exact⟨its,r,p,z⟩
 ·refine⟨its.toList,r,⟨o,I.kIn a o hk,hc,n,by simpa using hs⟩,?_⟩
  have e:=r.length
  simp only[aC] at e
  lia
theorem Inv.list_inj(I:Inv X pins σ H s)(h:SqL X.K H a xs)(h':SqL X.K H a ys):xs=ys:=by
 obtain⟨its,r,⟨o,n,e,_,_,d⟩,_⟩:=I.list h
 obtain⟨its',r',⟨o',n',e',_,_,d'⟩,_⟩:=I.list h'
 rw[e] at e';cases e'
 rw[d] at d'
 injection d' with d1 _
 have:its=its':=by simpa using congrArg iw d1
 subst this
 exact r.inj r'
theorem Inv.tuple_inj(I:Inv X pins σ H s)(h:SqT X.K H a xs)(h':SqT X.K H a ys):xs=ys:=by
 obtain⟨its,r,⟨o,e,_,n,d⟩,_⟩:=I.tuple h
 obtain⟨its',r',⟨o',e',_,n',d'⟩,_⟩:=I.tuple h'
 rw[e] at e';cases e'
 rw[d] at d'
 injection d' with d1 _
 have:its=its':=by simpa using congrArg iw d1
 subst this
 exact r.inj r'
end
abbrev Cx.wish(X:Cx)(E:ae->ah->Prop):Cx:={ X with xe:=E}
abbrev Cx.nox(X:Cx):Cx:=X.wish fun _ _=>False
theorem Cx.Ok.wish{X:Cx}(ok:X.Ok)(E:ae->ah->Prop):(X.wish E).Ok:=
 ⟨ok.mod,ok.kind,ok.glob,ok.blt,ok.above,ok.inj,ok.has,ok.cab,ok.hd,ok.frames,ok.stk,ok.exf,ok.bs,ok.bsz,ok.noex,ok.exfs,ok.funs,ok.frf⟩
theorem Cx.Ok.unwish{X:Cx}{E:ae->ah->Prop}(ok:(X.wish E).Ok):X.Ok:=
 ⟨ok.mod,ok.kind,ok.glob,ok.blt,ok.above,ok.inj,ok.has,ok.cab,ok.hd,ok.frames,ok.stk,ok.exf,ok.bs,ok.bsz,ok.noex,ok.exfs,ok.funs,ok.frf⟩
section
variable {X:Cx}{pins:List (af × Obj)}{σ:St}{H:Hp}{s:ah}{E:ae->ah->Prop}
theorem Inv.wish(I:Inv X pins σ H s)(E:ae->ah->Prop):Inv (X.wish E) pins σ H s:=⟨I.ok.wish E,I.os,I.bare,I.base,I.loc,I.cell,I.free,I.freeC,I.pin,I.hok,I.len⟩
theorem Inv.unwish(I:Inv (X.wish E) pins σ H s):Inv X pins σ H s:=⟨I.ok.unwish,I.os,I.bare,I.base,I.loc,I.cell,I.free,I.freeC,I.pin,I.hok,I.len⟩
theorem SP.unwish{D:Ends}{f:Flow}{s':ah}(h:SP (X.wish E) pins D f s'):SP X pins D f s':=by
 cases f with
 | next=>obtain⟨σ',H',I,q⟩:=h;exact⟨σ',H',I.unwish,q⟩
 | brk=>obtain⟨σ',H',I,q⟩:=h;exact⟨σ',H',I.unwish,q⟩
 | cont=>obtain⟨σ',H',I,q⟩:=h;exact⟨σ',H',I.unwish,q⟩
 | ret u=>obtain⟨v,σ',H',I,r,q⟩:=h;exact⟨v,σ',H',I.unwish,r,q⟩
theorem PE.nox{e:Expr}{t:TE}(h:PE X.nox e t):PE X e t:=fun pins s σ H Q I hw=>
 cM (h pins s σ H Q (I.wish _) hw) (fun _ _ ⟨v,H',I',r,q⟩=>⟨v,H',I'.unwish,r,q⟩) fun _ _ z=>bY z
theorem PT.nox{e:Expr}{t:TT}(h:PT X.nox e t):PT X e t:=fun pins s σ H Q I hw=>
 cM (h pins s σ H Q (I.wish _) hw) (fun _ _ ⟨H',I',q⟩=>⟨H',I'.unwish,q⟩) fun _ _ z=>bY z
theorem PSs.nox{st:List Stmt}{t:TS}(h:PSs X.nox st t):PSs X st t:=fun pins s σ H D I hw=>
 cM (h pins s σ H D (I.wish _) hw) (fun _ _ q=>q.unwish) fun _ _ z=>bY z
end
section
variable {X:Cx}{st:Stmt}{rest:List Stmt}{t u:TS}{e:Expr}{te:TE}{pos:Pos}
def tNext:TS:=fun D σ H=>D.nx σ H
def tSeq(t u:TS):TS:=fun D σ H=>t { D with nx:=u D} σ H
theorem pss_nil:PSs X [] tNext:=fun _ _ σ H _ I h=>wpAny_execs_nil ⟨σ,H,I,h⟩
theorem pss_cons(h1:PS X st t)(h2:PSs X rest u):PSs X (st :: rest) (tSeq t u):=by
 intro pins s σ H D I h
 refine wpAny_execs_cons (thn (h1 pins s σ H { D with nx:=u D} I h) fun f s1 q=>?_)
 cases f with
 | next=>
  obtain⟨σ',H',I',q⟩:=q
  exact h2 pins s1 σ' H' D I' q
 | ret v=>exact q
 | brk=>exact q
 | cont=>exact q
theorem pss_one(h1:PS X st t):PSs X [st] t:=by
 intro pins s σ H D I h
 refine wpAny_execs_cons (thn (h1 pins s σ H D I h) fun f s1 q=>?_)
 cases f with
 | next=>exact wpAny_execs_nil q
 | ret v=>exact q
 | brk=>exact q
 | cont=>exact q
theorem Inv.quiet{pins:List (af × Obj)}{σ:St}{H:Hp}{s:ah}(I:Inv X pins σ H s):interactive X.env=false:=by simp[interactive,I.ok.kind]
def tDrop(te:TE):TS:=fun D σ H=>te σ H fun _ H1=>D.nx σ H1
theorem ps_expr(he:PE X e te)(hs:swapsWith e ab pos.line X.env=pure false:=by rfl):PS X (.Expr e pos) (tDrop te):=by
 intro pins s σ H D I h
 exact wpAny_Expr_any (thn (he pins s σ H _ I h) fun v s1 ⟨x,H1,I1,r1,q1⟩=>⟨σ,H1,I1,q1⟩) I.quiet hs
def tRet(te:TE):TS:=fun D σ H=>te σ H D.rt
theorem ps_ret(he:PE X e te):PS X (.Return (aa e) pos) (tRet te):=by
 intro pins s σ H D I h
 exact wpAny_Return_some (thn (he pins s σ H _ I h) fun v s1 ⟨x,H1,I1,r1,q1⟩=>⟨x,σ,H1,I1,r1,q1⟩)
def tIfS(c:TT)(t u:TS):TS:=fun D σ H=>c σ H fun b H1=>if b=true then t D σ H1 else u D σ H1
theorem ps_if{c:Expr}{a b:List Stmt}{tc:TT}(hc:PT X c tc)(ha:PSs X a t)(hb:PSs X b u):PS X (.If c a b pos) (tIfS tc t u):=by
 intro pins s σ H D I h
 refine wpAny_If (thn (hc pins s σ H _ I h) fun d s1 ⟨H1,I1,q1⟩=>?_)
 cases d with
 | true=>exact ha pins s1 σ H1 D I1 q1
 | false=>exact hb pins s1 σ H1 D I1 q1
end
abbrev TG:=V->St->Hp->(St->Hp->Prop)->Prop
abbrev TGs:=List V->St->Hp->(St->Hp->Prop)->Prop
def PG(X:Cx)(target:Expr)(t:TG):Prop:=
 ∀ (pins:List (af × Obj)) (s:ah) (σ:St) (H:Hp) (v:V) (u:ae) (Q:St->Hp->Prop),Inv X pins σ H s->RelV v u->t v σ H Q ->
  aI (model X.prog X.w) X.A (assign target X.env u) (fun _ s'=>∃ σ' H',Inv X pins σ' H' s'/\Q σ' H') X.xe s
def PGs(X:Cx)(ts:List Expr)(t:TGs):Prop:=
 ∀ (pins:List (af × Obj)) (s:ah) (σ:St) (H:Hp) (vs:List V) (us:List ae) (Q:St->Hp->Prop),Inv X pins σ H s->Vals vs us->t vs σ H Q ->
  aI (model X.prog X.w) X.A (assignInOrder ((bH ts X.env).map (·.2)) us) (fun _ s'=>∃ σ' H',Inv X pins σ' H' s'/\Q σ' H') X.xe s
abbrev TSet:=V->V->V->Hp->(Hp->Prop)->Prop
def PSet(X:Cx)(t:TSet):Prop:=
 ∀ (pins:List (af × Obj)) (s:ah) (σ:St) (H:Hp) (o i v:V) (ov iv u:ae) (Q:Hp->Prop),Inv X pins σ H s->RelV o ov->RelV i iv->RelV v u->t o i v H Q ->
  aI (model X.prog X.w) X.A (setItem ov iv u) (fun _ s'=>∃ H',Inv X pins σ H' s'/\Q H') X.xe s
section
variable {X:Cx}{pos:Pos}
def zie(i:Nat):TG:=fun v σ H Q=>Q (σ.set i (aa v)) H
theorem pg_name{i:Nat}{x:Str}(hN:X.N.Nodup)(hi:X.N[i]? = aa x)(hx:Loc X.env.scope x)(hf:X.fn x=true \/ X.env.scope.names.lookup x=aa .local:=by first | exact .inl rfl | exact .inr rfl | assumption):PG X (.Name x pos) (zie i):=by
 intro pins s σ H v u Q I r h
 exact wpAny_assign_Name (zgz I hN hi hx r (fun s' I'=>⟨_,H,I',h⟩) hf)
def gNil:TGs:=fun vs σ H Q=>vs=[]/\Q σ H
def gCons(t:TG)(u:TGs):TGs:=fun vs σ H Q=>∃ v r,vs=v :: r/\t v σ H fun σ' H'=>u r σ' H' Q
theorem pgs_nil:PGs X [] gNil:=by
 intro pins s σ H vs us Q I r h
 obtain⟨e,h⟩:=h
 subst e
 cases r
 exact assignInOrder_nil ⟨σ,H,I,h⟩
theorem pgs_cons{e:Expr}{es:List Expr}{t:TG}{u:TGs}(h1:PG X e t)(h2:PGs X es u)
  (hs:(bH (e :: es) X.env).map (·.2)=assign e X.env :: (bH es X.env).map (·.2):=by rfl):PGs X (e :: es) (gCons t u):=by
 intro pins s σ H vs us Q I r h
 obtain⟨v,vr,e1,h⟩:=h
 subst e1
 cases r with
 | cons r rr=>
  rw[hs]
  refine assignInOrder_cons (thn (h1 pins s σ H _ _ _ I r h) fun _ s1 ⟨σ1,H1,I1,q1⟩=>?_)
  exact h2 pins s1 σ1 H1 _ _ Q I1 rr q1
def gTup(K:ag)(n:Nat)(t:TGs):TG:=fun v σ H Q=>∃ a xs,v=.ref a/\SqT K H a xs/\xs.length=n/\t xs σ H Q
theorem pg_tup{es:List Expr}{k:Nat}{t:TGs}{n:Nat}(hc:X.calm=true)(h:PGs X es t)
  (hn:(bH es X.env).length=n:=by rfl) (hst:(bH es X.env).findIdx? (·.1)=ab:=by rfl):PG X (.Tuple es k pos) (gTup X.K n t):=by
 intro pins s σ H v u Q I r hw
 obtain⟨a,xs,e1,hq,hl,hw⟩:=hw
 subst e1
 cases r
 obtain⟨its,rv,ht,hz⟩:=I.tuple hq
 refine assign_Tuple_tuple (I.ok.hd hc) ht (by simp[hn,<- hl,rv.length]) hst fun h' hx=>?_
 have I1:Inv X pins σ H { s with heap:=h'}:=I.kept (t':=s.toks) fun b o e=>hx b o (bp (aN e)) e
 exact h pins _ σ H xs _ Q I1 (by simpa using rv) hw
def gSub(to ti:TE)(t:TSet):TG:=fun v σ H Q=>to σ H fun o H1=>ti σ H1 fun i H2=>t o i v H2 fun H3=>Q σ H3
theorem pg_sub{o i:Expr}{to ti:TE}{t:TSet}(ho:PE X o to)(hi:PE X i ti)(hs:PSet X t)
  (ha:∀ v,assign (.Subscript o i pos) X.env v=(do
   let ov <- holding [v] (eval o X.env)
   let iv <- holding [v,ov] (eval i X.env)
   standAt pos
   holding [v,ov,iv] (setItem ov iv v)
   release [v,ov,iv] []):=by intro _;rfl):PG X (.Subscript o i pos) (gSub to ti t):=by
 intro pins s σ H v u Q I r h
 rw[ha]
 refine aj (bT (thn (ho pins s σ H _ I h) fun ov s1 ⟨x,H1,I1,r1,q1⟩=>?_))
 refine aj (bT (thn (hi pins s1 σ H1 _ I1 q1) fun iv s2 ⟨y,H2,I2,r2,q2⟩=>?_))
 refine aj (wpAny_standAt (aj (bT (thn (hs pins s2 σ H2 x y v ov iv u _ I2 r1 r2 r q2) fun _ s3 ⟨H3,I3,q3⟩=>?_))))
 exact wpAny_release ⟨σ,H3,I3,q3⟩
def tAsg(te:TE)(g:TG):TS:=fun D σ H=>te σ H fun x H1=>g x σ H1 D.nx
theorem ps_asg{tg e:Expr}{te:TE}{g:TG}(he:PE X e te)(hg:PG X tg g)(hs:swapsWithSole [tg] e pos.line X.env=pure false:=by rfl)(hw:swappedStores [tg] e X.env=pure ab:=by rfl)
  (h1:(bH [tg] X.env).map (·.2)=[assign tg X.env]:=by rfl):PS X (.Assign [tg] e pos) (tAsg te g):=by
 intro pins s σ H D I h
 refine wpAny_Assign_stores (thn (he pins s σ H _ I h) fun v s1 ⟨x,H1,I1,r1,q1⟩=>?_) hs hw
 rw[h1]
 exact thn (hg pins s1 σ H1 x v _ I1 r1 q1) fun _ s2 q=>q
theorem ps_set{i:Nat}{x:Str}{e:Expr}{te:TE}{pos':Pos}(hN:X.N.Nodup)(hi:X.N[i]? = aa x)(hx:Loc X.env.scope x)(he:PE X e te)(hs:swapsWith e (aa (.Name x pos')) pos.line X.env=pure false:=by rfl)(hf:X.fn x=true \/ X.env.scope.names.lookup x=aa .local:=by first | exact .inl rfl | exact .inr rfl | assumption) :
  PS X (.Assign [.Name x pos'] e pos) (tAsg te (zie i)):=by
 intro pins s σ H D I h
 refine wpAny_Assign_Name (thn (he pins s σ H _ I h) fun v s1 ⟨y,H1,I1,r1,q1⟩=>?_) hs
 exact zgz I1 hN hi hx r1 (fun s2 I2=>⟨_,H1,I2,q1⟩) hf
end
section
variable {X:Cx}{pos:Pos}
def tWhile(c:TT)(tb:TS):TS:=fun D σ H=>∃ W:Nat->St->Hp->Prop,(∃ m,W m σ H)/\∀ m σ H,W m σ H ->
 c σ H fun b H1=>if b=true then ∃ N:St->Hp->Prop,(∀ σ' H',N σ' H'->∃ m',m'<m/\W m' σ' H')/\tb { D with nx:=N,ct:=N,bk:=D.nx} σ H1 else D.nx σ H1
theorem ps_while{c:Expr}{body:List Stmt}{tc:TT}{tb:TS}(hp:PassesOwn (model X.prog X.w) X.A X.env X.xe)(hc:PT X c tc)(hb:PSs X body tb):PS X (.While c body [] pos) (tWhile tc tb):=by
 intro pins s σ H D I h
 obtain⟨W,⟨m0,w0⟩,turn⟩:=h
 refine wpAny_While (codeAny_whileLoop (fun n s'=>∃ σ' H',Inv X pins σ' H' s'/\W n σ' H') ?_ m0 ⟨σ,H,I,w0⟩)
 rintro n s1 ⟨σ1,H1,I1,w1⟩
 refine wpAny_passesOwn hp (thn (hc pins s1 σ1 H1 _ I1 (turn n σ1 H1 w1)) fun b s2 ⟨H2,I2,q2⟩=>?_)
 cases b with
 | true=>
  obtain⟨N,hN,q2⟩:=q2
  rw[if_pos rfl]
  refine wpAny_passesOwn hp (thn (hb pins s2 σ1 H2 _ I2 q2) fun f s3 q3=>?_)
  cases f with
  | next=>
   obtain⟨σ3,H3,I3,n3⟩:=q3
   obtain⟨m',hm,w3⟩:=hN σ3 H3 n3
   exact⟨m',hm,σ3,H3,I3,w3⟩
  | cont=>
   obtain⟨σ3,H3,I3,n3⟩:=q3
   obtain⟨m',hm,w3⟩:=hN σ3 H3 n3
   exact⟨m',hm,σ3,H3,I3,w3⟩
  | brk=>exact q3
  | ret v=>exact q3
 | false=>
  rw[if_neg aX]
  exact wpAny_execs_nil ⟨σ1,H2,I2,q2⟩
end
structure It where
 go:Nat->Hp->Prop
 yld:Nat->Hp->V->Hp->Prop
 stop:Nat->Hp->Prop
def zi5(X:Cx)(pins:List (af × Obj))(H:Hp)(b:af):Prop:=
 H b=ab/\b ≠ X.env.locals/\b ∉ X.fs/\(b ∈ X.ex \/ X.s₀.heap.objs.size<=b)/\(∀ x c,X.env.cells.lookup x=aa c->c ≠ b)/\∀ p ∈ X.pn ++ pins,p.1 ≠ b
theorem Inv.fpOk{X:Cx}{pins:List (af × Obj)}{σ:St}{H H':Hp}{s:ah}{b:af}(I:Inv X pins σ H s)(hb:s.heap.objs.size<=b)(hn:H' b=ab):zi5 X pins H' b:=by
 refine⟨hn,gh (aW I.lt hb),I.nofs hb,.inr (aL I.sz hb),fun x c e z=>?_,fun p hp z=>?_⟩
 ·obtain⟨v,q⟩:=I.cell x c e
  exact absurd (aW q.lt (by rw[z];exact hb)) (cc _)
 ·exact absurd (aW (aN (I.pin p hp).1) (by rw[z];exact hb)) (cc _)
structure Turn(P:aR)(w:aU)(K:ag)(tg:Expr)(J:It)(fp:List af)(it:af)(tn:Nat->ba->Prop):Prop where
 mem:it ∈ fp
 obj:∀ i h,tn i h->∀ b ∈ fp,∃ o,h.get? b=aa o/\∀ v,o.data ≠ .cell v
 keep:∀ i h h',tn i h->(∀ b ∈ fp,∀ o,h.get? b=aa o->h'.get? b=aa o)->tn i h'
 item:∀ (X:Cx),X.prog=P->X.w=w->X.K=K->X.calm=true->∀ (i:Nat) (pins:List (af × Obj)) (s:ah) (σ:St) (H:Hp) (E:ae->ah->Prop),Inv X pins σ H s->(∀ b ∈ fp,zi5 X pins H b)->tn i s.heap->J.go i H ->
  aI (model P w) X.A (pyNext (.ref it)) (fun r s1=>∃ u,r=aa u /\
   aI (model P w) X.A (letOwnedTupleGo tg (.ref it) u) (fun _ s2=>∃ x H',Inv X pins σ H' s2/\RelV x u/\J.yld i H x H'/\tn (i+1) s2.heap/\∀ b ∈ fp,H' b=ab) E s1) E s
 done:∀ (X:Cx),X.prog=P->X.w=w->X.K=K->X.calm=true->∀ (i:Nat) (pins:List (af × Obj)) (s:ah) (σ:St) (H:Hp) (E:ae->ah->Prop),Inv X pins σ H s->(∀ b ∈ fp,zi5 X pins H b)->tn i s.heap->J.stop i H ->
  aI (model P w) X.A (pyNext (.ref it)) (fun r s1=>r=ab/\Inv X pins σ H s1) E s
 self:∀ (A:a9) (i:Nat) (s:ah) (Q:ae->ah->Prop) (E:ae->ah->Prop),tn i s.heap->Q (.ref it) s->aI (model P w) A (pyIter (.ref it)) Q E s
abbrev TI:=St->Hp->(It->Hp->Prop)->Prop
def PIE(X:Cx)(pins:List (af × Obj))(σ:St)(tg:Expr)(R:It->Hp->Prop)(itv:ae)(s2:ah):Prop:=
 ∃ (it:af) (fp:List af) (tn:Nat->ba->Prop) (J:It) (H':Hp),itv=.ref it/\Inv X pins σ H' s2/\Turn X.prog X.w X.K tg J fp it tn/\tn 0 s2.heap/\(∀ b ∈ fp,zi5 X pins H' b)/\R J H'
def PI(X:Cx)(tg iter:Expr)(wi:TI):Prop:=
 ∀ (pins:List (af × Obj)) (s:ah) (σ:St) (H:Hp) (R:It->Hp->Prop),Inv X pins σ H s->wi σ H R ->
  aI (model X.prog X.w) X.A (eval iter X.env) (fun v s1=>aI (model X.prog X.w) X.A (pyIter v) (PIE X pins σ tg R) X.xe s1) X.xe s
theorem go_of{M:Model}{A:a9}{E:ae->ah->Prop}{s:ah}{tg:Expr}{it:af}{u:ae}{o:Obj}{n:String}{vs:Array ae}{Q:Unit->ah->Prop}(ho:s.heap.get? it=aa o)(hc:o.cls=.type n)(hd:o.data=.fields vs)
    (hn:["enumerate","zip","dict_itemiterator","dict_reverseitemiterator","odict_iterator","itertools.zip_longest","itertools.pairwise"].contains n=false) (hQ:Q () s):aI M A (letOwnedTupleGo tg (.ref it) u) Q E s:=by
  unfold letOwnedTupleGo
  cases tg <;> first
    | exact aE hQ
    | (cases u <;> first
        | exact aE hQ
        | (refine aj (wpAny_load ho ?_)
           rw[hc,hd]
           show aI M A (if (["enumerate","zip","dict_itemiterator","dict_reverseitemiterator","odict_iterator","itertools.zip_longest","itertools.pairwise"].contains n && vs[0]? == aa (rawInt _))=true then _ else _) Q E s
           rw[if_neg (by intro h;rw[hn,eu] at h;cases h)]
           exact aE hQ))
def Itl(K:ag)(a:af):It:=
 ⟨fun i H=>∃ xs x,SqL K H a xs/\xs[i]? = aa x,fun i H x H'=>H'=H/\∀ xs,SqL K H a xs->xs[i]? = aa x,fun i H=>∃ xs,SqL K H a xs/\xs.length<=i⟩
def Itt(K:ag)(a:af):It:=
 ⟨fun i H=>∃ xs x,SqT K H a xs/\xs[i]? = aa x,fun i H x H'=>H'=H/\∀ xs,SqT K H a xs->xs[i]? = aa x,fun i H=>∃ xs,SqT K H a xs/\xs.length<=i⟩
def Itr(lo:Int)(n:Nat):It:=⟨fun i _=>i<n,fun i H x H'=>H'=H/\x=.int (lo+i),fun i _=>n<=i⟩
theorem zhu{P:aR}{w:aU}{K:ag}{tg:Expr}(a it:af):Turn P w K tg (Itl K a) [it] it (fun i h=>h.IsListIter it a i) where
 mem:=by simp
 obj:=fun i h st b hb=>by
  have e:b=it:=by simpa using hb
  subst e
  obtain⟨o,e,c,d⟩:=st
  exact⟨o,e,fun v z=>by rw[d] at z;cases z⟩
 keep:=fun i h h' st k=>st.at fun o e=>k it (by simp) o e
 item:=by
  intro X hP hw hK hc i pins s σ H E I hf st hg
  subst hP hw hK
  obtain⟨xs,x,hq,hx⟩:=hg
  obtain⟨its,rv,p,hz⟩:=I.list hq
  obtain⟨u,hu,ru⟩:=rv.get hx
  obtain⟨f0,f1,f2,f3,f4,f5⟩:=hf it (by simp)
  refine wpAny_pyNext_list_item st p.isList (x:=u) (by simpa using hu) fun h' st' sb=>?_
  have I1:Inv X pins σ H { s with heap:=h'}:=I.turned (t':=s.toks) (fun b o hb e=>(sb.2 b hb).trans e) f0 f1 f3 f4 f5
  obtain⟨o,e,c,d⟩:=id st'
  exact⟨u,rfl,go_of (s:={ s with heap:=h'}) e c d (by decide) ⟨x,H,I1,ru,⟨rfl,fun ys hy=>by rw[I.list_inj hy hq];exact hx⟩,st',fun b hb=>(hf b hb).1⟩⟩
 done:=by
  intro X hP hw hK hc i pins s σ H E I hf st hg
  subst hP hw hK
  obtain⟨xs,hq,hx⟩:=hg
  obtain⟨its,rv,p,hz⟩:=I.list hq
  obtain⟨f0,f1,f2,f3,f4,f5⟩:=hf it (by simp)
  have hl:=rv.length
  exact wpAny_pyNext_list_end (I.ok.hd hc) st p.isList (by simp;lia) fun h' eb=>⟨rfl,I.turned (t':=s.toks) (fun b o hb e=>eb b o hb e) f0 f1 f3 f4 f5⟩
 self:=fun _ _ _ _ _ st h=>wpAny_pyIter_listiter st h
theorem zfK{P:aR}{w:aU}{K:ag}{tg:Expr}(a it:af):Turn P w K tg (Itt K a) [it] it (fun i h=>h.IsTupleIter it a i) where
 mem:=by simp
 obj:=fun i h st b hb=>by
  have e:b=it:=by simpa using hb
  subst e
  obtain⟨o,e,c,d⟩:=st
  exact⟨o,e,fun v z=>by rw[d] at z;cases z⟩
 keep:=fun i h h' st k=>st.at fun o e=>k it (by simp) o e
 item:=by
  intro X hP hw hK hc i pins s σ H E I hf st hg
  subst hP hw hK
  obtain⟨xs,x,hq,hx⟩:=hg
  obtain⟨its,rv,p,hz⟩:=I.tuple hq
  obtain⟨u,hu,ru⟩:=rv.get hx
  obtain⟨f0,f1,f2,f3,f4,f5⟩:=hf it (by simp)
  refine wpAny_pyNext_tuple_item st (show s.heap.IsTuple a its.toArray from p) (x:=u) (by simpa using hu) fun h' st' sb=>?_
  have I1:Inv X pins σ H { s with heap:=h'}:=I.turned (t':=s.toks) (fun b o hb e=>(sb.2 b hb).trans e) f0 f1 f3 f4 f5
  obtain⟨o,e,c,d⟩:=id st'
  exact⟨u,rfl,go_of (s:={ s with heap:=h'}) e c d (by decide) ⟨x,H,I1,ru,⟨rfl,fun ys hy=>by rw[I.tuple_inj hy hq];exact hx⟩,st',fun b hb=>(hf b hb).1⟩⟩
 done:=by
  intro X hP hw hK hc i pins s σ H E I hf st hg
  subst hP hw hK
  obtain⟨xs,hq,hx⟩:=hg
  obtain⟨its,rv,p,hz⟩:=I.tuple hq
  obtain⟨f0,f1,f2,f3,f4,f5⟩:=hf it (by simp)
  have hl:=rv.length
  exact wpAny_pyNext_tuple_end (I.ok.hd hc) st (show s.heap.IsTuple a its.toArray from p) (by simp;lia) fun h' eb=>⟨rfl,I.turned (t':=s.toks) (fun b o hb e=>eb b o hb e) f0 f1 f3 f4 f5⟩
 self:=fun _ _ _ _ _ st h=>wpAny_pyIter_tupleiter st h
theorem zjC{P:aR}{w:aU}{K:ag}{tg:Expr}(it:af)(lo:Int)(n:Nat):Turn P w K tg (Itr lo n) [it] it (fun i h=>IsRangeIter h it (lo+(i:Nat) * 1) ((n:Int) - (i:Nat)) 1) where
 mem:=by simp
 obj:=fun i h st b hb=>by
  have e:b=it:=by simpa using hb
  subst e
  exact⟨_,st,fun v z=>by
   have z':Data.fields _=Data.cell v:=z
   cases z'⟩
 keep:=fun i h h' st k=>k it (by simp) _ st
 item:=by
  intro X hP hw hK hc i pins s σ H E I hf st hg
  subst hP hw hK
  obtain⟨f0,f1,f2,f3,f4,f5⟩:=hf it (by simp)
  have W:=Walks.range (prog:=X.prog) (w:=X.w) (I.ok.hd hc) it lo 1 n
  refine W.item i s _ _ hg st fun v h' tk hv st' kk=>?_
  obtain⟨t,rfl⟩:=hv
  have I1:Inv X pins σ H { s with heap:=h',toks:=tk}:=I.turned (fun b o hb e=>kk b o (by simpa using hb) e) f0 f1 f3 f4 f5
  refine⟨_,rfl,go_of (s:={ s with heap:=h',toks:=tk}) (n:= "range_iterator") st' rfl rfl (by decide) ⟨.int (lo+i),H,I1,⟨t,?_⟩,⟨rfl,rfl⟩,st',fun b hb=>(hf b hb).1⟩⟩
  rw[Int.mul_one]
 done:=by
  intro X hP hw hK hc i pins s σ H E I hf st hg
  subst hP hw hK
  obtain⟨f0,f1,f2,f3,f4,f5⟩:=hf it (by simp)
  exact wpAny_pyNext_range_end (I.ok.hd hc) st (by have:n<=i:=hg;lia) fun h' eb=>⟨rfl,I.turned (t':=s.toks) (fun b o hb e=>eb b o hb e) f0 f1 f3 f4 f5⟩
 self:=fun _ _ _ _ _ st h=>wpAny_pyIter_rangeiter st h
end L2
namespace L2
open PySem PySem.Spec PyProof.Rows
section
variable {X:Cx}{tg:Expr}
def iList(K:ag)(tl:TE):TI:=fun σ H R=>tl σ H fun x H1=>∃ a,x=.ref a/\(∃ xs,SqL K H1 a xs)/\R (Itl K a) H1
def iTup(K:ag)(tl:TE):TI:=fun σ H R=>tl σ H fun x H1=>∃ a,x=.ref a/\(∃ xs,SqT K H1 a xs)/\R (Itt K a) H1
theorem pi_list{l:Expr}{tl:TE}(hl:PE X l tl):PI X tg l (iList X.K tl):=by
 intro pins s σ H R I h
 refine thn (hl pins s σ H _ I h) fun v s1 ⟨x,H1,I1,r1,q1⟩=>?_
 obtain⟨a,e,⟨xs,hq⟩,q⟩:=q1
 subst e
 cases r1
 obtain⟨its,rv,p,hz⟩:=I1.list hq
 refine wpAny_pyIter_list p.isList ?_
 refine⟨s1.heap.objs.size,[s1.heap.objs.size],_,_,H1,rfl,I1.kept (t':=s1.toks) fun b o e=>am _ e,zhu a _,⟨_,aM _ rfl,rfl,rfl⟩,fun b hb=>?_,q⟩
 have e:b=s1.heap.objs.size:=by simpa using hb
 subst e
 exact I1.fpOk (ai _) (I1.hok.fresh (ai _))
theorem pi_tup{l:Expr}{tl:TE}(hl:PE X l tl):PI X tg l (iTup X.K tl):=by
 intro pins s σ H R I h
 refine thn (hl pins s σ H _ I h) fun v s1 ⟨x,H1,I1,r1,q1⟩=>?_
 obtain⟨a,e,⟨xs,hq⟩,q⟩:=q1
 subst e
 cases r1
 obtain⟨its,rv,p,hz⟩:=I1.tuple hq
 refine wpAny_pyIter_tuple (show s1.heap.IsTuple a its.toArray from p) ?_
 refine⟨s1.heap.objs.size,[s1.heap.objs.size],_,_,H1,rfl,I1.kept (t':=s1.toks) fun b o e=>am _ e,zfK a _,⟨_,aM _ rfl,rfl,rfl⟩,fun b hb=>?_,q⟩
 have e:b=s1.heap.objs.size:=by simpa using hb
 subst e
 exact I1.fpOk (ai _) (I1.hok.fresh (ai _))
theorem ziD{pins:List (af × Obj)}{σ:St}{H:Hp}{s:ah}{R:It->Hp->Prop}{E:ae->ah->Prop}{lo hi:Int}{t u v:Tok}{tk:Nat}(I:Inv X pins σ H s)(h1:-(2 ^ 62)<=lo)(h2:lo<2 ^ 62)(h3:-(2 ^ 62)<=hi)(h4:hi<2 ^ 62)
  (q:R (Itr lo (hi - lo).toNat) H):aI (model X.prog X.w) X.A (pyIter (.ref s.heap.objs.size)) (PIE X pins σ tg R) E { s with heap:=s.heap.push { cls:=.type "range",data:=.fields #[.int lo t,.int hi u,.int 1 v]},toks:=tk}:=by
 refine wpAny_pyIter_range (IsRange.new ..) (small_one h1 h2 h3 h4) ?_
 have I1:Inv X pins σ H { s with heap:=s.heap.push { cls:=.type "range",data:=.fields #[.int lo t,.int hi u,.int 1 v]},toks:=tk}:=I.kept fun b o e=>am _ e
 refine⟨(s.heap.push { cls:=.type "range",data:=.fields #[.int lo t,.int hi u,.int 1 v]}).objs.size,[(s.heap.push { cls:=.type "range",data:=.fields #[.int lo t,.int hi u,.int 1 v]}).objs.size],_,_,H,rfl,
  I1.kept (t':=tk) fun b o e=>am _ e,zjC _ lo (hi - lo).toNat,?_,fun b hb=>?_,q⟩
 ·have e1:lo+((0:Nat):Int) * 1=lo:=by simp
  have e2:(((hi - lo).toNat:Nat):Int) - ((0:Nat):Int)=j8 lo hi 1:=by rw[rangeSize_one];split <;> lia
  show IsRangeIter _ _ (lo+((0:Nat):Int) * 1) ((((hi - lo).toNat:Nat):Int) - ((0:Nat):Int)) 1
  rw[e1,e2]
  exact aM _ rfl
 ·have e:b=(s.heap.push { cls:=.type "range",data:=.fields #[.int lo t,.int hi u,.int 1 v]}).objs.size:=by simpa using hb
  subst e
  exact I1.fpOk (ai _) (I1.hok.fresh (ai _))
def iRng1(ta:TA):TI:=fun σ H R=>ta σ H fun vs H1=>∃ j:Int,vs=[.int j] /\ -(2 ^ 62)<=j/\j<2 ^ 62/\R (Itr 0 j.toNat) H1
def iRng2(ta:TA):TI:=fun σ H R=>ta σ H fun vs H1=>∃ i j:Int,vs=[.int i,.int j]/\(-(2 ^ 62)<=i/\i<2 ^ 62 /\ -(2 ^ 62)<=j/\j<2 ^ 62)/\R (Itr i (j - i).toNat) H1
theorem pi_range1{a:Expr}{ta:TA}{p pos:Pos}(hg:Gl X "range")(hm:X.mg "range" = ab)(ha:PA X [a] ta)(hs:be [a] X.env=[(false,eval a X.env)]:=by rfl):PI X tg (.Call (.Name "range" p) [a] [] pos) (iRng1 ta):=by
 intro pins s σ H R I h
 refine Call_ (zep I hg hm boot_range (bZ (thn (ha pos pins s σ H _ I h) fun us s1 ⟨vs,H1,I1,r1,q1⟩=>?_) hs rfl))
 obtain⟨j,e,q1,q2,q⟩:=q1
 subst e
 cases r1 with
 | cons r rr=>
  cases rr
  obtain⟨t,rfl⟩:=r
  exact call_range_1 (ziD I1 (by lia) (by lia) q1 q2 (by simpa using q))
theorem pi_range2{a b:Expr}{ta:TA}{p pos:Pos}(hg:Gl X "range")(hm:X.mg "range" = ab)(ha:PA X [a,b] ta)(hs:be [a,b] X.env=[(false,eval a X.env),(false,eval b X.env)]:=by rfl)(hs2:be [b] X.env=[(false,eval b X.env)]:=by rfl) :
  PI X tg (.Call (.Name "range" p) [a,b] [] pos) (iRng2 ta):=by
 intro pins s σ H R I h
 refine Call_ (zep I hg hm boot_range (bZ (thn (ha pos pins s σ H _ I h) fun us s1 ⟨vs,H1,I1,r1,q1⟩=>?_) (by rw[hs,hs2]) (by rw[hs2];rfl)))
 obtain⟨i,j,e,⟨q1,q2,q3,q4⟩,q⟩:=q1
 subst e
 cases r1 with
 | cons r rr=>
  cases rr with
  | cons r' rr=>
   cases rr
   obtain⟨t,rfl⟩:=r
   obtain⟨t',rfl⟩:=r'
   exact call_range_2 (ziD I1 q1 q2 q3 q4 q)
def tFor(wi:TI)(g:TG)(tb:TS):TS:=fun D σ H=>wi σ H fun J H1=>∃ W:Nat->Nat->St->Hp->Prop,(∃ m,W 0 m σ H1)/\∀ i m σ H,W i m σ H ->
 (J.stop i H/\D.nx σ H) \/ (J.go i H/\∃ N:St->Hp->Prop,(∀ σ' H',N σ' H'->∃ m',m'<m/\W (i+1) m' σ' H')/\∀ x H',J.yld i H x H'->g x σ H' fun σ2 H2=>tb { D with nx:=N,ct:=N,bk:=D.nx} σ2 H2)
def zfN(fp:List af)(h:ba):List (af × Obj):=fp.filterMap fun b=>(h.get? b).map fun o=>(b,o)
theorem zdP{fp:List af}{h:ba}{b:af}{o:Obj}(hb:b ∈ fp)(e:h.get? b=aa o):(b,o) ∈ zfN fp h:=dy.mpr ⟨b,hb,by rw[e];rfl⟩
theorem of_pinsAt{fp:List af}{h:ba}{p:af × Obj}(hp:p ∈ zfN fp h):p.1 ∈ fp/\h.get? p.1=aa p.2:=by
 obtain⟨b,hb,e⟩:=dy.mp hp
 cases q:h.get? b with
 | none=>rw[q] at e;cases e
 | some o=>
  rw[q] at e
  have e':(b,o)=p:=bf e
  subst e'
  exact⟨hb,q⟩
theorem Inv.pinned{pins:List (af × Obj)}{σ:St}{H:Hp}{s:ah}{fp:List af}(I:Inv X pins σ H s)(hf:∀ b ∈ fp,zi5 X pins H b)(ho:∀ b ∈ fp,∃ o,s.heap.get? b=aa o/\∀ v,o.data ≠ .cell v):Inv X (pins ++ zfN fp s.heap) σ H s:=
 I.pins_of fun p hp=>(bx.mp hp).elim (fun z=>I.pin p (aJ _ z)) fun z=>by
  obtain⟨hb,e⟩:=of_pinsAt z
  obtain⟨f0,f1,f2,_⟩:=hf p.1 hb
  obtain⟨o,e',d⟩:=ho p.1 hb
  rw[e] at e';cases e'
  exact⟨e,f0,f1,f2,d⟩
theorem Inv.unpinned{pins pl:List (af × Obj)}{σ:St}{H:Hp}{s:ah}(I:Inv X (pins ++ pl) σ H s):Inv X pins σ H s:=I.pins_of fun p hp=>I.pin p (aJ _ (bz _ hp))
theorem ps_for{iter:Expr}{body:List Stmt}{wi:TI}{g:TG}{tb:TS}{pos:Pos}(hp:PassesOwn (model X.prog X.w) X.A X.env X.xe)(hc:X.calm=true)(hi:PI X tg iter wi)(hg:PG X tg g)(hb:PSs X body tb)
  (hs:∀ x,cr iter X.env x=pure x:=by intro _;rfl):PS X (.For tg iter body [] pos) (tFor wi g tb):=by
 intro pins s σ H D I h
 refine wpAny_For (thn (hi pins s σ H _ I h) fun v s1 h1=>thn h1 fun itv s2 h2=>?_) hs
 obtain⟨it,fp,tn,J,H2,e,I2,T,st2,f2,W,⟨m0,w0⟩,turn⟩:=h2
 subst e
 have stat:∀ {H':Hp},(∀ b ∈ fp,H' b=ab)->∀ b ∈ fp,zi5 X pins H' b:=fun hn b hb=>⟨hn b hb,(f2 b hb).2⟩
 refine codeAny_forLoop_any (fun n s'=>∃ i σ' H',Inv X pins σ' H' s'/\tn i s'.heap/\(∀ b ∈ fp,H' b=ab)/\W i n σ' H') ?_ m0 ⟨0,σ,H2,I2,st2,fun b hb=>(f2 b hb).1,w0⟩
 rintro n s3 ⟨i,σ3,H3,I3,st3,fr3,w3⟩
 rcases turn i n σ3 H3 w3 with ⟨stop,qn⟩ | ⟨go,N,hN,step⟩
 ·refine wpAny_passesOwn hp (thn (T.done X rfl rfl rfl hc i pins s3 σ3 H3 X.xe I3 (stat fr3) st3 stop) fun r s4 ⟨hr,I4⟩=>?_)
  subst hr
  exact wpAny_execs_nil ⟨σ3,H3,I4,qn⟩
 ·refine wpAny_passesOwn hp (thn (T.item X rfl rfl rfl hc i pins s3 σ3 H3 X.xe I3 (stat fr3) st3 go) fun r s4 ⟨u,hr,h4⟩=>?_)
  subst hr
  refine wpAny_passesOwn hp (thn h4 fun _ s5 ⟨x,H5,I5,r5,y5,st5,fr5⟩=>?_)
  have I5':=I5.pinned (stat fr5) (T.obj _ _ st5)
  refine wpAny_passesOwn hp (thn (hg _ s5 σ3 H5 x u _ I5' r5 (step x H5 y5)) fun _ s6 ⟨σ6,H6,I6,q6⟩=>?_)
  refine wpAny_passesOwn hp (thn (hb _ s6 σ6 H6 _ I6 q6) fun f s7 q7=>?_)
  have again:∀ {σ7:St} {H7:Hp},Inv X (pins ++ zfN fp s5.heap) σ7 H7 s7->N σ7 H7->∃ m,m<n/\∃ i σ' H',Inv X pins σ' H' s7/\tn i s7.heap/\(∀ b ∈ fp,H' b=ab)/\W i m σ' H':=fun {σ7 H7} I7 n7=>by
   obtain⟨m',hm,w7⟩:=hN σ7 H7 n7
   refine⟨m',hm,i+1,σ7,H7,I7.unpinned,T.keep _ _ _ st5 fun b hb o e=>(I7.pin (b,o) (aJ _ (aJ _ (zdP hb e)))).1,fun b hb=>?_,w7⟩
   obtain⟨o,e,d⟩:=T.obj _ _ st5 b hb
   exact(I7.pin (b,o) (aJ _ (aJ _ (zdP hb e)))).2.1
  cases f with
  | next=>obtain⟨σ7,H7,I7,n7⟩:=q7;exact again I7 n7
  | cont=>obtain⟨σ7,H7,I7,n7⟩:=q7;exact again I7 n7
  | brk=>obtain⟨σ7,H7,I7,q7⟩:=q7;exact⟨σ7,H7,I7.unpinned,q7⟩
  | ret v=>obtain⟨x7,σ7,H7,I7,r7,q7⟩:=q7;exact⟨x7,σ7,H7,I7.unpinned,r7,q7⟩
end
end L2
namespace L2
open PySem PySem.Spec PyProof.Rows
abbrev R2:=V->V->Hp->VK->Prop
def OpR(X:Cx)(f:ae->ae->Sem ae)(r:R2):Prop:=
 ∀ (pins:List (af × Obj)) (s:ah) (σ:St) (H:Hp) (x y:V) (v u:ae) (Q:VK),Inv X pins σ H s->RelV x v->RelV y u->r x y H Q ->
  aI (model X.prog X.w) X.A (f v u) (EP X pins σ Q) X.xe s
def UnR(X:Cx)(f:ae->Sem ae)(r:V->Hp->VK->Prop):Prop:=
 ∀ (pins:List (af × Obj)) (s:ah) (σ:St) (H:Hp) (x:V) (v:ae) (Q:VK),Inv X pins σ H s->RelV x v->r x H Q ->
  aI (model X.prog X.w) X.A (f v) (EP X pins σ Q) X.xe s
def zec(X:Cx)(f:ae)(r:List V->Hp->VK->Prop):Prop:=
 ∀ (pins:List (af × Obj)) (s:ah) (σ:St) (H:Hp) (xs:List V) (us:List ae) (Q:VK),Inv X pins σ H s->Vals xs us->r xs H Q ->
  aI (model X.prog X.w) X.A (call f us) (EP X pins σ Q) X.xe s
def tOp(r:R2)(ta tb:TE):TE:=fun σ H Q=>ta σ H fun x H1=>tb σ H1 fun y H2=>r x y H2 Q
def tUn(r:V->Hp->VK->Prop)(ta:TE):TE:=fun σ H Q=>ta σ H fun x H1=>r x H1 Q
def rI(C:Int->Int->Prop)(g:Int->Int->V):R2:=fun x y H Q=>∃ i j,x=.int i/\y=.int j/\C i j/\Q (g i j) H
def rI0(g:Int->Int->V):R2:=fun x y H Q=>∃ i j,x=.int i/\y=.int j/\Q (g i j) H
def rU(g:Int->V):V->Hp->VK->Prop:=fun x H Q=>∃ i,x=.int i/\Q (g i) H
section
variable {X:Cx}{a b c:Expr}{ta tb tc:TE}{pos:Pos}
theorem binT(ha:PE X a ta)(hb:PE X b tb){pins:List (af × Obj)}{s:ah}{σ:St}{H:Hp}{R:V->V->Hp->Prop}(I:Inv X pins σ H s)
  (h:ta σ H fun x H1=>tb σ H1 fun y H2=>R x y H2) {Q:ae->ah->Prop} {f:ae->ae->Sem ae}
  (hf:∀ v u s2 x y H2,Inv X pins σ H2 s2->RelV x v->RelV y u->R x y H2->aI (model X.prog X.w) X.A (f v u) Q X.xe s2) :
  aI (model X.prog X.w) X.A (eval a X.env) (fun v s₁=>aI (model X.prog X.w) X.A (eval b X.env) (fun u s₂=>aI (model X.prog X.w) X.A (f v u) Q X.xe s₂) X.xe s₁) X.xe s:=by
 refine thn (ha pins s σ H _ I h) fun v s1 ⟨x,H1,I1,r1,q1⟩=>?_
 refine thn (hb pins s1 σ H1 _ I1 q1) fun u s2 ⟨y,H2,I2,r2,q2⟩=>?_
 exact hf v u s2 x y H2 I2 r1 r2 q2
theorem pe_op{op:Operator}{r:R2}(ho:OpR X (binaryOp op) r)(ha:PE X a ta)(hb:PE X b tb):PE X (.BinOp a op b pos) (tOp r ta tb):=by
 intro pins s σ H Q I h
 exact wpAny_BinOp (binT ha hb I h fun v u s2 x y H2 I2 rx ry q=>ho pins s2 σ H2 x y v u Q I2 rx ry q)
theorem pe_un{op:UnaryOp}{r:V->Hp->VK->Prop}(ho:UnR X (unaryOp op) r)(ha:PE X a ta):PE X (.UnaryOp op a pos) (tUn r ta):=by
 intro pins s σ H Q I h
 exact UnaryOp_ (thn (ha pins s σ H _ I h) fun v s1 ⟨x,H1,I1,r1,q1⟩=>ho pins s1 σ H1 x v Q I1 r1 q1)
theorem opI{f:ae->ae->Sem ae}{C:Int->Int->Prop}{g:Int->Int->Int}
  (rule:∀ (i j:Int) (t u:Tok) (s:ah) (Q:ae->ah->Prop) (E:ae->ah->Prop),C i j->Q (.int (g i j) s.toks) { s with toks:=s.toks+1}->aI (model X.prog X.w) X.A (f (.int i t) (.int j u)) Q E s) :
  OpR X f (rI C fun i j=>.int (g i j)):=by
 intro pins s σ H x y v u Q I rx ry h
 obtain⟨i,j,rfl,rfl,hc,q⟩:=h
 obtain⟨t,rfl⟩:=rx
 obtain⟨t',rfl⟩:=ry
 exact rule i j t t' s _ _ hc ⟨.int (g i j),H,I.tok _,⟨_,rfl⟩,q⟩
theorem opI0{f:ae->ae->Sem ae}{g:Int->Int->Int}
  (rule:∀ (i j:Int) (t u:Tok) (s:ah) (Q:ae->ah->Prop) (E:ae->ah->Prop),Q (.int (g i j) s.toks) { s with toks:=s.toks+1}->aI (model X.prog X.w) X.A (f (.int i t) (.int j u)) Q E s) :
  OpR X f (rI0 fun i j=>.int (g i j)):=by
 intro pins s σ H x y v u Q I rx ry h
 obtain⟨i,j,rfl,rfl,q⟩:=h
 obtain⟨t,rfl⟩:=rx
 obtain⟨t',rfl⟩:=ry
 exact rule i j t t' s _ _ ⟨.int (g i j),H,I.tok _,⟨_,rfl⟩,q⟩
theorem opB0{f:ae->ae->Sem ae}{g:Int->Int->Bool}
  (rule:∀ (i j:Int) (t u:Tok) (s:ah) (Q:ae->ah->Prop) (E:ae->ah->Prop),Q (.bool (g i j)) s->aI (model X.prog X.w) X.A (f (.int i t) (.int j u)) Q E s) :
  OpR X f (rI0 fun i j=>.bl (g i j)):=by
 intro pins s σ H x y v u Q I rx ry h
 obtain⟨i,j,rfl,rfl,q⟩:=h
 obtain⟨t,rfl⟩:=rx
 obtain⟨t',rfl⟩:=ry
 exact rule i j t t' s _ _ ⟨.bl (g i j),H,I,rfl,q⟩
def CDiv(i j:Int):Prop:=0<j/\j<1073741824
def CPow(i j:Int):Prop:=0<=j/\j<=1000000/\i.natAbs<2 ^ 64
def CMul(i j:Int):Prop:=(-(2 ^ 64)<i/\i<2 ^ 64) \/ (-(2 ^ 64)<j/\j<2 ^ 64)
theorem CMul.ok{i j:Int}(h:CMul i j):IntMulOk i j:=by
 rcases h with ⟨h1,h2⟩ | ⟨h1,h2⟩
 ·exact .of_left (intBits_le_64 h1 h2)
 ·exact .of_right (intBits_le_64 h1 h2)
theorem op_add:OpR X (binaryOp .Add) (rI0 fun i j=>.int (i+j)):=opI0 fun _ _ _ _ _ _ _ q=>add_int q
theorem op_sub:OpR X (binaryOp .Sub) (rI0 fun i j=>.int (i - j)):=opI0 fun _ _ _ _ _ _ _ q=>sub_int q
theorem op_mul:OpR X (binaryOp .Mult) (rI CMul fun i j=>.int (i * j)):=opI fun _ _ _ _ _ _ _ hc q=>mul_int q hc.ok
theorem op_fdiv:OpR X (binaryOp .FloorDiv) (rI CDiv fun i j=>.int (i / j)):=opI fun i j _ _ _ _ _ hc q=>by
 have h1:(0:Int)<j:=hc.1
 have h2:j<1073741824:=hc.2
 exact floordiv_int (by lia) (by rw[fP i (by lia)];exact q) (.inl (PyProof.noPylong_small (by lia)))
theorem op_mod:OpR X (binaryOp .Mod) (rI (fun _ j=>0<j) fun i j=>.int (i % j)):=opI fun i j _ _ _ _ _ hc q=>by
 have h1:(0:Int)<j:=hc
 exact mod_int' (by lia) (by rw[Int.fmod_eq_emod_of_nonneg i (by lia)];exact q)
theorem op_pow:OpR X (binaryOp .Pow) (rI CPow fun i j=>.int (i ^ j.toNat)):=opI fun _ _ _ _ _ _ _ hc q=>pow_int_small hc.1 hc.2.1 hc.2.2 q
theorem unI{f:ae->Sem ae}{g:Int->Int}
  (rule:∀ (i:Int) (t:Tok) (s:ah) (Q:ae->ah->Prop) (E:ae->ah->Prop),Q (.int (g i) s.toks) { s with toks:=s.toks+1}->aI (model X.prog X.w) X.A (f (.int i t)) Q E s) :
  UnR X f (rU fun i=>.int (g i)):=by
 intro pins s σ H x v Q I rx h
 obtain⟨i,rfl,q⟩:=h
 obtain⟨t,rfl⟩:=rx
 exact rule i t s _ _ ⟨.int (g i),H,I.tok _,⟨_,rfl⟩,q⟩
theorem un_neg:UnR X (unaryOp .USub) (rU fun i=>.int (-i)):=unI fun _ _ _ _ _ q=>neg_int q
end
def scal:V->V->Bool
 | .non,.non=>true | .non,.int _=>true | .int _,.non=>true | .non,.bl _=>true | .bl _,.non=>true | .non,.str _=>true | .str _,.non=>true
 | .int _,.int _=>true | .bl _,.bl _=>true | .str _,.str _=>true | .byt _,.byt _=>true
 | .int _,.str _=>true | .str _,.int _=>true | .bl _,.str _=>true | .str _,.bl _=>true
 | _,_=>false
def rEq:R2:=fun x y H Q=>scal x y=true/\Q (.bl (decide (x=y))) H
def rNe:R2:=fun x y H Q=>scal x y=true/\Q (.bl (!decide (x=y))) H
theorem dec_int{i j:Int}:decide (V.int i=V.int j)=(i == j):=by
 rw[fg]
 simp
theorem dec_bl{i j:Bool}:decide (V.bl i=V.bl j)=(i == j):=by
 rw[fg]
 simp
theorem dec_str{i j:Str}:decide (V.str i=V.str j)=(i == j):=by
 rw[fg]
 simp
theorem dec_byt{i j:Array UInt8}:decide (V.byt i=V.byt j)=(i.toList == j.toList):=by
 rw[fg]
 cases i
 cases j
 simp
section
variable {X:Cx}{a b c:Expr}{ta tb tc:TE}{pos:Pos}
theorem zaQ{pins:List (af × Obj)}{σ:St}{H:Hp}{s:ah}{Q:VK}{k k':Bool}(I:Inv X pins σ H s)(q:Q (.bl k) H)(e:k=k'):EP X pins σ Q (.bool k') s:=by
 subst e
 exact⟨.bl k,H,I,rfl,q⟩
theorem op_eq:OpR X (bF .Eq) rEq:=by
 intro pins s σ H x y v u Q I rx ry h
 obtain⟨hs,q⟩:=h
 cases x with
 | non=>
  cases rx
  cases y with
  | non=>cases ry;exact jC (zaQ I q (by simp))
  | bl j=>cases ry;exact jD (zaQ I q (by simp))
  | int j=>obtain⟨t',rfl⟩:=ry;exact jP (zaQ I q (by simp))
  | str j=>obtain⟨t',rfl⟩:=ry;exact jQ (zaQ I q (by simp))
  | _=>exact absurd (show false=true from hs) aX
 | bl i=>
  cases rx
  cases y with
  | non=>cases ry;exact jE (zaQ I q (by simp))
  | bl j=>cases ry;exact eq_bool (zaQ I q dec_bl)
  | str j=>obtain⟨t',rfl⟩:=ry;exact jF (zaQ I q (by simp))
  | _=>exact absurd (show false=true from hs) aX
 | int i=>
  obtain⟨t,rfl⟩:=rx
  cases y with
  | non=>cases ry;exact jR (zaQ I q (by simp))
  | int j=>obtain⟨t',rfl⟩:=ry;exact eq_int (zaQ I q dec_int)
  | str j=>obtain⟨t',rfl⟩:=ry;exact jS (zaQ I q (by simp))
  | _=>exact absurd (show false=true from hs) aX
 | str i=>
  obtain⟨t,rfl⟩:=rx
  cases y with
  | non=>cases ry;exact jT (zaQ I q (by simp))
  | bl j=>cases ry;exact jG (zaQ I q (by simp))
  | int j=>obtain⟨t',rfl⟩:=ry;exact jU (zaQ I q (by simp))
  | str j=>obtain⟨t',rfl⟩:=ry;exact eq_str (zaQ I q dec_str)
  | _=>exact absurd (show false=true from hs) aX
 | byt i=>
  obtain⟨t,rfl⟩:=rx
  cases y with
  | byt j=>obtain⟨t',rfl⟩:=ry;exact PySem.W.eq_bytes (zaQ I q dec_byt)
  | _=>exact absurd (show false=true from hs) aX
 | _=>cases y <;> exact absurd (show false=true from hs) aX
theorem op_ne:OpR X (bF .NotEq) rNe:=by
 intro pins s σ H x y v u Q I rx ry h
 obtain⟨hs,q⟩:=h
 cases x with
 | non=>
  cases rx
  cases y with
  | non=>cases ry;exact jH (zaQ I q (by simp))
  | bl j=>cases ry;exact jI (zaQ I q (by simp))
  | int j=>obtain⟨t',rfl⟩:=ry;exact jV (zaQ I q (by simp))
  | str j=>obtain⟨t',rfl⟩:=ry;exact jW (zaQ I q (by simp))
  | _=>exact absurd (show false=true from hs) aX
 | bl i=>
  cases rx
  cases y with
  | non=>cases ry;exact jJ (zaQ I q (by simp))
  | bl j=>cases ry;exact ne_bool (zaQ I q (congrArg not dec_bl))
  | str j=>obtain⟨t',rfl⟩:=ry;exact jK (zaQ I q (by simp))
  | _=>exact absurd (show false=true from hs) aX
 | int i=>
  obtain⟨t,rfl⟩:=rx
  cases y with
  | non=>cases ry;exact jX (zaQ I q (by simp))
  | int j=>obtain⟨t',rfl⟩:=ry;exact ne_int (zaQ I q (congrArg not dec_int))
  | str j=>obtain⟨t',rfl⟩:=ry;exact jY (zaQ I q (by simp))
  | _=>exact absurd (show false=true from hs) aX
 | str i=>
  obtain⟨t,rfl⟩:=rx
  cases y with
  | non=>cases ry;exact jZ (zaQ I q (by simp))
  | bl j=>cases ry;exact jL (zaQ I q (by simp))
  | int j=>obtain⟨t',rfl⟩:=ry;exact j0 (zaQ I q (by simp))
  | str j=>obtain⟨t',rfl⟩:=ry;exact ne_str (zaQ I q (congrArg not dec_str))
  | _=>exact absurd (show false=true from hs) aX
 | byt i=>
  obtain⟨t,rfl⟩:=rx
  cases y with
  | byt j=>obtain⟨t',rfl⟩:=ry;exact PySem.W.ne_bytes (zaQ I q (congrArg not dec_byt))
  | _=>exact absurd (show false=true from hs) aX
 | _=>cases y <;> exact absurd (show false=true from hs) aX
theorem op_lt:OpR X (bF .Lt) (rI0 fun i j=>.bl (decide (i<j))):=opB0 fun _ _ _ _ _ _ _ q=>lt_int q
theorem op_le:OpR X (bF .LtE) (rI0 fun i j=>.bl (decide (i<=j))):=opB0 fun _ _ _ _ _ _ _ q=>le_int q
theorem op_gt:OpR X (bF .Gt) (rI0 fun i j=>.bl (decide (j<i))):=opB0 fun _ _ _ _ _ _ _ q=>gt_int q
theorem op_ge:OpR X (bF .GtE) (rI0 fun i j=>.bl (decide (j<=i))):=opB0 fun _ _ _ _ _ _ _ q=>ge_int q
theorem op_in_str:OpR X (bF .In) (fun x y H Q=>∃ i j,x=.str i/\y=.str j/\Q (.bl (!(eA j i 0 j.length 1).isEmpty)) H):=by
 intro pins s σ H x y v u Q I rx ry h
 obtain⟨i,j,rfl,rfl,q⟩:=h
 obtain⟨t,rfl⟩:=rx
 obtain⟨t',rfl⟩:=ry
 exact in_str (zaQ I q rfl)
theorem op_isN:OpR X (bF .Is) (fun x y H Q=>y=.non/\Q (.bl (decide (x=.non))) H):=by
 intro pins s σ H x y v u Q I rx ry h
 obtain⟨rfl,q⟩:=h
 cases ry
 refine is_none_gen (zaQ I q ?_)
 cases x <;> first
  | (cases rx;rfl)
  | (obtain⟨t,rfl⟩:=rx;rfl)
theorem op_notN:OpR X (bF .IsNot) (fun x y H Q=>y=.non/\Q (.bl (!decide (x=.non))) H):=by
 intro pins s σ H x y v u Q I rx ry h
 obtain⟨rfl,q⟩:=h
 cases ry
 refine isnot_none_gen (zaQ I q ?_)
 cases x <;> first
  | (cases rx;rfl)
  | (obtain⟨t,rfl⟩:=rx;rfl)
theorem zgQ:OpR X (bF .NotIn) (fun x y H Q=>∃ i j,x=.str i/\y=.str j/\Q (.bl (!(!(eA j i 0 j.length 1).isEmpty))) H):=by
 intro pins s σ H x y v u Q I rx ry h
 obtain⟨i,j,rfl,rfl,q⟩:=h
 obtain⟨t,rfl⟩:=rx
 obtain⟨t',rfl⟩:=ry
 exact notIn_str (zaQ I q rfl)
theorem zaB(b:Expr){op:CmpOp}(h:op ≠ .In:=by decide)(h2:op ≠ .NotIn:=by decide):behindInMarks op b=false:=by
 have e1:(op == CmpOp.In)=false:=by cases op <;> first | rfl | exact absurd rfl h
 have e2:(op == CmpOp.NotIn)=false:=by cases op <;> first | rfl | exact absurd rfl h2
 cases b <;> simp[behindInMarks,e1,e2]
theorem pe_cmpR{op:CmpOp}{r:R2}(ho:OpR X (bF op) r)(ha:PE X a ta)(hb:PE X b tb)(hm:behindInMarks op b=false):PE X (.Compare a [op] [b] pos) (tOp r ta tb):=by
 intro pins s σ H Q I h
 exact wpAny_Compare1 (binT ha hb I h fun v u s2 x y H2 I2 rx ry q=>ho pins s2 σ H2 x y v u Q I2 rx ry q) hm
def tTest(t:TE):TT:=fun σ H Q=>t σ H fun x H'=>∃ k,x=.bl k/\Q k H'
theorem pt_cmpR{op:CmpOp}{r:R2}(ho:OpR X (bF op) r)(ha:PE X a ta)(hb:PE X b tb)(hm:behindInMarks op b=false):PT X (.Compare a [op] [b] pos) (tTest (tOp r ta tb)):=by
 intro pins s σ H Q I h
 refine wpAny_isTrue_Compare1 (thn (ha pins s σ H _ I h) fun v s1 ⟨x,H1,I1,r1,q1⟩=>thn (hb pins s1 σ H1 _ I1 q1) fun u s2 ⟨y,H2,I2,r2,q2⟩=>
  thn (ho pins s2 σ H2 x y v u _ I2 r1 r2 q2) fun c s3 ⟨z,H3,I3,r3,k,e,q3⟩=>?_) hm
 subst e
 cases r3
 exact wpAny_truthy_bool ⟨H3,I3,q3⟩
theorem zfT:(aZ:Nat)<2 ^ 63:=by rw[ck];decide
theorem zje:OpR X (binaryOp .Add) (fun x y H Q=>∃ i j,x=.str i/\y=.str j/\i.length+j.length<=aZ/\Q (.str (i ++ j)) H):=by
 intro pins s σ H x y v u Q I rx ry h
 obtain⟨i,j,rfl,rfl,hz,q⟩:=h
 obtain⟨t,rfl⟩:=rx
 obtain⟨t',rfl⟩:=ry
 exact add_str (fun t' tk=>⟨.str (i ++ j),H,I.tok _,⟨_,rfl⟩,q⟩) hz
theorem zfF{x:V}{us:List ae}(r:Vals [x] us):∃ u,us=[u]/\RelV x u:=by
 cases r with
 | cons r1 r2=>cases r2;exact⟨_,rfl,r1⟩
theorem vals2{x y:V}{us:List ae}(r:Vals [x,y] us):∃ u w',us=[u,w']/\RelV x u/\RelV y w':=by
 cases r with
 | cons r1 r2=>
  cases r2 with
  | cons r3 r4=>cases r4;exact⟨_,_,rfl,r1,r3⟩
theorem call_max2(hc:X.calm=true):zec X (.builtin "max") (fun xs H Q=>∃ i j,xs=[.int i,.int j]/\Q (.int (if j > i then j else i)) H):=by
 intro pins s σ H xs us Q I r h
 obtain⟨i,j,rfl,q⟩:=h
 obtain⟨u,w',rfl,⟨t,rfl⟩,⟨t',rfl⟩⟩:=vals2 r
 refine max_two_ints (I.ok.hd hc) fun h' tk k=>⟨_,H,I.kept k,?_,q⟩
 by_cases hj:j > i
 ·rw[if_pos hj,if_pos hj];exact⟨_,rfl⟩
 ·rw[if_neg hj,if_neg hj];exact⟨_,rfl⟩
theorem call_min2(hc:X.calm=true):zec X (.builtin "min") (fun xs H Q=>∃ i j,xs=[.int i,.int j]/\Q (.int (if j<i then j else i)) H):=by
 intro pins s σ H xs us Q I r h
 obtain⟨i,j,rfl,q⟩:=h
 obtain⟨u,w',rfl,⟨t,rfl⟩,⟨t',rfl⟩⟩:=vals2 r
 refine min_two_ints (I.ok.hd hc) fun h' tk k=>⟨_,H,I.kept k,?_,q⟩
 by_cases hj:j<i
 ·rw[if_pos hj,if_pos hj];exact⟨_,rfl⟩
 ·rw[if_neg hj,if_neg hj];exact⟨_,rfl⟩
theorem call_int1:zec X (.type "int") (fun xs H Q=>(∃ i,xs=[.int i]/\Q (.int i) H) \/ ∃ k,xs=[.bl k]/\Q (.int (if k then 1 else 0)) H):=by
 intro pins s σ H xs us Q I r h
 rcases h with ⟨i,rfl,q⟩ | ⟨k,rfl,q⟩
 ·obtain⟨u,rfl,t,rfl⟩:=zfF r
  exact call_int_int ⟨.int i,H,I,⟨_,rfl⟩,q⟩
 ·obtain⟨u,rfl,r1⟩:=zfF r
  cases r1
  exact call_int_bool ⟨.int (if k then 1 else 0),H,I.tok _,⟨_,rfl⟩,q⟩
end
end L2
namespace L2
open PySem PySem.Spec PyProof.Rows
structure ObjM(h:ba)(x dx C:af)(mA:Str->Option ae):Prop where
 obj:h.get? x=aa (cS C dx)
 ns:h.Ns1 dx mA
 ne:dx ≠ x
theorem lookIn_ns{h:ba}{dx:af}{mA:Str->Option ae}(n:h.Ns1 dx mA):∃ od,h.get? dx=aa od/\∀ name,fF name od=aa (mA name):=by
 obtain⟨o,es,ep,ho,hd,hk,_,hm⟩:=n
 refine⟨o,ho,fun name=>?_⟩
 have e:=hm name
 unfold nsFind findBy at e
 rw[<- Array.find?_toList] at e
 unfold fF
 rw[hd]
 dsimp only
 split
 ·rename_i y q
  rw[q] at e
  exact congrArg aa e
 ·rename_i q
  rw[q] at e
  have a:es.toList.any (·.refKey)=false:=by
   rw[List.any_eq_false]
   intro y hy
   obtain⟨z,t,hkey⟩:=hk y (cV.mp hy)
   simp[kS,hkey]
  have a':¬ es.toList.any (·.refKey)=true:=by rw[a];exact aX
  rw[if_neg a']
  exact congrArg aa e
theorem ObjM.look{h:ba}{x dx C:af}{mA:Str->Option ae}(I:ObjM h x dx C mA):∃ od,PySem.W.InstAt h x (cS C dx) C (aa od)/\∀ name,fF name od=aa (mA name):=
 let⟨od,ho,hl⟩:=lookIn_ns I.ns
 ⟨od,⟨I.obj,rfl,rfl,ho⟩,hl⟩
section
variable {prog:aR}{w:aU}{A:a9}{E:ae->ah->Prop}{s:ah}{K:ag}{x dx C f:af}{mA:Str->Option ae}{name:Str}{v:ae}
theorem get_map{expr:Bool}{Q:ae->ah->Prop}(X:K.In s.heap)(I:ObjM s.heap x dx C mA)(hg:dS K C name=true)(hh:eH K C=true)
  (ha:bB K (.ref C) name=aa ab) (hv:mA name=aa v) (hv':i4 v=true) (h:Q v { s with toks:=s.toks+1}) :
  aI (model prog w) A (getAttr (.ref x) name expr) Q E s:=by
 obtain⟨od,J,hl⟩:=I.look
 exact PySem.W.get_value X J (fC hg).1 (PySem.W.findObj_own hh ha rfl (by rw[hl,hv])) hv' h
theorem get_meth{pl:Sem Bool}{Q:ae × List ae->ah->Prop}(X:K.In s.heap)(I:ObjM s.heap x dx C mA)(hg:dS K C name=true)
  (hf:bB K (.ref C) name=aa (aa (.ref f))) (ht:d9 K (.ref f)=true) (hv:mA name=ab) (h:Q (.ref f,[.ref x]) s) :
  aI (model prog w) A (getMethod (.ref x) name pl) Q E s:=by
 obtain⟨od,J,hl⟩:=I.look
 exact PySem.W.method_fn X J (fC hg).1 (fC hg).2 hf (beq_iff_eq.mp ht) (by show(fF name od).map (·.isSome)=aa false;rw[hl,hv];rfl) h
theorem set_map{ns:List Str}{Q:Unit->ah->Prop}(X:K.In s.heap)(I:ObjM s.heap x dx C mA)
  (hs:bB K (.ref C) "__setattr__" = aa (aa (.builtin "object.__setattr__"))) (hp:fV K C=true) (ht:gE K C name=aa ab) (hh:eH K C=true)
  (hw:iu mA ns) (hsz:ns.length<=aZ)
  (h:∀ h',ObjM h' x dx C (fun y=>if y=name then aa v else mA y)->e9 dx s.heap h'->Q () { s with heap:=h',toks:=s.toks+2}) :
  aI (model prog w) A (setAttr (.ref x) name v) Q E s:=by
 obtain⟨od,J,hl⟩:=I.look
 refine PySem.W.set_plain X J hs (PySem.W.osa_open (s:={ s with toks:=s.toks+1}) (r:=ab) X J hp ht fun b=>?_)
 obtain⟨cd,hc,hd'⟩:=PySem.W.any_some hh
 have hx:s.heap.get? x=aa ⟨.ref C,aa dx,.plain,#[]⟩:=I.obj
 refine aj (aE (aj (aj (wpAny_loadPart hx (aj (kG (s:={ s with toks:=s.toks+1}) (PySem.W.looks_clsIn X hc) ?_))))))
 rw[hd']
 refine aE (a:=aa dx) (aj (aE (aj ?_)))
 refine wpAny_nsSet1 (s:={ s with toks:=s.toks+1}) I.ns fun h' hn2 hs2=>?_
 obtain⟨oD,esD,epD,hoD,hdD,hcD⟩:=hn2.count (kM name v hw)
 refine aj (wpAny_lookBehind hoD (by rw[hdD];exact pastItsLine_dict (aL hcD (by rw[aQ];lia))) ?_)
 exact aE (h _ ⟨(hs2.2 _ (cj I.ne)).trans I.obj,hn2,I.ne⟩ hs2)
theorem make_map{R:Result->ah->Prop}{vs:List ae}{kw:List (Str × ae)}(X:K.In s.heap)(hm:gF K C=true)
  (hi:bB K (.ref C) "__init__" = aa (aa (.ref f))) (hf:PySem.W.typeIn K (.ref f)=aa (.type "function"))
  (h:codeAny (model prog w) (A.under (.builtin "type.__call__" ⟨.ref C :: vs,kw⟩)) (.call (.ref f) ⟨.ref (s.heap.objs.size+1) :: vs,kw⟩) (PySem.W.InitBack (s.heap.objs.size+1) R)
   { s with heap:=(s.heap.push cw).push (cS C s.heap.objs.size)}) :
  codeAny (model prog w) A (.call (.ref C) ⟨vs,kw⟩) R s:=by
 obtain⟨hh,g,d,t,os⟩:=s
 exact PySem.W.make_core (PySem.W.makes_of X hm) (PySem.W.looks_findIn X hi) (fun self=>PySem.W.bind_fn X self hf) (.inl rfl) h
end
def zfD(f:Str)(v:V):List (Str × V)->List (Str × V)
 | []=>[(f,v)]
 | (g,x) :: r=>if g=f then (g,v) :: r else (g,x) :: zfD f v r
theorem zfr(f g:Str)(v:V):∀ fs:List (Str × V),(zfD f v fs).lookup g=if g=f then aa v else fs.lookup g
 | []=>by
  show b5 g [(f,v)]=_
  by_cases h:g=f
  ·have hb:(g == f)=true:=beq_iff_eq.mpr h
   simp only[b5,hb,if_pos h]
  ·have hb:(g == f)=false:=beq_eq_false_iff_ne.mpr h
   simp only[b5,hb,if_neg h]
 | (k,x) :: r=>by
  have ih:=zfr f g v r
  rw[show zfD f v ((k,x) :: r)=(if k=f then (k,v) :: r else (k,x) :: zfD f v r) from rfl]
  by_cases hk:k=f
  ·rw[if_pos hk]
   by_cases h:g=k
   ·have hb:(g == k)=true:=beq_iff_eq.mpr h
    simp only[b5,hb,if_pos (h.trans hk)]
   ·have hb:(g == k)=false:=beq_eq_false_iff_ne.mpr h
    simp only[b5,hb,if_neg (fun e:g=f=>h (e.trans hk.symm))]
  ·rw[if_neg hk]
   by_cases h:g=k
   ·have hb:(g == k)=true:=beq_iff_eq.mpr h
    simp only[b5,hb,if_neg (fun e:g=f=>hk (h.symm.trans e))]
   ·have hb:(g == k)=false:=beq_eq_false_iff_ne.mpr h
    simp only[b5,hb]
    exact ih
theorem zfB(f:Str)(v:V):∀ fs:List (Str × V),f ∈ (zfD f v fs).map (·.1)/\∀ g,g ∈ fs.map (·.1)->g ∈ (zfD f v fs).map (·.1)
 | []=>⟨by simp[zfD],fun g h=>by simp at h⟩
 | (k,x) :: r=>by
  obtain⟨i1,i2⟩:=zfB f v r
  rw[show zfD f v ((k,x) :: r)=(if k=f then (k,v) :: r else (k,x) :: zfD f v r) from rfl]
  by_cases hk:k=f
  ·rw[if_pos hk]
   subst hk
   exact⟨by simp,fun g h=>by simpa using h⟩
  ·rw[if_neg hk]
   refine⟨?_,fun g h=>?_⟩
   ·rw[ay]
    exact al _ i1
   ·rw[ay] at h ⊢
    rcases aY.mp h with e | e
    ·exact aY.mpr (.inl e)
    ·exact al _ (i2 g e)
theorem zfl(f:Str)(v:V):∀ fs:List (Str × V),(zfD f v fs).length<=fs.length+1
 | []=>by simp[zfD]
 | (k,x) :: r=>by
  have ih:=zfl f v r
  rw[show zfD f v ((k,x) :: r)=(if k=f then (k,v) :: r else (k,x) :: zfD f v r) from rfl]
  by_cases hk:k=f
  ·rw[if_pos hk,aQ,aQ];lia
  ·rw[if_neg hk,aQ,aQ];lia
theorem RelO.some_of{v:V}{o:Option ae}(r:RelO (aa v) o):∃ u,o=aa u/\RelV v u:=by
 cases o with
 | none=>exact(show False from r).elim
 | some u=>exact⟨u,rfl,r⟩
theorem RelO.none_of{o:Option ae}(r:RelO ab o):o=ab:=by
 cases o with
 | none=>rfl
 | some u=>exact(show False from r).elim
theorem handed_of{v:V}{u:ae}(r:RelV v u):i4 u=true:=by
 cases v with
 | non=>cases (show u=g6 from r);rfl
 | bl b=>cases (show u=g7 b from r);rfl
 | int i=>obtain⟨t,e⟩:=(show ∃ t,u=fH i t from r);cases e;rfl
 | str x=>obtain⟨t,e⟩:=(show ∃ t,u=fI x t from r);cases e;rfl
 | byt b=>obtain⟨t,e⟩:=(show ∃ t,u=ke b t from r);cases e;rfl
 | flt b=>obtain⟨t,e⟩:=(show ∃ t,u=kf b t from r);cases e;rfl
 | ref a=>cases (show u=bE a from r);rfl
 | ty n=>cases (show u=cR n from r);rfl
section
variable {P:aR}{w:aU}{H H':Hp}{h h':ba}{a C dx:af}{fs fs':List (Str × V)}
theorem zhX(hok:HOk P w H h)(e:H a=aa (.ins C dx fs)):∃ mA,ObjM h a dx C mA/\(∀ f,RelO (fs.lookup f) (mA f))/\iu mA (fs.map (·.1))/\fs.length<=1000/\H dx=aa (.own a):=by
 obtain⟨d,z,ne,ob,mA,n,r,q⟩:=(show ObjOk P w H h a (.ins C dx fs) from hok a _ e)
 exact⟨mA,⟨ob,n,ne⟩,r,q,z,d⟩
end
structure Cls(K:ag)(C:af):Prop where
 pg:dS K C kH=true
 hd:eH K C=true
 po:fV K C=true
 sa:bB K (.ref C) "__setattr__" = aa (aa (.builtin "object.__setattr__"))
theorem Cls.get{K:ag}{C:af}(c:Cls K C)(f:Str):dS K C f=true:=c.pg
def NoAttr(K:ag)(C:af)(f:Str):Prop:=bB K (.ref C) f=aa ab
theorem NoAttr.taker{K:ag}{C:af}{f:Str}(n:NoAttr K C f):gE K C f=aa ab:=by
 unfold gE
 rw[show bB K (.ref C) f=aa ab from n]
 rfl
structure Con(K:ag)(C:af)(f:Str)(v:V)(u:ae):Prop where
 at_:bB K (.ref C) f=aa (aa u)
 rel:RelV v u
 get:iI K u "__get__" = aa ab
 cp:PySem.W.copiedNames.contains f=false
structure Meth(K:ag)(C:af)(m:Str)(f:af):Prop where
 at_:bB K (.ref C) m=aa (aa (.ref f))
 fn:d9 K (.ref f)=true
 kp:aB K (.ref f)=true
section
variable {X:Cx}{pins:List (af × Obj)}{σ:St}{H:Hp}{s:ah}{a C dx:af}{fs:List (Str × V)}{f:Str}{v:V}{A:a9}{E:ae->ah->Prop}
theorem zjh{b:Bool}{Q:ae->ah->Prop}(I:Inv X pins σ H s)(e:H a=aa (.ins C dx fs))(c:Cls X.K C)(n:NoAttr X.K C f)(l:fs.lookup f=aa v)
  (h:∀ u s',Inv X pins σ H s'->RelV v u->Q u s'):aI (model X.prog X.w) A (getAttr (.ref a) f b) Q E s:=by
 obtain⟨mA,O,r,_,_,_⟩:=zhX I.hok e
 obtain⟨u,hu,ru⟩:=RelO.some_of (v:=v) (o:=mA f) (by rw[<- l];exact r f)
 exact get_map I.kIn O (c.get f) c.hd n hu (handed_of ru) (h u _ (I.tok _) ru)
theorem zfO{m:Str}{g:af}{pl:Sem Bool}{Q:ae × List ae->ah->Prop}(I:Inv X pins σ H s)(e:H a=aa (.ins C dx fs))(c:Cls X.K C)(k:Meth X.K C m g)(l:fs.lookup m=ab)
  (h:Q (.ref g,[.ref a]) s):aI (model X.prog X.w) A (getMethod (.ref a) m pl) Q E s:=by
 obtain⟨mA,O,r,_,_,_⟩:=zhX I.hok e
 have hn:mA m=ab:=RelO.none_of (by rw[<- l];exact r m)
 exact get_meth I.kIn O (c.get m) k.at_ k.fn hn h
theorem zjw{y:V}{u:ae}{Q:Unit->ah->Prop}(I:Inv X pins σ H s)(e:H a=aa (.ins C dx fs))(c:Cls X.K C)(n:NoAttr X.K C f)(hl:fs.length<1000)(ry:RelV y u)
  (h:∀ s',Inv X pins σ (upd H a (.ins C dx (zfD f y fs))) s'->Q () s'):aI (model X.prog X.w) A (setAttr (.ref a) f u) Q E s:=by
 obtain⟨mA,O,r,wi,_,ho⟩:=zhX I.hok e
 have hz:(fs.map (·.1)).length<=aZ:=by rw[aq,ck];lia
 refine set_map I.kIn O c.sa c.po n.taker c.hd wi hz fun h' O' sb=>h _ ?_
 have hd:∃ o,h'.get? dx=aa o:=let⟨o,_,_,e',_⟩:=O'.ns;⟨o,e'⟩
 refine I.write (x:=a) (e:=dx) (by rw[e];exact g9) (.inr ho) (fun b q hb z=>(sb.2 b hb).trans z) hd ?_
 refine⟨by rw[zan O.ne];exact ho,?_,O.ne,O'.obj,_,O'.ns,fun g=>?_,fun g hg=>?_⟩
 ·have:=zfl f y fs;lia
 ·show RelO ((zfD f y fs).lookup g) (if g=f then aa u else mA g)
  rw[zfr]
  by_cases q:g=f
  ·rw[if_pos q,if_pos q];exact ry
  ·rw[if_neg q,if_neg q];exact r g
 ·by_cases q:g=f
  ·rw[q];exact(zfB f y fs).1
  ·refine(zfB f y fs).2 g (wi g fun z=>hg ?_)
   show(if g=f then aa u else mA g)=ab
   rw[if_neg q];exact z
theorem Inv.made(I:Inv X pins σ H s):Inv X pins σ (upd (upd H s.heap.objs.size (.own (s.heap.objs.size+1))) (s.heap.objs.size+1) (.ins C s.heap.objs.size []))
  { s with heap:=(s.heap.push cw).push (cS C s.heap.objs.size)}:=by
 have e1:(s.heap.push cw).get? s.heap.objs.size=aa cw:=aM s.heap rfl
 have e2:((s.heap.push cw).push (cS C s.heap.objs.size)).get? (s.heap.objs.size+1)=aa (cS C s.heap.objs.size):=by
  have:=aM (s.heap.push cw) (o:=cS C s.heap.objs.size) rfl
  rwa [dL] at this
 have e3:(s.heap.push cw).Ns s.heap.objs.size (fun _=>ab):=⟨cw,#[],_,e1,rfl,(fun e he=>absurd he (by simp)),fun _=>rfl⟩
 have I1:=I.laid (a:=s.heap.objs.size) (o:=.own (s.heap.objs.size+1)) (h':=s.heap.push cw) (t':=s.toks) (fun b u q=>am _ q) (ai _) ⟨_,e1⟩
 refine I1.laid (a:=s.heap.objs.size+1) (o:=.ins C s.heap.objs.size []) (t':=s.toks) (fun b u q=>am _ q) (dM (dL _ _)) ?_
 have ne:s.heap.objs.size ≠ s.heap.objs.size+1:=bp (gj _)
 refine⟨by rw[zan ne,zaj],aS _,ne,e2,fun _=>ab,(Heap.Ns1.of_empty e3).at fun o q=>am _ q,fun _=>g9,fun y hy=>absurd rfl hy⟩
theorem attr_of{prog:aR}{w:aU}{env:Env}{e:Expr}{f:Str}{pos:Pos}{s:ah}{Q:ae->ah->Prop}(hb:bU e f env (eval e env)=eval e env)
  (h:aI (model prog w) A (eval e env) (fun o s₁=>aI (model prog w) A (getAttr o f true) Q E s₁) E s):aI (model prog w) A (eval (.Attribute e f pos) env) Q E s:=
 Attribute_any_ h (by rw[arm_eval_Attribute,hb])
end
def tFld(K:ag)(ta:TE)(f:Str):TE:=fun σ H Q=>ta σ H fun x H1=>∃ a C dx fs v,x=.ref a/\H1 a=aa (.ins C dx fs)/\Cls K C/\NoAttr K C f/\fs.lookup f=aa v/\Q v H1
def sFld(K:ag)(ta tv:TE)(f:Str):TS:=fun D σ H=>tv σ H fun y H1=>ta σ H1 fun x H2=>∃ a C dx fs,x=.ref a/\H2 a=aa (.ins C dx fs)/\Cls K C/\NoAttr K C f/\fs.length<1000 /\
 D.nx σ (upd H2 a (.ins C dx (zfD f y fs)))
section
variable {X:Cx}{o e value:Expr}{f:Str}{pos pos' tpos:Pos}{ta tv:TE}
theorem pe_fld(he:PE X e ta)(hb:bU e f X.env (eval e X.env)=eval e X.env):PE X (.Attribute e f pos) (tFld X.K ta f):=by
 intro pins s σ H Q I h
 refine attr_of hb (thn (he pins s σ H _ I h) fun u s1 ⟨x,H1,I1,rx,a,C,dx,fs,v,ex,ea,c,n,l,q⟩=>?_)
 subst ex
 obtain rfl:u=bE a:=rx
 exact zjh I1 ea c n l fun u' s2 I2 ru=>⟨v,H1,I2,ru,q⟩
theorem ps_fld(ha:PE X o ta)(hv:PE X value tv)(hs:swapsWith value (aa (.Attribute o f pos')) pos.line X.env=pure false):PS X (.Assign [.Attribute o f pos'] value pos) (sFld X.K ta tv f):=by
 intro pins s σ H D I h
 refine plainObj_wpAny_Assign_Attribute (thn (hv pins s σ H _ I h) fun u s1 ⟨y,H1,I1,ry,q⟩=>thn (ha pins s1 σ H1 _ I1 q) fun ov s2 ⟨x,H2,I2,rx,a,C,dx,fs,ex,ea,c,n,l,q2⟩=>?_) hs
 subst ex
 obtain rfl:ov=bE a:=rx
 exact zjw I2 ea c n l ry fun s3 I3=>⟨σ,_,I3,q2⟩
end
section
variable {X:Cx}{pins:List (af × Obj)}{σ:St}{H:Hp}{s:ah}{A:a9}{E:ae->ah->Prop}{Q:ae->ah->Prop}{c:ae}{b:Bool}
inductive TyOf(K:ag)(H:Hp):V->ae->Prop where
 | non:TyOf K H .non (.type "NoneType")
 | bl (x:Bool):TyOf K H (.bl x) (.type "bool")
 | int (i:Int):TyOf K H (.int i) (.type "int")
 | str (x:Str):TyOf K H (.str x) (.type "str")
 | flt (x:UInt64):TyOf K H (.flt x) (.type "float")
 | lst {a:af} {xs:List V} (e:H a=aa (.lst xs)):TyOf K H (.ref a) (.type "list")
 | frz {a:af} {o:Obj} {xs:List V} (e:H a=aa (.frz o (.lst xs))):TyOf K H (.ref a) (.type "list")
 | tup {a:af} {xs:List V} (e:H a=aa (.tup xs)):TyOf K H (.ref a) (.type "tuple")
 | dK {a:af} {kvs:List (Key × V)} (e:Rd H a (.dK kvs)):TyOf K H (.ref a) (.type "dict")
 | dT {a:af} {kvs:List (List Key × V)} (e:H a=aa (.dT kvs)):TyOf K H (.ref a) (.type "dict")
 | ins {a C dx:af} {fs:List (Str × V)} (e:H a=aa (.ins C dx fs)) (cl:Cls K C) (ha:bB K (.ref C) "__class__" = aa (aa (.builtin "object.__class__")))
   (hn:iI K (.builtin "object.__class__") "__get__" = aa (aa (.builtin "getset_descriptor.__get__"))) (htk:PySem.W.takesIn K (.builtin "object.__class__")=aa true)
   (hm:PySem.W.mroIn K C (.type "object")=aa true):TyOf K H (.ref a) (.ref C)
end
end L2
namespace L2
open PySem PySem.Spec PyProof.Rows
structure Room(k:Nat)(A:a9):Prop where
 hd:A.handled=ab
 dp:A.depth+3 * k+5<recursionLimit
 un:A.units+16 * k+200<cLine
theorem Room.mono{j k:Nat}{A:a9}(r:Room k A)(h:j<=k):Room j A:=⟨r.hd,by have:=r.dp;lia,by have:=r.un;lia⟩
theorem Room.deeper{k:Nat}{A:a9}(r:Room (k+1) A)(env:Env):Room k (A.deeper env):=
 ⟨r.hd,by have:=r.dp;show A.depth+1+3 * k+5<_;lia,by have:=r.un;show A.units+3+16 * k+200<_;lia⟩
theorem zjy{A:a9}{C:af}{us:List ae}{kw:List (Str × ae)}:(A.under (.builtin "type.__call__" ⟨.ref C :: us,kw⟩)).depth=A.depth+1:=by
 first | rfl | simp[iy,Code.weight,Code.isCreation,Code.isGuard,Code.isCaller,kh,iz,guardIds]
theorem zju{A:a9}{C:af}{us:List ae}{kw:List (Str × ae)}:(A.under (.builtin "type.__call__" ⟨.ref C :: us,kw⟩)).units=A.units+1:=by
 first | rfl | simp[iy,Code.cUnits,kh,iz]
theorem Room.make{k:Nat}{A:a9}(r:Room (k+1) A)(C:af)(us:List ae)(kw:List (Str × ae)):Room k (A.under (.builtin "type.__call__" ⟨.ref C :: us,kw⟩)):=
 ⟨r.hd,by have:=r.dp;rw[zjy];lia,by have:=r.un;rw[zju];lia⟩
theorem Room.depth{k:Nat}{A:a9}(r:Room k A):A.depth<recursionLimit:=by have:=r.dp;lia
theorem Room.units{k:Nat}{A:a9}(r:Room k A):A.units+64<cLine:=by have:=r.un;lia
def tNil:TA:=fun _ H Q=>Q [] H
def tCons(ta:TE)(tr:TA):TA:=fun σ H Q=>ta σ H fun x H1=>tr σ H1 fun xs H2=>Q (x :: xs) H2
section
variable {X:Cx}{e:Expr}{es:List Expr}{te:TE}{t:TA}{pos:Pos}
theorem pa_nil:PA X [] tNil:=fun _ _ _ _ H Q I h=>fW ⟨[],H,I,.nil,h⟩
theorem zhZ(ha:PE X e te)(hr:PA X es t)(hs:be (e :: es) X.env=(false,eval e X.env) :: be es X.env:=by rfl):PA X (e :: es) (tCons te t):=by
 intro pos pins s σ H Q I h
 rw[hs]
 show aI _ _ (spliced ((false,eval e X.env) :: backTo pos (be es X.env))) _ _ s
 refine fJ (thn (ha pins s σ H _ I h) fun u s1 ⟨x,H1,I1,r1,q1⟩=>?_)
 exact thn (hr pos pins s1 σ H1 _ I1 q1) fun us s2 ⟨xs,H2,I2,r2,q2⟩=>⟨x :: xs,H2,I2,.cons r1 r2,q2⟩
def tTup(t:TA):TE:=fun σ H Q=>t σ H fun xs H1=>xs.length<=aZ/\∀ p,H1 p=ab->Q (.ref p) (upd H1 p (.tup xs))
def tLst(t:TA):TE:=fun σ H Q=>t σ H fun xs H1=>xs.length<=aZ/\∀ p,H1 p=ab->Q (.ref p) (upd H1 p (.lst xs))
theorem pe_tup{x1}(h:PA X es t):PE X (.Tuple es x1 pos) (tTup t):=by
 intro pins s σ H Q I hq
 refine wpAny_Tuple_spliced (thn (h pos pins s σ H _ I hq) fun us s1 ⟨xs,H1,I1,r,z,q⟩=>⟨by rw[<- r.length];exact z,?_⟩)
 have hf:H1 s1.heap.objs.size=ab:=I1.hok.fresh (ai _)
 refine⟨.ref s1.heap.objs.size,upd H1 s1.heap.objs.size (.tup xs),I1.laid (t':=s1.toks) (fun b u e=>am _ e) (ai _) ?_,rfl,q _ hf⟩
 exact⟨z,us,r,⟨_,aM _ rfl,rfl,_,rfl⟩⟩
theorem pe_lst(h:PA X es t):PE X (.List es pos) (tLst t):=by
 intro pins s σ H Q I hq
 refine wpAny_List_spliced (thn (h pos pins s σ H _ I hq) fun us s1 ⟨xs,H1,I1,r,z,q⟩=>⟨by rw[<- r.length];exact z,?_⟩)
 have hf:H1 s1.heap.objs.size=ab:=I1.hok.fresh (ai _)
 refine⟨.ref s1.heap.objs.size,upd H1 s1.heap.objs.size (.lst xs),I1.laid (t':=s1.toks) (fun b u e=>am _ e) (ai _) ?_,rfl,q _ hf⟩
 exact⟨z,us,0,r,aM _ rfl⟩
end
abbrev Sp:=List V->Hp->VK->XK->Prop
abbrev CXT:=List Env->Hp->ah->XK->ae->ah->Prop
structure Env0(P:aR)(w:aU)(K:ag)(mg:Str->Option ae)(base:ba)(A:a9)(outer:List Env)(s:ah)(H:Hp):Prop where
 frames:A.frames=aa outer
 mod:Mod K mg base
 bs:∀ b o,base.get? b=aa o->s.heap.get? b=aa o/\H b=ab
 bsz:base.objs.size<=s.heap.objs.size
 funs:s.heap.FunFrames base outer
 frf:∀ b ∈ frs outer,H b=ab
 hok:HOk P w H s.heap
 bare:AllBare s.gens
def CE(outer:List Env)(P:aR)(w:aU)(H:Hp)(s:ah)(Q:VK)(u:ae)(s':ah):Prop:=
 ∃ v H',s'.os=s.os/\AllBare s'.gens/\Un (frs outer) [] H H' s.heap s'.heap/\HOk P w H' s'.heap/\RelV v u/\Q v H'
def CR(CX:CXT)(outer:List Env)(P:aR)(w:aU)(H:Hp)(s:ah)(Q:VK)(E:XK)(r:Result)(s':ah):Prop:=
 match r with
 | .ok (.ret u)=>CE outer P w H s Q u s'
 | .ok _=>False
 | .error e=>CX outer H s E e s'
structure FnOk(P:aR)(w:aU)(K:ag)(mg:Str->Option ae)(base:ba)(CX:CXT)(k:Nat)(f:af)(fd:bD)(ps:List Str)(sp:Sp):Prop where
 len:∀ vs H Q E,sp vs H Q E->vs.length=ps.length
 run:∀ (A:a9) (outer:List Env) (s:ah) (H:Hp) (args:Args) (us:List ae) (vs:List V) (Q:VK) (E:XK),Room k A->Env0 P w K mg base A outer s H->BindsTo s fd args (ps.zip us)->Vals vs us->sp vs H Q E ->
  codeAny (model P w) A (.call (.ref f) args) (CR CX outer P w H s Q E) s
theorem FnOk.imp{P:aR}{w:aU}{K:ag}{mg:Str->Option ae}{base:ba}{CX:CXT}{k:Nat}{f:af}{fd:bD}{ps:List Str}{sp sp':Sp}(F:FnOk P w K mg base CX k f fd ps sp)
  (h:∀ vs H Q E,sp' vs H Q E->sp vs H Q E):FnOk P w K mg base CX k f fd ps sp':=
 ⟨fun vs H Q E q=>F.len vs H Q E (h _ _ _ _ q),fun A outer s H args us vs Q E hr he hb hv hs=>F.run A outer s H args us vs Q E hr he hb hv (h _ _ _ _ hs)⟩
theorem Env0.make{P:aR}{w:aU}{K:ag}{mg:Str->Option ae}{base:ba}{A:a9}{outer:List Env}{s:ah}{H:Hp}(e:Env0 P w K mg base A outer s H)(C:af)(us:List ae)(kw:List (Str × ae)) :
  Env0 P w K mg base (A.under (.builtin "type.__call__" ⟨.ref C :: us,kw⟩)) outer s H:=⟨by first | exact e.frames | (simpa [iy,Code.envs,iz,pushEnvs] using e.frames),e.mod,e.bs,e.bsz,e.funs,e.frf,e.hok,e.bare⟩
section
variable {X:Cx}{pins:List (af × Obj)}{σ:St}{H:Hp}{s s':ah}
theorem Inv.env0(I:Inv X pins σ H s):Env0 X.prog X.w X.K X.mg X.base X.A X.stack s H:=
 ⟨I.ok.frames,I.ok.mod,I.bs,aL I.ok.bsz I.sz,I.stack,I.stkFree,I.hok,I.bare⟩
theorem Inv.after{Q:VK}{u:ae}(I:Inv X pins σ H s)(h:CE X.stack X.prog X.w H s Q u s'):EP X pins σ Q u s':=by
 obtain⟨v,H',os,bare,un,hok,r,q⟩:=h
 obtain⟨hh,g,d,t,os'⟩:=s'
 obtain rfl:os'=s.os:=os
 exact⟨v,H',I.call (h':=hh) (g':=g) (d':=d) (t':=t) (ch:=[]) un hok bare (fun b z=>absurd z (by simp)),r,q⟩
end
def tCall(sp:Sp)(dvs:List V)(E:XK)(t:TA):TE:=fun σ H Q=>t σ H fun vs H1=>sp (vs ++ dvs) H1 Q E
def tMeth(C:af)(m:Str)(sp:Sp)(dvs:List V)(E:XK)(ta:TE)(t:TA):TE:=fun σ H Q=>ta σ H fun x H1=>∃ a dx fs,x=.ref a/\H1 a=aa (.ins C dx fs)/\fs.lookup m=ab /\
 t σ H1 fun vs H2=>sp (x :: (vs ++ dvs)) H2 Q E
def tMake(C:af)(sp:Sp)(dvs:List V)(E:XK)(t:TA):TE:=fun σ H Q=>t σ H fun vs H1=>∀ x dx,H1 x=ab->H1 dx=ab->dx ≠ x ->
 sp (.ref x :: (vs ++ dvs)) (upd (upd H1 dx (.own x)) x (.ins C dx [])) (fun v H2=>v=.non/\Q (.ref x) H2) E
def Binds(K:ag)(fd:bD)(ps:List Str)(ds:List ae):Prop:=
 ∀ (s:ah) (us:List ae),K.In s.heap->(us ++ ds).length=ps.length->BindsTo s fd ⟨us,[]⟩ (ps.zip (us ++ ds))
theorem Binds.all{K:ag}{fd:bD}{ps:List Str}(h:∀ us:List ae,us.length=ps.length->bindArgs fd ⟨us,[]⟩=pure (ps.zip us)):Binds K fd ps []:=fun s us _ hl=>by
 rw[bV] at hl ⊢
 exact .of_eq (h us hl)
def zcU(CX:CXT)(X:Cx)(E:XK):Prop:=∀ (pins:List (af × Obj)) (σ:St) (H:Hp) (s:ah) (e:ae) (s':ah),Inv X pins σ H s->CX X.stack H s E e s'->X.xe e s'
section
variable {X:Cx}{CX:CXT}{k:Nat}{f C:af}{fd:bD}{ps:List Str}{sp:Sp}{dvs:List V}{ds:List ae}{E:XK}{x m:Str}{p pos apos:Pos}{e o:Expr}{es:List Expr}{ta:TE}{t:TA}
theorem run_fn{pins:List (af × Obj)}{σ:St}{H:Hp}{s:ah}{Q:VK}{us:List ae}{vs:List V}(F:FnOk X.prog X.w X.K X.mg X.base CX k f fd ps sp)(hr:Room k X.A)(hb:Binds X.K fd ps ds)(hd:Vals dvs ds)(hx:zcU CX X E)
  (I:Inv X pins σ H s) (r:Vals vs us) (h:sp (vs ++ dvs) H Q E):aI (model X.prog X.w) X.A (call (.ref f) us) (EP X pins σ Q) X.xe s:=by
 have r2:Vals (vs ++ dvs) (us ++ ds):=r.append hd
 have hl:(us ++ ds).length=ps.length:=by rw[<- r2.length];exact F.len _ _ _ _ h
 refine wpAny_call (codeAny_mono (F.run X.A X.stack s H ⟨us,[]⟩ (us ++ ds) (vs ++ dvs) Q E hr I.env0 (hb s us I.kIn hl) r2 h) fun r s' hq=>?_)
 cases r with
 | error e=>exact hx pins σ H s e s' I hq
 | ok fl=>
  cases fl with
  | ret u=>exact I.after hq
  | next=>exact bY hq
  | brk=>exact bY hq
  | cont=>exact bY hq
theorem zhT(F:FnOk X.prog X.w X.K X.mg X.base CX k f fd ps sp)(hr:Room k X.A)(hg:Gl X x)(hm:X.mg x=aa (.ref f))(hk:aB X.K (.ref f)=true)(hb:Binds X.K fd ps ds)(hd:Vals dvs ds)(hx:zcU CX X E)
  (ha:PA X (e :: es) t) (hdb:(x == ("__debug__" : Str))=false:=by decide) (he:be (e :: es) X.env=(false,eval e X.env) :: be es X.env:=by rfl) (hpl:(backTo pos (be es X.env)).any (·.1)=false:=by rfl) :
  PE X (.Call (.Name x p) (e :: es) [] pos) (tCall sp dvs E t):=by
 intro pins s σ H Q I h
 refine cf (zhV I hg hm ?_ hdb)
 refine fK (h₀:=X.base) I.ok.mod.kin hk (thn (ha pos pins s σ H _ I h) fun us s1 ⟨vs,H1,I1,r,q⟩=>⟨I1.kIn,?_⟩) he hpl
 exact run_fn F hr hb hd hx I1 r q
theorem pe_meth{pl:Sem Bool}(he:PE X o ta)(c:Cls X.K C)(hm:Meth X.K C m f)(F:FnOk X.prog X.w X.K X.mg X.base CX k f fd ps sp)(hr:Room k X.A)(hb:Binds X.K fd ps ds)(hd:Vals dvs ds)(hx:zcU CX X E)(ha:PA X (e :: es) t)
  (hst:be (e :: es) X.env=(false,eval e X.env) :: be es X.env:=by rfl) (hpl:(backTo pos (be es X.env)).any (·.1)=false:=by rfl)
  (ht:eval (.Call (.Attribute o m apos) (e :: es) [] pos) X.env=(do
   let ov <- eval o X.env
   standAt apos.atName
   let (f,first) <- holding [ov] (getMethod ov m pl)
   callWith pos f first (backTo pos (be (e :: es) X.env)) (backToKw pos (keywordEach [] X.env))):=by rfl) :
  PE X (.Call (.Attribute o m apos) (e :: es) [] pos) (tMeth C m sp dvs E ta t):=by
 intro pins s σ H Q I h
 refine gS (pl:=pl) (thn (he pins s σ H _ I h) fun u s1 ⟨x,H1,I1,rx,a,dx,fs,ex,ea,l,q⟩=>?_) ht
 subst ex
 obtain rfl:u=bE a:=rx
 refine zfO I1 ea c hm l ?_
 refine fK (first:=[.ref a]) (h₀:=X.base) I.ok.mod.kin hm.kp (thn (ha pos pins s1 σ H1 _ I1 q) fun us s2 ⟨vs,H2,I2,r,q2⟩=>⟨I2.kIn,?_⟩) hst hpl
 exact run_fn (us:=.ref a :: us) (vs:=.ref a :: vs) F hr hb hd hx I2 (.cons rfl r) q2
theorem pe_meth0{pl:Sem Bool}(he:PE X o ta)(c:Cls X.K C)(hm:Meth X.K C m f)(F:FnOk X.prog X.w X.K X.mg X.base CX k f fd ps sp)(hr:Room k X.A)(hb:Binds X.K fd ps ds)(hd:Vals dvs ds)(hx:zcU CX X E)
  (ht:eval (.Call (.Attribute o m apos) [] [] pos) X.env=(do
   let ov <- eval o X.env
   standAt apos.atName
   let (f,first) <- holding [ov] (getMethod ov m pl)
   callWith pos f first (backTo pos (be [] X.env)) (backToKw pos (keywordEach [] X.env))):=by rfl) :
  PE X (.Call (.Attribute o m apos) [] [] pos) (tMeth C m sp dvs E ta tNil):=by
 intro pins s σ H Q I h
 refine gS (pl:=pl) (thn (he pins s σ H _ I h) fun u s1 ⟨x,H1,I1,rx,a,dx,fs,ex,ea,l,q⟩=>?_) ht
 subst ex
 obtain rfl:u=bE a:=rx
 refine zfO I1 ea c hm l ?_
 exact PySem.W.callWith_K0 (first:=[.ref a]) I1.kIn hm.kp (run_fn (us:=[.ref a]) (vs:=[.ref a]) F hr hb hd hx I1 (.cons rfl .nil) q)
structure Mk(K:ag)(C f:af):Prop where
 makes:gF K C=true
 init:bB K (.ref C) "__init__" = aa (aa (.ref f))
 fn:d9 K (.ref f)=true
 kp:aB K (.ref C)=true
theorem run_make{pins:List (af × Obj)}{σ:St}{H:Hp}{s:ah}{Q:VK}{us:List ae}{vs:List V}(M:Mk X.K C f)(F:FnOk X.prog X.w X.K X.mg X.base CX k f fd ps sp)(hr:Room (k+1) X.A)(hb:Binds X.K fd ps ds)(hd:Vals dvs ds)
  (hx:zcU CX X E) (I:Inv X pins σ H s) (r:Vals vs us)
  (h:∀ x dx,H x=ab->H dx=ab->dx ≠ x->sp (.ref x :: (vs ++ dvs)) (upd (upd H dx (.own x)) x (.ins C dx [])) (fun v H2=>v=.non/\Q (.ref x) H2) E) :
  aI (model X.prog X.w) X.A (call (.ref C) us) (EP X pins σ Q) X.xe s:=by
 have hq:=h (s.heap.objs.size+1) s.heap.objs.size (I.hok.fresh (dm _)) (I.hok.fresh (ai _)) (bp (gj _))
 have I2:=Inv.made (C:=C) I
 have r2:Vals (V.ref (s.heap.objs.size+1) :: (vs ++ dvs)) (bE (s.heap.objs.size+1) :: (us ++ ds)):=.cons rfl (r.append hd)
 have hl:(bE (s.heap.objs.size+1) :: us ++ ds).length=ps.length:=by
  have e:=r2.length
  rw[F.len _ _ _ _ hq] at e
  exact e.symm
 refine wpAny_call (make_map (f:=f) I.kIn M.makes M.init (beq_iff_eq.mp M.fn) (codeAny_mono (F.run _ X.stack _ _ ⟨bE (s.heap.objs.size+1) :: us,[]⟩ (bE (s.heap.objs.size+1) :: (us ++ ds)) _ _ E (hr.make C us [])
  (I2.env0.make C us []) (hb _ (bE (s.heap.objs.size+1) :: us) I2.kIn hl) r2 hq) fun r s' hq'=>?_))
 cases r with
 | error e=>exact hx pins σ _ _ e s' I2 hq'
 | ok fl=>
  cases fl with
  | ret u=>
   obtain⟨v,H',I3,rv,ev,q3⟩:=I2.after hq'
   subst ev
   exact⟨rv,⟨V.ref (s.heap.objs.size+1),H',I3,rfl,q3⟩⟩
  | next=>exact bY hq'
  | brk=>exact bY hq'
  | cont=>exact bY hq'
theorem pe_make(M:Mk X.K C f)(F:FnOk X.prog X.w X.K X.mg X.base CX k f fd ps sp)(hr:Room (k+1) X.A)(hg:Gl X x)(hm:X.mg x=aa (.ref C))(hb:Binds X.K fd ps ds)(hd:Vals dvs ds)(hx:zcU CX X E)
  (ha:PA X (e :: es) t) (hdb:(x == ("__debug__" : Str))=false:=by decide) (he:be (e :: es) X.env=(false,eval e X.env) :: be es X.env:=by rfl) (hpl:(backTo pos (be es X.env)).any (·.1)=false:=by rfl) :
  PE X (.Call (.Name x p) (e :: es) [] pos) (tMake C sp dvs E t):=by
 intro pins s σ H Q I h
 refine cf (zhV I hg hm ?_ hdb)
 refine fK (h₀:=X.base) I.ok.mod.kin M.kp (thn (ha pos pins s σ H _ I h) fun us s1 ⟨vs,H1,I1,r,q⟩=>⟨I1.kIn,?_⟩) he hpl
 exact run_make M F hr hb hd hx I1 r q
end
def PK(X:Cx)(kws:List Keyword)(t:TA):Prop:=
 ∀ (pos:Pos) (pins:List (af × Obj)) (s:ah) (σ:St) (H:Hp) (Q:List V->Hp->Prop),Inv X pins σ H s->t σ H Q->aI (model X.prog X.w) X.A (evalAll ((backToKw pos (keywordEach kws X.env)).map (·.2))) (AP X pins σ Q) X.xe s
section
variable {X:Cx}{CX:CXT}{k:Nat}{f C:af}{fd:bD}{ps ks:List Str}{sp:Sp}{E:XK}{x m:Str}{p pos apos kpos:Pos}{e o:Expr}{es:List Expr}{kws:List Keyword}{te ta:TE}{t tk:TA}{nm:Option Str}
theorem pk_nil:PK X [] tNil:=fun _ _ _ _ H Q I h=>wpAny_evalAll_nil ⟨[],H,I,.nil,h⟩
theorem pk_cons(ha:PE X e te)(hr:PK X kws t):PK X (⟨nm,e,kpos⟩ :: kws) (tCons te t):=by
 intro pos pins s σ H Q I h
 show aI _ _ (evalAll ((do let v <- eval e X.env;standAt pos;pure v) :: (backToKw pos (keywordEach kws X.env)).map (·.2))) _ _ s
 refine wpAny_evalAll_cons (aj (thn (ha pins s σ H _ I h) fun u s1 ⟨x,H1,I1,r1,q1⟩=>aj (wpAny_standAt (aE ?_))))
 exact thn (hr pos pins s1 σ H1 _ I1 q1) fun us s2 ⟨xs,H2,I2,r2,q2⟩=>⟨x :: xs,H2,I2,.cons r1 r2,q2⟩
structure KBinds(K:ag)(fd:bD)(ps ks:List Str)(g:List ae->List ae->List ae)(gV:List V->List V->List V):Prop where
 to:∀ (s:ah) (us ws:List ae),K.In s.heap->(g us ws).length=ps.length->BindsTo s fd ⟨us,ks.zip ws⟩ (ps.zip (g us ws))
 rel:∀ {vs:List V} {us:List ae} {zs:List V} {ws:List ae},Vals vs us->Vals zs ws->Vals (gV vs zs) (g us ws)
variable {g:List ae->List ae->List ae}{gV:List V->List V->List V}
end
structure FnScope(N P:List Str)(sc:Scope):Prop where
 kind:sc.kind=.function
 co:sc.isCoroutine=false
 gen:sc.isGenerator=false
 nd:N.Nodup
 pre:N.take P.length=P
 par:∀ x ∈ P,sc.names.lookup x=aa .local \/ sc.names.lookup x=aa .cell
 nofree:∀ y ∈ sc.names,y.2 ≠ .free
theorem zgO{kindOf:Str->Option NameKind}{x:Str}:∀ {binds:List (Str × ae)} {m:Str->Option ae},(∀ v,(x,v) ∉ binds)->bindL kindOf binds m x=m x
 | [],_,_=>rfl
 | (n,v) :: r,m,h=>by
  unfold bindL
  rw[zgO fun w hw=>h w (al _ hw)]
  split
  ·have:x ≠ n:=by rintro rfl;exact h v aw
   simp[this]
  ·rfl
theorem zhe{kindOf:Str->Option NameKind}{x:Str}:∀ {binds:List (Str × ae)} {m:Str->Option ae},(∀ v,(x,v) ∉ binds)->bindC kindOf binds m x=m x
 | [],_,_=>rfl
 | (n,v) :: r,m,h=>by
  unfold bindC
  rw[zhe fun w hw=>h w (al _ hw)]
  split
  ·rfl
  ·have:x ≠ n:=by rintro rfl;exact h v aw
   simp[this]
theorem zhs{kindOf:Str->Option NameKind}{x:Str}{v:ae}:∀ {P:List Str} {vs:List ae} {i:Nat} {m:Str->Option ae},P.Nodup->P[i]? = aa x->vs[i]? = aa v->kindOf x=aa .local ->
  bindL kindOf (P.zip vs) m x=aa v
 | [],_,_,_,_,h,_,_=>by simp at h
 | _ :: _,[],_,_,_,_,h,_=>by simp at h
 | p :: P,w :: vs,0,m,nd,h1,h2,hk=>by
  simp at h1 h2;subst h1;subst h2
  show bindL kindOf ((p,w) :: P.zip vs) m p=_
  unfold bindL
  rw[zgO fun v hv=>(aV.mp nd).1 (gG hv).1,if_pos hk]
  simp
 | p :: P,w :: vs,i+1,m,nd,h1,h2,hk=>by
  show bindL kindOf ((p,w) :: P.zip vs) m x=_
  unfold bindL
  exact zhs (i:=i) (aV.mp nd).2 (by simpa using h1) (by simpa using h2) hk
theorem zhB{kindOf:Str->Option NameKind}{x:Str}{v:ae}:∀ {P:List Str} {vs:List ae} {i:Nat} {m:Str->Option ae},P.Nodup->P[i]? = aa x->vs[i]? = aa v->kindOf x ≠ aa .local ->
  bindC kindOf (P.zip vs) m x=aa v
 | [],_,_,_,_,h,_,_=>by simp at h
 | _ :: _,[],_,_,_,_,h,_=>by simp at h
 | p :: P,w :: vs,0,m,nd,h1,h2,hk=>by
  simp at h1 h2;subst h1;subst h2
  show bindC kindOf ((p,w) :: P.zip vs) m p=_
  unfold bindC
  rw[zhe fun v hv=>(aV.mp nd).1 (gG hv).1,if_neg hk]
  simp
 | p :: P,w :: vs,i+1,m,nd,h1,h2,hk=>by
  show bindC kindOf ((p,w) :: P.zip vs) m x=_
  unfold bindC
  exact zhB (i:=i) (aV.mp nd).2 (by simpa using h1) (by simpa using h2) hk
def start(N:List Str)(vs:List V):St:=vs.map aa ++ aD (N.length - vs.length) ab
def cxOf(CX:CXT)(P:aR)(w:aU)(K:ag)(mg:Str->Option ae)(base:ba)(N:List Str)(qual:Str)(scope:Scope)(f:af)(cd:ae)(A:a9)(outer:List Env)(s:ah)(H:Hp)(E:XK):Cx where
 prog:=P
 w:=w
 K:=K
 mg:=mg
 base:=base
 A:=A.deeper (envOfC qual scope s.heap.objs.size f cd)
 N:=N
 s₀:=s
 H₀:=H
 env:=envOfC qual scope s.heap.objs.size f cd
 outer:=outer
 stack:=envOfC qual scope s.heap.objs.size f cd :: outer
 ex:=[]
 calm:=true
 fn:=fun _=>true
 pn:=[]
 xe:=fun e s'=>aI (model P w) (A.deeper (envOfC qual scope s.heap.objs.size f cd)) (leaving (envOfC qual scope s.heap.objs.size f cd) e) (fun _ s''=>CX outer H s E e s'') (fun e' s''=>CX outer H s E e' s'') s'
theorem ziL{sc:Scope}{n:Nat}{x:Str}(h:sc.names.lookup x=aa .cell):∃ c,(cellsFrom n sc.names []).lookup x=aa c:=by
 have q:=gO sc.names n [] (.inl h)
 exact Option.isSome_iff_exists.mp q
theorem inv_start{CX:CXT}{P:aR}{w:aU}{K:ag}{mg:Str->Option ae}{base:ba}{N ps:List Str}{qual:Str}{scope:Scope}{f:af}{cd:ae}{A:a9}{outer:List Env}{s s1:ah}{H:Hp}{E:XK}{us:List ae}{vs:List V}
  (S:FnScope N ps scope) (hd:A.handled=ab) (e0:Env0 P w K mg base A outer s H) (hl:vs.length=ps.length) (r:Vals vs us)
  (x:InCallC s s.heap.objs.size (bindL (envOfC qual scope s.heap.objs.size f cd).kindOf (ps.zip us) fun _=>ab) (cellsFrom (s.heap.objs.size+1) scope.names []) (bindC (envOfC qual scope s.heap.objs.size f cd).kindOf (ps.zip us) fun _=>ab) s1) :
  Inv (cxOf CX P w K mg base N qual scope f cd A outer s H E) [] (start N vs) H s1:=by
 have hpl:ps.length<=N.length:=by have:=congrArg eJ S.pre;rw[bv] at this;lia
 obtain⟨h1,tk,rfl,hk⟩:=x.done
 have noA:∀ b:af,b ∉ (cxOf CX P w K mg base N qual scope f cd A outer s H E).ex:=fun b z=>absurd (show b ∈ ([]:List af) from z) (by simp)
 refine⟨⟨e0.mod,S.kind,rfl,rfl,ai _,fun y z c h1 h2=>?_,fun y hy=>?_,fun y c _ h=>?_,fun _=>hd,Around.frames_deeper e0.frames,.inr ⟨rfl,rfl⟩,fun b z=>absurd z (noA b),e0.bs,e0.bsz,fun b _ _=>noA b,fun b z=>absurd z (noA b),e0.funs,e0.frf⟩,
  rfl,e0.bare,Un.kept hk,⟨_,x.toInCall.ns,fun i y v h1 h2 h3=>?_⟩,fun y c h=>⟨_,x.cell y c h⟩,e0.hok.fresh (ai _),fun y c h=>?_,fun p hp=>absurd (show p ∈ ([]:List (af × Obj)) from hp) (by simp),e0.hok.kept hk,?_⟩
 ·exact name_of_addr x.apart (cx h1) (cx h2)
 ·have hy:scope.names.lookup y=aa .cell \/ scope.names.lookup y=aa .free:=hy
  rcases hy with hy | hy
  ·exact ziL hy
  ·exact absurd rfl (S.nofree _ (cx hy))
 ·exact bA (x.above y c (cx h))
 ·have hi:i<vs.length:=by
   unfold start at h2
   by_cases hi:i<vs.length
   ·exact hi
   ·rw[cN (by simpa using hi)] at h2
    rw[eB] at h2
    split at h2 <;> cases h2
  have ha:vs[i]? = aa v:=by
   unfold start at h2
   rw[ca (by simpa using hi),ax] at h2
   cases e:vs[i]? with
   | none=>rw[e] at h2;cases h2
   | some a=>rw[e] at h2;cases h2;rfl
  obtain⟨u,hu,rv⟩:=r.get ha
  have hp:ps[i]? = aa y:=by
   rw[<- S.pre,cX (by lia)];exact h1
  have ndP:ps.Nodup:=by rw[<- S.pre];exact S.nd.sublist (List.take_sublist _ _)
  refine⟨u,rv,?_⟩
  rcases S.par y (cg hp) with k | k
  ·exact .inl ⟨k,zhs ndP hp hu k⟩
  ·obtain⟨c,e⟩:=ziL (n:=s.heap.objs.size+1) k
   refine .inr ⟨.inl k,c,e,?_⟩
   have q:=x.cell y c e
   rw[zhB ndP hp hu (by show scope.names.lookup y ≠ _;rw[k];decide)] at q
   exact q
 ·exact e0.hok.fresh (bA (x.above y c (cx h)))
 ·unfold start
  show _=N.length
  rw[aP,aq,eW]
  lia
theorem fn_of{CX:CXT}{P:aR}{w:aU}{K:ag}{mg:Str->Option ae}{base:ba}{k:Nat}{f:af}{name qual:Str}{params:Arguments}{body:List Stmt}{scope:Scope}{dV kV doc pm cdv ct oc:ae}{an od:Option af}
  {osl:Array (Option ae)} {N ps:List Str} {sp:Sp} (lk:K.lookup f=aa ⟨oc,od,.func (aK name qual params body scope dV kV doc pm an cdv ct),osl⟩) (hcd:aG K cdv qual=true) (S:FnScope N ps scope)
  (len:∀ vs H Q E,sp vs H Q E->vs.length=ps.length)
  (hbody:∀ (A:a9) (outer:List Env) (s:ah) (H:Hp) (vs:List V) (Q:VK) (E:XK),Room k (A.deeper (envOfC qual scope s.heap.objs.size f cdv))->sp vs H Q E ->
   ∃ t,PSs (cxOf CX P w K mg base N qual scope f cdv A outer s H E) body t/\t { nx:=fun _ H'=>Q .non H',rt:=Q} (start N vs) H) :
  FnOk P w K mg base CX (k+1) f (aK name qual params body scope dV kV doc pm an cdv ct) ps sp:=by
 refine⟨len,fun A outer s H args us vs Q E hr e0 hb r hsp=>?_⟩
 have hl:=len _ _ _ _ hsp
 have KX:K.In s.heap:=e0.mod.kin.keeps fun b o e=>(e0.bs b o e).1
 have lim:s.heap.NoLimit:=e0.mod.nolimit.keeps fun b o e=>(e0.bs b o e).1
 have hkind:∀ y ∈ ps.zip us,scope.names.lookup y.1=aa .local \/ (scope.names.lookup y.1=aa .cell/\((cellsFrom (s.heap.objs.size+1) scope.names []).lookup y.1).isSome=true):=fun⟨n,v⟩ hy=>by
  rcases S.par n (gG hy).1 with q | q
  ·exact .inl q
  ·exact .inr ⟨q,gO _ _ _ (.inl q)⟩
 refine codeAny_call_function hr.depth (KX _ _ lk) rfl S.co S.gen rfl (PySem.W.codeRec_of KX hcd) (hb _ _ _ _ ?_)
 refine wpAny_newFunctionEnv_cells S.kind hkind fun env he s1 x=>?_
 subst he
 refine⟨lim.keeps x.toInCall.keep,codeAny_func ?_⟩
 obtain⟨t,ht,hq⟩:=hbody A outer s H vs Q E (hr.deeper _) hsp
 have I:Inv (cxOf CX P w K mg base N qual scope f cdv A outer s H E) [] (start N vs) H s1:=inv_start S hr.hd e0 hl r x
 refine cM (ht [] s1 (start N vs) H _ I hq) (fun fl s' hs=>?_) fun e s' hs=>hs
 have fin:∀ {σ':St} {H':Hp} {v:V} {u:ae},Inv (cxOf CX P w K mg base N qual scope f cdv A outer s H E) [] σ' H' s'->RelV v u->Q v H'->CE outer P w H s Q u s':=
  fun {σ' H' v u} J rv q=>⟨v,H',J.os,J.bare,J.base,J.hok,rv,q⟩
 cases fl with
 | ret u=>
  obtain⟨v,σ',H',J,rv,q⟩:=hs
  exact fin J rv q
 | next=>
  obtain⟨σ',H',J,q⟩:=hs
  exact fin (v:=V.non) (u:=g6) J rfl q
 | brk=>
  obtain⟨_,_,_,q⟩:=hs
  exact bY q
 | cont=>
  obtain⟨_,_,_,q⟩:=hs
  exact bY q
end L2
namespace L2
open PySem PySem.Spec PyProof.Rows
section
variable {X:Cx}{x:Str}{p pos:Pos}{e:Expr}{es:List Expr}{t:TA}{id T:String}{r:List V->Hp->VK->Prop}
def tCB(r:List V->Hp->VK->Prop)(t:TA):TE:=fun σ H Q=>t σ H fun vs H1=>r vs H1 Q
theorem pe_callB(hc:zec X (.builtin id) r)(hg:Gl X x)(hm:X.mg x=ab)(hv:bn x=aa (.builtin id))(ha:PA X (e :: es) t)(hn:x ≠ "__name__" :=by decide)(hdb:(x == ("__debug__" : Str))=false:=by decide)
  (he:be (e :: es) X.env=(false,eval e X.env) :: be es X.env:=by rfl) (hpl:(backTo pos (be es X.env)).any (·.1)=false:=by rfl):PE X (.Call (.Name x p) (e :: es) [] pos) (tCB r t):=by
 intro pins s σ H Q I h
 refine cf (zep I hg hm hv ?_ hn hdb)
 exact jb (thn (ha pos pins s σ H _ I h) fun us s1 ⟨vs,H1,I1,r1,q1⟩=>hc pins s1 σ H1 vs us Q I1 r1 q1) he hpl
theorem pe_callTy(hc:zec X (.type T) r)(hg:Gl X x)(hm:X.mg x=ab)(hv:bn x=aa (.type T))(ha:PA X (e :: es) t)(hn:x ≠ "__name__" :=by decide)(hdb:(x == ("__debug__" : Str))=false:=by decide)
  (he:be (e :: es) X.env=(false,eval e X.env) :: be es X.env:=by rfl) (hpl:(backTo pos (be es X.env)).any (·.1)=false:=by rfl):PE X (.Call (.Name x p) (e :: es) [] pos) (tCB r t):=by
 intro pins s σ H Q I h
 refine cf (zep I hg hm hv ?_ hn hdb)
 exact bZ (thn (ha pos pins s σ H _ I h) fun us s1 ⟨vs,H1,I1,r1,q1⟩=>hc pins s1 σ H1 vs us Q I1 r1 q1) he hpl
end
end L2
namespace HT
open PySem PyProof.Rows
section
open PySem.SeqAt
open PySem.AutoSeq1 (wpAny_loadPart')
open PySem.MeetsSeq PySem.MeetsSeq2 PySem.MeetsSeq3
end
section
variable {prog:aR}{w:aU}{A:a9}{E:ae->ah->Prop}{s:ah}
def sIx(n d:Nat):Option Int->Nat
 | none=>d
 | some v=>if v<0 then (v+(n:Int)).toNat else min v.toNat n
theorem sIx_none(n d:Nat):sIx n d ab=d:=rfl
theorem sIx_nat(n d k:Nat):sIx n d (aa (k:Int))=min k n:=by
 show(if (k:Int)<0 then ((k:Int)+(n:Int)).toNat else min (k:Int).toNat n)=min k n
 rw[if_neg (by lia),dI]
theorem sIx_le(n d:Nat)(hd:d<=n)(o:Option Int):sIx n d o<=n:=by
 cases o with
 | none=>exact hd
 | some v=>
  show(if v<0 then (v+(n:Int)).toNat else min v.toNat n)<=n
  by_cases hv:v<0
  ·rw[if_pos hv];lia
  ·rw[if_neg hv];exact dU _ _
theorem zjs{v:ae}{o:Option Int}{Q:Option Int->ah->Prop}(p:IsPart v o)(h:Q o s):aI (model prog w) A (jo v) Q E s:=by
 cases p with
 | none=>exact slicePart_none h
 | int i t=>exact slicePart_int h
theorem pick_gen(xs:Array ae)(i k:Nat):((ak k).filterMap fun(m:Nat)=>xs[((i:Int)+(m:Int) * 1).toNat]?).toArray=((xs.toList.drop i).take k).toArray:=by
 have e:(fun(m:Nat)=>xs[((i:Int)+(m:Int) * 1).toNat]?)=fun m=>xs[i+m]?:=by
  funext m
  have:((i:Int)+(m:Int) * 1).toNat=i+m:=by lia
  rw[this]
 rw[e]
 have:=pick_run xs i k
 rw[iA] at this
 have e2:((fun x=>xs[x]?) ∘ fun x=>i+x)=fun m=>xs[i+m]?:=rfl
 rw[e2] at this
 rw[this]
end
end HT
namespace L2
open PySem PySem.Spec PyProof.Rows
abbrev TO:=St->Hp->(Option Int->Hp->Prop)->Prop
def PO(X:Cx)(e:Option Expr)(t:TO):Prop:=
 ∀ (pins:List (af × Obj)) (s:ah) (σ:St) (H:Hp) (Q:Option Int->Hp->Prop),Inv X pins σ H s->t σ H Q ->
  aI (model X.prog X.w) X.A (evalPart e X.env) (fun u s'=>∃ o H',Inv X pins σ H' s'/\IsPart u o/\Q o H') X.xe s
def tNoPart:TO:=fun _ H Q=>Q ab H
def tPart(t:TE):TO:=fun σ H Q=>t σ H fun x H1=>∃ i,x=.int i/\Q (aa i) H1
section
variable {X:Cx}{e:Expr}{te:TE}{lo hi:Option Expr}{tl th:TO}{pos p2:Pos}
theorem po_none:PO X ab tNoPart:=by
 intro pins s σ H Q I h
 rw[evalPart_none]
 exact aE ⟨ab,H,I,.none,h⟩
theorem po_some(h:PE X e te):PO X (aa e) (tPart te):=by
 intro pins s σ H Q I hw
 rw[evalPart_some]
 refine thn (h pins s σ H _ I hw) fun u s1 ⟨x,H1,I1,r1,q1⟩=>?_
 obtain⟨i,rfl,q⟩:=q1
 obtain⟨t,rfl⟩:=r1
 exact⟨aa i,H1,I1,.int i t,q⟩
def SlR(X:Cx)(r:V->Option Int->Option Int->Hp->VK->Prop):Prop:=
 ∀ (pins:List (af × Obj)) (s:ah) (σ:St) (H:Hp) (x:V) (v vl vu:ae) (lo hi:Option Int) (sl:af) (Q:VK),Inv X pins σ H s->RelV x v->s.heap.IsSliceOf sl vl vu .none->IsPart vl lo->IsPart vu hi->r x lo hi H Q ->
  ∃ T id,typeLookup (.type T) "__getitem__" = pure (aa (.builtin id))/\s.TypeIs v T/\aI (model X.prog X.w) X.A (getItem v (.ref sl)) (EP X pins σ Q) X.xe s
def tSl(r:V->Option Int->Option Int->Hp->VK->Prop)(te:TE)(tl th:TO):TE:=fun σ H Q=>te σ H fun x H1=>tl σ H1 fun l H2=>th σ H2 fun u H3=>r x l u H3 Q
theorem pe_slice{r:V->Option Int->Option Int->Hp->VK->Prop}(hr:SlR X r)(he:PE X e te)(hl:PO X lo tl)(hu:PO X hi th):PE X (.Subscript e (.Slice lo hi ab p2) pos) (tSl r te tl th):=by
 intro pins s σ H Q I h
 refine Subscript_ (thn (he pins s σ H _ I h) fun v s1 ⟨x,H1,I1,r1,q1⟩=>?_)
 refine wpAny_Slice (thn (hl pins s1 σ H1 _ I1 q1) fun vl s2 ⟨l,H2,I2,pl,q2⟩=>thn (hu pins s2 σ H2 _ I2 q2) fun vu s3 ⟨u,H3,I3,pu,q3⟩=>?_)
 rw[evalPart_none]
 refine aE ?_
 have I4:Inv X pins σ H3 { s3 with heap:=s3.heap.push { cls:=.type "slice",data:=.fields #[vl,vu,.none]}}:=I3.kept (t':=s3.toks) fun b ob q=>am _ q
 obtain⟨T,id,hT,ht,hg⟩:=hr pins { s3 with heap:=s3.heap.push { cls:=.type "slice",data:=.fields #[vl,vu,.none]}} σ H3 x v vl vu l u s3.heap.objs.size Q I4 r1 (iC ..) pl pu q3
 show aI (model X.prog X.w) X.A (subscriptTail e (.Slice lo hi ab p2) v (.ref s3.heap.objs.size)) (EP X pins σ Q) X.xe { s3 with heap:=s3.heap.push { cls:=.type "slice",data:=.fields #[vl,vu,.none]}}
 exact tail_any (ops:=[.ref s3.heap.objs.size,v]) ht hT hg (by with_unfolding_all rfl)
def cutV(xs:List V)(lo hi:Option Int):List V:=(xs.drop (HT.sIx xs.length 0 lo)).take (HT.sIx xs.length xs.length hi - HT.sIx xs.length 0 lo)
theorem zhS(xs:List V)(lo hi:Option Int):(cutV xs lo hi).length<=xs.length:=by
 unfold cutV
 rw[bv,cC]
 lia
end
end L2
namespace L2
open PySem PySem.Spec PyProof.Rows
def ixN(n:Nat)(i:Int):Option Nat:=if 0<=i then (if i<n then aa i.toNat else ab) else if -(n:Int)<=i then aa (i+n).toNat else ab
def atI{α:Type}(xs:List α)(i:Int):Option α:=(ixN xs.length i).bind fun j=>xs[j]?
theorem ixN_seq{n:Nat}{i:Int}{j:Nat}(h:ixN n i=aa j):seqIndex? i n=aa j/\j<n /\ -(n:Int)<=i/\i<n:=by
 unfold ixN at h
 by_cases h0:0<=i
 ·rw[if_pos h0] at h
  by_cases h1:i<n
  ·rw[if_pos h1] at h
   have e:i.toNat=j:=bf h
   exact⟨by rw[seqIndex_of h0 h1,e],by lia,by lia,h1⟩
  ·rw[if_neg h1] at h;cases h
 ·rw[if_neg h0] at h
  by_cases h1:-(n:Int)<=i
  ·rw[if_pos h1] at h
   have e:(i+n).toNat=j:=bf h
   exact⟨by rw[seqIndex_neg (by lia) h1,e],by lia,h1,by lia⟩
  ·rw[if_neg h1] at h;cases h
theorem zif{α:Type}{xs:List α}{i:Int}{v:α}(h:atI xs i=aa v):∃ j,seqIndex? i xs.length=aa j/\xs[j]? = aa v/\j<xs.length /\ -(xs.length:Int)<=i/\i<xs.length:=by
 unfold atI at h
 cases e:ixN xs.length i with
 | none=>rw[e] at h;cases h
 | some j=>
  rw[e] at h
  obtain⟨h1,h2,h3,h4⟩:=ixN_seq e
  exact⟨j,h1,h,h2,h3,h4⟩
def zhW(b:Expr):Prop:=∀ o i,subscripted b false o i=operate [o,i] (getItem o i)
def IxR(X:Cx)(r:R2):Prop:=
 ∀ (value slice:Expr) (pins:List (af × Obj)) (s:ah) (σ:St) (H:Hp) (x y:V) (v u:ae) (Q:VK),Inv X pins σ H s->RelV x v->RelV y u->r x y H Q ->
  subscripted slice false v u=operate [v,u] (getItem v u)->aI (model X.prog X.w) X.A (subscriptTail value slice v u) (EP X pins σ Q) X.xe s
def MtR(X:Cx)(id:String)(r:V->List V->Hp->VK->Prop):Prop:=
 ∀ (pins:List (af × Obj)) (s:ah) (σ:St) (H:Hp) (x:V) (xs:List V) (v:ae) (us:List ae) (Q:VK),Inv X pins σ H s->RelV x v->Vals xs us->r x xs H Q ->
  aI (model X.prog X.w) X.A (call (.builtin id) (v :: us)) (EP X pins σ Q) X.xe s
section
variable {X:Cx}{a b:Expr}{ta tb:TE}{pos:Pos}
theorem pe_ix{r:R2}(hr:IxR X r)(ha:PE X a ta)(hb:PE X b tb)(hs:zhW b):PE X (.Subscript a b pos) (tOp r ta tb):=by
 intro pins s σ H Q I h
 exact Subscript_ (binT ha hb I h fun v u s2 x y H2 I2 rx ry q=>hr a b pins s2 σ H2 x y v u Q I2 rx ry q (hs _ _))
def rIxL(K:ag):R2:=fun x y H Q=>∃ p xs i v,x=.ref p/\y=.int i/\SqL K H p xs/\atI xs i=aa v/\Q v H
def rIxT(K:ag):R2:=fun x y H Q=>∃ p xs i v,x=.ref p/\y=.int i/\SqT K H p xs/\atI xs i=aa v/\Q v H
def rIxS:R2:=fun x y H Q=>∃ z i c,x=.str z/\y=.int i/\z.length<=aZ/\atI z.cps.toList i=aa c/\Q (.str ⟨#[c]⟩) H
theorem ix_list:IxR X (rIxL X.K):=by
 intro value slice pins s σ H x y v u Q I rx ry h hs
 obtain⟨p,xs,i,z,rfl,rfl,hq,he,q⟩:=h
 cases rx
 obtain⟨t,rfl⟩:=ry
 obtain⟨its,r,pl,hz⟩:=I.list hq
 obtain⟨j,h1,h2,h3,h4,h5⟩:=zif he
 obtain⟨w,ew,rw'⟩:=r.get h2
 have hl:=r.length
 have hn:=zfT
 have fin:EP X pins σ Q w s:=⟨z,H,I,rw',q⟩
 by_cases h0:0<=i
 ·have hj:i.toNat=j:=by
   rw[seqIndex_of h0 h5] at h1
   exact bf h1
  exact item_listR pl.isList h0 (by lia) (by rw[hj];simpa using ew) fin hs
 ·have hj:(i+(its.toArray.size:Int)).toNat=j:=by
   rw[seqIndex_neg (by lia) h4] at h1
   rw[a8,<- hl]
   exact bf h1
  exact subscriptTail_builtinR (x:=w) pl.isList.typeIs slot_list_getitem.lookup
   (wpAny_getItem_list_neg (Q:=fun r s'=>r=w/\EP X pins σ Q r s') pl.isList (by lia) (by rw[a8] <;> lia) (by lia) (by rw[hj];simpa using ew) ⟨rfl,fin⟩) hs
theorem ix_tup:IxR X (rIxT X.K):=by
 intro value slice pins s σ H x y v u Q I rx ry h hs
 obtain⟨p,xs,i,z,rfl,rfl,hq,he,q⟩:=h
 cases rx
 obtain⟨t,rfl⟩:=ry
 obtain⟨its,r,pl,hz⟩:=I.tuple hq
 obtain⟨j,h1,h2,h3,h4,h5⟩:=zif he
 obtain⟨w,ew,rw'⟩:=r.get h2
 have hl:=r.length
 have hn:=zfT
 have fin:EP X pins σ Q w s:=⟨z,H,I,rw',q⟩
 exact subscriptTail_builtinR (x:=w) pl.typeIs slot_tuple_getitem.lookup
  (getItem_tuple (j:=j) (Q:=fun r s'=>r=w/\EP X pins σ Q r s') pl (by lia) (by lia) (by rw[a8,<- hl];exact h1) (by simpa using ew) ⟨rfl,fin⟩) hs
theorem ix_str:IxR X rIxS:=by
 intro value slice pins s σ H x y v u Q I rx ry h hs
 obtain⟨z,i,c,rfl,rfl,hz,he,q⟩:=h
 obtain⟨t,rfl⟩:=rx
 obtain⟨t',rfl⟩:=ry
 obtain⟨j,h1,h2,h3,h4,h5⟩:=zif he
 have hl:z.cps.toList.length=z.length:=by simp[f6]
 rw[hl] at h1 h4 h5
 have hn:=zfT
 exact tail_any (typeIs_str s z t) slot_str_getitem.lookup (getItem_str (c:=c) (by
  have e1:decide (i < -(2 ^ 63:Int))=false:=decide_eq_false (by lia)
  have e2:decide (i ≥ 2 ^ 63)=false:=decide_eq_false (by lia)
  rw[e1,e2,ic]) (by rw[h1];simpa using h2) ⟨.str ⟨#[c]⟩,H,I.tok _,⟨_,rfl⟩,q⟩) hs
theorem zi8(its:List ae)(n j:Nat)(u:ae):bP (·.setIfInBounds j u) { cls:=.type "list",data:=.seq its.toArray n}={ cls:=.type "list",data:=.seq (its.set j u).toArray n}:=by
 simp[bP]
theorem Inv.lst{pins:List (af × Obj)}{σ:St}{H:Hp}{s:ah}{p:af}{xs:List V}(I:Inv X pins σ H s)(h:H p=aa (.lst xs)) :
  ∃ (its:List ae) (n:Nat),Vals xs its/\s.heap.get? p=aa { cls:=.type "list",data:=.seq its.toArray n}/\xs.length<=aZ:=by
 obtain⟨z,its,n,r,e⟩:=I.hok p _ h
 exact⟨its,n,r,e,z⟩
theorem Inv.lstUpd{pins:List (af × Obj)}{σ:St}{H:Hp}{s:ah}{p:af}{xs ys:List V}{its its':List ae}{n n':Nat}{f:Obj->Obj}(I:Inv X pins σ H s)(h:H p=aa (.lst xs))
  (ho:s.heap.get? p=aa { cls:=.type "list",data:=.seq its.toArray n}) (hf:f { cls:=.type "list",data:=.seq its.toArray n}={ cls:=.type "list",data:=.seq its'.toArray n'}) (r:Vals ys its') (hz:ys.length<=aZ) (t:Nat) :
  Inv X pins σ (upd H p (.lst ys)) { s with heap:=s.heap.update p f,toks:=t}:=by
 have e:(s.heap.update p f).get? p=aa { cls:=.type "list",data:=.seq its'.toArray n'}:=by
  rw[dN f ho (by rw[hf] <;> rfl),hf]
 refine I.write (x:=p) (e:=p) (by rw[h];trivial) (.inl rfl) (fun b u hb q=>(b9 _ _ (cj hb)).trans q) ⟨_,e⟩ ?_
 exact⟨hz,its',n',r,e⟩
def rSetL:V->V->V->Hp->(Hp->Prop)->Prop:=fun o i v H Q=>∃ p xs k j,o=.ref p/\i=.int k/\H p=aa (.lst xs)/\ixN xs.length k=aa j/\Q (upd H p (.lst (xs.set j v)))
theorem ziA:PSet X rSetL:=by
 intro pins s σ H o i v ov iv u Q I ro ri rv h
 obtain⟨p,xs,k,j,rfl,rfl,hp,hj,q⟩:=h
 cases ro
 obtain⟨t,rfl⟩:=ri
 obtain⟨its,n,r,ho,hz⟩:=I.lst hp
 obtain⟨h1,h2,h3,h4⟩:=ixN_seq hj
 have hl:=r.length
 have hn:=zfT
 have I':Inv X pins σ (upd H p (.lst (xs.set j v))) { s with heap:=s.heap.update p (bP (·.setIfInBounds j u))}:=
  I.lstUpd hp ho (zi8 its n j u) (r.set rv j) (by rw[gH];exact hz) s.toks
 by_cases h0:0<=k
 ·have hk:k.toNat=j:=by
   rw[seqIndex_of h0 h4] at h1
   exact bf h1
  exact PySem.W.ki_setAt ho h0 (by lia) (by rw[a8,<- hl];exact h4) (by rw[hk];exact⟨_,I',q⟩)
 ·have hk:(k+(its.toArray.size:Int)).toNat=j:=by
   rw[seqIndex_neg (by lia) h3] at h1
   rw[a8,<- hl]
   exact bf h1
  exact PySem.W.ki_setBack ho (by lia) (by rw[a8,<- hl];exact h3) (by lia) (by rw[hk];exact⟨_,I',q⟩)
theorem zhA(lo hi:Option Int)(n:Nat):(sliceBounds lo hi ab n).1=((HT.sIx n 0 lo:Nat):Int)/\(sliceBounds lo hi ab n).2.1=((HT.sIx n n hi:Nat):Int)/\(sliceBounds lo hi ab n).2.2=1:=by
 refine⟨?_,?_,rfl⟩
 ·cases lo with
  | none=>simp[sliceBounds,HT.sIx]
  | some i=>
   simp only[sliceBounds,HT.sIx,i5,show(1:Int) > 0 by decide,if_true]
   by_cases h:i<0
   ·simp only[h,if_true] <;> lia
   ·simp only[h,if_false] <;> lia
 ·cases hi with
  | none=>simp[sliceBounds,HT.sIx]
  | some i=>
   simp only[sliceBounds,HT.sIx,i5,show(1:Int) > 0 by decide,if_true]
   by_cases h:i<0
   ·simp only[h,if_true] <;> lia
   ·simp only[h,if_false] <;> lia
theorem zgg(its:List ae)(lo hi:Option Int):slicePick its.toArray lo hi ab=((its.drop (HT.sIx its.length 0 lo)).take (HT.sIx its.length its.length hi - HT.sIx its.length 0 lo)).toArray:=by
 obtain⟨h1,h2,h3⟩:=zhA lo hi its.toArray.size
 unfold slicePick
 rw[h1,h2,h3]
 simp only[sliceRange_one,pick_run,a8] <;> rfl
def rSlL(K:ag):V->Option Int->Option Int->Hp->VK->Prop:=fun x lo hi H Q=>∃ a xs,x=.ref a/\SqL K H a xs/\∀ p,H p=ab->Q (.ref p) (upd H p (.lst (cutV xs lo hi)))
theorem sl_list:SlR X (rSlL X.K):=by
 intro pins s σ H x v vl vu lo hi sl Q I rx hs pl pu h
 obtain⟨a,xs,rfl,hx,q⟩:=h
 cases rx
 obtain⟨its,r,ht,hz⟩:=I.list hx
 have hlen:=r.length
 refine⟨"list",_,slot_list_getitem.lookup,ht.isList.typeIs,?_⟩
 refine wpAny_getItem_list_slice ht.isList hs pl pu .none (by simp) ?_ (by rw[a8] <;> lia)
 rw[zgg,<- hlen]
 refine⟨.ref s.heap.objs.size,_,I.laid (t':=s.toks) (o:=.lst (cutV xs lo hi)) (fun b ob q=>am _ q) (ai _) ?_,rfl,q _ (I.hok.fresh (ai _))⟩
 exact⟨aL (zhS xs lo hi) hz,_,0,(r.drop (HT.sIx xs.length 0 lo)).take (HT.sIx xs.length xs.length hi - HT.sIx xs.length 0 lo),aM _ rfl⟩
def zft:V->Bool
 | .non=>true
 | .bl _=>true
 | .int _=>true
 | .str _=>true
 | _=>false
def eqV:V->V->Bool
 | .non,.non=>true
 | .bl a,.bl b=>a == b
 | .bl a,.int b=>(if a then 1 else 0) == b
 | .int a,.bl b=>a == (if b then 1 else 0)
 | .int a,.int b=>a == b
 | .str a,.str b=>a == b
 | _,_=>false
theorem eqAt_V{A:a9}{s:ah}{y x:V}{u v:ae}(ry:RelV y u)(rx:RelV x v)(fy:zft y=true)(fx:zft x=true):jc A s u v (eqV y x):=by
 cases y with
 | non=>
  cases ry
  cases x with
  | non=>cases rx;exact kZ _
  | bl b=>cases rx;exact ko b
  | int b=>obtain⟨t,rfl⟩:=rx;exact kx b t
  | str b=>obtain⟨t,rfl⟩:=rx;exact ky b t
  | _=>exact absurd (show false=true from fx) aX
 | bl a=>
  cases ry
  cases x with
  | non=>cases rx;exact kq a
  | bl b=>cases rx;exact kr a b
  | int b=>obtain⟨t,rfl⟩:=rx;exact kz a b t
  | str b=>obtain⟨t,rfl⟩:=rx;exact kB a b t
  | _=>exact absurd (show false=true from fx) aX
 | int a=>
  obtain⟨t',rfl⟩:=ry
  cases x with
  | non=>cases rx;exact kC a t'
  | bl b=>cases rx;exact kD a t' b
  | int b=>obtain⟨t,rfl⟩:=rx;exact kI a t' b t
  | str b=>obtain⟨t,rfl⟩:=rx;exact ip a t' b t
  | _=>exact absurd (show false=true from fx) aX
 | str a=>
  obtain⟨t',rfl⟩:=ry
  cases x with
  | non=>cases rx;exact kE a t'
  | bl b=>cases rx;exact kF a t' b
  | int b=>obtain⟨t,rfl⟩:=rx;exact iq a t' b t
  | str b=>obtain⟨t,rfl⟩:=rx;exact kJ a t' b t
  | _=>exact absurd (show false=true from fx) aX
 | _=>exact absurd (show false=true from fy) aX
def eqU(x:V)(u:ae):Bool:=match u with
 | .none=>eqV .non x
 | .bool b=>eqV (.bl b) x
 | .int i _=>eqV (.int i) x
 | .str z _=>eqV (.str z) x
 | _=>false
theorem eqU_of{x y:V}{u:ae}(r:RelV y u)(f:zft y=true):eqU x u=eqV y x:=by
 cases y with
 | non=>cases r;rfl
 | bl b=>cases r;rfl
 | int i=>obtain⟨t,rfl⟩:=r;rfl
 | str z=>obtain⟨t,rfl⟩:=r;rfl
 | _=>exact absurd (show false=true from f) aX
theorem ziq{A:a9}{s:ah}{x:V}{v:ae}(rx:RelV x v)(fx:zft x=true):∀ {xs:List V} {us:List ae},Vals xs us->xs.all zft=true->∀ u ∈ us,jc A s u v (eqU x u)
 | _,_,.nil,_=>fun u hu=>by cases hu
 | y :: xs,u :: us,.cons r t,f=>fun u' hu=>by
  rw[eP,cP] at f
  rcases aY.mp hu with rfl | hu
  ·rw[eqU_of r f.1];exact eqAt_V r rx f.1 fx
  ·exact ziq rx fx t f.2 u' hu
theorem zg6:zec X (.builtin "len") (fun xs H Q=>∃ p ys,xs=[.ref p]/\(SqL X.K H p ys \/ SqT X.K H p ys)/\Q (.int ys.length) H):=by
 intro pins s σ H xs us Q I r h
 obtain⟨p,ys,rfl,hq,q⟩:=h
 obtain⟨u,rfl,rx⟩:=zfF r
 cases rx
 have hn:=zfT
 rcases hq with hq | hq
 ·obtain⟨its,r',pl,hz⟩:=I.list hq
  have hlen:=r'.length
  exact Calls.call_len_list pl.isList (by simp only[a8] <;> lia) ⟨.int ys.length,H,I.tok _,⟨s.toks+1,by rw[a8,hlen]⟩,q⟩
 ·obtain⟨its,r',pl,hz⟩:=I.tuple hq
  have hlen:=r'.length
  exact len_tuple pl (by simp only[a8] <;> lia) ⟨.int ys.length,H,I.tok _,⟨s.toks+1,by rw[a8,hlen]⟩,q⟩
theorem zgU:zec X (.builtin "len") (fun xs H Q=>∃ z,xs=[.str z]/\z.length<=aZ/\Q (.int z.length) H):=by
 intro pins s σ H xs us Q I r h
 obtain⟨z,rfl,hz,q⟩:=h
 obtain⟨u,rfl,t,rfl⟩:=zfF r
 have hn:=zfT
 exact len_str (by lia) ⟨.int z.length,H,I.tok _,⟨_,rfl⟩,q⟩
theorem zg0:zec X (.type "list") (fun xs H Q=>∃ p ys,xs=[.ref p]/\(SqL X.K H p ys \/ SqT X.K H p ys)/\∀ l,H l=ab->Q (.ref l) (upd H l (.lst ys))):=by
 intro pins s σ H xs us Q I r h
 obtain⟨p,ys,rfl,hq,q⟩:=h
 obtain⟨u,rfl,rx⟩:=zfF r
 cases rx
 have fin:∀ (its:List ae),Vals ys its->ys.length<=aZ->∀ (h':ba) (c':Nat),(∀ b o',s.heap.get? b=aa o'->h'.get? b=aa o') ->
   h'.get? s.heap.objs.size=aa { cls:=.type "list",dict:=ab,data:=.seq its.toArray c',slots:=#[]}->EP X pins σ Q (.ref s.heap.objs.size) { s with heap:=h'}:=fun its r' hz h' c' kp e=>
  ⟨.ref s.heap.objs.size,_,I.laid (t':=s.toks) kp (ai _) (show ObjOk X.prog X.w _ h' _ (.lst ys) from ⟨hz,its,c',r',e⟩),rfl,q _ (I.hok.fresh (ai _))⟩
 rcases hq with hq | hq
 ·obtain⟨its,r',pl,hz⟩:=I.list hq
  have hlen:=r'.length
  obtain⟨o,ho,hc,n,hd⟩:=pl.isList
  exact call_list_seq p (.inl rfl) ho hc hd (fun h' c' kp e=>fin its r' hz h' c' kp e) (by simp only[a8] <;> lia)
 ·obtain⟨its,r',pl,hz⟩:=I.tuple hq
  have hlen:=r'.length
  obtain⟨o,ho,hc,n,hd⟩:=pl
  exact call_list_seq p (.inr rfl) ho hc hd (fun h' c' kp e=>fin its r' hz h' c' kp e) (by simp only[a8] <;> lia)
theorem zgl:zec X (.type "tuple") (fun xs H Q=>∃ p ys,xs=[.ref p]/\((SqL X.K H p ys/\∀ l,H l=ab->Q (.ref l) (upd H l (.tup ys))) \/ (SqT X.K H p ys/\Q (.ref p) H))):=by
 intro pins s σ H xs us Q I r h
 obtain⟨p,ys,rfl,h⟩:=h
 obtain⟨u,rfl,rx⟩:=zfF r
 cases rx
 rcases h with ⟨hq,q⟩ | ⟨hq,q⟩
 ·obtain⟨its,r',pl,hz⟩:=I.list hq
  have hlen:=r'.length
  refine call_tuple_list pl.isList (fun h' kp=>?_) (by simp only[a8] <;> lia)
  have I1:Inv X pins σ H { s with heap:=h'}:=I.kept (t':=s.toks) kp
  have I2:Inv X pins σ (upd H h'.objs.size (.tup ys)) { s with heap:=h'.push { cls:=.type "tuple",data:=.seq its.toArray}}:=
   I1.laid (t':=s.toks) (fun b o e=>am _ e) (ai _) (show ObjOk X.prog X.w _ _ _ (.tup ys) from ⟨hz,its,r',TupN.new _ _⟩)
  exact⟨.ref h'.objs.size,_,I2,rfl,q _ (I1.hok.fresh (ai _))⟩
 ·obtain⟨its,r',pl,hz⟩:=I.tuple hq
  exact call_tuple_same pl ⟨.ref p,H,I,rfl,q⟩
def tyV(K:ag)(T:String)(x:V)(H:Hp):Prop:=match x with
 | .str _=>T = "str"
 | .int _=>T = "int"
 | .ref p=>(T = "list" /\ ∃ xs,SqL K H p xs) \/ (T = "tuple" /\ ∃ o,K.lookup p=aa o/\o.cls=.type "tuple" /\ o.dict=ab) \/
   (T = "dict" /\ ((∃ kvs,Rd H p (.dK kvs)) \/ ∃ kvs,H p=aa (.dT kvs))) \/ (T = "set" /\ ∃ S n,H p=aa (.set S n))
 | _=>False
theorem tyV_is{pins:List (af × Obj)}{σ:St}{H:Hp}{s:ah}{T:String}{x:V}{v:ae}(I:Inv X pins σ H s)(r:RelV x v)(ty:tyV X.K T x H) :
  s.TypeIs v T/\∀ a,v=.ref a->∃ ob,s.heap.get? a=aa ob/\ob.dict=ab:=by
 cases x with
 | str z=>
  obtain⟨t,rfl⟩:=r
  cases (show T = "str" from ty)
  exact⟨typeIs_str s z t,fun _ e=>nomatch e⟩
 | int i=>
  obtain⟨t,rfl⟩:=r
  cases (show T = "int" from ty)
  exact⟨typeIs_int s i t,fun _ e=>nomatch e⟩
 | ref p=>
  cases r
  rcases ty with ⟨rfl,xs,hq⟩ | ⟨rfl,o,hk,hc,hd⟩ | ⟨rfl,hk⟩ | ⟨rfl,S,n,hk⟩
  ·obtain⟨its,_,pl,_⟩:=I.list hq
   refine⟨pl.isList.typeIs,fun a e=>?_⟩
   cases e
   obtain⟨o,n,e,c,hd,_⟩:=pl
   exact⟨o,e,hd⟩
  ·refine⟨⟨o,I.kIn p o hk,hc⟩,fun a e=>?_⟩
   cases e
   exact⟨o,I.kIn _ o hk,hd⟩
  ·have z:∃ o,s.heap.get? p=aa o/\o.ExactDict:=by
    rcases hk with ⟨kvs,hk⟩ | ⟨kvs,hk⟩
    ·obtain⟨_,_,_,_,o,_,_,e,ex,_⟩:=hk.ok I.hok
     exact⟨o,e,ex⟩
    ·obtain⟨_,_,_,_,o,_,_,e,ex,_⟩:=I.hok p _ hk
     exact⟨o,e,ex⟩
   obtain⟨o,e,ex⟩:=z
   refine⟨⟨o,e,ex.1⟩,fun a e2=>?_⟩
   cases e2
   exact⟨o,e,ex.2.1⟩
  ·obtain⟨o,_,_,_,e,ex,_⟩:=I.hok p _ hk
   refine⟨⟨o,e,ex.1⟩,fun a e2=>?_⟩
   cases e2
   exact⟨o,e,ex.2.1⟩
 | _=>exact bY ty
def tBM0(K:ag)(T:String)(r:V->List V->Hp->VK->Prop)(to:TE):TE:=fun σ H Q=>to σ H fun x H1=>tyV K T x H1/\r x [] H1 Q
def tBM(K:ag)(T:String)(r:V->List V->Hp->VK->Prop)(to:TE)(t:TA):TE:=fun σ H Q=>to σ H fun x H1=>tyV K T x H1/\t σ H1 fun xs H2=>r x xs H2 Q
variable {o e:Expr}{es:List Expr}{to:TE}{t:TA}{name:Str}{apos cpos:Pos}{T id:String}{r:V->List V->Hp->VK->Prop}
theorem pe_bm0(pa:PlainAttrs T)(slot:Slot T name id)(hty:typeOf (.builtin id)=pure (.type "method_descriptor"))(hm:MtR X id r)(ho:PE X o to)
  (hbase:bU o name X.env (eval o X.env)=eval o X.env:=by rfl) (hline:(apos.endLine == cpos.line)=true:=by rfl):PE X (.Call (.Attribute o name apos) [] [] cpos) (tBM0 X.K T r to):=by
 intro pins s σ H Q I h
 refine wpAny_Call_method0_late hbase hline (thn (ho pins s σ H _ I h) fun v s1 ⟨x,H1,I1,r1,ty,q1⟩=>?_)
 obtain⟨h1,h2⟩:=tyV_is I1 r1 ty
 exact⟨T,id,pa,slot,hty,h1,h2,eK rfl (PySem.evalArgs_none (hm pins s1 σ H1 x [] v [] Q I1 r1 .nil q1))⟩
theorem pe_bm(pa:PlainAttrs T)(slot:Slot T name id)(hty:typeOf (.builtin id)=pure (.type "method_descriptor"))(hm:MtR X id r)(ho:PE X o to)(ha:PA X (e :: es) t)
  (hbase:bU o name X.env (eval o X.env)=eval o X.env:=by rfl)
  (hfew:((backTo cpos (be (e :: es) X.env)).all (fun x=>!x.1) && (backToKw cpos (keywordEach [] X.env)).all (fun x=>x.1.isSome)
   && decide ((e :: es).length+([]:List Keyword).length+(if ([]:List Keyword).isEmpty then 0 else 1)<30))=true:=by rfl)
  (hline:(apos.endLine == cpos.line)=true:=by rfl) (hs:be (e :: es) X.env=(false,eval e X.env) :: be es X.env:=by rfl) (hplain:(backTo cpos (be es X.env)).any (·.1)=false:=by rfl) :
  PE X (.Call (.Attribute o name apos) (e :: es) [] cpos) (tBM X.K T r to t):=by
 intro pins s σ H Q I h
 refine wpAny_Call_method_late hbase hfew hline rfl (thn (ho pins s σ H _ I h) fun v s1 ⟨x,H1,I1,r1,ty,q1⟩=>?_)
 obtain⟨h1,h2⟩:=tyV_is I1 r1 ty
 refine⟨T,id,pa,slot,hty,h1,h2,?_⟩
 have hA:=ha cpos pins s1 σ H1 _ I1 q1
 rw[hs] at hA ⊢
 refine eK (by show(false || (backTo cpos (be es X.env)).any (·.1))=false;rw[hplain] <;> rfl) (hG ?_)
 exact thn hA fun us s2 ⟨vs,H2,I2,r2,q2⟩=>hm pins s2 σ H2 x vs v us Q I2 r1 r2 q2
end
end L2
namespace L2
open PySem PySem.Spec PyProof.Rows
def MtM(X:Cx)(id:String)(r:V->List V->Hp->VK->Prop):Prop:=
 ∀ (pins:List (af × Obj)) (s:ah) (σ:St) (H:Hp) (x:V) (xs:List V) (v:ae) (us:List ae) (Q:VK),Inv X pins σ H s->RelV x v->Vals xs us->r x xs H Q ->
  aI (model X.prog X.w) X.A (call (.builtin id) (v :: us)) (EP X pins σ Q) X.xe s
theorem Vals.one:∀ {x:V} {us:List ae},Vals [x] us->∃ u,us=[u]/\RelV x u
 | _,_,.cons r .nil=>⟨_,rfl,r⟩
theorem Vals.zero:∀ {us:List ae},Vals [] us->us=[]
 | _,.nil=>rfl
theorem Vals.dropLast{xs:List V}{us:List ae}(h:Vals xs us):Vals xs.dropLast us.dropLast:=by
 induction h with
 | nil=>exact .nil
 | cons r t ih=>
  cases t with
  | nil=>exact .nil
  | cons q t'=>exact .cons r ih
theorem Vals.rep{xs:List V}{us:List ae}(h:Vals xs us):∀ k:Nat,Vals (aD k xs).flatten (aD k us).flatten
 | 0=>.nil
 | k+1=>by
  rw[cJ,cJ,de,de]
  exact Vals.append h (Vals.rep h k)
theorem zja{α:Type}(l:List α):l.eraseIdx (l.length - 1)=l.dropLast:=by
 induction l with
 | nil=>rfl
 | cons a r ih=>
  cases r with
  | nil=>rfl
  | cons b r=>
   have e:(a :: b :: r).length - 1=((b :: r).length - 1)+1:=by
    have h1:(a :: b :: r).length=r.length+2:=rfl
    have h2:(b :: r).length=r.length+1:=rfl
    lia
   rw[e,List.eraseIdx_cons_succ,ih]
   all_goals rfl
theorem zhf(its:List ae):∀ (k:Nat) (acc:List ae),
  jd (fun x1 x2=>x1 ++ x2) acc.toArray (aD k its.toArray)=(acc ++ (aD k its).flatten).toArray
 | 0,acc=>by simp
 | k+1,acc=>by
  have e:acc.toArray ++ its.toArray=(acc ++ its).toArray:=by simp
  have e2:(acc ++ its) ++ (aD k its).flatten=acc ++ (aD (k+1) its).flatten:=by
   rw[cJ,de,b6]
  rw[<- e2,<- zhf its k (acc ++ its),<- e,cJ,cG]
section
variable {X:Cx}{pins:List (af × Obj)}{σ:St}{H:Hp}{s:ah}{l b:af}{xs ys zs:List V}
theorem Inv.lset{its its':List ae}{n:Nat}{f:Array ae->Array ae}{t':Nat}(I:Inv X pins σ H s)(hH:H l=aa (.lst xs))
  (e:s.heap.get? l=aa { cls:=.type "list",data:=.seq its.toArray n}) (hf:f its.toArray=its'.toArray) (hv:Vals ys its') (hz:ys.length<=aZ) :
  Inv X pins σ (upd H l (.lst ys)) { s with heap:=s.heap.update l (bP f),toks:=t'}:=by
 have q:=kT e f
 rw[hf] at q
 refine I.write (x:=l) (e:=l) (by rw[hH];exact trivial) (.inl rfl) (fun b' u hb hu=>(b9 s.heap (bP f) (cj hb)).trans hu) ⟨_,q⟩ ?_
 exact⟨hz,its',_,hv,q⟩
theorem Inv.lnew{its:List ae}{t':Nat}(I:Inv X pins σ H s)(hv:Vals ys its)(hz:ys.length<=aZ) :
  Inv X pins σ (upd H s.heap.objs.size (.lst ys)) { s with heap:=s.heap.push { cls:=.type "list",data:=.seq its.toArray},toks:=t'}:=
 I.laid (fun _ _ q=>am _ q) (ai _) ⟨hz,its,0,hv,aM _ rfl⟩
theorem Inv.fresh(I:Inv X pins σ H s):H s.heap.objs.size=ab:=I.hok.fresh (ai _)
theorem Inv.lstM(I:Inv X pins σ H s)(hH:H l=aa (.lst xs)):xs.length<=aZ/\∃ (its:List ae) (n:Nat),Vals xs its/\xs.length=its.length/\s.heap.get? l=aa { cls:=.type "list",data:=.seq its.toArray n}:=by
 obtain⟨z,its,n,r,e⟩:=I.hok l _ hH
 exact⟨z,its,n,r,r.length,e⟩
theorem notLongL{n:Nat}(h:n<=aZ):ed n=false:=by
 unfold ed
 exact decide_eq_false (by lia)
end
section
variable {X:Cx}
def rAppend:V->List V->Hp->VK->Prop:=fun x vs H Q=>∃ l xs y,x=.ref l/\vs=[y]/\H l=aa (.lst xs)/\xs.length<aZ/\Q .non (upd H l (.lst (xs ++ [y])))
theorem zfs:MtM X "list.append" rAppend:=by
 intro pins s σ H x vs v us Q I rx rv h
 obtain⟨l,xs,y,rfl,rfl,hH,hz,q⟩:=h
 cases rx
 obtain⟨u,rfl,ru⟩:=rv.one
 obtain⟨z,its,n,r,hl,e⟩:=I.lstM hH
 refine call_meets F.slot_list_append ⟨_,e,rfl⟩ F.entry_list_append (F.args_list_append_2 _ _) (PySem.list_append l its.toArray n u (by rw[a8];lia)) ⟨e,?_⟩
 refine⟨.non,_,I.lset (its':=its ++ [u]) hH e (by simp) (r.append (.cons ru .nil)) ?_,rfl,q⟩
 rw[aP,cA]
 lia
def rPop:V->List V->Hp->VK->Prop:=fun x vs H Q=>∃ l xs y,x=.ref l/\vs=[]/\H l=aa (.lst xs)/\xs[xs.length - 1]? = aa y/\Q y (upd H l (.lst xs.dropLast))
theorem mt_pop:MtM X "list.pop" rPop:=by
 intro pins s σ H x vs v us Q I rx rv h
 obtain⟨l,xs,y,rfl,rfl,hH,hy,q⟩:=h
 cases rx
 have hus:=rv.zero
 subst hus
 obtain⟨z,its,n,r,hl,e⟩:=I.lstM hH
 obtain⟨u,hu,ru⟩:=r.get hy
 have hy':its.toArray[its.toArray.size - 1]? = aa u:=by
  show its.toArray[its.length - 1]? = aa u
  rw[<- cQ,<- hl]
  exact hu
 refine call_meets F.slot_list_pop ⟨_,e,rfl⟩ F.entry_list_pop (F.args_list_pop_1 _) (MeetsSeq.list_pop_last l its.toArray n u hy' (by rw[a8];lia)) ⟨e,?_⟩
 refine⟨y,_,I.lset (its':=its.dropLast) hH e ?_ r.dropLast ?_,ru,q⟩
 ·show its.toArray.eraseIdxIfInBounds (its.toArray.size - 1)=its.dropLast.toArray
  rw[a8,List.eraseIdxIfInBounds_toArray,zja]
 ·rw[cF]
  lia
def rCat:R2:=fun x y H Q=>∃ l b xs zs,x=.ref l/\y=.ref b/\H l=aa (.lst xs)/\H b=aa (.lst zs)/\xs.length+zs.length<=aZ/\∀ p,H p=ab->Q (.ref p) (upd H p (.lst (xs ++ zs)))
theorem op_cat:OpR X (binaryOp .Add) rCat:=by
 intro pins s σ H x y v u Q I rx ry h
 obtain⟨l,b,xs,zs,rfl,rfl,hH,hB,hz,q⟩:=h
 cases rx
 cases ry
 obtain⟨z,its,n,r,hl,e⟩:=I.lstM hH
 obtain⟨z2,its2,n2,r2,hl2,e2⟩:=I.lstM hB
 refine PySem.P.add_list e e2 ?_ (by rw[a8,a8];lia)
 have ea:its.toArray ++ its2.toArray=(its ++ its2).toArray:=by simp
 rw[ea]
 exact⟨.ref _,_,I.lnew (t':=s.toks) (r.append r2) (by rw[aP];lia),rfl,q _ I.fresh⟩
def rRep:R2:=fun x y H Q=>∃ l k xs,x=.ref l/\y=.int k/\H l=aa (.lst xs) /\ -(2 ^ 63)<=k/\k<2 ^ 63/\xs.length * k.toNat<=aZ /\
 ∀ p,H p=ab->Q (.ref p) (upd H p (.lst (aD k.toNat xs).flatten))
theorem len_rep{α:Type}(xs:List α)(k:Nat):(aD k xs).flatten.length=k * xs.length:=by
 induction k with
 | zero=>simp
 | succ k ih=>rw[cJ,de,aP,ih,Nat.succ_mul,dO]
theorem op_rep:OpR X (binaryOp .Mult) rRep:=by
 intro pins s σ H x y v u Q I rx ry h
 obtain⟨l,k,xs,rfl,rfl,hH,h1,h2,hz,q⟩:=h
 cases rx
 obtain⟨t,rfl⟩:=ry
 obtain⟨z,its,n,r,hl,e⟩:=I.lstM hH
 have hlen:its.toArray.size * k.toNat<=aZ:=by rw[a8,<- hl];exact hz
 have hcap:¬ its.toArray.size * k.toNat > (2 ^ 63 - 1) / 8:=by
  have:(aZ:Nat)<=(2 ^ 63 - 1) / 8:=by decide
  lia
 have hfit:¬ (!Builtin.List.listFitsIndex k)=true:=by
  rw[fitsIndex_both h1 h2]
  exact aX
 have hlong:¬ ed (its.toArray.size * k.toNat)=true:=by
  rw[notLongL hlen]
  exact aX
 have hnew:jd (fun x1 x2=>x1 ++ x2) #[] (aD (if its.toArray.isEmpty=true then 0 else k.toNat) its.toArray)=(aD k.toNat its).flatten.toArray:=by
  have f0:∀ m:Nat,jd (fun x1 x2=>x1 ++ x2) #[] (aD m its.toArray)=(aD m its).flatten.toArray:=fun m=>by
   have:=zhf its m []
   rw[dz] at this
   exact this
  rw[f0]
  cases its with
  | nil=>simp
  | cons a r'=>rw[if_neg (by simp)]
 refine wpAny_binaryOp_repeat_ref (T:= "list") (U:= "int") (by decide) ⟨_,e,rfl⟩ (fun s'=>typeIs_int s' k t) noFill_list_mul F.fills_int_mul je repeat_list F.slot_int_index.lookup
  (call_meets je (typeIs_int s k t) F.entry_int_rmul (F.args_int_rmul_2 _ _) (int___rmul___int_list k t l its.toArray n)
   ⟨e,rfl,⟨_,e,rfl⟩,call_meets F.slot_list_mul ⟨_,e,rfl⟩ F.entry_list_mul (F.args_list_mul_2 _ _) (iY l its.toArray n k t hfit hcap hlong) ⟨e,?_⟩⟩)
 rw[hnew]
 exact⟨.ref _,_,I.lnew (t':=s.toks) (r.rep k.toNat) (by rw[len_rep,Nat.mul_comm];exact hz),rfl,q _ I.fresh⟩
end
section
variable {prog:aR}{w:aU}{A:a9}{E:ae->ah->Prop}{s:ah}
end
section
variable {X:Cx}
end
end L2
namespace Att
open PySem PySem.W PySem.Calls PyProof.Rows
theorem zfo{P:Params}{h:ba}:∀ (ns:List Int) (vs:List ae),WellAll P h vs (ns.map kK)->IntsAre vs ns:=by
 intro ns
 induction ns with
 | nil=>
  intro vs w
  rw[ci] at w
  cases w
  exact .nil
 | cons n ns ih=>
  intro vs w
  rw[ay] at w
  cases w with
  | cons a b=>
   cases a
   exact .cons _ _ (ih _ b)
theorem script_of{l:OpenLaw}{n:Nat}(hn:l.most=aa n){P:Params}{h:ba}{args:List WData}{vals:List ae}
  (hpre:l.row.toRowW.claim.pre args=true) (hwl:WellAll P h vals args) :
  ∃ a vs ns,vals=[bE a]/\args=[WData.list (ns.map kK)]/\h.get? a=aa { cls:=.type "list",data:=.seq vs.toArray}/\IntsAre vs ns/\ns.length<=n:=by
 have hsh:WShape.hasAll [] args [.list .int]=true:=(pre_splitW hpre).1
 have hc:l.pre.holds [] { args:=args}=true:=(pre_splitW hpre).2
 obtain⟨d,r,rfl,h1,h2⟩:=hasAllW_cons hsh
 obtain rfl:=hasAllW_nil h2
 obtain⟨xs,rfl,h3⟩:=hasW_list h1
 obtain⟨ns,rfl⟩:=items_int h3
 have hlen:ns.length<=n:=by
  unfold OpenLaw.pre at hc
  have h4:(WTm.not (.lt (.lit (.int (n:Int))) (.len (.arg 0)))).holds [] { args:=[.list (ns.map .int)]}=true:=by
   have h4:=(holds_andW hc).1
   rw[hn] at h4
   exact h4
  have h5:=condW_of h4 (w_not (w_lt w_lit (w_len_list (w_arg rfl))))
  rw[aq] at h5
  refine Nat.le_of_not_lt fun q=>?_
  have q':(n:Int)<((ns.length:Nat):Int):=by lia
  first
   | (rw[decide_eq_true q'] at h5;exact absurd h5 (by decide))
   | (simp at h5;lia)
 cases hwl with
 | cons w1 w2=>
  cases w2
  cases w1 with
  | list ho hall=>exact⟨_,_,ns,rfl,rfl,ho,zfo ns _ hall,hlen⟩
theorem post_true(l:OpenLaw)(args:List WData):l.row.toRowW.claim.post args (.bool true) args=true:=
 postW_of (r:=l.row.toRowW) (X:=(true == true))
  (show kt [] (.bool true) .bool=true by first | rfl | decide | simp[kt,WShape.arms,WShape.armsAll])
  (show(WTm.eq .res (.lit (.bool true))).value [] { args:=args,res:=aa (.bool true),after:=args}=aa (.bool (true == true)) from w_eq_bool (w_res rfl) w_lit) rfl
theorem attach_call{l:OpenLaw}{n:Nat}{q:aR}{loose:List Str}{XP:(Str->Option ae)->ba->Prop}{YP:aU->ba->Prop}{d:DefRec}
  (hn:l.most=aa n) (hdf:d.params.defaults=[])
  (call:∀ (w:aU) (s₀ s₁:ah) (mg mb:Str->Option ae) (fa:af) (o:Obj) (pm cd doc:ae) (a:af) (vs:List ae) (ns:List Int),
   Ground q loose [] XP w s₀ mg mb s₁.heap->YP w s₁.heap ->
   s₁.heap.get? fa=aa o->o.data=.func (docDef d.name d.params d.body d.scope pm cd doc)->s₁.heap.CodeRec cd d.name->mg d.name=aa (.ref fa) ->
   s₁.heap.get? a=aa { cls:=.type "list",data:=.seq vs.toArray}->IntsAre vs ns->ns.length<=n->s₁.gens=#[] ->
   codeAny (model l.prog w) callerA (.call (.ref fa) ⟨[.ref a],[]⟩) (fun r s'=>r=.ok (.ret (.bool true))/\OldK s₁.heap s'.heap/\s'.os=s₁.os/\AllBare s'.gens) s₁) :
  WalkO q loose XP YP l.row.toRowW d [] (fun f vs=>jf f vs):=by
 intro w s₀ s₁ mg mb G Y fa o pm cd doc dV kV ho hd hcd hD hmg hg args vals as hpre hlay hrd hwl hlo
 obtain rfl:dV=.none:=Dflts.none hD hdf
 obtain rfl:kV=.none:=Dflts.noKw hD
 obtain⟨a,vs,ns,rfl,rfl,hobj,hints,hlen⟩:=script_of hn hpre hwl
 refine enter_call (codeAny_mono (call w s₀ s₁ mg mb fa o pm cd doc a vs ns G Y ho (fd_plain hd) hcd hmg hobj hints hlen hg) fun r s' hq=>?_)
 obtain⟨rfl,h2,h3,h4⟩:=hq
 exact⟨.inl ⟨.bool true,.bool true,[],rfl,fun _=>rfl,.bool true,post_true l _,fun _=>⟨kO,fun _ hm=>(nomatch hm)⟩⟩,h2,h3,h4⟩
section
variable {prog:aR}{w:aU}{A:a9}{E:ae->ah->Prop}{s:ah}{K:Frag}
end
end Att
namespace L2
open PySem PySem.Spec PyProof.Rows
theorem zgJ:∀ {vs:List ae} {ns:List Int},IntsAre vs ns->Vals (ns.map V.int) vs
 | _,_,.nil=>.nil
 | _,_,.cons n t h=>.cons ⟨t,rfl⟩ (zgJ h)
def Only(H:Hp):Prop:=∀ b,H b=ab \/ ∃ o xs,H b=aa (.frz o (.lst xs))
theorem law_call{P:aR}{w:aU}{K:ag}{mg mb:Str->Option ae}{CX:CXT}{k:Nat}{fa a:af}{fd:bD}{x:Str}{sp:Sp}{s₁:ah}{vs:List ae}{ns:List Int}
  (KX:K.In s₁.heap) (hns:s₁.heap.Ns av mg) (hb:s₁.heap.Ns builtinsNs mb) (hbb:∀ x:Str,x ≠ "__name__" -> mb x=bn x) (hlim:s₁.heap.NoLimit) (hg:s₁.gens=#[])
  (ha:s₁.heap.get? a=aa { cls:=.type "list",data:=.seq vs.toArray}) (hi:IntsAre vs ns) (hl:ns.length<=aZ) (hr:Room k callerA)
  (F:∀ base:ba,K.In base->base.Ns av mg->FnOk P w K mg base CX k fa fd [x] sp) (hbind:∀ (s:ah) (u:ae),BindsTo s fd ⟨[u],[]⟩ [(x,u)])
  (hsp:∀ H:Hp,Only H->SqL K H a (ns.map V.int)->sp [.ref a] H (fun v _=>v=.bl true) fun _ _ _=>False)
  (hCX:∀ H e s',CX [] H s₁ (fun _ _ _=>False) e s'->False) :
  codeAny (model P w) callerA (.call (.ref fa) ⟨[.ref a],[]⟩) (fun r s'=>r=.ok (.ret (.bool true))/\OldK s₁.heap s'.heap/\s'.os=s₁.os/\AllBare s'.gens) s₁:=by
 have rv:=zgJ hi
 have lenV:=hi.length
 have core:∀ H:Hp,Only H->SqL K H a (ns.map V.int)->HOk P w H s₁.heap->(∀ b,H b ≠ ab->b=a)->(H a ≠ ab->K.lookup a=ab) ->
   codeAny (model P w) callerA (.call (.ref fa) ⟨[.ref a],[]⟩) (fun r s'=>r=.ok (.ret (.bool true))/\OldK s₁.heap s'.heap/\s'.os=s₁.os/\AllBare s'.gens) s₁:=by
  intro H hO hS hok hA hK
  have base_of:∀ {b:af} {o:Obj},s₁.heap.get? b=aa o->H b=ab->(hidT s₁.heap H).get? b=aa o:=fun e n=>hidT_get e n
  have noA:∀ {b:af} {o:Obj} {es:Array DictEntry} {ep:Nat},s₁.heap.get? b=aa o->o.data=.dict es ep->H b=ab:=fun {b o es ep} e d=>by
   cases q:H b with
   | none=>rfl
   | some u=>
    have e':b=a:=hA b (by rw[q];simp)
    subst e'
    rw[ha] at e;cases e
    have d':kR vs.toArray _=Data.dict es ep:=d
    cases d'
  have nsK:∀ {b:af} {m:Str->Option ae},s₁.heap.Ns b m->(hidT s₁.heap H).Ns b m:=fun {b m} ⟨o,es,ep,e,d,r⟩=>⟨o,es,ep,base_of e (noA e d),d,r⟩
  have hKb:K.In (hidT s₁.heap H):=fun b o e=>base_of (KX b o e) (by
   cases q:H b with
   | none=>rfl
   | some u=>
    have e':b=a:=hA b (by rw[q];simp)
    subst e'
    rw[hK (by rw[q];simp)] at e;cases e)
  have hM:Mod K mg (hidT s₁.heap H):=⟨hKb,nsK hns,⟨mb,nsK hb,hbb⟩,let⟨mc,h1,h2⟩:=hlim;⟨mc,nsK h1,h2⟩⟩
  have e0:Env0 P w K mg (hidT s₁.heap H) callerA [] s₁ H:=⟨rfl,hM,fun b o e=>of_hidT e,dM (hidT_size _ _),trivial,fun b hb=>absurd (show b ∈ ([]:List af) from hb) (by simp),hok,.of_eq hg⟩
  refine codeAny_mono ((F _ hKb (nsK hns)).run callerA [] s₁ H ⟨[.ref a],[]⟩ [.ref a] [.ref a] _ _ hr e0 (hbind s₁ (.ref a)) (.cons rfl .nil) (hsp H hO hS)) fun r s' h=>?_
  cases r with
  | error e=>exact(hCX H e s' h).elim
  | ok fl=>
   cases fl with
   | next=>exact bY h
   | brk=>exact bY h
   | cont=>exact bY h
   | ret u=>
    obtain⟨v,H',os,bare,un,hok',r',q⟩:=h
    have q':v=.bl true:=q
    subst q'
    obtain rfl:u=g7 true:=r'
    refine⟨rfl,OldK.of_keep fun b o e=>?_,os,bare⟩
    cases q:H b with
    | none=>exact un.keep b o e q (by intro z;exact absurd (show b ∈ ([]:List af) from z) (by simp)) (by simp)
    | some u=>
     rcases hO b with z | ⟨ob,xs,z⟩
     ·rw[q] at z;cases z
     ·have z2:=un.frzs b ob _ z
      obtain⟨e1,_⟩:=hok b _ z
      obtain⟨e2,_⟩:=hok' b _ z2
      rw[e] at e1;cases e1
      exact e2
 cases hk:K.lookup a with
 | some o=>
  have e:=KX a o hk
  rw[ha] at e
  cases e
  refine core (fun _=>ab) (fun _=>.inl rfl) (.inr ⟨_,vs.toArray,_,hk,rfl,rfl,rfl,by rw[a8,lenV];exact hl,by simpa using rv⟩) (fun b u z=>by have z':(ab:Option HO)=aa u:=z;cases z') (fun b z=>absurd rfl z) fun z=>absurd rfl z
 | none=>
  refine core (fun b=>if b=a then aa (.frz { cls:=.type "list",data:=.seq vs.toArray} (.lst (ns.map V.int))) else ab) (fun b=>?_) (.inl (.inr ⟨{ cls:=.type "list",data:=.seq vs.toArray},if_pos rfl⟩)) (fun b u z=>?_) (fun b z=>?_) fun _=>hk
  ·by_cases hb:b=a
   ·exact .inr ⟨_,_,if_pos hb⟩
   ·exact .inl (if_neg hb)
  ·by_cases hb:b=a
   ·have z':=(if_pos hb).symm.trans z
    cases z'
    subst hb
    exact⟨ha,by rw[aq];exact hl,vs,_,rv,ha⟩
   ·have z':=(if_neg hb).symm.trans z
    cases z'
  ·by_cases hb:b=a
   ·exact hb
   ·exact absurd (if_neg hb) z
end L2
namespace L2
open PySem PySem.Spec PyProof.Rows
theorem walk_of{l:gI}{n k:Nat}{q:aR}{loose:List Str}{XP:(Str->Option ae)->ba->Prop}{YP:aU->ba->Prop}{d:DefRec}{K:Params->ag}{CX:aU->CXT}{sp:aU->Sp}{x:Str}
  (hn:l.most=aa n) (hn2:n<=aZ) (hdf:d.params.defaults=[]) (hr:Room k callerA)
  (hY:∀ (w:aU) (h:ba),YP w h->(K w.params).In h)
  (F:∀ (w:aU) (mg:Str->Option ae) (fa:af) (h:ba),(K w.params).In h->h.Ns av mg->mg d.name=aa (.ref fa) ->
   ∃ fd:bD,(∀ (s:ah) (u:ae),BindsTo s fd ⟨[u],[]⟩ [(x,u)]) /\
    ∀ base:ba,(K w.params).In base->base.Ns av mg->FnOk l.prog w (K w.params) mg base (CX w) k fa fd [x] (sp w))
  (hsp:∀ (w:aU) (H:Hp) (a:af) (ns:List Int),ns.length<=n->Only H->SqL (K w.params) H a (ns.map V.int)->sp w [.ref a] H (fun v _=>v=.bl true) fun _ _ _=>False)
  (hCX:∀ (w:aU) (H:Hp) (s:ah) (e:ae) (s':ah),CX w [] H s (fun _ _ _=>False) e s'->False) :
  jx q loose XP YP l.row.toRowW d [] (fun f vs=>jf f vs):=by
 refine Att.attach_call hn hdf fun w s₀ s₁ mg mb fa o pm cd doc a vs ns G Y ho hd hcd hmg hobj hints hlen hg=>?_
 have KX:=hY w _ Y
 obtain⟨fd,hb,hF⟩:=F w mg fa _ KX G.T.g hmg
 exact law_call KX G.T.g G.T.b G.T.builtins G.T.nolimit hg hobj hints (aL hlen hn2) hr hF hb (fun H hO hS=>hsp w H a ns hlen hO hS) fun H e s'=>hCX w H s₁ e s'
end L2
namespace L2
open PySem PySem.Spec PyProof.Rows
def zai(s:Stmt):Arguments:=match s with
 | .FunctionDef _ a _ _ _ _ _ _ _ _=>a
 | _=>{ posonlyargs:=[],args:=[],vararg:=ab,kwonlyargs:=[],kw_defaults:=[],kwarg:=ab,defaults:=[]}
def zag(s:Stmt):List Stmt:=match s with
 | .FunctionDef _ _ b _ _ _ _ _ _ _=>b
 | _=>[]
def zad(s:Stmt):Scope:=match s with
 | .FunctionDef _ _ _ _ _ _ sc _ _ _=>sc
 | _=>{ kind:=.function,names:=[],isGenerator:=false,isCoroutine:=false}
abbrev CX0:CXT:=fun _ _ _ _ _ _=>False
abbrev E0:XK:=fun _ _ _=>False
theorem zaI{X:Cx}:zcU CX0 X E0:=fun _ _ _ _ _ _ _ h=>h.elim
structure Fun(K:ag)(x qual:Str)(st:Stmt)(f:af)(fd:bD):Prop where
 ex:∃ (oc:ae) (od:Option af) (kV doc pm:ae) (an:Option af) (cdv ct:ae) (osl:Array (Option ae)),
  fd=aK x qual (zai st) (zag st) (zad st) .none kV doc pm an cdv ct/\K.lookup f=aa ⟨oc,od,.func fd,osl⟩/\aG K cdv qual=true
 kp:aB K (.ref f)=true
section
variable {P:aR}{w:aU}{K:ag}{mg:Str->Option ae}{base:ba}
theorem Fun.binds{x qual:Str}{st:Stmt}{f:af}{fd:bD}{ps:List Str}(F:Fun K x qual st f fd)
  (h:∀ (kV doc pm:ae) (an:Option af) (cdv ct:ae) (us:List ae),us.length=ps.length->bindArgs (aK x qual (zai st) (zag st) (zad st) .none kV doc pm an cdv ct) ⟨us,[]⟩=pure (ps.zip us)):Binds K fd ps []:=by
 obtain⟨oc,od,kV,doc,pm,an,cdv,ct,osl,rfl,lk,hcd⟩:=F.ex
 exact .all (h kV doc pm an cdv ct)
theorem zaG{x qual:Str}{st:Stmt}{f:af}{oc:ae}{od an:Option af}{osl:Array (Option ae)}{kV doc pm cdv ct:ae}(l:K.lookup f=aa ⟨oc,od,.func (aK x qual (zai st) (zag st) (zad st) .none kV doc pm an cdv ct),osl⟩)
  (c:aG K cdv qual=true) (k:aB K (.ref f)=true):Fun K x qual st f (aK x qual (zai st) (zag st) (zad st) .none kV doc pm an cdv ct):=⟨⟨oc,od,kV,doc,pm,an,cdv,ct,osl,rfl,l,c⟩,k⟩
end
theorem zbv{A:a9}{k:Nat}(hr:Room k A):A.units+1<cLine:=ef (dt (by decide:1<=64) _) hr.units
theorem small1000{n:Nat}(h:n<=1000):n<aZ:=ef h (by decide)
section
variable {X:Cx}
end
theorem iteF{A B:Prop}(h:B):if false=true then A else B:=by
 rw[if_neg aX]
 exact h
theorem iteT{A B:Prop}(h:A):if true=true then A else B:=by
 rw[if_pos rfl]
 exact h
def Same(H H':Hp):Prop:=∀ b o,H b=aa o->H' b=aa o
theorem Same.refl(H:Hp):Same H H:=fun _ _ h=>h
theorem Same.trans{H H1 H2:Hp}(a:Same H H1)(b:Same H1 H2):Same H H2:=fun c o h=>b c o (a c o h)
theorem Same.free{H H':Hp}(e:Same H H'){l:af}(h:H' l=ki):H l=ki:=by
 cases q:H l with
 | none=>rfl
 | some o=>
  rw[e l o q] at h
  cases h
theorem Same.seq{K:ag}{H H':Hp}{a:af}{xs:List V}(e:Same H H')(h:SqL K H a xs):SqL K H' a xs:=by
 rcases h with (h | ⟨o,h⟩) | h
 ·exact .inl (.inl (e _ _ h))
 ·exact .inl (.inr ⟨o,e _ _ h⟩)
 ·exact .inr h
end L2

namespace L2
open PySem PySem.Spec PyProof.Rows
theorem zi4{α β:Type}{l:List α}{f:α->β->Sem (ForInStep β)}(g:β->α->β)(h:∀ x ∈ l,∀ c,f x c=pure (.yield (g c x)))(c:β):forIn l c f=pure (l.foldl g c):=by
 induction l generalizing c with
 | nil=>rfl
 | cons x l ih=>
  rw[jg,h x aw,pure_bind]
  exact ih (fun y hy=>h y (al _ hy)) _
def clG(env:Env)(cs:List (Str × af))(x:Str × NameKind):List (Str × af):=
 if (x.2 == bC)=true then (match env.cells.lookup x.1 with | some c=>(x.1,c) :: cs | none=>cs) else cs
def clOf(env:Env)(names:List (Str × NameKind)):List (Str × af):=names.foldl (clG env) []
theorem zjD{scope:Scope}{env:Env}(h:∀ y ∈ scope.names,y.2=.free->∃ c,env.cells.lookup y.1=aa c):closureFor scope env=pure (clOf env scope.names):=by
 simp only[closureFor]
 rw[zi4 (clG env) (fun x hx c=>by
  obtain⟨n,k⟩:=x
  cases hk:(k == bC) with
  | false=>simp only[clG,hk,bG,if_false]
  | true=>
   have e:k=.free:=by cases k <;> first | rfl | (exact absurd hk (by decide))
   obtain⟨c0,hc⟩:=h _ hx e
   simp only[clG,hk,if_true,cellOf,hc,pure_bind])]
 rfl
theorem cl_sub{env:Env}:∀ (names:List (Str × NameKind)) (cs:List (Str × af)),(∀ y c,cs.lookup y=aa c->env.cells.lookup y=aa c) ->
  ∀ y c,(names.foldl (clG env) cs).lookup y=aa c->env.cells.lookup y=aa c
 | [],_,h,y,c,e=>h y c e
 | (n,k) :: r,cs,h,y,c,e=>by
  refine cl_sub r (clG env cs (n,k)) (fun z d hz=>?_) y c e
  unfold clG at hz
  split at hz
  ·cases q:env.cells.lookup n with
   | none=>simp only[q] at hz;exact h z d hz
   | some c0=>
    simp only[q,bN] at hz
    cases hb:z == n with
    | true=>
     simp only[hb] at hz
     cases hz
     have:z=n:=by simpa using hb
     rw[this];exact q
    | false=>simp only[hb] at hz;exact h z d hz
  ·exact h z d hz
theorem cl_has{env:Env}:∀ (names:List (Str × NameKind)) (cs:List (Str × af)) (y:Str),(∃ c,env.cells.lookup y=aa c)->((∃ c,cs.lookup y=aa c) \/ (y,bC) ∈ names) ->
  ∃ c,(names.foldl (clG env) cs).lookup y=aa c
 | [],_,_,_,h=>by
  rcases h with h | h
  ·exact h
  ·cases h
 | (n,k) :: r,cs,y,hc,h=>by
  refine cl_has r (clG env cs (n,k)) y hc ?_
  have keep:(∃ c,cs.lookup y=aa c)->∃ c,(clG env cs (n,k)).lookup y=aa c:=fun⟨c,e⟩=>by
   unfold clG
   split
   ·cases q:env.cells.lookup n with
    | none=>exact⟨c,e⟩
    | some c0=>
     show ∃ c,b5 y ((n,c0) :: cs)=aa c
     rw[bN]
     cases y == n with
     | true=>exact⟨c0,rfl⟩
     | false=>exact⟨c,e⟩
   ·exact⟨c,e⟩
  rcases h with h | h
  ·exact .inl (keep h)
  ·rcases aY.mp h with h | h
   ·cases h
    left
    obtain⟨c0,q⟩:=hc
    unfold clG
    rw[if_pos (by rfl)]
    show ∃ c,b5 n (match env.cells.lookup n with | some c=>(n,c) :: cs | none=>cs)=aa c
    rw[q]
    refine⟨c0,?_⟩
    show b5 n ((n,c0) :: cs)=aa c0
    rw[bN]
    simp
   ·exact .inr h
theorem zeO{env:Env}:∀ {names:List (Str × NameKind)} {x:Str},names.lookup x=aa .free ->
  (names.map fun(n,k)=>if (k == bC && env.scope.kind == .function && env.kindOf n == aa .cell) then (n,cO) else (n,k)).lookup x=aa .cell \/
  (names.map fun(n,k)=>if (k == bC && env.scope.kind == .function && env.kindOf n == aa .cell) then (n,cO) else (n,k)).lookup x=aa .free
 | [],_,h=>by simp at h
 | (n,k) :: r,x,h=>by
  have ih:=@zeO env r x
  show b5 x ((if (k == bC && env.scope.kind == .function && env.kindOf n == aa .cell)=true then (n,cO) else (n,k)) :: _)=_ \/ b5 x ((if (k == bC && env.scope.kind == .function && env.kindOf n == aa .cell)=true then (n,cO) else (n,k)) :: _)=_
  cases hx:x == n with
  | true=>
   simp only[bN,hx] at h
   cases h
   by_cases hc:(bC == bC && env.scope.kind == .function && env.kindOf n == aa .cell)=true
   ·rw[if_pos hc];left;simp only[bN,hx]
   ·rw[if_neg hc];right;simp only[bN,hx]
  | false=>
   simp only[bN,hx] at h
   by_cases hc:(k == bC && env.scope.kind == .function && env.kindOf n == aa .cell)=true
   ·rw[if_pos hc];simp only[bN,hx];exact ih h
   ·rw[if_neg hc];simp only[bN,hx];exact ih h
theorem zeN{env:Env}:∀ {names:List (Str × NameKind)} {x:Str},(∀ y ∈ names,y.2 ≠ .cell) ->
  ((names.map fun(n,k)=>if (k == bC && env.scope.kind == .function && env.kindOf n == aa .cell) then (n,cO) else (n,k)).lookup x=aa .cell \/
  (names.map fun(n,k)=>if (k == bC && env.scope.kind == .function && env.kindOf n == aa .cell) then (n,cO) else (n,k)).lookup x=aa .free)->names.lookup x=aa .free
 | [],_,_,h=>by rcases h with h | h <;> simp at h
 | (n,k) :: r,x,hnc,h=>by
  have ih:=@zeN env r x fun y hy=>hnc y (al _ hy)
  have h':b5 x ((if (k == bC && env.scope.kind == .function && env.kindOf n == aa .cell)=true then (n,cO) else (n,k)) :: (r.map fun(n,k)=>if (k == bC && env.scope.kind == .function && env.kindOf n == aa .cell) then (n,cO) else (n,k)))=aa .cell \/ b5 x ((if (k == bC && env.scope.kind == .function && env.kindOf n == aa .cell)=true then (n,cO) else (n,k)) :: (r.map fun(n,k)=>if (k == bC && env.scope.kind == .function && env.kindOf n == aa .cell) then (n,cO) else (n,k)))=aa .free:=h
  rw[bN]
  cases hx:x == n with
  | true=>
   have hk:k=.free:=by
    by_cases hc:(k == bC && env.scope.kind == .function && env.kindOf n == aa .cell)=true
    ·cases k <;> first | rfl | (simp at hc)
    ·rw[if_neg hc] at h'
     simp only[bN,hx] at h'
     rcases h' with h' | h'
     ·exact absurd (bf h') (hnc (n,k) aw)
     ·exact bf h'
   rw[hk]
  | false=>
   by_cases hc:(k == bC && env.scope.kind == .function && env.kindOf n == aa .cell)=true
   ·rw[if_pos hc] at h'
    simp only[bN,hx] at h'
    exact ih h'
   ·rw[if_neg hc] at h'
    simp only[bN,hx] at h'
    exact ih h'
structure CompSc(X:Cx)(N:List Str)(fr:List Nat)(x:Str)(scope:Scope):Prop where
 kind:scope.kind=.function
 chk:(scope.names.all fun y=>match y.2 with
  | .cell=>false
  | .local=>scope.names.lookup y.1 == aa .local
  | .free=>X.env.scope.names.lookup y.1 == aa .cell || X.env.scope.names.lookup y.1 == aa .free
  | _=>true)=true
 tg:scope.names.lookup x=aa .local
 nd:N.Nodup
 nm:N.map aa=aa x :: fr.map (fun i=>X.N[i]?)
 nf:(N.tail.all fun y=>scope.names.lookup y == aa .free)=true
theorem zcM{o:Option NameKind}{k:NameKind}(h:(o == aa k)=true):o=aa k:=by
 cases o with
 | none=>cases h
 | some j=>
  have:(j == k)=true:=h
  cases j <;> cases k <;> first | rfl | (exact absurd this (by decide))
section
variable {X:Cx}{N:List Str}{fr:List Nat}{x:Str}{scope:Scope}
theorem CompSc.ncell(S:CompSc X N fr x scope):∀ y ∈ scope.names,y.2 ≠ .cell:=fun y hy e=>by
 have h:=cD.mp S.chk y hy
 obtain⟨n,k⟩:=y
 cases (show k=.cell from e)
 exact absurd h (by simp)
theorem CompSc.loc(S:CompSc X N fr x scope):∀ y ∈ scope.names,y.2=.local->scope.names.lookup y.1=aa .local:=fun y hy e=>by
 have h:=cD.mp S.chk y hy
 obtain⟨n,k⟩:=y
 cases (show k=.local from e)
 exact zcM h
theorem CompSc.free(S:CompSc X N fr x scope):∀ y ∈ scope.names,y.2=.free->X.env.kindOf y.1=aa .cell \/ X.env.kindOf y.1=aa .free:=fun y hy e=>by
 have h:=cD.mp S.chk y hy
 obtain⟨n,k⟩:=y
 cases (show k=.free from e)
 have h':(X.env.scope.names.lookup n == aa .cell || X.env.scope.names.lookup n == aa .free)=true:=h
 rcases Bool.or_eq_true_iff.mp h' with h' | h'
 ·exact .inl (zcM h')
 ·exact .inr (zcM h')
end
def zgG(fr:List Nat)(σ:St):St:=fr.map fun i=>(σ[i]?).join
def cxC(X:Cx)(N:List Str)(scope:Scope)(C:af)(s₀:ah)(H₀:Hp)(fp:List af):Cx:=
 { X with N:=N,s₀:=s₀,H₀:=H₀,env:=compEnvC scope (clOf X.env scope.names) C X.env,outer:=X.stack,ex:=fp,fn:=fun _=>false,pn:=[],xe:=fun _ _=>False}
def PTs(X:Cx)(ifs:List Expr)(t:TT):Prop:=
 ∀ (pins:List (af × Obj)) (s:ah) (σ:St) (H:Hp) (Q:Bool->Hp->Prop),Inv X pins σ H s->t σ H Q ->
  aI (model X.prog X.w) X.A (forIn ifs true fun c r=>if r=true then do let ok <- isTrue c X.env (eval c X.env);pure (jh ok) else pure (jh r)) (TP X pins σ Q) X.xe s
def tNoIf:TT:=fun _ H Q=>Q true H
theorem pts_nil{X:Cx}:PTs X [] tNoIf:=fun _ _ _ H _ I h=>by
 rw[jp]
 exact aE ⟨H,I,h⟩
theorem pts_one{X:Cx}{c:Expr}{t:TT}(h:PT X c t):PTs X [c] t:=fun pins s σ H Q I hw=>by
 rw[jg,if_pos rfl]
 refine aj (aj (thn (h pins s σ H Q I hw) fun ok s1 q=>aE ?_))
 show aI _ _ (forIn ([]:List Expr) ok _) _ _ _
 rw[jp]
 exact aE q
def lcW(fr:List Nat)(tt:TT)(te:TE)(J:It)(σ:St)(H1:Hp)(R:af->Hp->Prop):Prop:=
 ∀ a,H1 a=ab->∃ W:Nat->Nat->List V->Hp->Prop,(∃ m,W 0 m [] (upd H1 a (.lst [])))/\∀ i m ys H,W i m ys H ->
  (J.stop i H/\R a H) \/ (J.go i H/\∀ x H',J.yld i H x H'->tt (aa x :: zgG fr σ) H' fun b H2=>
   if b=true then te (aa x :: zgG fr σ) H2 fun y H3=>H3 a=aa (.lst ys)/\ys.length<aZ/\∃ m',m'<m/\W (i+1) m' (ys ++ [y]) (upd H3 a (.lst (ys ++ [y])))
   else ∃ m',m'<m/\W (i+1) m' ys H2)
def tLC(fr:List Nat)(wi:TI)(tt:TT)(te:TE):TE:=fun σ H Q=>wi σ H fun J H1=>lcW fr tt te J σ H1 fun a H2=>Q (.ref a) H2
section
variable {X:Cx}{N:List Str}{fr:List Nat}{x:Str}{scope:Scope}{pins:List (af × Obj)}{σ:St}{H:Hp}{s:ah}
theorem comp_inv(S:CompSc X N fr x scope){fp:List af}{h₁:ba}{tk:Nat}(I:Inv X pins σ H s)(hf:∀ b ∈ fp,zi5 X pins H b)(hfo:∀ b ∈ fp,b<s.heap.objs.size)
  (hns:h₁.Ns s.heap.objs.size fun y=>([]:List (Str × ae)).reverse.lookup y) (old:∀ b o,s.heap.get? b=aa o->h₁.get? b=aa o) :
  Inv (cxC X N scope s.heap.objs.size s H fp) [] (ab :: zgG fr σ) H { s with heap:=h₁,toks:=tk}:=by
 have sub:∀ y c,(clOf X.env scope.names).lookup y=aa c->X.env.cells.lookup y=aa c:=cl_sub scope.names [] (fun _ _ z=>by cases z)
 have has:∀ y,(y,bC) ∈ scope.names->∃ c,(clOf X.env scope.names).lookup y=aa c:=fun y hy=>cl_has scope.names [] y (I.ok.has y (S.free _ hy rfl)) (.inr hy)
 have celK:∀ c v,s.heap.IsCell c v->h₁.IsCell c v:=fun c v ⟨o,ho,hd⟩=>⟨o,old c o ho,hd⟩
 have hlen:N.length=fr.length+1:=by
  have:=congrArg eJ S.nm
  simpa using this
 refine⟨⟨I.ok.mod,S.kind,I.ok.glob,I.ok.blt,ai _,fun y z c h1 h2=>I.ok.inj y z c (sub y c h1) (sub z c h2),fun y hy=>?_,fun y c hy _=>(by cases hy),I.ok.hd,I.ok.frames,.inl rfl,fun b hb=>⟨bp (hfo b hb),fun y c e=>(hf b hb).2.2.2.2.1 y c (sub y c e)⟩,
  I.bs,aL I.ok.bsz I.sz,fun b o e hb=>?_,fun b hb hfs=>?_,I.stack,I.stkFree⟩,rfl,I.bare,Un.kept old,⟨_,hns,fun i y v e1 e2 e3=>?_⟩,fun y c e=>?_,I.hok.fresh (ai _),fun y c e=>I.freeC y c (sub y c e),fun p hp=>absurd (show p ∈ ([]:List (af × Obj)) from hp) (by simp),I.hok.kept old,?_⟩
 ·exact has y (cx (zeN S.ncell hy))
 ·rcases (hf b hb).2.2.2.1 with z | z
  ·exact I.ok.noex b o e z
  ·exact absurd (aW (aN e) (aL I.ok.bsz z)) (cc _)
 ·rcases aY.mp (I.stkSub b hfs) with z | z
  ·exact(hf b hb).2.1 z
  ·exact(hf b hb).2.2.1 z
 ·cases i with
  | zero=>simp at e2
  | succ j=>
   have e1':N[j+1]? = aa y:=e1
   have q1:(N.map aa)[j+1]? = aa (aa y):=by rw[ax,e1'];rfl
   rw[S.nm,c8,ax] at q1
   have e2':(zgG fr σ)[j]? = aa (aa v):=by simpa using e2
   unfold zgG at e2'
   rw[ax] at e2'
   cases q:fr[j]? with
   | none=>rw[q] at q1;cases q1
   | some i'=>
    rw[q] at q1 e2'
    have n1:X.N[i']? = aa y:=bf q1
    have n2:(σ[i']?).join=aa v:=bf e2'
    have n3:σ[i']? = aa (aa v):=by
     cases q':σ[i']? with
     | none=>rw[q'] at n2;cases n2
     | some o=>rw[q'] at n2;rw[show o=aa v from n2]
    have hy:y ∈ N.tail:=by
     have:N.tail[j]? = aa y:=by rw[List.getElem?_tail];exact e1'
     exact cg this
    have hfree:scope.names.lookup y=aa .free:=zcM (cD.mp S.nf y hy)
    have hk:=S.free _ (cx hfree) rfl
    obtain⟨m,hn,hl⟩:=I.loc
    obtain⟨u,r,l⟩:=hl i' y v n1 n3 (hk.elim (fun z=>.inr (.inl z)) fun z=>.inr (.inr z))
    refine⟨u,r,.inr ⟨zeO hfree,?_⟩⟩
    rcases l with ⟨k,_⟩ | ⟨k,c,ec,hc⟩
    ·rcases hk with z | z <;> (rw[show X.env.kindOf y=aa .local from k] at z;cases z)
    ·obtain⟨c',ec'⟩:=has y (cx hfree)
     have:c'=c:=bf ((sub y c' ec').symm.trans ec)
     rw[this] at ec'
     exact⟨c,ec',celK c _ hc⟩
 ·obtain⟨v,z⟩:=I.cell y c (sub y c e)
  exact⟨v,celK c v z⟩
 ·show(ab :: zgG fr σ).length=N.length
  rw[hlen]
  simp[zgG]
theorem zjA{fp:List af}{σ':St}{pins':List (af × Obj)}{H':Hp}{s':ah}{C:af}(I:Inv X pins σ H s)(hf:∀ b ∈ fp,zi5 X pins H b)(J:Inv (cxC X N scope C s H fp) pins' σ' H' s'):Inv X pins σ H' s':=
 Inv.call' (ch:=fp) I J.os J.base J.hok J.bare fun b hb=>⟨(hf b hb).2.2.2.1,(hf b hb).2.1,(hf b hb).2.2.2.2.1,(hf b hb).2.2.2.2.2⟩
end
section
variable {X:Cx}{N:List Str}{fr:List Nat}{x:Str}{scope:Scope}{iter elt:Expr}{ifs:List Expr}{px pos:Pos}{wi:TI}{te:TE}{tt:TT}
theorem comp_core(S:CompSc X N fr x scope)(hc:X.calm=true)
  (ht:∀ (C:af) (s₀:ah) (H₀:Hp) (fp:List af),PTs (cxC X N scope C s₀ H₀ fp) ifs tt) (he:∀ (C:af) (s₀:ah) (H₀:Hp) (fp:List af),PE (cxC X N scope C s₀ H₀ fp) elt te)
  {pins:List (af × Obj)} {σ:St} {H3:Hp} {s3:ah} {R:af->Hp->Prop} {RR:ae->af->Result->ah->Prop} {it D:af} {fp:List af} {tn:Nat->ba->Prop} {J:It} {h₁:ba} {o₁:Obj} {tk:Nat} {W:Nat->Nat->List V->Hp->Prop}
  (I3:Inv X pins σ H3 s3) (T:Turn X.prog X.w X.K (.Name x px) J fp it tn) (st3:tn 0 s3.heap) (hf3:∀ b ∈ fp,zi5 X pins H3 b) (hns₁:h₁.Ns s3.heap.objs.size fun y=>([]:List (Str × ae)).reverse.lookup y) (hsb₁:e9 s3.heap.objs.size (s3.heap.push o₁) h₁)
  (w0:∃ m,W 0 m [] H3) (turn:∀ i m ys H,W i m ys H ->
   (J.stop i H/\R D H) \/ (J.go i H/\∀ x H',J.yld i H x H'->tt (aa x :: zgG fr σ) H' fun b H2=>
    if b=true then te (aa x :: zgG fr σ) H2 fun y H3=>H3 D=aa (.lst ys)/\ys.length<aZ/\∃ m',m'<m/\W (i+1) m' (ys ++ [y]) (upd H3 D (.lst (ys ++ [y])))
    else ∃ m',m'<m/\W (i+1) m' ys H2))
  (hRR:∀ (D C:af) (H':Hp) (s':ah) (m:Str->Option ae),s'.heap.Ns C m->C ≠ X.env.locals->H' C=ab->X.s₀.heap.objs.size<=C->(∀ y c,X.env.cells.lookup y=aa c->c ≠ C)->(∀ p ∈ X.pn ++ pins,p.1 ≠ C)->Inv X pins σ H' s'->R D H'->RR (.ref D) C (.ok .next) s') :
  codeAny (model X.prog X.w) X.A (.compStart (.ListComp elt [⟨.Name x px,iter,ifs,0⟩] scope pos) 0 (.ref it) (.ref D) (compEnvC scope (clOf X.env scope.names) s3.heap.objs.size X.env)) (RR (.ref D) s3.heap.objs.size) { s3 with heap:=h₁,toks:=tk}:=by
 obtain⟨m0,w0⟩:=w0
 have hfo3:∀ b ∈ fp,b<s3.heap.objs.size:=fun b hb=>by
  obtain⟨o,e,_⟩:=T.obj 0 _ st3 b hb
  exact aN e
 have old:∀ b o,s3.heap.get? b=aa o->h₁.get? b=aa o:=fun b o e=>hsb₁.extBut b o (bp (aN e)) (am _ e)
 have st1:tn 0 h₁:=T.keep 0 s3.heap h₁ st3 fun b hb o e=>old b o e
 have stat:∀ {pins':List (af × Obj)} {H':Hp},(∀ b ∈ fp,H' b=ab)->(∀ b ∈ fp,∀ p ∈ pins',p.1 ≠ b)->∀ b ∈ fp,zi5 (cxC X N scope s3.heap.objs.size s3 H3 fp) pins' H' b:=fun {pins' H'} hn hp b hb=>by
  refine⟨hn b hb,bp (hfo3 b hb),fun z=>?_,.inl hb,fun y c e=>(hf3 b hb).2.2.2.2.1 y c (cl_sub scope.names [] (fun _ _ z=>by cases z) y c e),fun p hp'=>hp b hb p (by simpa [cxC] using hp')⟩
  rcases aY.mp (I3.stkSub b z) with z | z
  ·exact(hf3 b hb).2.1 z
  ·exact(hf3 b hb).2.2.1 z
 have loop:∀ s4:ah,Inv (cxC X N scope s3.heap.objs.size s3 H3 fp) [] (ab :: zgG fr σ) H3 s4->tn 0 s4.heap ->
   codeAny (model X.prog X.w) X.A (.compLoop (.ListComp elt [⟨.Name x px,iter,ifs,0⟩] scope pos) 0 (.ref it) (.ref D) (compEnvC scope (clOf X.env scope.names) s3.heap.objs.size X.env)) (RR (.ref D) s3.heap.objs.size) s4:=by
  intro s4 I4 st4
  refine codeAny_compLoop_tests (fun n s'=>∃ i ys H' v0,Inv (cxC X N scope s3.heap.objs.size s3 H3 fp) [] (v0 :: zgG fr σ) H' s'/\tn i s'.heap/\(∀ b ∈ fp,H' b=ab)/\W i n ys H') ?_ m0
   ⟨0,[],_,ab,I4,st4,fun b hb=>(hf3 b hb).1,w0⟩
  rintro n s5 ⟨i,ys,H5,v0,I5,st5,fr5,w5⟩
  rcases turn i n ys H5 w5 with ⟨stop,qn⟩ | ⟨go,step⟩
  ·refine cM (T.done (cxC X N scope s3.heap.objs.size s3 H3 fp) rfl rfl rfl hc i [] s5 _ H5 (fun _ _=>False) I5 (stat fr5 (by simp)) st5 stop) (fun r s6 hr6=>?_) fun _ _ z=>z.elim
   obtain⟨hr,I6⟩:=hr6
   subst hr
   obtain⟨m,hn,_⟩:=id I6.loc
   refine hRR _ _ H5 s6 m hn ?_ I6.free ?_ ?_ ?_ (zjA I3 hf3 I6) qn
   ·exact gh I3.lt
   ·exact I3.sz
   ·intro y c e z
    obtain⟨v,q⟩:=I3.cell y c e
    exact absurd q.lt (by rw[z];exact cc _)
   ·intro p hp z
    exact absurd (aN (I3.pin p hp).1) (by rw[z];exact cc _)
  ·refine cM (T.item (cxC X N scope s3.heap.objs.size s3 H3 fp) rfl rfl rfl hc i [] s5 _ H5 (fun _ _=>False) I5 (stat fr5 (by simp)) st5 go) (fun r s6 hr6=>?_) fun _ _ z=>z.elim
   obtain⟨u,hr,h6⟩:=hr6
   subst hr
   show aI _ _ (assign (.Name x px) _ u) _ _ s6
   have el:∀ env:Env,(assign (.Name x px) env u)=(letOwnedTupleGo (.Name x px) (.ref it) u >>= fun _=>assign (.Name x px) env u):=fun env=>by
    rw[show letOwnedTupleGo (.Name x px) (.ref it) u=pure () from rfl,pure_bind]
   rw[el]
   refine aj (cM h6 (fun _ s7 h7=>?_) fun _ _ z=>z.elim)
   obtain⟨y,H7,I7,r7,y7,st7,fr7⟩:=h7
   have I7':=I7.pinned (stat fr7 (by simp)) (T.obj _ _ st7)
   have lx:(relabel scope X.env).names.lookup x=aa .local:=lookup_relabel_local S.tg
   have hN0:N[0]? = aa x:=by
    have:=congrArg (fun l=>l[0]?) S.nm
    simp only[ax,eD] at this
    cases q:N[0]? with
    | none=>rw[q] at this;cases this
    | some z=>rw[q] at this;exact bf this
   refine wpAny_assign_Name (zgz (i:=0) (v:=y) I7' S.nd hN0 (.inl lx) r7 (fun s8 I8=>?_) (.inr lx))
   have I8':Inv (cxC X N scope s3.heap.objs.size s3 H3 fp) ([] ++ zfN fp s7.heap) (aa y :: zgG fr σ) H7 s8:=I8
   refine cM (ht _ _ _ _ _ s8 _ H7 _ I8' (step y H7 y7)) (fun ok s9 h9=>?_) fun _ _ z=>z.elim
   obtain⟨H9,I9,q9⟩:=h9
   have again:∀ {s':ah} {H':Hp},Inv (cxC X N scope s3.heap.objs.size s3 H3 fp) ([] ++ zfN fp s7.heap) (aa y :: zgG fr σ) H' s' ->
     Inv (cxC X N scope s3.heap.objs.size s3 H3 fp) [] (aa y :: zgG fr σ) H' s'/\tn (i+1) s'.heap/\∀ b ∈ fp,H' b=ab:=fun {s' H'} I'=>by
    refine⟨I'.unpinned,T.keep _ _ _ st7 fun b hb o e=>(I'.pin (b,o) (aJ _ (aJ _ (zdP hb e)))).1,fun b hb=>?_⟩
    obtain⟨o,e,d⟩:=T.obj _ _ st7 b hb
    exact(I'.pin (b,o) (aJ _ (aJ _ (zdP hb e)))).2.1
   cases ok with
   | false=>
    rw[if_neg aX] at q9 ⊢
    obtain⟨m',hm,w9⟩:=q9
    obtain⟨a1,a2,a3⟩:=again I9
    exact⟨m',hm,i+1,ys,H9,aa y,a1,a2,a3,w9⟩
   | true=>
    rw[if_pos rfl] at q9 ⊢
    refine cM (he _ _ _ _ _ s9 _ H9 _ I9 q9) (fun zv s10 h10=>?_) fun _ _ z=>z.elim
    obtain⟨z,H10,I10,rz,hz,hlt,m',hm,w10⟩:=h10
    refine cM (zfs (X:=cxC X N scope s3.heap.objs.size s3 H3 fp) _ s10 _ H10 (.ref D) [z] (.ref D) [zv] (fun _ H'=>H'=upd H10 D (.lst (ys ++ [z]))) I10 rfl (.cons rz .nil)
     ⟨_,ys,z,rfl,rfl,hz,hlt,rfl⟩) (fun _ s11 h11=>?_) fun _ _ z=>z.elim
    obtain⟨_,H11,I11,_,e11⟩:=h11
    subst e11
    obtain⟨a1,a2,a3⟩:=again I11
    exact⟨m',hm,i+1,ys ++ [z],_,aa y,a1,a2,a3,w10⟩
 have I4:=comp_inv S (tk:=tk) I3 hf3 hfo3 hns₁ old
 exact codeAny_compStart_list (loop _ I4 st1) (T.self _ 0 _ _ _ st1 (loop _ I4 st1))
theorem ziV(S:CompSc X N fr x scope)(hc:X.calm=true)
  (ht:∀ (C:af) (s₀:ah) (H₀:Hp) (fp:List af),PTs (cxC X N scope C s₀ H₀ fp) ifs tt) (he:∀ (C:af) (s₀:ah) (H₀:Hp) (fp:List af),PE (cxC X N scope C s₀ H₀ fp) elt te)
  {pins:List (af × Obj)} {σ:St} {H:Hp} {s:ah} {R:af->Hp->Prop} {RR:ae->af->Result->ah->Prop} {it:af} {fp:List af} {tn:Nat->ba->Prop} {J:It} {E:ae->ah->Prop}
  (I:Inv X pins σ H s) (T:Turn X.prog X.w X.K (.Name x px) J fp it tn) (st:tn 0 s.heap) (hf:∀ b ∈ fp,zi5 X pins H b) (h:lcW fr tt te J σ H R)
  (hRR:∀ (D C:af) (H':Hp) (s':ah) (m:Str->Option ae),s'.heap.Ns C m->C ≠ X.env.locals->H' C=ab->X.s₀.heap.objs.size<=C->(∀ y c,X.env.cells.lookup y=aa c->c ≠ C)->(∀ p ∈ X.pn ++ pins,p.1 ≠ C)->Inv X pins σ H' s'->R D H'->RR (.ref D) C (.ok .next) s') :
  aI (model X.prog X.w) X.A (newList []) (fun acc s₃=>aI (model X.prog X.w) X.A (newFunctionEnv scope X.env.globals (clOf X.env scope.names) [] X.env.qual ab .none (aa X.env)) (fun cenv s₄=>
   codeAny (model X.prog X.w) X.A (.compStart (.ListComp elt [⟨.Name x px,iter,ifs,0⟩] scope pos) 0 (.ref it) acc { cenv with scope:=relabel scope X.env}) (RR acc cenv.locals) s₄) E s₃) E s:=by
 refine wpAny_newObj_type (wpAny_newFunctionEnv S.ncell (by intro y hy;simp at hy) (fun h₁ hns₁ hsb₁=>?_) S.kind)
 have hD:H s.heap.objs.size=ab:=I.hok.fresh (ai _)
 obtain⟨W,w0,turn⟩:=h _ hD
 have I3:Inv X pins σ (upd H s.heap.objs.size (.lst [])) { s with heap:=s.heap.push { cls:=.type "list",dict:=ab,data:=.seq ([]:List ae).toArray}}:=
  I.laid (t':=s.toks) (fun b o e=>am _ e) (ai _) ⟨aS _,[],_,.nil,aM _ rfl⟩
 have hfo:∀ b ∈ fp,b<s.heap.objs.size:=fun b hb=>by
  obtain⟨o,e,_⟩:=T.obj 0 _ st b hb
  exact aN e
 have hf3:∀ b ∈ fp,zi5 X pins (upd H s.heap.objs.size (.lst [])) b:=fun b hb=>by
  obtain⟨f0,f1⟩:=hf b hb
  exact⟨by rw[zan (bp (hfo b hb))];exact f0,f1⟩
 exact comp_core S hc ht he I3 T (T.keep 0 s.heap _ st fun b hb o e=>am _ e) hf3 hns₁ hsb₁ w0 turn hRR
theorem CompSc.clos(S:CompSc X N fr x scope){pins:List (af × Obj)}{σ:St}{H:Hp}{s:ah}(I:Inv X pins σ H s):closureFor scope X.env=pure (clOf X.env scope.names):=
 zjD fun y hy e=>I.ok.has y.1 (S.free y hy e)
theorem pe_lc(S:CompSc X N fr x scope)(hc:X.calm=true)(hi:PI X (.Name x px) iter wi)
  (ht:∀ (C:af) (s₀:ah) (H₀:Hp) (fp:List af),PTs (cxC X N scope C s₀ H₀ fp) ifs tt) (he:∀ (C:af) (s₀:ah) (H₀:Hp) (fp:List af),PE (cxC X N scope C s₀ H₀ fp) elt te)
  (hs:∀ z,cr iter X.env z=pure z:=by intro _;rfl):PE X (.ListComp elt [⟨.Name x px,iter,ifs,0⟩] scope pos) (tLC fr wi tt te):=by
 intro pins s σ H Q I h
 rw[eval_ListComp]
 refine wpAny_comprehension_free (use:=ab) (cl:=clOf X.env scope.names) rfl hs (S.clos I) S.kind S.loc (thn (hi pins s σ H _ I h) fun xv s1 h1=>thn h1 fun itv s2 h2=>?_)
 obtain⟨it,fp,tn,J,H2,e,I2,T,st2,f2,q⟩:=h2
 subst e
 refine ziV (RR:=fun acc C=>compPost (model X.prog X.w) X.A X.xe ab (EP X pins σ Q) acc C) S hc ht he I2 T st2 f2 q ?_
 intro D C H' s' m hn c1 c2 c3 c4 c5 I' r
 refine⟨m,hn,fun h' hsb=>⟨.ref D,H',?_,rfl,r⟩⟩
 exact I'.turned (t':=s'.toks) (fun b o hb e=>(hsb.2 b hb).trans e) c2 c1 (.inr c3) c4 c5
theorem ps_setlc{i:Nat}{y:Str}{py spos:Pos}(hN:X.N.Nodup)(hi':X.N[i]? = aa y)(hy:Loc X.env.scope y)(S:CompSc X N fr x scope)(hc:X.calm=true)(hi:PI X (.Name x px) iter wi)
  (ht:∀ (C:af) (s₀:ah) (H₀:Hp) (fp:List af),PTs (cxC X N scope C s₀ H₀ fp) ifs tt) (he:∀ (C:af) (s₀:ah) (H₀:Hp) (fp:List af),PE (cxC X N scope C s₀ H₀ fp) elt te)
  (hsw:swapsWith (.ListComp elt [⟨.Name x px,iter,ifs,0⟩] scope pos) (aa (.Name y py)) spos.line X.env=pure true:=by rfl)
  (hs:∀ z,cr iter X.env z=pure z:=by intro _;rfl)
  (hf:X.fn y=true \/ X.env.scope.names.lookup y=aa .local:=by first | exact .inl rfl | exact .inr rfl | assumption) :
  PS X (.Assign [.Name y py] (.ListComp elt [⟨.Name x px,iter,ifs,0⟩] scope pos) spos) (tAsg (tLC fr wi tt te) (zie i)):=by
 intro pins s σ H D I h
 rw[exec_Assign_Name_used _ _ _ _ hsw]
 refine aj (wpAny_standAt (aj ?_))
 show aI _ X.A (do let _ <- comprehension (.ListComp elt [⟨.Name x px,iter,ifs,0⟩] scope pos) scope X.env _ (newList []) false (eval iter X.env) (aa (assign (.Name y py) X.env))) _ _ s
 refine aj (cM (wpAny_comprehension_free (use:=aa (assign (.Name y py) X.env)) (cl:=clOf X.env scope.names) (Q:=fun _ s'=>SP X pins D .next s') rfl hs (S.clos I) S.kind S.loc
  (thn (hi pins s σ H _ I h) fun xv s1 h1=>thn h1 fun itv s2 h2=>?_)) (fun _ s' hq=>aE (aE hq)) fun _ _ e=>e)
 obtain⟨it,fp,tn,J,H2,e,I2,T,st2,f2,q⟩:=h2
 subst e
 refine ziV (RR:=fun acc C=>compPost (model X.prog X.w) X.A X.xe (aa (assign (.Name y py) X.env)) (fun _ s'=>SP X pins D .next s') acc C) S hc ht he I2 T st2 f2 q ?_
 intro D' C H' s' m hn c1 c2 c3 c4 c5 I' r
 show aI _ _ (assign (.Name y py) X.env (.ref D')) _ _ s'
 refine wpAny_assign_Name (zhG (v:=.ref D') I' hN hi' hy rfl (fun s'' I'' hc'=>?_) hf)
 obtain⟨c,hsb,hcc⟩:=hc'
 have hne:C ≠ c:=by
  rcases hcc with z | z
  ·rw[z];exact c1
  ·exact fun e=>c4 y c z e.symm
 refine⟨m,hn.sameBut hsb hne,fun h' hsb'=>⟨_,H',?_,r⟩⟩
 exact I''.turned (t':=s''.toks) (fun b o hb e=>(hsb'.2 b hb).trans e) c2 c1 (.inr c3) c4 c5
end
end L2

namespace L2
open PySem PySem.Spec PyProof.Rows
theorem Same.alloc{H:Hp}{p:af}{o:HO}(h:H p=ab):Same H (upd H p o):=fun b u e=>by rw[zan (zaZ e h)];exact e
section
variable {X:Cx}
end
theorem pe_gl{X:Cx}{x:Str}{v:V}{pos:Pos}(hg:Gl X x)(h:∃ u,X.mg x=aa u/\RelV v u)(hd:(x == ("__debug__" : Str))=false:=by decide):PE X (.Name x pos) (tC v):=by
 obtain⟨u,hm,r⟩:=h
 exact pe_glob hg hm r hd
end L2
namespace HT
open PySem PyProof.Rows
section
variable {prog:aR}{w:aU}{A:a9}{E:ae->ah->Prop}{s:ah}
end
end HT
namespace L2
open PySem PySem.Spec PyProof.Rows
section
variable {X:Cx}
end
end L2
namespace L2
open PySem PySem.Spec PyProof.Rows
section
variable {X:Cx}{pins:List (af × Obj)}{σ:St}{H:Hp}{s:ah}{pos:Pos}
theorem Inv.big(I:Inv X pins σ H s):sysModules<s.heap.objs.size:=by
 have h:av<s.heap.objs.size:=(I.mod.glob.keeps I.bk).lt
 exact Nat.lt_trans (by decide) h
theorem dk_empty{P:aR}{w:aU}{H:Hp}(h:ba)(hb:sysModules<h.objs.size):ObjOk P w H (h.push { cls:=.type "dict",data:=.dict #[]}) h.objs.size (.dK []):=
 ⟨aS _,beq_eq_false_iff_ne.mpr (cj (bp hb)),[],.nil,k5 h⟩
def tDNewK:TE:=fun _ H Q=>∀ p,H p=ab->Q (.ref p) (upd H p (.dK []))
theorem pe_dnewK:PE X (.Dict [] [] pos) tDNewK:=fun pins s σ H Q I h=>
 wpAny_Dict_empty ⟨.ref s.heap.objs.size,_,I.laid (a:=s.heap.objs.size) (o:=.dK []) (t':=s.toks) (fun _ _ q=>am _ q) (ai _) (dk_empty s.heap I.big),rfl,h _ (I.hok.fresh (ai _))⟩
end
end L2

namespace L2
open PySem PySem.Spec PyProof.Rows
def zam:Expr->Bool
 | .Starred _ _=>false
 | _=>true
theorem zar{e:Expr}{es:List Expr}{env:Env}(h:zam e=true):be (e :: es) env=(false,eval e env) :: be es env:=by
 cases e <;> first | rfl | (exact absurd h (by decide)) | (cases h)
theorem zcv{env:Env}{pos:Pos}:∀ {es:List Expr},es.all zam=true->(backTo pos (be es env)).any (·.1)=false
 | [],_=>rfl
 | e :: es,h=>by
  rw[eP,cP] at h
  rw[zar h.1]
  show(false || (backTo pos (be es env)).any (·.1))=false
  rw[zcv h.2]
  rfl
theorem zgj{env:Env}{pos:Pos}:∀ {es:List Expr},es.all zam=true->(backTo pos (be es env)).all (fun x=>!x.1)=true
 | [],_=>rfl
 | e :: es,h=>by
  rw[eP,cP] at h
  rw[zar h.1]
  show(true && (backTo pos (be es env)).all (fun x=>!x.1))=true
  rw[zgj h.2]
  rfl
section
variable {X:Cx}{e o:Expr}{es:List Expr}{te to:TE}{t:TA}{x:Str}{p pos:Pos}
structure Def(K:ag)(mg:Str->Option ae)(x:Str)(st:Stmt)(ps:List Str)(f:af)(fd:bD):Prop where
 fn:Fun K x x st f fd
 mg:mg x=aa (.ref f)
 b:Binds K fd ps []
theorem pbm{T id:String}{name:Str}{apos cpos:Pos}{r:V->List V->Hp->VK->Prop}(pa:PlainAttrs T)(slot:Slot T name id)(hty:typeOf (.builtin id)=pure (.type "method_descriptor"))(hm:MtR X id r)(ho:PE X o to)(ha:PA X (e :: es) t)
  (hbase:bU o name X.env (eval o X.env)=eval o X.env:=by rfl) (hl:decide ((e :: es).length+0+0<30)=true:=by rfl) (hline:(apos.endLine == cpos.line)=true:=by rfl)
  (h1:zam e=true:=by rfl) (h2:es.all zam=true:=by rfl):PE X (.Call (.Attribute o name apos) (e :: es) [] cpos) (tBM X.K T r to t):=by
 refine pe_bm pa slot hty hm ho ha hbase ?_ hline (zar h1) (zcv h2)
 rw[zgj (es:=e :: es) (by rw[eP,h1,h2];rfl)]
 exact hl
end
end L2

namespace L2
open PySem PySem.Spec PyProof.Rows
structure WE(X:Cx)(e:Expr)(t:TE):Prop where
 h:PE X e t
structure WT(X:Cx)(e:Expr)(t:TT):Prop where
 h:PT X e t
structure WW(X:Cx)(e:Expr)(t:TT):Prop where
 h:PW X e t
structure WA(X:Cx)(es:List Expr)(t:TA):Prop where
 h:PA X es t
structure WS(X:Cx)(s:Stmt)(t:TS):Prop where
 h:PS X s t
structure WSs(X:Cx)(s:List Stmt)(t:TS):Prop where
 h:PSs X s t
structure WI(X:Cx)(tg e:Expr)(t:TI):Prop where
 h:PI X tg e t
structure WG(X:Cx)(e:Expr)(t:TG):Prop where
 h:PG X e t
structure WGs(X:Cx)(es:List Expr)(t:TGs):Prop where
 h:PGs X es t
structure WO(X:Cx)(e:Option Expr)(t:TO):Prop where
 h:PO X e t
structure WTs(X:Cx)(es:List Expr)(t:TT):Prop where
 h:PTs X es t
section
variable {X:Cx}{a b c e o:Expr}{es rest:List Expr}{pos pos' p p2:Pos}{ta tb tc te to:TE}{tA tB':TT}{t:TA}{x:Str}{r r':R2}
theorem wv(i:Nat)(hN:X.N[i]? = aa x:=by rfl)(hv:Vis X.env.scope x:=by first | exact au rfl | exact bw (au rfl) | exact bw (bw rfl))(hd:(x == ("__debug__" : Str))=false:=by decide)
  (hcd:(x == ("__classdict__" : Str))=false:=by decide):WE X (.Name x pos) (tVar i):=⟨pe_var hN hv hd hcd⟩
theorem wint{i:Int}{j:Nat}:WE X (.Constant (.int i) j pos) (tC (.int i)):=⟨pe_int⟩
theorem wbl{i:Bool}{j:Nat}:WE X (.Constant (.bool i) j pos) (tC (.bl i)):=⟨pe_bl⟩
theorem wnon{j:Nat}:WE X (.Constant .none j pos) (tC .non):=⟨pe_non⟩
theorem wstr{i:Str}{j:Nat}:WE X (.Constant (.str i) j pos) (tC (.str i)):=⟨pe_str⟩
theorem wgl{v:V}(hg:Gl X x)(h:∃ u,X.mg x=aa u/\RelV v u)(hd:(x == ("__debug__" : Str))=false:=by decide):WE X (.Name x pos) (tC v):=⟨pe_gl hg h hd⟩
theorem wop{op:Operator}(ho:OpR X (binaryOp op) r)(ha:WE X a ta)(hb:WE X b tb):WE X (.BinOp a op b pos) (tOp r ta tb):=⟨pe_op ho ha.h hb.h⟩
theorem wun{op:UnaryOp}{q:V->Hp->VK->Prop}(ho:UnR X (unaryOp op) q)(ha:WE X a ta):WE X (.UnaryOp op a pos) (tUn q ta):=⟨pe_un ho ha.h⟩
theorem wcmp{op:CmpOp}(ho:OpR X (bF op) r)(ha:WE X a ta)(hb:WE X b tb)(hm:behindInMarks op b=false):WE X (.Compare a [op] [b] pos) (tOp r ta tb):=⟨pe_cmpR ho ha.h hb.h hm⟩
theorem wone{op:BoolOp}(h:WE X a ta):WE X (.BoolOp op [a] pos) ta:=⟨pe_one h.h⟩
theorem wand(ha:WE X a ta)(hb:WE X (.BoolOp .And (b :: rest) pos) tb):WE X (.BoolOp .And (a :: b :: rest) pos) (tAndV ta tb):=⟨pe_and ha.h hb.h⟩
theorem wor(ha:WE X a ta)(hb:WE X (.BoolOp .Or (b :: rest) pos) tb):WE X (.BoolOp .Or (a :: b :: rest) pos) (tOrV ta tb):=⟨pe_or ha.h hb.h⟩
theorem wif(hc:WT X c tA)(ha:WE X a ta)(hb:WE X b tb):WE X (.IfExp c a b pos) (tIf tA ta tb):=⟨pe_ifExp hc.h ha.h hb.h⟩
theorem wtup{x1:Nat}(h:WA X es t):WE X (.Tuple es x1 pos) (tTup t):=⟨pe_tup h.h⟩
theorem wlst(h:WA X es t):WE X (.List es pos) (tLst t):=⟨pe_lst h.h⟩
theorem wdnew:WE X (.Dict [] [] pos) tDNewK:=⟨pe_dnewK⟩
theorem wix{r:R2}(hr:IxR X r)(ha:WE X a ta)(hb:WE X b tb)(hs:zhW b):WE X (.Subscript a b pos) (tOp r ta tb):=⟨pe_ix hr ha.h hb.h hs⟩
theorem wslice{lo hi:Option Expr}{tl th:TO}{r:V->Option Int->Option Int->Hp->VK->Prop}(hr:SlR X r)(he:WE X e te)(hl:WO X lo tl)(hu:WO X hi th):WE X (.Subscript e (.Slice lo hi ab p2) pos) (tSl r te tl th):=⟨pe_slice hr he.h hl.h hu.h⟩
theorem wnil:WA X [] tNil:=⟨pa_nil⟩
theorem wac(ha:WE X e te)(hr:WA X es t)(h:zam e=true:=by rfl):WA X (e :: es) (tCons te t):=⟨zhZ ha.h hr.h (zar h)⟩
theorem won:WO X ab tNoPart:=⟨po_none⟩
theorem wos(h:WE X e te):WO X (aa e) (tPart te):=⟨po_some h.h⟩
theorem wcb{id:String}{r:List V->Hp->VK->Prop}(hc:zec X (.builtin id) r)(hg:Gl X x)(hm:X.mg x=ab)(hv:bn x=aa (.builtin id))(ha:WA X (e :: es) t)(hn:x ≠ "__name__" :=by decide)(hdb:(x == ("__debug__" : Str))=false:=by decide)
  (h1:zam e=true:=by rfl) (h2:es.all zam=true:=by rfl):WE X (.Call (.Name x p) (e :: es) [] pos) (tCB r t):=⟨pe_callB hc hg hm hv ha.h hn hdb (zar h1) (zcv h2)⟩
theorem wct{T:String}{r:List V->Hp->VK->Prop}(hc:zec X (.type T) r)(hg:Gl X x)(hm:X.mg x=ab)(hv:bn x=aa (.type T))(ha:WA X (e :: es) t)(hn:x ≠ "__name__" :=by decide)(hdb:(x == ("__debug__" : Str))=false:=by decide)
  (h1:zam e=true:=by rfl) (h2:es.all zam=true:=by rfl):WE X (.Call (.Name x p) (e :: es) [] pos) (tCB r t):=⟨pe_callTy hc hg hm hv ha.h hn hdb (zar h1) (zcv h2)⟩
theorem wcl{CX:CXT}{k j:Nat}{f:af}{fd:bD}{ps:List Str}{sp:Sp}{st:Stmt}{E:XK}(F:FnOk X.prog X.w X.K X.mg X.base CX k f fd ps sp)(D:Def X.K X.mg x st ps f fd)(hr:Room j X.A)(hg:Gl X x)(hx:zcU CX X E)
  (ha:WA X (e :: es) t) (hjk:k<=j:=by decide) (hdb:(x == ("__debug__" : Str))=false:=by decide) (h1:zam e=true:=by rfl) (h2:es.all zam=true:=by rfl) :
  WE X (.Call (.Name x p) (e :: es) [] pos) (tCall sp [] E t):=⟨zhT F (hr.mono hjk) hg D.mg D.fn.kp D.b .nil hx ha.h hdb (zar h1) (zcv h2)⟩
theorem wbm{T id:String}{name:Str}{apos cpos:Pos}{r:V->List V->Hp->VK->Prop}(pa:PlainAttrs T)(slot:Slot T name id)(hty:typeOf (.builtin id)=pure (.type "method_descriptor"))(hm:MtR X id r)(ho:WE X o to)(ha:WA X (e :: es) t)
  (hbase:bU o name X.env (eval o X.env)=eval o X.env:=by rfl) (hl:decide ((e :: es).length+0+0<30)=true:=by rfl) (hline:(apos.endLine == cpos.line)=true:=by rfl)
  (h1:zam e=true:=by rfl) (h2:es.all zam=true:=by rfl):WE X (.Call (.Attribute o name apos) (e :: es) [] cpos) (tBM X.K T r to t):=⟨pbm pa slot hty hm ho.h ha.h hbase hl hline h1 h2⟩
theorem tcmp{op:CmpOp}(ho:OpR X (bF op) r)(ha:WE X a ta)(hb:WE X b tb)(hm:behindInMarks op b=false):WT X (.Compare a [op] [b] pos) (tTest (tOp r ta tb)):=⟨pt_cmpR ho ha.h hb.h hm⟩
theorem tand1(ha:WT X a tA):WW X (.BoolOp .And [a] pos) tA:=⟨pw_and1 ha.h⟩
theorem tor1(ha:WT X a tA):WW X (.BoolOp .Or [a] pos) tA:=⟨pw_or1 ha.h⟩
theorem tand(ha:WT X a tA)(hb:WW X (.BoolOp .And (b :: rest) pos) tB'):WW X (.BoolOp .And (a :: b :: rest) pos) (tAnd tA tB'):=⟨pw_and ha.h hb.h⟩
theorem tor(ha:WT X a tA)(hb:WW X (.BoolOp .Or (b :: rest) pos) tB'):WW X (.BoolOp .Or (a :: b :: rest) pos) (tOr tA tB'):=⟨pw_or ha.h hb.h⟩
theorem tw(h:WW X a tA):WT X a tA:=⟨h.h.pt⟩
theorem tnot(ha:WT X a tA):WT X (.UnaryOp .Not a pos) (tNot tA):=⟨pt_not ha.h⟩
theorem tval(h:WE X e te)(he:∀ whole,isTrue e X.env whole=(do let v <- whole;standAt e.pos;holding [v] (truthy v)):=by intro _;rfl):WT X e (tB te):=⟨pt_val h.h he⟩
theorem ifs0:WTs X [] tNoIf:=⟨pts_nil⟩
theorem ifs1(h:WT X c tA):WTs X [c] tA:=⟨pts_one h.h⟩
end
section
variable {X:Cx}{e c tg iter:Expr}{es:List Expr}{pos pos' p:Pos}{te:TE}{tc:TT}{ta:TA}{x:Str}{st:Stmt}{sr body els:List Stmt}{t u tb:TS}{wi:TI}{g:TG}{gs:TGs}
theorem il(h:WE X e te):WI X tg e (iList X.K te):=⟨pi_list h.h⟩
theorem it(h:WE X e te):WI X tg e (iTup X.K te):=⟨pi_tup h.h⟩
theorem ir1(hg:Gl X "range")(hm:X.mg "range" = ab)(ha:WA X [e] ta)(h1:zam e=true:=by rfl):WI X tg (.Call (.Name "range" p) [e] [] pos) (iRng1 ta):=⟨pi_range1 hg hm ha.h (zar h1)⟩
theorem ir2{b:Expr}(hg:Gl X "range")(hm:X.mg "range" = ab)(ha:WA X [e,b] ta)(h1:zam e=true:=by rfl)(h2:zam b=true:=by rfl):WI X tg (.Call (.Name "range" p) [e,b] [] pos) (iRng2 ta):=⟨pi_range2 hg hm ha.h (by rw[zar h1,zar h2];rfl) (by rw[zar h2];rfl)⟩
theorem gn{i:Nat}(hN:X.N.Nodup)(hi:X.N[i]? = aa x)(hx:Loc X.env.scope x)(hf:X.fn x=true \/ X.env.scope.names.lookup x=aa .local:=by first | exact .inl rfl | exact .inr rfl | assumption):WG X (.Name x pos) (zie i):=⟨pg_name hN hi hx hf⟩
theorem gs0:WGs X [] gNil:=⟨pgs_nil⟩
theorem gs1(h1:WG X e g)(h2:WGs X es gs)(hs:(bH (e :: es) X.env).map (·.2)=assign e X.env :: (bH es X.env).map (·.2):=by rfl):WGs X (e :: es) (gCons g gs):=⟨pgs_cons h1.h h2.h hs⟩
theorem gt{k n:Nat}(hc:X.calm=true)(h:WGs X es gs)(hn:(bH es X.env).length=n:=by rfl)(hst:(bH es X.env).findIdx? (·.1)=ab:=by rfl):WG X (.Tuple es k pos) (gTup X.K n gs):=⟨pg_tup hc h.h hn hst⟩
theorem s0:WSs X [] tNext:=⟨pss_nil⟩
theorem sc(h1:WS X st t)(h2:WSs X sr u):WSs X (st :: sr) (tSeq t u):=⟨pss_cons h1.h h2.h⟩
theorem s1(h1:WS X st t):WSs X [st] t:=⟨pss_one h1.h⟩
theorem sex(he:WE X e te)(hs:swapsWith e ab pos.line X.env=pure false:=by rfl):WS X (.Expr e pos) (tDrop te):=⟨ps_expr he.h hs⟩
theorem sret(he:WE X e te):WS X (.Return (aa e) pos) (tRet te):=⟨ps_ret he.h⟩
theorem sif(hc:WT X c tc)(ha:WSs X body t)(hb:WSs X els u):WS X (.If c body els pos) (tIfS tc t u):=⟨ps_if hc.h ha.h hb.h⟩
theorem sset{i:Nat}(hN:X.N.Nodup)(hi:X.N[i]? = aa x)(hx:Loc X.env.scope x)(he:WE X e te)(hs:swapsWith e (aa (.Name x pos')) pos.line X.env=pure false:=by rfl)(hf:X.fn x=true \/ X.env.scope.names.lookup x=aa .local:=by first | exact .inl rfl | exact .inr rfl | assumption) :
  WS X (.Assign [.Name x pos'] e pos) (tAsg te (zie i)):=⟨ps_set hN hi hx he.h hs hf⟩
theorem sasg(he:WE X e te)(hg:WG X tg g)(hs:swapsWithSole [tg] e pos.line X.env=pure false:=by rfl)(hw:swappedStores [tg] e X.env=pure ab:=by rfl)(h1:(bH [tg] X.env).map (·.2)=[assign tg X.env]:=by rfl):WS X (.Assign [tg] e pos) (tAsg te g):=⟨ps_asg he.h hg.h hs hw h1⟩
theorem sfor(hp:PassesOwn (model X.prog X.w) X.A X.env X.xe)(hc:X.calm=true)(hi:WI X tg iter wi)(hg:WG X tg g)(hb:WSs X body tb)(hs:∀ z,cr iter X.env z=pure z:=by intro _;rfl):WS X (.For tg iter body [] pos) (tFor wi g tb):=⟨ps_for hp hc hi.h hg.h hb.h hs⟩
theorem swhile(hp:PassesOwn (model X.prog X.w) X.A X.env X.xe)(hc:WT X c tc)(hb:WSs X body tb):WS X (.While c body [] pos) (tWhile tc tb):=⟨ps_while hp hc.h hb.h⟩
end
section
variable {X:Cx}{N:List Str}{fr:List Nat}{x:Str}{scope:Scope}{iter elt:Expr}{ifs:List Expr}{px pos:Pos}{wi:TI}{te:TE}{tt:TT}
theorem wlc(S:CompSc X N fr x scope)(hc:X.calm=true)(hi:WI X (.Name x px) iter wi)
  (ht:∀ (C:af) (s₀:ah) (H₀:Hp) (fp:List af),WTs (cxC X N scope C s₀ H₀ fp) ifs tt) (he:∀ (C:af) (s₀:ah) (H₀:Hp) (fp:List af),WE (cxC X N scope C s₀ H₀ fp) elt te)
  (hs:∀ z,cr iter X.env z=pure z:=by intro _;rfl):WE X (.ListComp elt [⟨.Name x px,iter,ifs,0⟩] scope pos) (tLC fr wi tt te):=⟨pe_lc S hc hi.h (fun C s₀ H₀ fp=>(ht C s₀ H₀ fp).h) (fun C s₀ H₀ fp=>(he C s₀ H₀ fp).h) hs⟩
theorem ssetlc{i:Nat}{y:Str}{py spos:Pos}(hN:X.N.Nodup)(hi':X.N[i]? = aa y)(hy:Loc X.env.scope y)(S:CompSc X N fr x scope)(hc:X.calm=true)(hi:WI X (.Name x px) iter wi)
  (ht:∀ (C:af) (s₀:ah) (H₀:Hp) (fp:List af),WTs (cxC X N scope C s₀ H₀ fp) ifs tt) (he:∀ (C:af) (s₀:ah) (H₀:Hp) (fp:List af),WE (cxC X N scope C s₀ H₀ fp) elt te)
  (hsw:swapsWith (.ListComp elt [⟨.Name x px,iter,ifs,0⟩] scope pos) (aa (.Name y py)) spos.line X.env=pure true:=by rfl)
  (hs:∀ z,cr iter X.env z=pure z:=by intro _;rfl)
  (hf:X.fn y=true \/ X.env.scope.names.lookup y=aa .local:=by first | exact .inl rfl | exact .inr rfl | assumption) :
  WS X (.Assign [.Name y py] (.ListComp elt [⟨.Name x px,iter,ifs,0⟩] scope pos) spos) (tAsg (tLC fr wi tt te) (zie i)):=
 ⟨ps_setlc hN hi' hy S hc hi.h (fun C s₀ H₀ fp=>(ht C s₀ H₀ fp).h) (fun C s₀ H₀ fp=>(he C s₀ H₀ fp).h) hsw hs hf⟩
end
end L2

set_option maxRecDepth 100000
set_option maxHeartbeats 4000000
namespace L2
open PySem PySem.Spec PyProof.Rows
abbrev KN:=Option Int
def kN:KN->V
 | none=>.non
 | some i=>.int i
def nHash:KN->Int
 | none=>reduceHash 0xFCA86420
 | some k=>hashInt k
def dtE(q:List KN × af × ae):DictEntry:=⟨reduceHash (jM (q.1.map nHash)),.ref q.2.1,q.2.2⟩
def DtP:List (List KN × af × V)->List (List KN × af × ae)->Prop:=Paired fun p q=>p.1=q.1/\p.2.1=q.2.1/\RelV p.2.2 q.2.2
def DtOk(l:af)(xs:List (List KN × af × V))(h:ba):Prop:=
 (l == sysModules)=false/\xs.length<=aZ/\∃ ys,DtP xs ys/\∃ o es ep,h.get? l=aa o/\o.ExactDict/\o.data=.dict es ep/\es.toList=ys.map dtE/\(ys.map (·.1)).Nodup
def dtO(l:af)(xs:List (List KN × af × V)):HO:=.ext (DtOk l xs)
end L2

namespace L3
open PySem PySem.Spec PyProof.Rows L2
inductive D where
 | non | bl (b:Bool) | int (i:Int) | str (x:Str) | tup (l:List D) | lst (l:List D) | dic (ks:List Str) (l:List D)
inductive OT where
 | val (d:D) | lst (l:List D) | ins (c:Str) (ns:List Str) (l:List OT) | dic (ks:List Str) (l:List D) | dcT (ks:List (List KN)) (l:List D)
inductive Ent where
 | val (d:D) | own (l:List D) | bor (l:List D) | vw (l:List D) | obj (o:OT) | vwt (ks:List (List KN)) (l:List D) | bt (l:List D)
abbrev En:=List (Option Ent)
abbrev Sg:=L2.St
mutual
inductive Rep(F:Hp):V->D->Prop
 | non:Rep F .non .non
 | bl (b:Bool):Rep F (.bl b) (.bl b)
 | int (i:Int):Rep F (.int i) (.int i)
 | str (x:Str):Rep F (.str x) (.str x)
 | tup {a:af} {vs:List V} {ds:List D}:F a=aa (.tup vs)->Reps F vs ds->Rep F (.ref a) (.tup ds)
 | lst {a:af} {vs:List V} {ds:List D}:F a=aa (.lst vs)->Reps F vs ds->Rep F (.ref a) (.lst ds)
 | dic {a:af} {o:Obj} {ks:List Str} {vs:List V} {ds:List D}:F a=aa (.frz o (.dK ((ks.map bm).zip vs)))->ks.length=vs.length->Reps F vs ds->Rep F (.ref a) (.dic ks ds)
inductive Reps(F:Hp):List V->List D->Prop
 | nil:Reps F [] []
 | cons {v:V} {d:D} {vs:List V} {ds:List D}:Rep F v d->Reps F vs ds->Reps F (v :: vs) (d :: ds)
end
section
variable {F F':Hp}{v:V}{d:D}{vs ws:List V}{ds es:List D}
mutual
theorem Rep.mono(s:Same F F'):∀ {v:V} {d:D},Rep F v d->Rep F' v d
 | _,_,.non=>.non
 | _,_,.bl b=>.bl b
 | _,_,.int i=>.int i
 | _,_,.str x=>.str x
 | _,_,.tup e r=>.tup (s _ _ e) (Reps.mono s r)
 | _,_,.lst e r=>.lst (s _ _ e) (Reps.mono s r)
 | _,_,.dic e l r=>.dic (s _ _ e) l (Reps.mono s r)
theorem Reps.mono(s:Same F F'):∀ {vs:List V} {ds:List D},Reps F vs ds->Reps F' vs ds
 | _,_,.nil=>.nil
 | _,_,.cons h r=>.cons (Rep.mono s h) (Reps.mono s r)
end
theorem Reps.length:∀ {vs:List V} {ds:List D},Reps F vs ds->vs.length=ds.length
 | _,_,.nil=>rfl
 | _,_,.cons _ r=>by rw[aQ,aQ,Reps.length r]
theorem Reps.get:∀ {vs:List V} {ds:List D} {i:Nat} {d:D},Reps F vs ds->ds[i]? = aa d->∃ v,vs[i]? = aa v/\Rep F v d
 | _,_,_,_,.nil,e=>by simp at e
 | _,_,0,_,.cons h _,e=>by simp at e;subst e;exact⟨_,rfl,h⟩
 | _,_,i+1,d,.cons _ r,e=>by
  obtain⟨v,h1,h2⟩:=Reps.get (i:=i) (d:=d) r (by simpa using e)
  exact⟨v,by simpa using h1,h2⟩
theorem Reps.getV:∀ {vs:List V} {ds:List D} {i:Nat} {v:V},Reps F vs ds->vs[i]? = aa v->∃ d,ds[i]? = aa d/\Rep F v d
 | _,_,_,_,.nil,e=>by simp at e
 | _,_,0,_,.cons h _,e=>by simp at e;subst e;exact⟨_,rfl,h⟩
 | _,_,i+1,v,.cons _ r,e=>by
  obtain⟨d,h1,h2⟩:=Reps.getV (i:=i) (v:=v) r (by simpa using e)
  exact⟨d,by simpa using h1,h2⟩
theorem Reps.append:∀ {vs ws:List V} {ds es:List D},Reps F vs ds->Reps F ws es->Reps F (vs ++ ws) (ds ++ es)
 | _,_,_,_,.nil,s=>s
 | _,_,_,_,.cons h r,s=>.cons h (Reps.append r s)
theorem Reps.take:∀ {vs:List V} {ds:List D} (n:Nat),Reps F vs ds->Reps F (vs.take n) (ds.take n)
 | _,_,0,_=>.nil
 | _,_,_+1,.nil=>.nil
 | _,_,n+1,.cons h r=>.cons h (Reps.take n r)
theorem Reps.drop:∀ {vs:List V} {ds:List D} (n:Nat),Reps F vs ds->Reps F (vs.drop n) (ds.drop n)
 | _,_,0,r=>r
 | _,_,_+1,.nil=>.nil
 | _,_,n+1,.cons _ r=>Reps.drop n r
theorem Reps.set(h:Rep F v d):∀ {vs:List V} {ds:List D} (i:Nat),Reps F vs ds->Reps F (vs.set i v) (ds.set i d)
 | _,_,_,.nil=>.nil
 | _,_,0,.cons _ r=>.cons h r
 | _,_,i+1,.cons q r=>.cons q (Reps.set h i r)
theorem Reps.one(h:Rep F v d):Reps F [v] [d]:=.cons h .nil
theorem Reps.rev:∀ {vs:List V} {ds:List D},Reps F vs ds->Reps F vs.reverse ds.reverse
 | _,_,.nil=>.nil
 | _,_,.cons h r=>by rw[dg,dg];exact(Reps.rev r).append (.one h)
theorem Reps.ints(ns:List Int):Reps F (ns.map V.int) (ns.map D.int):=by
 induction ns with
 | nil=>exact .nil
 | cons n r ih=>exact .cons (.int n) ih
theorem Reps.dropLast(r:Reps F vs ds):Reps F vs.dropLast ds.dropLast:=by
 rw[gT,gT,r.length]
 exact r.take _
end
def isT:HO->Bool
 | .tup _=>true
 | _=>false
def ze0(K:ag)(c:Str)(C:af):Prop:=az K av c=aa (aa (.ref C))
mutual
inductive TR(K:ag)(F H:Hp):V->OT->List af->Prop
 | val {v:V} {d:D}:Rep F v d->TR K F H v (.val d) []
 | lst {l:af} {vs:List V} {ds:List D}:H l=aa (.lst vs)->Reps F vs ds->TR K F H (.ref l) (.lst ds) [l]
 | ins {a dx C:af} {c:Str} {ns:List Str} {vs:List V} {os:List OT} {A:List af}:ze0 K c C->H a=aa (.ins C dx (ns.zip vs))->H dx=aa (.own a)->ns.length=vs.length->TRs K F H vs os A->TR K F H (.ref a) (.ins c ns os) (a :: dx :: A)
 | dic {l:af} {ks:List Str} {vs:List V} {ds:List D}:H l=aa (.dK ((ks.map bm).zip vs))->ks.length=vs.length->Reps F vs ds->TR K F H (.ref l) (.dic ks ds) [l]
 | dcT {l:af} {xs:List (List KN × af × V)} {ks:List (List KN)} {ds:List D}:H l=aa (dtO l xs)->ks=xs.map (·.1)->(∀ x ∈ xs,F x.2.1=aa (.tup (x.1.map kN)))->Reps F (xs.map (·.2.2)) ds->TR K F H (.ref l) (.dcT ks ds) [l]
inductive TRs(K:ag)(F H:Hp):List V->List OT->List af->Prop
 | nil:TRs K F H [] [] []
 | cons {v:V} {o:OT} {vs:List V} {os:List OT} {A A':List af}:TR K F H v o A->TRs K F H vs os A'->TRs K F H (v :: vs) (o :: os) (A ++ A')
end
section
variable {K:ag}{F H F' H':Hp}
mutual
theorem TR.move(s:Same F F'):∀ {v:V} {o:OT} {A:List af},TR K F H v o A->(∀ a ∈ A,H' a=H a)->TR K F' H' v o A
 | _,_,_,.val r,_=>.val (Rep.mono s r)
 | _,_,_,.lst e r,h=>.lst (by rw[h _ aw];exact e) (r.mono s)
 | _,_,_,.ins hc e1 e2 hl t,h=>.ins hc (by rw[h _ aw];exact e1) (by rw[h _ (al _ aw)];exact e2) hl (TRs.move s t fun a ha=>h a (al _ (al _ ha)))
 | _,_,_,.dic e l r,h=>.dic (by rw[h _ aw];exact e) l (r.mono s)
 | _,_,_,.dcT e l z r,h=>.dcT (by rw[h _ aw];exact e) l (fun x hx=>s _ _ (z x hx)) (r.mono s)
theorem TRs.move(s:Same F F'):∀ {vs:List V} {os:List OT} {A:List af},TRs K F H vs os A->(∀ a ∈ A,H' a=H a)->TRs K F' H' vs os A
 | _,_,_,.nil,_=>.nil
 | _,_,_,.cons t ts,h=>.cons (TR.move s t fun a ha=>h a (bz _ ha)) (TRs.move s ts fun a ha=>h a (aJ _ ha))
end
mutual
theorem TR.lies:∀ {v:V} {o:OT} {A:List af},TR K F H v o A->∀ a ∈ A,∃ u,H a=aa u/\isT u=false
 | _,_,_,.val _,a,h=>by cases h
 | _,_,_,.lst e _,a,h=>by cases h with
  | head=>exact⟨_,e,rfl⟩
  | tail _ h=>cases h
 | _,_,_,.ins _ e1 e2 _ t,a,h=>by cases h with
  | head=>exact⟨_,e1,rfl⟩
  | tail _ h=>cases h with
   | head=>exact⟨_,e2,rfl⟩
   | tail _ h=>exact TRs.lies t a h
 | _,_,_,.dic e _ _,a,h=>by cases h with
  | head=>exact⟨_,e,rfl⟩
  | tail _ h=>cases h
 | _,_,_,.dcT e _ _ _,a,h=>by cases h with
  | head=>exact⟨_,e,rfl⟩
  | tail _ h=>cases h
theorem TRs.lies:∀ {vs:List V} {os:List OT} {A:List af},TRs K F H vs os A->∀ a ∈ A,∃ u,H a=aa u/\isT u=false
 | _,_,_,.nil,a,h=>by cases h
 | _,_,_,.cons t ts,a,h=>by
  rcases bx.mp h with h | h
  ·exact TR.lies t a h
  ·exact TRs.lies ts a h
end
theorem zip_same{ns:List Str}:∀ {vs ws:List V},ns.length=vs.length->ns.length=ws.length->ns.zip vs=ns.zip ws->vs=ws:=by
 intro vs ws h1 h2 h
 have a:=congrArg (fun l=>l.map kU) h
 simp only[dW (dM h1.symm),dW (dM h2.symm)] at a
 exact a
mutual
theorem TR.det:∀ {v:V} {o:OT} {A:List af},TR K F H v o A->∀ {A':List af},TR K F H v o A'->A=A'
 | _,_,_,.val _,_,h=>by cases h;rfl
 | _,_,_,.lst _ _,_,h=>by cases h;rfl
 | _,_,_,.ins hc e1 e2 hl t,_,h=>by
  cases h with
  | ins hc' e1' e2' hl' t'=>
   have z:=bf (e1.symm.trans e1')
   injection z with z1 z2 z3
   subst z2
   have z4:=zip_same hl hl' z3
   subst z4
   rw[TRs.det t t']
 | _,_,_,.dic _ _ _,_,h=>by cases h;rfl
 | _,_,_,.dcT _ _ _ _,_,h=>by cases h;rfl
theorem TRs.det:∀ {vs:List V} {os:List OT} {A:List af},TRs K F H vs os A->∀ {A':List af},TRs K F H vs os A'->A=A'
 | _,_,_,.nil,_,h=>by cases h;rfl
 | _,_,_,.cons t ts,_,h=>by
  cases h with
  | cons t' ts'=>rw[TR.det t t',TRs.det ts ts']
end
end
structure Bd where
 hp:Hp
 pin:Option V
instance:Coe Bd Hp:=⟨Bd.hp⟩
structure Ex(F H F' H':Hp):Prop where
 ff:Same F F'
 fh:Same F' H'
 hh:Same H H'
 nw:∀ a o,H a=aa o->isT o=false->F' a=F a
section
variable {K:ag}{B:Bd}{F H F' H' F2 H2 H0:Hp}{v:V}{p:af}{o:HO}{e:Ent}{σ:Sg}{δ:En}
theorem Ex.refl(h:Same F H):Ex F H F H:=⟨Same.refl F,h,Same.refl H,fun _ _ _ _=>rfl⟩
theorem Ex.trans(a:Ex F H F' H')(b:Ex F' H' F2 H2):Ex F H F2 H2:=⟨a.ff.trans b.ff,b.fh,a.hh.trans b.hh,fun x o e t=>(b.nw x o (a.hh x o e) t).trans (a.nw x o e t)⟩
theorem same_upd2(h:Same F H)(hp:H p=ab):Same (upd F p o) (upd H p o):=fun b u e=>by
 by_cases hb:b=p
 ·subst hb;rw[zaj] at e ⊢;exact e
 ·rw[zan hb] at e ⊢;exact h b u e
theorem Ex.alloc(h:Same F H)(hp:H p=ab):Ex F H (upd F p o) (upd H p o):=
 ⟨Same.alloc (h.free hp),same_upd2 h hp,Same.alloc hp,fun a u e _=>zan (zaZ e hp)⟩
theorem Ex.lay(h:Same F H)(hp:H p=ab):Ex F H F (upd H p o):=⟨Same.refl F,h.trans (Same.alloc hp),Same.alloc hp,fun _ _ _ _=>rfl⟩
theorem Ex.freeze(x:Ex F H F' H')(h0:H p=ab)(h1:H' p=aa o)(h2:F' p=ab):Ex F H (upd F' p o) H':=by
 refine⟨x.ff.trans (Same.alloc h2),fun b u e=>?_,x.hh,fun a u e t=>?_⟩
 ·by_cases hb:b=p
  ·subst hb;rw[zaj] at e;cases e;exact h1
  ·rw[zan hb] at e;exact x.fh b u e
 ·rw[zan (zaZ e h0)];exact x.nw a u e t
def RepR(K:ag)(H0 F H:Hp)(v:V):Ent->Prop
 | .val d=>Rep F v d
 | .own ds=>∃ l vs,v=.ref l/\H0 l=ab/\H l=aa (.lst vs)/\Reps F vs ds/\F l=ab
 | .bor ds=>∃ l vs,v=.ref l/\SqL K H l vs/\Reps F vs ds
 | .vw ds=>∃ l vs,v=.ref l/\H l=aa (.lst vs)/\Reps F vs ds
 | .obj o=>(∃ l,v=.ref l)/\∃ A,TR K F H v o A/\A.Nodup/\∀ a ∈ A,F a=ab/\H0 a=ab
 | .vwt ks ds=>∃ A,TR K F H v (.dcT ks ds) A
 | .bt ds=>∃ l vs,v=.ref l/\SqT K H l vs/\Reps F vs ds
theorem _root_.L2.Same.seqT{K:ag}{H H':Hp}{l:af}{vs:List V}(s:Same H H')(h:SqT K H l vs):SqT K H' l vs:=by
 rcases h with (h | ⟨o,h⟩) | h
 ·exact .inl (.inl (s _ _ h))
 ·exact .inl (.inr ⟨o,s _ _ h⟩)
 ·exact .inr h
theorem TR.ext{o:OT}{A:List af}(r:TR K F H v o A)(x:Ex F H F' H'):TR K F' H' v o A/\∀ a ∈ A,F' a=F a:=
 ⟨r.move x.ff fun a ha=>let⟨_,h1,_⟩:=r.lies a ha;(x.hh _ _ h1).trans h1.symm,fun a ha=>let⟨_,h1,h2⟩:=r.lies a ha;x.nw _ _ h1 h2⟩
theorem RepR.ext(r:RepR K H0 F H v e)(x:Ex F H F' H'):RepR K H0 F' H' v e:=by
 cases e with
 | val d=>exact Rep.mono x.ff r
 | own ds=>
  obtain⟨l,vs,e,h0,h1,rs,h2⟩:=r
  exact⟨l,vs,e,h0,x.hh _ _ h1,rs.mono x.ff,(x.nw _ _ h1 rfl).trans h2⟩
 | bor ds=>obtain⟨l,vs,e,h,rs⟩:=r;exact⟨l,vs,e,x.hh.seq h,rs.mono x.ff⟩
 | vw ds=>obtain⟨l,vs,e,h,rs⟩:=r;exact⟨l,vs,e,x.hh _ _ h,rs.mono x.ff⟩
 | obj o=>obtain⟨z,A,t,n,h⟩:=r;exact⟨z,A,(t.ext x).1,n,fun a ha=>⟨((t.ext x).2 a ha).trans (h a ha).1,(h a ha).2⟩⟩
 | vwt ks ds=>obtain⟨A,t⟩:=r;exact⟨A,(t.ext x).1⟩
 | bt ds=>obtain⟨l,vs,e,h,rs⟩:=r;exact⟨l,vs,e,x.hh.seqT h,rs.mono x.ff⟩
theorem RepR.earlier(r:RepR K H F' H' v e)(s:Same H0 H):RepR K H0 F' H' v e:=by
 cases e with
 | own ds=>obtain⟨l,vs,e,h0,z⟩:=r;exact⟨l,vs,e,s.free h0,z⟩
 | obj o=>obtain⟨z,A,t,n,h⟩:=r;exact⟨z,A,t,n,fun a ha=>⟨(h a ha).1,s.free (h a ha).2⟩⟩
 | _=>exact r
def RepN(K:ag)(B F H:Hp)(v:V):Ent->Prop
 | .val d=>Rep F v d
 | .own ds=>∃ l vs,v=.ref l/\H l=aa (.lst vs)/\Reps F vs ds/\F l=ab/\B l=ab
 | .bor ds=>∃ l vs,v=.ref l/\SqL K B l vs/\Reps F vs ds
 | .vw ds=>∃ l vs,v=.ref l/\H l=aa (.lst vs)/\Reps F vs ds
 | .obj o=>∃ A,TR K F H v o A/\A.Nodup/\∀ a ∈ A,F a=ab/\B a=ab
 | .vwt ks ds=>∃ A,TR K F H v (.dcT ks ds) A
 | .bt ds=>∃ l vs,v=.ref l/\SqT K B l vs/\Reps F vs ds
def Ent.lk:Ent->Bool
 | .own _=>true
 | .vw _=>true
 | _=>false
def Occ(K:ag)(F H:Hp)(v:V):Ent->af->Prop
 | .own _,a=>v=.ref a
 | .vw _,a=>v=.ref a
 | .obj o,a=>∃ A,TR K F H v o A/\a ∈ A
 | .vwt ks ds,a=>∃ A,TR K F H v (.dcT ks ds) A/\a ∈ A
 | _,_=>False
def Ent.isO:Ent->Bool
 | .obj _=>true
 | _=>false
structure RS(K:ag)(B:Bd)(F H:Hp)(σ:Sg)(δ:En):Prop where
 fh:Same F H
 bh:Same B H
 len:σ.length=δ.length
 ent:∀ (i:Nat) (e:Ent),δ[i]? = aa (aa e)->∃ v,σ[i]? = aa (aa v)/\RepN K B F H v e
 ap:∀ (i j:Nat) (l:af) (ds:List D) (e:Ent),i ≠ j->δ[i]? = aa (aa (.own ds))->σ[i]? = aa (aa (.ref l))->δ[j]? = aa (aa e)->e.lk=true->σ[j]? ≠ aa (aa (.ref l))
 ao:∀ (i j:Nat) (e e':Ent) (v w:V) (a:af),i ≠ j->δ[i]? = aa (aa e)->σ[i]? = aa (aa v)->δ[j]? = aa (aa e')->σ[j]? = aa (aa w)->e.isO=true->Occ K F H v e a->Occ K F H w e' a->False
 pn:∀ (v:V) (o:OT),B.pin=aa v->δ[0]? = aa (aa (.obj o))->σ[0]? = aa (aa v)
theorem RepN.ext(r:RepN K B F H v e)(x:Ex F H F' H'):RepN K B F' H' v e:=by
 cases e with
 | val d=>exact Rep.mono x.ff r
 | own ds=>obtain⟨l,vs,e,h1,rs,h2,h3⟩:=r;exact⟨l,vs,e,x.hh _ _ h1,rs.mono x.ff,(x.nw _ _ h1 rfl).trans h2,h3⟩
 | bor ds=>obtain⟨l,vs,e,h,rs⟩:=r;exact⟨l,vs,e,h,rs.mono x.ff⟩
 | vw ds=>obtain⟨l,vs,e,h,rs⟩:=r;exact⟨l,vs,e,x.hh _ _ h,rs.mono x.ff⟩
 | obj o=>obtain⟨A,t,n,h⟩:=r;exact⟨A,(t.ext x).1,n,fun a ha=>⟨((t.ext x).2 a ha).trans (h a ha).1,(h a ha).2⟩⟩
 | vwt ks ds=>obtain⟨A,t⟩:=r;exact⟨A,(t.ext x).1⟩
 | bt ds=>obtain⟨l,vs,e,h,rs⟩:=r;exact⟨l,vs,e,h,rs.mono x.ff⟩
theorem Occ.back{a:af}(r:RepN K B F H v e)(m:∀ o A,(e=.obj o \/ ∃ ks ds,e=.vwt ks ds/\o=.dcT ks ds)->TR K F H v o A->TR K F' H' v o A)(h:Occ K F' H' v e a):Occ K F H v e a:=by
 cases e with
 | obj o=>
  obtain⟨A,t,_⟩:=r
  obtain⟨A',t',h'⟩:=h
  rw[t'.det (m o A (.inl rfl) t)] at h'
  exact⟨A,t,h'⟩
 | vwt ks ds=>
  obtain⟨A,t⟩:=r
  obtain⟨A',t',h'⟩:=h
  rw[t'.det (m _ A (.inr ⟨ks,ds,rfl,rfl⟩) t)] at h'
  exact⟨A,t,h'⟩
 | _=>exact h
theorem Occ.backX{a:af}(r:RepN K B F H v e)(x:Ex F H F' H')(h:Occ K F' H' v e a):Occ K F H v e a:=h.back r fun _ _ _ t=>(t.ext x).1
theorem RepN.lies{a:af}(r:RepN K B F H v e)(h:Occ K F H v e a):∃ u,H a=aa u:=by
 cases e with
 | own ds=>obtain⟨l,vs,e,h1,_⟩:=r;cases e;cases (show V.ref l=.ref a from h);exact⟨_,h1⟩
 | vw ds=>obtain⟨l,vs,e,h1,_⟩:=r;cases e;cases (show V.ref l=.ref a from h);exact⟨_,h1⟩
 | obj o=>obtain⟨A,t,h'⟩:=h;obtain⟨u,h1,_⟩:=t.lies a h';exact⟨u,h1⟩
 | vwt ks ds=>obtain⟨A,t,h'⟩:=h;obtain⟨u,h1,_⟩:=t.lies a h';exact⟨u,h1⟩
 | _=>exact h.elim
theorem RS.occ{i:Nat}{a:af}(s:RS K B F H σ δ)(h:δ[i]? = aa (aa e))(q:σ[i]? = aa (aa v))(o:Occ K F H v e a):∃ u,H a=aa u:=by
 obtain⟨w,h1,h2⟩:=s.ent i e h
 rw[q] at h1
 cases h1
 exact h2.lies o
theorem RS.at{i:Nat}(s:RS K B F H σ δ)(h:δ[i]? = aa (aa e))(q:σ[i]? = aa (aa v)):RepN K B F H v e:=by
 obtain⟨w,h1,h2⟩:=s.ent i e h
 rw[q] at h1
 cases h1
 exact h2
theorem RS.ext(s:RS K B F H σ δ)(x:Ex F H F' H'):RS K B F' H' σ δ:=
 ⟨x.fh,s.bh.trans x.hh,s.len,fun i e h=>let⟨v,h1,h2⟩:=s.ent i e h;⟨v,h1,h2.ext x⟩,s.ap,
  fun i j e e' v w a hij h1 h2 h3 h4 h5 h6 h7=>s.ao i j e e' v w a hij h1 h2 h3 h4 h5 (h6.backX (s.at h1 h2) x) (h7.backX (s.at h3 h4) x),s.pn⟩
def asV:Ent->Option D
 | .val d=>aa d
 | .own ds=>aa (.lst ds)
 | _=>ab
def asL:Ent->Option (List D)
 | .val (.lst ds)=>aa ds
 | .own ds=>aa ds
 | .bor ds=>aa ds
 | .vw ds=>aa ds
 | _=>ab
theorem RepR.toL{ds:List D}(r:RepR K H0 F H v e)(h:Same F H)(q:asL e=aa ds):∃ l vs,v=.ref l/\SqL K H l vs/\Reps F vs ds:=by
 cases e with
 | val d=>
  cases d with
  | lst es=>
   cases q
   cases (show Rep F v (.lst _) from r) with
   | lst e rs=>exact⟨_,_,rfl,SqL.of (h _ _ e),rs⟩
  | _=>cases q
 | own es=>cases q;obtain⟨l,vs,e,_,h1,rs,_⟩:=r;exact⟨l,vs,e,SqL.of h1,rs⟩
 | bor es=>cases q;exact r
 | vw es=>cases q;obtain⟨l,vs,e,h1,rs⟩:=r;exact⟨l,vs,e,SqL.of h1,rs⟩
 | obj o=>cases q
 | vwt ks ds=>cases q
 | bt ds=>cases q
def asLt:Ent->Option (List D)
 | .val (.lst ds)=>aa ds
 | .own ds=>aa ds
 | .vw ds=>aa ds
 | _=>ab
theorem RepR.toLt{ds:List D}(r:RepR K H0 F H v e)(h:Same F H)(q:asLt e=aa ds):∃ l vs,v=.ref l/\H l=aa (.lst vs)/\Reps F vs ds:=by
 cases e with
 | val d=>
  cases d with
  | lst es=>
   cases q
   cases (show Rep F v (.lst _) from r) with
   | lst e rs=>exact⟨_,_,rfl,h _ _ e,rs⟩
  | _=>cases q
 | own es=>cases q;obtain⟨l,vs,e,_,h1,rs,_⟩:=r;exact⟨l,vs,e,h1,rs⟩
 | bor es=>cases q
 | vw es=>cases q;exact r
 | obj o=>cases q
 | vwt ks ds=>cases q
 | bt ds=>cases q
end
end L3

namespace L3
open PySem PySem.Spec PyProof.Rows L2
abbrev FE:=En->Option Ent
abbrev FT:=En->Option Bool
abbrev FA:=En->Option (List Ent)
inductive RepRs(K:ag)(H0 F H:Hp):List V->List Ent->Prop
 | nil:RepRs K H0 F H [] []
 | cons {v:V} {e:Ent} {vs:List V} {es:List Ent}:RepR K H0 F H v e->RepRs K H0 F H vs es->RepRs K H0 F H (v :: vs) (e :: es)
section
variable {K:ag}{B:Bd}{F H F' H' F2 H2 H0:Hp}
theorem RepRs.earlier(s:Same H0 H):∀ {vs:List V} {es:List Ent},RepRs K H F' H' vs es->RepRs K H0 F' H' vs es
 | _,_,.nil=>.nil
 | _,_,.cons r t=>.cons (r.earlier s) (RepRs.earlier s t)
theorem RepRs.length:∀ {vs:List V} {es:List Ent},RepRs K H0 F H vs es->vs.length=es.length
 | _,_,.nil=>rfl
 | _,_,.cons _ t=>by rw[aQ,aQ,RepRs.length t]
def zey:List Ent->Option (List D)
 | []=>aa []
 | e :: es=>(asV e).bind fun d=>(zey es).map fun ds=>d :: ds
theorem RepR.frz{v:V}{e:Ent}{d:D}(x:Ex F H F' H')(s:Same F2 F')(r:RepR K H F2 H' v e)(q:asV e=aa d):∃ F3,Ex F H F3 H'/\Same F' F3/\Rep F3 v d:=by
 cases e with
 | val d'=>cases q;exact⟨F',x,Same.refl _,Rep.mono s r⟩
 | own ds=>
  cases q
  obtain⟨l,vs,e,h0,h1,rs,h2⟩:=r
  subst e
  cases z:F' l with
  | none=>exact⟨upd F' l (.lst vs),x.freeze h0 h1 z,Same.alloc z,.lst zaj (rs.mono (s.trans (Same.alloc z)))⟩
  | some o=>
   have:=x.fh _ _ z
   rw[h1] at this
   cases this
   exact⟨F',x,Same.refl _,.lst z (rs.mono s)⟩
 | _=>cases q
theorem RepRs.frz:∀ {vs:List V} {es:List Ent} {ds:List D} {F':Hp},Ex F H F' H'->Same F2 F'->RepRs K H F2 H' vs es->zey es=aa ds->∃ F3,Ex F H F3 H'/\Same F' F3/\Reps F3 vs ds
 | _,_,_,F',x,_,.nil,q=>by cases q;exact⟨F',x,Same.refl _,.nil⟩
 | _,e :: es,ds,F',x,s,.cons r t,q=>by
  simp only[zey] at q
  cases h1:asV e with
  | none=>rw[h1] at q;cases q
  | some d=>
   cases h2:zey es with
   | none=>rw[h1,h2] at q;cases q
   | some ds'=>
    rw[h1,h2] at q
    cases q
    obtain⟨F3,x3,s3,r3⟩:=r.frz x s h1
    obtain⟨F4,x4,s4,r4⟩:=RepRs.frz x3 (s.trans s3) t h2
    exact⟨F4,x4,s3.trans s4,.cons (Rep.mono s4 r3) r4⟩
end
def SemE(K:ag)(t:TE)(f:FE):Prop:=∀ (B:Bd) (F H:Hp) (σ:Sg) (δ:En) (r:Ent) (Q:VK),RS K B F H σ δ->f δ=aa r->(∀ v F' H',Ex F H F' H'->RepR K H F' H' v r->Q v H')->t σ H Q
def SemT(K:ag)(t:TT)(f:FT):Prop:=∀ (B:Bd) (F H:Hp) (σ:Sg) (δ:En) (b:Bool) (Q:Bool->Hp->Prop),RS K B F H σ δ->f δ=aa b->(∀ F' H',Ex F H F' H'->Q b H')->t σ H Q
def SemA(K:ag)(t:TA)(f:FA):Prop:=∀ (B:Bd) (F H:Hp) (σ:Sg) (δ:En) (rs:List Ent) (Q:List V->Hp->Prop),RS K B F H σ δ->f δ=aa rs->(∀ vs F' H',Ex F H F' H'->RepRs K H F' H' vs rs->Q vs H')->t σ H Q
structure VE(X:Cx)(e:Expr)(f:FE):Prop where
 h:∃ t,WE X e t/\SemE X.K t f
structure VT(X:Cx)(e:Expr)(f:FT):Prop where
 h:∃ t,WT X e t/\SemT X.K t f
structure VW(X:Cx)(e:Expr)(f:FT):Prop where
 h:∃ t,WW X e t/\SemT X.K t f
structure VA(X:Cx)(es:List Expr)(f:FA):Prop where
 h:∃ t,WA X es t/\SemA X.K t f
structure VTs(X:Cx)(es:List Expr)(f:FT):Prop where
 h:∃ t,WTs X es t/\SemT X.K t f
def zab(i:Nat):FE:=fun δ=>match δ[i]? with
 | some (aa (.own ds))=>aa (.vw ds)
 | some (aa (.obj _))=>ab
 | some (aa e)=>aa e
 | _=>ab
def eC(d:D):FE:=fun _=>aa (.val d)
def ex1(g:Ent->Option Ent)(fa:FE):FE:=fun δ=>(fa δ).bind g
def ex2(g:Ent->Ent->Option Ent)(fa fb:FE):FE:=fun δ=>(fa δ).bind fun x=>(fb δ).bind fun y=>g x y
def bOf:Ent->Option Bool
 | .val (.bl b)=>aa b
 | _=>ab
def eAnd(fa fb:FE):FE:=fun δ=>((fa δ).bind bOf).bind fun b=>if b=true then fb δ else aa (.val (.bl false))
def eOr(fa fb:FE):FE:=fun δ=>((fa δ).bind bOf).bind fun b=>if b=true then aa (.val (.bl true)) else fb δ
def tOf(fe:FE):FT:=fun δ=>(fe δ).bind bOf
def fAnd(ft fu:FT):FT:=fun δ=>(ft δ).bind fun b=>if b=true then fu δ else aa false
def fOr(ft fu:FT):FT:=fun δ=>(ft δ).bind fun b=>if b=true then aa true else fu δ
def fNot(ft:FT):FT:=fun δ=>(ft δ).map fun b=>!b
def zdT:FT:=fun _=>aa true
def eIf(ft:FT)(fa fb:FE):FE:=fun δ=>(ft δ).bind fun b=>if b=true then fa δ else fb δ
def zae:FA:=fun _=>aa []
def zaa(fe:FE)(fa:FA):FA:=fun δ=>(fe δ).bind fun x=>(fa δ).map fun xs=>x :: xs
def zeR(fa:FA):FE:=fun δ=>(fa δ).bind fun rs=>if rs.length<=1000 then (zey rs).map fun ds=>.val (.tup ds) else ab
def zcH(fa:FA):FE:=fun δ=>(fa δ).bind fun rs=>if rs.length<=1000 then (zey rs).map fun ds=>.own ds else ab
def SemR1(K:ag)(r:V->Hp->VK->Prop)(g:Ent->Option Ent):Prop:=∀ (H0 F H:Hp) (x:V) (e res:Ent) (Q:VK),Same F H->Same H0 H->RepR K H0 F H x e->g e=aa res ->
 (∀ v F' H',Ex F H F' H'->RepR K H0 F' H' v res->Q v H')->r x H Q
def zjl(K:ag)(r:R2)(g:Ent->Ent->Option Ent):Prop:=∀ (H0 F H:Hp) (x y:V) (e e' res:Ent) (Q:VK),Same F H->Same H0 H->RepR K H0 F H x e->RepR K H0 F H y e'->g e e'=aa res ->
 (∀ v F' H',Ex F H F' H'->RepR K H0 F' H' v res->Q v H')->r x y H Q
def SemC(K:ag)(r:List V->Hp->VK->Prop)(g:List Ent->Option Ent):Prop:=∀ (H0 F H:Hp) (vs:List V) (es:List Ent) (res:Ent) (Q:VK),Same F H->Same H0 H->RepRs K H0 F H vs es->g es=aa res ->
 (∀ v F' H',Ex F H F' H'->RepR K H0 F' H' v res->Q v H')->r vs H Q
theorem bind_some{α β:Type}{o:Option α}{f:α->Option β}{b:β}(h:o.bind f=aa b):∃ a,o=aa a/\f a=aa b:=by
 cases o with
 | none=>cases h
 | some a=>exact⟨a,rfl,h⟩
theorem map_some{α β:Type}{o:Option α}{f:α->β}{b:β}(h:o.map f=aa b):∃ a,o=aa a/\f a=b:=by
 cases o with
 | none=>cases h
 | some a=>exact⟨a,rfl,bf h⟩
theorem ite_some{α:Type}{c:Prop}[Decidable c]{o:Option α}{b:α}(h:(if c then o else ab)=aa b):c/\o=aa b:=by
 by_cases hc:c
 ·rw[if_pos hc] at h;exact⟨hc,h⟩
 ·rw[if_neg hc] at h;cases h
noncomputable def gif{α:Type}(c:Prop)(a:Option α):Option α:=@ite _ c (j9 c) a ab
theorem zaf{α:Type}(a:Option α):gif True a=a:=by unfold gif;exact if_pos trivial
theorem gif_pos{α:Type}{c:Prop}{a:Option α}(h:c):gif c a=a:=by unfold gif;exact if_pos h
theorem zbi{α:Type}{c:Prop}{o:Option α}{b:α}(h:gif c o=aa b):c/\o=aa b:=by
 unfold gif at h
 by_cases hc:c
 ·rw[if_pos hc] at h;exact⟨hc,h⟩
 ·rw[if_neg hc] at h;cases h
def sz(n:Nat):Prop:=n<=1000000
theorem zaO{n:Nat}(h:n<=1000000):sz n=True:=eq_true h
def OpD(X:Cx)(f:ae->ae->Sem ae)(g:Ent->Ent->Option Ent):Prop:=∃ r,OpR X f r/\zjl X.K r g
def UnD(X:Cx)(f:ae->Sem ae)(g:Ent->Option Ent):Prop:=∃ r,UnR X f r/\SemR1 X.K r g
def zeW(X:Cx)(f:ae)(g:List Ent->Option Ent):Prop:=∃ r,zec X f r/\SemC X.K r g
def IxD(X:Cx)(g:Ent->Ent->Option Ent):Prop:=∃ r,IxR X r/\zjl X.K r g
theorem zgh{e:Ent}{b:Bool}(h:bOf e=aa b):e=.val (.bl b):=by
 cases e with
 | val d=>cases d <;> first | (cases h;rfl) | (cases h)
 | _=>cases h
theorem zhl{F:Hp}{v:V}{b:Bool}(h:Rep F v (.bl b)):v=.bl b:=by cases h;rfl
theorem za3{F:Hp}{v:V}{i:Int}(h:Rep F v (.int i)):v=.int i:=by cases h;rfl
theorem zb6{F:Hp}{v:V}{i:Str}(h:Rep F v (.str i)):v=.str i:=by cases h;rfl
theorem zih{F:Hp}{v:V}(h:Rep F v .non):v=.non:=by cases h;rfl
section
variable {X:Cx}{a b c e:Expr}{es rest:List Expr}{pos p:Pos}{fa fb fc:FE}{ft fu:FT}{fs:FA}{x:Str}
theorem vv(i:Nat)(hN:X.N[i]? = aa x:=by rfl)(hv:Vis X.env.scope x:=by first | exact au rfl | exact bw (au rfl) | exact bw (bw rfl))(hd:(x == ("__debug__" : Str))=false:=by decide)
  (hcd:(x == ("__classdict__" : Str))=false:=by decide):VE X (.Name x pos) (zab i):=by
 refine⟨_,wv i hN hv hd hcd,fun B F H σ δ r Q s q k=>?_⟩
 unfold zab at q
 split at q
 ·rename_i ds e
  cases q
  obtain⟨v,h1,l,vs,e,h2,h3,_⟩:=s.ent i _ e
  exact⟨v,h1,k v F H (Ex.refl s.fh) ⟨l,vs,e,h2,h3⟩⟩
 ·cases q
 ·rename_i ee hne hno e
  cases q
  obtain⟨v,h1,h2⟩:=s.ent i _ e
  refine⟨v,h1,k v F H (Ex.refl s.fh) ?_⟩
  cases r with
  | val d=>exact h2
  | own ds=>exact(hne ds rfl).elim
  | bor ds=>obtain⟨l,vs,e,h,rs⟩:=h2;exact⟨l,vs,e,s.bh.seq h,rs⟩
  | vw ds=>exact h2
  | obj o=>exact(hno o rfl).elim
  | vwt ks ds=>exact h2
  | bt ds=>obtain⟨l,vs,e,h,rs⟩:=h2;exact⟨l,vs,e,s.bh.seqT h,rs⟩
 ·cases q
theorem SemE.cst{K:ag}{v:V}{d:D}(h:∀ F,Rep F v d):SemE K (tC v) (eC d):=fun B F H σ δ r Q s q k=>by
 cases q
 exact k v F H (Ex.refl s.fh) (h F)
theorem zao{i:Int}{j:Nat}:VE X (.Constant (.int i) j pos) (eC (.int i)):=⟨_,wint,.cst fun _=>.int i⟩
theorem vbl{i:Bool}{j:Nat}:VE X (.Constant (.bool i) j pos) (eC (.bl i)):=⟨_,wbl,.cst fun _=>.bl i⟩
theorem zhU{j:Nat}:VE X (.Constant .none j pos) (eC .non):=⟨_,wnon,.cst fun _=>.non⟩
theorem vstr{i:Str}{j:Nat}:VE X (.Constant (.str i) j pos) (eC (.str i)):=⟨_,wstr,.cst fun _=>.str i⟩
theorem vglI{i:Int}(hg:Gl X x)(h:∃ u,X.mg x=aa u/\RelV (.int i) u)(hd:(x == ("__debug__" : Str))=false:=by decide):VE X (.Name x pos) (eC (.int i)):=⟨_,wgl hg h hd,.cst fun _=>.int i⟩
theorem SemE.op{K:ag}{r:R2}{ta tb:TE}{g:Ent->Ent->Option Ent}(hr:zjl K r g)(ha:SemE K ta fa)(hb:SemE K tb fb):SemE K (tOp r ta tb) (ex2 g fa fb):=fun B F H σ δ res Q s q k=>by
 obtain⟨ex1,q1,q⟩:=bind_some q
 obtain⟨ex2,q2,q⟩:=bind_some q
 refine ha B F H σ δ ex1 _ s q1 fun v F1 H1 x1 r1=>?_
 refine hb B F1 H1 σ δ ex2 _ (s.ext x1) q2 fun w F2 H2 x2 r2=>?_
 exact hr H F2 H2 v w ex1 ex2 res Q x2.fh (x1.trans x2).hh (r1.ext x2) (r2.earlier x1.hh) q fun v' F' H' x3 r3=>k v' F' H' ((x1.trans x2).trans x3) r3
theorem vop{op:Operator}{g:Ent->Ent->Option Ent}(ho:OpD X (binaryOp op) g)(ha:VE X a fa)(hb:VE X b fb):VE X (.BinOp a op b pos) (ex2 g fa fb):=
 let⟨_,wa,sa⟩:=ha.h;let⟨_,wb,sb⟩:=hb.h;let⟨_,h1,h2⟩:=ho;⟨_,wop h1 wa wb,.op h2 sa sb⟩
theorem ziQ{op:CmpOp}{g:Ent->Ent->Option Ent}(ho:OpD X (bF op) g)(ha:VE X a fa)(hb:VE X b fb)(hm:behindInMarks op b=false):VE X (.Compare a [op] [b] pos) (ex2 g fa fb):=
 let⟨_,wa,sa⟩:=ha.h;let⟨_,wb,sb⟩:=hb.h;let⟨_,h1,h2⟩:=ho;⟨_,wcmp h1 wa wb hm,.op h2 sa sb⟩
theorem SemE.test{K:ag}{ta:TE}(ha:SemE K ta fa):SemT K (tB ta) (tOf fa):=fun B F H σ δ b Q s q k=>by
 obtain⟨e,q1,q⟩:=bind_some q
 cases zgh q
 refine ha B F H σ δ _ _ s q1 fun v F1 H1 x1 r1=>?_
 exact⟨b,zhl r1,k F1 H1 x1⟩
theorem tcm{op:CmpOp}{g:Ent->Ent->Option Ent}(ho:OpD X (bF op) g)(ha:VE X a fa)(hb:VE X b fb)(hm:behindInMarks op b=false):VT X (.Compare a [op] [b] pos) (tOf (ex2 g fa fb)):=
 let⟨_,wa,sa⟩:=ha.h;let⟨_,wb,sb⟩:=hb.h;let⟨_,h1,h2⟩:=ho;⟨_,tcmp h1 wa wb hm,SemE.test (.op h2 sa sb)⟩
theorem tva(h:VE X e fa)(he:∀ whole,isTrue e X.env whole=(do let v <- whole;standAt e.pos;holding [v] (truthy v)):=by intro _;rfl):VT X e (tOf fa):=
 let⟨_,wa,sa⟩:=h.h;⟨_,tval wa he,SemE.test sa⟩
theorem vun{op:UnaryOp}{g:Ent->Option Ent}(ho:UnD X (unaryOp op) g)(ha:VE X a fa):VE X (.UnaryOp op a pos) (ex1 g fa):=by
 obtain⟨ta,wa,sa⟩:=ha.h
 obtain⟨rr,ho1,ho2⟩:=ho
 refine⟨_,wun ho1 wa,fun B F H σ δ res Q s q k=>?_⟩
 obtain⟨ex1,q1,q⟩:=bind_some q
 exact sa B F H σ δ ex1 _ s q1 fun v F1 H1 x1 r1=>ho2 H F1 H1 v ex1 res Q x1.fh x1.hh r1 q fun v' F' H' x2 r2=>k v' F' H' (x1.trans x2) r2
theorem vone{op:BoolOp}(h:VE X a fa):VE X (.BoolOp op [a] pos) fa:=let⟨_,wa,sa⟩:=h.h;⟨_,wone wa,sa⟩
theorem vand(ha:VE X a fa)(hb:VE X (.BoolOp .And (b :: rest) pos) fb):VE X (.BoolOp .And (a :: b :: rest) pos) (eAnd fa fb):=by
 obtain⟨ta,wa,sa⟩:=ha.h
 obtain⟨tb,wb,sb⟩:=hb.h
 refine⟨_,wand wa wb,fun B F H σ δ res Q s q k=>?_⟩
 obtain⟨bb,q1,q⟩:=bind_some q
 obtain⟨eb,q1,q2⟩:=bind_some q1
 cases zgh q2
 refine sa B F H σ δ _ _ s q1 fun v F1 H1 x1 r1=>⟨bb,zhl r1,?_⟩
 cases bb with
 | true=>exact iteT (sb B F1 H1 σ δ res Q (s.ext x1) q fun v' F' H' x2 r2=>k v' F' H' (x1.trans x2) (r2.earlier x1.hh))
 | false=>cases q;exact iteF (k _ F1 H1 x1 (.bl false))
theorem vor(ha:VE X a fa)(hb:VE X (.BoolOp .Or (b :: rest) pos) fb):VE X (.BoolOp .Or (a :: b :: rest) pos) (eOr fa fb):=by
 obtain⟨ta,wa,sa⟩:=ha.h
 obtain⟨tb,wb,sb⟩:=hb.h
 refine⟨_,wor wa wb,fun B F H σ δ res Q s q k=>?_⟩
 obtain⟨bb,q1,q⟩:=bind_some q
 obtain⟨eb,q1,q2⟩:=bind_some q1
 cases zgh q2
 refine sa B F H σ δ _ _ s q1 fun v F1 H1 x1 r1=>⟨bb,zhl r1,?_⟩
 cases bb with
 | false=>exact iteF (sb B F1 H1 σ δ res Q (s.ext x1) q fun v' F' H' x2 r2=>k v' F' H' (x1.trans x2) (r2.earlier x1.hh))
 | true=>cases q;exact iteT (k _ F1 H1 x1 (.bl true))
theorem tan1(ha:VT X a ft):VW X (.BoolOp .And [a] pos) ft:=let⟨_,wa,sa⟩:=ha.h;⟨_,tand1 wa,sa⟩
theorem zgx(ha:VT X a ft):VW X (.BoolOp .Or [a] pos) ft:=let⟨_,wa,sa⟩:=ha.h;⟨_,tor1 wa,sa⟩
theorem tan(ha:VT X a ft)(hb:VW X (.BoolOp .And (b :: rest) pos) fu):VW X (.BoolOp .And (a :: b :: rest) pos) (fAnd ft fu):=by
 obtain⟨ta,wa,sa⟩:=ha.h
 obtain⟨tb,wb,sb⟩:=hb.h
 refine⟨_,tand wa wb,fun B F H σ δ res Q s q k=>?_⟩
 obtain⟨bb,q1,q⟩:=bind_some q
 refine sa B F H σ δ bb _ s q1 fun F1 H1 x1=>?_
 cases bb with
 | true=>exact iteT (sb B F1 H1 σ δ res Q (s.ext x1) q fun F' H' x2=>k F' H' (x1.trans x2))
 | false=>cases q;exact iteF (k F1 H1 x1)
theorem tor'(ha:VT X a ft)(hb:VW X (.BoolOp .Or (b :: rest) pos) fu):VW X (.BoolOp .Or (a :: b :: rest) pos) (fOr ft fu):=by
 obtain⟨ta,wa,sa⟩:=ha.h
 obtain⟨tb,wb,sb⟩:=hb.h
 refine⟨_,tor wa wb,fun B F H σ δ res Q s q k=>?_⟩
 obtain⟨bb,q1,q⟩:=bind_some q
 refine sa B F H σ δ bb _ s q1 fun F1 H1 x1=>?_
 cases bb with
 | false=>exact iteF (sb B F1 H1 σ δ res Q (s.ext x1) q fun F' H' x2=>k F' H' (x1.trans x2))
 | true=>cases q;exact iteT (k F1 H1 x1)
theorem tww(h:VW X a ft):VT X a ft:=let⟨_,wa,sa⟩:=h.h;⟨_,tw wa,sa⟩
theorem tnt(ha:VT X a ft):VT X (.UnaryOp .Not a pos) (fNot ft):=by
 obtain⟨ta,wa,sa⟩:=ha.h
 refine⟨_,tnot wa,fun B F H σ δ res Q s q k=>?_⟩
 obtain⟨bb,q1,q⟩:=map_some q
 cases q
 exact sa B F H σ δ bb _ s q1 fun F1 H1 x1=>k F1 H1 x1
theorem vif(hc:VT X c ft)(ha:VE X a fa)(hb:VE X b fb):VE X (.IfExp c a b pos) (eIf ft fa fb):=by
 obtain⟨tc,wc,sc⟩:=hc.h
 obtain⟨ta,wa,sa⟩:=ha.h
 obtain⟨tb,wb,sb⟩:=hb.h
 refine⟨_,wif wc wa wb,fun B F H σ δ res Q s q k=>?_⟩
 obtain⟨bb,q1,q⟩:=bind_some q
 refine sc B F H σ δ bb _ s q1 fun F1 H1 x1=>?_
 cases bb with
 | true=>exact iteT (sa B F1 H1 σ δ res Q (s.ext x1) q fun v' F' H' x2 r2=>k v' F' H' (x1.trans x2) (r2.earlier x1.hh))
 | false=>exact iteF (sb B F1 H1 σ δ res Q (s.ext x1) q fun v' F' H' x2 r2=>k v' F' H' (x1.trans x2) (r2.earlier x1.hh))
theorem if0:VTs X [] zdT:=⟨_,ifs0,fun B F H σ δ b Q s q k=>by cases q;exact k F H (Ex.refl s.fh)⟩
theorem if1(h:VT X c ft):VTs X [c] ft:=let⟨_,wc,sc⟩:=h.h;⟨_,ifs1 wc,sc⟩
theorem zaq:VA X [] zae:=⟨_,wnil,fun B F H σ δ rs Q s q k=>by cases q;exact k [] F H (Ex.refl s.fh) .nil⟩
theorem zac(ha:VE X e fa)(hr:VA X es fs)(h:zam e=true:=by rfl):VA X (e :: es) (zaa fa fs):=by
 obtain⟨ta,wa,sa⟩:=ha.h
 obtain⟨tb,wb,sb⟩:=hr.h
 refine⟨_,wac wa wb h,fun B F H σ δ rs Q s q k=>?_⟩
 obtain⟨ex1,q1,q⟩:=bind_some q
 obtain⟨es',q2,q⟩:=map_some q
 cases q
 refine sa B F H σ δ ex1 _ s q1 fun v F1 H1 x1 r1=>?_
 exact sb B F1 H1 σ δ es' _ (s.ext x1) q2 fun vs F2 H2 x2 r2=>k _ F2 H2 (x1.trans x2) (.cons (r1.ext x2) (r2.earlier x1.hh))
theorem ziX{n:Nat}(h:n<=1000):n<=aZ:=bA (small1000 h)
theorem vtup{x1:Nat}(h:VA X es fs):VE X (.Tuple es x1 pos) (zeR fs):=by
 obtain⟨t,w,sm⟩:=h.h
 refine⟨_,wtup w,fun B F H σ δ res Q s q k=>?_⟩
 obtain⟨rs,q1,q⟩:=bind_some q
 split at q
 ·rename_i hl
  obtain⟨ds,q2,q⟩:=map_some q
  cases q
  refine sm B F H σ δ rs _ s q1 fun vs F1 H1 x1 r1=>⟨by rw[r1.length];exact ziX hl,fun p hp=>?_⟩
  obtain⟨F2,x2,_,r2⟩:=RepRs.frz x1 (Same.refl _) r1 q2
  exact k _ _ _ (x2.trans (Ex.alloc x2.fh hp)) (.tup zaj (r2.mono (Same.alloc (x2.fh.free hp))))
 ·cases q
theorem zf2(h:VA X es fs):VE X (.List es pos) (zcH fs):=by
 obtain⟨t,w,sm⟩:=h.h
 refine⟨_,wlst w,fun B F H σ δ res Q s q k=>?_⟩
 obtain⟨rs,q1,q⟩:=bind_some q
 split at q
 ·rename_i hl
  obtain⟨ds,q2,q⟩:=map_some q
  cases q
  refine sm B F H σ δ rs _ s q1 fun vs F1 H1 x1 r1=>⟨by rw[r1.length];exact ziX hl,fun p hp=>?_⟩
  obtain⟨F2,x2,_,r2⟩:=RepRs.frz x1 (Same.refl _) r1 q2
  exact k _ _ _ (x2.trans (Ex.lay x2.fh hp)) ⟨p,vs,rfl,x2.hh.free hp,zaj,r2,x2.fh.free hp⟩
 ·cases q
theorem vix{g:Ent->Ent->Option Ent}(hr:IxD X g)(ha:VE X a fa)(hb:VE X b fb)(hs:zhW b):VE X (.Subscript a b pos) (ex2 g fa fb):=
 let⟨_,wa,sa⟩:=ha.h;let⟨_,wb,sb⟩:=hb.h;let⟨_,h1,h2⟩:=hr;⟨_,wix h1 wa wb hs,.op h2 sa sb⟩
def eCB(g:List Ent->Option Ent)(fs:FA):FE:=fun δ=>(fs δ).bind g
theorem SemE.cb{K:ag}{t:TA}{q:List V->Hp->VK->Prop}{g:List Ent->Option Ent}(hc:SemC K q g)(ha:SemA K t fs):SemE K (tCB q t) (eCB g fs):=fun B F H σ δ res Q s q k=>by
 obtain⟨rs,q1,q⟩:=bind_some q
 exact ha B F H σ δ rs _ s q1 fun vs F1 H1 x1 r1=>hc H F1 H1 vs rs res Q x1.fh x1.hh r1 q fun v' F' H' x2 r2=>k v' F' H' (x1.trans x2) r2
theorem vcb{id:String}{g:List Ent->Option Ent}(hc:zeW X (.builtin id) g)(hg:Gl X x)(hm:X.mg x=ab)(hv:bn x=aa (.builtin id))(ha:VA X (e :: es) fs)(hn:x ≠ "__name__" :=by decide)(hdb:(x == ("__debug__" : Str))=false:=by decide)
  (h1:zam e=true:=by rfl) (h2:es.all zam=true:=by rfl):VE X (.Call (.Name x p) (e :: es) [] pos) (eCB g fs):=
 let⟨_,wa,sa⟩:=ha.h;let⟨_,h3,h4⟩:=hc;⟨_,wcb h3 hg hm hv wa hn hdb h1 h2,.cb h4 sa⟩
theorem vct{T:String}{g:List Ent->Option Ent}(hc:zeW X (.type T) g)(hg:Gl X x)(hm:X.mg x=ab)(hv:bn x=aa (.type T))(ha:VA X (e :: es) fs)(hn:x ≠ "__name__" :=by decide)(hdb:(x == ("__debug__" : Str))=false:=by decide)
  (h1:zam e=true:=by rfl) (h2:es.all zam=true:=by rfl):VE X (.Call (.Name x p) (e :: es) [] pos) (eCB g fs):=
 let⟨_,wa,sa⟩:=ha.h;let⟨_,h3,h4⟩:=hc;⟨_,wct h3 hg hm hv wa hn hdb h1 h2,.cb h4 sa⟩
end
end L3

namespace L3
open PySem PySem.Spec PyProof.Rows L2
inductive Out where
 | nx (δ:En) | rt (r:Ent) (δ:En) | bk (δ:En) | ct (δ:En)
abbrev FS:=En->Option Out
structure FX(B F F':Hp):Prop where
 ff:Same F F'
 nw:∀ a o,B a=aa o->isT o=false->F' a=F a
section
variable {K:ag}{B:Bd}{F H F' H' F2 H2 H0:Hp}{σ:Sg}{δ:En}{v:V}{d:D}{e:Ent}{l:af}{vs:List V}{ds:List D}{DD:Ends}{out:Out}
theorem FX.refl:FX B F F:=⟨Same.refl F,fun _ _ _ _=>rfl⟩
theorem FX.trans(a:FX B F F')(b:FX B F' F2):FX B F F2:=⟨a.ff.trans b.ff,fun x o e t=>(b.nw x o e t).trans (a.nw x o e t)⟩
theorem FX.of(x:Ex F H F' H')(s:Same B H):FX B F F':=⟨x.ff,fun a o e t=>x.nw a o (s _ _ e) t⟩
def EndOk(K:ag)(B:Bd)(F:Hp)(DD:Ends):Out->Prop
 | .nx δ'=>∀ σ' F' H',RS K B F' H' σ' δ'->FX B F F'->DD.nx σ' H'
 | .rt r δ'=>∀ v σ' F' H',RS K B F' H' σ' δ'->FX B F F'->RepR K B F' H' v r->DD.rt v H'
 | .bk δ'=>∀ σ' F' H',RS K B F' H' σ' δ'->FX B F F'->DD.bk σ' H'
 | .ct δ'=>∀ σ' F' H',RS K B F' H' σ' δ'->FX B F F'->DD.ct σ' H'
theorem EndOk.mono(h:EndOk K B F DD out)(x:FX B F F'):EndOk K B F' DD out:=by
 cases out with
 | nx δ'=>exact fun σ' F2 H2 s y=>h σ' F2 H2 s (x.trans y)
 | rt r δ'=>exact fun v σ' F2 H2 s y z=>h v σ' F2 H2 s (x.trans y) z
 | bk δ'=>exact fun σ' F2 H2 s y=>h σ' F2 H2 s (x.trans y)
 | ct δ'=>exact fun σ' F2 H2 s y=>h σ' F2 H2 s (x.trans y)
theorem RS.put(s:RS K B F H σ δ)(i:Nat)(r:RepN K B F H v e)(hne:e.lk=true->∀ j e',j ≠ i->δ[j]? = aa (aa e')->e'.lk=true->∀ l,v=.ref l->σ[j]? ≠ aa (aa (.ref l)))
  (hpn:e.isO=true->0<i \/ (∀ p,B.pin ≠ aa p) \/ B.pin=aa v) (hno:∀ j e' w a,j ≠ i->δ[j]? = aa (aa e')->σ[j]? = aa (aa w)->(e.isO=true \/ e'.isO=true)->Occ K F H v e a->Occ K F H w e' a->False) :
  RS K B F H (σ.set i (aa v)) (δ.set i (aa e)):=by
 have hl:=s.len
 refine⟨s.fh,s.bh,by simp[hl],fun j e' h=>?_,fun a b l ds e' hab h1 h2 h3 h4 h5=>?_,fun a b e1 e2 v1 v2 ad hab h1 h2 h3 h4 h5 h6 h7=>?_,fun w o hw ho=>?_⟩
 ·rw[bj] at h ⊢
  by_cases hij:i=j
  ·subst hij
   rw[if_pos rfl] at h ⊢
   by_cases hi:i<δ.length
   ·rw[if_pos hi] at h
    cases h
    exact⟨v,by rw[if_pos (by lia)],r⟩
   ·rw[if_neg hi] at h;cases h
  ·rw[if_neg hij] at h ⊢
   exact s.ent j e' h
 ·rw[bj] at h1 h2 h3 h5
  by_cases hia:i=a
  ·subst hia
   rw[if_pos rfl] at h1 h2
   rw[if_neg hab] at h3 h5
   by_cases hi:i<δ.length
   ·rw[if_pos hi] at h1
    rw[if_pos (by lia)] at h2
    cases h1
    cases h2
    exact hne rfl b e' (cj hab) h3 h4 l rfl h5
   ·rw[if_neg hi] at h1;cases h1
  ·rw[if_neg hia] at h1 h2
   by_cases hib:i=b
   ·subst hib
    rw[if_pos rfl] at h3 h5
    by_cases hi:i<δ.length
    ·rw[if_pos hi] at h3
     rw[if_pos (by lia)] at h5
     cases h3
     cases h5
     exact hne h4 a _ hab h1 rfl l rfl h2
    ·rw[if_neg hi] at h3;cases h3
   ·rw[if_neg hib] at h3 h5
    exact s.ap a b l ds e' hab h1 h2 h3 h4 h5
 ·rw[bj] at h1 h2 h3 h4
  by_cases hia:i=a
  ·subst hia
   rw[if_pos rfl] at h1 h2
   rw[if_neg hab] at h3 h4
   by_cases hi:i<δ.length
   ·rw[if_pos hi] at h1
    rw[if_pos (by lia)] at h2
    cases h1
    cases h2
    exact hno b _ _ ad (cj hab) h3 h4 (.inl h5) h6 h7
   ·rw[if_neg hi] at h1;cases h1
  ·rw[if_neg hia] at h1 h2
   by_cases hib:i=b
   ·subst hib
    rw[if_pos rfl] at h3 h4
    by_cases hi:i<δ.length
    ·rw[if_pos hi] at h3
     rw[if_pos (by lia)] at h4
     cases h3
     cases h4
     exact hno a _ _ ad hab h1 h2 (.inr h5) h7 h6
    ·rw[if_neg hi] at h3;cases h3
   ·rw[if_neg hib] at h3 h4
    exact s.ao a b e1 e2 v1 v2 ad hab h1 h2 h3 h4 h5 h6 h7
 ·rw[bj] at ho ⊢
  by_cases hi:i=0
  ·subst hi
   rw[if_pos rfl] at ho ⊢
   split at ho
   ·cases ho
    rw[if_pos (by lia)]
    rcases hpn rfl with z | z | z
    ·lia
    ·exact absurd hw (z w)
    ·rw[hw] at z;exact congrArg (fun x=>aa x) z.symm
   ·cases ho
  ·rw[if_neg hi] at ho ⊢
   exact s.pn w o hw ho
theorem RS.putV(s:RS K B F H σ δ)(i:Nat)(r:Rep F v d):RS K B F H (σ.set i (aa v)) (δ.set i (aa (.val d))):=s.put i r (fun h=>by cases h) (fun h=>by cases h) fun _ _ _ _ _ _ _ _ h _=>h
theorem RS.drop(s:RS K B F H σ δ)(i:Nat):RS K B F H σ (δ.set i ab):=by
 refine⟨s.fh,s.bh,by simp[s.len],fun j e h=>?_,fun a b l ds e hab h1 h2 h3 h4=>?_,fun a b e1 e2 v1 v2 ad hab h1 h2 h3 h4 h5 h6 h7=>?_,fun w o hw ho=>?_⟩
 ·rw[bj] at h
  split at h
  ·split at h <;> cases h
  ·exact s.ent j e h
 ·rw[bj] at h1 h3
  split at h1
  ·split at h1 <;> cases h1
  ·split at h3
   ·split at h3 <;> cases h3
   ·exact s.ap a b l ds e hab h1 h2 h3 h4
 ·rw[bj] at h1 h3
  split at h1
  ·split at h1 <;> cases h1
  ·split at h3
   ·split at h3 <;> cases h3
   ·exact s.ao a b e1 e2 v1 v2 ad hab h1 h2 h3 h4 h5 h6 h7
 ·rw[bj] at ho
  split at ho
  ·split at ho <;> cases ho
  ·exact s.pn w o hw ho
theorem RS.lies{i:Nat}(s:RS K B F H σ δ)(h:δ[i]? = aa (aa e))(k:e.lk=true)(q:σ[i]? = aa (aa (.ref l))):∃ o,H l=aa o:=by
 obtain⟨v,h1,h2⟩:=s.ent i e h
 rw[q] at h1
 cases h1
 cases e with
 | own ds=>obtain⟨l',vs,e,h3,_⟩:=h2;cases e;exact⟨_,h3⟩
 | vw ds=>obtain⟨l',vs,e,h3,_⟩:=h2;cases e;exact⟨_,h3⟩
 | _=>cases k
def toN:Ent->Option Ent
 | .val d=>aa (.val d)
 | .own ds=>aa (.own ds)
 | _=>ab
theorem RS.putR{e':Ent}(s:RS K B F H σ δ)(x:Ex F H F' H')(i:Nat)(r:RepR K H F' H' v e)(q:toN e=aa e'):RS K B F' H' (σ.set i (aa v)) (δ.set i (aa e')):=by
 cases e with
 | val d=>cases q;exact(s.ext x).putV i r
 | own ds=>
  cases q
  obtain⟨l,vs,e,h0,h1,rs,h2⟩:=r
  refine(s.ext x).put i ⟨l,vs,e,h1,rs,h2,s.bh.free h0⟩ (fun _ j e' _ h3 h4 l' ex2 h5=>?_) (fun z=>by cases z) fun j e' w a _ h3 h4 _ h5 h6=>?_
  ·rw[e] at ex2
   cases ex2
   obtain⟨o,h6⟩:=s.lies h3 h4 h5
   rw[h0] at h6
   cases h6
  ·obtain⟨u,h7⟩:=s.occ h3 h4 (h6.backX (s.at h3 h4) x)
   rw[e] at h5
   cases (show V.ref l=.ref a from h5)
   rw[h0] at h7
   cases h7
 | _=>cases q
theorem RS.putO{o:OT}(s:RS K B F H σ δ)(x:Ex F H F' H')(i:Nat)(h0:0<i)(r:RepR K H F' H' v (.obj o)):RS K B F' H' (σ.set i (aa v)) (δ.set i (aa (.obj o))):=by
 obtain⟨_,A,t,n,h⟩:=r
 refine(s.ext x).put i ⟨A,t,n,fun a ha=>⟨(h a ha).1,s.bh.free (h a ha).2⟩⟩ (fun z=>by cases z) (fun _=>.inl h0) fun j e' w a _ h3 h4 _ h5 h6=>?_
 obtain⟨u,h7⟩:=s.occ h3 h4 (h6.backX (s.at h3 h4) x)
 obtain⟨A',t',h5⟩:=h5
 rw[t'.det t] at h5
 rw[(h a h5).2] at h7
 cases h7
theorem RS.mut{i:Nat}{ds':List D}{vs':List V}(s:RS K B F H σ δ)(hi:δ[i]? = aa (aa (.own ds)))(hs:σ[i]? = aa (aa (.ref l)))(r:Reps F vs' ds'):RS K B F (upd H l (.lst vs')) σ (δ.set i (aa (.own ds'))):=by
 obtain⟨v,h1,l',vs,e,h2,h3,h4,h5⟩:=s.ent i _ hi
 rw[hs] at h1
 cases h1
 cases e
 have mv:∀ (j:Nat) (w:V) (o:OT) (A:List af),i ≠ j->δ[j]? = aa (aa (.obj o))->σ[j]? = aa (aa w)->TR K F H w o A->TR K F (upd H l (.lst vs')) w o A:=fun j w o A hij q q' t=>
  t.move (Same.refl F) fun a ha=>zan fun z=>by subst z;exact s.ao j i _ _ _ _ a (cj hij) q q' hi hs rfl ⟨A,t,ha⟩ rfl
 have mt:∀ (w:V) (ks:List (List KN)) (es:List D) (A:List af),TR K F H w (.dcT ks es) A->TR K F (upd H l (.lst vs')) w (.dcT ks es) A:=fun w ks es A t=>t.move (Same.refl F) fun a ha=>zan fun z=>by
  subst z
  cases t with
  | dcT e _ _ _=>
   cases a7.mp ha
   rw[h2] at e
   cases e
 refine⟨fun b o q=>?_,fun b o q=>?_,by simp[s.len],fun j e q=>?_,fun a b l2 es e' hab q1 q2 q3 q4=>?_,fun a b e1 e2 v1 v2 ad hab q1 q2 q3 q4 q5 q6 q7=>?_,fun w o hw ho=>?_⟩
 ·rw[zan (zaZ q h4)];exact s.fh b o q
 ·rw[zan (zaZ q h5)];exact s.bh b o q
 ·rw[bj] at q
  by_cases hij:i=j
  ·subst hij
   rw[if_pos rfl] at q
   split at q
   ·cases q;exact⟨_,hs,l,vs',rfl,zaj,r,h4,h5⟩
   ·cases q
  ·rw[if_neg hij] at q
   obtain⟨w,p1,p2⟩:=s.ent j e q
   refine⟨w,p1,?_⟩
   cases e with
   | val d=>exact p2
   | bor ds=>exact p2
   | own es=>
    obtain⟨l2,ws,ex2,p3,p4⟩:=p2
    refine⟨l2,ws,ex2,?_,p4⟩
    rw[zan (fun z=>s.ap i j l ds _ hij hi hs q rfl (by rw[p1,ex2,z]))]
    exact p3
   | vw es=>
    obtain⟨l2,ws,ex2,p3,p4⟩:=p2
    refine⟨l2,ws,ex2,?_,p4⟩
    rw[zan (fun z=>s.ap i j l ds _ hij hi hs q rfl (by rw[p1,ex2,z]))]
    exact p3
   | obj o=>
    obtain⟨A,t,n,h⟩:=p2
    exact⟨A,mv j w o A hij q p1 t,n,h⟩
   | vwt ks es=>obtain⟨A,t⟩:=p2;exact⟨A,mt w ks es A t⟩
   | bt ds=>exact p2
 ·rw[bj] at q1 q3
  by_cases hia:i=a
  ·subst hia
   rw[if_neg hab] at q3
   exact s.ap i b l2 ds e' hab hi q2 q3 q4
  ·rw[if_neg hia] at q1
   by_cases hib:i=b
   ·subst hib
    exact s.ap a i l2 es _ hab q1 q2 hi rfl
   ·rw[if_neg hib] at q3
    exact s.ap a b l2 es e' hab q1 q2 q3 q4
 ·rw[bj] at q1 q3
  have bk:∀ (j:Nat) (e:Ent) (w:V),i ≠ j->δ[j]? = aa (aa e)->σ[j]? = aa (aa w)->Occ K F (upd H l (.lst vs')) w e ad->Occ K F H w e ad:=fun j e w hij z1 z2 z3=>z3.back (s.at z1 z2) fun o A he t=>by
   rcases he with he | ⟨ks,es,he,ho⟩
   ·subst he;exact mv j w o A hij z1 z2 t
   ·subst ho;exact mt w ks es A t
  by_cases hia:i=a
  ·subst hia
   rw[if_pos rfl] at q1
   split at q1
   ·cases q1;cases q5
   ·cases q1
  ·rw[if_neg hia] at q1
   by_cases hib:i=b
   ·subst hib
    rw[if_pos rfl] at q3
    split at q3
    ·cases q3
     rw[hs] at q4
     cases q4
     exact s.ao a i e1 _ v1 _ ad hab q1 q2 hi hs q5 (bk a e1 v1 hia q1 q2 q6) q7
    ·cases q3
   ·rw[if_neg hib] at q3
    exact s.ao a b e1 e2 v1 v2 ad hab q1 q2 q3 q4 q5 (bk a e1 v1 hia q1 q2 q6) (bk b e2 v2 hib q3 q4 q7)
 ·rw[bj] at ho
  split at ho
  ·split at ho <;> cases ho
  ·exact s.pn w o hw ho
theorem RS.frz{i:Nat}(s:RS K B F H σ δ)(hi:δ[i]? = aa (aa (.own ds))):∃ F',FX B F F'/\RS K B F' H σ (δ.set i (aa (.val (.lst ds)))):=by
 obtain⟨v,h1,l,vs,e,h2,h3,h4,h5⟩:=s.ent i _ hi
 subst e
 refine⟨upd F l (.lst vs),⟨Same.alloc h4,fun a o e _=>zan (zaZ e h5)⟩,?_⟩
 have sm:Same F (upd F l (.lst vs)):=Same.alloc h4
 refine⟨fun b o q=>?_,s.bh,by simp[s.len],fun j e q=>?_,fun a b l2 es e' hab q1 q2 q3 q4=>?_,fun a b e1 e2 v1 v2 ad hab q1 q2 q3 q4 q5 q6 q7=>?_,fun w o hw ho=>?_⟩
 ·by_cases hb:b=l
  ·subst hb;rw[zaj] at q;cases q;exact h2
  ·rw[zan hb] at q;exact s.fh b o q
 ·rw[bj] at q
  by_cases hij:i=j
  ·subst hij
   rw[if_pos rfl] at q
   split at q
   ·cases q;exact⟨_,h1,.lst zaj (h3.mono sm)⟩
   ·cases q
  ·rw[if_neg hij] at q
   obtain⟨w,p1,p2⟩:=s.ent j e q
   refine⟨w,p1,?_⟩
   cases e with
   | val d=>exact Rep.mono sm p2
   | bor es=>obtain⟨l2,ws,ex2,p3,p4⟩:=p2;exact⟨l2,ws,ex2,p3,p4.mono sm⟩
   | own es=>
    obtain⟨l2,ws,ex2,p3,p4,p5,p6⟩:=p2
    refine⟨l2,ws,ex2,p3,p4.mono sm,?_,p6⟩
    rw[zan (fun z=>s.ap i j l ds _ hij hi h1 q rfl (by rw[p1,ex2,z]))]
    exact p5
   | vw es=>obtain⟨l2,ws,ex2,p3,p4⟩:=p2;exact⟨l2,ws,ex2,p3,p4.mono sm⟩
   | obj o=>
    obtain⟨A,t,n,h⟩:=p2
    refine⟨A,t.move sm fun _ _=>rfl,n,fun a ha=>⟨?_,(h a ha).2⟩⟩
    rw[zan (fun z=>by subst z;exact s.ao j i _ _ _ _ a (cj hij) q p1 hi h1 rfl ⟨A,t,ha⟩ rfl)]
    exact(h a ha).1
   | vwt ks es=>obtain⟨A,t⟩:=p2;exact⟨A,t.move sm fun _ _=>rfl⟩
   | bt es=>obtain⟨l2,ws,ex2,p3,p4⟩:=p2;exact⟨l2,ws,ex2,p3,p4.mono sm⟩
 ·rw[bj] at q1 q3
  by_cases hia:i=a
  ·subst hia
   rw[if_pos rfl] at q1
   split at q1 <;> cases q1
  ·rw[if_neg hia] at q1
   by_cases hib:i=b
   ·subst hib
    rw[if_pos rfl] at q3
    split at q3
    ·cases q3;cases q4
    ·cases q3
   ·rw[if_neg hib] at q3
    exact s.ap a b l2 es e' hab q1 q2 q3 q4
 ·rw[bj] at q1 q3
  by_cases hia:i=a
  ·subst hia
   rw[if_pos rfl] at q1
   split at q1
   ·cases q1;cases q5
   ·cases q1
  ·rw[if_neg hia] at q1
   have b1:=q6.back (s.at q1 q2) fun o A _ t=>t.move sm fun _ _=>rfl
   by_cases hib:i=b
   ·subst hib
    rw[if_pos rfl] at q3
    split at q3
    ·cases q3;exact q7
    ·cases q3
   ·rw[if_neg hib] at q3
    exact s.ao a b e1 e2 v1 v2 ad hab q1 q2 q3 q4 q5 b1 (q7.back (s.at q3 q4) fun o A _ t=>t.move sm fun _ _=>rfl)
 ·rw[bj] at ho
  split at ho
  ·split at ho <;> cases ho
  ·exact s.pn w o hw ho
end
def SemS(K:ag)(t:TS)(f:FS):Prop:=∀ (B:Bd) (F H:Hp) (σ:Sg) (δ:En) (out:Out) (DD:Ends),RS K B F H σ δ->f δ=aa out->EndOk K B F DD out->t DD σ H
structure VS(X:Cx)(s:Stmt)(f:FS):Prop where
 h:∃ t,WS X s t/\SemS X.K t f
structure VSs(X:Cx)(s:List Stmt)(f:FS):Prop where
 h:∃ t,WSs X s t/\SemS X.K t f
def fNx:FS:=fun δ=>aa (.nx δ)
def sqO(g:FS):Out->Option Out
 | .nx δ=>g δ
 | o=>aa o
def zau(f g:FS):FS:=fun δ=>(f δ).bind (sqO g)
def zbE(i:Nat)(fe:FE):FS:=fun δ=>(fe δ).bind fun r=>(toN r).map fun e=>.nx (δ.set i (aa e))
def fIf(ft:FT)(f g:FS):FS:=fun δ=>(ft δ).bind fun b=>if b=true then f δ else g δ
def zbB(fe:FE):FS:=fun δ=>(fe δ).bind fun r=>(toN r).map fun e=>.rt e δ
def zhR(i:Nat):FS:=fun δ=>match δ[i]? with
 | some (aa (.own ds))=>aa (.rt (.own ds) (δ.set i ab))
 | some (aa (.val d))=>aa (.rt (.val d) δ)
 | _=>ab
def fFrz(i:Nat)(g:FS):FS:=fun δ=>match δ[i]? with
 | some (aa (.own ds))=>g (δ.set i (aa (.val (.lst ds))))
 | _=>ab
noncomputable def zgF(i:Nat)(fe:FE):FS:=fun δ=>match δ[i]? with
 | some (aa (.own ds))=>((fe δ).bind asV).bind fun d=>gif (sz (ds.length+1)) (aa (.nx (δ.set i (aa (.own (ds ++ [d]))))))
 | _=>ab
def iOf:Ent->Option Int
 | .val (.int i)=>aa i
 | _=>ab
theorem za1{e:Ent}{i:Int}(h:iOf e=aa i):e=.val (.int i):=by
 cases e with
 | val d=>cases d <;> first | (cases h;rfl) | (cases h)
 | _=>cases h
def fSIx(i:Nat)(fi fe:FE):FS:=fun δ=>match δ[i]? with
 | some (aa (.own ds))=>((fe δ).bind asV).bind fun d=>((fi δ).bind iOf).bind fun k=>(ixN ds.length k).map fun j=>.nx (δ.set i (aa (.own (ds.set j d))))
 | _=>ab
abbrev FG:=D->En->Option En
def lpO(lp:En->Option Out):Out->Option Out
 | .nx δ=>lp δ
 | .ct δ=>lp δ
 | .bk δ=>aa (.nx δ)
 | o=>aa o
def loop(tg:FG)(f:FS):List D->En->Option Out
 | [],δ=>aa (.nx δ)
 | d :: ds,δ=>(tg d δ).bind fun δ1=>(f δ1).bind (lpO (loop tg f ds))
abbrev FI:=En->Option (List D)
def zez(fi:FI)(tg:FG)(f:FS):FS:=fun δ=>(fi δ).bind fun ds=>loop tg f ds δ
def whl(c:FT)(f:FS):Nat->En->Option Out
 | 0,_=>ab
 | n+1,δ=>(c δ).bind fun b=>if b=true then (f δ).bind (lpO (whl c f n)) else aa (.nx δ)
def gNm(i:Nat):FG:=fun d δ=>aa (δ.set i (aa (.val d)))
abbrev FGs:=List D->En->Option En
def zd8:FGs:=fun ds δ=>match ds with
 | []=>aa δ
 | _=>ab
def za2(g:FG)(gs:FGs):FGs:=fun ds δ=>match ds with
 | d :: r=>(g d δ).bind (gs r)
 | []=>ab
def gTp(gs:FGs):FG:=fun d δ=>match d with
 | .tup ds=>gs ds δ
 | _=>ab
def SemG(K:ag)(g:TG)(tg:FG):Prop:=∀ (B:Bd) (F H:Hp) (σ:Sg) (δ δ':En) (v:V) (d:D) (Q:L2.St->Hp->Prop),RS K B F H σ δ->Rep F v d->tg d δ=aa δ'->(∀ σ',RS K B F H σ' δ'->Q σ' H)->g v σ H Q
def SemGs(K:ag)(g:TGs)(tg:FGs):Prop:=∀ (B:Bd) (F H:Hp) (σ:Sg) (δ δ':En) (vs:List V) (ds:List D) (Q:L2.St->Hp->Prop),RS K B F H σ δ->Reps F vs ds->tg ds δ=aa δ'->(∀ σ',RS K B F H σ' δ'->Q σ' H)->g vs σ H Q
structure VG(X:Cx)(e:Expr)(f:FG):Prop where
 h:∃ t,WG X e t/\SemG X.K t f
structure VGs(X:Cx)(es:List Expr)(f:FGs):Prop where
 h:∃ t,WGs X es t/\SemGs X.K t f
def ItOk(B F0:Hp)(J:It)(ds:List D):Prop:=∀ F H,Same F0 F->Same F H->Same B H->J.stop ds.length H/\∀ (i:Nat) (d:D),ds[i]? = aa d->J.go i H/\∀ x H',J.yld i H x H'->∃ F',Ex F H F' H'/\Rep F' x d
def SemI(K:ag)(t:TI)(fi:FI):Prop:=∀ (B:Bd) (F H:Hp) (σ:Sg) (δ:En) (ds:List D) (R:It->Hp->Prop),RS K B F H σ δ->fi δ=aa ds->(∀ J F' H',Ex F H F' H'->ItOk B F' J ds->R J H')->t σ H R
structure VI(X:Cx)(tg e:Expr)(f:FI):Prop where
 h:∃ t,WI X tg e t/\SemI X.K t f
section
variable {X:Cx}{e c tg iter:Expr}{es:List Expr}{pos pos' p:Pos}{fe fa:FE}{ft:FT}{x:Str}{st:Stmt}{sr body els:List Stmt}{f g:FS}{fi:FI}{tgf:FG}{tgs:FGs}
theorem ss0:VSs X [] fNx:=⟨_,s0,fun B F H σ δ out DD s q k=>by cases q;exact k σ F H s FX.refl⟩
theorem ss1(h:VS X st f):VSs X [st] f:=let⟨_,w,s⟩:=h.h;⟨_,s1 w,s⟩
theorem ssc(h1:VS X st f)(h2:VSs X sr g):VSs X (st :: sr) (zau f g):=by
 obtain⟨t,w1,m1⟩:=h1.h
 obtain⟨u,w2,m2⟩:=h2.h
 refine⟨_,sc w1 w2,fun B F H σ δ out DD s q k=>?_⟩
 obtain⟨o,q1,q⟩:=bind_some q
 refine m1 B F H σ δ o _ s q1 ?_
 cases o with
 | nx δ'=>exact fun σ' F' H' s' y=>m2 B F' H' σ' δ' out DD s' q (k.mono y)
 | rt r δ'=>cases q;exact k
 | bk δ'=>cases q;exact k
 | ct δ'=>cases q;exact k
theorem sFrz(i:Nat)(h:VSs X sr g):VSs X sr (fFrz i g):=by
 obtain⟨u,w2,m2⟩:=h.h
 refine⟨_,w2,fun B F H σ δ out DD s q k=>?_⟩
 unfold fFrz at q
 split at q
 ·rename_i ds hi
  obtain⟨F',x,s'⟩:=s.frz hi
  exact m2 B F' H σ _ out DD s' q (k.mono x)
 ·cases q
theorem SemE.ret{K:ag}{t:TE}(m:SemE K t fe):SemS K (tRet t) (zbB fe):=fun B F H σ δ out DD s q k=>by
 obtain⟨r,q1,q⟩:=bind_some q
 obtain⟨e,q2,q⟩:=map_some q
 cases q
 refine m B F H σ δ r _ s q1 fun v F' H' x z=>k v σ F' H' (s.ext x) (.of x s.bh) ?_
 cases r with
 | val d=>cases q2;exact z
 | own ds=>cases q2;exact RepR.earlier z s.bh
 | _=>cases q2
theorem zcP(he:VE X e fe):VS X (.Return (aa e) pos) (zbB fe):=let⟨_,w,m⟩:=he.h;⟨_,sret w,m.ret⟩
theorem sRetV(i:Nat)(hN:X.N[i]? = aa x:=by rfl)(hv:Vis X.env.scope x:=by first | exact au rfl | exact bw (au rfl) | exact bw (bw rfl))(hd:(x == ("__debug__" : Str))=false:=by decide)
  (hcd:(x == ("__classdict__" : Str))=false:=by decide):VS X (.Return (aa (.Name x p)) pos) (zhR i):=by
 refine⟨_,sret (wv i hN hv hd hcd),fun B F H σ δ out DD s q k=>?_⟩
 unfold zhR at q
 split at q
 ·rename_i ds e
  cases q
  obtain⟨v,h1,h2⟩:=s.ent i _ e
  refine⟨v,h1,k v σ F H (s.drop i) .refl ?_⟩
  obtain⟨l,vs,e,h3,h4,h5,h6⟩:=h2
  exact⟨l,vs,e,h6,h3,h4,h5⟩
 ·rename_i d e
  cases q
  obtain⟨v,h1,h2⟩:=s.ent i _ e
  exact⟨v,h1,k v σ F H s .refl h2⟩
 ·cases q
theorem sIf(hc:VT X c ft)(ha:VSs X body f)(hb:VSs X els g):VS X (.If c body els pos) (fIf ft f g):=by
 obtain⟨t,w,m⟩:=hc.h
 obtain⟨t1,w1,m1⟩:=ha.h
 obtain⟨t2,w2,m2⟩:=hb.h
 refine⟨_,sif w w1 w2,fun B F H σ δ out DD s q k=>?_⟩
 obtain⟨b,q1,q⟩:=bind_some q
 refine m B F H σ δ b _ s q1 fun F' H' x=>?_
 cases b with
 | true=>exact iteT (m1 B F' H' σ δ out DD (s.ext x) q (k.mono (.of x s.bh)))
 | false=>exact iteF (m2 B F' H' σ δ out DD (s.ext x) q (k.mono (.of x s.bh)))
theorem SemE.set{K:ag}{t:TE}(i:Nat)(m:SemE K t fe):SemS K (tAsg t (zie i)) (zbE i fe):=fun B F H σ δ out DD s q k=>by
 obtain⟨r,q1,q⟩:=bind_some q
 obtain⟨e,q2,q⟩:=map_some q
 cases q
 exact m B F H σ δ r _ s q1 fun v F' H' x z=>k _ F' H' (s.putR x i z q2) (.of x s.bh)
theorem zcJ{i:Nat}(hN:X.N.Nodup)(hi:X.N[i]? = aa x)(hx:Loc X.env.scope x)(he:VE X e fe)(hs:swapsWith e (aa (.Name x pos')) pos.line X.env=pure false:=by rfl)(hf:X.fn x=true \/ X.env.scope.names.lookup x=aa .local:=by first | exact .inl rfl | exact .inr rfl | assumption) :
  VS X (.Assign [.Name x pos'] e pos) (zbE i fe):=let⟨_,w,m⟩:=he.h;⟨_,sset hN hi hx w hs hf,m.set i⟩
def fAsg(tg:FG)(fe:FE):FS:=fun δ=>((fe δ).bind asV).bind fun d=>(tg d δ).map .nx
theorem sAsg(he:VE X e fe)(hg:VG X tg tgf)(hs:swapsWithSole [tg] e pos.line X.env=pure false:=by rfl)(hw:swappedStores [tg] e X.env=pure ab:=by rfl)(h1:(bH [tg] X.env).map (·.2)=[assign tg X.env]:=by rfl):VS X (.Assign [tg] e pos) (fAsg tgf fe):=by
 obtain⟨t,w,m⟩:=he.h
 obtain⟨t1,w1,m1⟩:=hg.h
 refine⟨_,sasg w w1 hs hw h1,fun B F H σ δ out DD s q k=>?_⟩
 obtain⟨d,q1,q⟩:=bind_some q
 obtain⟨δ',q2,q⟩:=map_some q
 obtain⟨r,q3,q4⟩:=bind_some q1
 cases q
 refine m B F H σ δ r _ s q3 fun v F' H' x z=>?_
 obtain⟨F2,x2,_,r2⟩:=RepR.frz x (Same.refl _) z q4
 exact m1 B F2 H' σ δ δ' v d _ (s.ext x2) r2 q2 fun σ' s'=>k σ' F2 H' s' (.of x2 s.bh)
theorem gnm{i:Nat}(hN:X.N.Nodup)(hi:X.N[i]? = aa x)(hx:Loc X.env.scope x)(hf:X.fn x=true \/ X.env.scope.names.lookup x=aa .local:=by first | exact .inl rfl | exact .inr rfl | assumption):VG X (.Name x pos) (gNm i):=
 ⟨_,gn hN hi hx hf,fun B F H σ δ δ' v d Q s r q k=>by cases q;exact k _ (s.putV i r)⟩
theorem gns0:VGs X [] zd8:=⟨_,gs0,fun B F H σ δ δ' vs ds Q s r q k=>by
 cases r with
 | nil=>cases q;exact⟨rfl,k σ s⟩
 | cons _ _=>cases q⟩
theorem zia(h1:VG X e tgf)(h2:VGs X es tgs)(hs:(bH (e :: es) X.env).map (·.2)=assign e X.env :: (bH es X.env).map (·.2):=by rfl):VGs X (e :: es) (za2 tgf tgs):=by
 obtain⟨t,w,m⟩:=h1.h
 obtain⟨t1,w1,m1⟩:=h2.h
 refine⟨_,gs1 w w1 hs,fun B F H σ δ δ' vs ds Q s r q k=>?_⟩
 cases r with
 | nil=>cases q
 | cons r1 r2=>
  obtain⟨δ1,q1,q⟩:=bind_some q
  exact⟨_,_,rfl,m B F H σ δ δ1 _ _ _ s r1 q1 fun σ' s'=>m1 B F H σ' δ1 δ' _ _ _ s' r2 q k⟩
theorem gtp{k n:Nat}(hc:X.calm=true)(h:VGs X es tgs)(hn:(bH es X.env).length=n:=by rfl)(hst:(bH es X.env).findIdx? (·.1)=ab:=by rfl)(hl:∀ ds δ δ',tgs ds δ=aa δ'->ds.length=n:=by intro ds δ δ' h;match ds,h with | [_],_=>rfl | [_,_],_=>rfl | [_,_,_],_=>rfl | [_,_,_,_],_=>rfl):VG X (.Tuple es k pos) (gTp tgs):=by
 obtain⟨t,w,m⟩:=h.h
 refine⟨_,gt hc w hn hst,fun B F H σ δ δ' v d Q s r q k=>?_⟩
 cases d with
 | tup ds=>
  cases r with
  | tup e rs=>exact⟨_,_,rfl,SqT.of (s.fh _ _ e),by rw[rs.length];exact hl _ _ _ q,m B F H σ δ δ' _ ds _ s rs q k⟩
 | _=>cases q
theorem SemS.for{K:ag}{wi:TI}{g:TG}{tb:TS}(mi:SemI K wi fi)(mg:SemG K g tgf)(mb:SemS K tb f):SemS K (tFor wi g tb) (zez fi tgf f):=fun B F H σ δ out DD s q k=>by
 obtain⟨ds,q1,q⟩:=bind_some q
 refine mi B F H σ δ ds _ s q1 fun J F1 H1 x1 io=>?_
 have k1:EndOk K B F1 DD out:=k.mono (.of x1 s.bh)
 refine⟨fun i m σ' H'=>m=ds.length - i/\i<=ds.length/\∃ F' δ',RS K B F' H' σ' δ'/\FX B F1 F'/\loop tgf f (ds.drop i) δ'=aa out,⟨_,rfl,aS _,F1,δ,s.ext x1,.refl,q⟩,?_⟩
 rintro i m σ' H' ⟨rfl,hi,F',δ',s',y',q'⟩
 obtain⟨hstop,hgo⟩:=io F' H' y'.ff s'.fh s'.bh
 by_cases hlt:i<ds.length
 ·right
  have hd:ds[i]? = aa ds[i]:=by simp[hlt]
  obtain⟨g1,g2⟩:=hgo i _ hd
  rw[bQ hlt] at q'
  obtain⟨δ1,q2,q'⟩:=bind_some q'
  obtain⟨o,q3,q'⟩:=bind_some q'
  refine⟨g1,fun σ2 H2=>ds.length - (i+1)=ds.length - (i+1)/\i+1<=ds.length/\∃ F' δ',RS K B F' H2 σ2 δ'/\FX B F1 F'/\loop tgf f (ds.drop (i+1)) δ'=aa out,fun σ2 H2 hN=>⟨_,by lia,hN⟩,fun v H2 yl=>?_⟩
  obtain⟨F2,x2,r2⟩:=g2 v H2 yl
  refine mg B F2 H2 σ' δ' δ1 v _ _ (s'.ext x2) r2 q2 fun σ3 s3=>?_
  have y2:FX B F1 F2:=y'.trans (.of x2 s'.bh)
  refine mb B F2 H2 σ3 δ1 o _ s3 q3 ?_
  cases o with
  | nx δ2=>exact fun σ4 F4 H4 s4 y4=>⟨rfl,hlt,F4,δ2,s4,y2.trans y4,q'⟩
  | ct δ2=>exact fun σ4 F4 H4 s4 y4=>⟨rfl,hlt,F4,δ2,s4,y2.trans y4,q'⟩
  | bk δ2=>cases q';exact fun σ4 F4 H4 s4 y4=>k1 σ4 F4 H4 s4 (y2.trans y4)
  | rt r δ2=>cases q';exact fun v σ4 F4 H4 s4 y4 z=>k1 v σ4 F4 H4 s4 (y2.trans y4) z
 ·left
  have e:i=ds.length:=by lia
  subst e
  rw[gk] at q'
  cases q'
  exact⟨hstop,k1 σ' F' H' s' y'⟩
theorem zhy(hi:VI X tg iter fi)(hg:VG X tg tgf)(hb:VSs X body f)(hp:PassesOwn (model X.prog X.w) X.A X.env X.xe:=by exact ji)(hc:X.calm=true:=by rfl)(hs:∀ z,cr iter X.env z=pure z:=by intro _;rfl):VS X (.For tg iter body [] pos) (zez fi tgf f):=
 let⟨_,wi,mi⟩:=hi.h;let⟨_,wg,mg⟩:=hg.h;let⟨_,wb,mb⟩:=hb.h;⟨_,sfor hp hc wi wg wb hs,.for mi mg mb⟩
theorem sWhl(n:Nat)(hc:VT X c ft)(hb:VSs X body f)(hp:PassesOwn (model X.prog X.w) X.A X.env X.xe:=by exact ji):VS X (.While c body [] pos) (whl ft f n):=by
 obtain⟨tc,wc,mc⟩:=hc.h
 obtain⟨tb,wb,mb⟩:=hb.h
 refine⟨_,swhile hp wc wb,fun B F H σ δ out DD s q k=>?_⟩
 refine⟨fun m σ' H'=>∃ F' δ',RS X.K B F' H' σ' δ'/\FX B F F'/\whl ft f m δ'=aa out,⟨n,F,δ,s,.refl,q⟩,?_⟩
 rintro m σ' H' ⟨F',δ',s',y',q'⟩
 cases m with
 | zero=>cases q'
 | succ m=>
  obtain⟨b,q1,q'⟩:=bind_some q'
  refine mc B F' H' σ' δ' b _ s' q1 fun F1 H1 x1=>?_
  have y1:FX B F F1:=y'.trans (.of x1 s'.bh)
  cases b with
  | false=>cases q';exact iteF (k σ' F1 H1 (s'.ext x1) y1)
  | true=>
   refine iteT ?_
   obtain⟨o,q3,q'⟩:=bind_some q'
   refine⟨fun σ2 H2=>∃ F' δ',RS X.K B F' H2 σ2 δ'/\FX B F F'/\whl ft f m δ'=aa out,fun σ2 H2 hN=>⟨m,gj m,hN⟩,?_⟩
   refine mb B F1 H1 σ' δ' o _ (s'.ext x1) q3 ?_
   cases o with
   | nx δ2=>exact fun σ4 F4 H4 s4 y4=>⟨F4,δ2,s4,y1.trans y4,q'⟩
   | ct δ2=>exact fun σ4 F4 H4 s4 y4=>⟨F4,δ2,s4,y1.trans y4,q'⟩
   | bk δ2=>cases q';exact fun σ4 F4 H4 s4 y4=>k σ4 F4 H4 s4 (y1.trans y4)
   | rt r δ2=>cases q';exact fun v σ4 F4 H4 s4 y4 z=>k v σ4 F4 H4 s4 (y1.trans y4) z
theorem sApp(i:Nat){apos cpos:Pos}(he:VE X e fe)(hN:X.N[i]? = aa x:=by rfl)(hv:Vis X.env.scope x:=by first | exact au rfl | exact bw (au rfl) | exact bw (bw rfl))(hd:(x == ("__debug__" : Str))=false:=by decide)(hcd:(x == ("__classdict__" : Str))=false:=by decide)
  (hbase:bU (.Name x p) "append" X.env (eval (.Name x p) X.env)=eval (.Name x p) X.env:=by rfl) (hline:(apos.endLine == cpos.line)=true:=by rfl) (h1:zam e=true:=by rfl)
  (hs:swapsWith (.Call (.Attribute (.Name x p) "append" apos) [e] [] cpos) ab pos.line X.env=pure false:=by rfl) :
  VS X (.Expr (.Call (.Attribute (.Name x p) "append" apos) [e] [] cpos) pos) (zgF i fe):=by
 obtain⟨t,w,m⟩:=he.h
 refine⟨_,sex (wbm eE gl gp zfs (wv i hN hv hd hcd) (wac w wnil h1) hbase rfl hline h1 rfl) hs,fun B F H σ δ out DD s q k=>?_⟩
 unfold zgF at q
 split at q
 ·rename_i ds hi
  obtain⟨d,q1,q⟩:=bind_some q
  obtain⟨r,q2,q3⟩:=bind_some q1
  obtain⟨hl,qz⟩:=zbi q
  cases qz
  obtain⟨v,h1,l,vs,e,h2,h3,h4,h5⟩:=s.ent i _ hi
  subst e
  refine⟨_,h1,.inl ⟨rfl,vs,SqL.of h2⟩,?_⟩
  refine m B F H σ δ r _ s q2 fun y F1 H1 x1 z=>?_
  obtain⟨F2,x2,sm,r2⟩:=RepR.frz x1 (Same.refl _) z q3
  refine⟨l,vs,y,rfl,rfl,x2.hh _ _ h2,?_,?_⟩
  ·rw[h3.length,ck];unfold sz at hl;lia
  ·exact k σ F2 _ ((s.ext x2).mut hi h1 ((h3.mono x2.ff).append (.one r2))) (.of x2 s.bh)
 ·cases q
theorem sSIx(i:Nat){ix:Expr}{fx:FE}{tpos:Pos}(he:VE X e fe)(hx:VE X ix fx)(hN:X.N[i]? = aa x:=by rfl)(hv:Vis X.env.scope x:=by first | exact au rfl | exact bw (au rfl) | exact bw (bw rfl))(hd:(x == ("__debug__" : Str))=false:=by decide)(hcd:(x == ("__classdict__" : Str))=false:=by decide)
  (hg:∀ {to ti:TE},WE X (.Name x p) to->WE X ix ti->WG X (.Subscript (.Name x p) ix tpos) (gSub to ti rSetL))
  (hs:swapsWithSole [.Subscript (.Name x p) ix tpos] e pos.line X.env=pure false:=by rfl) (hw:swappedStores [.Subscript (.Name x p) ix tpos] e X.env=pure ab:=by rfl) (h1:(bH [.Subscript (.Name x p) ix tpos] X.env).map (·.2)=[assign (.Subscript (.Name x p) ix tpos) X.env]:=by rfl) :
  VS X (.Assign [.Subscript (.Name x p) ix tpos] e pos) (fSIx i fx fe):=by
 obtain⟨t,w,m⟩:=he.h
 obtain⟨t2,w2,m2⟩:=hx.h
 refine⟨_,sasg w (hg (wv i hN hv hd hcd) w2) hs hw h1,fun B F H σ δ out DD s q k=>?_⟩
 unfold fSIx at q
 split at q
 ·rename_i ds hi
  obtain⟨d,q1,q⟩:=bind_some q
  obtain⟨r,q2,q3⟩:=bind_some q1
  obtain⟨kk,q4,q⟩:=bind_some q
  obtain⟨rk,q5,q6⟩:=bind_some q4
  obtain⟨j,q7,q⟩:=map_some q
  cases q
  cases za1 q6
  obtain⟨v,h1,l,vs,e,h2,h3,h4,h5⟩:=s.ent i _ hi
  subst e
  refine m B F H σ δ r _ s q2 fun y F1 H1 x1 z=>?_
  obtain⟨F2,x2,sm,r2⟩:=RepR.frz x1 (Same.refl _) z q3
  refine⟨_,h1,m2 B F2 H1 σ δ _ _ (s.ext x2) q5 fun yk F3 H3 x3 z3=>?_⟩
  cases za3 z3
  refine⟨l,vs,kk,j,rfl,rfl,x3.hh _ _ (x2.hh _ _ h2),by rw[h3.length];exact q7,?_⟩
  exact k σ F3 _ (((s.ext x2).ext x3).mut hi h1 (((h3.mono x2.ff).mono x3.ff).set (Rep.mono x3.ff r2) j)) (.of (x2.trans x3) s.bh)
 ·cases q
end
def capt:Ent->Option Ent
 | .own ds=>aa (.vw ds)
 | .obj (.dcT ks ds)=>aa (.vwt ks ds)
 | .obj _=>ab
 | e=>aa e
def cEn(fr:List Nat)(δ:En)(d:D):En:=aa (.val d) :: fr.map fun i=>((δ[i]?).join).bind capt
def zdj(ft:D->Option Bool)(fe:D->Option Ent):List D->Option (List D)
 | []=>aa []
 | d :: ds=>(ft d).bind fun b=>if b=true then ((fe d).bind asV).bind fun y=>(zdj ft fe ds).map fun ys=>y :: ys else zdj ft fe ds
def eLC(fr:List Nat)(fi:FI)(ft:FT)(fe:FE):FE:=fun δ=>(fi δ).bind fun ds=>(zdj (fun d=>ft (cEn fr δ d)) (fun d=>fe (cEn fr δ d)) ds).bind fun out=>if out.length<=1000000 then aa (.own out) else ab
theorem RS.cap{K:ag}{B:Bd}{F H:Hp}{σ:Sg}{δ:En}{v:V}{d:D}(s:RS K B F H σ δ)(fr:List Nat)(r:Rep F v d):RS K B F H (aa v :: zgG fr σ) (cEn fr δ d):=by
 have key:∀ (j:Nat) (e:Ent),(cEn fr δ d)[j+1]? = aa (aa e)->∃ i e',fr[j]? = aa i/\δ[i]? = aa (aa e')/\capt e'=aa e:=fun j e h=>by
  unfold cEn at h
  rw[c8,ax] at h
  cases q:fr[j]? with
  | none=>rw[q] at h;cases h
  | some i=>
   rw[q] at h
   have h':((δ[i]?).join).bind capt=aa e:=bf h
   obtain⟨e',h1,h2⟩:=bind_some h'
   refine⟨i,e',rfl,?_,h2⟩
   cases z:δ[i]? with
   | none=>rw[z] at h1;cases h1
   | some o=>rw[z] at h1;rw[show o=aa e' from h1]
 refine⟨s.fh,s.bh,by simp[cEn,zgG],fun j e h=>?_,fun a b l ds e hab h1=>?_,fun a b e1 e2 v1 v2 ad hab q1 _ _ _ q5=>?_,fun w o _ ho=>by cases ho⟩
 ·cases j with
  | zero=>cases h;exact⟨v,rfl,r⟩
  | succ j=>
   obtain⟨i,e',h1,h2,h0⟩:=key j e h
   obtain⟨w,h3,h4⟩:=s.ent i e' h2
   refine⟨w,?_,?_⟩
   ·show(zgG fr σ)[j]? = aa (aa w)
    unfold zgG
    rw[ax,h1]
    show aa ((σ[i]?).join)=_
    rw[h3]
    rfl
   ·cases e' with
    | own ds=>cases h0;obtain⟨l,vs,e,h5,h6,_⟩:=h4;exact⟨l,vs,e,h5,h6⟩
    | obj o=>cases o <;> first | (cases h0;obtain⟨A,t,_⟩:=h4;exact⟨A,t⟩) | cases h0
    | _=>cases h0;exact h4
 ·cases a with
  | zero=>cases h1
  | succ a=>
   obtain⟨i,e',_,_,z⟩:=key a _ h1
   cases e' with
   | obj o=>cases o <;> cases z
   | _=>cases z
 ·cases a with
  | zero=>cases q1;cases q5
  | succ a=>
   obtain⟨i,e',_,_,z⟩:=key a _ q1
   cases e' with
   | obj o=>cases o <;> first | (cases z;cases q5) | cases z
   | _=>cases z <;> cases q5
theorem SemE.lc{K:ag}{fr:List Nat}{wi:TI}{tt:TT}{te:TE}{fi:FI}{ft:FT}{fe:FE}(mi:SemI K wi fi)(mt:SemT K tt ft)(me:SemE K te fe):SemE K (tLC fr wi tt te) (eLC fr fi ft fe):=fun B F H σ δ res Q s q k=>by
 obtain⟨ds,q1,q⟩:=bind_some q
 obtain⟨out,q2,q⟩:=bind_some q
 split at q
 ·rename_i hlen
  cases q
  refine mi B F H σ δ ds _ s q1 fun J F1 H1 x1 io=>?_
  intro a ha
  refine⟨fun i m ys H'=>m=ds.length - i/\i<=ds.length/\∃ F' done rest,Ex F1 H1 F' H'/\F' a=ab/\H' a=aa (.lst ys)/\Reps F' ys done/\zdj (fun d=>ft (cEn fr δ d)) (fun d=>fe (cEn fr δ d)) (ds.drop i)=aa rest/\out=done ++ rest,
   ⟨_,rfl,aS _,F1,[],out,Ex.lay x1.fh ha,x1.fh.free ha,zaj,.nil,q2,rfl⟩,?_⟩
  rintro i m ys H' ⟨rfl,hi,F',dn,rest,x',fa,hH,rs,q',eo⟩
  have s':=(s.ext x1).ext x'
  obtain⟨hstop,hgo⟩:=io F' H' x'.ff x'.fh s'.bh
  by_cases hlt:i<ds.length
  ·right
   have hd:ds[i]? = aa ds[i]:=by simp[hlt]
   obtain⟨g1,g2⟩:=hgo i _ hd
   rw[bQ hlt] at q'
   obtain⟨b,q3,q'⟩:=bind_some q'
   refine⟨g1,fun v H2 yl=>?_⟩
   obtain⟨F2,x2,r2⟩:=g2 v H2 yl
   have sc:=(s'.ext x2).cap fr r2
   refine mt B F2 H2 _ _ b _ sc q3 fun F3 H3 x3=>?_
   have nn:∀ {Fz Hz:Hp},Ex F' H' Fz Hz->Fz a=ab:=fun x=>(x.nw _ _ hH rfl).trans fa
   cases b with
   | false=>
    refine iteF ⟨ds.length - (i+1),by lia,rfl,hlt,F3,dn,rest,(x'.trans x2).trans x3,nn (x2.trans x3),(x2.trans x3).hh _ _ hH,rs.mono (x2.trans x3).ff,q',eo⟩
   | true=>
    refine iteT ?_
    obtain⟨y,q4,q'⟩:=bind_some q'
    obtain⟨r,q5,q6⟩:=bind_some q4
    obtain⟨rest',q7,q'⟩:=map_some q'
    cases q'
    refine me B F3 H3 _ _ r _ (sc.ext x3) q5 fun w F4 H4 x4 z4=>?_
    obtain⟨F5,x5,_,r5⟩:=RepR.frz x4 (Same.refl _) z4 q6
    have xx:Ex F' H' F5 H4:=(x2.trans x3).trans x5
    have hy:ys.length<aZ:=by
     rw[rs.length,ck]
     have:out.length=dn.length+(rest'.length+1):=by rw[eo];simp
     lia
    refine⟨xx.hh _ _ hH,hy,ds.length - (i+1),by lia,rfl,hlt,F5,dn ++ [y],rest',?_,nn xx,zaj,(rs.mono xx.ff).append (.one r5),q7,by rw[eo];simp⟩
    have xo:=x'.trans xx
    exact⟨xo.ff,fun b o e=>by rw[zan (zaZ e (nn xx))];exact xo.fh b o e,fun b o e=>by rw[zan (zaZ e ha)];exact xo.hh b o e,xo.nw⟩
  ·left
   have e:i=ds.length:=by lia
   subst e
   rw[gk] at q'
   cases q'
   rw[bV] at eo
   subst eo
   refine⟨hstop,k _ F' H' (x1.trans x') ⟨a,ys,rfl,x1.hh.free ha,hH,rs,fa⟩⟩
 ·cases q
def tD(K:ag)(f:FE):TE:=fun σ H Q=>∃ B F δ r,RS K B F H σ δ/\f δ=aa r/\∀ v F' H',Ex F H F' H'->RepR K H F' H' v r->Q v H'
def tDT(K:ag)(f:FT):TT:=fun σ H Q=>∃ B F δ b,RS K B F H σ δ/\f δ=aa b/\∀ F' H',Ex F H F' H'->Q b H'
theorem semE_tD{K:ag}{f:FE}:SemE K (tD K f) f:=fun B F _ _ δ r _ s q k=>⟨B,F,δ,r,s,q,k⟩
theorem semT_tD{K:ag}{f:FT}:SemT K (tDT K f) f:=fun B F _ _ δ r _ s q k=>⟨B,F,δ,r,s,q,k⟩
theorem VE.uni{X:Cx}{e:Expr}{f:FE}(h:VE X e f):WE X e (tD X.K f):=
 let⟨_,w,m⟩:=h.h;⟨fun pins s σ H Q I z=>let⟨B,F,δ,r,s',q,k⟩:=z;w.h pins s σ H Q I (m B F H σ δ r Q s' q k)⟩
theorem VTs.uni{X:Cx}{es:List Expr}{f:FT}(h:VTs X es f):WTs X es (tDT X.K f):=
 let⟨_,w,m⟩:=h.h;⟨fun pins s σ H Q I z=>let⟨B,F,δ,r,s',q,k⟩:=z;w.h pins s σ H Q I (m B F H σ δ r Q s' q k)⟩
section
variable {X:Cx}{N:List Str}{fr:List Nat}{x:Str}{scope:Scope}{iter elt:Expr}{ifs:List Expr}{px pos:Pos}{fi:FI}{fe:FE}{ft:FT}
theorem vlc(S:CompSc X N fr x scope)(hi:VI X (.Name x px) iter fi)
  (ht:∀ (C:af) (s₀:ah) (H₀:Hp) (fp:List af),VTs (cxC X N scope C s₀ H₀ fp) ifs ft) (he:∀ (C:af) (s₀:ah) (H₀:Hp) (fp:List af),VE (cxC X N scope C s₀ H₀ fp) elt fe)
  (hc:X.calm=true:=by rfl) (hs:∀ z,cr iter X.env z=pure z:=by intro _;rfl):VE X (.ListComp elt [⟨.Name x px,iter,ifs,0⟩] scope pos) (eLC fr fi ft fe):=
 let⟨_,w1,m1⟩:=hi.h;⟨_,wlc S hc w1 (fun C s₀ H₀ fp=>(ht C s₀ H₀ fp).uni) (fun C s₀ H₀ fp=>(he C s₀ H₀ fp).uni) hs,.lc m1 semT_tD semE_tD⟩
theorem sSetLC{i:Nat}{y:Str}{py spos:Pos}(hN:X.N.Nodup)(hi':X.N[i]? = aa y)(hy:Loc X.env.scope y)(S:CompSc X N fr x scope)(hi:VI X (.Name x px) iter fi)
  (ht:∀ (C:af) (s₀:ah) (H₀:Hp) (fp:List af),VTs (cxC X N scope C s₀ H₀ fp) ifs ft) (he:∀ (C:af) (s₀:ah) (H₀:Hp) (fp:List af),VE (cxC X N scope C s₀ H₀ fp) elt fe)
  (hc:X.calm=true:=by rfl) (hsw:swapsWith (.ListComp elt [⟨.Name x px,iter,ifs,0⟩] scope pos) (aa (.Name y py)) spos.line X.env=pure true:=by rfl)
  (hs:∀ z,cr iter X.env z=pure z:=by intro _;rfl)
  (hf:X.fn y=true \/ X.env.scope.names.lookup y=aa .local:=by first | exact .inl rfl | exact .inr rfl | assumption) :
  VS X (.Assign [.Name y py] (.ListComp elt [⟨.Name x px,iter,ifs,0⟩] scope pos) spos) (zbE i (eLC fr fi ft fe)):=
 let⟨_,w1,m1⟩:=hi.h;⟨_,ssetlc hN hi' hy S hc w1 (fun C s₀ H₀ fp=>(ht C s₀ H₀ fp).uni) (fun C s₀ H₀ fp=>(he C s₀ H₀ fp).uni) hsw hs hf,SemE.set i (.lc m1 semT_tD semE_tD)⟩
end
inductive Kd where
 | v | b | t
def ArgOk(K:ag)(F H:Hp)(v:V):Kd->D->Prop
 | .v,d=>Rep F v d
 | .b,.lst ds=>∃ l vs,v=.ref l/\SqL K H l vs/\Reps F vs ds
 | .b,_=>False
 | .t,.tup ds=>∃ l vs,v=.ref l/\SqT K H l vs/\Reps F vs ds
 | .t,_=>False
inductive ArgsOk(K:ag)(F H:Hp):List Kd->List V->List D->Prop
 | nil:ArgsOk K F H [] [] []
 | cons {k:Kd} {v:V} {d:D} {ks:List Kd} {vs:List V} {ds:List D}:ArgOk K F H v k d->ArgsOk K F H ks vs ds->ArgsOk K F H (k :: ks) (v :: vs) (d :: ds)
def spD(K:ag)(ks:List Kd)(g:List D->Option Ent):Sp:=fun vs H Q _=>∃ F ds r,Same F H/\ArgsOk K F H ks vs ds/\g ds=aa r/\∀ v F' H',Ex F H F' H'->RepR K H F' H' v r->Q v H'
def asT:Ent->Option (List D)
 | .val (.tup ds)=>aa ds
 | .bt ds=>aa ds
 | _=>ab
theorem RepR.toT{K:ag}{H0 F H:Hp}{v:V}{e:Ent}{ds:List D}(r:RepR K H0 F H v e)(h:Same F H)(q:asT e=aa ds):∃ l vs,v=.ref l/\SqT K H l vs/\Reps F vs ds:=by
 cases e with
 | val d=>
  cases d with
  | tup es=>
   cases q
   cases (show Rep F v (.tup _) from r) with
   | tup e rs=>exact⟨_,_,rfl,SqT.of (h _ _ e),rs⟩
  | _=>cases q
 | bt es=>cases q;exact r
 | _=>cases q
def zcG:Kd->Ent->Option D
 | .v,e=>asV e
 | .b,e=>(asL e).map .lst
 | .t,e=>(asT e).map .tup
def zbf:List Kd->List Ent->Option (List D)
 | [],[]=>aa []
 | k :: ks,e :: es=>(zcG k e).bind fun d=>(zbf ks es).map fun ds=>d :: ds
 | _,_=>ab
section
variable {K:ag}{F H F' H' F2 H2:Hp}
theorem RepRs.args:∀ {ks:List Kd} {vs:List V} {es:List Ent} {ds:List D} {F':Hp},Ex F H F' H'->Same F2 F'->RepRs K H F2 H' vs es->zbf ks es=aa ds->∃ F3,Ex F H F3 H'/\Same F' F3/\ArgsOk K F3 H' ks vs ds
 | [],_,_,_,F',x,_,.nil,q=>by cases q;exact⟨F',x,Same.refl _,.nil⟩
 | _ :: _,_,_,_,_,_,_,.nil,q=>by cases q
 | [],_,_,_,_,_,_,.cons _ _,q=>by cases q
 | k :: ks,_,e :: es,ds,F',x,s,.cons r t,q=>by
  simp only[zbf] at q
  obtain⟨d,q1,q⟩:=bind_some q
  obtain⟨ds',q2,q⟩:=map_some q
  cases q
  cases k with
  | v=>
   obtain⟨F3,x3,s3,r3⟩:=r.frz x s q1
   obtain⟨F4,x4,s4,r4⟩:=RepRs.args x3 (s.trans s3) t q2
   exact⟨F4,x4,s3.trans s4,.cons (Rep.mono s4 r3) r4⟩
  | b=>
   obtain⟨ls,q3,q4⟩:=map_some q1
   cases q4
   obtain⟨F4,x4,s4,r4⟩:=RepRs.args x s t q2
   refine⟨F4,x4,s4,.cons (k:=.b) ?_ r4⟩
   obtain⟨l,vs,e,h1,h2⟩:=RepR.toL r (s.trans x.fh) q3
   exact⟨l,vs,e,h1,h2.mono (s.trans s4)⟩
  | t=>
   obtain⟨ls,q3,q4⟩:=map_some q1
   cases q4
   obtain⟨F4,x4,s4,r4⟩:=RepRs.args x s t q2
   refine⟨F4,x4,s4,.cons (k:=.t) ?_ r4⟩
   obtain⟨l,vs,e,h1,h2⟩:=RepR.toT r (s.trans x.fh) q3
   exact⟨l,vs,e,h1,h2.mono (s.trans s4)⟩
end
def zah(ks:List Kd)(g:List D->Option Ent)(fs:FA):FE:=fun δ=>((fs δ).bind (zbf ks)).bind g
section
variable {X:Cx}{es:List Expr}{e:Expr}{fs:FA}{x:Str}{p pos:Pos}{ks:List Kd}{g:List D->Option Ent}
theorem SemE.call{K:ag}{t:TA}{dvs:List V}{E:XK}(m:SemA K t fs)(hd:dvs=[]):SemE K (tCall (spD K ks g) dvs E t) (zah ks g fs):=fun B F H σ δ res Q s q k=>by
 subst hd
 obtain⟨ds,q1,q⟩:=bind_some q
 obtain⟨rs,q2,q3⟩:=bind_some q1
 refine m B F H σ δ rs _ s q2 fun vs F1 H1 x1 r1=>?_
 obtain⟨F2,x2,_,a2⟩:=RepRs.args x1 (Same.refl _) r1 q3
 rw[bV]
 exact⟨F2,ds,res,x2.fh,a2,q,fun v F' H' x3 r3=>k v F' H' (x2.trans x3) (r3.earlier x2.hh)⟩
theorem vcl{CX:CXT}{k j:Nat}{f:af}{fd:bD}{ps:List Str}{st:Stmt}{E:XK}(F:FnOk X.prog X.w X.K X.mg X.base CX k f fd ps (spD X.K ks g))(D:Def X.K X.mg x st ps f fd)(hr:Room j X.A)(hg:Gl X x)(hx:zcU CX X E)
  (ha:VA X (e :: es) fs) (hjk:k<=j:=by decide) (hdb:(x == ("__debug__" : Str))=false:=by decide) (h1:zam e=true:=by rfl) (h2:es.all zam=true:=by rfl) :
  VE X (.Call (.Name x p) (e :: es) [] pos) (zah ks g fs):=let⟨_,w,m⟩:=ha.h;⟨_,wcl F D hr hg hx w hjk hdb h1 h2,.call m rfl⟩
end
def stN:Kd->D->Option Ent
 | .v,d=>aa (.val d)
 | .b,.lst ds=>aa (.bor ds)
 | .b,_=>ab
 | .t,.tup ds=>aa (.bt ds)
 | .t,_=>ab
def stE:List Kd->List D->Option En
 | [],[]=>aa []
 | k :: ks,d :: ds=>(stN k d).bind fun e=>(stE ks ds).map fun es=>aa e :: es
 | _,_=>ab
def zf9:Out->Option Ent
 | .rt r _=>aa r
 | .nx _=>aa (.val .non)
 | _=>ab
def zcL(ks:List Kd)(m:Nat)(f:FS)(ds:List D):Option Ent:=(stE ks ds).bind fun es=>(f (es ++ aD m ab)).bind zf9
theorem ArgsOk.start{K:ag}{F H:Hp}:∀ {ks:List Kd} {vs:List V} {ds:List D} {es:En},ArgsOk K F H ks vs ds->stE ks ds=aa es->vs.length=es.length/\∀ (i:Nat) (e:Ent),es[i]? = aa (aa e)->(∃ v,vs[i]? = aa v/\RepN K H F H v e)/\e.lk=false/\e.isO=false
 | _,_,_,_,.nil,q=>by cases q;exact⟨rfl,fun i e h=>by simp at h⟩
 | k :: ks,v :: vs,d :: ds,es,.cons a t,q=>by
  simp only[stE] at q
  obtain⟨e0,q1,q⟩:=bind_some q
  obtain⟨es',q2,q⟩:=map_some q
  cases q
  obtain⟨hl,ih⟩:=ArgsOk.start t q2
  refine⟨by simp[hl],fun i e h=>?_⟩
  cases i with
  | succ i=>simpa using ih i e (by simpa using h)
  | zero=>
   have h':e0=e:=by simpa using h
   subst h'
   cases k with
   | v=>cases q1;exact⟨⟨v,rfl,a⟩,rfl,rfl⟩
   | b=>
    cases d with
    | lst ls=>
     cases q1
     obtain⟨l,ws,e,h1,h2⟩:=a
     exact⟨⟨v,rfl,l,ws,e,h1,h2⟩,rfl,rfl⟩
    | _=>cases q1
   | t=>
    cases d with
    | tup ls=>
     cases q1
     obtain⟨l,ws,e,h1,h2⟩:=a
     exact⟨⟨v,rfl,l,ws,e,h1,h2⟩,rfl,rfl⟩
    | _=>cases q1
theorem ArgsOk.length{K:ag}{F H:Hp}:∀ {ks:List Kd} {vs:List V} {ds:List D},ArgsOk K F H ks vs ds->vs.length=ks.length
 | _,_,_,.nil=>rfl
 | _,_,_,.cons _ t=>by rw[aQ,aQ,ArgsOk.length t]
section
variable {P:aR}{w:aU}{K:ag}{mg:Str->Option ae}{base:ba}{x qual:Str}{st:Stmt}{f:af}{fd:bD}{N ps:List Str}{k:Nat}{ks:List Kd}{g:List D->Option Ent}
end
end L3

namespace L3
open PySem PySem.Spec PyProof.Rows L2
def pI0(g:Int->Int->D):Ent->Ent->Option Ent:=fun x y=>(iOf x).bind fun i=>(iOf y).map fun j=>.val (g i j)
noncomputable def pI(c:Int->Int->Prop)(g:Int->Int->D):Ent->Ent->Option Ent:=fun x y=>(iOf x).bind fun i=>(iOf y).bind fun j=>gif (c i j) (aa (.val (g i j)))
def b64(i:Int):Prop:=-18446744073709551616<i/\i<18446744073709551616
theorem zes{i:Int}(h:-18446744073709551616<i/\i<18446744073709551616):b64 i=True:=eq_true h
def psI(j:Int):Prop:=0<j
theorem zdm{j:Int}(h:0<j):psI j=True:=eq_true h
def dvI(j:Int):Prop:=0<j/\j<1073741824
theorem zgu{j:Int}(h:0<j/\j<1073741824):dvI j=True:=eq_true h
theorem zdH{i:Int}(h:-18446744073709551616<i/\i<18446744073709551616):b64 i:=h
section
variable {K:ag}
theorem zjq{g':Int->Int->V}{g:Int->Int->D}(h:∀ i j F,Rep F (g' i j) (g i j)):zjl K (rI0 g') (pI0 g):=fun H0 F H x y e e' res Q fh hh rx ry q k=>by
 obtain⟨i,q1,q⟩:=bind_some q
 obtain⟨j,q2,q⟩:=map_some q
 cases za1 q1
 cases za1 q2
 cases q
 cases za3 rx
 cases za3 ry
 exact⟨i,j,rfl,rfl,k _ F H (Ex.refl fh) (h i j F)⟩
theorem semI{C c:Int->Int->Prop}{g':Int->Int->V}{g:Int->Int->D}(hc:∀ i j,c i j->C i j)(h:∀ i j F,Rep F (g' i j) (g i j)):zjl K (rI C g') (pI c g):=fun H0 F H x y e e' res Q fh hh rx ry q k=>by
 obtain⟨i,q1,q⟩:=bind_some q
 obtain⟨j,q2,q⟩:=bind_some q
 obtain⟨hij,qz⟩:=zbi q
 cases za1 q1
 cases za1 q2
 cases qz
 cases za3 rx
 cases za3 ry
 exact⟨i,j,rfl,rfl,hc i j hij,k _ F H (Ex.refl fh) (h i j F)⟩
end
def zbg:=pI0 fun i j=>.int (i+j)
def zdO:=pI0 fun i j=>.int (i - j)
noncomputable def zd0:=pI (fun i j=>b64 i \/ b64 j) fun i j=>.int (i * j)
noncomputable def zbF:=pI (fun _ j=>psI j) fun i j=>.int (i % j)
noncomputable def zcQ:=pI (fun _ j=>dvI j) fun i j=>.int (i / j)
noncomputable def gPow:=pI (fun i j=>(0<=j/\j<=1000000)/\i.natAbs<18446744073709551616) fun i j=>.int (i ^ j.toNat)
def gLt:=pI0 fun i j=>.bl (decide (i<j))
def gLe:=pI0 fun i j=>.bl (decide (i<=j))
def gGt:=pI0 fun i j=>.bl (decide (j<i))
def gGe:=pI0 fun i j=>.bl (decide (j<=i))
def zeV:Ent->Option Ent:=fun x=>(iOf x).map fun i=>.val (.int (-i))
section
variable {X:Cx}
theorem zbM:OpD X (binaryOp .Add) zbg:=⟨_,op_add,zjq fun _ _ _=>.int _⟩
theorem zc0:OpD X (binaryOp .Sub) zdO:=⟨_,op_sub,zjq fun _ _ _=>.int _⟩
theorem ze1:OpD X (binaryOp .Mult) zd0:=⟨_,op_mul,semI (fun _ _ h=>h) fun _ _ _=>.int _⟩
theorem zce:OpD X (binaryOp .Mod) zbF:=⟨_,op_mod,semI (fun _ _ h=>h) fun _ _ _=>.int _⟩
theorem zc2:OpD X (binaryOp .FloorDiv) zcQ:=⟨_,op_fdiv,semI (fun _ _ h=>h) fun _ _ _=>.int _⟩
theorem o_pow:OpD X (binaryOp .Pow) gPow:=⟨_,op_pow,semI (fun _ _ h=>⟨h.1.1,h.1.2,h.2⟩) fun _ _ _=>.int _⟩
theorem o_lt:OpD X (bF .Lt) gLt:=⟨_,op_lt,zjq fun _ _ _=>.bl _⟩
theorem o_le:OpD X (bF .LtE) gLe:=⟨_,op_le,zjq fun _ _ _=>.bl _⟩
theorem o_gt:OpD X (bF .Gt) gGt:=⟨_,op_gt,zjq fun _ _ _=>.bl _⟩
theorem o_ge:OpD X (bF .GtE) gGe:=⟨_,op_ge,zjq fun _ _ _=>.bl _⟩
theorem zdS:UnD X (unaryOp .USub) zeV:=⟨_,un_neg,fun H0 F H x e res Q fh hh r q k=>by
 obtain⟨i,q1,q⟩:=map_some q
 cases za1 q1
 cases q
 cases za3 r
 exact⟨i,rfl,k _ F H (Ex.refl fh) (.int _)⟩⟩
end
def zic:D->D->Option Bool
 | .non,.non=>aa true | .non,.int _=>aa false | .int _,.non=>aa false | .non,.bl _=>aa false | .bl _,.non=>aa false | .non,.str _=>aa false | .str _,.non=>aa false
 | .int i,.int j=>aa (decide (i=j)) | .bl i,.bl j=>aa (decide (i=j)) | .str i,.str j=>aa (decide (i=j))
 | .int _,.str _=>aa false | .str _,.int _=>aa false | .bl _,.str _=>aa false | .str _,.bl _=>aa false
 | _,_=>ab
def gEq:Ent->Ent->Option Ent
 | .val d,.val d'=>(zic d d').map fun b=>.val (.bl b)
 | _,_=>ab
def gNe:Ent->Ent->Option Ent
 | .val d,.val d'=>(zic d d').map fun b=>.val (.bl (!b))
 | _,_=>ab
theorem scEq_ok{F:Hp}{x y:V}{d d':D}{b:Bool}(rx:Rep F x d)(ry:Rep F y d')(q:zic d d'=aa b):scal x y=true/\decide (x=y)=b:=by
 cases rx <;> cases ry <;> first
  | (cases q;done)
  | (cases q;exact⟨rfl,by simp⟩)
def isN:Ent->Bool
 | .val .non=>true
 | _=>false
def zjH:Ent->Ent->Option Ent
 | x,.val .non=>aa (.val (.bl (isN x)))
 | _,_=>ab
def gNoN:Ent->Ent->Option Ent
 | x,.val .non=>aa (.val (.bl (!isN x)))
 | _,_=>ab
theorem isN_ok{K:ag}{H0 F H:Hp}{x:V}{e:Ent}(r:RepR K H0 F H x e):decide (x=.non)=isN e:=by
 cases e with
 | val d=>cases r <;> simp[isN]
 | own ds=>obtain⟨l,vs,e,_⟩:=r;subst e;simp[isN]
 | bor ds=>obtain⟨l,vs,e,_⟩:=r;subst e;simp[isN]
 | vw ds=>obtain⟨l,vs,e,_⟩:=r;subst e;simp[isN]
 | vwt ks ds=>obtain⟨A,t⟩:=r;cases t;simp[isN]
 | bt ds=>obtain⟨l,vs,e,_⟩:=r;subst e;simp[isN]
 | obj o=>obtain⟨⟨l,e⟩,_⟩:=r;subst e;simp[isN]
def sOf:Ent->Option Str
 | .val (.str i)=>aa i
 | _=>ab
theorem zbt{e:Ent}{i:Str}(h:sOf e=aa i):e=.val (.str i):=by
 cases e with
 | val d=>cases d <;> first | (cases h;rfl) | (cases h)
 | _=>cases h
def inS(i j:Str):Bool:=!(eA j i 0 j.length 1).isEmpty
def gInS:Ent->Ent->Option Ent:=fun x y=>(sOf x).bind fun i=>(sOf y).map fun j=>.val (.bl (inS i j))
def gNiS:Ent->Ent->Option Ent:=fun x y=>(sOf x).bind fun i=>(sOf y).map fun j=>.val (.bl (!inS i j))
noncomputable def zd6:Ent->Ent->Option Ent:=fun x y=>(sOf x).bind fun i=>(sOf y).bind fun j=>gif (sz (i.length+j.length)) (aa (.val (.str (i ++ j))))
theorem zdE{n:Nat}(h:n<=1000000):n<=aZ:=by rw[ck];lia
section
variable {X:Cx}
theorem o_eq:OpD X (bF .Eq) gEq:=⟨_,op_eq,fun H0 F H x y e e' res Q fh hh rx ry q k=>by
 cases e with
 | val d=>
  cases e' with
  | val d'=>
   obtain⟨b,q1,q⟩:=map_some q
   cases q
   obtain⟨h1,h2⟩:=scEq_ok rx ry q1
   exact⟨h1,by rw[h2];exact k _ F H (Ex.refl fh) (.bl _)⟩
  | _=>cases q
 | _=>cases q⟩
theorem o_ne:OpD X (bF .NotEq) gNe:=⟨_,op_ne,fun H0 F H x y e e' res Q fh hh rx ry q k=>by
 cases e with
 | val d=>
  cases e' with
  | val d'=>
   obtain⟨b,q1,q⟩:=map_some q
   cases q
   obtain⟨h1,h2⟩:=scEq_ok rx ry q1
   exact⟨h1,by rw[h2];exact k _ F H (Ex.refl fh) (.bl _)⟩
  | _=>cases q
 | _=>cases q⟩
theorem o_isN:OpD X (bF .Is) zjH:=⟨_,op_isN,fun H0 F H x y e e' res Q fh hh rx ry q k=>by
 unfold zjH at q
 split at q
 ·cases q
  exact⟨zih ry,by rw[isN_ok rx];exact k _ F H (Ex.refl fh) (.bl _)⟩
 ·cases q⟩
theorem o_noN:OpD X (bF .IsNot) gNoN:=⟨_,op_notN,fun H0 F H x y e e' res Q fh hh rx ry q k=>by
 unfold gNoN at q
 split at q
 ·cases q
  exact⟨zih ry,by rw[isN_ok rx];exact k _ F H (Ex.refl fh) (.bl _)⟩
 ·cases q⟩
theorem o_inS:OpD X (bF .In) gInS:=⟨_,op_in_str,fun H0 F H x y e e' res Q fh hh rx ry q k=>by
 obtain⟨i,q1,q⟩:=bind_some q
 obtain⟨j,q2,q⟩:=map_some q
 cases zbt q1
 cases zbt q2
 cases q
 exact⟨i,j,zb6 rx,zb6 ry,k _ F H (Ex.refl fh) (.bl _)⟩⟩
theorem o_niS:OpD X (bF .NotIn) gNiS:=⟨_,zgQ,fun H0 F H x y e e' res Q fh hh rx ry q k=>by
 obtain⟨i,q1,q⟩:=bind_some q
 obtain⟨j,q2,q⟩:=map_some q
 cases zbt q1
 cases zbt q2
 cases q
 exact⟨i,j,zb6 rx,zb6 ry,k _ F H (Ex.refl fh) (.bl _)⟩⟩
theorem zfj:OpD X (binaryOp .Add) zd6:=⟨_,zje,fun H0 F H x y e e' res Q fh hh rx ry q k=>by
 obtain⟨i,q1,q⟩:=bind_some q
 obtain⟨j,q2,q⟩:=bind_some q
 obtain⟨hl,qz⟩:=zbi q
 cases zbt q1
 cases zbt q2
 cases qz
 exact⟨i,j,zb6 rx,zb6 ry,zdE hl,k _ F H (Ex.refl fh) (.str _)⟩⟩
end
def zda:Ent->Ent->Option Ent:=fun x y=>(asL x).bind fun ds=>(iOf y).bind fun i=>(atI ds i).map .val
def zei:Ent->Option (List D)
 | .val (.tup ds)=>aa ds
 | _=>ab
theorem zdg{e:Ent}{ds:List D}(h:zei e=aa ds):e=.val (.tup ds):=by
 cases e with
 | val d=>cases d <;> first | (cases h;rfl) | (cases h)
 | _=>cases h
def zcu:Ent->Ent->Option Ent:=fun x y=>(zei x).bind fun ds=>(iOf y).bind fun i=>(atI ds i).map .val
def mkS(l:List Nat):Str:=⟨l.toArray⟩
noncomputable def zhJ:Ent->Ent->Option Ent:=fun x y=>(sOf x).bind fun z=>(iOf y).bind fun i=>gif (sz z.length) ((atI z.cps.toList i).map fun c=>.val (.str (mkS [c])))
theorem atI_rep{F:Hp}{vs:List V}{ds:List D}{i:Int}{d:D}(r:Reps F vs ds)(q:atI ds i=aa d):∃ v,atI vs i=aa v/\Rep F v d:=by
 unfold atI at q ⊢
 obtain⟨j,q1,q⟩:=bind_some q
 obtain⟨v,h1,h2⟩:=r.get q
 exact⟨v,by rw[r.length,q1];exact h1,h2⟩
section
variable {X:Cx}
theorem zcm:IxD X zda:=⟨_,ix_list,fun H0 F H x y e e' res Q fh hh rx ry q k=>by
 obtain⟨ds,q1,q⟩:=bind_some q
 obtain⟨i,q2,q⟩:=bind_some q
 obtain⟨d,q3,q⟩:=map_some q
 cases q
 cases za1 q2
 obtain⟨l,vs,e,h1,h2⟩:=RepR.toL rx fh q1
 obtain⟨v,h3,h4⟩:=atI_rep h2 q3
 exact⟨l,vs,i,v,e,za3 ry,h1,h3,k v F H (Ex.refl fh) h4⟩⟩
theorem zbW:IxD X zcu:=⟨_,ix_tup,fun H0 F H x y e e' res Q fh hh rx ry q k=>by
 obtain⟨ds,q1,q⟩:=bind_some q
 obtain⟨i,q2,q⟩:=bind_some q
 obtain⟨d,q3,q⟩:=map_some q
 cases q
 cases za1 q2
 cases zdg q1
 cases (show Rep F x (.tup ds) from rx) with
 | tup e rs=>
  obtain⟨v,h3,h4⟩:=atI_rep rs q3
  exact⟨_,_,i,v,rfl,za3 ry,SqT.of (fh _ _ e),h3,k v F H (Ex.refl fh) h4⟩⟩
theorem zgS:IxD X zhJ:=⟨_,ix_str,fun H0 F H x y e e' res Q fh hh rx ry q k=>by
 obtain⟨z,q1,q⟩:=bind_some q
 obtain⟨i,q2,q⟩:=bind_some q
 obtain⟨hl,qz⟩:=zbi q
 obtain⟨c,q3,qz⟩:=map_some qz
 cases qz
 cases za1 q2
 cases zbt q1
 exact⟨z,i,c,zb6 rx,za3 ry,zdE hl,q3,k _ F H (Ex.refl fh) (.str _)⟩⟩
end
noncomputable def gCat:Ent->Ent->Option Ent:=fun x y=>(asLt x).bind fun ds=>(asLt y).bind fun es=>gif (sz (ds.length+es.length)) (aa (.own (ds ++ es)))
section
variable {X:Cx}
theorem o_cat:OpD X (binaryOp .Add) gCat:=⟨_,op_cat,fun H0 F H x y e e' res Q fh hh rx ry q k=>by
 obtain⟨ds,q1,q⟩:=bind_some q
 obtain⟨es,q2,q⟩:=bind_some q
 obtain⟨hl,qz⟩:=zbi q
 cases qz
 obtain⟨l,vs,e,h1,h2⟩:=RepR.toLt rx fh q1
 obtain⟨l',ws,e',h1',h2'⟩:=RepR.toLt ry fh q2
 refine⟨l,l',vs,ws,e,e',h1,h1',by rw[h2.length,h2'.length];exact zdE hl,fun p hp=>?_⟩
 exact k _ _ _ (Ex.lay fh hp) ⟨p,_,rfl,hh.free hp,zaj,h2.append h2',fh.free hp⟩⟩
end
abbrev FO:=En->Option (Option Int)
def oNo:FO:=fun _=>aa ab
def oSo(fe:FE):FO:=fun δ=>((fe δ).bind iOf).map aa
def SemO(K:ag)(t:TO)(f:FO):Prop:=∀ (B:Bd) (F H:Hp) (σ:Sg) (δ:En) (o:Option Int) (Q:Option Int->Hp->Prop),RS K B F H σ δ->f δ=aa o->(∀ F' H',Ex F H F' H'->Q o H')->t σ H Q
structure VO(X:Cx)(e:Option Expr)(f:FO):Prop where
 h:∃ t,WO X e t/\SemO X.K t f
def SemL(K:ag)(r:V->Option Int->Option Int->Hp->VK->Prop)(g:Ent->Option Int->Option Int->Option Ent):Prop:=∀ (H0 F H:Hp) (x:V) (lo hi:Option Int) (e res:Ent) (Q:VK),Same F H->Same H0 H->RepR K H0 F H x e->g e lo hi=aa res ->
 (∀ v F' H',Ex F H F' H'->RepR K H0 F' H' v res->Q v H')->r x lo hi H Q
def SlD(X:Cx)(g:Ent->Option Int->Option Int->Option Ent):Prop:=∃ r,SlR X r/\SemL X.K r g
def eSl(g:Ent->Option Int->Option Int->Option Ent)(fe:FE)(fl fu:FO):FE:=fun δ=>(fe δ).bind fun x=>(fl δ).bind fun l=>(fu δ).bind fun u=>g x l u
def zc1{α:Type}(xs:List α)(lo hi:Option Int):List α:=(xs.drop (HT.sIx xs.length 0 lo)).take (HT.sIx xs.length xs.length hi - HT.sIx xs.length 0 lo)
def gSlL:Ent->Option Int->Option Int->Option Ent:=fun x lo hi=>(asL x).map fun ds=>.own (zc1 ds lo hi)
theorem Reps.cut{F:Hp}{vs:List V}{ds:List D}(r:Reps F vs ds)(lo hi:Option Int):Reps F (cutV vs lo hi) (zc1 ds lo hi):=by
 unfold cutV zc1
 rw[r.length]
 exact(r.drop _).take _
section
variable {X:Cx}{e:Expr}{lo hi:Option Expr}{fe:FE}{fl fu:FO}{pos p2:Pos}
theorem von:VO X ab oNo:=⟨_,won,fun B F H σ δ o Q s q k=>by cases q;exact k F H (Ex.refl s.fh)⟩
theorem vos(h:VE X e fe):VO X (aa e) (oSo fe):=by
 obtain⟨t,w,m⟩:=h.h
 refine⟨_,wos w,fun B F H σ δ o Q s q k=>?_⟩
 obtain⟨i,q1,q⟩:=map_some q
 cases q
 obtain⟨r,q2,q3⟩:=bind_some q1
 cases za1 q3
 exact m B F H σ δ _ _ s q2 fun v F1 H1 x1 r1=>⟨i,za3 r1,k F1 H1 x1⟩
theorem vsl{g:Ent->Option Int->Option Int->Option Ent}(hr:SlD X g)(he:VE X e fe)(hl:VO X lo fl)(hu:VO X hi fu):VE X (.Subscript e (.Slice lo hi ab p2) pos) (eSl g fe fl fu):=by
 obtain⟨t,w,m⟩:=he.h
 obtain⟨t1,w1,m1⟩:=hl.h
 obtain⟨t2,w2,m2⟩:=hu.h
 obtain⟨rr,hr1,hr2⟩:=hr
 refine⟨_,wslice hr1 w w1 w2,fun B F H σ δ res Q s q k=>?_⟩
 obtain⟨x,q1,q⟩:=bind_some q
 obtain⟨l,q2,q⟩:=bind_some q
 obtain⟨u,q3,q⟩:=bind_some q
 refine m B F H σ δ x _ s q1 fun v F1 H1 x1 r1=>?_
 refine m1 B F1 H1 σ δ l _ (s.ext x1) q2 fun F2 H2 x2=>?_
 refine m2 B F2 H2 σ δ u _ ((s.ext x1).ext x2) q3 fun F3 H3 x3=>?_
 have xx:=(x1.trans x2).trans x3
 exact hr2 H F3 H3 v l u x res Q xx.fh xx.hh ((r1.ext x2).ext x3) q fun v' F' H' x4 r4=>k v' F' H' (xx.trans x4) r4
theorem l_list:SlD X gSlL:=⟨_,sl_list,fun H0 F H x lo hi e res Q fh hh rx q k=>by
 obtain⟨ds,q1,q⟩:=map_some q
 cases q
 obtain⟨l,vs,e,h1,h2⟩:=RepR.toL rx fh q1
 exact⟨l,vs,e,h1,fun p hp=>k _ _ _ (Ex.lay fh hp) ⟨p,_,rfl,hh.free hp,zaj,h2.cut lo hi,fh.free hp⟩⟩⟩
end
def zb1:List Ent->Option Ent
 | [x]=>match zei x with
  | some ds=>aa (.val (.int ds.length))
  | none=>(asL x).map fun ds=>.val (.int ds.length)
 | _=>ab
noncomputable def za9:List Ent->Option Ent
 | [x]=>(sOf x).bind fun z=>gif (sz z.length) (aa (.val (.int z.length)))
 | _=>ab
def zfY:List Ent->Option Ent
 | [x]=>match zei x with
  | some ds=>aa (.own ds)
  | none=>(asL x).map fun ds=>.own ds
 | _=>ab
def zeC:List Ent->Option Ent
 | [x]=>(asL x).map fun ds=>.val (.tup ds)
 | _=>ab
def zcO:List Ent->Option Ent
 | [.val (.int i)]=>aa (.val (.int i))
 | [.val (.bl b)]=>aa (.val (.int (if b then 1 else 0)))
 | _=>ab
theorem zdv{K:ag}{H0 F H:Hp}{vs:List V}{x:Ent}(r:RepRs K H0 F H vs [x]):∃ v,vs=[v]/\RepR K H0 F H v x:=by
 cases r with
 | cons h t=>cases t;exact⟨_,rfl,h⟩
theorem zfu{g:List Ent->Option Ent}{es:List Ent}{res:Ent}(h0:g []=ab)(h2:∀ a b r,g (a :: b :: r)=ab)(q:g es=aa res):∃ x,es=[x]:=by
 match es,q with
 | [],q=>rw[h0] at q;cases q
 | [x],_=>exact⟨x,rfl⟩
 | a :: b :: r,q=>rw[h2] at q;cases q
theorem RepR.seq{K:ag}{H0 F H:Hp}{v:V}{x:Ent}{ds:List D}(r:RepR K H0 F H v x)(fh:Same F H)(q:zei x=aa ds \/ asL x=aa ds):∃ l vs,v=.ref l/\(SqL K H l vs \/ SqT K H l vs)/\Reps F vs ds:=by
 rcases q with q | q
 ·cases zdg q
  cases (show Rep F v (.tup ds) from r) with
  | tup e rs=>exact⟨_,_,rfl,.inr (SqT.of (fh _ _ e)),rs⟩
 ·obtain⟨l,vs,e,h1,h2⟩:=RepR.toL r fh q
  exact⟨l,vs,e,.inl h1,h2⟩
section
variable {X:Cx}
theorem zdD:zeW X (.builtin "len") zb1:=⟨_,zg6,fun H0 F H vs es res Q fh hh r q k=>by
 obtain⟨x,rfl⟩:=zfu rfl (fun _ _ _=>rfl) q
 obtain⟨v,rfl,rz⟩:=zdv r
 have go:∀ ds,(zei x=aa ds \/ asL x=aa ds)->res=.val (.int ds.length)->∃ p ys,[v]=[V.ref p]/\(SqL X.K H p ys \/ SqT X.K H p ys)/\Q (.int ys.length) H:=fun ds h e=>by
  obtain⟨l,ws,e',h1,h2⟩:=RepR.seq rz fh h
  subst e e'
  exact⟨l,ws,rfl,h1,by rw[h2.length];exact k _ F H (Ex.refl fh) (.int _)⟩
 simp only[zb1] at q
 split at q
 ·rename_i ds h;exact go ds (.inl h) (bf q).symm
 ·obtain⟨ds,h,q⟩:=map_some q;exact go ds (.inr h) q.symm⟩
theorem zcj:zeW X (.builtin "len") za9:=⟨_,zgU,fun H0 F H vs es res Q fh hh r q k=>by
 obtain⟨x,rfl⟩:=zfu rfl (fun _ _ _=>rfl) q
 obtain⟨v,rfl,rz⟩:=zdv r
 obtain⟨z,q1,q⟩:=bind_some q
 obtain⟨hl,qz⟩:=zbi q
 cases qz
 cases zbt q1
 cases zb6 rz
 exact⟨z,rfl,zdE hl,k _ F H (Ex.refl fh) (.int _)⟩⟩
theorem c_listQ:zeW X (.type "list") zfY:=⟨_,zg0,fun H0 F H vs es res Q fh hh r q k=>by
 obtain⟨x,rfl⟩:=zfu rfl (fun _ _ _=>rfl) q
 obtain⟨v,rfl,rz⟩:=zdv r
 have go:∀ ds,(zei x=aa ds \/ asL x=aa ds)->res=.own ds->∃ p ys,[v]=[V.ref p]/\(SqL X.K H p ys \/ SqT X.K H p ys)/\∀ l,H l=ab->Q (.ref l) (upd H l (.lst ys)):=fun ds h e=>by
  obtain⟨l,ws,e',h1,h2⟩:=RepR.seq rz fh h
  subst e e'
  exact⟨l,ws,rfl,h1,fun p hp=>k _ _ _ (Ex.lay fh hp) ⟨p,_,rfl,hh.free hp,zaj,h2,fh.free hp⟩⟩
 simp only[zfY] at q
 split at q
 ·rename_i ds h;exact go ds (.inl h) (bf q).symm
 ·obtain⟨ds,h,q⟩:=map_some q;exact go ds (.inr h) q.symm⟩
theorem zfX:zeW X (.type "tuple") zeC:=⟨_,zgl,fun H0 F H vs es res Q fh hh r q k=>by
 obtain⟨x,rfl⟩:=zfu rfl (fun _ _ _=>rfl) q
 obtain⟨v,rfl,rz⟩:=zdv r
 obtain⟨ds,q1,q⟩:=map_some q
 cases q
 obtain⟨l,ws,e',h1,h2⟩:=RepR.toL rz fh q1
 subst e'
 exact⟨l,ws,rfl,.inl ⟨h1,fun p hp=>k _ _ _ (Ex.alloc fh hp) (.tup zaj (h2.mono (Same.alloc (fh.free hp))))⟩⟩⟩
theorem zhw:zeW X (.type "int") zcO:=⟨_,call_int1,fun H0 F H vs es res Q fh hh r q k=>by
 unfold zcO at q
 split at q
 ·cases q
  obtain⟨v,rfl,rz⟩:=zdv r
  cases za3 rz
  exact .inl ⟨_,rfl,k _ F H (Ex.refl fh) (.int _)⟩
 ·cases q
  obtain⟨v,rfl,rz⟩:=zdv r
  cases zhl rz
  exact .inr ⟨_,rfl,k _ F H (Ex.refl fh) (.int _)⟩
 ·cases q⟩
end
section
variable {X:Cx}{a:Expr}{fa:FE}{x:Str}{p p1 pos:Pos}{T:String}{Tn:Str}
end
def iL(fe:FE):FI:=fun δ=>(fe δ).bind fun x=>match x with
 | .val (.lst ds)=>aa ds
 | .own ds=>aa ds
 | _=>ab
def iB(i:Nat):FI:=fun δ=>match δ[i]? with
 | some (aa (.bor ds))=>aa ds
 | _=>ab
def iT(fe:FE):FI:=fun δ=>(fe δ).bind zei
def b62(j:Int):Prop:=-(2 ^ 62)<=j/\j<2 ^ 62
theorem zcW{j:Int}(h:-1000000000<j/\j<1000000000):b62 j:=by unfold b62;lia
theorem zer{j:Int}(h:-1000000000<j/\j<1000000000):b62 j=True:=eq_true (zcW h)
noncomputable def iR1(fa:FA):FI:=fun δ=>(fa δ).bind fun es=>match es with
 | [e]=>(iOf e).bind fun j=>gif (b62 j) (aa ((ak j.toNat).map fun(i:Nat)=>D.int (0+i)))
 | _=>ab
noncomputable def iR2(fa:FA):FI:=fun δ=>(fa δ).bind fun es=>match es with
 | [e,e']=>(iOf e).bind fun i=>(iOf e').bind fun j=>gif (b62 i/\b62 j) (aa ((ak (j - i).toNat).map fun(k:Nat)=>D.int (i+k)))
 | _=>ab
theorem zeu{K:ag}{B F0:Hp}{a:af}{vs:List V}{ds:List D}(h:∀ F H,Same F0 F->Same F H->Same B H->SqL K H a vs)(r:Reps F0 vs ds):ItOk B F0 (Itl K a) ds:=fun F H s1 s2 s3=>by
 have hq:=h F H s1 s2 s3
 refine⟨⟨vs,hq,by rw[r.length];exact ai _⟩,fun i d e=>?_⟩
 obtain⟨v,h1,h2⟩:=r.get e
 refine⟨⟨vs,v,hq,h1⟩,fun x H' y=>?_⟩
 obtain⟨e',y⟩:=y
 subst e'
 have:=y vs hq
 rw[h1] at this
 cases this
 exact⟨F,Ex.refl s2,Rep.mono s1 h2⟩
theorem itOk_tup{K:ag}{B F0:Hp}{a:af}{vs:List V}{ds:List D}(h:F0 a=aa (.tup vs))(r:Reps F0 vs ds):ItOk B F0 (Itt K a) ds:=fun F H s1 s2 s3=>by
 have hq:SqT K H a vs:=SqT.of (s2 _ _ (s1 _ _ h))
 refine⟨⟨vs,hq,by rw[r.length];exact ai _⟩,fun i d e=>?_⟩
 obtain⟨v,h1,h2⟩:=r.get e
 refine⟨⟨vs,v,hq,h1⟩,fun x H' y=>?_⟩
 obtain⟨e',y⟩:=y
 subst e'
 have:=y vs hq
 rw[h1] at this
 cases this
 exact⟨F,Ex.refl s2,Rep.mono s1 h2⟩
theorem zis{B F0:Hp}{lo:Int}{n:Nat}:ItOk B F0 (Itr lo n) ((ak n).map fun(i:Nat)=>D.int (lo+i)):=fun F H s1 s2 s3=>by
 refine⟨by simp[Itr],fun i d e=>?_⟩
 rw[ax] at e
 by_cases hi:i<n
 ·rw[bo hi] at e
  cases e
  refine⟨hi,fun x H' y=>?_⟩
  obtain⟨e',y⟩:=y
  subst e' y
  exact⟨F,Ex.refl s2,.int _⟩
 ·rw[cB (by simp;lia)] at e;cases e
section
variable {X:Cx}{tg e b:Expr}{es:List Expr}{fe:FE}{fa:FA}{p pos:Pos}{x:Str}
theorem iil(h:VE X e fe):VI X tg e (iL fe):=by
 obtain⟨t,w,m⟩:=h.h
 refine⟨_,il w,fun B F H σ δ ds R s q k=>?_⟩
 obtain⟨r,q1,q⟩:=bind_some q
 refine m B F H σ δ r _ s q1 fun v F1 H1 x1 r1=>?_
 split at q
 ·cases q
  cases (show Rep F1 v (.lst ds) from r1) with
  | lst e rs=>exact⟨_,rfl,⟨_,SqL.of (x1.fh _ _ e)⟩,k _ F1 H1 x1 (zeu (fun F H s1 s2 _=>SqL.of (s2 _ _ (s1 _ _ e))) rs)⟩
 ·cases q
  obtain⟨F2,x2,_,r2⟩:=RepR.frz x1 (Same.refl _) r1 rfl
  cases r2 with
  | lst e rs=>exact⟨_,rfl,⟨_,SqL.of (x2.fh _ _ e)⟩,k _ F2 H1 x2 (zeu (fun F H s1 s2 _=>SqL.of (s2 _ _ (s1 _ _ e))) rs)⟩
 ·cases q
theorem iib(i:Nat)(hN:X.N[i]? = aa x:=by rfl)(hv:Vis X.env.scope x:=by first | exact au rfl | exact bw (au rfl) | exact bw (bw rfl))(hd:(x == ("__debug__" : Str))=false:=by decide)
  (hcd:(x == ("__classdict__" : Str))=false:=by decide):VI X tg (.Name x pos) (iB i):=by
 refine⟨_,il (wv i hN hv hd hcd),fun B F H σ δ ds R s q k=>?_⟩
 unfold iB at q
 split at q
 ·rename_i es e
  cases q
  obtain⟨v,h1,l,vs,e,h2,h3⟩:=s.ent i _ e
  exact⟨v,h1,l,e,⟨vs,s.bh.seq h2⟩,k _ F H (Ex.refl s.fh) (zeu (fun F H _ _ s3=>s3.seq h2) h3)⟩
 ·cases q
theorem iit(h:VE X e fe):VI X tg e (iT fe):=by
 obtain⟨t,w,m⟩:=h.h
 refine⟨_,it w,fun B F H σ δ ds R s q k=>?_⟩
 obtain⟨r,q1,q⟩:=bind_some q
 refine m B F H σ δ r _ s q1 fun v F1 H1 x1 r1=>?_
 cases zdg q
 cases (show Rep F1 v (.tup ds) from r1) with
 | tup e rs=>exact⟨_,rfl,⟨_,SqT.of (x1.fh _ _ e)⟩,k _ F1 H1 x1 (itOk_tup e rs)⟩
theorem iir1(hg:Gl X "range")(hm:X.mg "range" = ab)(ha:VA X [e] fa)(h1:zam e=true:=by rfl):VI X tg (.Call (.Name "range" p) [e] [] pos) (iR1 fa):=by
 obtain⟨t,w,m⟩:=ha.h
 refine⟨_,ir1 hg hm w h1,fun B F H σ δ ds R s q k=>?_⟩
 obtain⟨es,q1,q⟩:=bind_some q
 refine m B F H σ δ es _ s q1 fun vs F1 H1 x1 r1=>?_
 split at q
 ·obtain⟨j,q2,q⟩:=bind_some q
  obtain⟨hj,qz⟩:=zbi q
  cases qz
  cases za1 q2
  obtain⟨v,rfl,rz⟩:=zdv r1
  cases za3 rz
  exact⟨j,rfl,hj.1,hj.2,k _ F1 H1 x1 zis⟩
 ·cases q
theorem iir2(hg:Gl X "range")(hm:X.mg "range" = ab)(ha:VA X [e,b] fa)(h1:zam e=true:=by rfl)(h2:zam b=true:=by rfl):VI X tg (.Call (.Name "range" p) [e,b] [] pos) (iR2 fa):=by
 obtain⟨t,w,m⟩:=ha.h
 refine⟨_,ir2 hg hm w h1 h2,fun B F H σ δ ds R s q k=>?_⟩
 obtain⟨es,q1,q⟩:=bind_some q
 refine m B F H σ δ es _ s q1 fun vs F1 H1 x1 r1=>?_
 split at q
 ·obtain⟨i,q2,q⟩:=bind_some q
  obtain⟨j,q3,q⟩:=bind_some q
  obtain⟨hj,qz⟩:=zbi q
  cases qz
  cases za1 q2
  cases za1 q3
  cases r1 with
  | cons ra rt=>
   obtain⟨w',rfl,rb⟩:=zdv rt
   cases za3 ra
   cases za3 rb
   exact⟨i,j,rfl,⟨hj.1.1,hj.1.2,hj.2.1,hj.2.2⟩,k _ F1 H1 x1 zis⟩
 ·cases q
end
end L3

namespace L3
open PySem PySem.Spec PyProof.Rows L2
section
variable {prog:aR}{w:aU}{A:a9}{R:Result->ah->Prop}{I:af}{fp wr:List af}{n:Nat}{P:Nat->ae->Prop}{St:Nat->ba->Prop}{kw:List (Str × ae)}
theorem mloop(W:Walks prog w A.in1 I fp wr n P St)(bt:Nat->Nat->Bool)(hc:CmpOf prog w A.in1 .Lt P bt)(S:af)(hSf:S ∉ fp) :
  ∀ (k j:Nat) (s:ah) (vb:ae) (c:Nat),n - (j+1)=k->j+1<=n->St (j+1) s.heap->P (argBest bt j) vb ->
  s.heap.get? S=aa { cls:=.type "list",dict:=ab,data:=.seq #[vb,vb] c,slots:=#[]} ->
  (∀ v h' tk,P (argBest bt (n - 1)) v->(∀ b o,b ∉ wr->b ≠ S->s.heap.get? b=aa o->h'.get? b=aa o)->R (.ok (.ret v)) { s with heap:=h',toks:=tk}) ->
  codeAny (model prog w) A (.builtin "min.loop" ⟨[.ref I,.none,.ref S],kw⟩) R s:=by
 have hSw:S ∉ wr:=fun h=>hSf (W.sub _ h)
 have hnm:(toString "min" ++ toString ".loop" : String) = "min.loop" :=by decide
 intro k
 induction k with
 | zero=>
  intro j s vb c hk hj hst hPb hS hR
  have hin:j+1=n:=by lia
  refine codeAny_builtin dF ?_
  rw[cY bR _]
  show aI _ A.in1 (seqItems? (.ref S) >>= _) _ _ s
  refine aj (wpAny_seqItems hS rfl ?_)
  show aI _ A.in1 (tryCatch (pyNext (.ref I)) _ >>= _) _ _ s
  refine aj (wpAny_tryCatch (W.done s _ _ (hin ▸ hst) fun h' tk hk'=>?_))
  have hS':=hk' S _ hSw hS
  show aI _ A.in1 (updateSeq S (fun _=>#[]) >>= _) _ _ _
  refine aj ?_
  refine wpAny_updateSeq hS' rfl (aj (wpAny_letGo (aE ?_)))
  exact hR vb _ tk (by rw[<- hin];exact hPb) fun b o hbw hbS e=>(b9 _ _ (cj hbS)).trans (hk' b o hbw e)
 | succ k ih=>
  intro j s vb c hk hj hst hPb hS hR
  have hlt:j+1<n:=by lia
  refine codeAny_builtin dF ?_
  rw[cY bR _]
  show aI _ A.in1 (seqItems? (.ref S) >>= _) _ _ s
  refine aj (wpAny_seqItems hS rfl ?_)
  show aI _ A.in1 (tryCatch (pyNext (.ref I)) _ >>= _) _ _ s
  refine aj (wpAny_tryCatch (W.item (j+1) s _ _ hlt hst fun v h' tk hP hst' hk'=>?_))
  have hS':=hk' S _ hSw hS
  show aI _ A.in1 (tryCatch (holding [v,v] (richCompare .Lt v vb >>= _)) _ >>= _) _ _ _
  refine aj (wpAny_tryCatch (bT (aj (hc (j+1) (argBest bt j) v vb _ _ _ hP hPb ?_))))
  refine aj (bT (wpAny_truthy_bool ?_))
  refine aj (wpAny_letGo (aE ?_))
  cases hb:bt (j+1) (argBest bt j) with
  | true=>
   simp only[if_true]
   refine aj ?_
   refine wpAny_updateSeq hS' rfl (aj (wpAny_letGo ?_))
   rw[hnm]
   refine aE ⟨plainId_quiet bR _,ih (j+1) _ v _ (by lia) hlt (W.frame _ _ _ hst' fun b hbf o e=>?_) (by simp only[argBest,hb,if_true];exact hP) (dN _ hS' rfl) fun v' h'' tk'' hP' hk''=>?_⟩
   ·exact(b9 _ _ (fun h:S=b=>hSf (by rw[h];exact hbf))).trans e
   ·exact hR v' h'' tk'' hP' fun b o hbw hbS e=>hk'' b o hbw hbS ((b9 _ _ (cj hbS)).trans (hk' b o hbw e))
  | false=>
   simp only[bG,if_false]
   refine aj (wpAny_letGo ?_)
   rw[hnm]
   refine aE ⟨plainId_quiet bR _,ih (j+1) _ vb c (by lia) hlt hst' (by simp only[argBest,hb,bG,if_false];exact hPb) hS' fun v' h'' tk'' hP' hk''=>?_⟩
   exact hR v' h'' tk'' hP' fun b o hbw hbS e=>hk'' b o hbw hbS (hk' b o hbw e)
theorem mloop1(W:Walks prog w A.in1 I fp wr n P St)(bt:Nat->Nat->Bool)(hc:CmpOf prog w A.in1 .Lt P bt)(S:af)(hSf:S ∉ fp)(hn:0<n){s:ah}{c:Nat}(hst:St 0 s.heap)
  (hS:s.heap.get? S=aa { cls:=.type "list",dict:=ab,data:=.seq #[] c,slots:=#[]})
  (hR:∀ v h' tk,P (argBest bt (n - 1)) v->(∀ b o,b ∉ wr->b ≠ S->s.heap.get? b=aa o->h'.get? b=aa o)->R (.ok (.ret v)) { s with heap:=h',toks:=tk}) :
  codeAny (model prog w) A (.builtin "min.loop" ⟨[.ref I,.none,.ref S],kw⟩) R s:=by
 have hSw:S ∉ wr:=fun h=>hSf (W.sub _ h)
 have hnm:(toString "min" ++ toString ".loop" : String) = "min.loop" :=by decide
 refine codeAny_builtin dF ?_
 rw[cY bR _]
 show aI _ A.in1 (seqItems? (.ref S) >>= _) _ _ s
 refine aj (wpAny_seqItems hS rfl ?_)
 show aI _ A.in1 (tryCatch (pyNext (.ref I)) _ >>= _) _ _ s
 refine aj (wpAny_tryCatch (W.item 0 s _ _ hn hst fun v h' tk hP hst' hk'=>?_))
 have hS':=hk' S _ hSw hS
 show aI _ A.in1 (updateSeq S (fun _=>#[v,v]) >>= _) _ _ _
 refine aj ?_
 refine wpAny_updateSeq hS' rfl ?_
 rw[hnm]
 refine aE ⟨plainId_quiet bR _,mloop W bt hc S hSf _ 0 _ v _ rfl hn (W.frame _ _ _ hst' fun b hbf o e=>?_) hP (dN _ hS' rfl) fun v' h'' tk'' hP' hk''=>?_⟩
 ·exact(b9 _ _ (fun h:S=b=>hSf (by rw[h];exact hbf))).trans e
 ·exact hR v' h'' tk'' hP' fun b o hbw hbS e=>hk'' b o hbw hbS ((b9 _ _ (cj hbS)).trans (hk' b o hbw e))
theorem mloop0{d:ae}{kn:Str}(W:Walks prog w A.in1 I fp wr n P St)(S:af)(hSf:S ∉ fp)(hn:n=0){s:ah}{c:Nat}(hst:St 0 s.heap)
  (hS:s.heap.get? S=aa { cls:=.type "list",dict:=ab,data:=.seq #[] c,slots:=#[]})
  (hR:∀ h' tk,(∀ b o,b ∉ wr->b ≠ S->s.heap.get? b=aa o->h'.get? b=aa o)->R (.ok (.ret d)) { s with heap:=h',toks:=tk}) :
  codeAny (model prog w) A (.builtin "min.loop" ⟨[.ref I,.none,.ref S],[(kn,d)]⟩) R s:=by
 refine codeAny_builtin dF ?_
 rw[cY bR _]
 show aI _ A.in1 (seqItems? (.ref S) >>= _) _ _ s
 refine aj (wpAny_seqItems hS rfl ?_)
 show aI _ A.in1 (tryCatch (pyNext (.ref I)) _ >>= _) _ _ s
 refine aj (wpAny_tryCatch (W.done s _ _ (hn ▸ hst) fun h' tk hk'=>?_))
 show aI _ A.in1 (rule _ >>= _) _ _ _
 refine aj (wpAny_rule ?_)
 exact aE (hR h' tk fun b o hbw _ e=>hk' b o hbw e)
end
section
variable {prog:aR}{w:aU}{A:a9}{E:ae->ah->Prop}{s:ah}{l:af}{xs:Array (Int × Tok)}{d:ae}
theorem argsMinD(a d:ae):argsOk "min" ⟨[a],[(dJ "default",d)]⟩:=by unfold argsOk;kernel_rfl
theorem call_minD{Q:ae->ah->Prop}(hh:A.handled=ab)(hl:s.heap.IsList l (intItems xs))
  (h1:∀ v h' tk,0<xs.size->(intItems xs)[argBest (fun i j=>decide (numAt xs i<numAt xs j)) (xs.size - 1)]? = aa v->(∀ b o,s.heap.get? b=aa o->h'.get? b=aa o)->Q v { s with heap:=h',toks:=tk})
  (h2:∀ h' tk,xs.size=0->(∀ b o,s.heap.get? b=aa o->h'.get? b=aa o)->Q d { s with heap:=h',toks:=tk}) :
  aI (model prog w) A (call (.builtin "min") [.ref l] [(dJ "default",d)]) Q E s:=by
 have hnm:(toString "min" ++ toString ".loop" : String) = "min.loop" :=by decide
 refine kmb_tree PySem.F.kind_min PySem.F.plain_min PySem.F.entry_min (argsMinD _ _) ?_
 show aI _ A.in1 (fL "min" ["key","default"] 0 ⟨[],[(dJ "default",d)]⟩ >>= _) _ _ s
 refine aj (wpAny_of_eq (show fL "min" ["key","default"] 0 ⟨[],[(dJ "default",d)]⟩=pure [ab,aa d] from rfl) ?_)
 refine aj (aE ?_)
 refine aj (iter_intList hl fun s₂ e st hfp hlI=>?_)
 subst e
 refine aj (wpAny_newObj_type ?_)
 rw[hnm]
 have W:=Walks.list (prog:=prog) (w:=w) (A:=A.in1) hh s.heap.objs.size l hlI (intItems xs)
 have hsz:(intItems xs).size=xs.size:=by simp[intItems]
 have hSf:(s.heap.push { cls:=.type "list_iterator",data:=.fields #[.ref l,.int 0 0]}).objs.size ∉ [s.heap.objs.size,l]:=fun hm=>cc _ (hfp _ hm)
 have keep:∀ h':ba,(∀ b o,b ∉ [s.heap.objs.size]->b ≠ (s.heap.push { cls:=.type "list_iterator",data:=.fields #[.ref l,.int 0 0]}).objs.size->((s.heap.push { cls:=.type "list_iterator",data:=.fields #[.ref l,.int 0 0]}).push { cls:=.type "list",data:=.seq ([]:List ae).toArray}).get? b=aa o->h'.get? b=aa o)->∀ b o,s.heap.get? b=aa o->h'.get? b=aa o:=fun h' hk b o e=>by
  refine hk b o (fun hm=>?_) (fun hb=>?_) (am _ (am _ e))
  ·exact absurd (aN e) (by rw[a7.mp hm];exact cc _)
  ·have h1:=aN e
   rw[dL] at hb
   exact absurd h1 (by rw[hb];exact jj.mpr (dm _))
 by_cases hx:xs.size=0
 ·refine aE ⟨plainId_quiet bR _,mloop0 W _ hSf (by rw[hsz];exact hx) (W.frame _ _ _ st fun b _ o e=>am _ e) (aM _ rfl) fun h' tk hk=>?_⟩
  exact h2 h' tk hx (keep h' hk)
 ·refine aE ⟨plainId_quiet bR _,mloop1 W _ (CmpOf.ints_lt (numAt xs) (fun _ _=>intItems_at)) _ hSf (by lia) (W.frame _ _ _ st fun b _ o e=>am _ e) (aM _ rfl) fun v h' tk hP hk=>?_⟩
  exact h1 v h' tk (by lia) (by simpa [intItems] using hP) (keep h' hk)
end
def isI:D->Option Int
 | .int i=>aa i
 | _=>ab
def zhg:List D->Option (List Int)
 | []=>aa []
 | d :: ds=>(isI d).bind fun i=>(zhg ds).map fun is=>i :: is
def minI:List Int->Option Int
 | []=>ab
 | i :: is=>aa (is.foldl (fun a b=>if b<a then b else a) i)
theorem ze5{F:Hp}:∀ {vs:List V} {ds:List D} {ns:List Int},Reps F vs ds->zhg ds=aa ns->vs=ns.map V.int
 | _,_,_,.nil,q=>by cases q;rfl
 | _,d :: ds,ns,.cons r t,q=>by
  simp only[zhg] at q
  obtain⟨i,q1,q⟩:=bind_some q
  obtain⟨is,q2,q⟩:=map_some q
  cases q
  cases d <;> cases q1
  cases r
  rw[ay,ze5 t q2]
theorem zen:∀ {ns:List Int} {us:List ae},Vals (ns.map V.int) us->∃ l:List (Int × Tok),us=l.map (fun p=>fH p.1 p.2)/\l.map (·.1)=ns
 | [],us,r=>by
  rw[ci] at r
  cases r
  exact⟨[],rfl,rfl⟩
 | n :: ns,us,r=>by
  rw[ay] at r
  cases r with
  | cons h t=>
   obtain⟨tk,e⟩:=h
   subst e
   obtain⟨l,ex1,ex2⟩:=zen t
   exact⟨(n,tk) :: l,by rw[ex1];rfl,by rw[ay,ex2]⟩
theorem zfV(val:Nat->Int):∀ k,val (argBest (fun i j=>decide (val i<val j)) k)=((ak k).map fun i=>val (i+1)).foldl (fun a b=>if b<a then b else a) (val 0)
 | 0=>rfl
 | k+1=>by
  rw[ce,bW,iJ,<- zfV val k]
  have e:argBest (fun i j=>decide (val i<val j)) (k+1)=if decide (val (k+1)<val (argBest (fun i j=>decide (val i<val j)) k))=true then k+1 else argBest (fun i j=>decide (val i<val j)) k:=rfl
  rw[e]
  generalize argBest (fun i j=>decide (val i<val j)) k=z
  simp only[decide_eq_true_eq,ay,ci,cG,List.foldl_nil]
  split <;> rfl
theorem minI_best{l:List (Int × Tok)}(hn:0<l.length):minI (l.map (·.1))=aa (numAt l.toArray (argBest (fun i j=>decide (numAt l.toArray i<numAt l.toArray j)) (l.length - 1))):=by
 cases l with
 | nil=>simp at hn
 | cons p l=>
  rw[zfV (numAt (p :: l).toArray)]
  show aa _=aa _
  congr 1
  rw[show(p :: l).length - 1=l.length by simp]
  have e0:numAt (p :: l).toArray 0=p.1:=by simp[numAt]
  have ex1:(ak l.length).map (fun i=>numAt (p :: l).toArray (i+1))=l.map (·.1):=by
   apply eQ
   ·simp
   ·intro i h1 h2
    simp at h1
    simp[numAt,h1]
  rw[e0,ex1]
section
variable {X:Cx}
theorem zh3{pins:List (af × Obj)}{σ:L2.St}{H:Hp}{s:ah}{p:af}{ns:List Int}(I:Inv X pins σ H s)(h:SqL X.K H p (ns.map V.int)):∃ l:List (Int × Tok),s.heap.IsList p (intItems l.toArray)/\l.map (·.1)=ns:=by
 obtain⟨its,r,pl,_⟩:=I.list h
 obtain⟨l,ex1,ex2⟩:=zen r
 refine⟨l,?_,ex2⟩
 have:=pl.isList
 rw[ex1] at this
 simpa [intItems] using this
def gMinD:Ent->Ent->Option Ent:=fun x y=>(asL x).bind fun ds=>(zhg ds).bind fun ns=>match minI ns with
 | some m=>aa (.val (.int m))
 | none=>match y with
  | .val d=>aa (.val d)
  | _=>ab
def rMinD(K:ag):R2:=fun x y H Q=>∃ (q:af) (ns:List Int),x=.ref q/\SqL K H q (ns.map V.int)/\Q (match minI ns with | some m=>.int m | none=>y) H
theorem vminD{a d:Expr}{fa fd:FE}{p pos kpos:Pos}(ha:VE X a fa)(hd:VE X d fd)(hg:Gl X "min")(hm:X.mg "min" = ab)(hb:bn "min" = aa (.builtin "min"))(hc:X.calm=true:=by rfl)(hs:zam a=true:=by rfl) :
  VE X (.Call (.Name "min" p) [a] [⟨aa "default",d,kpos⟩] pos) (ex2 gMinD fa fd):=by
 obtain⟨ta,wa,ma⟩:=ha.h
 obtain⟨td,wd,md⟩:=hd.h
 refine⟨tOp (rMinD X.K) ta td,⟨?_⟩,.op ?_ ma md⟩
 ·intro pins s σ H Q I h
  refine cf (zep I hg hm hb ?_ (by decide) (by decide))
  have hA:=(wac wa wnil hs).h pos pins s σ H (fun xs H1=>match xs with | [x]=>td σ H1 fun y H2=>rMinD X.K x y H2 Q | _=>False) I h
  refine j6 (thn hA fun us s1 h1=>?_) (by rw[zar hs];rfl) (by rw[zar hs];rfl)
  obtain⟨vs,H1,I1,r1,q1⟩:=h1
  cases r1 with
  | nil=>exact bY q1
  | cons rx rt=>
   cases rt with
   | cons _ _=>exact bY q1
   | nil=>
    have hK:=pk_cons (nm:=aa (dJ "default")) (kpos:=kpos) wd.h pk_nil pos pins s1 σ H1 (fun ys H2=>match ys with | [y]=>rMinD X.K _ y H2 Q | _=>False) I1 q1
    refine thn hK fun ws s2 h2=>?_
    obtain⟨zs,H2,I2,r2,q2⟩:=h2
    cases r2 with
    | nil=>exact bY q2
    | cons ry rt2=>
     cases rt2 with
     | cons _ _=>exact bY q2
     | nil=>
      obtain⟨q,ns,rfl,hq,q2⟩:=q2
      cases rx
      obtain⟨l,hl,e⟩:=zh3 I2 hq
      subst e
      refine call_minD (I2.ok.hd hc) hl (fun v h' tk hn hv kp=>?_) fun h' tk hn kp=>?_
      ·obtain⟨t,e⟩:=intItems_at hv
       subst e
       rw[minI_best (by simpa using hn)] at q2
       exact⟨.int _,H2,I2.kept (t':=tk) kp,⟨t,by simp⟩,q2⟩
      ·have e:l=[]:=fw (by simpa using hn)
       subst e
       exact⟨_,H2,I2.kept (t':=tk) kp,ry,q2⟩
 ·intro H0 F H x y e e' res Q fh hh rx ry q k
  obtain⟨ds,q1,q⟩:=bind_some q
  obtain⟨ns,q2,q⟩:=bind_some q
  obtain⟨l,ws,el,h1,h2⟩:=RepR.toL rx fh q1
  rw[ze5 h2 q2] at h1
  refine⟨l,ns,el,h1,?_⟩
  cases hm:minI ns with
  | some m=>simp only[hm] at q ⊢;cases q;exact k _ F H (Ex.refl fh) (.int _)
  | none=>
   simp only[hm] at q ⊢
   cases e' with
   | val d=>cases q;exact k _ F H (Ex.refl fh) ry
   | _=>cases q
end
end L3

namespace L3
open PySem PySem.Spec PyProof.Rows L2
def sgn(z:Str):List Str:=z.cps.toList.map fun c=>⟨#[c]⟩
theorem zcD(l:List Nat):(mkS l).cps.toList=l:=by simp[mkS]
theorem mkS_cps(z:Str):mkS z.cps.toList=z:=by cases z;simp[mkS]
theorem zat(l:List Nat):(mkS l).length=l.length:=by simp[mkS,f6]
def clp(n:Int)(v:Option Int)(d:Int):Int:=match v with
 | none=>d
 | some i=>max 0 (min (if i<0 then i+n else i) n)
theorem clp_ok(n:Nat)(v:Option Int)(d:Nat):clp n v d=((HT.sIx n d v:Nat):Int):=by
 cases v with
 | none=>rfl
 | some i=>
  show max 0 (min (if i<0 then i+(n:Int) else i) n)=(((if i<0 then (i+(n:Int)).toNat else min i.toNat n:Nat)):Int)
  by_cases h:i<0
  ·rw[if_pos h,if_pos h];lia
  ·rw[if_neg h,if_neg h];lia
theorem strIx(lo hi:Option Int)(n:Nat):cH lo hi 1 n=cH (aa ((HT.sIx n 0 lo:Nat):Int)) (aa ((HT.sIx n n hi:Nat):Int)) 1 n:=by
 have ex1:∀ a:Nat,a<=n->max (0:Int) (min (if (a:Int)<0 then (a:Int)+n else a) n)=a:=fun a h=>by
  rw[if_neg (by lia)];lia
 unfold cH
 simp only[show((1:Int) > 0)=True from by simp,if_true]
 rw[ex1 _ (HT.sIx_le n 0 (aS n) lo),ex1 _ (HT.sIx_le n n (ai n) hi)]
 show sliceRange (clp n lo ((0:Nat):Int)) (clp n hi (n:Int)) 1=_
 rw[clp_ok,clp_ok]
theorem slice_cut(x:Str)(lo hi:Option Int):jv x lo hi=mkS (zc1 x.cps.toList lo hi):=by
 have hl:x.cps.toList.length=x.length:=by simp[f6]
 unfold jv zc1
 rw[strIx,hl]
 have h1:=HT.sIx_le x.length 0 (aS _) lo
 have h2:=HT.sIx_le x.length x.length (ai _) hi
 generalize HT.sIx x.length 0 lo=a at h1
 generalize HT.sIx x.length x.length hi=b at h2
 by_cases hab:a<=b
 ·rw[fz hab h2]
  split
  ·rename_i h
   have hz:b - a=x.length:=by simpa using h
   have ha:a=0:=by lia
   subst ha
   rw[fG,hz,<- hl,eR,mkS_cps]
  ·rw[<- fz hab h2,StrLaws.sliced_plain x hab h2]
   rfl
 ·have e:cH (aa (a:Int)) (aa (b:Int)) 1 x.length=[]:=by
   have n1:¬ ((a:Int)<0):=by lia
   have n2:¬ ((b:Int)<0):=by lia
   have ex1:max (0:Int) (min (a:Int) (x.length:Int))=a:=by lia
   have ex2:max (0:Int) (min (b:Int) (x.length:Int))=b:=by lia
   simp only[cH,n1,n2,if_false,ex1,ex2,show((1:Int) > 0)=True from by simp,if_true,sliceRange]
   rw[if_neg (by lia)]
   simp
  rw[e]
  split
  ·rename_i h
   have hz:0=x.length:=by simpa using h
   lia
  ·rw[show b - a=0 by lia,jq]
   rfl
section
variable {X:Cx}
theorem sl_str:SlR X (fun x lo hi H Q=>∃ z,x=.str z/\z.length<=aZ/\Q (.str (mkS (zc1 z.cps.toList lo hi))) H):=by
 intro pins s σ H x v vl vu lo hi sl Q I rx hs pl pu h
 obtain⟨z,rfl,hz,q⟩:=h
 obtain⟨t,rfl⟩:=rx
 obtain⟨o,ho,hc,hd⟩:=hs
 refine⟨"str",_,gq.lookup,typeIs_str _ _ _,?_⟩
 have fin:∀ t' k,EP X pins σ Q (.str (jv z lo hi) t') { s with toks:=k}:=fun t' k=>⟨.str _,H,I.tok k,⟨t',rfl⟩,by rw[slice_cut];exact q⟩
 cases pl with
 | none=>
  cases pu with
  | none=>exact wpAny_getItem_str_slice (l:=ab) (u:=ab) (st:=ab) ⟨o,ho,hc,hd⟩ rfl (post_val_or_str ⟨aL (gr z _ _) hz,fin⟩)
  | int j u=>exact wpAny_getItem_str_slice (l:=ab) (u:=aa (j,u)) (st:=ab) ⟨o,ho,hc,hd⟩ rfl (post_val_or_str ⟨aL (gr z _ _) hz,fin⟩)
 | int i u=>
  cases pu with
  | none=>exact wpAny_getItem_str_slice (l:=aa (i,u)) (u:=ab) (st:=ab) ⟨o,ho,hc,hd⟩ rfl (post_val_or_str ⟨aL (gr z _ _) hz,fin⟩)
  | int j u'=>exact wpAny_getItem_str_slice (l:=aa (i,u)) (u:=aa (j,u')) (st:=ab) ⟨o,ho,hc,hd⟩ rfl (post_val_or_str ⟨aL (gr z _ _) hz,fin⟩)
noncomputable def zex:Ent->Option Int->Option Int->Option Ent:=fun x lo hi=>(sOf x).bind fun z=>gif (sz z.length) (aa (.val (.str (mkS (zc1 z.cps.toList lo hi)))))
theorem zfI:SlD X zex:=⟨_,sl_str,fun H0 F H x lo hi e res Q fh hh rx q k=>by
 obtain⟨z,q1,q⟩:=bind_some q
 obtain⟨hl,qz⟩:=zbi q
 cases qz
 cases zbt q1
 exact⟨z,zb6 rx,zdE hl,k _ F H (Ex.refl fh) (.str _)⟩⟩
theorem zf0{z:Str}:∀ {acc:List ae} {k:Nat},(∀ j v,acc[j]? = aa v->SignAt z (k+j) v)->Vals (((z.cps.toList.drop k).take acc.length).map fun c=>V.str ⟨#[c]⟩) acc
 | [],k,_=>by simp;exact .nil
 | v :: r,k,h=>by
  obtain⟨c,u,hc,rfl⟩:=h 0 v rfl
  have hk:k<z.cps.toList.length:=by
   have:=(fQ.mp hc).1
   simpa using this
  rw[bQ hk,aQ,ig,ay]
  have e:z.cps.toList[k]=c:=by
   have:=fQ.mp hc
   simpa using this.2
  rw[e]
  refine .cons ⟨u,rfl⟩ (zf0 (k:=k+1) fun j v hv=>?_)
  have:=h (j+1) v (by simpa using hv)
  rwa [show k+(j+1)=k+1+j by lia] at this
theorem vals_all{z:Str}{acc:Array ae}(h:ItemsOf (SignAt z) acc z.cps.size):Vals ((sgn z).map V.str) acc.toList:=by
 obtain⟨h1,h2⟩:=h
 have:=zf0 (z:=z) (acc:=acc.toList) (k:=0) (fun j v e=>by rw[bq];exact h2 j v (by simpa using e))
 rw[fG,show acc.toList.length=z.cps.toList.length by simpa using h1,eR] at this
 unfold sgn
 rw[cK]
 exact this
theorem call_tupS(hc:X.calm=true):zec X (.type "tuple") (fun xs H Q=>∃ z,xs=[.str z]/\z.length<=1000000/\∀ p,H p=ab->Q (.ref p) (upd H p (.tup ((sgn z).map V.str)))):=by
 intro pins s σ H xs us Q I r h
 obtain⟨z,rfl,hz,q⟩:=h
 obtain⟨u,rfl,t,rfl⟩:=zfF r
 refine call_tuple_str (I.ok.hd hc) z t (fun h' tk acc kp ha=>?_) (zdE hz)
 have I1:=I.kept (t':=tk) kp
 refine⟨.ref h'.objs.size,_,I1.laid (t':=tk) (o:=.tup ((sgn z).map V.str)) (fun b o e=>am _ e) (ai _) ⟨?_,acc.toList,vals_all ha,⟨_,aM _ rfl,rfl,0,by simp⟩⟩,rfl,q _ (I1.hok.fresh (ai _))⟩
 rw[aq]
 unfold sgn
 rw[aq]
 exact zdE hz
theorem zgX{F:Hp}:∀ (zs:List Str),Reps F (zs.map V.str) (zs.map D.str)
 | []=>.nil
 | z :: zs=>.cons (.str z) (zgX zs)
noncomputable def gTupS:List Ent->Option Ent
 | [x]=>(sOf x).bind fun z=>gif (sz z.length) (aa (.val (.tup ((sgn z).map .str))))
 | _=>ab
theorem c_tupS(hc:X.calm=true:=by rfl):zeW X (.type "tuple") gTupS:=⟨_,call_tupS hc,fun H0 F H vs es res Q fh hh r q k=>by
 obtain⟨x,rfl⟩:=zfu rfl (fun _ _ _=>rfl) q
 obtain⟨v,rfl,rz⟩:=zdv r
 obtain⟨z,q1,q⟩:=bind_some q
 obtain⟨hl,qz⟩:=zbi q
 cases qz
 cases zbt q1
 cases zb6 rz
 exact⟨z,rfl,hl,fun p hp=>k _ _ _ (Ex.alloc fh hp) (.tup zaj (zgX _))⟩⟩
end
def eBM(g:Ent->List Ent->Option Ent)(fo:FE)(fs:FA):FE:=fun δ=>(fo δ).bind fun x=>(fs δ).bind fun es=>g x es
structure MtD(X:Cx)(T:String)(name:Str)(g:Ent->List Ent->Option Ent):Prop where
 h:∃ id r,PlainAttrs T/\Slot T name id/\typeOf (.builtin id)=pure (.type "method_descriptor")/\MtR X id r /\
  (∀ (H0 F H:Hp) (x:V) (e:Ent) (es:List Ent) (res:Ent),Same F H->RepR X.K H0 F H x e->g e es=aa res->tyV X.K T x H) /\
  ∀ (H0 F H:Hp) (x:V) (vs:List V) (e:Ent) (es:List Ent) (res:Ent) (Q:VK),Same F H->Same H0 H->RepR X.K H0 F H x e->RepRs X.K H0 F H vs es->g e es=aa res->(∀ v F' H',Ex F H F' H'->RepR X.K H0 F' H' v res->Q v H')->r x vs H Q
section
variable {X:Cx}{T:String}{name:Str}{g:Ent->List Ent->Option Ent}{o e:Expr}{es:List Expr}{fo:FE}{fs:FA}{apos cpos:Pos}
theorem vbm(M:MtD X T name g)(ho:VE X o fo)(ha:VA X (e :: es) fs)(hbase:bU o name X.env (eval o X.env)=eval o X.env:=by rfl)(hl:decide ((e :: es).length+0+0<30)=true:=by rfl)(hline:(apos.endLine == cpos.line)=true:=by rfl)
  (h1:zam e=true:=by rfl) (h2:es.all zam=true:=by rfl):VE X (.Call (.Attribute o name apos) (e :: es) [] cpos) (eBM g fo fs):=by
 obtain⟨t,wo,mo⟩:=ho.h
 obtain⟨ta,wa,ma⟩:=ha.h
 obtain⟨id,r,pa,sl,ht,hm,hty,hsem⟩:=M.h
 refine⟨_,wbm pa sl ht hm wo wa hbase hl hline h1 h2,fun B F H σ δ res Q s q k=>?_⟩
 obtain⟨x,q1,q⟩:=bind_some q
 obtain⟨rs,q2,q⟩:=bind_some q
 refine mo B F H σ δ x _ s q1 fun v F1 H1 x1 r1=>⟨hty H F1 H1 v x rs res x1.fh r1 q,?_⟩
 refine ma B F1 H1 σ δ rs _ (s.ext x1) q2 fun vs F2 H2 x2 r2=>?_
 exact hsem H F2 H2 v vs x rs res Q x2.fh (x1.trans x2).hh (r1.ext x2) (r2.earlier x1.hh) q fun v' F' H' x3 r3=>k v' F' H' ((x1.trans x2).trans x3) r3
end
section
variable {X:Cx}
end
end L3

namespace L3
open PySem PySem.Spec PyProof.Rows L2
theorem len1{α:Type}{us:List α}(h:us.length=1):∃ a0,us=[a0]:=match us,h with
 | [a0],_=>⟨a0,rfl⟩
theorem zji{α:Type}{us:List α}(h:us.length=2):∃ a0 a1,us=[a0,a1]:=match us,h with
 | [a0,a1],_=>⟨a0,a1,rfl⟩
theorem len3{α:Type}{us:List α}(h:us.length=3):∃ a0 a1 a2,us=[a0,a1,a2]:=match us,h with
 | [a0,a1,a2],_=>⟨a0,a1,a2,rfl⟩
theorem len4{α:Type}{us:List α}(h:us.length=4):∃ a0 a1 a2 a3,us=[a0,a1,a2,a3]:=match us,h with
 | [a0,a1,a2,a3],_=>⟨a0,a1,a2,a3,rfl⟩
theorem len5{α:Type}{us:List α}(h:us.length=5):∃ a0 a1 a2 a3 a4,us=[a0,a1,a2,a3,a4]:=match us,h with
 | [a0,a1,a2,a3,a4],_=>⟨a0,a1,a2,a3,a4,rfl⟩
theorem len6{α:Type}{us:List α}(h:us.length=6):∃ a0 a1 a2 a3 a4 a5,us=[a0,a1,a2,a3,a4,a5]:=match us,h with
 | [a0,a1,a2,a3,a4,a5],_=>⟨a0,a1,a2,a3,a4,a5,rfl⟩
theorem len7{α:Type}{us:List α}(h:us.length=7):∃ a0 a1 a2 a3 a4 a5 a6,us=[a0,a1,a2,a3,a4,a5,a6]:=match us,h with
 | [a0,a1,a2,a3,a4,a5,a6],_=>⟨a0,a1,a2,a3,a4,a5,a6,rfl⟩
structure FunA(K:ag)(x qual:Str)(st:Stmt)(f:af)(fd:bD):Prop where
 ex:∃ (oc:ae) (od:Option af) (dV kV doc pm:ae) (an:Option af) (cdv ct:ae) (osl:Array (Option ae)),
  fd=aK x qual (zai st) (zag st) (zad st) dV kV doc pm an cdv ct/\K.lookup f=aa ⟨oc,od,.func fd,osl⟩/\aG K cdv qual=true
 kp:aB K (.ref f)=true
theorem FunA.of{K:ag}{x qual:Str}{st:Stmt}{f:af}{fd:bD}(F:Fun K x qual st f fd):FunA K x qual st f fd:=
 let⟨oc,od,kV,doc,pm,an,cdv,ct,osl,e,l,c⟩:=F.ex;⟨⟨oc,od,.none,kV,doc,pm,an,cdv,ct,osl,e,l,c⟩,F.kp⟩
section
variable {P:aR}{w:aU}{K:ag}{mg:Str->Option ae}{base:ba}{x qual:Str}{st:Stmt}{f:af}{fd:bD}{N ps:List Str}{k:Nat}{ks:List Kd}{g:List D->Option Ent}
theorem zaY(F:FunA K x qual st f fd)(S:FnScope N ps (zad st))(fb:FS)(hk:ks.length=ps.length)(hg:∀ ds r,g ds=aa r->zcL ks (N.length - ps.length) fb ds=aa r)
  (hbody:∀ (cdv:ae) (A:a9) (outer:List Env) (s:ah) (H:Hp) (E:XK),Room k (A.deeper (envOfC qual (zad st) s.heap.objs.size f cdv))->VSs (cxOf CX0 P w K mg base N qual (zad st) f cdv A outer s H E).nox (zag st) fb) :
  FnOk P w K mg base CX0 (k+1) f fd ps (spD K ks g):=by
 obtain⟨oc,od,dV,kV,doc,pm,an,cdv,ct,osl,rfl,lk,hcd⟩:=F.ex
 refine fn_of lk hcd S (fun vs H Q E h=>?_) fun A outer s H vs Q E hr h=>?_
 ·obtain⟨F,ds,r,_,a,_⟩:=h
  rw[a.length,hk]
 ·obtain⟨F,ds,r,fh,a,q,kk⟩:=h
  obtain⟨t,wt,m⟩:=(hbody cdv A outer s H E hr).h
  refine⟨t,wt.h.nox,?_⟩
  obtain⟨es,q1,q2⟩:=bind_some (hg ds r q)
  obtain⟨out,q3,q4⟩:=bind_some q2
  obtain⟨hl,he⟩:=a.start q1
  have hvs:=a.length
  have hap:∀ (i:Nat) (e:Ent),(es ++ aD (N.length - ps.length) ab)[i]? = aa (aa e)->es[i]? = aa (aa e):=fun i e h=>by
   by_cases hi:i<es.length
   ·rwa [ca hi] at h
   ·rw[cN (by lia),eB] at h
    split at h <;> cases h
  have s0:RS K ⟨H,ab⟩ F H (L2.start N vs) (es ++ aD (N.length - ps.length) ab):=by
   refine⟨fh,Same.refl H,?_,fun i e h=>?_,fun a b l ds e hab h1=>?_,fun a b e1 e2 v1 v2 ad hab q1 _ _ _ q5 _ _=>?_,fun w o hw _=>by cases hw⟩
   ·unfold L2.start
    simp only[aP,aq,eW]
    lia
   ·obtain⟨⟨v,h1,h2⟩,_⟩:=he i e (hap i e h)
    refine⟨v,?_,h2⟩
    unfold L2.start
    rw[ca (by rw[aq];exact(aO.mp h1).1),ax,h1]
    rfl
   ·have:=(he a _ (hap a _ h1)).2.1
    cases this
   ·obtain⟨_,_,ho⟩:=he a _ (hap a _ q1)
    rw[ho] at q5
    cases q5
  refine m ⟨H,ab⟩ F H (L2.start N vs) _ out _ s0 q3 ?_
  cases out with
  | nx δ'=>cases q4;exact fun σ' F' H' s' y=>kk .non F' H' ⟨y.ff,s'.fh,s'.bh,y.nw⟩ .non
  | rt r' δ'=>cases q4;exact fun v σ' F' H' s' y z=>kk v F' H' ⟨y.ff,s'.fh,s'.bh,y.nw⟩ z
  | bk δ'=>cases q4
  | ct δ'=>cases q4
end
def gK{α:Type}(n:Nat)(us ws:List α):List α:=if us.length=n/\ws.length=1 then us ++ ws else []
theorem gK_shape{α:Type}{n m:Nat}{us ws:List α}(h:(gK n us ws).length=m+1):us.length=n/\ws.length=1/\gK n us ws=us ++ ws:=by
 unfold gK at h ⊢
 split at h
 ·rename_i hc;rw[if_pos hc];exact⟨hc.1,hc.2,rfl⟩
 ·cases h
theorem gK_rel{n:Nat}{vs:List V}{us:List ae}{zs:List V}{ws:List ae}(r:Vals vs us)(rz:Vals zs ws):Vals (gK n vs zs) (gK n us ws):=by
 unfold gK
 rw[r.length,rz.length]
 split
 ·exact r.append rz
 ·exact .nil
structure DefD(K:ag)(mg:Str->Option ae)(x:Str)(st:Stmt)(ps:List Str)(f:af)(fd:bD):Prop where
 fn:FunA K x x st f fd
 mg:mg x=aa (.ref f)
 b:Binds K fd ps []
 b1:Binds K fd ps [.bool false]
 kb:KBinds K fd ps [ps.getLastD ""] (gK (ps.length - 1)) (gK (ps.length - 1))
def DfOk(K:ag)(df:ae):Prop:=∃ (T:af) (o:Obj) (n:Nat),df=.ref T/\K.lookup T=aa o/\o.data=.seq #[.bool false] n
section
variable {X:Cx}{es:List Expr}{e d:Expr}{fs:FA}{fk:FE}{x:Str}{p pos kpos:Pos}{ks:List Kd}{g:List D->Option Ent}
def zhq(ks:List Kd)(g:List D->Option Ent)(fs:FA)(d:D):FE:=fun δ=>((fs δ).bind fun rs=>zbf ks (rs ++ [.val d])).bind g
theorem RepRs.snoc{K:ag}{H0 F H:Hp}{v:V}{e:Ent}(r:RepR K H0 F H v e):∀ {vs:List V} {es:List Ent},RepRs K H0 F H vs es->RepRs K H0 F H (vs ++ [v]) (es ++ [e])
 | _,_,.nil=>.cons r .nil
 | _,_,.cons h t=>.cons h (RepRs.snoc r t)
theorem vclF{CX:CXT}{k j:Nat}{f:af}{fd:bD}{ps:List Str}{st:Stmt}{E:XK}(F:FnOk X.prog X.w X.K X.mg X.base CX k f fd ps (spD X.K ks g))(D:DefD X.K X.mg x st ps f fd)(hr:Room j X.A)(hg:Gl X x)(hx:zcU CX X E)
  (ha:VA X (e :: es) fs) (hjk:k<=j:=by decide) (hdb:(x == ("__debug__" : Str))=false:=by decide) (h1:zam e=true:=by rfl) (h2:es.all zam=true:=by rfl) :
  VE X (.Call (.Name x p) (e :: es) [] pos) (zah ks g fs):=let⟨_,w,m⟩:=ha.h;⟨_,⟨zhT F (hr.mono hjk) hg D.mg D.fn.kp D.b .nil hx w.h hdb (zar h1) (zcv h2)⟩,.call m rfl⟩
theorem vclD{CX:CXT}{k j:Nat}{f:af}{fd:bD}{ps:List Str}{st:Stmt}{E:XK}(F:FnOk X.prog X.w X.K X.mg X.base CX k f fd ps (spD X.K ks g))(D:DefD X.K X.mg x st ps f fd)(hr:Room j X.A)(hg:Gl X x)(hx:zcU CX X E)
  (ha:VA X (e :: es) fs) (hjk:k<=j:=by decide) (hdb:(x == ("__debug__" : Str))=false:=by decide) (h1:zam e=true:=by rfl) (h2:es.all zam=true:=by rfl) :
  VE X (.Call (.Name x p) (e :: es) [] pos) (zhq ks g fs (.bl false)):=by
 obtain⟨t,w,m⟩:=ha.h
 refine⟨_,⟨zhT F (hr.mono hjk) hg D.mg D.fn.kp D.b1 (dvs:=[.bl false]) (.cons rfl .nil) hx w.h hdb (zar h1) (zcv h2)⟩,fun B F H σ δ res Q s q k=>?_⟩
 obtain⟨ds,q1,q⟩:=bind_some q
 obtain⟨rs,q2,q3⟩:=bind_some q1
 refine m B F H σ δ rs _ s q2 fun vs F1 H1 x1 r1=>?_
 have r2:=RepRs.snoc (K:=X.K) (H0:=H) (F:=F1) (H:=H1) (v:=.bl false) (e:=.val (.bl false)) (.bl false) r1
 obtain⟨F2,x2,_,a2⟩:=RepRs.args x1 (Same.refl _) r2 q3
 exact⟨F2,ds,res,x2.fh,a2,q,fun v F' H' x3 r3=>k v F' H' (x2.trans x3) (r3.earlier x2.hh)⟩
end
end L3

namespace L3
open PySem L2
theorem zaU{f g:FS}{δ δ':En}(h:f δ=aa (.nx δ')):zau f g δ=g δ':=by
 unfold zau;rw[h];rfl
theorem zjE{ft:FT}{f g:FS}{δ:En}(h:ft δ=aa true):fIf ft f g δ=f δ:=by unfold fIf;rw[h];rfl
theorem zgi{ft:FT}{f g:FS}{δ:En}(h:ft δ=aa false):fIf ft f g δ=g δ:=by unfold fIf;rw[h];rfl
theorem zbO{tg:FG}{f:FS}{d:D}{ds:List D}{δ δ1 δ2:En}(h1:tg d δ=aa δ1)(h2:f δ1=aa (.nx δ2)):loop tg f (d :: ds) δ=loop tg f ds δ2:=by
 show((tg d δ).bind fun δ1=>(f δ1).bind (lpO (loop tg f ds)))=_
 rw[h1]
 show(f δ1).bind (lpO (loop tg f ds))=_
 rw[h2]
 rfl
theorem zbI(I:Nat->En->Prop){tg:FG}{f:FS}:∀ (ds:List D) (k:Nat) (δ:En),
  (∀ i d δ,ds[i]? = aa d->I (k+i) δ->∃ δ1 δ2,tg d δ=aa δ1/\(f δ1=aa (.nx δ2) \/ f δ1=aa (.ct δ2))/\I (k+i+1) δ2)->I k δ ->
  ∃ δ',loop tg f ds δ=aa (.nx δ')/\I (k+ds.length) δ'
 | [],k,δ,_,h0=>⟨δ,rfl,h0⟩
 | d :: ds,k,δ,h,h0=>by
  obtain⟨δ1,δ2,h1,h2,h3⟩:=h 0 d δ rfl h0
  obtain⟨s',h4,h5⟩:=zbI I ds (k+1) δ2 (fun i d' s hd hi=>by
   have:=h (i+1) d' s (by simpa using hd) (by rw[show k+(i+1)=k+1+i by lia];exact hi)
   rwa [show k+(i+1)=k+1+i by lia] at this) h3
  refine⟨s',?_,by rw[aQ,show k+(ds.length+1)=k+1+ds.length by lia];exact h5⟩
  show((tg d δ).bind fun δ1=>(f δ1).bind (lpO (loop tg f ds)))=_
  rw[h1]
  show(f δ1).bind (lpO (loop tg f ds))=_
  rcases h2 with h2 | h2
  ·rw[h2];exact h4
  ·rw[h2];exact h4
theorem zg8{ft:D->Option Bool}{fe:D->Option Ent}(ds out:List D)(hl:out.length=ds.length)(h1:∀ d ∈ ds,ft d=aa true)(h2:∀ (i:Nat) (d:D),ds[i]? = aa d->∃ y,(fe d).bind asV=aa y/\out[i]? = aa y):zdj ft fe ds=aa out:=by
 induction ds generalizing out with
 | nil=>cases out with
  | nil=>rfl
  | cons _ _=>simp at hl
 | cons d ds ih=>
  cases out with
  | nil=>simp at hl
  | cons y out=>
   obtain⟨y',ex1,ex2⟩:=h2 0 d rfl
   cases ex2
   simp only[zdj]
   rw[h1 d aw,ex1,ih out (by simpa using hl) (fun x hx=>h1 x (al _ hx)) fun i x hx=>by simpa using h2 (i+1) x (by simpa using hx)]
   rfl
theorem zeM{fr:List Nat}{fi:FI}{ft:FT}{fe:FE}{δ:En}{ds out:List D}(hi:fi δ=aa ds)(hc:zdj (fun d=>ft (cEn fr δ d)) (fun d=>fe (cEn fr δ d)) ds=aa out)(hl:out.length<=1000000):eLC fr fi ft fe δ=aa (.own out):=by
 unfold eLC
 rw[hi]
 show(zdj _ _ ds).bind _=_
 rw[hc]
 show(if out.length<=1000000 then aa (Ent.own out) else ab)=_
 rw[if_pos hl]
theorem ixN_nat{n i:Nat}(h:i<n):ixN n (i:Int)=aa i:=by
 unfold ixN
 rw[if_pos (by lia),if_pos (by lia)]
 simp
theorem ziY{α:Type}{xs:List α}{i:Nat}{x:α}(h:xs[i]? = aa x):atI xs (i:Int)=aa x:=by
 unfold atI
 rw[ixN_nat (aO.mp h).1]
 exact h
theorem zgn{α:Type}{xs:List α}{i:Int}{x:α}(h0:0<=i)(h:xs[i.toNat]? = aa x):atI xs i=aa x:=by
 obtain⟨n,rfl⟩:=b7 h0
 exact ziY (by simpa using h)
theorem zef{α β:Type}(f:α->β)(d:α){xs:List α}{i:Int}(h0:0<=i)(h:i.toNat<xs.length):atI (xs.map f) i=aa (f (xs.getD i.toNat d)):=by
 refine zgn h0 ?_
 rw[ax,aF h]
 simp[h]
theorem atI_m1{α:Type}{xs:List α}{x:α}(h:xs.getLast? = aa x):atI xs (-1)=aa x:=by
 have hne:xs ≠ []:=by rintro rfl;simp at h
 have hl:0<xs.length:=List.length_pos_iff.mpr hne
 unfold atI ixN
 rw[if_neg (by lia),if_pos (by lia)]
 show xs[(-1+(xs.length:Int)).toNat]? = _
 rw[show(-1+(xs.length:Int)).toNat=xs.length - 1 by lia,<- f7]
 exact h
theorem cutG_to{α:Type}(xs:List α)(j:Nat):zc1 xs ab (aa (j:Int))=xs.take j:=by
 unfold zc1
 rw[HT.sIx_none,HT.sIx_nat,fG,dP]
 by_cases h:j<=xs.length
 ·rw[da h]
 ·rw[i6 (by lia),eR,cn (by lia)]
theorem cutG_from{α:Type}(xs:List α)(j:Nat):zc1 xs (aa (j:Int)) ab=xs.drop j:=by
 unfold zc1
 rw[HT.sIx_none,HT.sIx_nat]
 by_cases h:j<=xs.length
 ·rw[da h,cn (by rw[cC];lia)]
 ·rw[i6 (by lia),gk,eM (by lia)]
  simp
theorem zfc{α:Type}(xs:List α){j:Int}(h:0<=j):zc1 xs ab (aa j)=xs.take j.toNat:=by
 obtain⟨n,rfl⟩:=b7 h
 rw[cutG_to];simp
theorem zjn{α:Type}(xs:List α){j:Int}(h:0<=j):zc1 xs (aa j) ab=xs.drop j.toNat:=by
 obtain⟨n,rfl⟩:=b7 h
 rw[cutG_from];simp
theorem zi3{α:Type}(xs:List α)(lo hi:Option Int):(zc1 xs lo hi).length<=xs.length:=by
 unfold zc1
 rw[bv,cC]
 lia
theorem zik(a b:List Nat):mkS a ++ mkS b=mkS (a ++ b):=by
 show(⟨a.toArray ++ b.toArray⟩:Str)=⟨(a ++ b).toArray⟩
 simp
theorem mkS_inj{a b:List Nat}(h:mkS a=mkS b):a=b:=by
 have:=congrArg (fun z:Str=>z.cps.toList) h
 simpa [mkS] using this
theorem sgn_mkS(l:List Nat):sgn (mkS l)=l.map fun c=>mkS [c]:=by simp[sgn,mkS]
theorem zhk(zs:List Int):zhg (zs.map .int)=aa zs:=by
 induction zs with
 | nil=>rfl
 | cons z zs ih=>simp[zhg,isI,ih]
end L3

namespace L3
open PySem PySem.Spec PyProof.Rows L2
def flD:D->Bool
 | .non=>true
 | .bl _=>true
 | .int _=>true
 | .str _=>true
 | _=>false
def eqF:D->D->Bool
 | .non,.non=>true
 | .bl a,.bl b=>a == b
 | .bl a,.int b=>(if a then 1 else 0) == b
 | .int a,.bl b=>a == (if b then 1 else 0)
 | .int a,.int b=>a == b
 | .str a,.str b=>a == b
 | _,_=>false
theorem zip_two{α β:Type}{a a':List α}{b b':List β}(h:a.length=b.length)(h':a'.length=b'.length)(e:a.zip b=a'.zip b'):a=a'/\b=b':=by
 have e1:=congrArg (kW kX) e
 have e2:=congrArg (kW kU) e
 rw[i7 (by lia),i7 (by lia)] at e1
 rw[dW (by lia),dW (by lia)] at e2
 exact⟨e1,e2⟩
mutual
theorem Rep.det{F:Hp}:∀ {v:V} {d:D},Rep F v d->∀ {d':D},Rep F v d'->d=d'
 | _,_,.non,_,h=>by cases h;rfl
 | _,_,.bl _,_,h=>by cases h;rfl
 | _,_,.int _,_,h=>by cases h;rfl
 | _,_,.str _,_,h=>by cases h;rfl
 | _,_,.tup e r,_,h=>by
  cases h with
  | tup e' r'=>rw[e] at e';cases e';rw[Reps.det r r']
  | lst e' r'=>rw[e] at e';cases e'
  | dic e' l' r'=>rw[e] at e';cases e'
 | _,_,.lst e r,_,h=>by
  cases h with
  | tup e' r'=>rw[e] at e';cases e'
  | lst e' r'=>rw[e] at e';cases e';rw[Reps.det r r']
  | dic e' l' r'=>rw[e] at e';cases e'
 | _,_,.dic e l r,_,h=>by
  cases h with
  | tup e' r'=>rw[e] at e';cases e'
  | lst e' r'=>rw[e] at e';cases e'
  | dic e' l' r'=>
   rw[e] at e'
   obtain⟨h1,h2⟩:=zip_two (by rw[aq];exact l) (by rw[aq];exact l') (HO.dK.inj (HO.frz.inj (bf e')).2)
   subst h2
   rw[Reps.det r r',(List.map_inj_right (fun _ _ h=>iX h)).mp h1]
theorem Reps.det{F:Hp}:∀ {vs:List V} {ds:List D},Reps F vs ds->∀ {ds':List D},Reps F vs ds'->ds=ds'
 | _,_,.nil,_,h=>by cases h;rfl
 | _,_,.cons r t,_,h=>by
  cases h with
  | cons r' t'=>rw[Rep.det r r',Reps.det t t']
end
section
variable {X:Cx}{pins:List (af × Obj)}{s:ah}{σ:L2.St}{H F:Hp}
end
end L3

namespace L2
open PySem PySem.Spec PyProof.Rows
end L2
namespace L3
open PySem PySem.Spec PyProof.Rows L2
end L3
namespace L2
open PySem PySem.Spec PyProof.Rows
section
variable {prog:aR}{w:aU}{A:a9}{E:ae->ah->Prop}
theorem drawL{it l:af}{xs:Array ae}(hne:l ≠ it)(n:Nat):∀ (i:Nat) (s:ah) (Q:List ae->ah->Prop),s.heap.IsListIter it l i->s.heap.IsList l xs->i+n<=xs.size ->
  (∀ h',h'.IsListIter it l (i+n)->e9 it s.heap h'->Q ((xs.toList.drop i).take n) { s with heap:=h'})->aI (model prog w) A (draw (.ref it) n) Q E s:=by
 induction n with
 | zero=>exact fun i s Q hi _ _ k=>aE (by simpa using k s.heap hi (.refl ..))
 | succ n ih=>
  intro i s Q hi hl hle k
  have hx:xs[i]? = aa (xs[i]'(by lia)):=f9 (by lia)
  refine aj (wpAny_pyNext_list_item hi hl hx fun h1 i1 s1=>?_)
  refine aj (bT (ih (i+1) _ _ i1 (hl.extBut s1.extBut hne) (by lia) fun h2 i2 s2=>?_))
  refine aE ?_
  have z:=k h2 (by rw[show i+(n+1)=i+1+n by lia];exact i2) (s1.trans s2)
  rw[bQ (by simp;lia),ig] at z
  simpa using z
theorem unpackL{s:ah}{l:af}{xs:Array ae}{tgs:List (Bool × (ae->Sem Unit))}{Q:Unit->ah->Prop}(hh:A.handled=ab)(hl:s.heap.IsList l xs)(hn:tgs.length=xs.size)(hst:tgs.findIdx? (·.1)=ab)
  (k:∀ h',Heap.ExtBut s.heap.objs.size s.heap h'->aI (model prog w) A (assignInOrder (tgs.map (·.2)) xs.toList) Q E { s with heap:=h'}):aI (model prog w) A (unpack (.ref l) tgs) Q E s:=by
 have hlt:l ≠ s.heap.objs.size:=let⟨_,ho,_⟩:=hl;bp (aN ho)
 unfold unpack
 rw[hn,hst]
 refine aj (bT ?_)
 unfold unpackItems
 refine aj ?_
 unfold notIterableAtAll
 refine aj (wpAny_specialOf hl.typeIs PySem.slot_list_iter.lookup (aE ?_))
 simp only[bG,if_false]
 refine aj (bT (wpAny_pyIter_list hl ?_))
 refine aj (bT (drawL hlt xs.size 0 _ _ ⟨_,aM _ rfl,rfl,rfl⟩ (hl.push _) (by lia) fun h1 i1 s1=>?_))
 have ha:List.take xs.size (List.drop 0 xs.toList)=xs.toList:=cn (by simp)
 rw[ha,if_neg (by simp)]
 refine aj (bT (wpAny_pyNext_list_end hh i1 ((hl.push _).extBut s1.extBut hlt) (by simp) fun h2 e2=>?_))
 simp only[Option.isSome_none,bG,if_false]
 exact aE (k h2 fun b o hb e=>e2 b o hb (s1.extBut b o hb (am _ e)))
end
def gLst(K:ag)(n:Nat)(t:TGs):TG:=fun v σ H Q=>∃ a xs,v=.ref a/\SqL K H a xs/\xs.length=n/\t xs σ H Q
theorem pg_lst{X:Cx}{pos:Pos}{es:List Expr}{k:Nat}{t:TGs}{n:Nat}(hc:X.calm=true)(h:PGs X es t)
  (hn:(bH es X.env).length=n) (hst:(bH es X.env).findIdx? (·.1)=ab):PG X (.Tuple es k pos) (gLst X.K n t):=fun pins s σ H v u Q I r hw=>by
 obtain⟨a,xs,rfl,hq,hl,hw⟩:=hw
 cases r
 obtain⟨its,rv,ht,hz⟩:=I.list hq
 rw[assign_Tuple]
 refine aj (wpAny_standAt (unpackL (I.ok.hd hc) ht.isList (by simp[hn,<- hl,rv.length]) hst fun h' hx=>?_))
 have I1:Inv X pins σ H { s with heap:=h'}:=I.kept (t':=s.toks) fun b o e=>hx b o (bp (aN e)) e
 exact h pins _ σ H xs _ Q I1 (by simpa using rv) hw
end L2
namespace L3
open PySem PySem.Spec PyProof.Rows L2
def gLs(gs:FGs):FG:=fun d δ=>match d with
 | .lst ds=>gs ds δ
 | _=>ab
theorem gl0:∀ (ds:List D) (δ δ':En),zd8 ds δ=aa δ'->ds.length=0:=fun ds δ δ' h=>by
 match ds,h with
 | [],_=>rfl
theorem gl1{g:FG}{gs:FGs}{n:Nat}(hn:∀ (ds:List D) (δ δ':En),gs ds δ=aa δ'->ds.length=n):∀ (ds:List D) (δ δ':En),za2 g gs ds δ=aa δ'->ds.length=n+1:=fun ds δ δ' h=>by
 match ds,h with
 | d :: ds,h=>
  obtain⟨δ1,_,q⟩:=bind_some (show(g d δ).bind (gs ds)=aa δ' from h)
  rw[aQ,hn ds δ1 δ' q]
theorem gls{X:Cx}{es:List Expr}{tgs:FGs}{pos:Pos}{k n:Nat}(hc:X.calm=true)(h:VGs X es tgs)(hn:(bH es X.env).length=n:=by rfl)(hst:(bH es X.env).findIdx? (·.1)=ab:=by rfl)(hl:∀ ds δ δ',tgs ds δ=aa δ'->ds.length=n:=by intro ds δ δ' h;match ds,h with | [_],_=>rfl | [_,_],_=>rfl | [_,_,_],_=>rfl | [_,_,_,_],_=>rfl) :
  VG X (.Tuple es k pos) (gLs tgs):=by
 obtain⟨t,w,m⟩:=h.h
 refine⟨_,⟨pg_lst hc w.h hn hst⟩,fun B F H σ δ δ' v d Q s r q k=>?_⟩
 cases d with
 | lst ds=>
  cases r with
  | lst e rs=>exact⟨_,_,rfl,SqL.of (s.fh _ _ e),by rw[rs.length];exact hl _ _ _ q,m B F H σ δ δ' _ ds _ s rs q k⟩
 | _=>cases q
end L3

namespace TS
open PySem
end TS
namespace TS
open PySem
def bt(w:aU):Bool:=w.params.followText "set-order"
def txt:ae->Str
 | .str z _=>z
 | _=> ""
structure IsS(w:aU)(h:ba)(a:af)(zs:List Str):Prop where
 ex:∃ (o:Obj) (es:Array (Int × ae)) (ep:Nat) (t:SetTable),h.get? a=aa o/\o.ExactSet/\o.data=.set es ep t/\(∀ e ∈ es.toList,∃ z u,e=(hashStr w z,fI z u))/\t.fits es.size=true/\t.led=!bt w/\(es.size ≠ 0->t.plain=false)/\(es.toList.map fun e=>txt e.2).Perm zs
 nd:zs.Nodup
variable {prog:aR}{w:aU}{A:a9}{E:ae->ah->Prop}{s:ah}{a:af}{zs:List Str}
theorem IsS.mono{h h':ba}(i:IsS w h a zs)(k:∀ o,h.get? a=aa o->h'.get? a=aa o):IsS w h' a zs:=
 let⟨o,es,ep,t,go,r⟩:=i.ex;⟨⟨o,es,ep,t,k o go,r⟩,i.nd⟩
def put(zs:List Str)(z:Str):List Str:=if z ∈ zs then zs else zs ++ [z]
end TS
namespace TS
open PySem PyProof.Rows
section
variable {prog:aR}{w:aU}{A:a9}{R:Result->ah->Prop}{I:af}{fp wr:List af}{G:Array GenState->Array GenState->Prop}{n:Nat}{P:Nat->ae->Prop}{St:Nat->ah->Prop}
end
end TS
namespace TS
open PySem PyProof.Rows
section
variable {prog:aR}{w:aU}{A:a9}{E:ae->ah->Prop}{s:ah}
def new(w:aU):Obj:={ cls:=.type "set",dict:=ab,data:=.set #[] 0 (.fresh 0 0 (!bt w))}
end
end TS
namespace TS
open PySem PyProof.Rows
namespace Fx
end Fx
section
variable {prog:aR}{w:aU}{A:a9}{E:ae->ah->Prop}{s:ah}
structure LeftS(w:aU)(s:ah)(zs:List Str)(s2:ah):Prop where
 is:IsS w s2.heap s.heap.objs.size zs
 old:∀ b o,b<s.heap.objs.size->s.heap.get? b=aa o->s2.heap.get? b=aa o
 sh:∃ h' tk,s2={ s with heap:=h',toks:=tk}
end
end TS
namespace TS
open PySem PyProof.Rows
section
variable {prog:aR}{w:aU}{A:a9}{E:ae->ah->Prop}
theorem ch{src:Source}{n:Nat}{s:ah}{Q:Nat->ah->Prop}(hn:n ≠ 0)(k:∀ i d,i<n->Q i { s with drawn:=d}):aI (model prog w) A (choose src n) Q E s:=fun Γ p _=>by
 unfold choose
 rw[Sem.wp_choose]
 exact⟨hn,by rw[Sem.wp_pure];exact k _ _ (Nat.mod_lt _ (Nat.pos_of_ne_zero hn))⟩
end
namespace Fx
theorem next_slot:Slot "set_iterator" "__next__" "set_iterator.__next__" :=.of (owner:= "set_iterator") (n:= "__next__") (by rw[typeLookup_type,builtinLookup_eq_fast];kernel_rfl) (by decide +kernel) (by decide +kernel) (by decide +kernel) (by first | exact .inl (by decide +kernel) | exact .inr (by decide +kernel)) (by rw[isSubtype_type];kernel_rfl)
end Fx
end TS
namespace TS
open PySem PyProof.Rows
def itO(f0:ae)(i:Nat)(a:af)(n ep:Nat):Obj:={ cls:=.type "set_iterator",data:=.fields #[f0,rawInt i,.ref a,rawInt n,rawInt ep]}
section
variable {prog:aR}{w:aU}{A:a9}{E:ae->ah->Prop}{s:ah}{I a:af}{o:Obj}{es:Array (Int × ae)}{ep:Nat}{t:SetTable}
theorem stop{B:a9}{α:Type}(hh:B.handled=ab){R:α->ah->Prop}{E':ae->ah->Prop}(k:∀ e h',(∀ b o,s.heap.get? b=aa o->h'.get? b=aa o)->Shared.TypeIs { s with heap:=h'} e "StopIteration" -> E' e { s with heap:=h'}) :
  aI (model prog w) B (newExc (.type "StopIteration") [] >>= fun e=>raiseNew e) R E' s:=by
 refine aj ?_
 simp only[newExc,newTuple]
 refine aj (wpAny_newObj_type ?_ (by size_fits))
 refine aj (m:=firstArgMember _ _) (wpAny_of_eq (a:=g6) (by first | rfl | (simp only[firstArgMember];rfl)) (wpAny_newObj_type ?_ (by size_fits)))
 simp only[raiseNew]
 refine aj (wpAny_handled ?_)
 rw[hh]
 refine aj (aE (wpAny_throw ?_))
 exact k _ _ (fun b o e=>am _ (am _ e)) ⟨_,aM _ rfl,rfl⟩
end
end TS
namespace TS
open PySem PyProof.Rows
namespace Fx
theorem self_slot:Slot "set_iterator" "__iter__" "set_iterator.__iter__" :=.of (owner:= "set_iterator") (n:= "__iter__") (by rw[typeLookup_type,builtinLookup_eq_fast];kernel_rfl) (by decide +kernel) (by decide +kernel) (by decide +kernel) (by first | exact .inl (by decide +kernel) | exact .inr (by decide +kernel)) (by rw[isSubtype_type];kernel_rfl)
theorem self_of:entryFor table "set_iterator.__iter__" = aa Builtin.«dict_keyiterator.__iter__» :=entryFor_alias (id':= "dict_keyiterator.__iter__") (by kernel_rfl) rfl (by decide +kernel) (by kernel_rfl)
theorem self_args(v:ae):argsOk "set_iterator.__iter__" ⟨[v],[]⟩:=by unfold argsOk;kernel_rfl
end Fx
section
variable {prog:aR}{w:aU}{A:a9}{E:ae->ah->Prop}{s:ah}{I a:af}{o:Obj}{es:Array (Int × ae)}{ep:Nat}{t:SetTable}
theorem self{f0:ae}{i n:Nat}{Q:ae->ah->Prop}(hI:s.heap.get? I=aa (itO f0 i a n ep))(k:Q (.ref I) s):aI (model prog w) A (pyIter (.ref I)) Q E s:=by
 have ty:s.TypeIs (.ref I) "set_iterator" :=⟨_,hI,rfl⟩
 refine wpAny_pyIter_slot ty Fx.self_slot (wpAny_call_entry Fx.self_slot ty Fx.self_of ?_ (Fx.self_args _))
 show aI _ _ (ret (.ref I)) _ _ s
 exact aE ⟨_,rfl,"set_iterator",_,ty,Fx.next_slot.lookup,k⟩
end
end TS
namespace TS
open PySem PyProof.Rows
section
variable {prog:aR}{w:aU}{A:a9}{E:ae->ah->Prop}{s:ah}{a:af}{o:Obj}{es:Array (Int × ae)}{ep:Nat}{t:SetTable}
end
end TS
namespace TS
open PySem PyProof.Rows
section
variable {prog:aR}{w:aU}{A:a9}{E:ae->ah->Prop}{s:ah}{a:af}{o:Obj}{es:Array (Int × ae)}{ep:Nat}{t:SetTable}
theorem _root_.PySem.Walks.weak{I:af}{fp wr:List af}{n:Nat}{P P':Nat->ae->Prop}{St:Nat->ba->Prop}(W:Walks prog w A I fp wr n P St)(h:∀ i v,i<n->P i v->P' i v):Walks prog w A I fp wr n P' St:=
 ⟨W.sub,W.frame,fun i s Q E hi st k=>W.item i s Q E hi st fun v h' tk p=>k v h' tk (h i v hi p),W.done,W.self⟩
structure WkS(prog:aR)(w:aU)(a n0:Nat)(zs:List Str)(I:af)(h:ba):Prop where
 ex:∃ (ys:List Str) (fp:List af) (St:Nat->ba->Prop),ys.Perm zs/\I ∈ fp/\(∀ b ∈ fp,b<h.objs.size/\(b=a \/ n0<=b))/\St 0 h/\∀ B:a9,B.handled=ab->Walks prog w B I fp [I] ys.length (fun i v=>∃ u,v=fI (ys.getD i "") u) St
theorem WkS.of{n0:Nat}{zs:List Str}{I:af}{h:ba}{ord:Array (Int × ae)}{fp:List af}{St:Nat->ba->Prop}(hp:ord.toList.Perm es.toList)(ge:∀ e ∈ es.toList,∃ z u,e=(hashStr w z,fI z u))(gm:(es.toList.map fun e=>txt e.2).Perm zs)
  (hI:I ∈ fp) (hb:∀ b ∈ fp,b<h.objs.size/\(b=a \/ n0<=b)) (st:St 0 h) (W:∀ B:a9,B.handled=ab->Walks prog w B I fp [I] es.size (fun i v=>v=(ord.getD i (0,.none)).2) St):WkS prog w a n0 zs I h:=by
 have hl:ord.size=es.size:=by simpa using hp.length_eq
 refine⟨ord.toList.map fun e=>txt e.2,fp,St,(hp.map _).trans gm,hI,hb,st,fun B hB=>?_⟩
 rw[aq,aC,hl]
 refine(W B hB).weak fun i v hi e=>?_
 have hi':i<ord.size:=by lia
 obtain⟨z,u,hz⟩:=ge ord[i] (hp.mem_iff.mp (by simp))
 subst e
 refine⟨u,?_⟩
 simp[hi',hz,txt]
end
end TS
namespace TS
open PySem PyProof.Rows
namespace Fx
end Fx
section
variable {prog:aR}{w:aU}{A:a9}{E:ae->ah->Prop}{s:ah}{a:af}{zs:List Str}
end
end TS
namespace TS
open PySem PyProof.Rows
section
variable {prog:aR}{w:aU}{A:a9}{E:ae->ah->Prop}{s:ah}{a:af}{zs:List Str}
end
end TS
namespace TS
open PySem PySem.Spec PyProof.Rows
theorem lt_trans:∀ (a b c:List Nat),ltCps b a=false->ltCps c b=false->ltCps c a=false
 | [],_,[],_,_=>rfl
 | [],[],_ :: _,_,_=>by simp[ltCps]
 | [],_ :: _,_ :: _,_,_=>by simp[ltCps]
 | _ :: _,[],_,h,_=>by cases h
 | _ :: _,_ :: _,[],_,h=>by cases h
 | a :: r,b :: t,c :: u,h1,h2=>by
  simp only[ltCps,Bool.or_eq_false_iff,decide_eq_false_iff_not,Bool.and_eq_false_imp,beq_iff_eq] at h1 h2 ⊢
  refine⟨by lia,fun e=>?_⟩
  have e1:b=a:=by lia
  have e2:c=b:=by lia
  exact lt_trans r t u (h1.2 e1) (h2.2 e2)
def le(a b:Str):Prop:=ltCps b.cps.toList a.cps.toList=false
open Classical in
noncomputable def srt(zs:List Str):List Str:=if h:∃ ss:List Str,ss.Pairwise le/\ss.Perm zs then h.choose else []
end TS
namespace L2
open PySem PySem.Spec PyProof.Rows TS
theorem Inv.drawn{X:Cx}{pins:List (af × Obj)}{σ:List (Option V)}{H:Hp}{s s1:ah}(I:Inv X pins σ H s)(eh:∀ b o,s.heap.get? b=aa o->s1.heap.get? b=aa o)(eg:s1.gens=s.gens)(eo:s1.os=s.os):Inv X pins σ H s1:=by
 obtain⟨h,g,d,tk,os⟩:=s1
 have eg':g=s.gens:=eg
 have eo':os=s.os:=eo
 subst eg' eo'
 have J:Inv X pins σ H { s with heap:=h,toks:=tk}:=I.kept (t':=tk) eh
 exact⟨J.ok,J.os,J.bare,J.base,J.loc,J.cell,J.free,J.freeC,J.pin,J.hok,J.len⟩
end L2
namespace L2
open PySem PySem.Spec PyProof.Rows TS
section
variable {X:Cx}{e:Expr}{t:TE}{p p1 pos pos1:Pos}
def one(R:V->Hp->Prop):List V->Hp->Prop:=fun xs H=>match xs with
 | [x]=>R x H
 | _=>False
theorem ziv{R:V->Hp->Prop}{xs:List V}{H:Hp}(h:one R xs H):∃ x,xs=[x]/\R x H:=by
 match xs,h with
 | [x],h=>exact⟨x,rfl,h⟩
end
end L2
namespace L3
open PySem PySem.Spec PyProof.Rows L2 TS
section
variable {X:Cx}{e:Expr}{fe:FE}{p p1 pos pos1:Pos}
end
end L3

namespace L2
open PySem PySem.Spec PyProof.Rows
def SqQ(K:ag):Bool->Hp->af->List V->Prop
 | true=>SqT K
 | false=>SqL K
def SIt:Bool->ba->af->af->Nat->Prop
 | true,h,it,a,i=>h.IsTupleIter it a i
 | false,h,it,a,i=>h.IsListIter it a i
def QAt:Bool->ba->af->Array ae->Prop
 | true,h,a,xs=>h.IsTuple a xs
 | false,h,a,xs=>h.IsList a xs
def itN:Bool->String
 | true=> "tuple_iterator"
 | false=> "list_iterator"
theorem SIt.out{k:Bool}{h:ba}{it a:af}{i:Nat}(st:SIt k h it a i):∃ o,h.get? it=aa o/\o.cls=.type (itN k)/\o.data=.fields #[.ref a,.int i 0]:=by cases k <;> exact st
theorem SIt.mk{k:Bool}{h:ba}{it a:af}{i:Nat}(st:∃ o,h.get? it=aa o/\o.cls=.type (itN k)/\o.data=.fields #[.ref a,.int i 0]):SIt k h it a i:=by cases k <;> exact st
theorem SIt.at{k:Bool}{h h':ba}{it a:af}{i:Nat}(st:SIt k h it a i)(e:∀ o,h.get? it=aa o->h'.get? it=aa o):SIt k h' it a i:=by
 obtain⟨o,h1,h2⟩:=st.out
 exact .mk ⟨o,e o h1,h2⟩
theorem Inv.seqQ{X:Cx}{pins:List (af × Obj)}{σ:St}{H:Hp}{s:ah}{k:Bool}{a:af}{xs:List V}(I:Inv X pins σ H s)(h:SqQ X.K k H a xs):∃ its:List ae,Vals xs its/\QAt k s.heap a its.toArray:=by
 cases k with
 | true=>obtain⟨its,r,p,_⟩:=I.tuple h;exact⟨its,r,p⟩
 | false=>obtain⟨its,r,p,_⟩:=I.list h;exact⟨its,r,p.isList⟩
section
variable {prog:aR}{w:aU}{A:a9}{E:ae->ah->Prop}{s:ah}
end
section
variable {X:Cx}{A:a9}{pins:List (af × Obj)}{σ:St}{H:Hp}{s:ah}{E:ae->ah->Prop}{k k1 k2:Bool}{it a b z TI TO i1 i2:af}{i:Nat}{xs ys:List V}{x y:V}
structure ZSt(k1 k2:Bool)(z TI TO i1 i2 a b:af)(i:Nat)(f0:ae)(h:ba):Prop where
 hz:IsZip h z TI TO f0
 hi:IsPair h TI (.ref i1) (.ref i2)
 ho:∃ x y,IsPair h TO x y
 s1:SIt k1 h i1 a i
 s2:SIt k2 h i2 b i
structure ZNe(z TI TO i1 i2:af):Prop where
 n1:TI ≠ z
 n2:TO ≠ z
 n3:i1 ≠ z
 n4:i2 ≠ z
 n5:TI ≠ TO
 n6:TI ≠ i1
 n7:TI ≠ i2
 n8:TO ≠ i1
 n9:TO ≠ i2
 n10:i1 ≠ i2
theorem ZSt.keep{f0:ae}{h h':ba}(st:ZSt k1 k2 z TI TO i1 i2 a b i f0 h)(kk:∀ c ∈ [z,TI,TO,i1,i2],∀ o,h.get? c=aa o->h'.get? c=aa o):ZSt k1 k2 z TI TO i1 i2 a b i f0 h':=
 ⟨kk z (by simp) _ st.hz,kk TI (by simp) _ st.hi,let⟨x,y,e⟩:=st.ho;⟨x,y,kk TO (by simp) _ e⟩,st.s1.at fun o e=>kk i1 (by simp) o e,st.s2.at fun o e=>kk i2 (by simp) o e⟩
end
theorem QAt.push{k:Bool}{h:ba}{a:af}{xs:Array ae}(p:QAt k h a xs)(o:Obj):QAt k (h.push o) a xs:=by
 cases k with
 | true=>exact kP p o
 | false=>exact kY p o
end L2
namespace L3
open PySem PySem.Spec PyProof.Rows L2
def qOf:Ent->Option (List D)
 | .val (.lst ds)=>aa ds
 | .val (.tup ds)=>aa ds
 | .own ds=>aa ds
 | _=>ab
def qV(fe:FE):FI:=fun δ=>(fe δ).bind qOf
def Stays(K:ag)(B F:Hp)(v:V)(ds:List D):Prop:=∃ k a vs,v=.ref a/\(∀ F2 H2,Same F F2->Same F2 H2->Same B H2->SqQ K k H2 a vs)/\Reps F vs ds
def SemQ(K:ag)(t:TE)(f:FI):Prop:=∀ (B:Bd) (F H:Hp) (σ:Sg) (δ:En) (ds:List D) (Q:VK),RS K B F H σ δ->f δ=aa ds->(∀ v F' H',Ex F H F' H'->Stays K B F' v ds->Q v H')->t σ H Q
structure VQ(X:Cx)(e:Expr)(f:FI):Prop where
 h:∃ t,WE X e t/\SemQ X.K t f
section
variable {X:Cx}{e e':Expr}{fe:FE}{fa fb:FI}{p pos tpos:Pos}{x:Str}{es:List Expr}{n:Nat}
theorem zqv(h:VE X e fe):VQ X e (qV fe):=by
 obtain⟨t,w,m⟩:=h.h
 refine⟨_,w,fun B F H σ δ ds Q s q k=>?_⟩
 obtain⟨r,q1,q⟩:=bind_some q
 refine m B F H σ δ r _ s q1 fun v F1 H1 x1 r1=>?_
 unfold qOf at q
 split at q
 ·cases q
  cases (show Rep F1 v (.lst ds) from r1) with
  | lst e rs=>exact k _ F1 H1 x1 ⟨false,_,_,rfl,fun F2 H2 a b _=>SqL.of (b _ _ (a _ _ e)),rs⟩
 ·cases q
  cases (show Rep F1 v (.tup ds) from r1) with
  | tup e rs=>exact k _ F1 H1 x1 ⟨true,_,_,rfl,fun F2 H2 a b _=>SqT.of (b _ _ (a _ _ e)),rs⟩
 ·cases q
  obtain⟨F2,x2,_,r2⟩:=RepR.frz x1 (Same.refl _) r1 rfl
  cases r2 with
  | lst e rs=>exact k _ F2 H1 x2 ⟨false,_,_,rfl,fun F3 H3 a b _=>SqL.of (b _ _ (a _ _ e)),rs⟩
 ·cases q
end
end L3

namespace L2
open PySem PySem.Spec PyProof.Rows
def Itq(K:ag):Bool->af->It
 | true=>Itt K
 | false=>Itl K
def iSq(K:ag)(tl:TE):TI:=fun σ H R=>tl σ H fun x H1=>∃ k a,x=.ref a/\(∃ xs,SqQ K k H1 a xs)/\R (Itq K k a) H1
theorem pi_seq{X:Cx}{tg l:Expr}{tl:TE}(hl:PE X l tl):PI X tg l (iSq X.K tl):=by
 intro pins s σ H R I h
 refine thn (hl pins s σ H _ I h) fun v s1 ⟨x,H1,I1,r1,q1⟩=>?_
 obtain⟨k,a,e,⟨xs,hq⟩,q⟩:=q1
 subst e
 cases r1
 have fp:∀ b ∈ [s1.heap.objs.size],zi5 X pins H1 b:=fun b hb=>by
  cases a7.mp hb
  exact I1.fpOk (ai _) (I1.hok.fresh (ai _))
 obtain⟨its,rv,p⟩:=I1.seqQ hq
 cases k with
 | true=>exact wpAny_pyIter_tuple p ⟨s1.heap.objs.size,[s1.heap.objs.size],_,_,H1,rfl,I1.kept (t':=s1.toks) fun b o e=>am _ e,zfK a _,⟨_,aM _ rfl,rfl,rfl⟩,fp,q⟩
 | false=>exact wpAny_pyIter_list p ⟨s1.heap.objs.size,[s1.heap.objs.size],_,_,H1,rfl,I1.kept (t':=s1.toks) fun b o e=>am _ e,zhu a _,⟨_,aM _ rfl,rfl,rfl⟩,fp,q⟩
end L2
namespace L3
open PySem PySem.Spec PyProof.Rows L2
theorem itOk_seq{K:ag}{B F0:Hp}{k:Bool}{a:af}{vs:List V}{ds:List D}(h:∀ F H,Same F0 F->Same F H->Same B H->SqQ K k H a vs)(r:Reps F0 vs ds):ItOk B F0 (Itq K k a) ds:=by
 cases k with
 | false=>exact zeu h r
 | true=>
  intro F H s1 s2 s3
  have hq:SqT K H a vs:=h F H s1 s2 s3
  refine⟨⟨vs,hq,by rw[r.length];exact ai _⟩,fun i d e=>?_⟩
  obtain⟨v,h1,h2⟩:=r.get e
  refine⟨⟨vs,v,hq,h1⟩,fun x H' y=>?_⟩
  obtain⟨e',y⟩:=y
  subst e'
  have z:=y vs hq
  rw[h1] at z
  cases z
  exact⟨F,Ex.refl s2,Rep.mono s1 h2⟩
theorem iiq{X:Cx}{tg e:Expr}{fe:FE}(h:VE X e fe):VI X tg e (qV fe):=by
 obtain⟨t,w,m⟩:=(zqv h).h
 exact⟨_,⟨pi_seq w.h⟩,fun B F H σ δ ds R s q k=>m B F H σ δ ds _ s q fun v F1 H1 x1 ⟨kk,a,vs,e,p,r⟩=>⟨kk,a,e,⟨vs,p F1 H1 (Same.refl _) x1.fh (s.bh.trans x1.hh)⟩,k _ F1 H1 x1 (itOk_seq p r)⟩⟩
end L3
namespace L2
open PySem PySem.Spec PyProof.Rows
section
variable {X:Cx}
def FstAt(vs:List V)(y:V)(j:Nat):Prop:=(∃ v,vs[j]? = aa v/\eqV v y=true)/\∀ m v,m<j->vs[m]? = aa v->eqV v y=false
end
end L2
namespace L3
open PySem PySem.Spec PyProof.Rows L2
def idxD(ds:List D)(d:D):Option Ent:=if (flD d && ds.all flD)=true then (ds.findIdx? fun e=>eqF e d).map fun(j:Nat)=>Ent.val (.int (j:Int)) else ab
def vOf:Ent->Option D
 | .val d=>aa d
 | _=>ab
def gIdxT:Ent->List Ent->Option Ent
 | x,[y]=>(zei x).bind fun ds=>(vOf y).bind fun d=>idxD ds d
 | _,_=>ab
end L3
namespace L2
open PySem PySem.Spec PyProof.Rows
open PySem.AutoSeq1 (wpAny_loadPart')
open PySem.MeetsSeq PySem.MeetsSeq2 PySem.MeetsSeq3
theorem wp_rng{M:Model}{A:a9}{E:ae->ah->Prop}{s:ah}{β:Type}(f:Nat->β->Sem (ForInStep β))(I:List Nat->β->ah->Prop)(Q:β->ah->Prop)
  (turn:∀ x rest b s,I (x :: rest) b s->aI M A (f x b) (fun r s'=>match r with | .yield b'=>I rest b' s' | .done b'=>Q b' s') E s)
  (fin:∀ b s,I [] b s->Q b s) (n:Nat) (b:β) (h:I (dG 0 n) b s):aI M A (forIn [0:n] b f) Q E s:=by
 rw[ii]
 exact wpAny_forIn_list f I Q turn fin _ b (by simpa using h)
theorem tup_index(l:af)(items:Array ae)(n:Nat)(dd:Option af)(sl:Array (Option ae))(x:ae)(e:ae->Bool)(j:Nat)(hj:j<items.size)(hit:e items[j]=true)(hno:∀ m (hm:m<items.size),m<j->e items[m]=false) :
  Meets (Builtin.«tuple.index» ⟨[.ref l,x],[]⟩)
   (fun A R s=>s.heap.get? l=aa { cls:=.type "tuple",dict:=dd,data:=.seq items n,slots:=sl}/\(∀ y,y ∈ items->jc A.in1 s y x (e y))/\R (.ok (.ret (.int j s.toks))) { s with toks:=s.toks+1}):=
 .of_wp fun prog w A R s h=>by
  obtain⟨hp,g,d,tk,os⟩:=s
  obtain⟨hl,he,h⟩:=h
  wp_walk using wpAny_loadPart' hl,wp_rng _ (fun rest b s'=>b.1=ab/\s'=⟨hp,g,d,tk,os⟩/\∃ k,k<=j/\rest=dG k (items.size - k)) _
  case turn=>
   rintro y rest b s' ⟨hb,rfl,k,hk,hr⟩
   rw[show items.size - k=items.size - (k+1)+1 by lia,List.range'_succ] at hr
   injection hr with e1 e2
   subst e1 e2
   have hi:items[y]? = aa (items[y]'(by lia)):=f9 (by lia)
   rw[hi]
   refine aj (he _ (bu _) prog w _ _ ?_)
   by_cases hyj:y=j
   ·subst hyj
    rw[hit]
    wp_walk
    exact⟨_,rfl,h⟩
   ·rw[hno y (by lia) (by lia)]
    wp_walk
    exact⟨rfl,rfl,y+1,by lia,rfl⟩
  case fin=>
   rintro b s' ⟨hb,rfl,k,hk,hr⟩
   have:=congrArg eJ hr
   simp at this
   lia
  all_goals exact⟨rfl,rfl,0,aS _,by simp⟩
section
variable {X:Cx}
theorem mt_idxT:MtR X "tuple.index" (fun x xs H Q=>∃ (p:af) (vs:List V) (y:V) (j:Nat),x=.ref p/\xs=[y]/\SqT X.K H p vs/\zft y=true/\vs.all zft=true/\FstAt vs y j/\Q (.int j) H):=by
 intro pins s σ H x xs v us Q I rx r h
 obtain⟨p,vs,y,j,rfl,rfl,hq,fy,fv,⟨⟨v0,hv,he⟩,hno⟩,q⟩:=h
 cases rx
 obtain⟨u,rfl,ru⟩:=zfF r
 obtain⟨its,r',pl,hz⟩:=I.tuple hq
 obtain⟨⟨cls,dd,data,sl⟩,ho,hc,n,hd⟩:=pl
 simp only at hc hd
 subst hc hd
 have hlen:=r'.length
 have flat:∀ m v,vs[m]? = aa v->zft v=true:=fun m v e=>cD.mp fv v (cg e)
 have hj:j<vs.length:=(aO.mp hv).1
 have ans:∀ m (hm:m<its.toArray.size) v,vs[m]? = aa v->eqU y its.toArray[m]=eqV v y:=fun m hm v e=>by
  obtain⟨u',e1,e2⟩:=r'.get e
  have e3:its.toArray[m]=u':=by
   have:=aO.mp e1
   simpa using this.2
  rw[e3]
  exact eqU_of e2 (flat m v e)
 refine call_meets gu ⟨_,ho,rfl⟩ PySem.F.entry_tuple_index (PySem.F.args_tuple_index_2 _ _)
  (tup_index p its.toArray n dd sl u (eqU y) j (by simp;lia) ?_ ?_) ⟨ho,fun w hw=>ziq ru fy r' fv w (by simpa using hw),⟨.int j,H,I.tok _,⟨_,rfl⟩,q⟩⟩
 ·rw[ans j _ v0 hv];exact he
 ·intro m hm hlt
  have e:=aF (show m<vs.length by lia)
  rw[ans m hm _ e]
  exact hno m _ hlt e
def tBMT(r:V->List V->Hp->VK->Prop)(to:TE)(t:TA):TE:=fun σ H Q=>to σ H fun x H1=>(∃ p xs,x=.ref p/\H1 p=aa (.tup xs))/\t σ H1 fun xs H2=>r x xs H2 Q
theorem pbmT{id:String}{name:Str}{apos cpos:Pos}{o e:Expr}{es:List Expr}{to:TE}{t:TA}{r:V->List V->Hp->VK->Prop}(slot:Slot "tuple" name id)(hty:typeOf (.builtin id)=pure (.type "method_descriptor"))(hm:MtR X id r)(ho:PE X o to)(ha:PA X (e :: es) t)
  (hbase:bU o name X.env (eval o X.env)=eval o X.env) (hl:decide ((e :: es).length+0+0<30)=true) (hline:(apos.endLine == cpos.line)=true)
  (h1:zam e=true) (h2:es.all zam=true):PE X (.Call (.Attribute o name apos) (e :: es) [] cpos) (tBMT r to t):=by
 intro pins s σ H Q I h
 refine wpAny_Call_method_late hbase (by rw[zgj (es:=e :: es) (by rw[eP,h1,h2];rfl)];exact hl) hline rfl (thn (ho pins s σ H _ I h) fun v s1 ⟨x,H1,I1,r1,⟨p,zs,ex,hp⟩,q1⟩=>?_)
 subst ex
 cases r1
 obtain⟨_,its,_,tn⟩:=I1.hok p _ hp
 have tn2:=tn
 obtain⟨ob,e1,e2,_⟩:=tn2
 refine⟨"tuple",id,PySem.F.plainAttrs_tuple,slot,hty,⟨ob,e1,e2⟩,fun a e=>by cases e;exact tn.nod,?_⟩
 have hA:=ha cpos pins s1 σ H1 _ I1 q1
 rw[zar h1] at hA ⊢
 refine eK (by show(false || (backTo cpos (be es X.env)).any (·.1))=false;rw[zcv h2];rfl) (hG (thn hA fun us s2 ⟨vs,H2,I2,r2,q2⟩=>hm pins s2 σ H2 (.ref p) vs _ us Q I2 rfl r2 q2))
end
end L2
namespace L3
open PySem PySem.Spec PyProof.Rows L2
theorem flV{F:Hp}{v:V}{d:D}(r:Rep F v d)(h:flD d=true):zft v=true:=by
 cases r <;> first | rfl | cases h
theorem eqVF{F:Hp}{v w:V}{d e:D}(r:Rep F v d)(q:Rep F w e)(h:flD d=true)(k:flD e=true):eqV v w=eqF d e:=by
 cases r <;> first | (cases h;done) | (cases q <;> first | rfl | (cases k;done))
theorem fst_at{F:Hp}{vs:List V}{ds:List D}{y:V}{d:D}{j:Nat}(r:Reps F vs ds)(ry:Rep F y d)(h:(flD d && ds.all flD)=true)(e:ds.findIdx? (fun e=>eqF e d)=aa j):zft y=true/\vs.all zft=true/\FstAt vs y j:=by
 rw[cP] at h
 obtain⟨h1,h2⟩:=h
 have fl:∀ (m:Nat) (e:D),ds[m]? = aa e->flD e=true:=fun m e q=>cD.mp h2 e (cg q)
 refine⟨flV ry h1,cD.mpr fun v hv=>?_,?_,fun m v hm hv=>?_⟩
 ·obtain⟨m,hm⟩:=List.mem_iff_getElem?.mp hv
  obtain⟨e,q1,q2⟩:=r.getV hm
  exact flV q2 (fl m e q1)
 ·obtain⟨hj,q,_⟩:=dq.mp e
  obtain⟨v,q1,q2⟩:=r.get (aF hj)
  refine⟨v,q1,?_⟩
  rw[eqVF q2 ry (fl j _ (aF hj)) h1]
  exact q
 ·obtain⟨hj,_,q⟩:=dq.mp e
  obtain⟨e',q1,q2⟩:=r.getV hv
  rw[eqVF q2 ry (fl m _ q1) h1]
  obtain⟨hm',q3⟩:=aO.mp q1
  have:=q m hm
  rw[q3] at this
  simpa using this
theorem vOf_some{e:Ent}{d:D}(h:vOf e=aa d):e=.val d:=by
 cases e with
 | val d'=>cases h;rfl
 | _=>cases h
section
variable {X:Cx}
end
structure MtT(X:Cx)(name:Str)(g:Ent->List Ent->Option Ent):Prop where
 h:∃ id r,Slot "tuple" name id/\typeOf (.builtin id)=pure (.type "method_descriptor")/\MtR X id r /\
  (∀ (F:Hp) (v:V) (e:Ent) (es:List Ent) (res:Ent),g e es=aa res->∃ ds,e=.val (.tup ds)) /\
  ∀ (H0 F H:Hp) (x:V) (vs:List V) (e:Ent) (es:List Ent) (res:Ent) (Q:VK),Same F H->Same H0 H->RepR X.K H0 F H x e->RepRs X.K H0 F H vs es->g e es=aa res->(∀ v F' H',Ex F H F' H'->RepR X.K H0 F' H' v res->Q v H')->r x vs H Q
section
variable {X:Cx}{name:Str}{g:Ent->List Ent->Option Ent}{o e:Expr}{es:List Expr}{fo:FE}{fs:FA}{apos cpos:Pos}
theorem vbt(M:MtT X name g)(ho:VE X o fo)(ha:VA X (e :: es) fs)(hbase:bU o name X.env (eval o X.env)=eval o X.env:=by rfl)(hl:decide ((e :: es).length+0+0<30)=true:=by rfl)(hline:(apos.endLine == cpos.line)=true:=by rfl)
  (h1:zam e=true:=by rfl) (h2:es.all zam=true:=by rfl):VE X (.Call (.Attribute o name apos) (e :: es) [] cpos) (eBM g fo fs):=by
 obtain⟨t,wo,mo⟩:=ho.h
 obtain⟨ta,wa,ma⟩:=ha.h
 obtain⟨id,r,sl,ht,hm,hty,hsem⟩:=M.h
 refine⟨_,⟨pbmT sl ht hm wo.h wa.h hbase hl hline h1 h2⟩,fun B F H σ δ res Q s q k=>?_⟩
 obtain⟨x,q1,q⟩:=bind_some q
 obtain⟨rs,q2,q⟩:=bind_some q
 obtain⟨ds,rfl⟩:=hty F .non x rs res q
 refine mo B F H σ δ _ _ s q1 fun v F1 H1 x1 r1=>⟨?_,?_⟩
 ·cases (show Rep F1 v (.tup ds) from r1) with
  | tup e _=>exact⟨_,_,rfl,x1.fh _ _ e⟩
 ·refine ma B F1 H1 σ δ rs _ (s.ext x1) q2 fun vs F2 H2 x2 r2=>?_
  exact hsem H F2 H2 v vs _ rs res Q x2.fh (x1.trans x2).hh (r1.ext x2) (r2.earlier x1.hh) q fun v' F' H' x3 r3=>k v' F' H' ((x1.trans x2).trans x3) r3
theorem m_idxT:MtT X "index" gIdxT:=by
 refine⟨_,_,gu,PySem.F.type_tuple_index,mt_idxT,?_,?_⟩
 ·intro F v e es res q
  unfold gIdxT at q
  split at q
  ·obtain⟨ds,q1,q⟩:=bind_some q
   exact⟨ds,zdg q1⟩
  ·cases q
 ·intro H0 F H x vs e es res Q fh hh r rs q k
  unfold gIdxT at q
  split at q
  ·obtain⟨ds,q1,q⟩:=bind_some q
   obtain⟨d,q2,q⟩:=bind_some q
   unfold idxD at q
   obtain⟨hf,q⟩:=ite_some q
   obtain⟨j,q3,q⟩:=map_some q
   cases q
   cases vOf_some q2
   obtain⟨y,rfl,ry⟩:=zdv rs
   cases zdg q1
   cases (show Rep F x (.tup ds) from r) with
   | tup e rs'=>
    obtain⟨f1,f2,f3⟩:=fst_at rs' ry hf q3
    exact⟨_,_,y,j,rfl,rfl,SqT.of (fh _ _ e),f1,f2,f3,k _ F H (Ex.refl fh) (.int _)⟩
  ·cases q
end
end L3

namespace L2
open PySem PySem.Spec PyProof.Rows PyProof.Rows.KTD
def tabI(D:List (Str × Int)):List (Str × Dat):=D.map fun p=>(p.1,Dat.flat (.int p.2))
def zh1(z:Str):List (Str × Int)->Option Int
 | []=>ab
 | (x,i) :: D=>if z=x then aa i else zh1 z D
theorem zhD(z:Str):∀ D:List (Str × Int),inKeys z (tabI D)=(zh1 z D).isSome
 | []=>rfl
 | (x,i) :: D=>by
  show(decide (z=x) || inKeys z (tabI D))=(if z=x then aa i else zh1 z D).isSome
  by_cases h:z=x
  ·rw[if_pos h,decide_eq_true h];rfl
  ·rw[if_neg h,decide_eq_false h,zhD z D];rfl
theorem zgW{h:ba}{z:Str}{P:ae->Prop}{i:Int}(k:∀ t,P (.int i t)):∀ D:List (Str × Int),zh1 z D=aa i->EachL h z P (tabI D)
 | [],_=>trivial
 | (x,j) :: D,e=>by
  have e':(if z=x then aa j else zh1 z D)=aa i:=e
  by_cases hx:z=x
  ·rw[if_pos hx] at e'
   cases e'
   exact eachL_hit hx k
  ·rw[if_neg hx] at e'
   exact eachL_miss hx (zgW k D e')
theorem zjv(D:List (Str × Int)):((tabI D).all fun p=>plain p.2)=true:=by
 rw[cD]
 intro p hp
 obtain⟨q,_,rfl⟩:=bJ.mp hp
 rfl
def RowsK(K:ag)(es:Array DictEntry)(D:List (Str × Int)):Prop:=rowsLook (datLooks fun b=>K.lookup b) es.toList (tabI D)=true
def TabK(K:ag)(a:af)(D:List (Str × Int)):Prop:=tabLook (datLooks fun b=>K.lookup b) (fun b=>K.lookup b) a (tabI D)=true
theorem zh2{K:ag}{a:af}{es:Array DictEntry}{ep:Nat}{D:List (Str × Int)}(l:K.lookup a=aa ⟨.type "dict",ab,.dict es ep,#[]⟩)(c:RowsK K es D)(m:(a == sysModules)=false):TabK K a D:=by
 unfold TabK tabLook
 unfold RowsK at c
 simp only[l,c,m]
 rfl
section
variable {X:Cx}{a:af}{D:List (Str × Int)}
theorem Inv.tabK{pins:List (af × Obj)}{σ:St}{H:Hp}{s:ah}(I:Inv X pins σ H s)(T:TabK X.K a D):Here s.heap s.heap a (tabI D):=⟨text_of_look (fun b o e=>I.kIn b o e) T,fun _ _ e=>e⟩
theorem ix_tab(T:TabK X.K a D):IxR X (fun x y H Q=>∃ z i,x=.ref a/\y=.str z/\zh1 z D=aa i/\Q (.int i) H):=by
 intro value slice pins s σ H x y v u Q I rx ry h hs
 obtain⟨z,i,rfl,rfl,hi,q⟩:=h
 cases rx
 obtain⟨t,rfl⟩:=ry
 exact item_textA (I.tabK T) (zjv D) (by rw[zhD,hi];rfl) (zgW (fun t=>⟨.int i,H,I.tok _,⟨t,rfl⟩,q⟩) D hi) hs
end
theorem kisS{P:aR}{w:aU}{z:Str}{u:ae}(r:RelV (.str z) u):(zdz P w).is (bm z) u=true:=by
 obtain⟨t,rfl⟩:=r
 show h8 z (.str z t)=true
 simp[h8]
def atK(kvs:List (Key × V))(k:Key):Option V:=(kvs.find? fun p=>decide (p.1=k)).map (·.2)
theorem atK_rel{kvs:List (Key × V)}{vs:List (Key × ae)}(r:KV kvs vs)(k:Key):(∃ v w,atK kvs k=aa v/\valueAt vs k=aa w/\RelV v w) \/ (atK kvs k=ab/\valueAt vs k=ab):=by
 unfold KV at r
 induction r with
 | nil=>exact .inr ⟨rfl,rfl⟩
 | @cons p q ps qs h t ih=>
  obtain⟨h1,h2⟩:=h
  unfold atK valueAt at ih ⊢
  by_cases e:p.1=k
  ·refine .inl ⟨p.2,q.2,?_,?_,h2⟩
   ·rw[eN (by simpa using e)];rfl
   ·rw[eN (by simpa using (h1 ▸ e:q.1=k))];rfl
  ·rw[eO (by simpa using e),eO (by simpa using (fun z=>e (h1.trans z):¬ q.1=k))]
   exact ih
section
variable {X:Cx}
theorem ix_dic:IxR X (fun x y H Q=>∃ a kvs z v,x=.ref a/\y=.str z/\Rd H a (.dK kvs)/\atK kvs (bm z)=aa v/\Q v H):=by
 intro value slice pins s σ H x y v u Q I rx ry h hs
 obtain⟨a,kvs,z,v',rfl,rfl,e,hv,q⟩:=h
 cases rx
 obtain⟨_,hd,vs,rel,dd⟩:=e.ok I.hok
 rcases atK_rel rel (bm z) with ⟨v2,w,e1,e2,e3⟩ | ⟨e1,_⟩
 ·rw[hv] at e1
  cases e1
  exact subscriptTail_builtinR (x:=w) dd.typeIs slot_dict_getitem.lookup (wpAny_getItem_of (kisS ry) dd.mapOf e2 ⟨rfl,v',H,I.tok _,e3,q⟩) hs
 ·rw[hv] at e1;cases e1
end
inductive PrsOf:List Str->List V->List (ae × ae)->Prop
 | nil:PrsOf [] [] []
 | cons {z:Str} {t:Tok} {v:V} {u:ae} {ks:List Str} {vs:List V} {ws:List (ae × ae)}:RelV v u->PrsOf ks vs ws->PrsOf (z :: ks) (v :: vs) ((.str z t,u) :: ws)
theorem PrsOf.len{ks:List Str}{vs:List V}{ws:List (ae × ae)}(h:PrsOf ks vs ws):ks.length=vs.length:=by
 induction h with
 | nil=>rfl
 | cons _ _ ih=>rw[aQ,aQ,ih]
def PDs(X:Cx)(pos:Pos)(keys:List (Option Expr))(values:List Expr)(ks:List Str)(t:TA):Prop:=
 ∀ (pins:List (af × Obj)) (s:ah) (σ:St) (H:Hp) (Q:List V->Hp->Prop),Inv X pins σ H s->t σ H Q ->
  aI (model X.prog X.w) X.A (evalPairs (pairTrees keys values X.env pos)) (fun ws s'=>∃ vs H',Inv X pins σ H' s'/\PrsOf ks vs ws/\Q vs H') X.xe s
end L2
namespace L3
open PySem PySem.Spec PyProof.Rows L2
def lkD:List Str->List D->Str->Option D
 | k :: ks,d :: ds,z=>if k=z then aa d else lkD ks ds z
 | _,_,_=>ab
theorem lkD_ok{F:Hp}(z:Str):∀ {ks:List Str} {vs:List V} {ds:List D},ks.length=vs.length->Reps F vs ds ->
  (∃ d v,lkD ks ds z=aa d/\atK ((ks.map bm).zip vs) (bm z)=aa v/\Rep F v d) \/ (lkD ks ds z=ab/\atK ((ks.map bm).zip vs) (bm z)=ab)
 | [],[],_,_,.nil=>.inr ⟨rfl,rfl⟩
 | k :: ks,v :: vs,d :: ds,hl,.cons r rs=>by
  simp only[lkD]
  unfold atK
  rw[ay,bS]
  by_cases e:k=z
  ·rw[if_pos e,eN (by simpa using e)]
   exact .inl ⟨d,v,rfl,rfl,r⟩
  ·rw[if_neg e,eO (by simpa using e)]
   exact lkD_ok z (by simpa using hl) rs
def dOf:Ent->Option (List Str × List D)
 | .val (.dic ks ds)=>aa (ks,ds)
 | _=>ab
theorem ze2{e:Ent}{p:List Str × List D}(h:dOf e=aa p):e=.val (.dic p.1 p.2):=by
 cases e with
 | val d=>cases d <;> first | (cases h;rfl) | (cases h)
 | _=>cases h
def gDx:Ent->Ent->Option Ent:=fun x y=>(dOf x).bind fun p=>(sOf y).bind fun z=>(lkD p.1 p.2 z).map .val
def zjF(T:List (Str × Int)):Ent->Option Ent:=fun y=>(sOf y).bind fun z=>(zh1 z T).map fun i=>.val (.int i)
section
variable {X:Cx}
theorem x_dic:IxD X gDx:=⟨_,ix_dic,fun H0 F H x y e e' res Q fh hh rx ry q k=>by
 obtain⟨p,q1,q⟩:=bind_some q
 obtain⟨z,q2,q⟩:=bind_some q
 obtain⟨d,q3,q⟩:=map_some q
 cases q
 cases ze2 q1
 cases zbt q2
 cases zb6 ry
 cases (show Rep F x (.dic p.1 p.2) from rx) with
 | dic e l rs=>
  rcases lkD_ok z l rs with ⟨d',v,e1,e2,e3⟩ | ⟨e1,_⟩
  ·rw[q3] at e1
   cases e1
   exact⟨_,_,z,v,rfl,rfl,.inr ⟨_,fh _ _ e⟩,e2,k _ F H (Ex.refl fh) e3⟩
  ·rw[q3] at e1;cases e1⟩
structure VD(X:Cx)(pos:Pos)(keys:List (Option Expr))(values:List Expr)(ks:List Str)(fs:FA):Prop where
 h:∃ t,PDs X pos keys values ks t/\SemA X.K t fs
variable {pos kp p:Pos}{z x:Str}{j:Nat}{v sl:Expr}{keys:List (Option Expr)}{values:List Expr}{ks:List Str}{fv fe:FE}{fs:FA}
def GTab(X:Cx)(x:Str)(T:List (Str × Int)):Prop:=∃ a,X.mg x=aa (.ref a)/\TabK X.K a T
theorem vgx{T:List (Str × Int)}(hg:Gl X x)(hT:GTab X x T)(he:VE X sl fe)(hs:∀ ov iv,subscripted sl false ov iv=operate [ov,iv] (getItem ov iv):=by intro _ _;rfl)(hd:(x == ("__debug__" : Str))=false:=by decide) :
  VE X (.Subscript (.Name x p) sl pos) (ex1 (zjF T) fe):=by
 obtain⟨t,w,m⟩:=he.h
 obtain⟨a,hm,hk⟩:=hT
 refine⟨_,wix (ix_tab hk) (wgl (v:=.ref a) hg ⟨_,hm,rfl⟩ hd) w hs,fun B F H σ δ res Q s q k=>?_⟩
 obtain⟨e,q1,q⟩:=bind_some q
 obtain⟨z,q2,q⟩:=bind_some q
 obtain⟨i,q3,q⟩:=map_some q
 subst q
 cases zbt q2
 exact m B F H σ δ _ _ s q1 fun v F1 H1 x1 r1=>⟨z,i,rfl,zb6 r1,q3,k _ F1 H1 x1 (.int _)⟩
end
end L3

namespace L2
open PySem PySem.Spec PyProof.Rows
theorem valsI:∀ {ns:List Int} {us:List ae},Vals (ns.map V.int) us->IntsAre us ns
 | [],us,r=>by rw[ci] at r;cases r;exact .nil
 | n :: ns,us,r=>by
  rw[ay] at r
  cases r with
  | cons h t=>
   obtain⟨tk,e⟩:=h
   subst e
   exact .cons n tk (valsI t)
theorem call_sumI{X:Cx}(hc:X.calm=true):zec X (.builtin "sum") (fun xs H Q=>∃ (p:af) (ns:List Int),xs=[.ref p]/\SqL X.K H p (ns.map V.int)/\Q (.int ns.sum) H):=by
 intro pins s σ H xs us Q I r h
 obtain⟨p,ns,rfl,hq,q⟩:=h
 obtain⟨u,rfl,rx⟩:=zfF r
 cases rx
 obtain⟨its,r',pl,hz⟩:=I.list hq
 have hi:=valsI r'
 obtain⟨zs,hx⟩:=hi.allInts.items
 have hn:=hi.numsOf
 have e1:its=(intItems zs).toList:=by rw[<- hx]
 rw[e1,nums_intItems] at hn
 refine sum_intListG (I.ok.hd hc) (by rw[<- hx];exact pl.isList) fun h' tk t' hk=>⟨.int ns.sum,H,I.kept (t':=tk) hk,⟨t',?_⟩,q⟩
 rw[preSum_eq,cn (by simp),hn]
end L2
namespace L3
open PySem PySem.Spec PyProof.Rows L2
def gSum:List Ent->Option Ent
 | [x]=>(asL x).bind fun ds=>(zhg ds).map fun ns=>.val (.int ns.sum)
 | _=>ab
section
variable {X:Cx}{e:Expr}{fe:FE}{x:Str}{p pos:Pos}
theorem c_sum(hc:X.calm=true:=by rfl):zeW X (.builtin "sum") gSum:=⟨_,call_sumI hc,fun H0 F H vs es res Q fh hh r q k=>by
 obtain⟨x,rfl⟩:=zfu rfl (fun _ _ _=>rfl) q
 obtain⟨v,rfl,rz⟩:=zdv r
 obtain⟨ds,q1,q⟩:=bind_some q
 obtain⟨ns,q2,qz⟩:=map_some q
 cases qz
 obtain⟨l,ws,e',h1,h2⟩:=RepR.toL rz fh q1
 subst e'
 rw[ze5 h2 q2] at h1
 exact⟨l,ns,rfl,h1,k _ F H (Ex.refl fh) (.int _)⟩⟩
end
end L3

namespace L2
open PySem PySem.Spec PyProof.Rows
namespace RV
theorem lri_len:typeLookup (.type "list_reverseiterator") "__len__" = pure ab:=by rw[typeLookup_type,builtinLookup_eq_fast];kernel_rfl
theorem lri_hint:typeLookup (.type "list_reverseiterator") "__length_hint__" = pure (aa (.builtin "list_reverseiterator.__length_hint__")):=by rw[typeLookup_type,builtinLookup_eq_fast];kernel_rfl
end RV
section
variable {prog:aR}{w:aU}{A:a9}{E:ae->ah->Prop}{s:ah}
set_option maxRecDepth 100000
theorem ziW{I l:af}{i:Int}{Q:Bool->ah->Prop}(hit:s.heap.IsRevIter I l i)(q:Q false s):aI (model prog w) A (fM (.ref I)) Q E s:=by
 unfold fM
 refine aj (wpAny_specialOf hit.typeIs RV.lri_len ?_)
 wp_delta
 refine aj (wpAny_specialOf hit.typeIs RV.lri_hint ?_)
 wp_delta
 refine aj (wpAny_isInstance (T:= "list_reverseiterator") (b:=true) hit.typeIs (by rw[isSubtype_type];kernel_rfl) ?_)
 show aI _ A (pure false) Q E s
 exact aE q
theorem zig{I l:af}{items:Array ae}{Q:List ae->ah->Prop}(hh:A.handled=ab)(hne:l ≠ I)(hit:s.heap.IsRevIter I l ((items.size:Int) - 1))(hl:s.heap.IsList l items)
  (hQ:∀ s' acc,(∀ b o,b ≠ I->s.heap.get? b=aa o->s'.heap.get? b=aa o)->s'.gens=s.gens->s'.drawn=s.drawn->s'.os=s.os->ItemsOf (fun i v=>items[items.size - 1 - i]? = aa v) acc items.size->Q acc.toList s') (hn:items.size<=aZ) :
  aI (model prog w) A (collect (.ref I)) Q E s:=by
 have hI:I<s.heap.objs.size:=by obtain⟨o,e,_⟩:=hit;exact aN e
 have hL:l<s.heap.objs.size:=by obtain⟨o,e,_⟩:=hl;exact aN e
 unfold collect
 refine aj (wpAny_runValue (codeAny_builtin F.entry_proto_collect ?_))
 rw[cY F.plain_proto_collect _]
 show aI _ A.in1 (newList [] >>= fun x=>again (.builtin "list.__iadd__" ⟨[x,.ref I],[]⟩)) _ _ s
 refine aj (wpAny_newObj_type ?_)
 refine aE ⟨plainId_quiet iM _,codeAny_builtin F.entry_list_iadd ?_⟩
 rw[cY iM _]
 show aI _ A.in1 (cI (.ref s.heap.objs.size) (.ref I) (.ref s.heap.objs.size)) _ _ _
 generalize hH:s.heap.push { cls:=.type "list",data:=.seq ([]:List ae).toArray}=H
 have up:∀ b o,s.heap.get? b=aa o->H.get? b=aa o:=fun b o e=>hH ▸ am _ e
 have hit':H.IsRevIter I l ((items.size:Int) - 1):=hit.at fun o e=>up _ o e
 have hl':H.IsList l items:=hl.at fun o e=>up _ o e
 have hS:H.get? s.heap.objs.size=aa { cls:=.type "list",data:=.seq ([]:List ae).toArray}:=hH ▸ aM _ rfl
 unfold cI
 refine aj (wpAny_typeOf (s:={ s with heap:=H}) hit'.typeIs ?_)
 have h1:dr (.ref s.heap.objs.size) (.ref I)=false:=by
  unfold dr
  simp
  exact gh hI
 have h2:(cR "list_reverseiterator" == cR "list")=false:=by decide
 have h3:(cR "list_reverseiterator" == cR "tuple")=false:=by decide
 simp only[h1,h2,h3,ic,bG,if_false]
 refine aj (wpAny_pyIter_revIter hit' ?_)
 refine aj (bT ?_)
 refine ziW (s:={ s with heap:=H}) hit' ?_
 rw[if_neg (by decide)]
 have hSf:s.heap.objs.size ∉ [I,l]:=fun hm=>by
  rcases aY.mp hm with h | h
  ·exact absurd hI (h ▸ cc _)
  ·exact absurd hL (a7.mp h ▸ cc _)
 have st0:0<=items.size/\H.IsRevIter I l ((items.size:Int) - 1 - ((0:Nat):Int))/\H.IsList l items:=⟨aS _,by simpa using hit',hl'⟩
 refine aE ⟨plainId_quiet ij _,codeAny_extend_loopS (jy (A:=A.in1) hh I l hne items).toS hn _ hSf _ items.size 0 _ _ _ rfl (aS _) st0 hS (kj _) fun s' acc' c' hm hS' hacc=>?_⟩
 show aI _ A (load s.heap.objs.size >>= _) _ _ s'
 refine aj (wpAny_load hS' ?_)
 refine aE (hQ s' acc' (fun b ob hb e=>hm.heap b ob (fun hc=>?_) (up b ob e)) hm.gens hm.drawn hm.os hacc)
 have hlt:=aN e
 rcases aY.mp hc with h | h
 ·exact absurd hlt (h ▸ cc _)
 ·exact hb (a7.mp h)
theorem zfp(I l:af)(items:Array ae)(hne:l ≠ I)(hsz:items.size<=aZ) :
  Meets (Builtin.«tuple.__new__» ⟨[.type "tuple",.ref I],[]⟩)
   (fun A R s=>A.handled=ab/\s.heap.IsRevIter I l ((items.size:Int) - 1)/\s.heap.IsList l items/\∀ (s':ah) (acc:Array ae),(∀ b o,b ≠ I->s.heap.get? b=aa o->s'.heap.get? b=aa o)->s'.gens=s.gens->s'.drawn=s.drawn->s'.os=s.os->ItemsOf (fun i v=>items[items.size - 1 - i]? = aa v) acc items.size ->
    R (.ok (.ret (.ref s'.heap.objs.size))) { s' with heap:=s'.heap.push { cls:=.type "tuple",data:=.seq acc}}):=
 .of_wp fun prog w A R s h=>by
  obtain⟨hh,hit,hl,h⟩:=h
  have hsub:=sub_tuple_self
  have hinit:=init_tuple_lookup
  have hmh:=madeHere_tuple
  have hT:s.TypeIs (.ref I) "list_reverseiterator" :=hit.typeIs
  have hh1:A.in1.handled=ab:=hh
  wp_walk using wpAny_typeOf hT,zig (hn:=hsz) hh1 hne hit hl
  intro s' acc hk hg hd hos hacc
  show aI _ _ (cE acc.toList.toArray >>= fun v=>ret v) _ _ _
  unfold cE
  refine aj (wpAny_newObj_type (aE ⟨_,rfl,?_⟩) (show acc.toList.toArray.size<=aZ by simp only[Array.toArray_toList];rw[hacc.1];exact hsz))
  have e:acc.toList.toArray=acc:=by simp
  rw[e]
  exact h s' acc hk hg hd hos hacc
theorem zfC{Q:ae->ah->Prop}{I l:af}{items:Array ae}(hh:A.handled=ab)(hne:l ≠ I)(hit:s.heap.IsRevIter I l ((items.size:Int) - 1))(hl:s.heap.IsList l items)(hsz:items.size<=aZ)
  (h:∀ (h':ba) (tk:Nat) (acc:Array ae),(∀ b o,b ≠ I->s.heap.get? b=aa o->h'.get? b=aa o)->ItemsOf (fun i v=>items[items.size - 1 - i]? = aa v) acc items.size->Q (.ref h'.objs.size) { s with heap:=h'.push { cls:=.type "tuple",data:=.seq acc},toks:=tk}) :
  aI (model prog w) A (call (.type "tuple") [.ref I]) Q E s:=by
 refine callType_new F.called_tuple (by decide) (F.typeCall_tuple_1 _) (F.newCall_tuple_1 _) (fun obj=>F.args_object_init_2 obj _) F.entry_tuple_new
  (zfp I l items hne hsz) ⟨hh,hit,hl,fun s' acc hk hg hd hos hacc=>⟨⟨_,aM _ rfl,rfl⟩,?_⟩⟩
 obtain⟨h',g',d',tk',os'⟩:=s'
 cases (show g'=s.gens from hg)
 cases (show d'=s.drawn from hd)
 cases (show os'=s.os from hos)
 exact h h' tk' acc hk hacc
end
end L2
namespace L2
open PySem PySem.Spec PyProof.Rows
section
variable {X:Cx}{e:Expr}{t:TE}{p p1 pos pos1:Pos}
theorem zin{xs:List V}{its:List ae}(r:Vals xs its){acc:Array ae}(h:ItemsOf (fun i v=>its.toArray[its.toArray.size - 1 - i]? = aa v) acc its.toArray.size):Vals xs.reverse acc.toList:=by
 obtain⟨h1,h2⟩:=h
 have e:acc.toList=its.reverse:=by
  apply iN
  intro j
  by_cases hj:j<its.length
  ·have hs:acc.size=its.length:=by simpa using h1
   have:=h2 j acc[j] (by simp[hs,hj])
   rw[gU hj]
   simp only[a8,List.getElem?_toArray] at this
   rw[this]
   simp[hs,hj]
  ·have hs:acc.size=its.length:=by simpa using h1
   rw[cB (by simp[hs];lia),cB (by simp;lia)]
 rw[e]
 clear h1 h2 e
 induction r with
 | nil=>exact .nil
 | cons h t ih=>
  rw[dg,dg]
  exact ih.append (.cons h .nil)
def tTR(K:ag)(t:TE):TE:=fun σ H Q=>t σ H fun x H1=>∃ a xs,x=.ref a/\SqL K H1 a xs/\∀ q,H1 q=ab->Q (.ref q) (upd H1 q (.tup xs.reverse))
theorem pe_tr(hc:X.calm=true)(he:PE X e t)(hg:Gl X "tuple")(hm:X.mg "tuple" = ab)(hv:bn "tuple" = aa (.type "tuple"))(hg1:Gl X "reversed")(hm1:X.mg "reversed" = ab)(hv1:bn "reversed" = aa (.type "reversed"))
  (h1:be [e] X.env=(false,eval e X.env) :: be [] X.env) (h2:be [kL (.Name "reversed" p1) [e] [] pos1] X.env=(false,eval (.Call (.Name "reversed" p1) [e] [] pos1) X.env) :: be [] X.env) :
  PE X (.Call (.Name "tuple" p) [.Call (.Name "reversed" p1) [e] [] pos1] [] pos) (tTR X.K t):=by
 intro pins s σ H Q I h
 refine cf (zep I hg hm hv ?_ (by decide) (by decide))
 refine bZ ?_ h2 rfl
 rw[h2]
 refine fJ (rest:=backTo pos (be [] X.env)) ?_
 refine cf (zep I hg1 hm1 hv1 ?_ (by decide) (by decide))
 refine bZ ?_ h1 rfl
 refine thn (zhZ he pa_nil h1 pos1 pins s σ H (one fun x H1=>∃ a xs,x=.ref a/\SqL X.K H1 a xs/\∀ q,H1 q=ab->Q (.ref q) (upd H1 q (.tup xs.reverse))) I ?_) ?_
 ·exact(show t σ H _ from h)
 ·rintro us s1 ⟨xs,H1,I1,r1,qx⟩
  obtain⟨x,rfl,a,vs,rfl,hq,kk⟩:=ziv qx
  cases r1 with
  | cons r1 rn=>
   cases rn
   cases r1
   obtain⟨its,rv,pl,hz⟩:=I1.list hq
   have hs:its.toArray.size<=aZ:=by have:=rv.length;simp;lia
   have hl:=pl.isList
   have hlt:a<s1.heap.objs.size:=by obtain⟨o,e,_⟩:=hl;exact aN e
   refine call_reversed_list hl ?_
   refine fW ?_
   refine zfC (I:=s1.heap.objs.size) (l:=a) (items:=its.toArray) (I.ok.hd hc) (bp hlt) ⟨_,aM _ rfl,rfl,rfl⟩ (hl.at fun o e=>am _ e) hs fun h' tk acc old ha=>?_
   have old':∀ b o,s1.heap.get? b=aa o->h'.get? b=aa o:=fun b o e=>old b o (bp (aN e)) (am _ e)
   have I2:=I1.kept (t':=tk) old'
   refine⟨.ref h'.objs.size,_,I2.laid (t':=tk) (o:=.tup vs.reverse) (fun b o e=>am _ e) (ai _) ⟨?_,acc.toList,zin rv ha,⟨_,aM _ rfl,rfl,0,by simp⟩⟩,rfl,kk _ (I2.hok.fresh (ai _))⟩
   rw[c9]
   exact hz
end
end L2
namespace L3
open PySem PySem.Spec PyProof.Rows L2
def zh4:Ent->Option Ent:=fun x=>(asL x).bind fun ds=>aa (.val (.tup ds.reverse))
section
variable {X:Cx}{e:Expr}{fe:FE}{p p1 pos pos1:Pos}
theorem vTupRev(he:VE X e fe)(hg:Gl X "tuple")(hm:X.mg "tuple" = ab)(hv:bn "tuple" = aa (.type "tuple"))(hg1:Gl X "reversed")(hm1:X.mg "reversed" = ab)(hv1:bn "reversed" = aa (.type "reversed"))(hc:X.calm=true:=by rfl)(h1:zam e=true:=by rfl) :
  VE X (.Call (.Name "tuple" p) [.Call (.Name "reversed" p1) [e] [] pos1] [] pos) (ex1 zh4 fe):=by
 obtain⟨t,w,m⟩:=he.h
 refine⟨_,⟨pe_tr hc w.h hg hm hv hg1 hm1 hv1 (zar h1) (zar rfl)⟩,fun B F H σ δ res Q s q k=>?_⟩
 obtain⟨en,q1,q⟩:=bind_some q
 refine m B F H σ δ en _ s q1 fun v F1 H1 x1 r1=>?_
 obtain⟨ds,q2,q3⟩:=bind_some q
 cases q3
 obtain⟨l,vs,rfl,hs,rs⟩:=r1.toL x1.fh q2
 refine⟨l,vs,rfl,hs,fun r hr=>?_⟩
 exact k _ _ _ (x1.trans (Ex.alloc x1.fh hr)) (.tup zaj (rs.rev.mono (Same.alloc (x1.fh.free hr))))
end
end L3

namespace L2
open PySem PySem.Spec PyProof.Rows PyProof.Rows.KTD
inductive EKs(w:aU):List DictEntry->List Str->Prop
 | nil:EKs w [] []
 | cons {e:DictEntry} {z:Str} {es:List DictEntry} {ks:List Str}:(∃ t,e.key=.str z t/\e.hash=hashStr w z)->EKs w es ks->EKs w (e :: es) (z :: ks)
def KeysK(w:aU)(K:ag)(a:af)(ks:List Str):Prop:=
 (a == sysModules)=false/\ks.Nodup/\∃ (es:Array DictEntry) (ep:Nat),K.lookup a=aa ⟨.type "dict",ab,.dict es ep,#[]⟩/\EKs w es.toList ks
theorem zhj{w:aU}{L:Dat->ae->Bool}:∀ {es:List DictEntry} {D:List (Str × Dat)},rowsLook L es D=true->es.map (·.hash)=(D.map (·.1)).map (hashStr w) ->
  EKs w es (D.map (·.1))
 | [],[],_,_=>.nil
 | e :: es,(x,d) :: D,h,hh=>by
  simp only[rowsLook,cP] at h
  obtain⟨⟨h1,_⟩,h3⟩:=h
  simp only[ay,k6] at hh
  refine .cons ?_ (zhj h3 hh.2)
  split at h1
  ·rename_i y t hk
   obtain rfl:=beq_iff_eq.mp h1
   exact⟨t,hk,hh.1⟩
  ·cases h1
 | [],_ :: _,h,_=>by simp[rowsLook] at h
 | _ :: _,[],h,_=>by simp[rowsLook] at h
theorem keysK_of{w:aU}{K:ag}{a:af}{es:Array DictEntry}{ep:Nat}{D:List (Str × Int)}(l:K.lookup a=aa ⟨.type "dict",ab,.dict es ep,#[]⟩)(c:RowsK K es D)(m:(a == sysModules)=false)
  (hh:es.toList.map (·.hash)=(D.map (·.1)).map (hashStr w)) (nd:(D.map (·.1)).Nodup):KeysK w K a (D.map (·.1)):=by
 refine⟨m,nd,es,ep,l,?_⟩
 have e:(tabI D).map (·.1)=D.map (·.1):=by unfold tabI;rw[cK];rfl
 have:=zhj (w:=w) (D:=tabI D) c (by rw[e];exact hh)
 rwa [e] at this
theorem zfW{P:aR}{w:aU}:∀ {es:List DictEntry} {ks:List Str},EKs w es ks ->
  (∀ e ∈ es,∃ k,(c7 P w).is k e.key=true/\e.hash=(c7 P w).hash k)/\∃ kvs:List (Str × ae),Pairs (c7 P w) es kvs/\kvs.map (·.1)=ks
 | _,_,.nil=>⟨fun _ h=>(nomatch h),[],.nil,rfl⟩
 | e :: _,z :: _,.cons ⟨t,hk,hh⟩ r=>by
  obtain⟨h1,kvs,h2,h3⟩:=zfW (P:=P) r
  have hi:(c7 P w).is z e.key=true:=by rw[hk];exact strKind_is P w z t
  refine⟨fun e' he=>?_,(z,e.val) :: kvs,.cons hi rfl h2,by rw[ay,h3]⟩
  rcases aY.mp he with q | q
  ·subst q;exact⟨z,hi,hh⟩
  ·exact h1 e' q
theorem KeysK.at{P:aR}{w:aU}{K:ag}{a:af}{ks:List Str}(h:KeysK w K a ks):∃ (kvs:List (Str × ae)) (ep:Nat),kvs.map (·.1)=ks/\∀ hp:ba,(∀ b o,K.lookup b=aa o->hp.get? b=aa o)->hp.DictAt (c7 P w) a kvs ep:=by
 obtain⟨_,nd,es,ep,l,f⟩:=h
 obtain⟨h1,kvs,h2,h3⟩:=zfW (P:=P) f
 exact⟨kvs,ep,h3,fun hp k=>⟨_,es,k _ _ l,⟨rfl,rfl,rfl⟩,rfl,fun e he=>h1 e (by simpa using he),h2,by rw[h3];exact nd⟩⟩
def Itk(ks:List Str):It:=⟨fun i _=>i<ks.length,fun i H x H'=>H'=H/\∃ z,ks[i]? = aa z/\x=.str z,fun i _=>ks.length<=i⟩
theorem turn_keys{P:aR}{w:aU}{K:ag}{tg:Expr}{a it:af}{ks:List Str}{kvs:List (Str × ae)}{ep:Nat}(e:kvs.map (·.1)=ks)(hd:∀ hp:ba,(∀ b o,K.lookup b=aa o->hp.get? b=aa o)->hp.DictAt (c7 P w) a kvs ep) :
  Turn P w K tg (Itk ks) [it] it (fun i h=>h.IsKeyIter it a i kvs.length ep) where
 mem:=by simp
 obj:=fun i h st b hb=>by
  have e:b=it:=by simpa using hb
  subst e
  obtain⟨o,e,c,d⟩:=st
  exact⟨o,e,fun v z=>by rw[d] at z;cases z⟩
 keep:=fun i h h' st k=>st.at fun o e=>k it (by simp) o e
 item:=by
  intro X hP hw hK hc i pins s σ H E I hf st hg
  subst hP hw hK
  obtain⟨f0,f1,f2,f3,f4,f5⟩:=hf it (by simp)
  have hl:i<kvs.length:=by have h1:i<ks.length:=hg;rw[<- e,aq] at h1;exact h1
  refine wpAny_pyNext_dict_item (knd:=c7 X.prog X.w) (k:=kvs[i].1) (v:=kvs[i].2) st (hd s.heap fun b o e=>I.kIn b o e) (by rw[aF hl]) fun key h' hk st' sb=>?_
  obtain⟨t,rfl⟩:=ie hk
  have I1:Inv X pins σ H { s with heap:=h'}:=I.turned (t':=s.toks) (fun b o hb e=>(sb.2 b hb).trans e) f0 f1 f3 f4 f5
  exact⟨_,rfl,letGo_keyiter (s':={ s with heap:=h'}) st' ⟨.str kvs[i].1,H,I1,⟨t,rfl⟩,⟨rfl,_,by rw[<- e,ax,aF hl];rfl,rfl⟩,st',fun b hb=>(hf b hb).1⟩⟩
 done:=by
  intro X hP hw hK hc i pins s σ H E I hf st hg
  subst hP hw hK
  obtain⟨f0,f1,f2,f3,f4,f5⟩:=hf it (by simp)
  have hl:kvs.length<=i:=by have h1:ks.length<=i:=hg;rw[<- e,aq] at h1;exact h1
  exact wpAny_pyNext_dict_end (knd:=c7 X.prog X.w) (I.ok.hd hc) st (hd s.heap fun b o e=>I.kIn b o e) (cB hl) fun h' eb=>⟨rfl,I.turned (t':=s.toks) (fun b o hb e=>eb b o hb e) f0 f1 f3 f4 f5⟩
 self:=fun _ _ _ _ _ st h=>wpAny_pyIter_keyiter st h
section
variable {X:Cx}{tg:Expr}
def iKeys(a:af)(ks:List Str)(tl:TE):TI:=fun σ H R=>tl σ H fun x H1=>x=.ref a/\R (Itk ks) H1
theorem pi_keys{l:Expr}{tl:TE}{a:af}{ks:List Str}(hk:KeysK X.w X.K a ks)(hl:PE X l tl):PI X tg l (iKeys a ks tl):=by
 intro pins s σ H R I h
 refine thn (hl pins s σ H _ I h) fun v s1 ⟨x,H1,I1,r1,q1⟩=>?_
 obtain⟨e,q⟩:=q1
 subst e
 cases r1
 obtain⟨kvs,ep,e,hd⟩:=hk.at (P:=X.prog)
 refine wpAny_pyIter_dict (knd:=c7 X.prog X.w) hk.1 (hd s1.heap fun b o e=>I1.kIn b o e) ?_
 refine⟨s1.heap.objs.size,[s1.heap.objs.size],_,_,H1,rfl,I1.kept (t':=s1.toks) fun b o e=>am _ e,turn_keys e hd,⟨_,aM _ rfl,rfl,rfl⟩,fun b hb=>?_,q⟩
 have e:b=s1.heap.objs.size:=by simpa using hb
 subst e
 exact I1.fpOk (ai _) (I1.hok.fresh (ai _))
end
end L2
namespace L3
open PySem PySem.Spec PyProof.Rows L2
def iK(ks:List Str):FI:=fun _=>aa (ks.map D.str)
theorem itOk_keys{B F0:Hp}{ks:List Str}:ItOk B F0 (Itk ks) (ks.map D.str):=fun F H s1 s2 s3=>by
 refine⟨by simp[Itk],fun i d e=>?_⟩
 rw[ax] at e
 by_cases hi:i<ks.length
 ·rw[aF hi] at e
  cases e
  refine⟨hi,fun x H' y=>?_⟩
  obtain⟨e',z,hz,y⟩:=y
  rw[aF hi] at hz
  cases hz
  subst e' y
  exact⟨F,Ex.refl s2,.str _⟩
 ·rw[cB (by lia)] at e;cases e
def GKeys(X:Cx)(x:Str)(ks:List Str):Prop:=∃ a,X.mg x=aa (.ref a)/\KeysK X.w X.K a ks
theorem iik{X:Cx}{tg:Expr}{x:Str}{p:Pos}{ks:List Str}(hg:Gl X x)(hT:GKeys X x ks)(hd:(x == ("__debug__" : Str))=false:=by decide):VI X tg (.Name x p) (iK ks):=by
 obtain⟨a,hm,hk⟩:=hT
 refine⟨_,⟨pi_keys hk (wgl (v:=.ref a) hg ⟨_,hm,rfl⟩ hd).h⟩,fun B F H σ δ ds R s q k=>?_⟩
 cases q
 exact⟨rfl,k _ F H (Ex.refl s.fh) itOk_keys⟩
end L3

namespace L2
open PySem PySem.Spec PyProof.Rows
section
variable {X:Cx}
end
end L2
namespace L3
open PySem PySem.Spec PyProof.Rows L2
section
variable {X:Cx}
end
end L3

namespace HT
open PySem PySem.Spec PyProof.Rows L2
section
variable {prog:aR}{w:aU}{A:a9}{E:ae->ah->Prop}{s:ah}
theorem zi9(n:Nat):gb ab ab (-1) (n:Int)=((n:Int) - 1,-1):=rfl
theorem zjp(n:Nat):dh ((n:Int) - 1) (-1) (-1)=n:=by
 unfold dh
 have h1:¬ ((-1:Int) > 0):=by lia
 simp only[h1,if_false]
 rw[show(- -1:Int)=1 by decide,Int.ediv_one]
 split <;> lia
theorem zib{sl:af}{vk:ae}{n:Nat}{Q:Int × Int × Nat->ah->Prop}(hs:s.heap.IsSliceOf sl .none .none vk)(pk:IsPart vk (aa (-1)))
  (h:Q ((n:Int) - 1,-1,n) s):aI (model prog w) A (fR (.ref sl) (pure (n:Int))) Q E s:=by
 obtain⟨os,hos,hcs,hds⟩:=id hs
 unfold fR jN
 refine aj (aj (wpAny_field hos hds (x:=.none) rfl (aj (wpAny_field hos hds (x:=.none) rfl (aj (wpAny_field hos hds (x:=vk) rfl (aE ?_)))))))
 refine aj (zjs pk ?_)
 show aI _ _ (if ((-1:Int) == 0)=true then _ else _) _ _ s
 rw[if_neg (by decide)]
 refine aj (slicePart_none (aj (slicePart_none (aj (aE ?_)))))
 show aI _ _ (match gb ab ab (-1) (n:Int) with | (lo,hi)=>pure (lo,(-1:Int),dh lo hi (-1))) _ _ s
 rw[zi9]
 show aI _ _ (pure ((n:Int) - 1,(-1:Int),dh ((n:Int) - 1) (-1) (-1))) _ _ s
 rw[zjp]
 exact aE h
theorem range_rev(n:Nat):(ak n).map (fun m=>n - 1 - m)=(ak n).reverse:=by
 apply eQ
 ·simp
 ·intro i h1 h2
  simp
theorem pick_rev(xs:Array ae):((ak xs.size).filterMap fun(m:Nat)=>xs[((xs.size:Int) - 1+(m:Int) * (-1)).toNat]?).toArray=xs.toList.reverse.toArray:=by
 have e:(fun(m:Nat)=>xs[((xs.size:Int) - 1+(m:Int) * (-1)).toNat]?)=(fun i=>xs[i]?) ∘ fun m=>xs.size - 1 - m:=by
  funext m
  show _=xs[xs.size - 1 - m]?
  rw[show((xs.size:Int) - 1+(m:Int) * (-1)).toNat=xs.size - 1 - m by lia]
 have g:=pick_gen xs 0 xs.size
 have e0:(fun(m:Nat)=>xs[(((0:Nat):Int)+(m:Int) * 1).toNat]?)=fun i=>xs[i]?:=by
  funext m
  rw[show(((0:Nat):Int)+(m:Int) * 1).toNat=m by lia]
 rw[e0,fG,cn (by simp)] at g
 have g':(ak xs.size).filterMap (fun i=>xs[i]?)=xs.toList:=by have:=congrArg iw g;simpa using this
 rw[e,<- iA,range_rev,List.filterMap_reverse,g']
theorem getItem_tuple_rev{t sl:af}{items:Array ae}{vk:ae}{Q:ae->ah->Prop}(ht:IsTup s.heap t items)(hs:s.heap.IsSliceOf sl .none .none vk)(pk:IsPart vk (aa (-1)))
  (h:Q (.ref s.heap.objs.size) { s with heap:=s.heap.push { cls:=.type "tuple",data:=.seq items.toList.reverse.toArray}})
  (hsz:items.size<=aZ):aI (model prog w) A (getItem (.ref t) (.ref sl)) Q E s:=by
 have htake:sizeOk (.seq items.toList.reverse.toArray):=by
  show items.toList.reverse.toArray.size<=aZ
  simpa using hsz
 obtain⟨os,hos,hcs,hds⟩:=id hs
 have hTs:s.TypeIs (.ref sl) "slice" :=⟨os,hos,hcs⟩
 unfold getItem
 try with_reducible refine bT ?_
 first | refine aj (aE ?_) | skip
 refine aj (wpAny_sequenceKey ht.typeIs (by decide) ?_)
 refine aj (wpAny_callSpecial?_slot (name:=dJ "__getitem__") ht.typeIs dv
  (wpAny_call_entry dv ht.typeIs entry_tuple_getitem ?_ (args_tuple_getitem _ _)))
 show aI _ _ (jz (.ref t) >>= _) _ _ s
 refine aj (tupleItemsOf_ ht ?_)
 refine aj (wpAny_typeOf hTs ?_)
 rw[if_pos (by decide)]
 refine aj (zib hs pk ?_)
 show aI _ _ (if (((items.size:Int) - 1) == 0 && (-1:Int) == 1 && items.size == items.size)=true then _ else _) _ _ s
 rw[if_neg (by rw[show((-1:Int) == 1)=false from rfl,jr,eu];decide),pick_rev]
 first
  | exact aj (m:=cE _) (wpAny_newObj_type (aE ⟨_,rfl,aE h⟩) htake)
  | exact aj (m:=cE _) (wpAny_newObj_type (aj (aE (aE ⟨_,rfl,aE h⟩))) htake)
  | exact aj (aj (m:=cE _) (wpAny_newObj_type (aE (aE ⟨_,rfl,aE h⟩)) htake))
  | exact aj (aj (m:=cE _) (wpAny_newObj_type (aE ⟨_,rfl,aE h⟩) htake))
end
end HT
namespace L2
open PySem PySem.Spec PyProof.Rows
theorem rev_text(z:Str)(u:Tok):iZ z ab ab (-1,u)=L3.mkS z.cps.toList.reverse:=by
 have h:=step_rev_list z u
 have e:(ak z.length).map (fun k=>z.cps.getD (z.length - 1 - k) 0)=z.cps.toList.reverse:=by
  apply eQ
  ·simp[f6]
  ·intro i h1 h2
   have h3:i<z.cps.size:=by simpa using h2
   have h4:z.cps.size - 1 - i<z.cps.size:=by lia
   simp[f6,Array.getD,h4]
 rw[e] at h
 generalize iZ z ab ab (-1,u)=y at h
 obtain⟨⟨l⟩⟩:=y
 cases h
 rfl
def SvR(X:Cx)(r:V->Hp->VK->Prop):Prop:=
 ∀ (pins:List (af × Obj)) (s:ah) (σ:St) (H:Hp) (x:V) (v:ae) (t:Tok) (sl:af) (Q:VK),Inv X pins σ H s->RelV x v->s.heap.IsSliceOf sl .none .none (.int (-1) t)->r x H Q ->
  ∃ T id,typeLookup (.type T) "__getitem__" = pure (aa (.builtin id))/\s.TypeIs v T/\aI (model X.prog X.w) X.A (getItem v (.ref sl)) (EP X pins σ Q) X.xe s
section
variable {X:Cx}{e m:Expr}{te tm:TE}{pos p2:Pos}
def tSv(r:V->Hp->VK->Prop)(te tm:TE):TE:=fun σ H Q=>te σ H fun x H1=>tm σ H1 fun k H2=>k=.int (-1)/\r x H2 Q
theorem pe_sv{r:V->Hp->VK->Prop}(hr:SvR X r)(he:PE X e te)(hm:PE X m tm):PE X (.Subscript e (.Slice ab ab (aa m) p2) pos) (tSv r te tm):=by
 intro pins s σ H Q I h
 refine Subscript_ (thn (he pins s σ H _ I h) fun v s1 ⟨x,H1,I1,r1,q1⟩=>?_)
 refine wpAny_Slice ?_
 rw[evalPart_none]
 refine aE (aE ?_)
 rw[evalPart_some]
 refine thn (hm pins s1 σ H1 _ I1 q1) fun u s2 ⟨k,H2,I2,r2,ek,q2⟩=>?_
 subst ek
 obtain⟨t,rfl⟩:=r2
 have I4:Inv X pins σ H2 { s2 with heap:=s2.heap.push { cls:=.type "slice",data:=.fields #[.none,.none,.int (-1) t]}}:=I2.kept (t':=s2.toks) fun b ob q=>am _ q
 obtain⟨T,id,hT,ht,hg⟩:=hr pins { s2 with heap:=s2.heap.push { cls:=.type "slice",data:=.fields #[.none,.none,.int (-1) t]}} σ H2 x v t s2.heap.objs.size Q I4 r1 (iC ..) q2
 show aI (model X.prog X.w) X.A (subscriptTail e (.Slice ab ab (aa m) p2) v (.ref s2.heap.objs.size)) (EP X pins σ Q) X.xe { s2 with heap:=s2.heap.push { cls:=.type "slice",data:=.fields #[.none,.none,.int (-1) t]}}
 exact tail_any (ops:=[v,.ref s2.heap.objs.size]) ht hT hg rfl
theorem sv_tup:SvR X (fun x H Q=>∃ a xs,x=.ref a/\SqT X.K H a xs/\∀ p,H p=ab->Q (.ref p) (upd H p (.tup xs.reverse))):=by
 intro pins s σ H x v t sl Q I rx hs h
 obtain⟨a,xs,rfl,hx,q⟩:=h
 cases rx
 obtain⟨its,r,ht,hz⟩:=I.tuple hx
 have hlen:its.toArray.size=xs.length:=by rw[a8];exact r.length.symm
 refine⟨"tuple",_,dv.lookup,ht.typeIs,?_⟩
 refine HT.getItem_tuple_rev ht hs (.int (-1) t) ?_ (by rw[hlen];exact hz)
 refine⟨.ref s.heap.objs.size,_,I.laid (t':=s.toks) (o:=.tup xs.reverse) (fun b ob q=>am _ q) (ai _) ?_,rfl,q _ (I.hok.fresh (ai _))⟩
 have rr:Vals xs.reverse its.reverse:=by
  clear hx q hlen ht hz
  induction r with
  | nil=>exact .nil
  | cons h t ih=>
   rw[dg,dg]
   exact ih.append (.cons h .nil)
 exact⟨by rw[c9];exact hz,_,rr,TupN.new _ _⟩
theorem sv_str:SvR X (fun x H Q=>∃ z,x=.str z/\z.length<=aZ/\Q (.str (L3.mkS z.cps.toList.reverse)) H):=by
 intro pins s σ H x v t sl Q I rx hs h
 obtain⟨z,rfl,hz,q⟩:=h
 obtain⟨tz,rfl⟩:=rx
 obtain⟨o,ho,hc,hd⟩:=hs
 refine⟨"str",_,gq.lookup,typeIs_str _ _ _,?_⟩
 have fin:∀ t' k,EP X pins σ Q (.str (iZ z ab ab (-1,t)) t') { s with toks:=k}:=fun t' k=>⟨.str _,H,I.tok k,⟨t',rfl⟩,by rw[rev_text];exact q⟩
 exact wpAny_getItem_str_slice (l:=ab) (u:=ab) (st:=aa (-1,t)) ⟨o,ho,hc,hd⟩ rfl (post_val_or_str ⟨aL (Txt.sliceBy_le z _ _ (-1,t) (show(-1:Int) ≠ 0 by decide)) hz,fin⟩)
end
end L2
namespace L3
open PySem PySem.Spec PyProof.Rows L2
def gRvT:Ent->Option Ent:=fun x=>(zei x).map fun ds=>.val (.tup ds.reverse)
noncomputable def gRvS:Ent->Option Ent:=fun x=>(sOf x).bind fun z=>gif (sz z.length) (aa (.val (.str (mkS z.cps.toList.reverse))))
section
variable {X:Cx}{e m:Expr}{fe:FE}{pos p2:Pos}
theorem vRvT(he:VE X e fe)(hm:VE X m (ex1 zeV (eC (.int 1)))):VE X (.Subscript e (.Slice ab ab (aa m) p2) pos) (ex1 gRvT fe):=by
 obtain⟨t,w,q0⟩:=he.h
 obtain⟨tm,wm,qm⟩:=hm.h
 refine⟨_,⟨pe_sv sv_tup w.h wm.h⟩,fun B F H σ δ res Q s q k=>?_⟩
 obtain⟨en,q1,q⟩:=bind_some q
 obtain⟨ds,q2,q⟩:=map_some q
 cases q
 cases zdg q2
 refine q0 B F H σ δ _ _ s q1 fun v F1 H1 x1 r1=>?_
 refine qm B F1 H1 σ δ (.val (.int (-1))) _ (s.ext x1) rfl fun u F2 H2 x2 r2=>⟨za3 r2,?_⟩
 cases (show Rep F1 v (.tup ds) from r1) with
 | tup e rs=>
  have xx:=x1.trans x2
  refine⟨_,_,rfl,SqT.of (x2.hh _ _ (x1.fh _ _ e)),fun r hr=>?_⟩
  exact k _ _ _ (xx.trans (Ex.alloc xx.fh hr)) (.tup zaj ((rs.rev.mono x2.ff).mono (Same.alloc (xx.fh.free hr))))
theorem vRvS(he:VE X e fe)(hm:VE X m (ex1 zeV (eC (.int 1)))):VE X (.Subscript e (.Slice ab ab (aa m) p2) pos) (ex1 gRvS fe):=by
 obtain⟨t,w,q0⟩:=he.h
 obtain⟨tm,wm,qm⟩:=hm.h
 refine⟨_,⟨pe_sv sv_str w.h wm.h⟩,fun B F H σ δ res Q s q k=>?_⟩
 obtain⟨en,q1,q⟩:=bind_some q
 obtain⟨z,q2,q⟩:=bind_some q
 obtain⟨hl,qz⟩:=zbi q
 cases qz
 cases zbt q2
 refine q0 B F H σ δ _ _ s q1 fun v F1 H1 x1 r1=>?_
 refine qm B F1 H1 σ δ (.val (.int (-1))) _ (s.ext x1) rfl fun u F2 H2 x2 r2=>⟨za3 r2,?_⟩
 have xx:=x1.trans x2
 exact⟨z,zb6 r1,zdE hl,k _ F2 H2 xx (.str _)⟩
end
end L3

namespace L3
open PySem PySem.Spec PyProof.Rows L2
def zjx:List Ent->Option Ent
 | [x,y]=>(iOf x).bind fun i=>(iOf y).map fun j=>.val (.int (if j<i then j else i))
 | _=>ab
section
variable {X:Cx}
theorem c_min2(hc:X.calm=true:=by rfl):zeW X (.builtin "min") zjx:=⟨_,call_min2 hc,fun H0 F H vs es res Q fh hh r q k=>by
 match es,q with
 | [x,y],q=>
  obtain⟨i,q1,q⟩:=bind_some q
  obtain⟨j,q2,q⟩:=map_some q
  cases za1 q1
  cases za1 q2
  cases q
  cases r with
  | cons r1 r=>
   cases r with
   | cons r2 r=>
    cases r
    cases za3 r1
    cases za3 r2
    exact⟨i,j,rfl,k _ F H (Ex.refl fh) (.int _)⟩⟩
end
end L3

namespace L3
open PySem PySem.Spec PyProof.Rows L2
def zgH(H:Hp)(A:List af):Hp:=fun a=>if a ∈ A then ab else H a
section
variable {K:ag}{B:Bd}{F H F' H' H0:Hp}{σ:Sg}{δ:En}{v:V}{A A':List af}{a:af}{u:HO}{i:Nat}{o o':OT}
theorem zc8(h:a ∈ A):zgH H A a=ab:=if_pos h
theorem zf8(h:a ∉ A):zgH H A a=H a:=if_neg h
theorem zbw(h:zgH H A a=aa u):a ∉ A/\H a=aa u:=by
 by_cases q:a ∈ A
 ·rw[zc8 q] at h;cases h
 ·rw[zf8 q] at h;exact⟨q,h⟩
theorem zcK(h:a ∉ A)(e:H a=aa u):zgH H A a=aa u:=(zf8 h).trans e
structure Chg(H F F' H':Hp)(A:List af):Prop where
 ff:Same F F'
 fh:Same F' H'
 st:Same (zgH H A) H'
 nw:∀ a u,zgH H A a=aa u->isT u=false->F' a=F a
theorem TR.far{Aj:List af}{w:V}{p:OT}(t:TR K F H w p Aj)(c:Chg H F F' H' A)(h:∀ a ∈ Aj,a ∉ A):TR K F' H' w p Aj/\∀ a ∈ Aj,F' a=F a:=
 ⟨t.move c.ff fun a ha=>let⟨_,h1,_⟩:=t.lies a ha;(c.st _ _ (zcK (h a ha) h1)).trans h1.symm,fun a ha=>let⟨_,h1,h2⟩:=t.lies a ha;c.nw _ _ (zcK (h a ha) h1) h2⟩
theorem RS.chg(s:RS K B F H σ δ)(hi:δ[i]? = aa (aa (.obj o)))(hs:σ[i]? = aa (aa v))(t:TR K F H v o A)(c:Chg H F F' H' A)(t':TR K F' H' v o' A')(n':A'.Nodup)(f':∀ a ∈ A',F' a=ab/\zgH H A a=ab) :
  RS K B F' H' σ (δ.set i (aa (.obj o')))/\FX B F F':=by
 obtain⟨A0,t0,n0,f0⟩:=s.at hi hs
 cases t0.det t
 have hB:∀ a u,(B:Hp) a=aa u->zgH H A a=aa u:=fun a u h=>zcK (fun ha=>by rw[(f0 a ha).2] at h;cases h) (s.bh _ _ h)
 have far:∀ (j:Nat) (e:Ent) (w:V) (a:af),i ≠ j->δ[j]? = aa (aa e)->σ[j]? = aa (aa w)->Occ K F H w e a->a ∉ A:=fun j e w a hij h1 h2 h3 ha=>s.ao i j _ e v w a hij hi hs h1 h2 rfl ⟨A,t,ha⟩ h3
 have mv:∀ (j:Nat) (w:V) (p:OT) (Aj:List af),i ≠ j->(δ[j]? = aa (aa (.obj p)) \/ ∃ ks es,δ[j]? = aa (aa (.vwt ks es))/\p=.dcT ks es)->σ[j]? = aa (aa w)->TR K F H w p Aj->TR K F' H' w p Aj/\∀ a ∈ Aj,F' a=F a:=fun j w p Aj hij h1 h2 tj=>
  tj.far c fun a ha=>h1.elim (fun h1=>far j _ w a hij h1 h2 ⟨Aj,tj,ha⟩) fun⟨ks,es,h1,hp⟩=>far j _ w a hij h1 h2 ⟨Aj,hp ▸ tj,ha⟩
 have bk:∀ (j:Nat) (e:Ent) (w:V) (a:af),i ≠ j->δ[j]? = aa (aa e)->σ[j]? = aa (aa w)->Occ K F' H' w e a->Occ K F H w e a:=fun j e w a hij z1 z2 z3=>z3.back (s.at z1 z2) fun p Aj he tj=>by
  rcases he with he | ⟨ks,es,he,ho⟩
  ·subst he;exact(mv j w p Aj hij (.inl z1) z2 tj).1
  ·subst he;exact(mv j w p Aj hij (.inr ⟨ks,es,z1,ho⟩) z2 tj).1
 refine⟨⟨c.fh,fun a u h=>c.st a u (hB a u h),by simp[s.len],fun j e q=>?_,fun a b l2 es e' hab q1 q2 q3 q4=>?_,fun a b e1 e2 v1 v2 ad hab q1 q2 q3 q4 q5 q6 q7=>?_,fun w p hw hp=>?_⟩,⟨c.ff,fun a u h ht=>c.nw a u (hB a u h) ht⟩⟩
 ·rw[bj] at q
  by_cases hij:i=j
  ·subst hij
   rw[if_pos rfl] at q
   split at q
   ·cases q
    exact⟨v,hs,A',t',n',fun a ha=>⟨(f' a ha).1,by
     cases z:(B:Hp) a with
     | none=>rfl
     | some u=>have:=hB a u z;rw[(f' a ha).2] at this;cases this⟩⟩
   ·cases q
  ·rw[if_neg hij] at q
   obtain⟨w,p1,p2⟩:=s.ent j e q
   refine⟨w,p1,?_⟩
   cases e with
   | val d=>exact Rep.mono c.ff p2
   | bor ds=>obtain⟨l,vs,e,p3,p4⟩:=p2;exact⟨l,vs,e,p3,p4.mono c.ff⟩
   | own es=>
    obtain⟨l,vs,e,p3,p4,p5,p6⟩:=p2
    have hl:=far j _ w l hij q p1 e
    exact⟨l,vs,e,c.st _ _ (zcK hl p3),p4.mono c.ff,(c.nw _ _ (zcK hl p3) rfl).trans p5,p6⟩
   | vw es=>
    obtain⟨l,vs,e,p3,p4⟩:=p2
    have hl:=far j _ w l hij q p1 e
    exact⟨l,vs,e,c.st _ _ (zcK hl p3),p4.mono c.ff⟩
   | obj p=>
    obtain⟨Aj,tj,nj,fj⟩:=p2
    obtain⟨m1,m2⟩:=mv j w p Aj hij (.inl q) p1 tj
    exact⟨Aj,m1,nj,fun a ha=>⟨(m2 a ha).trans (fj a ha).1,(fj a ha).2⟩⟩
   | vwt ks es=>obtain⟨Aj,tj⟩:=p2;exact⟨Aj,(mv j w _ Aj hij (.inr ⟨ks,es,q,rfl⟩) p1 tj).1⟩
   | bt ds=>obtain⟨l,vs,e,p3,p4⟩:=p2;exact⟨l,vs,e,p3,p4.mono c.ff⟩
 ·rw[bj] at q1 q3
  by_cases hia:i=a
  ·subst hia
   rw[if_pos rfl] at q1
   split at q1 <;> cases q1
  ·rw[if_neg hia] at q1
   by_cases hib:i=b
   ·subst hib
    rw[if_pos rfl] at q3
    split at q3
    ·cases q3;cases q4
    ·cases q3
   ·rw[if_neg hib] at q3
    exact s.ap a b l2 es e' hab q1 q2 q3 q4
 ·have key:∀ (j:Nat) (e:Ent) (w:V),i ≠ j->δ[j]? = aa (aa e)->σ[j]? = aa (aa w)->Occ K F' H' w e ad->Occ K F' H' v (.obj o') ad->False:=fun j e w hij z1 z2 z3 z4=>by
   have z5:=bk j e w ad hij z1 z2 z3
   obtain⟨u,hu⟩:=s.occ z1 z2 z5
   obtain⟨A2,t2,h2⟩:=z4
   rw[t2.det t'] at h2
   have:=(f' ad h2).2
   rw[zcK (far j e w ad hij z1 z2 z5) hu] at this
   cases this
  rw[bj] at q1 q3
  by_cases hia:i=a
  ·subst hia
   rw[if_pos rfl] at q1
   rw[if_neg hab] at q3
   split at q1
   ·cases q1
    rw[hs] at q2
    cases q2
    exact key b e2 v2 hab q3 q4 q7 q6
   ·cases q1
  ·rw[if_neg hia] at q1
   by_cases hib:i=b
   ·subst hib
    rw[if_pos rfl] at q3
    split at q3
    ·cases q3
     rw[hs] at q4
     cases q4
     exact key a e1 v1 hia q1 q2 q6 q7
    ·cases q3
   ·rw[if_neg hib] at q3
    exact s.ao a b e1 e2 v1 v2 ad hab q1 q2 q3 q4 q5 (bk a e1 v1 ad hia q1 q2 q6) (bk b e2 v2 ad hib q3 q4 q7)
 ·rw[bj] at hp
  by_cases hi0:i=0
  ·subst hi0
   exact s.pn w o hw hi
  ·rw[if_neg hi0] at hp
   exact s.pn w p hw hp
theorem TRs.focus:∀ {vs:List V} {os:List OT} {A:List af} {k:Nat} {x:OT},TRs K F H vs os A->os[k]? = aa x->∃ v A1,vs[k]? = aa v/\TR K F H v x A1/\(∀ a ∈ A1,a ∈ A)/\(A.Nodup->A1.Nodup) /\
  ∀ (F' H':Hp) (x':OT) (A1':List af),A.Nodup->Same F F'->(∀ a ∈ A,a ∉ A1->H' a=H a)->TR K F' H' v x' A1'->A1'.Nodup->(∀ a ∈ A1',a ∈ A1 \/ a ∉ A)->∃ A',TRs K F' H' vs (os.set k x') A'/\A'.Nodup/\∀ a ∈ A',(a ∈ A/\a ∉ A1) \/ a ∈ A1'
 | _,_,_,k,x,.nil,h=>by simp at h
 | _,_,_,0,x,.cons (A:=A0) (A':=A2) t ts,h=>by
  simp at h
  subst h
  refine⟨_,A0,rfl,t,fun a ha=>bz _ ha,fun n=>(bO.mp n).1,fun F' H' x' A1' n sf hh t' n' hd=>?_⟩
  obtain⟨n0,n2,nd⟩:=bO.mp n
  refine⟨A1' ++ A2,.cons t' (ts.move sf fun a ha=>hh a (aJ _ ha) fun h0=>nd a h0 a ha rfl),bO.mpr ⟨n',n2,fun a ha b hb e=>?_⟩,fun a ha=>?_⟩
  ·subst e
   rcases hd a ha with h | h
   ·exact nd a h a hb rfl
   ·exact h (aJ _ hb)
  ·rcases bx.mp ha with h | h
   ·exact .inr h
   ·exact .inl ⟨aJ _ h,fun h0=>nd a h0 a h rfl⟩
 | _,_,_,k+1,x,.cons (A:=A0) (A':=A2) t ts,h=>by
  obtain⟨v,A1,h1,h2,h3,h3n,h4⟩:=TRs.focus (k:=k) (x:=x) ts (by simpa using h)
  refine⟨v,A1,by simpa using h1,h2,fun a ha=>aJ _ (h3 a ha),fun n=>h3n (bO.mp n).2.1,fun F' H' x' A1' n sf hh t' n' hd=>?_⟩
  obtain⟨n0,n2,nd⟩:=bO.mp n
  obtain⟨A',m1,m2,m3⟩:=h4 F' H' x' A1' n2 sf (fun a ha hn=>hh a (aJ _ ha) hn) t' n' fun a ha=>(hd a ha).imp id fun z q=>z (aJ _ q)
  refine⟨A0 ++ A',.cons (t.move sf fun a ha=>hh a (bz _ ha) fun z=>nd a ha a (h3 a z) rfl) m1,bO.mpr ⟨n0,m2,fun a ha b hb e=>?_⟩,fun a ha=>?_⟩
  ·subst e
   rcases m3 a hb with h | h
   ·exact nd a ha a h.1 rfl
   ·rcases hd a h with h | h
    ·exact nd a ha a (h3 a h) rfl
    ·exact h (bz _ ha)
  ·rcases bx.mp ha with h | h
   ·exact .inl ⟨bz _ h,fun z=>nd a h a (h3 a z) rfl⟩
   ·exact(m3 a h).imp (fun z=>⟨aJ _ z.1,z.2⟩) id
theorem TRs.put{y:V}{x:OT}{A1:List af}(ty:TR K F H y x A1):∀ {vs:List V} {os:List OT} {A:List af} {k:Nat},TRs K F H vs os A->k<os.length->A.Nodup->A1.Nodup->(∀ a ∈ A1,a ∉ A)->∃ A',TRs K F H (vs.set k y) (os.set k x) A'/\A'.Nodup/\∀ a ∈ A',a ∈ A \/ a ∈ A1
 | _,_,_,k,.nil,h,_,_,_=>by simp at h
 | _,_,_,0,.cons (A:=A0) (A':=A2) t ts,_,n,n1,hd=>by
  obtain⟨n0,n2,nd⟩:=bO.mp n
  refine⟨A1 ++ A2,.cons ty ts,bO.mpr ⟨n1,n2,fun a ha b hb e=>?_⟩,fun a ha=>?_⟩
  ·subst e;exact hd a ha (aJ _ hb)
  ·exact(bx.mp ha).elim .inr fun z=>.inl (aJ _ z)
 | _,_,_,k+1,.cons (A:=A0) (A':=A2) t ts,h,n,n1,hd=>by
  obtain⟨n0,n2,nd⟩:=bO.mp n
  obtain⟨A',m1,m2,m3⟩:=TRs.put ty (k:=k) ts (by simpa using h) n2 n1 fun a ha z=>hd a ha (aJ _ z)
  refine⟨A0 ++ A',.cons t m1,bO.mpr ⟨n0,m2,fun a ha b hb e=>?_⟩,fun a ha=>?_⟩
  ·subst e
   rcases m3 a hb with z | z
   ·exact nd a ha a z rfl
   ·exact hd a z (bz _ ha)
  ·rcases bx.mp ha with z | z
   ·exact .inl (bz _ z)
   ·exact(m3 a z).imp (aJ _) id
theorem TRs.add{y:V}{x:OT}{A1:List af}(ty:TR K F H y x A1):∀ {vs:List V} {os:List OT} {A:List af},TRs K F H vs os A->∃ A',TRs K F H (vs ++ [y]) (os ++ [x]) A'/\A'=A ++ A1
 | _,_,_,.nil=>⟨A1,by simpa using TRs.cons ty .nil,by simp⟩
 | _,_,_,.cons (A:=A0) t ts=>by
  obtain⟨A',m1,m2⟩:=TRs.add ty ts
  exact⟨A0 ++ A',.cons t m1,by rw[m2,b6]⟩
theorem zdN:∀ {ns:List Str} {vs:List V} {k:Nat} {f:Str} {v:V},ns.Nodup->ns[k]? = aa f->vs[k]? = aa v->(ns.zip vs).lookup f=aa v
 | [],_,_,_,_,_,h,_=>by simp at h
 | _ :: _,[],_,_,_,_,_,h=>by simp at h
 | n :: ns,w :: vs,0,f,v,_,h1,h2=>by
  simp at h1 h2
  subst h1;subst h2
  simp[b5]
 | n :: ns,w :: vs,k+1,f,v,nd,h1,h2=>by
  have h1':ns[k]? = aa f:=by simpa using h1
  have hne:(f == n)=false:=by
   rw[beq_eq_false_iff_ne]
   intro e
   subst e
   exact(aV.mp nd).1 (cg h1')
  rw[bS,b5,hne]
  exact zdN (aV.mp nd).2 h1' (by simpa using h2)
theorem zfy:∀ {ns:List Str} {vs:List V} {f:Str},f ∉ ns->(ns.zip vs).lookup f=ab
 | [],_,_,_=>rfl
 | _ :: _,[],_,_=>rfl
 | n :: ns,w :: vs,f,h=>by
  have hne:(f == n)=false:=by
   rw[beq_eq_false_iff_ne];intro e;exact h (by simp[e])
  rw[bS,b5,hne]
  exact zfy fun z=>h (al _ z)
theorem ziu:∀ {ns:List Str} {vs:List V} {k:Nat} {f:Str} {y:V},ns.Nodup->ns[k]? = aa f->ns.length=vs.length->zfD f y (ns.zip vs)=ns.zip (vs.set k y)
 | [],_,_,_,_,_,h,_=>by simp at h
 | _ :: _,[],_,_,_,_,_,h=>by simp at h
 | n :: ns,w :: vs,0,f,y,_,h,_=>by
  simp at h
  subst h
  simp[zfD]
 | n :: ns,w :: vs,k+1,f,y,nd,h,hl=>by
  have h':ns[k]? = aa f:=by simpa using h
  have hne:¬ n=f:=fun e=>by subst e;exact(aV.mp nd).1 (cg h')
  rw[bS,zfD,if_neg hne,ziu (aV.mp nd).2 h' (by simpa using hl)]
  rfl
theorem putF_new{ns:List Str}{vs:List V}{f:Str}{y:V}(h:f ∉ ns)(hl:ns.length=vs.length):zfD f y (ns.zip vs)=(ns ++ [f]).zip (vs ++ [y]):=by
 induction ns generalizing vs with
 | nil=>
  cases vs with
  | nil=>rfl
  | cons w vs=>simp at hl
 | cons n ns ih=>
  cases vs with
  | nil=>simp at hl
  | cons w vs=>
   have hne:¬ n=f:=fun e=>h (by simp[e])
   rw[bS,zfD,if_neg hne,ih (fun z=>h (al _ z)) (by simpa using hl)]
   rfl
def toO:Ent->Option OT
 | .val d=>aa (.val d)
 | .own ds=>aa (.lst ds)
 | .obj o=>aa o
 | _=>ab
theorem RepR.toO{e:Ent}{x:OT}(r:RepR K H0 F H v e)(q:toO e=aa x):∃ A,TR K F H v x A/\A.Nodup/\∀ a ∈ A,F a=ab/\H0 a=ab:=by
 cases e with
 | val d=>cases q;exact⟨[],.val r,.nil,fun a h=>by cases h⟩
 | own ds=>cases q;obtain⟨l,vs,e,h0,h1,rs,h2⟩:=r;subst e;exact⟨[l],.lst h1 rs,by simp,fun a h=>by simp at h;subst h;exact⟨h2,h0⟩⟩
 | obj o=>cases q;exact r.2
 | _=>cases q
end
noncomputable def isC(c:Str)(ns:List Str):OT->Option (List OT)
 | .ins c' ns' l=>gif (c'=c/\ns'=ns) (aa l)
 | _=>ab
theorem zdJ{c:Str}{ns:List Str}{l:List OT}:isC c ns (.ins c ns l)=aa l:=gif_pos ⟨rfl,rfl⟩
theorem zdt{c:Str}{ns:List Str}{o:OT}{l:List OT}(h:isC c ns o=aa l):o=.ins c ns l:=by
 cases o with
 | ins c' ns' l'=>
  obtain⟨⟨h1,h2⟩,h3⟩:=zbi h
  cases h3
  rw[h1,h2]
 | _=>cases h
def oAt(i:Nat):En->Option OT:=fun δ=>match δ[i]? with
 | some (aa (.obj o))=>aa o
 | _=>ab
theorem zaV{i:Nat}{δ:En}{o:OT}(h:oAt i δ=aa o):δ[i]? = aa (aa (.obj o)):=by
 unfold oAt at h
 split at h
 ·rename_i o' e;cases h;exact e
 ·cases h
def fE:OT->Option Ent
 | .val d=>aa (.val d)
 | .lst ds=>aa (.vw ds)
 | _=>ab
noncomputable def eFld(i:Nat)(c:Str)(ns:List Str)(k:Nat):FE:=fun δ=>((oAt i δ).bind (isC c ns)).bind fun l=>(l[k]?).bind fE
structure ClsF(K:ag)(c:Str)(ns:List Str):Prop where
 h:∀ C,ze0 K c C->Cls K C/\∀ f ∈ ns,NoAttr K C f
theorem zdk{K:ag}{c:Str}{C C':af}(h:ze0 K c C)(h':ze0 K c C'):C=C':=by
 have:=h.symm.trans h'
 simp at this
 exact this
section
variable {X:Cx}{e:Expr}{pos pos' p:Pos}{fe:FE}{x f c:Str}{i k:Nat}{ns nsF:List Str}
theorem vFld(i k:Nat)(hc:ClsF X.K c nsF)(hf:f ∈ nsF:=by decide +kernel)(hk:ns[k]? = aa f:=by rfl)(hn:ns.Nodup:=by decide +kernel)(hN:X.N[i]? = aa x:=by rfl)(hv:Vis X.env.scope x:=by first | exact au rfl | exact bw (au rfl) | exact bw (bw rfl))(hd:(x == ("__debug__" : Str))=false:=by decide)
  (hcd:(x == ("__classdict__" : Str))=false:=by decide) (hb:bU (.Name x p) f X.env (eval (.Name x p) X.env)=eval (.Name x p) X.env:=by rfl):VE X (.Attribute (.Name x p) f pos) (eFld i c ns k):=by
 refine⟨_,⟨pe_fld (wv i hN hv hd hcd).h hb⟩,fun B F H σ δ r Q s q kk=>?_⟩
 obtain⟨l,q1,q⟩:=bind_some q
 obtain⟨o,q0,q1⟩:=bind_some q1
 obtain⟨x1,q2,q⟩:=bind_some q
 cases zdt q1
 obtain⟨v,h1,A,t,_,_⟩:=s.ent i _ (zaV q0)
 cases t with
 | ins hcl e1 e2 hl ts=>
  obtain⟨w,A1,h2,h3,_⟩:=ts.focus q2
  obtain⟨g1,g2⟩:=hc.h _ hcl
  refine⟨_,h1,_,_,_,_,w,rfl,e1,g1,g2 f hf,zdN hn hk h2,?_⟩
  cases x1 with
  | val d=>cases q;cases h3 with | val h3=>exact kk w F H (Ex.refl s.fh) h3
  | lst ds=>cases q;cases h3 with | lst h3 h4=>exact kk _ F H (Ex.refl s.fh) ⟨_,_,rfl,h3,h4⟩
  | ins _ _ _=>cases q
  | dic _ _=>cases q
  | dcT _ _=>cases q
end
section
variable {K:ag}{B:Bd}{F H F1 H1 F' H' H0:Hp}{σ:Sg}{δ:En}{v w:V}{A A' A1 A1':List af}{a dx C:af}{i k:Nat}{o x' x1:OT}{c:Str}{ns ns':List Str}{vs vs':List V}{l l':List OT}
theorem RS.fld(s:RS K B F H σ δ)(x:Ex F H F1 H1)(hi:δ[i]? = aa (aa (.obj (.ins c ns l))))(hs:σ[i]? = aa (aa (.ref a)))(hcl:ze0 K c C)(e1:H a=aa (.ins C dx (ns.zip vs)))(e2:H dx=aa (.own a))(hl:ns.length=vs.length)(ts:TRs K F H vs l A)(n:(a :: dx :: A).Nodup)
  (hl':ns'.length=vs'.length) (ts':TRs K F1 H1 vs' l' A') (n':A'.Nodup) (hA:∀ b ∈ A',b ∈ A \/ (F1 b=ab/\H b=ab)) :
  RS K B F1 (upd H1 a (.ins C dx (ns'.zip vs'))) σ (δ.set i (aa (.obj (.ins c ns' l'))))/\FX B F F1:=by
 have t:TR K F H (.ref a) (.ins c ns l) (a :: dx :: A):=.ins hcl e1 e2 hl ts
 obtain⟨A0,t0,n0,f0⟩:=s.at hi hs
 cases t0.det t
 have fA:∀ b ∈ a :: dx :: A,F1 b=ab:=fun b hb=>((t.ext x).2 b hb).trans (f0 b hb).1
 have hadx:a ≠ dx:=fun e=>(aV.mp n).1 (by rw[e];exact aw)
 have haA:a ∉ A:=fun e=>(aV.mp n).1 (al _ e)
 have hdA:dx ∉ A:=(aV.mp (aV.mp n).2).1
 have ha':a ∉ A':=fun e=>(hA a e).elim haA fun z=>by rw[e1] at z;cases z.2
 have hd':dx ∉ A':=fun e=>(hA dx e).elim hdA fun z=>by rw[e2] at z;cases z.2
 refine s.chg hi hs t ⟨x.ff,fun b u h=>?_,fun b u h=>?_,fun b u h ht=>?_⟩ (.ins hcl zaj (by rw[zan (cj hadx)];exact x.hh _ _ e2) hl' (ts'.move (Same.refl _) fun b hb=>zan fun e=>ha' (e ▸ hb))) ?_ fun b hb=>?_
 ·rw[zan fun e=>by subst e;rw[fA b aw] at h;cases h]
  exact x.fh _ _ h
 ·obtain⟨h1,h2⟩:=zbw h
  rw[zan fun e=>h1 (by rw[e];exact aw)]
  exact x.hh _ _ h2
 ·exact x.nw _ _ (zbw h).2 ht
 ·refine aV.mpr ⟨fun h=>?_,aV.mpr ⟨hd',n'⟩⟩
  rcases aY.mp h with e | e
  ·exact hadx e
  ·exact ha' e
 ·rcases aY.mp hb with e | hb
  ·subst e;exact⟨fA b aw,zc8 aw⟩
  ·rcases aY.mp hb with e | hb
   ·subst e;exact⟨fA b (al _ aw),zc8 (al _ aw)⟩
   ·rcases hA b hb with z | z
    ·exact⟨fA b (al _ (al _ z)),zc8 (al _ (al _ z))⟩
    ·refine⟨z.1,?_⟩
     unfold zgH
     split
     ·rfl
     ·exact z.2
theorem RS.sub(s:RS K B F H σ δ)(hi:δ[i]? = aa (aa (.obj (.ins c ns l))))(hs:σ[i]? = aa (aa (.ref a)))(hcl:ze0 K c C)(e1:H a=aa (.ins C dx (ns.zip vs)))(e2:H dx=aa (.own a))(hl:ns.length=vs.length)(ts:TRs K F H vs l A)
  (hk:l[k]? = aa x1) (hv:vs[k]? = aa w) (t1:TR K F H w x1 A1) (ch:Chg H F F' H' A1) (t':TR K F' H' w x' A1') (n':A1'.Nodup) (f':∀ b ∈ A1',F' b=ab/\zgH H A1 b=ab) :
  RS K B F' H' σ (δ.set i (aa (.obj (.ins c ns (l.set k x')))))/\FX B F F':=by
 have t:TR K F H (.ref a) (.ins c ns l) (a :: dx :: A):=.ins hcl e1 e2 hl ts
 obtain⟨A0,t0,n,f0⟩:=s.at hi hs
 cases t0.det t
 obtain⟨w',B1,hw,tb,sb,_,go⟩:=ts.focus hk
 rw[hv] at hw
 cases hw
 cases tb.det t1
 have haA:a ∉ A:=fun e=>(aV.mp n).1 (al _ e)
 have hadx:a ≠ dx:=fun e=>(aV.mp n).1 (by rw[e];exact aw)
 have hdA:dx ∉ A:=(aV.mp (aV.mp n).2).1
 have nA:A.Nodup:=(aV.mp (aV.mp n).2).2
 have stay:∀ b u,b ∉ A1->H b=aa u->H' b=aa u:=fun b u hb hu=>ch.st _ _ (zcK hb hu)
 have new:∀ b ∈ A1',∀ u,b ∉ A1->H b ≠ aa u:=fun b hb u h1 h2=>by have:=(f' b hb).2;rw[zcK h1 h2] at this;cases this
 obtain⟨A2,m1,m2,m3⟩:=go F' H' x' A1' nA ch.ff (fun b hb hn=>by
  obtain⟨u,hu,_⟩:=ts.lies b hb
  rw[stay b u hn hu,hu]) t' n' fun b hb=>by
   by_cases h1:b ∈ A1
   ·exact .inl h1
   ·exact .inr fun h2=>by obtain⟨u,hu,_⟩:=ts.lies b h2;exact new b hb u h1 hu
 have ha1:a ∉ A1:=fun e=>haA (sb a e)
 have hd1:dx ∉ A1:=fun e=>hdA (sb dx e)
 have ha2:a ∉ A2:=fun e=>(m3 a e).elim (fun z=>haA z.1) fun z=>new a z _ ha1 e1
 have hd2:dx ∉ A2:=fun e=>(m3 dx e).elim (fun z=>hdA z.1) fun z=>new dx z _ hd1 e2
 refine s.chg hi hs t ⟨ch.ff,ch.fh,fun b u h=>?_,fun b u h ht=>?_⟩ (.ins hcl (stay _ _ ha1 e1) (stay _ _ hd1 e2) hl m1) ?_ fun b hb=>?_
 ·obtain⟨h1,h2⟩:=zbw h
  exact stay b u (fun e=>h1 (al _ (al _ (sb b e)))) h2
 ·obtain⟨h1,h2⟩:=zbw h
  exact ch.nw b u (zcK (fun e=>h1 (al _ (al _ (sb b e)))) h2) ht
 ·refine aV.mpr ⟨fun h=>?_,aV.mpr ⟨hd2,m2⟩⟩
  rcases aY.mp h with e | e
  ·exact hadx e
  ·exact ha2 e
 ·have old:∀ b u,b ∈ a :: dx :: A->b ∉ A1->H b=aa u->isT u=false->F' b=ab/\zgH H (a :: dx :: A) b=ab:=fun b u h1 h2 h3 h4=>⟨(ch.nw b u (zcK h2 h3) h4).trans (f0 b h1).1,zc8 h1⟩
  rcases aY.mp hb with e | hb
  ·subst e;exact old b _ aw ha1 e1 rfl
  ·rcases aY.mp hb with e | hb
   ·subst e;exact old b _ (al _ aw) hd1 e2 rfl
   ·rcases m3 b hb with z | z
    ·obtain⟨u,hu,hu'⟩:=ts.lies b z.1
     exact old b u (al _ (al _ z.1)) z.2 hu hu'
    ·refine⟨(f' b z).1,?_⟩
     by_cases h1:b ∈ A1
     ·exact zc8 (al _ (al _ (sb b h1)))
     ·have:=(f' b z).2
      rw[zf8 h1] at this
      unfold zgH
      split
      ·rfl
      ·exact this
end
noncomputable def zh6(i:Nat)(c:Str)(ns:List Str)(k:Nat)(fe:FE):FS:=fun δ=>((fe δ).bind toO).bind fun y=>((oAt i δ).bind (isC c ns)).bind fun l=>if k<l.length then aa (.nx (δ.set i (aa (.obj (.ins c ns (l.set k y)))))) else ab
noncomputable def fFNew(i:Nat)(c:Str)(ns:List Str)(f:Str)(fe:FE):FS:=fun δ=>((fe δ).bind toO).bind fun y=>((oAt i δ).bind (isC c ns)).bind fun l=>aa (.nx (δ.set i (aa (.obj (.ins c (ns ++ [f]) (l ++ [y]))))))
def lOf:OT->Option (List D)
 | .lst ds=>aa ds
 | _=>ab
noncomputable def fFApp(i:Nat)(c:Str)(ns:List Str)(k:Nat)(fe:FE):FS:=fun δ=>((oAt i δ).bind (isC c ns)).bind fun l=>((l[k]?).bind lOf).bind fun ds=>((fe δ).bind asV).bind fun d=>gif (sz (ds.length+1)) (aa (.nx (δ.set i (aa (.obj (.ins c ns (l.set k (.lst (ds ++ [d])))))))))
section
variable {X:Cx}{e:Expr}{pos pos' p:Pos}{fe:FE}{x f c:Str}{i k:Nat}{ns nsF:List Str}
theorem sFSet(i k:Nat)(hc:ClsF X.K c nsF)(he:VE X e fe)(hf:f ∈ nsF:=by decide +kernel)(hk:ns[k]? = aa f:=by rfl)(hn:ns.Nodup:=by decide +kernel)(hfew:ns.length<1000:=by decide)(hN:X.N[i]? = aa x:=by rfl)(hv:Vis X.env.scope x:=by first | exact au rfl | exact bw (au rfl) | exact bw (bw rfl))(hd:(x == ("__debug__" : Str))=false:=by decide)
  (hcd:(x == ("__classdict__" : Str))=false:=by decide) (hs:swapsWith e (aa (.Attribute (.Name x p) f pos')) pos.line X.env=pure false:=by rfl):VS X (.Assign [.Attribute (.Name x p) f pos'] e pos) (zh6 i c ns k fe):=by
 obtain⟨t,w,m⟩:=he.h
 refine⟨_,⟨ps_fld (wv i hN hv hd hcd).h w.h hs⟩,fun B F H σ δ out DD s q kk=>?_⟩
 obtain⟨y,q1,q⟩:=bind_some q
 obtain⟨r,q1,q2⟩:=bind_some q1
 obtain⟨l,q3,q⟩:=bind_some q
 obtain⟨o,q3,q4⟩:=bind_some q3
 split at q
 ·rename_i hlt
  cases q
  cases zdt q4
  refine m B F H σ δ r _ s q1 fun yv F1 H1 x1 z=>?_
  obtain⟨v,h1,A,t,n,h⟩:=s.ent i _ (zaV q3)
  cases t with
  | ins hcl e1 e2 hl ts=>
   obtain⟨g1,g2⟩:=hc.h _ hcl
   obtain⟨A1,ty,n1,f1⟩:=z.toO q2
   have nA:=(aV.mp (aV.mp n).2).2
   obtain⟨A',m1,m2,m3⟩:=TRs.put ty (ts.move x1.ff fun b hb=>let⟨u,hu,_⟩:=ts.lies b hb;(x1.hh _ _ hu).trans hu.symm) hlt nA n1 fun b hb hb'=>by
    obtain⟨u,hu,_⟩:=ts.lies b hb'
    rw[(f1 b hb).2] at hu
    cases hu
   obtain⟨r1,r2⟩:=s.fld (ns':=ns) x1 (zaV q3) h1 hcl e1 e2 hl ts n (by rw[gH];exact hl) m1 m2 fun b hb=>(m3 b hb).imp id fun z=>f1 b z
   refine⟨_,h1,_,_,_,_,rfl,x1.hh _ _ e1,g1,g2 f hf,?_,?_⟩
   ·rw[gJ];lia
   ·rw[ziu hn hk hl]
    exact kk σ F1 _ r1 r2
 ·cases q
theorem sFNew(i:Nat)(hc:ClsF X.K c nsF)(he:VE X e fe)(hf:f ∈ nsF:=by decide +kernel)(hn:f ∉ ns:=by decide +kernel)(hfew:ns.length<1000:=by decide)(hN:X.N[i]? = aa x:=by rfl)(hv:Vis X.env.scope x:=by first | exact au rfl | exact bw (au rfl) | exact bw (bw rfl))(hd:(x == ("__debug__" : Str))=false:=by decide)
  (hcd:(x == ("__classdict__" : Str))=false:=by decide) (hs:swapsWith e (aa (.Attribute (.Name x p) f pos')) pos.line X.env=pure false:=by rfl):VS X (.Assign [.Attribute (.Name x p) f pos'] e pos) (fFNew i c ns f fe):=by
 obtain⟨t,w,m⟩:=he.h
 refine⟨_,⟨ps_fld (wv i hN hv hd hcd).h w.h hs⟩,fun B F H σ δ out DD s q kk=>?_⟩
 obtain⟨y,q1,q⟩:=bind_some q
 obtain⟨r,q1,q2⟩:=bind_some q1
 obtain⟨l,q3,q⟩:=bind_some q
 obtain⟨o,q3,q4⟩:=bind_some q3
 cases q
 cases zdt q4
 refine m B F H σ δ r _ s q1 fun yv F1 H1 x1 z=>?_
 obtain⟨v,h1,A,t,n,h⟩:=s.ent i _ (zaV q3)
 cases t with
 | ins hcl e1 e2 hl ts=>
  obtain⟨g1,g2⟩:=hc.h _ hcl
  obtain⟨A1,ty,n1,f1⟩:=z.toO q2
  have nA:=(aV.mp (aV.mp n).2).2
  obtain⟨A',m1,m2⟩:=TRs.add ty (ts.move x1.ff fun b hb=>let⟨u,hu,_⟩:=ts.lies b hb;(x1.hh _ _ hu).trans hu.symm)
  subst m2
  obtain⟨r1,r2⟩:=s.fld (ns':=ns ++ [f]) x1 (zaV q3) h1 hcl e1 e2 hl ts n (by simp[hl]) m1 (bO.mpr ⟨nA,n1,fun b hb b' hb' e=>by
   subst e
   obtain⟨u,hu,_⟩:=ts.lies b hb
   rw[(f1 b hb').2] at hu
   cases hu⟩) fun b hb=>(bx.mp hb).imp id fun z=>f1 b z
  refine⟨_,h1,_,_,_,_,rfl,x1.hh _ _ e1,g1,g2 f hf,?_,?_⟩
  ·rw[gJ];lia
  ·rw[putF_new hn hl]
   exact kk σ F1 _ r1 r2
theorem sFApp(i k:Nat){apos cpos:Pos}(hc:ClsF X.K c nsF)(he:VE X e fe)(hf:f ∈ nsF:=by decide +kernel)(hk:ns[k]? = aa f:=by rfl)(hn:ns.Nodup:=by decide +kernel)(hN:X.N[i]? = aa x:=by rfl)(hv:Vis X.env.scope x:=by first | exact au rfl | exact bw (au rfl) | exact bw (bw rfl))(hd:(x == ("__debug__" : Str))=false:=by decide)
  (hcd:(x == ("__classdict__" : Str))=false:=by decide) (hb:bU (.Name x p) f X.env (eval (.Name x p) X.env)=eval (.Name x p) X.env:=by rfl)
  (hbase:bU (.Attribute (.Name x p) f pos') "append" X.env (eval (.Attribute (.Name x p) f pos') X.env)=eval (.Attribute (.Name x p) f pos') X.env:=by rfl) (hline:(apos.endLine == cpos.line)=true:=by rfl) (h1:zam e=true:=by rfl)
  (hs:swapsWith (.Call (.Attribute (.Attribute (.Name x p) f pos') "append" apos) [e] [] cpos) ab pos.line X.env=pure false:=by rfl) :
  VS X (.Expr (.Call (.Attribute (.Attribute (.Name x p) f pos') "append" apos) [e] [] cpos) pos) (fFApp i c ns k fe):=by
 obtain⟨t,w,m⟩:=he.h
 refine⟨_,sex (wbm eE gl gp zfs ⟨pe_fld (wv i hN hv hd hcd).h hb⟩ (wac w wnil h1) hbase rfl hline h1 rfl) hs,fun B F H σ δ out DD s q kk=>?_⟩
 obtain⟨l,q3,q⟩:=bind_some q
 obtain⟨o,q3,q4⟩:=bind_some q3
 obtain⟨ds,q5,q⟩:=bind_some q
 obtain⟨x1,q5,q6⟩:=bind_some q5
 obtain⟨d,q1,q⟩:=bind_some q
 obtain⟨r,q1,q2⟩:=bind_some q1
 obtain⟨hlen,qz⟩:=zbi q
 cases qz
 cases zdt q4
 obtain⟨v,h1,A,t,n,h⟩:=s.ent i _ (zaV q3)
 cases t with
 | ins hcl e1 e2 hl ts=>
  obtain⟨g1,g2⟩:=hc.h _ hcl
  obtain⟨w,A1,h2,h3,h4,_⟩:=ts.focus q5
  refine⟨_,h1,_,_,_,_,w,rfl,e1,g1,g2 f hf,zdN hn hk h2,?_⟩
  cases x1 with
  | val _=>cases q6
  | ins _ _ _=>cases q6
  | dic _ _=>cases q6
  | dcT _ _=>cases q6
  | lst _=>
   cases q6
   cases h3 with
   | @lst ad vs _ h5 h6=>
    refine⟨.inl ⟨rfl,_,SqL.of h5⟩,?_⟩
    refine m B F H σ δ r _ s q1 fun y F1 H1 x1 z=>?_
    obtain⟨F2,x2,sm,r2⟩:=RepR.frz x1 (Same.refl _) z q2
    refine⟨ad,vs,y,rfl,rfl,x2.hh _ _ h5,?_,?_⟩
    ·rw[h6.length,ck];unfold sz at hlen;lia
    ·have fl:F2 ad=ab:=(x2.nw _ _ h5 rfl).trans (h ad (al _ (al _ (h4 ad (by simp))))).1
     obtain⟨z1,z2⟩:=s.sub (A1:=[ad]) (H':=upd H1 ad (.lst (vs ++ [y]))) (x':=.lst (ds ++ [d])) (zaV q3) h1 hcl e1 e2 hl ts q5 h2 (.lst h5 h6) ⟨x2.ff,fun b u hb=>by
       rw[zan fun e=>by subst e;rw[fl] at hb;cases hb]
       exact x2.fh _ _ hb,fun b u hb=>by
       obtain⟨z1,z2⟩:=zbw hb
       rw[zan fun e=>z1 (by simp[e])]
       exact x2.hh _ _ z2,fun b u hb ht=>x2.nw _ _ (zbw hb).2 ht⟩
      (.lst zaj ((h6.mono x2.ff).append (.one r2))) (by simp) fun b hb=>by
       simp at hb
       subst hb
       exact⟨fl,zc8 (by simp)⟩
     exact kk σ F2 _ z1 z2
end
end L3

namespace L3
open PySem PySem.Spec PyProof.Rows L2
abbrev FXE:=En->Option (D × En)
abbrev FXT:=En->Option (Bool × En)
abbrev FXA:=En->Option (List D × En)
abbrev GM:=OT->List D->Option (D × OT)
def SemX(K:ag)(t:TE)(f:FXE):Prop:=∀ (B:Bd) (F H:Hp) (σ:Sg) (δ:En) (d:D) (δ':En) (Q:VK),RS K B F H σ δ->f δ=aa (d,δ')->(∀ v F' H',RS K B F' H' σ δ'->FX B F F'->Rep F' v d->Q v H')->t σ H Q
def SemXT(K:ag)(t:TT)(f:FXT):Prop:=∀ (B:Bd) (F H:Hp) (σ:Sg) (δ:En) (b:Bool) (δ':En) (Q:Bool->Hp->Prop),RS K B F H σ δ->f δ=aa (b,δ')->(∀ F' H',RS K B F' H' σ δ'->FX B F F'->Q b H')->t σ H Q
def SemXA(K:ag)(t:TA)(f:FXA):Prop:=∀ (B:Bd) (F H:Hp) (σ:Sg) (δ:En) (ds:List D) (δ':En) (Q:List V->Hp->Prop),RS K B F H σ δ->f δ=aa (ds,δ')->(∀ vs F' H',RS K B F' H' σ δ'->FX B F F'->Reps F' vs ds->Q vs H')->t σ H Q
structure VX(X:Cx)(e:Expr)(f:FXE):Prop where
 h:∃ t,WE X e t/\SemX X.K t f
structure VXT(X:Cx)(e:Expr)(f:FXT):Prop where
 h:∃ t,WT X e t/\SemXT X.K t f
structure VXA(X:Cx)(es:List Expr)(f:FXA):Prop where
 h:∃ t,WA X es t/\SemXA X.K t f
def xP(fe:FE):FXE:=fun δ=>((fe δ).bind asV).map fun d=>(d,δ)
def zhL:FXA:=fun δ=>aa ([],δ)
def zbD(fe:FXE)(fa:FXA):FXA:=fun δ=>(fe δ).bind fun p=>(fa p.2).map fun q=>(p.1 :: q.1,q.2)
def x2(g:Ent->Ent->Option Ent)(fa fb:FXE):FXE:=fun δ=>(fa δ).bind fun p=>(fb p.2).bind fun q=>((g (.val p.1) (.val q.1)).bind asV).map fun d=>(d,q.2)
section
variable {X:Cx}{a b c e:Expr}{es rest:List Expr}{pos p:Pos}{fa fb:FXE}{fs:FXA}{ft:FXT}{fe:FE}{x:Str}
theorem zcS(he:VE X e fe):VX X e (xP fe):=by
 obtain⟨t,w,m⟩:=he.h
 refine⟨t,w,fun B F H σ δ d δ' Q s q k=>?_⟩
 obtain⟨d',q1,q⟩:=map_some q
 cases q
 obtain⟨r,q1,q2⟩:=bind_some q1
 refine m B F H σ δ r _ s q1 fun v F1 H1 x1 z=>?_
 obtain⟨F2,x2,_,r2⟩:=RepR.frz x1 (Same.refl _) z q2
 exact k v F2 H1 (s.ext x2) (.of x2 s.bh) r2
theorem xnil:VXA X [] zhL:=⟨_,wnil,fun B F H σ δ ds δ' Q s q k=>by cases q;exact k [] F H s .refl .nil⟩
theorem zdc(ha:VX X e fa)(hr:VXA X es fs)(h:zam e=true:=by rfl):VXA X (e :: es) (zbD fa fs):=by
 obtain⟨ta,wa,sa⟩:=ha.h
 obtain⟨tb,wb,sb⟩:=hr.h
 refine⟨_,wac wa wb h,fun B F H σ δ ds δ' Q s q k=>?_⟩
 obtain⟨p1,q1,q⟩:=bind_some q
 obtain⟨p2,q2,q⟩:=map_some q
 cases q
 refine sa B F H σ δ p1.1 p1.2 _ s q1 fun v F1 H1 s1 y1 r1=>?_
 exact sb B F1 H1 σ p1.2 p2.1 p2.2 _ s1 q2 fun vs F2 H2 s2 y2 r2=>k _ F2 H2 s2 (y1.trans y2) (.cons (Rep.mono y2.ff r1) r2)
theorem SemX.op{K:ag}{r:R2}{ta tb:TE}{g:Ent->Ent->Option Ent}(hr:zjl K r g)(ha:SemX K ta fa)(hb:SemX K tb fb):SemX K (tOp r ta tb) (x2 g fa fb):=fun B F H σ δ d δ' Q s q k=>by
 obtain⟨p1,q1,q⟩:=bind_some q
 obtain⟨p2,q2,q⟩:=bind_some q
 obtain⟨d',q3,q⟩:=map_some q
 cases q
 obtain⟨res,q3,q4⟩:=bind_some q3
 refine ha B F H σ δ p1.1 p1.2 _ s q1 fun v F1 H1 s1 y1 r1=>?_
 refine hb B F1 H1 σ p1.2 p2.1 p2.2 _ s1 q2 fun w F2 H2 s2 y2 r2=>?_
 refine hr H2 F2 H2 v w (.val p1.1) (.val p2.1) res Q s2.fh (Same.refl _) (Rep.mono y2.ff r1) r2 q3 fun v' F' H' x3 r3=>?_
 obtain⟨F4,x4,_,r4⟩:=RepR.frz x3 (Same.refl _) r3 q4
 exact k v' F4 H' (s2.ext x4) ((y1.trans y2).trans (.of x4 s2.bh)) r4
theorem xop{op:Operator}{g:Ent->Ent->Option Ent}(ho:OpD X (binaryOp op) g)(ha:VX X a fa)(hb:VX X b fb):VX X (.BinOp a op b pos) (x2 g fa fb):=
 let⟨_,wa,sa⟩:=ha.h;let⟨_,wb,sb⟩:=hb.h;let⟨_,h1,h2⟩:=ho;⟨_,wop h1 wa wb,.op h2 sa sb⟩
end
def fX(fx:FXE):FS:=fun δ=>(fx δ).map fun p=>.nx p.2
def zfE(i:Nat)(fx:FXE):FS:=fun δ=>(fx δ).map fun p=>.nx (p.2.set i (aa (.val p.1)))
def zjk(fx:FXE):FS:=fun δ=>(fx δ).map fun p=>.rt (.val p.1) p.2
def fSetO(i:Nat)(fe:FE):FS:=fun δ=>(fe δ).bind fun r=>match r with
 | .obj o=>aa (.nx (δ.set i (aa (.obj o))))
 | _=>ab
section
variable {X:Cx}{e c:Expr}{pos pos' p:Pos}{fx:FXE}{ft:FXT}{fe:FE}{x:Str}{body els:List Stmt}{f g:FS}
theorem sX(h:VX X e fx)(hs:swapsWith e ab pos.line X.env=pure false:=by rfl):VS X (.Expr e pos) (fX fx):=by
 obtain⟨t,w,m⟩:=h.h
 refine⟨_,sex w hs,fun B F H σ δ out DD s q k=>?_⟩
 obtain⟨p1,q1,q⟩:=map_some q
 cases q
 exact m B F H σ δ p1.1 p1.2 _ s q1 fun v F1 H1 s1 y1 _=>k σ F1 H1 s1 y1
theorem zhO{i:Nat}(hN:X.N.Nodup)(hi:X.N[i]? = aa x)(hx:Loc X.env.scope x)(h:VX X e fx)(hs:swapsWith e (aa (.Name x pos')) pos.line X.env=pure false:=by rfl)(hf:X.fn x=true \/ X.env.scope.names.lookup x=aa .local:=by first | exact .inl rfl | exact .inr rfl | assumption) :
  VS X (.Assign [.Name x pos'] e pos) (zfE i fx):=by
 obtain⟨t,w,m⟩:=h.h
 refine⟨_,sset hN hi hx w hs hf,fun B F H σ δ out DD s q k=>?_⟩
 obtain⟨p1,q1,q⟩:=map_some q
 cases q
 exact m B F H σ δ p1.1 p1.2 _ s q1 fun v F1 H1 s1 y1 r1=>k _ F1 H1 (s1.putV i r1) y1
theorem sXRet(h:VX X e fx):VS X (.Return (aa e) pos) (zjk fx):=by
 obtain⟨t,w,m⟩:=h.h
 refine⟨_,sret w,fun B F H σ δ out DD s q k=>?_⟩
 obtain⟨p1,q1,q⟩:=map_some q
 cases q
 exact m B F H σ δ p1.1 p1.2 _ s q1 fun v F1 H1 s1 y1 r1=>k v σ F1 H1 s1 y1 r1
theorem sSetO{i:Nat}(h0:0<i)(hN:X.N.Nodup)(hi:X.N[i]? = aa x)(hx:Loc X.env.scope x)(he:VE X e fe)(hs:swapsWith e (aa (.Name x pos')) pos.line X.env=pure false:=by rfl)(hf:X.fn x=true \/ X.env.scope.names.lookup x=aa .local:=by first | exact .inl rfl | exact .inr rfl | assumption) :
  VS X (.Assign [.Name x pos'] e pos) (fSetO i fe):=by
 obtain⟨t,w,m⟩:=he.h
 refine⟨_,sset hN hi hx w hs hf,fun B F H σ δ out DD s q k=>?_⟩
 obtain⟨r,q1,q⟩:=bind_some q
 cases r with
 | obj o=>cases q;exact m B F H σ δ _ _ s q1 fun v F' H' x z=>k _ F' H' (s.putO x i h0 z) (.of x s.bh)
 | _=>cases q
end
def spM(K:ag)(g:GM):Sp:=fun vs H Q _=>∃ v ws F o A ds d o',vs=v :: ws/\Same F H/\TR K F H v o A/\A.Nodup/\(∀ a ∈ A,F a=ab)/\Reps F ws ds/\g o ds=aa (d,o') /\
 ∀ x F' H' A',Chg H F F' H' A->TR K F' H' v o' A'->A'.Nodup->(∀ a ∈ A',F' a=ab/\zgH H A a=ab)->Rep F' x d->Q x H'
def endM:Out->Option (D × OT)
 | .rt (.val d) δ=>(oAt 0 δ).map fun o=>(d,o)
 | .nx δ=>(oAt 0 δ).map fun o=>(.non,o)
 | _=>ab
def zhH(n m:Nat)(f:FS)(o:OT)(ds:List D):Option (D × OT):=if ds.length=n then (f (aa (.obj o) :: (ds.map fun d=>aa (.val d)) ++ aD m ab)).bind endM else ab
section
variable {P:aR}{w:aU}{K:ag}{mg:Str->Option ae}{base:ba}{x qual:Str}{st:Stmt}{f:af}{fd:bD}{N ps:List Str}{k n:Nat}{g:GM}
theorem zfQ(F:FunA K x qual st f fd)(S:FnScope N ps (zad st))(fb:FS)(hk:ps.length=n+1)(hg:∀ o ds r,g o ds=aa r->zhH n (N.length - ps.length) fb o ds=aa r)
  (hbody:∀ (cdv:ae) (A:a9) (outer:List Env) (s:ah) (H:Hp) (E:XK),Room k (A.deeper (envOfC qual (zad st) s.heap.objs.size f cdv))->VSs (cxOf CX0 P w K mg base N qual (zad st) f cdv A outer s H E).nox (zag st) fb) :
  FnOk P w K mg base CX0 (k+1) f fd ps (spM K g):=by
 obtain⟨oc,od,dV,kV,doc,pm,an,cdv,ct,osl,rfl,lk,hcd⟩:=F.ex
 refine fn_of lk hcd S (fun vs H Q E h=>?_) fun A outer s H vs Q E hr h=>?_
 ·obtain⟨v,ws,F,o,A,ds,d,o',rfl,_,_,_,_,rs,q,_⟩:=h
  have:=hg _ _ _ q
  unfold zhH at this
  split at this
  ·rename_i hl;rw[aQ,rs.length,hl,hk]
  ·cases this
 ·obtain⟨v,ws,F,o,A,ds,d,o',rfl,fh,t,nd,fA,rs,q,kk⟩:=h
  obtain⟨tt,wt,m⟩:=(hbody cdv _ outer s H E hr).h
  refine⟨tt,wt.h.nox,?_⟩
  have q2:=hg _ _ _ q
  unfold zhH at q2
  split at q2
  ·rename_i hl
   obtain⟨out,q3,q4⟩:=bind_some q2
   have hws:=rs.length
   have ent:∀ (i:Nat) (e:Ent),(aa (Ent.obj o) :: (ds.map fun d=>aa (Ent.val d)) ++ aD (N.length - ps.length) ab)[i]? = aa (aa e)->(i=0/\e=.obj o) \/ ∃ j d,i=j+1/\ds[j]? = aa d/\e=.val d:=fun i e h=>by
    cases i with
    | zero=>simp at h;exact .inl ⟨rfl,h.symm⟩
    | succ j=>
     rw[gv,c8] at h
     by_cases hj:j<(ds.map fun d=>aa (Ent.val d)).length
     ·rw[ca hj,ax] at h
      cases z:ds[j]? with
      | none=>rw[z] at h;cases h
      | some d=>rw[z] at h;cases h;exact .inr ⟨j,d,rfl,z,rfl⟩
     ·rw[cN (by lia),eB] at h
      split at h <;> cases h
   have sv:∀ (i:Nat) (y:V),(v :: ws)[i]? = aa y->(L2.start N (v :: ws))[i]? = aa (aa y):=fun i y h=>by
    unfold L2.start
    rw[ca (by rw[aq];exact(aO.mp h).1),ax,h]
    rfl
   have s0:RS K ⟨zgH H A,aa v⟩ F H (L2.start N (v :: ws)) (aa (.obj o) :: (ds.map fun d=>aa (.val d)) ++ aD (N.length - ps.length) ab):=by
    refine⟨fh,fun a u h=>(zbw h).2,?_,fun i e h=>?_,fun a b l es e hab h1=>?_,fun a b e1 e2 v1 v2 ad hab q1 q2 q3 q4 q5 q6 q7=>?_,fun w p hw _=>?_⟩
    ·unfold L2.start
     simp only[aP,aq,eW,aQ]
     lia
    ·rcases ent i e h with ⟨rfl,rfl⟩ | ⟨j,d,rfl,hd,rfl⟩
     ·exact⟨v,sv 0 v rfl,A,t,nd,fun a ha=>⟨fA a ha,zc8 ha⟩⟩
     ·obtain⟨y,hy,ry⟩:=rs.get hd
      exact⟨y,sv (j+1) y (by simpa using hy),ry⟩
    ·rcases ent a _ h1 with ⟨_,z⟩ | ⟨j,d,_,_,z⟩ <;> cases z
    ·rcases ent a _ q1 with ⟨rfl,rfl⟩ | ⟨j,d,_,_,rfl⟩
     ·rcases ent b _ q3 with ⟨rfl,_⟩ | ⟨j,d,_,_,rfl⟩
      ·exact hab rfl
      ·exact q7
     ·cases q5
    ·cases hw
     exact sv 0 v rfl
   have fin:∀ (δ':En) (σ':Sg) (F' H':Hp) (y:V),RS K ⟨zgH H A,aa v⟩ F' H' σ' δ'->FX (zgH H A) F F'->oAt 0 δ'=aa o'->Rep F' y d->Q y H':=fun δ' σ' F' H' y s' y' ho ry=>by
    have h0:=s'.pn v o' rfl (zaV ho)
    obtain⟨A',t',n',f'⟩:=s'.at (zaV ho) h0
    exact kk y F' H' A' ⟨y'.ff,s'.fh,s'.bh,y'.nw⟩ t' n' f' ry
   refine m ⟨zgH H A,aa v⟩ F H (L2.start N (v :: ws)) _ out _ s0 q3 ?_
   cases out with
   | nx δ'=>
    obtain⟨o2,h1,h2⟩:=map_some q4
    cases h2
    exact fun σ' F' H' s' y=>fin δ' σ' F' H' .non s' y h1 .non
   | rt r' δ'=>
    cases r' with
    | val d'=>
     obtain⟨o2,h1,h2⟩:=map_some q4
     cases h2
     exact fun y σ' F' H' s' yy z=>fin δ' σ' F' H' y s' yy h1 z
    | _=>cases q4
   | bk δ'=>cases q4
   | ct δ'=>cases q4
  ·cases q2
end
structure MethD(K:ag)(c:Str)(m:Str)(st:Stmt)(qual:Str)(ps:List Str)(f:af)(fd:bD):Prop where
 fn:FunA K m qual st f fd
 at_:∀ C,ze0 K c C->Meth K C m f
 b:Binds K fd ps []
noncomputable def xM(i:Nat)(c:Str)(ns:List Str)(g:GM)(fa:FA):FXE:=fun δ=>(oAt i δ).bind fun o=>(isC c ns o).bind fun _=>((fa δ).bind zey).bind fun ds=>(g o ds).map fun p=>(p.1,δ.set i (aa (.obj p.2)))
noncomputable def xMF(i:Nat)(c:Str)(ns:List Str)(k:Nat)(c2:Str)(ns2:List Str)(g:GM)(fa:FA):FXE:=fun δ=>((oAt i δ).bind (isC c ns)).bind fun l=>(l[k]?).bind fun o=>(isC c2 ns2 o).bind fun _=>((fa δ).bind zey).bind fun ds=>(g o ds).map fun p=>(p.1,δ.set i (aa (.obj (.ins c ns (l.set k p.2)))))
section
variable {X:Cx}{e:Expr}{es:List Expr}{pos pos' p apos:Pos}{fa:FA}{x f m c c2 qual:Str}{ns nsF ns2 nsF2 ps:List Str}{g:GM}{fd:bD}{fm:af}{st:Stmt}{kk j:Nat}{pl:Sem Bool}
theorem SemM.at{K:ag}{C:af}{t:TA}{E:XK}{i:Nat}(sm:SemA K t fa)(hcl:ze0 K c C)(hm:m ∉ ns):SemX K (tMeth C m (spM K g) [] E (tVar i) t) (xM i c ns g fa):=fun B F H σ δ d δ' Q s q k=>by
 obtain⟨o,q0,q⟩:=bind_some q
 obtain⟨l,q1,q⟩:=bind_some q
 obtain⟨ds,q2,q⟩:=bind_some q
 obtain⟨rs,q2,q3⟩:=bind_some q2
 obtain⟨p1,q4,q⟩:=map_some q
 cases q
 cases zdt q1
 obtain⟨v,h1,A,t0,n0,f0⟩:=s.ent i _ (zaV q0)
 cases t0 with
 | ins hcl' e1 e2 hl ts=>
  cases zdk hcl hcl'
  refine⟨_,h1,_,_,_,rfl,e1,zfy hm,?_⟩
  refine sm B F H σ δ rs _ s q2 fun vs F1 H1 x1 r1=>?_
  obtain⟨F2,x2,_,r2⟩:=RepRs.frz x1 (Same.refl _) r1 q3
  have s2:=s.ext x2
  have tt:=((TR.ins hcl' e1 e2 hl ts).ext x2)
  rw[bV]
  refine⟨_,vs,F2,_,_,ds,p1.1,p1.2,rfl,s2.fh,tt.1,n0,fun a ha=>(tt.2 a ha).trans (f0 a ha).1,r2,q4,fun y F' H' A' ch t' n' f' ry=>?_⟩
  obtain⟨z1,z2⟩:=s2.chg (zaV q0) h1 tt.1 ch t' n' f'
  exact k y F' H' z1 ((FX.of x2 s.bh).trans z2) ry
theorem SemM.sub{K:ag}{C2:af}{t:TA}{E:XK}{i k:Nat}(sm:SemA K t fa)(hc:ClsF K c nsF)(hcl2:ze0 K c2 C2)(hm:m ∉ ns2)(hf:f ∈ nsF)(hk:ns[k]? = aa f)(hn:ns.Nodup):SemX K (tMeth C2 m (spM K g) [] E (tFld K (tVar i) f) t) (xMF i c ns k c2 ns2 g fa):=fun B F H σ δ d δ' Q s q kk=>by
 obtain⟨l,q0,q⟩:=bind_some q
 obtain⟨o,q0,q1⟩:=bind_some q0
 obtain⟨o1,q5,q⟩:=bind_some q
 obtain⟨l2,q6,q⟩:=bind_some q
 obtain⟨ds,q2,q⟩:=bind_some q
 obtain⟨rs,q2,q3⟩:=bind_some q2
 obtain⟨p1,q4,q⟩:=map_some q
 cases q
 cases zdt q1
 cases zdt q6
 obtain⟨v,h1,A,t0,n0,f0⟩:=s.ent i _ (zaV q0)
 cases t0 with
 | ins hcl e1 e2 hl ts=>
  obtain⟨g1,g2⟩:=hc.h _ hcl
  obtain⟨w,A1,h2,h3,h4,h4n,_⟩:=ts.focus q5
  have nA:=(aV.mp (aV.mp n0).2).2
  refine⟨_,h1,_,_,_,_,w,rfl,e1,g1,g2 f hf,zdN hn hk h2,?_⟩
  cases h3 with
  | ins hcl' d1 d2 dl us=>
   cases zdk hcl2 hcl'
   refine⟨_,_,_,rfl,d1,zfy hm,?_⟩
   refine sm B F H σ δ rs _ s q2 fun vs F1 H1 x1 r1=>?_
   obtain⟨F2,x2,_,r2⟩:=RepRs.frz x1 (Same.refl _) r1 q3
   have s2:=s.ext x2
   have tt:=((TR.ins hcl' d1 d2 dl us).ext x2)
   have ts2:=ts.move (H':=H1) x2.ff fun b hb=>let⟨u,hu,_⟩:=ts.lies b hb;(x2.hh _ _ hu).trans hu.symm
   rw[bV]
   refine⟨_,vs,F2,_,_,ds,p1.1,p1.2,rfl,s2.fh,tt.1,h4n nA,fun a ha=>(tt.2 a ha).trans (f0 a (al _ (al _ (h4 a ha)))).1,r2,q4,fun y F' H' A' ch t' n' f' ry=>?_⟩
   obtain⟨z1,z2⟩:=s2.sub (zaV q0) h1 hcl (x2.hh _ _ e1) (x2.hh _ _ e2) hl ts2 q5 h2 tt.1 ch t' n' f'
   exact kk y F' H' z1 ((FX.of x2 s.bh).trans z2) ry
theorem semNil{K:ag}:SemA K tNil zae:=fun B F H σ δ rs Q s q k=>by cases q;exact k [] F H (Ex.refl s.fh) .nil
variable {CX:CXT}{E:XK}
structure ClsD(K:ag)(mg:Str->Option ae)(c:Str)(nsF:List Str)(C:af):Prop where
 at_:ze0 K c C
 mg:mg c=aa (.ref C)
 cl:Cls K C
 no:∀ f ∈ nsF,NoAttr K C f
theorem ClsD.toF{K:ag}{mg:Str->Option ae}{C:af}(D:ClsD K mg c nsF C):ClsF K c nsF:=⟨fun C' h=>by cases zdk D.at_ h;exact⟨D.cl,D.no⟩⟩
theorem xmeth{C:af}(i:Nat)(DC:ClsD X.K X.mg c nsF C)(D:MethD X.K c m st qual ps fm fd)(F:FnOk X.prog X.w X.K X.mg X.base CX kk fm fd ps (spM X.K g))(hr:Room j X.A)(hx:zcU CX X E)(ha:VA X (e :: es) fa)(hm:m ∉ ns:=by decide +kernel)(hjk:kk<=j:=by decide)
  (hN:X.N[i]? = aa x:=by rfl) (hv:Vis X.env.scope x:=by first | exact au rfl | exact bw (au rfl) | exact bw (bw rfl)) (hd:(x == ("__debug__" : Str))=false:=by decide) (hcd:(x == ("__classdict__" : Str))=false:=by decide)
  (h1:zam e=true:=by rfl) (h2:es.all zam=true:=by rfl)
  (ht:eval (.Call (.Attribute (.Name x p) m apos) (e :: es) [] pos) X.env=(do
   let ov <- eval (.Name x p) X.env
   standAt apos.atName
   let (f,first) <- holding [ov] (getMethod ov m pl)
   callWith pos f first (backTo pos (be (e :: es) X.env)) (backToKw pos (keywordEach [] X.env))):=by rfl) :
  VX X (.Call (.Attribute (.Name x p) m apos) (e :: es) [] pos) (xM i c ns g fa):=
 let⟨_,w,sm⟩:=ha.h;⟨_,⟨pe_meth (wv i hN hv hd hcd).h DC.cl (D.at_ _ DC.at_) F (hr.mono hjk) D.b .nil hx w.h (zar h1) (zcv h2) ht⟩,SemM.at sm DC.at_ hm⟩
theorem xmeth0{C:af}(i:Nat)(DC:ClsD X.K X.mg c nsF C)(D:MethD X.K c m st qual ps fm fd)(F:FnOk X.prog X.w X.K X.mg X.base CX kk fm fd ps (spM X.K g))(hr:Room j X.A)(hx:zcU CX X E)(hm:m ∉ ns:=by decide +kernel)(hjk:kk<=j:=by decide)
  (hN:X.N[i]? = aa x:=by rfl) (hv:Vis X.env.scope x:=by first | exact au rfl | exact bw (au rfl) | exact bw (bw rfl)) (hd:(x == ("__debug__" : Str))=false:=by decide) (hcd:(x == ("__classdict__" : Str))=false:=by decide)
  (ht:eval (.Call (.Attribute (.Name x p) m apos) [] [] pos) X.env=(do
   let ov <- eval (.Name x p) X.env
   standAt apos.atName
   let (f,first) <- holding [ov] (getMethod ov m pl)
   callWith pos f first (backTo pos (be [] X.env)) (backToKw pos (keywordEach [] X.env))):=by rfl) :
  VX X (.Call (.Attribute (.Name x p) m apos) [] [] pos) (xM i c ns g zae):=
 ⟨_,⟨pe_meth0 (wv i hN hv hd hcd).h DC.cl (D.at_ _ DC.at_) F (hr.mono hjk) D.b .nil hx ht⟩,SemM.at semNil DC.at_ hm⟩
end
def eMake(c:Str)(g:GM)(fa:FA):FE:=fun δ=>((fa δ).bind zey).bind fun ds=>(g (.ins c [] []) ds).bind fun p=>match p.1 with
 | .non=>aa (.obj p.2)
 | _=>ab
structure MakeD(K:ag)(c:Str)(st:Stmt)(qual:Str)(ps:List Str)(f:af)(fd:bD):Prop where
 fn:FunA K "__init__" qual st f fd
 at_:∀ C,ze0 K c C->Mk K C f
 b:Binds K fd ps []
section
variable {X:Cx}{e:Expr}{es:List Expr}{pos p:Pos}{fa:FA}{c qual:Str}{nsF ps:List Str}{g:GM}{fd:bD}{fm:af}{st:Stmt}{kk j:Nat}{CX:CXT}{E:XK}
theorem SemE.make{K:ag}{C:af}{t:TA}{E:XK}(sm:SemA K t fa)(hcl:ze0 K c C):SemE K (tMake C (spM K g) [] E t) (eMake c g fa):=fun B F H σ δ res Q s q k=>by
 obtain⟨ds,q1,q⟩:=bind_some q
 obtain⟨rs,q1,q2⟩:=bind_some q1
 obtain⟨p1,q3,q⟩:=bind_some q
 refine sm B F H σ δ rs _ s q1 fun vs F1 H1 x1 r1=>?_
 obtain⟨F2,x2,_,r2⟩:=RepRs.frz x1 (Same.refl _) r1 q2
 intro a dx ha hdx hne
 have fa0:F2 a=ab:=x2.fh.free ha
 have fd0:F2 dx=ab:=x2.fh.free hdx
 have sH:Same H1 (upd (upd H1 dx (.own a)) a (.ins C dx [])):=(Same.alloc hdx).trans (Same.alloc (by rw[zan (cj hne)];exact ha))
 rw[bV]
 refine⟨_,vs,F2,.ins c [] [],[a,dx],ds,p1.1,p1.2,rfl,x2.fh.trans sH,?_,by simp[cj hne],fun b hb=>?_,r2,q3,fun y F' H' A' ch t' n' f' ry=>?_⟩
 ·exact .ins (vs:=[]) (A:=[]) hcl zaj (by rw[zan hne];exact zaj) rfl .nil
 ·simp at hb
  rcases hb with rfl | rfl
  ·exact fa0
  ·exact fd0
 ·obtain⟨d0,o0⟩:=p1
  cases d0 with
  | non=>
   cases q
   have st:∀ b u,H1 b=aa u->zgH (upd (upd H1 dx (.own a)) a (.ins C dx [])) [a,dx] b=aa u:=fun b u hb=>zcK (fun z=>by
    simp at z
    rcases z with rfl | rfl
    ·rw[ha] at hb;cases hb
    ·rw[hdx] at hb;cases hb) (sH _ _ hb)
   refine⟨zih ry,k _ F' H' ⟨x2.ff.trans ch.ff,ch.fh,fun b u hb=>ch.st _ _ (st b u (x2.hh _ _ hb)),fun b u hb ht=>(ch.nw b u (st b u (x2.hh _ _ hb)) ht).trans (x2.nw b u hb ht)⟩ ⟨⟨a,rfl⟩,A',t',n',fun b hb=>⟨(f' b hb).1,?_⟩⟩⟩
   cases z:H b with
   | none=>rfl
   | some u=>have:=st b u (x2.hh _ _ z);rw[(f' b hb).2] at this;cases this
  | _=>cases q
theorem vmake{C:af}(DC:ClsD X.K X.mg c nsF C)(D:MakeD X.K c st qual ps fm fd)(F:FnOk X.prog X.w X.K X.mg X.base CX kk fm fd ps (spM X.K g))(hr:Room j X.A)(hg:Gl X c)(hx:zcU CX X E)(ha:VA X (e :: es) fa)(hjk:kk+1<=j:=by decide)(hdb:(c == ("__debug__" : Str))=false:=by decide)
  (h1:zam e=true:=by rfl) (h2:es.all zam=true:=by rfl):VE X (.Call (.Name c p) (e :: es) [] pos) (eMake c g fa):=
 let⟨_,w,sm⟩:=ha.h;⟨_,⟨pe_make (D.at_ _ DC.at_) F (hr.mono hjk) hg DC.mg D.b .nil hx w.h hdb (zar h1) (zcv h2)⟩,.make sm DC.at_⟩
end
end L3

namespace L2
open PySem PySem.Spec PyProof.Rows
def pkD(ks:List Str)(k:Str):List Str:=if k ∈ ks then ks else ks ++ [k]
def pvG{α:Type}(ks:List Str)(vs:List α)(k:Str)(v:α):List α:=if k ∈ ks then dQ (fun x y=>if x=k then v else y) ks vs else vs ++ [v]
theorem zgC{α:Type}{ks:List Str}{vs:List α}{k:Str}{v:α}(h:ks.length=vs.length):(pkD ks k).length=(pvG ks vs k v).length/\(pkD ks k).length<=ks.length+1:=by
 unfold pkD pvG
 split
 ·rw[List.length_zipWith];lia
 ·simp[h]
theorem kv_any{k:Str}:∀ {ks:List Str} {vs:List V} {us:List (Key × ae)},ks.length=vs.length->KV ((ks.map bm).zip vs) us->(us.any fun kv=>decide (kv.1=bm k))=decide (k ∈ ks)
 | [],[],us,_,r=>by
  unfold KV at r
  cases r
  rfl
 | x :: ks,v :: vs,us,hl,r=>by
  unfold KV at r
  rw[ay,bS] at r
  cases r with
  | @cons _ q _ qs h t=>
   rw[List.any_cons,kv_any (by simpa using hl) t,<- h.1]
   by_cases e:x=k
   ·subst e;simp
   ·have e':¬ k=x:=fun z=>e z.symm
    simp[e,e']
theorem kv_repl{k:Str}{v:V}{u:ae}(ry:RelV v u):∀ {ks:List Str} {vs:List V} {us:List (Key × ae)},ks.length=vs.length->KV ((ks.map bm).zip vs) us ->
  KV ((ks.map bm).zip (dQ (fun x y=>if x=k then v else y) ks vs)) (us.map fun kv=>if kv.1=bm k then (kv.1,u) else kv)
 | [],[],us,_,r=>by
  unfold KV at r
  cases r
  exact .nil
 | x :: ks,w :: vs,us,hl,r=>by
  unfold KV at r
  rw[ay,bS] at r
  cases r with
  | @cons _ q _ qs h t=>
   obtain⟨h1,h2⟩:=h
   have h1':bm x=q.1:=h1
   rw[ay,ay,cL,bS]
   refine .cons ?_ (kv_repl ry (by simpa using hl) t)
   by_cases e:x=k
   ·rw[if_pos e,if_pos (by rw[<- h1',e])];exact⟨h1',ry⟩
   ·rw[if_neg e,if_neg (fun z=>e (iX (h1'.trans z)))];exact⟨h1',h2⟩
theorem kv_snoc{k:Str}{v:V}{u:ae}(ry:RelV v u):∀ {ks:List Str} {vs:List V} {us:List (Key × ae)},ks.length=vs.length->KV ((ks.map bm).zip vs) us ->
  KV (((ks ++ [k]).map bm).zip (vs ++ [v])) (us ++ [(bm k,u)])
 | [],[],us,_,r=>by
  unfold KV at r
  cases r
  exact .cons ⟨rfl,ry⟩ .nil
 | x :: ks,w :: vs,us,hl,r=>by
  unfold KV at r
  rw[ay,bS] at r
  cases r with
  | cons h t=>exact .cons h (kv_snoc ry (by simpa using hl) t)
theorem kv_put{k:Str}{v:V}{u:ae}{ks:List Str}{vs:List V}{us:List (Key × ae)}(ry:RelV v u)(hl:ks.length=vs.length)(r:KV ((ks.map bm).zip vs) us) :
  KV (((pkD ks k).map bm).zip (pvG ks vs k v)) (stored us (bm k) u):=by
 unfold stored pkD pvG
 rw[kv_any hl r]
 by_cases e:k ∈ ks
 ·rw[if_pos e,if_pos e,if_pos (decide_eq_true e)];exact kv_repl ry hl r
 ·rw[if_neg e,if_neg e,if_neg (by simpa using e)];exact kv_snoc ry hl r
section
variable {X:Cx}
def rSetD:V->V->V->Hp->(Hp->Prop)->Prop:=fun o i v H Q=>∃ p ks vs k,o=.ref p/\i=.str k/\H p=aa (.dK ((ks.map bm).zip vs))/\ks.length=vs.length/\ks.length<1000000/\Q (upd H p (.dK (((pkD ks k).map bm).zip (pvG ks vs k v))))
theorem set_dic:PSet X rSetD:=by
 intro pins s σ H o i v ov iv u Q I ro ri rv h
 obtain⟨p,ks,vs,k,rfl,rfl,hp,hl,hz,q⟩:=h
 cases ro
 obtain⟨z,hd,us,rel,dd⟩:=I.hok p _ hp
 have hu:us.length<=aZ:=by rw[<- jw rel];exact z
 refine wpAny_setItem_pairs (hsz:=hu) (kisS ri) dd fun h' dd' hs=>⟨_,?_,q⟩
 have he:∃ q,h'.get? p=aa q:=let⟨q,_,_,hq,_⟩:=dd';⟨q,hq⟩
 have hn:((((pkD ks k).map bm).zip (pvG ks vs k v)):List (Key × V)).length<=aZ:=by
  have:=(zgC (k:=k) (v:=v) hl).2
  rw[gJ,aq,ck];lia
 exact I.write (x:=p) (e:=p) (by rw[hp];exact g9) (.inl rfl) (fun b q hb z=>(hs.2 b hb).trans z) he ⟨hn,hd,_,kv_put rv hl rel,dd'⟩
def rGet:V->List V->Hp->VK->Prop:=fun x xs H Q=>∃ a kvs z d,x=.ref a/\xs=[.str z,d]/\Rd H a (.dK kvs)/\Q ((atK kvs (bm z)).getD d) H
theorem mt_get:MtR X "dict.get" rGet:=by
 intro pins s σ H x xs v us Q I rx rxs h
 obtain⟨a,kvs,z,d,rfl,rfl,e,q⟩:=h
 cases rx
 cases rxs with
 | cons r1 r=>
  cases r with
  | cons r2 r=>
   cases r
   obtain⟨_,hd,vs,rel,dd⟩:=e.ok I.hok
   refine call_meetsIn eX dd.typeIs PySem.F.entry_dict_get (PySem.F.args_dict_get_3 _ _ _) (meets_dict_get_default (zdz X.prog X.w) a (kisS r1) hd _) ⟨_,dd.mapOf,_,H,I.tok _,?_,q⟩
   rcases atK_rel rel (bm z) with ⟨v2,w,e1,e2,e3⟩ | ⟨e1,e2⟩
   ·rw[e1,e2];exact e3
   ·rw[e1,e2];exact r2
end
end L2
namespace L3
open PySem PySem.Spec PyProof.Rows L2
theorem reps_pv{F:Hp}{k:Str}{v:V}{d:D}(r:Rep F v d):∀ {ks:List Str} {vs:List V} {ds:List D},Reps F vs ds->Reps F (pvG ks vs k v) (pvG ks ds k d):=by
 have key:∀ (ks:List Str) {vs:List V} {ds:List D},Reps F vs ds->Reps F (dQ (fun x y=>if x=k then v else y) ks vs) (dQ (fun x y=>if x=k then d else y) ks ds):=by
  intro ks
  induction ks with
  | nil=>intro vs ds _;exact .nil
  | cons x ks ih=>
   intro vs ds h
   cases h with
   | nil=>exact .nil
   | cons h t=>
    rw[cL,cL]
    refine .cons ?_ (ih t)
    by_cases e:x=k
    ·rw[if_pos e,if_pos e];exact r
    ·rw[if_neg e,if_neg e];exact h
 intro ks vs ds h
 unfold pvG
 split
 ·exact key ks h
 ·exact h.append (.one r)
def oDic:OT->Option (List Str × List D)
 | .dic ks ds=>aa (ks,ds)
 | _=>ab
theorem oDic_some{o:OT}{p:List Str × List D}(h:oDic o=aa p):o=.dic p.1 p.2:=by
 cases o <;> first | (cases h;rfl) | (cases h)
def dAt(i:Nat):En->Option (List Str × List D):=fun δ=>(oAt i δ).bind oDic
theorem ze8{i:Nat}{δ:En}{p:List Str × List D}(h:dAt i δ=aa p):δ[i]? = aa (aa (.obj (.dic p.1 p.2))):=by
 obtain⟨o,h1,h2⟩:=bind_some h
 cases oDic_some h2
 exact zaV h1
def eD0:FE:=fun _=>aa (.obj (.dic [] []))
def gDg(p:List Str × List D):List Ent->Option Ent
 | [a,b]=>(sOf a).map fun z=>(lkD p.1 p.2 z).elim b .val
 | _=>ab
def gGet:Ent->List Ent->Option Ent:=fun x es=>(dOf x).bind fun p=>gDg p es
def eDget(i:Nat)(fs:FA):FE:=fun δ=>(dAt i δ).bind fun p=>(fs δ).bind (gDg p)
noncomputable def fDput(i:Nat)(fk fe:FE):FS:=fun δ=>((fe δ).bind asV).bind fun d=>((fk δ).bind sOf).bind fun k=>(dAt i δ).bind fun p=>gif (sz (p.1.length+1)) (aa (.nx (δ.set i (aa (.obj (.dic (pkD p.1 k) (pvG p.1 p.2 k d)))))))
def fFrzD(i:Nat)(g:FS):FS:=fun δ=>(dAt i δ).bind fun p=>g (δ.set i (aa (.val (.dic p.1 p.2))))
section
variable {K:ag}{B:Bd}{F H F' H' H0:Hp}{σ:Sg}{δ:En}{v:V}{i:Nat}{ks:List Str}{ds:List D}
theorem gDg_ok{a:af}{vs ws:List V}{es:List Ent}{res:Ent}{Q:VK}(e:Rd H a (.dK ((ks.map bm).zip vs)))(hl:ks.length=vs.length)(rs:Reps F vs ds)(rw':RepRs K H0 F H ws es)(q:gDg (ks,ds) es=aa res)(k:∀ v,RepR K H0 F H v res->Q v H):rGet (.ref a) ws H Q:=by
 match es,q with
 | [x,y],q=>
  obtain⟨z,q1,q2⟩:=map_some q
  cases zbt q1
  have q3:(lkD ks ds z).elim y .val=res:=q2
  subst q3
  cases rw' with
  | cons r1 r=>
   cases r with
   | cons r2 r=>
    cases r
    cases zb6 r1
    refine⟨a,_,z,_,rfl,rfl,e,?_⟩
    rcases lkD_ok z hl rs with ⟨d',v,e1,e2,e3⟩ | ⟨e1,e2⟩
    ·rw[e2];rw[e1] at k;exact k _ e3
    ·rw[e2];rw[e1] at k;exact k _ r2
theorem RS.frzD(s:RS K B F H σ δ)(hi:δ[i]? = aa (aa (.obj (.dic ks ds)))):∃ a kvs,σ[i]? = aa (aa (.ref a))/\H a=aa (.dK kvs)/\∀ ob,∃ F',FX B F F'/\RS K B F' (upd H a (.frz ob (.dK kvs))) σ (δ.set i (aa (.val (.dic ks ds)))):=by
 obtain⟨v,h1,A,t,n,h⟩:=s.ent i _ hi
 cases t with
 | @dic a _ vs _ e l rs=>
  refine⟨a,_,h1,e,fun ob=>?_⟩
  have fl:=(h a (by simp)).1
  have sm:Same F (upd F a (.frz ob (.dK ((ks.map bm).zip vs)))):=Same.alloc fl
  have rp:Rep (upd F a (.frz ob (.dK ((ks.map bm).zip vs)))) (.ref a) (.dic ks ds):=.dic zaj l (rs.mono sm)
  obtain⟨z1,z2⟩:=s.chg (o':=.val (.dic ks ds)) (H':=upd H a (.frz ob (.dK ((ks.map bm).zip vs)))) hi h1 (.dic e l rs) ⟨sm,fun b u hb=>by
    by_cases hb':b=a
    ·subst hb';rw[zaj] at hb ⊢;exact hb
    ·rw[zan hb'] at hb ⊢;exact s.fh b u hb,fun b u hb=>by
    rw[zan fun z=>(zbw hb).1 (by simp[z])];exact(zbw hb).2,fun b u hb _=>zan fun z=>(zbw hb).1 (by simp[z])⟩
   (.val rp) .nil fun b hb=>by cases hb
  have z3:=z1.putV i rp
  rw[List.set_set] at z3
  obtain⟨hlt,he⟩:=aO.mp h1
  rw[<- he,List.set_getElem_self] at z3
  exact⟨_,z2,z3⟩
end
section
variable {X:Cx}{e ix o:Expr}{es:List Expr}{pos p tpos apos cpos:Pos}{fe fx fo:FE}{fs:FA}{x:Str}{sr:List Stmt}{g:FS}
theorem vD0:VE X (.Dict [] [] pos) eD0:=⟨_,wdnew,fun B F H σ δ res Q s q k p hp=>by
 cases q
 exact k _ F _ (Ex.lay s.fh hp) ⟨⟨p,rfl⟩,[p],.dic (vs:=[]) zaj rfl .nil,by simp,fun a ha=>by
  simp at ha
  subst ha
  exact⟨s.fh.free hp,hp⟩⟩⟩
theorem m_get:MtD X "dict" "get" gGet:=⟨_,_,gB,eX,gW,mt_get,fun H0 F H x e es res fh r q=>by
  obtain⟨p,q1,q⟩:=bind_some q
  cases ze2 q1
  cases (show Rep F x (.dic p.1 p.2) from r) with
  | dic e l rs=>exact .inr (.inr (.inl ⟨rfl,.inl ⟨_,.inr ⟨_,fh _ _ e⟩⟩⟩)),fun H0 F H x vs e es res Q fh hh r rs q k=>by
  obtain⟨p,q1,q⟩:=bind_some q
  cases ze2 q1
  cases (show Rep F x (.dic p.1 p.2) from r) with
  | dic e l rd=>exact gDg_ok (K:=X.K) (H0:=H0) (.inr ⟨_,fh _ _ e⟩) l rd rs q fun v rv=>k v F H (Ex.refl fh) rv⟩
theorem vDget(i:Nat)(ha:VA X (e :: es) fs)(hN:X.N[i]? = aa x:=by rfl)(hv:Vis X.env.scope x:=by first | exact au rfl | exact bw (au rfl) | exact bw (bw rfl))(hd:(x == ("__debug__" : Str))=false:=by decide)(hcd:(x == ("__classdict__" : Str))=false:=by decide)
  (hbase:bU (.Name x p) "get" X.env (eval (.Name x p) X.env)=eval (.Name x p) X.env:=by rfl) (hl:decide ((e :: es).length+0+0<30)=true:=by rfl) (hline:(apos.endLine == cpos.line)=true:=by rfl)
  (h1:zam e=true:=by rfl) (h2:es.all zam=true:=by rfl):VE X (.Call (.Attribute (.Name x p) "get" apos) (e :: es) [] cpos) (eDget i fs):=by
 obtain⟨ta,wa,ma⟩:=ha.h
 refine⟨_,wbm gB eX gW mt_get (wv i hN hv hd hcd) wa hbase hl hline h1 h2,fun B F H σ δ res Q s q k=>?_⟩
 obtain⟨p,q1,q⟩:=bind_some q
 obtain⟨rs,q2,q⟩:=bind_some q
 obtain⟨v,h1,A,t,n,h⟩:=s.ent i _ (ze8 q1)
 cases t with
 | dic e1 hl rd=>
  refine⟨_,h1,.inr (.inr (.inl ⟨rfl,.inl ⟨_,.inl e1⟩⟩)),?_⟩
  refine ma B F H σ δ rs _ s q2 fun vs F2 H2 x2 r2=>?_
  exact gDg_ok (K:=X.K) (H0:=H) (.inl (x2.hh _ _ e1)) hl (rd.mono x2.ff) r2 q fun v rv=>k v F2 H2 x2 rv
theorem sDput(i:Nat)(he:VE X e fe)(hx:VE X ix fx)(hN:X.N[i]? = aa x:=by rfl)(hv:Vis X.env.scope x:=by first | exact au rfl | exact bw (au rfl) | exact bw (bw rfl))(hd:(x == ("__debug__" : Str))=false:=by decide)(hcd:(x == ("__classdict__" : Str))=false:=by decide)
  (hg:∀ {to ti:TE},WE X (.Name x p) to->WE X ix ti->WG X (.Subscript (.Name x p) ix tpos) (gSub to ti rSetD))
  (hs:swapsWithSole [.Subscript (.Name x p) ix tpos] e pos.line X.env=pure false:=by rfl) (hw:swappedStores [.Subscript (.Name x p) ix tpos] e X.env=pure ab:=by rfl) (h1:(bH [.Subscript (.Name x p) ix tpos] X.env).map (·.2)=[assign (.Subscript (.Name x p) ix tpos) X.env]:=by rfl) :
  VS X (.Assign [.Subscript (.Name x p) ix tpos] e pos) (fDput i fx fe):=by
 obtain⟨t,w,m⟩:=he.h
 obtain⟨t2,w2,m2⟩:=hx.h
 refine⟨_,sasg w (hg (wv i hN hv hd hcd) w2) hs hw h1,fun B F H σ δ out DD s q k=>?_⟩
 obtain⟨d,q1,q⟩:=bind_some q
 obtain⟨r,q2,q3⟩:=bind_some q1
 obtain⟨kk,q4,q⟩:=bind_some q
 obtain⟨rk,q5,q6⟩:=bind_some q4
 obtain⟨p,q7,q⟩:=bind_some q
 obtain⟨hlen,qz⟩:=zbi q
 cases qz
 cases zbt q6
 refine m B F H σ δ r _ s q2 fun y F1 H1 x1 z=>?_
 obtain⟨F2,x2,sm,r2⟩:=RepR.frz x1 (Same.refl _) z q3
 have s2:=s.ext x2
 obtain⟨v,h1,A,t,n,h⟩:=s.ent i _ (ze8 q7)
 refine⟨_,h1,m2 B F2 H1 σ δ _ _ s2 q5 fun yk F3 H3 x3 z3=>?_⟩
 cases zb6 z3
 have s3:=s2.ext x3
 have x23:=x2.trans x3
 cases t with
 | @dic a _ vs _ e1 hl rd=>
  have tt:=(TR.dic (K:=X.K) e1 hl rd).ext x23
  have fl:F3 a=ab:=(tt.2 a (by simp)).trans (h a (by simp)).1
  have r3:=Rep.mono x3.ff r2
  refine⟨a,p.1,vs,kk,rfl,rfl,x23.hh _ _ e1,hl,by unfold sz at hlen;lia,?_⟩
  obtain⟨z1,z2⟩:=s3.chg (o':=.dic (pkD p.1 kk) (pvG p.1 p.2 kk d)) (H':=upd H3 a (.dK (((pkD p.1 kk).map bm).zip (pvG p.1 vs kk y)))) (F':=F3) (ze8 q7) h1 tt.1 ⟨Same.refl _,fun b u hb=>by
    rw[zan fun z=>by subst z;rw[fl] at hb;cases hb]
    exact x23.fh _ _ hb,fun b u hb=>by
    obtain⟨z1,z2⟩:=zbw hb
    rw[zan fun z=>z1 (by simp[z])]
    exact z2,fun _ _ _ _=>rfl⟩
   (.dic zaj (zgC hl).1 (reps_pv r3 (rd.mono x23.ff))) (by simp) fun b hb=>by
    simp at hb
    subst hb
    exact⟨fl,zc8 (by simp)⟩
  exact k σ F3 _ z1 ((FX.of x23 s.bh).trans z2)
theorem pss_frzD{i:Nat}{u:TS}(h:PSs X sr u):PSs X sr (fun DD σ H=>∃ a kvs,σ[i]? = aa (aa (.ref a))/\H a=aa (.dK kvs)/\∀ ob,u DD σ (upd H a (.frz ob (.dK kvs)))):=by
 intro pins s σ H DD I q
 obtain⟨a,kvs,_,e,q⟩:=q
 have z:=I.hok a _ e
 obtain⟨_,_,_,_,ob,_,_,ho,_⟩:=id z
 refine h pins s σ _ DD (I.write (x:=a) (e:=a) (h':=s.heap) (t':=s.toks) (o:=.frz ob (.dK kvs)) (by rw[e];exact g9) (.inl rfl) (fun _ _ _ z=>z) ⟨_,ho⟩ ⟨ho,?_⟩) (q ob)
 exact z
theorem sFrzD(i:Nat)(h:VSs X sr g):VSs X sr (fFrzD i g):=by
 obtain⟨u,w2,m2⟩:=h.h
 refine⟨_,⟨pss_frzD (i:=i) w2.h⟩,fun B F H σ δ out DD s q k=>?_⟩
 obtain⟨p,q1,q⟩:=bind_some q
 obtain⟨a,kvs,h1,h2,h3⟩:=s.frzD (ze8 q1)
 refine⟨a,kvs,h1,h2,fun ob=>?_⟩
 obtain⟨F',x,s'⟩:=h3 ob
 exact m2 B F' _ σ _ out DD s' q (k.mono x)
end
end L3

namespace L2
open PySem PySem.Spec PyProof.Rows
section
variable {prog:aR}{w:aU}{A:a9}{E:ae->ah->Prop}{s:ah}
structure Rises(st:SortSt):Prop where
 k:kindOf st=oneType'
 r:∀ i,1<=i->i<(arrOf st).size->∃ a t p b u q,(arrOf st)[i]? = aa (.int a t,p)/\(arrOf st)[i - 1]? = aa (.int b u,q)/\b<=a
end
end L2

namespace L2
open PySem PySem.Spec PyProof.Rows
end L2
namespace L3
open PySem PySem.Spec PyProof.Rows L2
noncomputable def gRep:Ent->Ent->Option Ent:=fun x y=>(asLt x).bind fun ds=>(iOf y).bind fun k=>gif (-1000000<=k/\k<=1000000/\ds.length * k.toNat<=1000000) (aa (.own (aD k.toNat ds).flatten))
theorem zi0{F:Hp}{vs:List V}{ds:List D}(r:Reps F vs ds):∀ k:Nat,Reps F (aD k vs).flatten (aD k ds).flatten
 | 0=>.nil
 | k+1=>by
  rw[cJ,cJ,de,de]
  exact r.append (zi0 r k)
section
variable {X:Cx}
theorem o_rep:OpD X (binaryOp .Mult) gRep:=⟨_,op_rep,fun H0 F H x y e e' res Q fh hh rx ry q k=>by
 obtain⟨ds,q1,q⟩:=bind_some q
 obtain⟨n,q2,q⟩:=bind_some q
 obtain⟨⟨h1,h2,h3⟩,qz⟩:=zbi q
 cases qz
 cases za1 q2
 obtain⟨l,vs,e1,h4,h5⟩:=RepR.toLt rx fh q1
 subst e1
 refine⟨l,n,vs,rfl,za3 ry,h4,by lia,by lia,by rw[h5.length,ck];exact aL h3 (by decide),fun p hp=>?_⟩
 exact k _ _ _ (Ex.lay fh hp) ⟨p,_,rfl,hh.free hp,zaj,zi0 h5 _,fh.free hp⟩⟩
end
end L3

namespace L2
open PySem PySem.Spec PyProof.Rows
def gal:Bool->Keyed->Array Keyed->Nat->Nat->Nat->StateT SortSt Sem (Option Nat):=sortPriv% PySem.Builtin.gallop
def mgLo:Array Keyed->Array Keyed->StateT SortSt Sem (Array Keyed):=sortPriv% PySem.Builtin.mergeLo
def mgHi:Array Keyed->Array Keyed->StateT SortSt Sem (Array Keyed):=sortPriv% PySem.Builtin.mergeHi
def setMG:Nat->StateT SortSt Sem Unit:=sortPriv% PySem.Builtin.setMinGallop
abbrev zcy(st:SortSt)(g:Nat):SortSt:=ey (kindOf st) (arrOf st) (bi st) g (failedOf st)
structure Rk(prog:aR)(w:aU)(A:a9)(s:ah)(kd:SortKind)(D:Keyed->Prop)(rk:Keyed->Nat):Prop where
 lt:∀ x y,D x->D y->∀ (E:ae->ah->Prop) (Q:Bool->ah->Prop),Q (decide (rk x<rk y)) s->aI (model prog w) A (keyLt' kd x.1 y.1) Q E s
section
variable {prog:aR}{w:aU}{A:a9}{E:ae->ah->Prop}{s:ah}{kd:SortKind}{D:Keyed->Prop}{rk:Keyed->Nat}{st:SortSt}
theorem wpS_set{σ:Type}{M:Model}{x:σ}{Q:PUnit->σ->Prop}{st:σ}(h:Q ⟨⟩ x):wpS M A E s (set x:StateT σ Sem PUnit) Q st:=by
 unfold wpS;rw[StateT.run_set];exact aE ⟨rfl,h⟩
theorem wpS_q(R:Rk prog w A s kd D rk){x y:Keyed}{Q:Option Bool->SortSt->Prop}(hk:kindOf st=kd)(hx:D x)(hy:D y)(h:Q (aa (decide (rk x<rk y))) st):wpS (model prog w) A E s (lt' x y) Q st:=by
 rw[lt'_eq]
 refine ar (wpS_get ?_)
 rw[hk]
 refine ar (wpS_lift (wpAny_attempt (R.lt x y hx hy _ _ ⟨rfl,?_⟩)))
 exact aA h
theorem zbK{arr:Array Keyed}{i:Nat}{Q:Keyed->SortSt->Prop}(hi:i<arr.size)(h:Q arr[i] st):wpS (model prog w) A E s (elem' arr i) Q st:=by
 rw[elem'_eq,getElem?_pos arr i hi]
 exact aA h
theorem zdK{r:String}{Q:Unit->SortSt->Prop}(h:Q () st):wpS (model prog w) A E s (liftM (rule r):StateT SortSt Sem Unit) Q st:=wpS_lift (wpAny_rule ⟨rfl,h⟩)
theorem zgf{g:Nat}{Q:Unit->SortSt->Prop}(h:Q () (zcy st g)):wpS (model prog w) A E s (setMG g) Q st:=wpS_modify h
def beyB(rk:Keyed->Nat)(left:Bool)(key:Keyed)(arr:Array Keyed)(base i:Nat):Bool:=if left then decide ((arr[base+i]?.map rk).getD 0<rk key) else !decide (rk key<(arr[base+i]?.map rk).getD 0)
theorem wpS_bey(R:Rk prog w A s kd D rk){left:Bool}{key:Keyed}{arr:Array Keyed}{base i:Nat}{Q:Option Bool->SortSt->Prop}(hk:kindOf st=kd)(hD:∀ x ∈ arr,D x)(hy:D key)(hi:base+i<arr.size)(h:Q (aa (beyB rk left key arr base i)) st) :
  wpS (model prog w) A E s (elem' arr (base+i) >>= fun x=>if left=true then lt' x key else lt' key x >>= fun q=>pure (ku (fun b=>!b) q)) Q st:=by
 have e:arr[base+i]? = aa arr[base+i]:=getElem?_pos arr _ hi
 unfold beyB at h
 rw[e] at h
 refine ar (zbK hi ?_)
 cases left with
 | true=>exact wpS_q R hk (hD _ (bu hi)) hy h
 | false=>exact ar (wpS_q R hk hy (hD _ (bu hi)) (aA h))
theorem gal_bs{n:Nat}{f:Nat->Option (Option Nat) × Nat × Nat->StateT SortSt Sem (ForInStep (Option (Option Nat) × Nat × Nat))}{g:Option (Option Nat) × Nat × Nat->StateT SortSt Sem (Option Nat)}{B:Nat->Bool}{Q:Option Nat->SortSt->Prop}{lo hi:Nat}
  (mono:∀ i j,i<=j->j<n->B j=true->B i=true)
  (stop:∀ x lo hi (P:ForInStep (Option (Option Nat) × Nat × Nat)->SortSt->Prop),lo ≥ hi->P (.done (ab,lo,hi)) st->wpS (model prog w) A E s (f x (ab,lo,hi)) P st)
  (go:∀ x lo hi (P:ForInStep (Option (Option Nat) × Nat × Nat)->SortSt->Prop),¬ lo ≥ hi->hi<=n->(B (lo+(hi - lo) / 2)=true->P (.yield (ab,lo+(hi - lo) / 2+1,hi)) st)->(B (lo+(hi - lo) / 2)=false->P (.yield (ab,lo,lo+(hi - lo) / 2)) st)->wpS (model prog w) A E s (f x (ab,lo,hi)) P st)
  (out:∀ k,Q (aa k) st->wpS (model prog w) A E s (g (ab,k,k)) Q st)
  (h1:lo<=hi) (h2:hi<=n) (h3:∀ i,i<lo->B i=true) (h4:∀ i,hi<=i->i<n->B i=false)
  (h:∀ k,k<=n->(∀ i,i<k->B i=true)->(∀ i,k<=i->i<n->B i=false)->Q (aa k) st):wpS (model prog w) A E s (forIn [0:n] (ab,lo,hi) f >>= g) Q st:=by
 refine ar (wpS_mono (bX (I:=fun x c st'=>st'=st/\∃ lo hi,c=(ab,lo,hi)/\lo<=hi/\hi<=n/\hi - lo<=n - x/\(∀ i,i<lo->B i=true)/\(∀ i,hi<=i->i<n->B i=false))
  (Q:=fun c st'=>st'=st/\∃ k,c=(ab,k,k)/\k<=n/\(∀ i,i<k->B i=true)/\(∀ i,k<=i->i<n->B i=false)) ?step ?fin ⟨rfl,lo,hi,rfl,h1,h2,by lia,h3,h4⟩) ?post)
 case post=>
  rintro c st' ⟨rfl,k,rfl,k1,k2,k3⟩
  exact out k (h k k1 k2 k3)
 case fin=>
  rintro c st' ⟨rfl,lo,hi,rfl,h1,h2,h3,h4,h5⟩
  have:lo=hi:=by lia
  subst this
  exact⟨rfl,lo,rfl,h2,h4,h5⟩
 case step=>
  rintro x c st' _ hx ⟨rfl,lo,hi,rfl,h1,h2,h3,h4,h5⟩
  by_cases hge:lo ≥ hi
  ·have:lo=hi:=by lia
   subst this
   exact stop x lo lo _ hge ⟨rfl,lo,rfl,h2,h4,h5⟩
  ·refine go x lo hi _ hge h2 (fun hm=>?_) fun hm=>?_
   ·exact⟨rfl,_,_,rfl,by lia,h2,by lia,fun i hi'=>mono i (lo+(hi - lo) / 2) (by lia) (by lia) hm,h5⟩
   ·refine⟨rfl,_,_,rfl,by lia,by lia,by lia,h4,fun i hi1 hi2=>?_⟩
    cases hb:B i with
    | false=>rfl
    | true=>rw[mono _ i hi1 hi2 hb] at hm;cases hm
theorem wpS_gal(R:Rk prog w A s kd D rk){left:Bool}{key:Keyed}{arr:Array Keyed}{base n hint:Nat}{Q:Option Nat->SortSt->Prop}(hk:kindOf st=kd)(hD:∀ x ∈ arr,D x)(hy:D key)(hn:base+n<=arr.size)(hh:hint<n)
  (mono:∀ i j,i<=j->j<n->beyB rk left key arr base j=true->beyB rk left key arr base i=true)
  (h:∀ k,k<=n->(∀ i,i<k->beyB rk left key arr base i=true)->(∀ i,k<=i->i<n->beyB rk left key arr base i=false)->Q (aa k) st) :
  wpS (model prog w) A E s (gal left key arr base n hint) Q st:=by
 generalize hB:beyB rk left key arr base=B at mono h
 have ask:∀ (i:Nat) (Q:Option Bool->SortSt->Prop),i<n->Q (aa (B i)) st->wpS (model prog w) A E s (elem' arr (base+i) >>= fun x=>if left=true then lt' x key else lt' key x >>= fun q=>pure (ku (fun b=>!b) q)) Q st:=fun i Q hi hq=>
  wpS_bey R hk hD hy (by lia) (by rw[hB];exact hq)
 refine ar (ask hint _ hh ?_)
 dsimp only
 cases hr:B hint with
 | true=>
  rw[if_pos rfl]
  refine ar (wpS_mono (bX (I:=fun x c st'=>st'=st/\∃ la ofs,c=(ab,la,ofs)/\la<ofs/\x<ofs/\la<n - hint/\B (hint+la)=true)
   (Q:=fun c st'=>st'=st/\∃ la ofs,c=(ab,la,ofs)/\la<ofs/\la<n - hint/\B (hint+la)=true/\(ofs<n - hint->B (hint+ofs)=false)) ?step1 ?fin1 ⟨rfl,0,1,rfl,by lia,by lia,by lia,hr⟩) ?post1)
  case fin1=>
   rintro c st' ⟨rfl,la,ofs,rfl,h1,h2,h3,h4⟩
   exact⟨rfl,la,ofs,rfl,h1,h3,h4,fun h=>by lia⟩
  case step1=>
   rintro x c st' _ hx ⟨rfl,la,ofs,rfl,h1,h2,h3,h4⟩
   dsimp only
   by_cases hge:ofs ≥ n - hint
   ·rw[if_pos hge]
    exact aA ⟨rfl,la,ofs,rfl,h1,h3,h4,fun h=>by lia⟩
   ·rw[if_neg hge]
    refine ar (ask _ _ (by lia) ?_)
    dsimp only
    cases hm:B (hint+ofs) with
    | true=>
     simp only[Bool.not_true,bG,if_false]
     exact aA ⟨rfl,_,_,rfl,by lia,by lia,by lia,hm⟩
    | false=>
     simp only[Bool.not_false,if_true]
     exact aA ⟨rfl,la,ofs,rfl,h1,h3,h4,fun _=>hm⟩
  case post1=>
   rintro c st' ⟨rfl,la,ofs,rfl,h1,h3,h4,h5⟩
   dsimp only
   refine gal_bs (lo:=hint+la+1) (hi:=hint+min ofs (n - hint)) mono (fun x lo hi P hge hP=>by
    dsimp only
    rw[if_pos hge]
    exact aA hP) (fun x lo hi P hge h2 ht hf=>by
    dsimp only
    rw[if_neg hge]
    refine ar (ask _ _ (by lia) ?_)
    dsimp only
    cases hm:B (lo+(hi - lo) / 2) with
    | true=>rw[if_pos rfl];exact aA (ht hm)
    | false=>rw[if_neg (by simp)];exact aA (hf hm)) (fun k hQ=>aA hQ) (by lia) (by lia) (fun i hi=>mono i (hint+la) (by lia) (by lia) h4) (fun i hi1 hi2=>?_) h
   have ho:ofs<n - hint:=by lia
   cases hb:B i with
   | false=>rfl
   | true=>have:=mono (hint+ofs) i (by lia) hi2 hb;rw[h5 ho] at this;cases this
 | false=>
  rw[if_neg (by simp)]
  refine ar (wpS_mono (bX (I:=fun x c st'=>st'=st/\∃ la ofs,c=(ab,la,ofs)/\la<ofs/\x<ofs/\la<hint+1/\B (hint - la)=false)
   (Q:=fun c st'=>st'=st/\∃ la ofs,c=(ab,la,ofs)/\la<ofs/\la<hint+1/\B (hint - la)=false/\(ofs<hint+1->B (hint - ofs)=true)) ?step2 ?fin2 ⟨rfl,0,1,rfl,by lia,by lia,by lia,hr⟩) ?post2)
  case fin2=>
   rintro c st' ⟨rfl,la,ofs,rfl,h1,h2,h3,h4⟩
   exact⟨rfl,la,ofs,rfl,h1,h3,h4,fun h=>by lia⟩
  case step2=>
   rintro x c st' _ hx ⟨rfl,la,ofs,rfl,h1,h2,h3,h4⟩
   dsimp only
   by_cases hge:ofs ≥ hint+1
   ·rw[if_pos hge]
    exact aA ⟨rfl,la,ofs,rfl,h1,h3,h4,fun h=>by lia⟩
   ·rw[if_neg hge]
    refine ar (ask _ _ (by lia) ?_)
    dsimp only
    cases hm:B (hint - ofs) with
    | true=>
     rw[if_pos rfl]
     exact aA ⟨rfl,la,ofs,rfl,h1,h3,h4,fun _=>hm⟩
    | false=>
     rw[if_neg (by simp)]
     exact aA ⟨rfl,_,_,rfl,by lia,by lia,by lia,hm⟩
  case post2=>
   rintro c st' ⟨rfl,la,ofs,rfl,h1,h3,h4,h5⟩
   dsimp only
   refine gal_bs (lo:=hint+1 - min ofs (hint+1)) (hi:=hint - la) mono (fun x lo hi P hge hP=>by
    dsimp only
    rw[if_pos hge]
    exact aA hP) (fun x lo hi P hge h2 ht hf=>by
    dsimp only
    rw[if_neg hge]
    refine ar (ask _ _ (by lia) ?_)
    dsimp only
    cases hm:B (lo+(hi - lo) / 2) with
    | true=>rw[if_pos rfl];exact aA (ht hm)
    | false=>rw[if_neg (by simp)];exact aA (hf hm)) (fun k hQ=>aA hQ) (by lia) (by lia) (fun i hi=>?_) (fun i hi1 hi2=>?_) h
   ·exact mono i (hint - ofs) (by lia) (by lia) (h5 (by lia))
   ·cases hb:B i with
    | false=>rfl
    | true=>have:=mono (hint - la) i hi1 hi2 hb;rw[h4] at this;cases this
end
end L2

namespace L2
open PySem PySem.Spec PyProof.Rows
section
variable {prog:aR}{w:aU}{A:a9}{E:ae->ah->Prop}{s:ah}{kd:SortKind}{D:Keyed->Prop}{rk:Keyed->Nat}{st:SortSt}
def kA(rk:Keyed->Nat)(xs:Array Keyed)(i:Nat):Nat:=(xs[i]?.map rk).getD 0
theorem zcY{xs:Array Keyed}{i:Nat}(h:i<xs.size):kA rk xs i=rk xs[i]:=by
 unfold kA;rw[getElem?_pos xs i h];rfl
def Up(rk:Keyed->Nat)(xs:Array Keyed)(lo hi:Nat):Prop:=∀ i j,lo<=i->i<=j->j<hi->kA rk xs i<=kA rk xs j
theorem zdl{xs:Array Keyed}{lo hi:Nat}(h:hi<=xs.size):(xs.extract lo hi).size=hi - lo:=by rw[fN,da h]
structure MgR(r:Keyed->Keyed->Prop)(all:List Keyed)(out:Array Keyed)(rest:List Keyed):Prop where
 perm:(out.toList ++ rest).Perm all
 srt:out.toList.Pairwise r
 low:∀ x ∈ out.toList,∀ y ∈ rest,r x y
abbrev Mg(rk:Keyed->Nat):=MgR fun x y=>rk x<=rk y
theorem MgR.take{r:Keyed->Keyed->Prop}{all rest rest':List Keyed}{out c:Array Keyed}(M:MgR r all out rest)(p:rest.Perm (c.toList ++ rest'))(hs:c.toList.Pairwise r)(hl:∀ x ∈ c.toList,∀ y ∈ rest',r x y):MgR r all (out ++ c) rest':=by
 refine⟨?_,?_,?_⟩
 ·rw[du,b6]
  exact(p.symm.append_left _).trans M.perm
 ·rw[du,dX]
  exact⟨M.srt,hs,fun x hx y hy=>M.low x hx y (p.mem_iff.mpr (bz _ hy))⟩
 ·intro x hx y hy
  rw[du] at hx
  rcases bx.mp hx with hx | hx
  ·exact M.low x hx y (p.mem_iff.mpr (aJ _ hy))
  ·exact hl x hx y hy
theorem MgR.swap{r:Keyed->Keyed->Prop}{all ra rb:List Keyed}{out:Array Keyed}(M:MgR r all out (ra ++ rb)):MgR r all out (rb ++ ra):=by
 have h:=M.take (c:=#[]) (rest':=rb ++ ra) eY .nil (fun x hx=>by cases hx)
 rwa [dA] at h
theorem Mg.swap{all ra rb:List Keyed}{out:Array Keyed}(M:Mg rk all out (ra ++ rb)):Mg rk all out (rb ++ ra):=MgR.swap M
theorem zio{xs:Array Keyed}{i:Nat}{x:Keyed}(h:x ∈ xs.toList.drop i):∃ j,i<=j/\j<xs.size/\kA rk xs j=rk x:=by
 obtain⟨j,hj,rfl⟩:=hJ.mp h
 rw[cC] at hj
 have hj':i+j<xs.size:=by have:xs.toList.length=xs.size:=aC;lia
 refine⟨i+j,by lia,hj',?_⟩
 rw[zcY hj',iO];rfl
theorem zfA{xs:Array Keyed}{i k:Nat}{x:Keyed}(h:x ∈ (xs.extract i k).toList):∃ j,i<=j/\j<k/\j<xs.size/\kA rk xs j=rk x:=by
 obtain⟨j,hj,rfl⟩:=hJ.mp h
 have hj2:j<(xs.extract i k).size:=by rw[aC] at hj;exact hj
 have hj3:=hj2
 rw[fN] at hj3
 have hj4:i+j<min k xs.size:=dO i j ▸ di hj3
 have hj':i+j<xs.size:=aW hj4 (dU _ _)
 refine⟨i+j,dY _ _,aW hj4 (jk _ _),hj',?_⟩
 rw[zcY hj',dj,db]
theorem ext_up{xs:Array Keyed}{i k:Nat}(h:Up rk xs i k):(xs.extract i k).toList.Pairwise fun x y=>rk x<=rk y:=by
 rw[d8]
 intro a b ha hb hab
 have h1:a<(xs.extract i k).size:=by rw[aC] at ha;exact ha
 have h2:b<(xs.extract i k).size:=by rw[aC] at hb;exact hb
 have h3:=h1;have h4:=h2
 rw[fN] at h3 h4
 have h5:i+a<min k xs.size:=dO i a ▸ di h3
 have h6:i+b<min k xs.size:=dO i b ▸ di h4
 have z:=h (i+a) (i+b) (dY _ _) (dt (bA hab) _) (aW h6 (jk _ _))
 rw[zcY (aW h5 (dU _ _)),zcY (aW h6 (dU _ _))] at z
 rw[dj,dj,db,db]
 exact z
theorem zek{xs:Array Keyed}{i k:Nat}(h:i<=k):xs.toList.drop i=(xs.extract i k).toList ++ xs.toList.drop k:=by
 rw[cZ,cy]
 have:xs.toList.drop k=(xs.toList.drop i).drop (k - i):=by rw[jt];congr 1;lia
 rw[this,eZ]
theorem Up.mono{xs:Array Keyed}{lo hi lo' hi':Nat}(h:Up rk xs lo hi)(h1:lo<=lo')(h2:hi'<=hi):Up rk xs lo' hi':=fun i j a b c=>h i j (by lia) b (by lia)
theorem Mg.runA{all:List Keyed}{out a b:Array Keyed}{i j k:Nat}(M:Mg rk all out (a.toList.drop i ++ b.toList.drop j))(h:i<=k)(hk:k<=a.size)(sa:Up rk a 0 a.size)(hb:∀ x y,i<=x->x<k->j<=y->y<b.size->kA rk a x<=kA rk b y):Mg rk all (out ++ a.extract i k) (a.toList.drop k ++ b.toList.drop j):=by
 refine M.take ?_ (ext_up (sa.mono (aS _) hk)) ?_
 ·rw[zek h,b6]
 ·intro x hx y hy
  obtain⟨p,p1,p2,p3,p4⟩:=zfA (rk:=rk) hx
  rw[<- p4]
  rcases bx.mp hy with hy | hy
  ·obtain⟨q,q1,q2,q3⟩:=zio (rk:=rk) hy
   rw[<- q3]
   exact sa p q (aS _) (by lia) q2
  ·obtain⟨q,q1,q2,q3⟩:=zio (rk:=rk) hy
   rw[<- q3]
   exact hb p q p1 p2 q1 q2
theorem Mg.oneA{all:List Keyed}{out a b:Array Keyed}{i j:Nat}(M:Mg rk all out (a.toList.drop i ++ b.toList.drop j))(hk:i<a.size)(sa:Up rk a 0 a.size)(hb:∀ y,j<=y->y<b.size->kA rk a i<=kA rk b y):Mg rk all (out.push a[i]) (a.toList.drop (i+1) ++ b.toList.drop j):=by
 have h:=M.runA (k:=i+1) (by lia) hk sa (fun x y h1 h2 h3 h4=>(show i=x by lia) ▸ hb y h3 h4)
 have e:out ++ a.extract i (i+1)=out.push a[i]:=by
  apply hU
  rw[du,fY,cZ,cy,show i+1 - i=1 by lia,bQ (by simpa using hk)]
  simp
 rwa [e] at h
theorem Mg.end_{all:List Keyed}{out:Array Keyed}(M:Mg rk all out []):out.toList.Perm all/\out.toList.Pairwise fun x y=>rk x<=rk y:=⟨by simpa using M.perm,M.srt⟩
theorem zgA(R:Rk prog w A s kd D rk){key:Keyed}{arr:Array Keyed}{base n hint:Nat}{Q:Option Nat->SortSt->Prop}(hk:kindOf st=kd)(hD:∀ x ∈ arr,D x)(hy:D key)(hn:base+n<=arr.size)(hh:hint<n)(hu:Up rk arr base (base+n))
  (h:∀ k,k<=n->(∀ i,base<=i->i<base+k->kA rk arr i<=rk key)->(∀ i,base+k<=i->i<base+n->rk key<kA rk arr i)->Q (aa k) st):wpS (model prog w) A E s (gal false key arr base n hint) Q st:=by
 have hb:∀ i,beyB rk false key arr base i=!decide (rk key<kA rk arr (base+i)):=fun i=>rfl
 refine wpS_gal R hk hD hy hn hh (fun i j hij hj hB=>?_) fun k h1 h2 h3=>h k h1 (fun i i1 i2=>?_) fun i i1 i2=>?_
 ·rw[hb] at hB ⊢
  have:=hu (base+i) (base+j) (by lia) (by lia) (by lia)
  simp only[iP,decide_eq_false_iff_not] at hB ⊢
  lia
 ·have:=h2 (i - base) (by lia)
  rw[hb,show base+(i - base)=i by lia] at this
  simp only[iP,decide_eq_false_iff_not] at this
  lia
 ·have:=h3 (i - base) (by lia) (by lia)
  rw[hb,show base+(i - base)=i by lia] at this
  simpa using this
theorem zgd(R:Rk prog w A s kd D rk){key:Keyed}{arr:Array Keyed}{base n hint:Nat}{Q:Option Nat->SortSt->Prop}(hk:kindOf st=kd)(hD:∀ x ∈ arr,D x)(hy:D key)(hn:base+n<=arr.size)(hh:hint<n)(hu:Up rk arr base (base+n))
  (h:∀ k,k<=n->(∀ i,base<=i->i<base+k->kA rk arr i<rk key)->(∀ i,base+k<=i->i<base+n->rk key<=kA rk arr i)->Q (aa k) st):wpS (model prog w) A E s (gal true key arr base n hint) Q st:=by
 have hb:∀ i,beyB rk true key arr base i=decide (kA rk arr (base+i)<rk key):=fun i=>rfl
 refine wpS_gal R hk hD hy hn hh (fun i j hij hj hB=>?_) fun k h1 h2 h3=>h k h1 (fun i i1 i2=>?_) fun i i1 i2=>?_
 ·rw[hb] at hB ⊢
  have:=hu (base+i) (base+j) (by lia) (by lia) (by lia)
  simp only[decide_eq_true_eq] at hB ⊢
  lia
 ·have:=h2 (i - base) (by lia)
  rw[hb,show base+(i - base)=i by lia] at this
  simpa using this
 ·have:=h3 (i - base) (by lia) (by lia)
  rw[hb,show base+(i - base)=i by lia] at this
  simp only[decide_eq_false_iff_not] at this
  lia
def zeD(rk:Keyed->Nat)(a b out:Array Keyed):Prop:=out.toList.Perm (a.toList ++ b.toList)/\out.toList.Pairwise fun x y=>rk x<=rk y
theorem zem{xs:Array Keyed}{k:Nat}(h:xs.size<=k):xs.toList.drop k=[]:=eM (by simpa using h)
theorem Mg.finB{a b out:Array Keyed}{i j:Nat}(M:Mg rk (a.toList ++ b.toList) out (a.toList.drop i ++ b.toList.drop j))(sa:Up rk a 0 a.size)(sb:Up rk b 0 b.size)(hi:i<=a.size)(hj:j=b.size):zeD rk a b (out ++ a.extract i a.size ++ b.extract j b.size):=by
 have M1:=(M.runA (k:=a.size) hi (ai _) sa (fun x y _ _ h3 h4=>by lia)).swap.runA (k:=b.size) (by lia) (ai _) sb (fun x y h1 h2 _ _=>by lia)
 rw[zem (ai _),zem (ai _)] at M1
 exact M1.end_
theorem Mg.finA{a b out:Array Keyed}{i j:Nat}(M:Mg rk (a.toList ++ b.toList) out (a.toList.drop i ++ b.toList.drop j))(sa:Up rk a 0 a.size)(sb:Up rk b 0 b.size)(hi:i+1=a.size)(hj:j<=b.size)(hl:∀ y,y<b.size->kA rk b y<kA rk a (a.size - 1)):zeD rk a b (out ++ b.extract j b.size ++ a.extract i a.size):=by
 have M1:=(M.swap.runA (k:=b.size) hj (ai _) sb (fun x y h1 h2 h3 h4=>by
  have:y=a.size - 1:=by lia
  subst this
  exact bA (hl x h2))).swap.runA (k:=a.size) (by lia) (ai _) sa (fun x y h1 h2 h3 h4=>by lia)
 rw[zem (ai _),zem (ai _)] at M1
 exact M1.end_
theorem zeo{xs:Array Keyed}{i:Nat}:xs.extract i i=#[]:=by
 apply hU
 rw[cZ,cy,c6,jq]
section
variable {M:Model}{α σ β γ:Type}{Q:α->σ->Prop}{st:σ}{c:Prop}{_:Decidable c}{c1 c2:γ->Prop}{_:∀ x,Decidable (c1 x)}{_:∀ x,Decidable (c2 x)}{p2:γ->Prop}{p1:γ->β->Prop}{r r2 f:β->γ->StateT σ Sem α}{y1:β}{y2:γ}
theorem ziS{b:β}{f:β->StateT σ Sem α}(h:∀ g,wpS M A E s (f g) Q st):∀ a,wpS M A E s (if c then f a else f b) Q st:=by
 intro a
 split <;> exact h _
theorem zir(h1:∀ x1 x2,p2 x2->p1 x2 x1->c->c1 x2->wpS M A E s (r x1 x2) Q st)(h:∀ z1 z2,(c/\p2 z2/\p1 z2 z1/\¬ c1 z2) \/ (¬ c/\z1=y1/\z2=y2)->wpS M A E s (f z1 z2) Q st) :
  ∀ x2,p2 x2->∀ x1,p1 x2 x1->wpS M A E s (if c then if c1 x2 then r x1 x2 else f x1 x2 else f y1 y2) Q st:=by
 intro x2 q2 x1 q1
 split
 ·rename_i e
  split
  ·rename_i e1;exact h1 _ _ q2 q1 e e1
  ·rename_i e1;exact h _ _ (.inl ⟨e,q2,q1,e1⟩)
 ·rename_i e;exact h _ _ (.inr ⟨e,rfl,rfl⟩)
theorem zhE(h2:∀ x2,p2 x2->c->¬ c2 x2)(h1:∀ x1 x2,p2 x2->p1 x2 x1->c->c1 x2->wpS M A E s (r x1 x2) Q st)(h:∀ z1 z2,(c/\p2 z2/\p1 z2 z1/\¬ c1 z2) \/ (¬ c/\z1=y1/\z2=y2)->wpS M A E s (f z1 z2) Q st) :
  ∀ x2,p2 x2->∀ x1,p1 x2 x1->wpS M A E s (if c then if c1 x2 then r x1 x2 else if c2 x2 then r2 x1 x2 else f x1 x2 else f y1 y2) Q st:=by
 intro x2 q2 x1 q1
 split
 ·rename_i e
  rw[if_neg (h2 _ q2 e)]
  split
  ·rename_i e1;exact h1 _ _ q2 q1 e e1
  ·rename_i e1;exact h _ _ (.inl ⟨e,q2,q1,e1⟩)
 ·rename_i e;exact h _ _ (.inr ⟨e,rfl,rfl⟩)
end
theorem wpS_mgLo(R:Rk prog w A s kd D rk){a b:Array Keyed}{Q:Array Keyed->SortSt->Prop}(hk:kindOf st=kd)(hDa:∀ x ∈ a,D x)(hDb:∀ x ∈ b,D x)(sa:Up rk a 0 a.size)(sb:Up rk b 0 b.size)(ha:1<=a.size)(hb:1<=b.size)
  (h0:kA rk b 0<=kA rk a 0) (hl:∀ y,y<b.size->kA rk b y<kA rk a (a.size - 1))
  (h:∀ out g,out.toList.Perm (a.toList ++ b.toList)->(out.toList.Pairwise fun x y=>rk x<=rk y)->Q out (zcy st g)):wpS (model prog w) A E s (mgLo a b) Q st:=by
 refine ar (zdK ?_)
 refine ar (zbK hb ?_)
 have M0:Mg rk (a.toList ++ b.toList) #[b[0]] (a.toList.drop 0 ++ b.toList.drop 1):=by
  have h1:Mg rk (a.toList ++ b.toList) #[] (b.toList.drop 0 ++ a.toList.drop 0):=⟨by simpa using eY,.nil,fun x hx=>by cases hx⟩
  exact(h1.oneA hb sb (fun y _ hy=>aL h0 (sa 0 y (ai _) (aS _) hy))).swap
 have good:∀ {out:Array Keyed} {g:Nat},zeD rk a b out->Q out (zcy st g):=fun hW=>h _ _ hW.1 hW.2
 dsimp only
 by_cases hb1:1=b.size
 ·rw[if_pos (by simpa using hb1)]
  exact aA (good (g:=gallopOf st) (M0.finB sa sb (aS _) hb1))
 rw[if_neg (by simpa using hb1)]
 by_cases ha1:0+1=a.size
 ·rw[if_pos (by simpa using ha1)]
  exact aA (good (g:=gallopOf st) (M0.finA sa sb ha1 hb hl))
 rw[if_neg (by simpa using ha1)]
 refine ar (wpS_get ?_)
 refine ar (wpS_mono (bX (I:=fun x c st'=>(∃ g,st'=zcy st g)/\∃ out ia ib mg,c=(ab,out,ia,ib,mg)/\x+1<=ia+ib/\ia+1<a.size/\ib<b.size/\Mg rk (a.toList ++ b.toList) out (a.toList.drop ia ++ b.toList.drop ib))
  (Q:=fun c st'=>(∃ g,st'=zcy st g)/\∃ r z,c=(aa r,z)/\zeD rk a b r) ?step ?fin ⟨⟨gallopOf st,rfl⟩,_,_,_,_,rfl,by lia,by lia,by lia,M0⟩) ?post)
 case post=>
  rintro c st' ⟨⟨g,rfl⟩,r,z,rfl,hW⟩
  exact aA (good hW)
 case fin=>
  rintro c st' ⟨_,out,ia,ib,mg,rfl,h1,h2,h3,_⟩
  exfalso;lia
 case step=>
  rintro x c st' _ hx ⟨⟨g,rfl⟩,out,ia,ib,mg,rfl,h1,h2,h3,M⟩
  dsimp only
  refine ar (wpS_mono (bX (I:=fun y c st'=>st'=zcy st g/\∃ out ia' ib' ac bc,c=(ab,out,ia',ib',ac,bc)/\ia+ib+y<=ia'+ib'/\ia'+1<a.size/\ib'<b.size/\Mg rk (a.toList ++ b.toList) out (a.toList.drop ia' ++ b.toList.drop ib'))
   (Q:=fun c st'=>st'=zcy st g/\((∃ out ia' ib' ac bc,c=(ab,out,ia',ib',ac,bc)/\ia+ib+1<=ia'+ib'/\ia'+1<a.size/\ib'<b.size/\Mg rk (a.toList ++ b.toList) out (a.toList.drop ia' ++ b.toList.drop ib')) \/ ∃ r z,c=(aa r,z)/\zeD rk a b r)) ?step1 ?fin1 ⟨rfl,_,_,_,_,_,rfl,by lia,h2,h3,M⟩) ?post1)
  case fin1=>
   rintro c st' ⟨rfl,out,ia',ib',ac,bc,rfl,h1,h2,h3,M⟩
   exact⟨rfl,.inl ⟨_,_,_,_,_,rfl,by lia,h2,h3,M⟩⟩
  case step1=>
   rintro y c st' _ hy ⟨rfl,out,ia',ib',ac,bc,rfl,h1,h2,h3,M⟩
   dsimp only
   have h2':ia'<a.size:=by lia
   refine ar (zbK h3 ?_)
   refine ar (zbK h2' ?_)
   refine ar (wpS_q R hk (hDb _ (bu h3)) (hDa _ (bu h2')) ?_)
   dsimp only
   rw[<- zcY (rk:=rk) h3,<- zcY (rk:=rk) h2']
   by_cases hw:kA rk b ib'<kA rk a ia'
   ·rw[decide_eq_true hw,if_pos rfl]
    refine ar (zbK h3 ?_)
    have M1:=(M.swap.oneA h3 sb (fun y h1 h2=>aL (bA hw) (sa ia' y (aS _) h1 h2))).swap
    by_cases he:ib'+1=b.size
    ·rw[if_pos (by simpa using he)]
     exact aA ⟨rfl,.inr ⟨_,_,rfl,M1.finB sa sb (by lia) he⟩⟩
    ·rw[if_neg (by simpa using he)]
     split
     ·exact aA ⟨rfl,.inl ⟨_,_,_,_,_,rfl,by lia,h2,by lia,M1⟩⟩
     ·exact aA ⟨rfl,_,_,_,_,_,rfl,by lia,h2,by lia,M1⟩
   ·rw[decide_eq_false hw,if_neg (by simp)]
    refine ar (zbK h2' ?_)
    have M1:=M.oneA h2' sa (fun y h1 h2=>aL (by lia) (sb ib' y (aS _) h1 h2))
    by_cases he:ia'+1+1=a.size
    ·rw[if_pos (by simpa using he)]
     exact aA ⟨rfl,.inr ⟨_,_,rfl,M1.finA sa sb he (by lia) hl⟩⟩
    ·rw[if_neg (by simpa using he)]
     split
     ·exact aA ⟨rfl,.inl ⟨_,_,_,_,_,rfl,by lia,by lia,h3,M1⟩⟩
     ·exact aA ⟨rfl,_,_,_,_,_,rfl,by lia,by lia,h3,M1⟩
  case post1=>
   rintro c st' ⟨rfl,⟨out,ia',ib',ac,bc,rfl,h1,h2,h3,M⟩ | ⟨r,z,rfl,hW⟩⟩
   ·dsimp only
    refine ar (zdK ?_)
    refine ar (wpS_mono (bX (I:=fun y c st'=>(∃ g,st'=zcy st g)/\∃ out ia2 ib2 mg ac bc,c=(ab,out,ia2,ib2,mg,ac,bc)/\ia+ib+1<=ia2+ib2/\ia2+1<a.size/\ib2<b.size/\Mg rk (a.toList ++ b.toList) out (a.toList.drop ia2 ++ b.toList.drop ib2))
     (Q:=fun c st'=>(∃ g,st'=zcy st g)/\((∃ out ia2 ib2 mg ac bc,c=(ab,out,ia2,ib2,mg,ac,bc)/\ia+ib+1<=ia2+ib2/\ia2+1<a.size/\ib2<b.size/\Mg rk (a.toList ++ b.toList) out (a.toList.drop ia2 ++ b.toList.drop ib2)) \/ ∃ r z,c=(aa r,z)/\zeD rk a b r)) ?step2 ?fin2 ⟨⟨g,rfl⟩,_,_,_,_,_,_,rfl,h1,h2,h3,M⟩) ?post2)
    case fin2=>
     rintro c st' ⟨hg,z⟩
     exact⟨hg,.inl z⟩
    case post2=>
     rintro c st' ⟨⟨g,rfl⟩,⟨out,ia2,ib2,mg,ac,bc,rfl,h1,h2,h3,M⟩ | ⟨r,z,rfl,hW⟩⟩
     ·dsimp only
      exact ar (zgf (aA ⟨⟨_,rfl⟩,_,_,_,_,rfl,by lia,h2,h3,M⟩))
     ·exact aA ⟨⟨_,rfl⟩,_,_,rfl,hW⟩
    case step2=>
     clear h1 h2 h3 M
     rintro y c st' _ hy ⟨⟨g,rfl⟩,out,ia',ib',mg,ac,bc,rfl,h1,h2,h3,M⟩
     dsimp only
     have h2':ia'<a.size:=by lia
     generalize mg - 1=mg'
     revert mg'
     refine ziS ?_
     intro g'
     refine ar (zgf ?_)
     refine ar (zbK h3 ?_)
     refine ar (zgA R hk hDa (hDb _ (bu h3)) (by lia) (by lia) (sa.mono (aS _) (by lia)) fun k k1 k2 k3=>?_)
     rw[<- zcY (rk:=rk) h3] at k2 k3
     have hkk:ia'+k<a.size:=by
      refine eS fun hc=>?_
      have e1:=k2 (a.size - 1) (by lia) (by lia)
      have e2:=hl ib' h3
      lia
     have M1:=M.runA (k:=ia'+k) (by lia) (by lia) sa (fun x y x1 x2 y1 y2=>aL (k2 x x1 x2) (sb ib' y (aS _) y1 y2))
     have k4:∀ y,ia'+k<=y->y<a.size->kA rk b ib'<=kA rk a y:=fun y y1 y2=>bA (k3 y y1 (by lia))
     have z0:k=0->out ++ a.extract ia' (ia'+k)=out/\ia'+k=ia':=fun e=>by
      subst e
      rw[ej,zeo,dA]
      exact⟨rfl,rfl⟩
     clear k1 k2 k3
     dsimp only
     generalize hj1:ia'+k=j1
     generalize ho1:out ++ a.extract ia' j1=o1
     revert o1 j1
     refine zhE (fun j1 e1 _=>by subst e1;simp;lia) (fun o1 j1 e1 e2 _ he=>?_) fun o2 j2 hz=>?_
     ·subst e1
      subst e2
      exact aA ⟨⟨_,rfl⟩,.inr ⟨_,_,rfl,M1.finA sa sb (by simpa using he) (by lia) hl⟩⟩
     have hz':o2=out ++ a.extract ia' (ia'+k)/\j2=ia'+k/\¬ j2+1=a.size:=by
      rcases hz with ⟨_,e1,e2,he⟩ | ⟨he,e1,e2⟩
      ·subst e1
       exact⟨e2.symm,rfl,by simpa using he⟩
      ·obtain⟨q1,q2⟩:=z0 (by lia)
       rw[q1,q2]
       exact⟨e1,e2,by lia⟩
     clear hz z0
     obtain⟨e1,e2,he⟩:=hz'
     rw[<- e1,<- e2] at M1
     rw[<- e2] at hkk k4
     have hj2:ia'<=j2:=by lia
     clear e1 e2
     refine ar (zbK h3 ?_)
     have M2:=(M1.swap.oneA h3 sb k4).swap
     by_cases he2:ib'+1=b.size
     ·rw[if_pos (by simpa using he2)]
      exact aA ⟨⟨_,rfl⟩,.inr ⟨_,_,rfl,M2.finB sa sb (by lia) he2⟩⟩
     rw[if_neg (by simpa using he2)]
     refine ar (zbK hkk ?_)
     refine ar (zgd R hk hDb (hDa _ (bu hkk)) (by lia) (by lia) (sb.mono (aS _) (by lia)) fun l l1 l2 l3=>?_)
     rw[<- zcY (rk:=rk) hkk] at l2 l3
     have M3:=(M2.swap.runA (k:=ib'+1+l) (by lia) (by lia) sb (fun x y x1 x2 y1 y2=>aL (bA (l2 x x1 x2)) (sa _ y (aS _) y1 y2))).swap
     have l4:∀ y,ib'+1+l<=y->y<b.size->kA rk a j2<=kA rk b y:=fun y y1 y2=>l3 y y1 (by lia)
     have hll:ib'+1+l<=b.size:=by lia
     generalize o2.push b[ib']=o3 at M3 ⊢
     have z0:l=0->o3 ++ b.extract (ib'+1) (ib'+1+l)=o3/\ib'+1+l=ib'+1:=fun e=>by
      subst e
      rw[ej,zeo,dA]
      exact⟨rfl,rfl⟩
     clear l1 l2 l3 M2 M1
     dsimp only
     generalize hj3:ib'+1+l=j3
     generalize ho4:o3 ++ b.extract (ib'+1) j3=o4
     revert o4 j3
     refine zir (fun o4 j3 e1 e2 _ he=>?_) fun o5 j5 hz=>?_
     ·subst e1
      subst e2
      exact aA ⟨⟨_,rfl⟩,.inr ⟨_,_,rfl,M3.finB sa sb (by lia) (by simpa using he)⟩⟩
     have hz':o5=o3 ++ b.extract (ib'+1) (ib'+1+l)/\j5=ib'+1+l/\¬ j5=b.size:=by
      rcases hz with ⟨_,e1,e2,he⟩ | ⟨he,e1,e2⟩
      ·subst e1
       exact⟨e2.symm,rfl,by simpa using he⟩
      ·obtain⟨q1,q2⟩:=z0 (by lia)
       rw[q1,q2]
       exact⟨e1,e2,by lia⟩
     clear hz z0
     obtain⟨e1,e2,he3⟩:=hz'
     rw[<- e1,<- e2] at M3
     rw[<- e2] at hll l4
     have hj5:ib'+1<=j5:=by lia
     clear e1 e2
     refine ar (zbK hkk ?_)
     have M4:=M3.oneA hkk sa l4
     split
     ·rename_i he4
      exact aA ⟨⟨_,rfl⟩,.inr ⟨_,_,rfl,M4.finA sa sb (by simpa using he4) (by lia) hl⟩⟩
     ·rename_i he4
      have he5:¬ _=a.size:=fun e=>he4 (beq_iff_eq.mpr e)
      have b1:ia+ib+1<=j2+1+j5:=by lia
      have b2:j2+1+1<a.size:=by lia
      have b3:j5<b.size:=by lia
      split
      ·exact aA ⟨⟨_,rfl⟩,.inl ⟨_,_,_,_,_,_,rfl,b1,b2,b3,M4⟩⟩
      ·exact aA ⟨⟨_,rfl⟩,_,_,_,_,_,_,rfl,b1,b2,b3,M4⟩
   ·exact aA ⟨⟨_,rfl⟩,_,_,rfl,hW⟩
end
end L2

namespace L2
open PySem PySem.Spec PyProof.Rows
section
variable {prog:aR}{w:aU}{A:a9}{E:ae->ah->Prop}{s:ah}{kd:SortKind}{D:Keyed->Prop}{rk:Keyed->Nat}{st:SortSt}
abbrev Mh(rk:Keyed->Nat):=MgR fun x y=>rk y<=rk x
theorem Mh.swap{all ra rb:List Keyed}{out:Array Keyed}(M:Mh rk all out (ra ++ rb)):Mh rk all out (rb ++ ra):=MgR.swap M
theorem ziK{xs:Array Keyed}{n:Nat}{x:Keyed}(h:x ∈ xs.toList.take n):∃ j,j<n/\j<xs.size/\kA rk xs j=rk x:=by
 have e:xs.toList.take n=(xs.extract 0 n).toList:=by rw[cZ,cy];rfl
 rw[e] at h
 obtain⟨j,_,h2,h3,h4⟩:=zfA (rk:=rk) h
 exact⟨j,h2,h3,h4⟩
theorem take_ext{xs:Array Keyed}{k n:Nat}(h:k<=n):xs.toList.take n=xs.toList.take k ++ (xs.extract k n).toList:=by
 rw[cZ,cy,<- List.take_add,show k+(n - k)=n by lia]
theorem Mh.runA{all:List Keyed}{out a b:Array Keyed}{na nb k:Nat}(M:Mh rk all out (a.toList.take na ++ b.toList.take nb))(h:k<=na)(hk:na<=a.size)(sa:Up rk a 0 a.size)(hb:∀ x y,k<=x->x<na->y<nb->y<b.size->kA rk b y<=kA rk a x):Mh rk all (out ++ (a.extract k na).reverse) (a.toList.take k ++ b.toList.take nb):=by
 refine M.take ?_ ?_ ?_
 ·rw[take_ext h,dZ]
  refine(eY.append_right _).trans ?_
  rw[b6]
  exact(iQ _).symm.append_right _
 ·rw[dZ,gX]
  exact ext_up (sa.mono (aS _) hk)
 ·intro x hx y hy
  rw[dZ,List.mem_reverse] at hx
  obtain⟨p,p1,p2,p3,p4⟩:=zfA (rk:=rk) hx
  rw[<- p4]
  rcases bx.mp hy with hy | hy
  ·obtain⟨q,q1,q2,q3⟩:=ziK (rk:=rk) hy
   rw[<- q3]
   exact sa q p (aS _) (by lia) p3
  ·obtain⟨q,q1,q2,q3⟩:=ziK (rk:=rk) hy
   rw[<- q3]
   exact hb p q p1 p2 q1 q2
theorem Mh.oneA{all:List Keyed}{out a b:Array Keyed}{na nb k:Nat}(M:Mh rk all out (a.toList.take na ++ b.toList.take nb))(hn:k+1=na)(hk:k<a.size)(sa:Up rk a 0 a.size)(hb:∀ y,y<nb->y<b.size->kA rk b y<=kA rk a k):Mh rk all (out.push a[k]) (a.toList.take k ++ b.toList.take nb):=by
 subst hn
 have h:=M.runA (k:=k) (by lia) hk sa (fun x y h1 h2 h3 h4=>(show k=x by lia) ▸ hb y h3 h4)
 have e:out ++ (a.extract k (k+1)).reverse=out.push a[k]:=by
  apply hU
  rw[du,fY,dZ,cZ,cy,show k+1 - k=1 by lia,bQ (by simpa using hk)]
  simp
 rwa [e] at h
theorem Mh.end_{a b out r:Array Keyed}(M:Mh rk (a.toList ++ b.toList) out [])(e:r.toList=out.toList.reverse):zeD rk a b r:=by
 refine⟨?_,?_⟩
 ·rw[e]
  exact(iQ _).trans (by simpa using M.perm)
 ·rw[e,gX]
  exact M.srt
theorem Mh.finA{a b out:Array Keyed}{na nb:Nat}(M:Mh rk (a.toList ++ b.toList) out (a.toList.take na ++ b.toList.take nb))(sa:Up rk a 0 a.size)(sb:Up rk b 0 b.size)(hn:na=0)(hb:nb<=b.size):zeD rk a b (a.extract 0 na ++ b.extract 0 nb ++ out.reverse):=by
 subst hn
 have M1:=M.swap.runA (k:=0) (aS _) hb sb (fun x y _ _ h _=>by lia)
 refine Mh.end_ M1 ?_
 simp[zeo]
theorem Mh.finB{a b out:Array Keyed}{na nb:Nat}(M:Mh rk (a.toList ++ b.toList) out (a.toList.take na ++ b.toList.take nb))(sa:Up rk a 0 a.size)(sb:Up rk b 0 b.size)(hn:nb=1)(hb:1<=b.size)(ha:na<=a.size)(h0:kA rk b 0<kA rk a 0):zeD rk a b (b.extract 0 nb ++ a.extract 0 na ++ out.reverse):=by
 subst hn
 have M1:=(M.runA (k:=0) (aS _) ha sa (fun x y _ h2 h3 _=>by
  have:y=0:=by lia
  subst this
  exact bA (aW h0 (sa 0 x (ai _) (aS _) (by lia))))).swap.runA (k:=0) (aS _) hb sb (fun x y _ _ h _=>by lia)
 refine Mh.end_ M1 ?_
 simp
theorem wpS_mgHi(R:Rk prog w A s kd D rk){a b:Array Keyed}{Q:Array Keyed->SortSt->Prop}(hk:kindOf st=kd)(hDa:∀ x ∈ a,D x)(hDb:∀ x ∈ b,D x)(sa:Up rk a 0 a.size)(sb:Up rk b 0 b.size)(ha:1<=a.size)(hb:1<=b.size)
  (h0:kA rk b 0<kA rk a 0) (hl:∀ y,y<b.size->kA rk b y<kA rk a (a.size - 1))
  (h:∀ out g,out.toList.Perm (a.toList ++ b.toList)->(out.toList.Pairwise fun x y=>rk x<=rk y)->Q out (zcy st g)):wpS (model prog w) A E s (mgHi a b) Q st:=by
 refine ar (zdK ?_)
 have hz:a.size - 1<a.size:=by lia
 refine ar (zbK hz ?_)
 have M0:Mh rk (a.toList ++ b.toList) #[a[a.size - 1]] (a.toList.take (a.size - 1) ++ b.toList.take b.size):=by
  have h1:Mh rk (a.toList ++ b.toList) #[] (a.toList.take a.size ++ b.toList.take b.size):=by
   rw[cn (by simp),cn (by simp)]
   exact⟨by simp,.nil,fun x hx=>by cases hx⟩
  exact h1.oneA (by lia) hz sa (fun y _ hy=>bA (hl y hy))
 have good:∀ {out:Array Keyed} {g:Nat},zeD rk a b out->Q out (zcy st g):=fun hW=>h _ _ hW.1 hW.2
 dsimp only
 by_cases ha1:a.size - 1=0
 ·rw[if_pos (by simpa using ha1)]
  exact aA (good (g:=gallopOf st) (M0.finA sa sb ha1 (ai _)))
 rw[if_neg (by simpa using ha1)]
 by_cases hb1:b.size=1
 ·rw[if_pos (by simpa using hb1)]
  exact aA (good (g:=gallopOf st) (M0.finB sa sb hb1 hb (by lia) h0))
 rw[if_neg (by simpa using hb1)]
 refine ar (wpS_get ?_)
 refine ar (wpS_mono (bX (I:=fun x c st'=>(∃ g,st'=zcy st g)/\∃ na nb out mg,c=(ab,na,nb,out,mg)/\x+1+na+nb<=a.size+b.size/\1<=na/\na<a.size/\2<=nb/\nb<=b.size/\Mh rk (a.toList ++ b.toList) out (a.toList.take na ++ b.toList.take nb))
  (Q:=fun c st'=>(∃ g,st'=zcy st g)/\∃ r z,c=(aa r,z)/\zeD rk a b r) ?step ?fin ⟨⟨gallopOf st,rfl⟩,_,_,_,_,rfl,by lia,by lia,by lia,by lia,by lia,M0⟩) ?post)
 case post=>
  rintro c st' ⟨⟨g,rfl⟩,r,z,rfl,hW⟩
  exact aA (good hW)
 case fin=>
  rintro c st' ⟨_,na,nb,out,mg,rfl,h1,h2,h3,_⟩
  exfalso;lia
 case step=>
  rintro x c st' _ hx ⟨⟨g,rfl⟩,na,nb,out,mg,rfl,h1,h2,h3,h4,h5,M⟩
  dsimp only
  refine ar (wpS_mono (bX (I:=fun y c st'=>st'=zcy st g/\∃ na' nb' out ac bc,c=(ab,na',nb',out,ac,bc)/\na'+nb'+y<=na+nb/\1<=na'/\na'<a.size/\2<=nb'/\nb'<=b.size/\Mh rk (a.toList ++ b.toList) out (a.toList.take na' ++ b.toList.take nb'))
   (Q:=fun c st'=>st'=zcy st g/\((∃ na' nb' out ac bc,c=(ab,na',nb',out,ac,bc)/\na'+nb'+1<=na+nb/\1<=na'/\na'<a.size/\2<=nb'/\nb'<=b.size/\Mh rk (a.toList ++ b.toList) out (a.toList.take na' ++ b.toList.take nb')) \/ ∃ r z,c=(aa r,z)/\zeD rk a b r)) ?step1 ?fin1 ⟨rfl,_,_,_,_,_,rfl,by lia,h2,h3,h4,h5,M⟩) ?post1)
  case fin1=>
   rintro c st' ⟨rfl,na',nb',out,ac,bc,rfl,h1,h2,h3,h4,h5,M⟩
   exact⟨rfl,.inl ⟨_,_,_,_,_,rfl,by lia,h2,h3,h4,h5,M⟩⟩
  case step1=>
   rintro y c st' _ hy ⟨rfl,na',nb',out,ac,bc,rfl,h1,h2,h3,h4,h5,M⟩
   dsimp only
   have ka:na' - 1<a.size:=by lia
   have kb:nb' - 1<b.size:=by lia
   refine ar (zbK kb ?_)
   refine ar (zbK ka ?_)
   refine ar (wpS_q R hk (hDb _ (bu kb)) (hDa _ (bu ka)) ?_)
   dsimp only
   rw[<- zcY (rk:=rk) kb,<- zcY (rk:=rk) ka]
   by_cases hw:kA rk b (nb' - 1)<kA rk a (na' - 1)
   ·rw[decide_eq_true hw,if_pos rfl]
    refine ar (zbK ka ?_)
    have M1:=M.oneA (by lia) ka sa (fun y h1 h2=>aL (sb y (nb' - 1) (aS _) (by lia) kb) (bA hw))
    by_cases he:na' - 1=0
    ·rw[if_pos (by simpa using he)]
     exact aA ⟨rfl,.inr ⟨_,_,rfl,M1.finA sa sb he h5⟩⟩
    ·rw[if_neg (by simpa using he)]
     split
     ·exact aA ⟨rfl,.inl ⟨_,_,_,_,_,rfl,by lia,by lia,by lia,h4,h5,M1⟩⟩
     ·exact aA ⟨rfl,_,_,_,_,_,rfl,by lia,by lia,by lia,h4,h5,M1⟩
   ·rw[decide_eq_false hw,if_neg (by simp)]
    refine ar (zbK kb ?_)
    have M1:=(M.swap.oneA (by lia) kb sb (fun y h1 h2=>aL (sa y (na' - 1) (aS _) (by lia) ka) (by lia))).swap
    by_cases he:nb' - 1=1
    ·rw[if_pos (by simpa using he)]
     exact aA ⟨rfl,.inr ⟨_,_,rfl,M1.finB sa sb he hb (by lia) h0⟩⟩
    ·rw[if_neg (by simpa using he)]
     split
     ·exact aA ⟨rfl,.inl ⟨_,_,_,_,_,rfl,by lia,h2,h3,by lia,by lia,M1⟩⟩
     ·exact aA ⟨rfl,_,_,_,_,_,rfl,by lia,h2,h3,by lia,by lia,M1⟩
  case post1=>
   rintro c st' ⟨rfl,⟨na',nb',out,ac,bc,rfl,h1,h2,h3,h4,h5,M⟩ | ⟨r,z,rfl,hW⟩⟩
   ·dsimp only
    refine ar (zdK ?_)
    refine ar (wpS_mono (bX (I:=fun y c st'=>(∃ g,st'=zcy st g)/\∃ na' nb' out mg ac bc,c=(ab,na',nb',out,mg,ac,bc)/\na'+nb'+1<=na+nb/\1<=na'/\na'<a.size/\2<=nb'/\nb'<=b.size/\Mh rk (a.toList ++ b.toList) out (a.toList.take na' ++ b.toList.take nb'))
     (Q:=fun c st'=>(∃ g,st'=zcy st g)/\((∃ na' nb' out mg ac bc,c=(ab,na',nb',out,mg,ac,bc)/\na'+nb'+1<=na+nb/\1<=na'/\na'<a.size/\2<=nb'/\nb'<=b.size/\Mh rk (a.toList ++ b.toList) out (a.toList.take na' ++ b.toList.take nb')) \/ ∃ r z,c=(aa r,z)/\zeD rk a b r)) ?step2 ?fin2 ⟨⟨g,rfl⟩,_,_,_,_,_,_,rfl,h1,h2,h3,h4,h5,M⟩) ?post2)
    case fin2=>
     rintro c st' ⟨hg,z⟩
     exact⟨hg,.inl z⟩
    case post2=>
     rintro c st' ⟨⟨g,rfl⟩,⟨na',nb',out,mg,ac,bc,rfl,h1,h2,h3,h4,h5,M⟩ | ⟨r,z,rfl,hW⟩⟩
     ·dsimp only
      exact ar (zgf (aA ⟨⟨_,rfl⟩,_,_,_,_,rfl,by lia,h2,h3,h4,h5,M⟩))
     ·exact aA ⟨⟨_,rfl⟩,_,_,rfl,hW⟩
    case step2=>
     clear h1 h2 h3 h4 h5 M
     rintro y c st' _ hy ⟨⟨g,rfl⟩,na',nb',out,mg,ac,bc,rfl,h1,h2,h3,h4,h5,M⟩
     dsimp only
     have kb:nb' - 1<b.size:=by lia
     generalize mg - 1=mg'
     revert mg'
     refine ziS ?_
     intro g'
     refine ar (zgf ?_)
     refine ar (zbK kb ?_)
     refine ar (zgA R hk hDa (hDb _ (bu kb)) (by lia) (by lia) (sa.mono (aS _) (by lia)) fun k k1 k2 k3=>?_)
     rw[<- zcY (rk:=rk) kb] at k2 k3
     simp only[bq] at k2 k3
     have M1:=M.runA (k:=k) k1 (by lia) sa (fun x y x1 x2 y1 y2=>aL (sb y (nb' - 1) (aS _) (by lia) kb) (bA (k3 x x1 x2)))
     have k4:∀ y,y<k->y<a.size->kA rk a y<=kA rk b (nb' - 1):=fun y y1 y2=>k2 y (aS _) y1
     have z0:¬ na' - k > 0->k=na'/\out ++ (a.extract k na').reverse=out:=fun e=>by
      have:k=na':=by lia
      subst this
      rw[zeo,ik,dA]
      exact⟨rfl,rfl⟩
     clear k2 k3
     dsimp only
     generalize na' - k=ac1 at z0 ⊢
     generalize hx2:k=x2
     generalize ho1:out ++ (a.extract x2 na').reverse=o1
     revert o1 x2
     refine zir (fun o1 x2 e1 e2 _ he=>?_) fun o2 j2 hz=>?_
     ·subst e1
      subst e2
      exact aA ⟨⟨_,rfl⟩,.inr ⟨_,_,rfl,M1.finA sa sb (by simpa using he) h5⟩⟩
     have hz':o2=out ++ (a.extract k na').reverse/\j2=k/\¬ j2=0:=by
      rcases hz with ⟨_,e1,e2,he⟩ | ⟨he,e1,e2⟩
      ·subst e1
       exact⟨e2.symm,rfl,by simpa using he⟩
      ·obtain⟨q1,q2⟩:=z0 he
       rw[q2]
       exact⟨e1,by lia,by lia⟩
     clear hz z0
     obtain⟨e1,e2,he⟩:=hz'
     subst e2
     rw[<- e1] at M1
     have ka:j2 - 1<a.size:=by lia
     have hj2:j2<=na':=k1
     clear e1 k1
     refine ar (zbK kb ?_)
     have M2:=(M1.swap.oneA (by lia) kb sb k4).swap
     by_cases he2:nb' - 1=1
     ·rw[if_pos (by simpa using he2)]
      exact aA ⟨⟨_,rfl⟩,.inr ⟨_,_,rfl,M2.finB sa sb he2 hb (by lia) h0⟩⟩
     rw[if_neg (by simpa using he2)]
     refine ar (zbK ka ?_)
     refine ar (zgd R hk hDb (hDa _ (bu ka)) (by lia) (by lia) (sb.mono (aS _) (by lia)) fun l l1 l2 l3=>?_)
     rw[<- zcY (rk:=rk) ka] at l2 l3
     simp only[bq] at l2 l3
     have hl1:1<=l:=by
      refine eS fun hc=>?_
      have e1:=l3 0 (by lia) (by lia)
      have e2:=sa 0 (j2 - 1) (ai _) (aS _) ka
      lia
     have M3:=(M2.swap.runA (k:=l) l1 (by lia) sb (fun x y x1 x2 y1 y2=>aL (sa y (j2 - 1) (aS _) (by lia) ka) (l3 x x1 x2))).swap
     have l4:∀ y,y<l->y<b.size->kA rk b y<=kA rk a (j2 - 1):=fun y y1 y2=>bA (l2 y (aS _) y1)
     generalize o2.push b[nb' - 1]=o3 at M3 ⊢
     have z0:¬ nb' - 1 - l > 0->l=nb' - 1/\o3 ++ (b.extract l (nb' - 1)).reverse=o3:=fun e=>by
      have:l=nb' - 1:=by lia
      subst this
      rw[zeo,ik,dA]
      exact⟨rfl,rfl⟩
     clear l2 l3 M2 M1
     dsimp only
     generalize nb' - 1 - l=bc1 at z0 ⊢
     generalize hx4:l=x4
     generalize ho4:o3 ++ (b.extract x4 (nb' - 1)).reverse=o4
     revert o4 x4
     refine zhE (fun x4 e1 _=>by subst e1;simp;lia) (fun o4 x4 e1 e2 _ he=>?_) fun o5 j5 hz=>?_
     ·subst e1
      subst e2
      exact aA ⟨⟨_,rfl⟩,.inr ⟨_,_,rfl,M3.finB sa sb (by simpa using he) hb (by lia) h0⟩⟩
     have hz':o5=o3 ++ (b.extract l (nb' - 1)).reverse/\j5=l/\¬ j5=1:=by
      rcases hz with ⟨_,e1,e2,he⟩ | ⟨he,e1,e2⟩
      ·subst e1
       exact⟨e2.symm,rfl,by simpa using he⟩
      ·obtain⟨q1,q2⟩:=z0 he
       rw[q2]
       exact⟨e1,by lia,by lia⟩
     clear hz z0
     obtain⟨e1,e2,he3⟩:=hz'
     subst e2
     rw[<- e1] at M3
     refine ar (zbK ka ?_)
     have M4:=M3.oneA (by lia) ka sa l4
     split
     ·rename_i he4
      exact aA ⟨⟨_,rfl⟩,.inr ⟨_,_,rfl,M4.finA sa sb (by simpa using he4) (by lia)⟩⟩
     ·rename_i he4
      have he5:¬ j2 - 1=0:=fun e=>he4 (beq_iff_eq.mpr e)
      have b1:j2 - 1+j5+1<=na+nb:=by lia
      have b2:1<=j2 - 1:=by lia
      have b3:2<=j5:=by lia
      have b4:j5<=b.size:=by lia
      split
      ·exact aA ⟨⟨_,rfl⟩,.inl ⟨_,_,_,_,_,_,rfl,b1,b2,ka,b3,b4,M4⟩⟩
      ·exact aA ⟨⟨_,rfl⟩,_,_,_,_,_,_,rfl,b1,b2,ka,b3,b4,M4⟩
   ·exact aA ⟨⟨_,rfl⟩,_,_,rfl,hW⟩
end
end L2

namespace L2
open PySem PySem.Spec PyProof.Rows
section
variable {prog:aR}{w:aU}{A:a9}{E:ae->ah->Prop}{s:ah}{kd:SortKind}{D:Keyed->Prop}{rk:Keyed->Nat}{st:SortSt}{a₀:Array Keyed}
structure Sb(kd:SortKind)(a₀:Array Keyed)(st:SortSt):Prop where
 perm:(arrOf st).toList.Perm a₀.toList
 kind:kindOf st=kd
 failed:failedOf st=ab
theorem Sb.size(h:Sb kd a₀ st):(arrOf st).size=a₀.size:=by have:=h.perm.length_eq;simpa using this
theorem Sb.all(h:Sb kd a₀ st)(hD:∀ x ∈ a₀,D x):∀ x ∈ arrOf st,D x:=fun x hx=>hD x (cV.mp (h.perm.mem_iff.mp (cV.mpr hx)))
abbrev Run:=Nat × Nat × Nat
def Runs(rk:Keyed->Nat)(arr:Array Keyed):List Run->Nat->Nat->Prop
 | [],lo,hi=>lo=hi
 | (s,n,_) :: ps,lo,hi=>s=lo/\1<=n/\Up rk arr lo (lo+n)/\Runs rk arr ps (lo+n) hi
theorem Runs.le{arr:Array Keyed}:∀ {ps:List Run} {lo hi:Nat},Runs rk arr ps lo hi->lo+ps.length<=hi
 | [],_,_,h=>by cases h;exact ai _
 | (_,n,_) :: ps,lo,hi,⟨_,h1,_,h⟩=>by have:=h.le;rw[aQ];lia
theorem Up.congr{arr arr':Array Keyed}{lo hi:Nat}(h:Up rk arr lo hi)(e:∀ i,lo<=i->i<hi->kA rk arr' i=kA rk arr i):Up rk arr' lo hi:=fun i j h1 h2 h3=>by
 rw[e i h1 (by lia),e j (by lia) h3];exact h i j h1 h2 h3
theorem Runs.congr{arr arr':Array Keyed}:∀ {ps:List Run} {lo hi:Nat},Runs rk arr ps lo hi->(∀ i,lo<=i->i<hi->kA rk arr' i=kA rk arr i)->Runs rk arr' ps lo hi
 | [],_,_,h,_=>h
 | (_,n,_) :: ps,lo,hi,⟨h0,h1,h2,h⟩,e=>by
  have l:=h.le
  exact⟨h0,h1,h2.congr fun i a b=>e i a (by lia),h.congr fun i a b=>e i (by lia) b⟩
theorem Runs.split{arr:Array Keyed}:∀ {ps qs:List Run} {lo hi:Nat},Runs rk arr (ps ++ qs) lo hi->∃ m,Runs rk arr ps lo m/\Runs rk arr qs m hi
 | [],_,lo,_,h=>⟨lo,rfl,h⟩
 | (_,_,_) :: ps,qs,_,_,⟨h0,h1,h2,h⟩=>by
  obtain⟨m,e1,e2⟩:=Runs.split (ps:=ps) h
  exact⟨m,⟨h0,h1,h2,e1⟩,e2⟩
theorem Runs.join{arr:Array Keyed}:∀ {ps qs:List Run} {lo m hi:Nat},Runs rk arr ps lo m->Runs rk arr qs m hi->Runs rk arr (ps ++ qs) lo hi
 | [],_,_,_,_,h,h'=>by cases h;exact h'
 | (_,_,_) :: _,_,_,_,_,⟨h0,h1,h2,h⟩,h'=>⟨h0,h1,h2,h.join h'⟩
theorem zfU{xs:Array Keyed}{lo k i:Nat}(hk:k<=xs.size)(hi:lo+i<k):kA rk (xs.extract lo k) i=kA rk xs (lo+i):=by
 have h1:i<(xs.extract lo k).size:=by rw[zdl hk];exact Nat.lt_sub_of_add_lt (dO lo i ▸ hi)
 rw[zcY h1,zcY (aW hi hk),db]
theorem ziF{lo:Nat}:∀ (l:List Keyed) (n:Nat) (xs:Array Keyed),lo+n+l.length<=xs.size ->
  ((l.zipIdx n).foldl (fun a (p:Keyed × Nat)=>a.setIfInBounds (lo+p.2) p.1) xs).toList=xs.toList.take (lo+n) ++ l ++ xs.toList.drop (lo+n+l.length)
 | [],n,xs,_=>by simp
 | p :: l,n,xs,h=>by
  rw[aQ] at h
  rw[List.zipIdx_cons,cG,ziF l (n+1) _ (by rw[Array.size_setIfInBounds];lia)]
  have hl:lo+n<xs.toList.length:=by rw[aC];lia
  have ht:(xs.toList.take (lo+n)).length=lo+n:=by rw[bv];lia
  have e0:xs.toList.drop (lo+n+(l.length+1))=(xs.toList.drop (lo+n+1)).drop l.length:=by rw[jt];congr 1;lia
  dsimp only
  rw[fS,aQ,List.set_eq_take_append_cons_drop,if_pos hl,e0]
  generalize xs.toList.take (lo+n)=T at ht ⊢
  generalize xs.toList.drop (lo+n+1)=r
  have e1:T ++ p :: r=(T ++ [p]) ++ r:=by simp
  have e2:lo+(n+1)=(T ++ [p]).length:=by simp;lia
  rw[e1,e2,List.take_left' rfl,List.drop_append,eM (by lia),show(T ++ [p]).length+l.length - (T ++ [p]).length=l.length by lia]
  simp
theorem set_at{xs m:Array Keyed}{lo:Nat}(h:lo+m.size<=xs.size)(r:Array Keyed)(hr:r.toList=xs.toList.take lo ++ m.toList ++ xs.toList.drop (lo+m.size))(j:Nat):kA rk r j=if lo<=j/\j<lo+m.size then kA rk m (j - lo) else kA rk xs j:=by
 have ht:(xs.toList.take lo).length=lo:=by rw[bv,aC];lia
 unfold kA
 rw[<- cQ,hr,<- cQ (xs:=m),<- cQ (xs:=xs)]
 by_cases h1:j<lo
 ·rw[if_neg (by lia),b6,ca (by lia),cX h1]
 ·rw[b6,cN (by lia),ht]
  by_cases h2:j<lo+m.size
  ·rw[if_pos ⟨by lia,h2⟩,ca (by rw[aC];lia)]
  ·rw[if_neg (by lia),cN (by rw[aC];lia),iE,aC]
   congr 3
   lia
theorem set_perm{xs m:Array Keyed}{lo hi:Nat}(h:lo<=hi)(hm:m.toList.Perm (xs.extract lo hi).toList)(hs:hi<=xs.size)(r:Array Keyed)(hr:r.toList=xs.toList.take lo ++ m.toList ++ xs.toList.drop (lo+m.size)):r.toList.Perm xs.toList:=by
 have e:m.size=hi - lo:=by
  have:=hm.length_eq
  rw[aC,aC,zdl hs] at this
  exact this
 have e2:xs.toList=xs.toList.take lo ++ (xs.extract lo hi).toList ++ xs.toList.drop (lo+m.size):=by
  rw[b6,e,show lo+(hi - lo)=hi by lia,<- zek h,eZ]
 rw[hr]
 conv=>rhs;rw[e2]
 exact(hm.append_left _).append_right _
theorem up_merged{arr r m:Array Keyed}{sa mid k nb l:Nat}(hs:mid+nb<=arr.size)(hk:sa+k<mid)(hl:l<=nb)(h0:1<=l)(ua:Up rk arr sa mid)(ub:Up rk arr mid (mid+nb))
  (k2:∀ i,sa<=i->i<sa+k->kA rk arr i<=kA rk arr mid) (k3:∀ i,sa+k<=i->i<mid->kA rk arr mid<kA rk arr i)
  (l2:∀ i,mid<=i->i<mid+l->kA rk arr i<kA rk arr (mid - 1)) (l3:∀ i,mid+l<=i->i<mid+nb->kA rk arr (mid - 1)<=kA rk arr i)
  (hm:m.toList.Perm ((arr.extract (sa+k) mid).toList ++ (arr.extract mid (mid+l)).toList)) (hu:m.toList.Pairwise fun x y=>rk x<=rk y)
  (hr:∀ j,kA rk r j=if sa+k<=j/\j<mid+l then kA rk m (j - (sa+k)) else kA rk arr j):Up rk r sa (mid+nb):=by
 have hz:m.size=mid+l - (sa+k):=by
  have:=hm.length_eq
  rw[aP,aC,aC,aC,zdl (by lia),zdl (by lia)] at this
  lia
 have bd:∀ j,j<m.size->kA rk arr mid<=kA rk m j/\kA rk m j<=kA rk arr (mid - 1):=by
  intro j hj
  rw[zcY hj]
  have hx:m[j] ∈ (arr.extract (sa+k) mid).toList ++ (arr.extract mid (mid+l)).toList:=hm.mem_iff.mp (cV.mpr (bu hj))
  rcases bx.mp hx with hx | hx
  ·obtain⟨p,p1,p2,p3,p4⟩:=zfA (rk:=rk) hx
   rw[<- p4]
   exact⟨bA (k3 p p1 p2),ua p (mid - 1) (by lia) (by lia) (by lia)⟩
  ·obtain⟨p,p1,p2,p3,p4⟩:=zfA (rk:=rk) hx
   rw[<- p4]
   exact⟨ub mid p (ai _) p1 (by lia),bA (l2 p p1 p2)⟩
 intro i j h1 h2 h3
 rw[hr i,hr j]
 by_cases c1:i<sa+k
 ·rw[if_neg (by lia)]
  by_cases c2:j<sa+k
  ·rw[if_neg (by lia)]
   exact ua i j h1 h2 (by lia)
  ·by_cases c3:j<mid+l
   ·rw[if_pos ⟨by lia,c3⟩]
    exact aL (k2 i h1 c1) (bd _ (by lia)).1
   ·rw[if_neg (by lia)]
    exact aL (k2 i h1 c1) (ub mid j (ai _) (by lia) h3)
 ·by_cases c2:i<mid+l
  ·rw[if_pos ⟨by lia,c2⟩]
   by_cases c3:j<mid+l
   ·rw[if_pos ⟨by lia,c3⟩,zcY (by lia),zcY (by lia)]
    by_cases e:i=j
    ·subst e;exact ai _
    ·exact d8.mp hu _ _ (by rw[aC];lia) (by rw[aC];lia) (by lia)
   ·rw[if_neg (by lia)]
    exact aL (bd _ (by lia)).2 (l3 j (by lia) h3)
  ·rw[if_neg (by lia),if_neg (by lia)]
   exact ub i j (by lia) h2 h3
theorem wpS_mgAt(R:Rk prog w A s kd D rk){Q:Bool->SortSt->Prop}{hi:Nat}{pre post:List Run}{sa na pw sb nb pw':Nat}(B:Sb kd a₀ st)(hD:∀ x ∈ a₀,D x)(hp:(bi st).toList=pre ++ (sa,na,pw) :: (sb,nb,pw') :: post)(hr:Runs rk (arrOf st) (bi st).toList 0 hi)(hh:hi<=a₀.size)
  (h:∀ st',Sb kd a₀ st'->(bi st').toList=pre ++ (sa,na+nb,pw) :: post->Runs rk (arrOf st') (bi st').toList 0 hi->(∀ j,hi<=j->kA rk (arrOf st') j=kA rk (arrOf st) j)->Q true st'):wpS (model prog w) A E s (mergeAt' pre.length) Q st:=by
 have g1:(bi st)[pre.length]? = aa (sa,na,pw):=by
  rw[<- cQ,hp];simp
 have g2:(bi st)[pre.length+1]? = aa (sb,nb,pw'):=by
  rw[<- cQ,hp];simp
 have hp1:(((bi st).setIfInBounds pre.length (sa,na+nb,pw)).eraseIdxIfInBounds (pre.length+1)).toList=pre ++ (sa,na+nb,pw) :: post:=by
  rw[Array.toList_eraseIdxIfInBounds,fS,hp,gY _ _ (ai _),List.eraseIdx_append_of_length_le (dm _),c6,show pre.length+1 - pre.length=1 by lia]
  rfl
 have hr0:=hr
 rw[hp] at hr0
 obtain⟨m,r1,rfl,n1,u1,rfl,n2,u2,r2⟩:=hr0.split
 have hz:=B.size
 have l1:=r2.le
 have hd:=B.all hD
 have fin:∀ (arr':Array Keyed) (g:Nat),arr'.toList.Perm (arrOf st).toList->Up rk arr' sa (sa+(na+nb))->(∀ j,¬ (sa<=j/\j<sa+(na+nb))->kA rk arr' j=kA rk (arrOf st) j) ->
   Q true (ey (kindOf st) arr' (((bi st).setIfInBounds pre.length (sa,na+nb,pw)).eraseIdxIfInBounds (pre.length+1)) g (failedOf st)):=by
  intro arr' g e1 e2 e3
  refine h _ ⟨e1.trans B.perm,B.kind,B.failed⟩ hp1 ?_ (fun j hj=>e3 j (by lia))
  show Runs rk arr' (((bi st).setIfInBounds pre.length (sa,na+nb,pw)).eraseIdxIfInBounds (pre.length+1)).toList 0 hi
  rw[hp1]
  refine(r1.congr fun i _ hi=>e3 i (by lia)).join ⟨rfl,by lia,e2,?_⟩
  rw[show sa+(na+nb)=sa+na+nb by lia]
  exact r2.congr fun i hi _=>e3 i (by lia)
 refine ar (wpS_get ?_)
 dsimp only
 rw[g1,g2]
 dsimp only
 refine ar (wpS_set ?_)
 have hsb:sa+na<(arrOf st).size:=by lia
 refine ar (zbK hsb ?_)
 refine ar (zgA (arr:=arrOf st) R B.kind hd (hd _ (bu hsb)) (by lia) (by lia) u1 fun k k1 k2 k3=>?_)
 rw[<- zcY (rk:=rk) hsb] at k2 k3
 dsimp only
 by_cases hk0:na - k=0
 ·rw[if_pos (by simpa using hk0)]
  have hk0':k=na:=by lia
  subst hk0'
  refine aA (fin _ _ (.refl _) (fun i j h1 h2 h3=>?_) fun _ _=>rfl)
  by_cases c1:j<sa+k
  ·exact u1 i j h1 h2 c1
  ·by_cases c2:i<sa+k
   ·exact aL (k2 i h1 c2) (u2 _ j (ai _) (by lia) (by lia))
   ·exact u2 i j (by lia) h2 (by lia)
 rw[if_neg (by simpa using hk0)]
 have hsl:sa+k+(na - k) - 1<(arrOf st).size:=by lia
 refine ar (zbK hsl ?_)
 refine ar (zgd (arr:=arrOf st) R B.kind hd (hd _ (bu hsl)) (by lia) (by lia) u2 fun l l1 l2 l3=>?_)
 rw[<- zcY (rk:=rk) hsl] at l2 l3
 rw[show sa+k+(na - k) - 1=sa+na - 1 by lia] at l2 l3
 have hl0:1<=l:=by
  refine eS fun hc=>?_
  have e1:=l3 (sa+na) (by lia) (by lia)
  have e2:=k3 (sa+na - 1) (by lia) (by lia)
  lia
 dsimp only
 rw[if_neg (by simp;lia)]
 have q1:sa+na<=(arrOf st).size:=bA hsb
 have q2:sa+na+l<=(arrOf st).size:=by lia
 have zx:=zdl (lo:=sa+k) q1
 have zy:=zdl (lo:=sa+na) q2
 have q3:sa+k<sa+na:=by lia
 have wr:∀ (m:Array Keyed) (g:Nat),m.toList.Perm (((arrOf st).extract (sa+k) (sa+na)).toList ++ ((arrOf st).extract (sa+na) (sa+na+l)).toList)->(m.toList.Pairwise fun x y=>rk x<=rk y) ->
   Q true (ey (kindOf st) (m.toList.zipIdx.foldl (fun a (p:Keyed × Nat)=>a.setIfInBounds (sa+k+p.2) p.1) (arrOf st)) (((bi st).setIfInBounds pre.length (sa,na+nb,pw)).eraseIdxIfInBounds (pre.length+1)) g (failedOf st)):=by
  intro m g hm hu
  have hz:m.size=na+l - k:=by
   have:=hm.length_eq
   rw[aP,aC,aC,aC,zx,zy] at this
   lia
  have hf:=ziF (lo:=sa+k) m.toList 0 (arrOf st) (by rw[aC];lia)
  rw[ej,aC] at hf
  have hj:=fun j=>set_at (rk:=rk) (xs:=arrOf st) (m:=m) (by lia) _ hf j
  have hm2:m.toList.Perm ((arrOf st).extract (sa+k) (sa+na+l)).toList:=by
   refine hm.trans (.of_eq ?_)
   have e1:=zek (xs:=arrOf st) (i:=sa+k) (k:=sa+na) (by lia)
   have e2:=zek (xs:=arrOf st) (i:=sa+na) (k:=sa+na+l) (by lia)
   have e3:=zek (xs:=arrOf st) (i:=sa+k) (k:=sa+na+l) (by lia)
   rw[e1,e2,<- b6] at e3
   exact List.append_cancel_right e3
  refine fin _ g (set_perm (by lia) hm2 (by lia) _ hf) ?_ (fun j hj'=>?_)
  ·rw[show sa+(na+nb)=sa+na+nb by lia]
   refine up_merged (k:=k) (l:=l) (by lia) (by lia) l1 hl0 u1 u2 k2 k3 l2 l3 hm hu fun j=>?_
   rw[hj j,hz,show sa+k+(na+l - k)=sa+na+l by lia]
  ·rw[hj j,if_neg (by lia)]
 have ud:∀ {lo hi:Nat},hi<=(arrOf st).size->Up rk (arrOf st) lo hi->Up rk ((arrOf st).extract lo hi) 0 ((arrOf st).extract lo hi).size:=fun {lo hi} hh u i j _ h2 h3=>by
  rw[zdl hh] at h3
  have h4:lo+j<hi:=dO lo j ▸ di h3
  rw[zfU hh (ef (dt h2 _) h4),zfU hh h4]
  exact u _ _ (dY _ _) (dt h2 _) h4
 have ux:=ud q1 (u1.mono (dY sa k) (ai _))
 have uy:=ud q2 (u2.mono (ai _) (dt l1 _))
 have x0:kA rk ((arrOf st).extract (sa+na) (sa+na+l)) 0<kA rk ((arrOf st).extract (sa+k) (sa+na)) 0:=by
  rw[zfU (lo:=sa+na) (i:=0) q2 (Nat.lt_add_of_pos_right hl0),zfU (lo:=sa+k) (i:=0) q1 q3]
  exact k3 _ (ai _) q3
 have xl:∀ y,y<((arrOf st).extract (sa+na) (sa+na+l)).size->kA rk ((arrOf st).extract (sa+na) (sa+na+l)) y<kA rk ((arrOf st).extract (sa+k) (sa+na)) (((arrOf st).extract (sa+k) (sa+na)).size - 1):=fun y hy=>by
  rw[zy] at hy
  have hy':sa+na+y<sa+na+l:=dO (sa+na) y ▸ di hy
  have e:sa+k+(sa+na - (sa+k) - 1)=sa+na - 1:=by lia
  rw[zx,zfU q2 hy',zfU q1 (by lia),e]
  exact l2 _ (dY _ _) hy'
 have dx:∀ {lo hi:Nat},∀ x ∈ (arrOf st).extract lo hi,D x:=fun x hx=>by
  obtain⟨i,hi,rfl⟩:=Array.mem_iff_getElem.mp hx
  rw[db]
  exact hd _ (bu _)
 have sx:1<=((arrOf st).extract (sa+k) (sa+na)).size:=by rw[zx];exact Nat.sub_pos_of_lt q3
 have sy:1<=((arrOf st).extract (sa+na) (sa+na+l)).size:=by rw[zy,eF];exact hl0
 have done:∀ (m:Array Keyed) (g:Nat),m.toList.Perm (((arrOf st).extract (sa+k) (sa+na)).toList ++ ((arrOf st).extract (sa+na) (sa+na+l)).toList)->(m.toList.Pairwise fun x y=>rk x<=rk y) ->
   Q (failedOf st).isNone (ey (kindOf st) (m.toList.zipIdx.foldl (fun a (p:Keyed × Nat)=>a.setIfInBounds (sa+k+p.2) p.1) (arrOf st)) (((bi st).setIfInBounds pre.length (sa,na+nb,pw)).eraseIdxIfInBounds (pre.length+1)) g (failedOf st)):=by
  rw[B.failed]
  have:=wr
  rw[B.failed] at this
  exact this
 split
 ·refine ar (wpS_mgLo R B.kind dx dx ux uy sx sy (bA x0) xl fun out g hp hu=>?_)
  refine ar (wpS_modify ?_)
  refine ar (wpS_get ?_)
  exact aA (done out g hp hu)
 ·refine ar (wpS_mgHi R B.kind dx dx ux uy sx sy x0 xl fun out g hp hu=>?_)
  refine ar (wpS_modify ?_)
  refine ar (wpS_get ?_)
  exact aA (done out g hp hu)
end
end L2

namespace L2
open PySem PySem.Spec PyProof.Rows
section
variable {prog:aR}{w:aU}{A:a9}{E:ae->ah->Prop}{s:ah}{kd:SortKind}{D:Keyed->Prop}{rk:Keyed->Nat}{st:SortSt}{a₀:Array Keyed}
theorem zeB(R:Rk prog w A s kd D rk){i j:Nat}{Q:Option Bool->SortSt->Prop}(B:Sb kd a₀ st)(hD:∀ x ∈ a₀,D x)(hi:i<a₀.size)(hj:j<a₀.size)(h:Q (aa (decide (kA rk (arrOf st) i<kA rk (arrOf st) j))) st):wpS (model prog w) A E s (ltAt' i j) Q st:=by
 rw[<- B.size] at hi hj
 have hd:=B.all hD
 refine ar (wpS_get ?_)
 refine ar (zbK hi ?_)
 refine ar (zbK hj ?_)
 refine wpS_q R B.kind (hd _ (bu hi)) (hd _ (bu hj)) ?_
 rw[<- zcY (rk:=rk) hi,<- zcY (rk:=rk) hj]
 exact h
structure Kp(rk:Keyed->Nat)(kd:SortKind)(a₀:Array Keyed)(lo:Nat)(st st':SortSt):Prop where
 sb:Sb kd a₀ st'
 pend:bi st'=bi st
 left:∀ j,j<lo->kA rk (arrOf st') j=kA rk (arrOf st) j
theorem kA_of{xs ys:Array Keyed}{i j:Nat}(h:xs[i]? = ys[j]?):kA rk xs i=kA rk ys j:=by unfold kA;rw[h]
theorem ziN{xs:Array Keyed}{i j:Nat}(hj:j<=xs.size)(k:Nat):kA rk (mirror xs i j ((j - i) / 2)) k=if i<=k/\k<j then kA rk xs (i+j - 1 - k) else kA rk xs k:=by
 have e:=getElem?_mirror_all (i:=i) hj k
 split at e
 ·rename_i c;rw[if_pos c];exact kA_of e
 ·rename_i c;rw[if_neg c];exact kA_of e
theorem kA_bub{xs:Array Keyed}{src d:Nat}(hs:src<xs.size)(hd:d<=src)(k:Nat):kA rk (bubble xs src d) k=if k=src - d then kA rk xs src else if src - d<k/\k<=src then kA rk xs (k - 1) else kA rk xs k:=by
 have e:=getElem?_bubble hs d hd k
 split at e
 ·rename_i c;rw[if_pos c];exact kA_of e
 ·rename_i c
  rw[if_neg c]
  split at e
  ·rename_i c;rw[if_pos c];exact kA_of e
  ·rename_i c;rw[if_neg c];exact kA_of e
theorem Kp.set{lo:Nat}{st':SortSt}(K:Kp rk kd a₀ lo st st'){xs:Array Keyed}(hp:xs.toList.Perm (arrOf st').toList)(hl:∀ j,j<lo->kA rk xs j=kA rk (arrOf st') j):Kp rk kd a₀ lo st (setArr st' xs):=
 ⟨⟨hp.trans K.sb.perm,K.sb.kind,K.sb.failed⟩,K.pend,fun j hj=>(hl j hj).trans (K.left j hj)⟩
theorem Kp.mir{lo i j:Nat}{st':SortSt}(K:Kp rk kd a₀ lo st st')(hi:lo<=i)(hj:j<=a₀.size):Kp rk kd a₀ lo st (setArr st' (mirror (arrOf st') i j ((j - i) / 2))):=
 K.set (fT.mp (mirror_perm _ _ _ _)) fun k hk=>by rw[ziN (by rw[K.sb.size];exact hj),if_neg (by lia)]
theorem Up.more{arr:Array Keyed}{lo n:Nat}(h:Up rk arr lo (lo+n))(hn:1<=n)(hx:kA rk arr (lo+n - 1)<=kA rk arr (lo+n)):Up rk arr lo (lo+(n+1)):=fun i j h1 h2 h3=>by
 by_cases c:j<lo+n
 ·exact h i j h1 h2 c
 ·have:j=lo+n:=by lia
  subst this
  by_cases e:i=lo+n
  ·subst e;exact ai _
  ·exact aL (h i (lo+n - 1) h1 (by lia) (by lia)) hx
theorem wpS_asc{lo a nrem:Nat}{f:Nat->Option (Option Nat) × Nat->StateT SortSt Sem (ForInStep (Option (Option Nat) × Nat))}{Q:Option (Option Nat) × Nat->SortSt->Prop}(ha:1<=a)(han:a<=nrem)(hu:Up rk (arrOf st) lo (lo+a))
  (hf:∀ x n (P:ForInStep (Option (Option Nat) × Nat)->SortSt->Prop),1<=n->n<nrem->(kA rk (arrOf st) (lo+n)<kA rk (arrOf st) (lo+n - 1)->P (.done (ab,n)) st)->(¬ kA rk (arrOf st) (lo+n)<kA rk (arrOf st) (lo+n - 1)->P (.yield (ab,n+1)) st)->wpS (model prog w) A E s (f x (ab,n)) P st)
  (h:∀ n,a<=n->n<=nrem->Up rk (arrOf st) lo (lo+n)->(n=nrem \/ kA rk (arrOf st) (lo+n)<kA rk (arrOf st) (lo+n - 1))->Q (ab,n) st):wpS (model prog w) A E s (forIn [a:nrem] (ab,a) f) Q st:=by
 refine bX (I:=fun x c st'=>st'=st/\c=(ab,x)/\Up rk (arrOf st) lo (lo+x)) ?_ ?_ ⟨rfl,rfl,hu⟩
 ·rintro x c st' x1 x2 ⟨rfl,rfl,u⟩
  exact hf x x _ (by lia) x2 (fun hl=>h x x1 (by lia) u (.inr hl)) fun hl=>⟨rfl,rfl,u.more (by lia) (by lia)⟩
 ·rintro c st' ⟨rfl,rfl,u⟩
  rw[show max a nrem=nrem by lia] at u ⊢
  exact h nrem han (ai _) u (.inl rfl)
def Dn(rk:Keyed->Nat)(xs:Array Keyed)(lo hi:Nat):Prop:=∀ i j,lo<=i->i<=j->j<hi->kA rk xs j<=kA rk xs i
theorem Dn.more{arr:Array Keyed}{lo n:Nat}(h:Dn rk arr lo (lo+n))(hn:1<=n)(hx:kA rk arr (lo+n)<=kA rk arr (lo+n - 1)):Dn rk arr lo (lo+(n+1)):=fun i j h1 h2 h3=>by
 by_cases c:j<lo+n
 ·exact h i j h1 h2 c
 ·have:j=lo+n:=by lia
  subst this
  by_cases e:i=lo+n
  ·subst e;exact ai _
  ·exact aL hx (h i (lo+n - 1) h1 (by lia) (by lia))
theorem zdQ{xs:Array Keyed}{i j:Nat}(hj:j<=xs.size)(he:∀ k,i<=k->k<j->kA rk xs k=kA rk xs (j - 1))(k:Nat):kA rk (mirror xs i j ((j - i) / 2)) k=kA rk xs k:=by
 rw[ziN hj]
 split
 ·rw[he _ (by lia) (by lia),he k (by lia) (by lia)]
 ·rfl
theorem Dn.turn{xs:Array Keyed}{lo m:Nat}(d:Dn rk xs lo (lo+m))(hz:lo+m<=xs.size):Up rk (mirror xs lo (lo+m) ((lo+m - lo) / 2)) lo (lo+m):=fun i j a b c=>by
 rw[ziN hz i,ziN hz j,if_pos ⟨a,by lia⟩,if_pos ⟨by lia,c⟩]
 exact d _ _ (by lia) (by lia) (by lia)
theorem zgE{i j:Nat}{Q:Unit->SortSt->Prop}(h:Q () (setArr st (mirror (arrOf st) i j ((j - i) / 2)))):wpS (model prog w) A E s (reverseSlice' i j) Q st:=wpS_modify h
theorem wpS_run(R:Rk prog w A s kd D rk){lo nrem:Nat}{Q:Option Nat->SortSt->Prop}(B:Sb kd a₀ st)(hD:∀ x ∈ a₀,D x)(hn:lo+nrem<=a₀.size)(h1:1<=nrem)
  (h:∀ m st',Kp rk kd a₀ lo st st'->1<=m->m<=nrem->Up rk (arrOf st') lo (lo+m)->Q (aa m) st'):wpS (model prog w) A E s (countRun' lo nrem) Q st:=by
 have hK:Kp rk kd a₀ lo st st:=⟨B,rfl,fun _ _=>rfl⟩
 refine ar (wpS_asc (rk:=rk) (lo:=lo) (ai 1) h1 (fun i j a b c=>(show i=j by lia) ▸ ai _) ?_ fun n n1 n2 u hor=>?_)
 ·intro x n P n1 n2 p1 p2
  refine ar (zeB R B hD (by lia) (by lia) ?_)
  dsimp only
  split
  ·rename_i hl;exact aA (p1 (by simpa using hl))
  ·rename_i hl;exact aA (p2 (by simpa using hl))
 dsimp only
 by_cases hnn:n=nrem
 ·rw[if_pos (by simpa using hnn)]
  exact aA (h n st hK n1 n2 u)
 rw[if_neg (by simpa using hnn)]
 have hlt:=hor.resolve_left hnn
 have up1:∀ m,Dn rk (arrOf st) lo (lo+n)->m=n+1->Dn rk (arrOf st) lo (lo+m):=fun m d e=>by
  subst e
  exact d.more n1 (bA hlt)
 by_cases hgt:n > 1
 rw[if_pos hgt]
 refine ar (zeB R B hD (by lia) (by lia) ?_)
 dsimp only
 by_cases hro:kA rk (arrOf st) lo<kA rk (arrOf st) (lo+n - 1)
 rw[decide_eq_true hro,if_pos rfl]
 exact aA (h n st hK n1 n2 u)
 rw[decide_eq_false hro,if_neg (by simp)]
 have hall:∀ k,lo<=k->k<lo+n->kA rk (arrOf st) k=kA rk (arrOf st) (lo+n - 1):=fun k k1 k2=>by
  have e1:=u lo k (ai _) k1 k2
  have e2:=u k (lo+n - 1) k1 (by lia) (by lia)
  lia
 refine ar (zgE ?_)
 have hz:lo+n<=(arrOf st).size:=by rw[B.size];lia
 have K1:=hK.mir (i:=lo) (j:=lo+n) (ai _) (by lia)
 have d1:Dn rk (mirror (arrOf st) lo (lo+n) ((lo+n - lo) / 2)) lo (lo+(n+1)):=by
  have:=up1 (n+1) (fun i j a b c=>by rw[hall i a (by lia),hall j (by lia) c];exact ai _) rfl
  intro i j a b c
  rw[zdQ hz hall,zdQ hz hall]
  exact this i j a b c
 rotate_left
 rw[if_neg hgt]
 have K1:=hK
 have d1:Dn rk (arrOf st) lo (lo+(n+1)):=up1 (n+1) (fun i j a b c=>by
  have:i=j:=by lia
  subst this
  exact ai _) rfl
 all_goals
  refine ar (zdK ?_)
  refine ar (wpS_mono (bX (I:=fun x c st'=>∃ q,c=(ab,x,q)/\Kp rk kd a₀ lo st st'/\Dn rk (arrOf st') lo (lo+x)/\q+1<=x/\∀ i,lo+x - (q+1)<=i->i<lo+x->kA rk (arrOf st') i=kA rk (arrOf st') (lo+x - 1))
   (Q:=fun c st'=>∃ m q,c=(ab,m,q)/\n+1<=m/\m<=nrem/\Kp rk kd a₀ lo st st'/\Dn rk (arrOf st') lo (lo+m)/\q+1<=m/\∀ i,lo+m - (q+1)<=i->i<lo+m->kA rk (arrOf st') i=kA rk (arrOf st') (lo+m - 1)) ?step ?fin ⟨0,rfl,K1,d1,by lia,fun i i1 i2=>by congr 1;lia⟩) ?post)
  case fin=>
   rintro c st' ⟨q,rfl,K,d,q1,e⟩
   rw[show max (n+1) nrem=nrem by lia] at d q1 e ⊢
   exact⟨nrem,q,rfl,by lia,ai _,K,d,q1,e⟩
  case step=>
   rintro x c st' x1 x2 ⟨q,rfl,K,d,q1,e⟩
   dsimp only
   have hz':lo+x<=(arrOf st').size:=by rw[K.sb.size];lia
   refine ar (zeB R K.sb hD (by lia) (by lia) ?_)
   dsimp only
   by_cases hs:kA rk (arrOf st') (lo+x)<kA rk (arrOf st') (lo+x - 1)
   ·rw[decide_eq_true hs,if_pos rfl]
    have d2:=d.more (by lia) (bA hs)
    by_cases hq:q > 0
    ·rw[if_pos hq]
     refine ar (zgE (aA ⟨0,rfl,K.mir (by lia) (by lia),fun i j a b c=>?_,by lia,fun i i1 i2=>by congr 1;lia⟩))
     show kA rk (mirror (arrOf st') _ _ _) j<=kA rk (mirror (arrOf st') _ _ _) i
     rw[zdQ hz' e,zdQ hz' e]
     exact d2 i j a b c
    ·rw[if_neg hq]
     exact aA ⟨0,rfl,K,d2,by lia,fun i i1 i2=>by congr 1;lia⟩
   ·rw[decide_eq_false hs,if_neg (by simp)]
    refine ar (zeB R K.sb hD (by lia) (by lia) ?_)
    dsimp only
    by_cases hl:kA rk (arrOf st') (lo+x - 1)<kA rk (arrOf st') (lo+x)
    ·rw[decide_eq_true hl,if_pos rfl]
     exact aA ⟨x,q,rfl,x1,by lia,K,d,q1,e⟩
    ·rw[decide_eq_false hl,if_neg (by simp)]
     refine aA ⟨q+1,rfl,K,d.more (by lia) (by lia),by lia,fun i i1 i2=>?_⟩
     rw[show lo+(x+1) - 1=lo+x by lia]
     by_cases hi:i=lo+x
     ·subst hi;rfl
     ·rw[e i (by lia) (by lia)]
      lia
  case post=>
   rintro c st' ⟨m,q,rfl,m1,m2,K,d,q1,e⟩
   dsimp only
   have hz':lo+m<=(arrOf st').size:=by rw[K.sb.size];lia
   by_cases hq:q > 0
   rw[if_pos hq]
   refine ar (zgE ?_)
   have K2:=K.mir (i:=lo+m - (q+1)) (j:=lo+m) (by lia) (by lia)
   have d2:Dn rk (mirror (arrOf st') (lo+m - (q+1)) (lo+m) ((lo+m - (lo+m - (q+1))) / 2)) lo (lo+m):=fun i j a b c=>by
    rw[zdQ hz' e,zdQ hz' e]
    exact d i j a b c
   rotate_left
   rw[if_neg hq]
   have K2:=K
   have d2:=d
   all_goals
    refine ar (zgE ?_)
    have K3:=K2.mir (i:=lo) (j:=lo+m) (ai _) (by lia)
    refine ar (wpS_asc (rk:=rk) (lo:=lo) (by lia) m2 (d2.turn (aL (by lia) (dM K2.sb.size.symm))) ?_ fun m' m3 m4 u' _=>?_)
    ·intro x n P n1 n2 p1 p2
     refine ar (zeB R K3.sb hD (by lia) (by lia) ?_)
     dsimp only
     split
     ·rename_i hl;exact aA (p1 (by simpa using hl))
     ·rename_i hl;exact aA (p2 (by simpa using hl))
    ·exact aA (h m' _ K3 (by lia) m4 u')
theorem wpS_ins(R:Rk prog w A s kd D rk){lo n ok:Nat}{Q:Bool->SortSt->Prop}{st₀:SortSt}(K:Kp rk kd a₀ lo st₀ st)(hD:∀ x ∈ a₀,D x)(hn:lo+n<=a₀.size)(h1:1<=ok)(hok:ok<=n)(hu:Up rk (arrOf st) lo (lo+ok))
  (h:∀ st',Kp rk kd a₀ lo st₀ st'->Up rk (arrOf st') lo (lo+n)->Q true st'):wpS (model prog w) A E s (binarySort' lo n ok) Q st:=by
 refine ar (wpS_mono (bX (I:=fun k c st'=>c=(ab,())/\Kp rk kd a₀ lo st₀ st'/\Up rk (arrOf st') lo (lo+k))
  (Q:=fun c st'=>c=(ab,())/\Kp rk kd a₀ lo st₀ st'/\Up rk (arrOf st') lo (lo+n)) ?step ?fin ⟨rfl,K,by rwa [show max ok 1=ok by lia]⟩) ?post)
 case post=>
  rintro c st' ⟨rfl,K,u⟩
  exact aA (h st' K u)
 case fin=>
  rintro c st' ⟨rfl,K,u⟩
  rw[show max (max ok 1) n=n by lia] at u
  exact⟨rfl,K,u⟩
 case step=>
  rintro k c st' k1 k2 ⟨rfl,K,u⟩
  refine ar (wpS_mono (bX (I:=fun x c st''=>st''=st'/\∃ l r,c=(ab,l,r)/\l<=r/\r<=k/\r - l<=k - x/\(∀ i,lo<=i->i<lo+l->kA rk (arrOf st') i<=kA rk (arrOf st') (lo+k))/\∀ i,lo+r<=i->i<lo+k->kA rk (arrOf st') (lo+k)<kA rk (arrOf st') i)
   (Q:=fun c st''=>st''=st'/\∃ l r,c=(ab,l,r)/\l<=k/\(∀ i,lo<=i->i<lo+l->kA rk (arrOf st') i<=kA rk (arrOf st') (lo+k))/\∀ i,lo+l<=i->i<lo+k->kA rk (arrOf st') (lo+k)<kA rk (arrOf st') i) ?s2 ?f2 ⟨rfl,0,k,rfl,by lia,by lia,by lia,fun i _ _=>by lia,fun i _ _=>by lia⟩) ?p2)
  case f2=>
   rintro c st'' ⟨rfl,l,r,rfl,a1,a2,a3,a4,a5⟩
   have:l=r:=by lia
   subst this
   exact⟨rfl,l,l,rfl,a2,a4,a5⟩
  case s2=>
   rintro x c st'' _ hx ⟨rfl,l,r,rfl,a1,a2,a3,a4,a5⟩
   dsimp only
   by_cases hge:l ≥ r
   ·rw[if_pos hge]
    have:l=r:=by lia
    subst this
    exact aA ⟨rfl,l,l,rfl,a2,a4,a5⟩
   ·rw[if_neg hge]
    refine ar (zeB R K.sb hD (by lia) (by lia) ?_)
    dsimp only
    by_cases hl:kA rk (arrOf st'') (lo+k)<kA rk (arrOf st'') (lo+(l+r) / 2)
    ·rw[decide_eq_true hl,if_pos rfl]
     exact aA ⟨rfl,l,_,rfl,by lia,by lia,by lia,a4,fun i i1 i2=>aW hl (u _ i (by lia) i1 i2)⟩
    ·rw[decide_eq_false hl,if_neg (by simp)]
     exact aA ⟨rfl,_,r,rfl,by lia,by lia,by lia,fun i i1 i2=>aL (u i (lo+(l+r) / 2) i1 (by lia) (by lia)) (jj.mp hl),a5⟩
  case p2=>
   rintro c st'' ⟨rfl,l,r,rfl,a2,a4,a5⟩
   have hz:=K.sb.size
   have kb:=fun j=>kA_bub (rk:=rk) (xs:=arrOf st'') (src:=lo+k) (d:=lo+k - (lo+l)) (by lia) (by lia) j
   rw[show lo+k - (lo+k - (lo+l))=lo+l by lia] at kb
   refine ar (wpS_modify (aA ⟨rfl,K.set (fT.mp (bubble_perm _ _ _)) fun j hj=>?_,fun i j a b c=>?_⟩))
   ·refine(kb j).trans ?_
    rw[if_neg (by lia),if_neg (by lia)]
   ·refine aL (dM (kb i)) (aL ?_ (dM (kb j).symm))
    repeat' split
    all_goals first
     | lia
     | exact ai _
     | exact a4 _ (by lia) (by lia)
     | exact bA (a5 _ (by lia) (by lia))
     | exact u _ _ (by lia) (by lia) (by lia)
end
end L2

namespace L2
open PySem PySem.Spec PyProof.Rows
section
variable {prog:aR}{w:aU}{A:a9}{E:ae->ah->Prop}{s:ah}{kd:SortKind}{D:Keyed->Prop}{rk:Keyed->Nat}{st:SortSt}{a₀:Array Keyed}
theorem Runs.pow{arr:Array Keyed}:∀ {ps qs:List Run} {lo hi:Nat},ps.map (fun r=>(r.1,r.2.1))=qs.map (fun r=>(r.1,r.2.1))->Runs rk arr ps lo hi->Runs rk arr qs lo hi
 | [],[],_,_,_,h=>h
 | [],_ :: _,_,_,e,_=>by cases e
 | _ :: _,[],_,_,e,_=>by cases e
 | (a,b,c) :: ps,(a',b',c') :: qs,lo,hi,e,⟨h0,h1,h2,h⟩=>by
  rw[ay,ay] at e
  obtain⟨e1,e2⟩:=k7 e
  cases e1
  exact⟨h0,h1,h2,h.pow e2⟩
theorem map_mod{l:List Run}{i:Nat}{f:Run->Run}(hf:∀ r,((f r).1,(f r).2.1)=(r.1,r.2.1)):(l.modify i f).map (fun r=>(r.1,r.2.1))=l.map (fun r=>(r.1,r.2.1)):=by
 apply iN
 intro j
 rw[ax,ax,List.getElem?_modify]
 cases l[j]? with
 | none=>rfl
 | some r=>
  show aa _=aa _
  congr 1
  dsimp only
  split
  ·exact hf r
  ·rfl
theorem two_at{ps:List Run}{i:Nat}(h:i+1<ps.length):∃ pre a b post,ps=pre ++ a :: b :: post/\pre.length=i:=by
 refine⟨ps.take i,ps[i],ps[i+1],ps.drop (i+2),?_,by rw[bv];lia⟩
 rw[<- bQ,<- bQ,eZ]
theorem wpS_mgI(R:Rk prog w A s kd D rk){Q:Bool->SortSt->Prop}{hi i:Nat}(B:Sb kd a₀ st)(hD:∀ x ∈ a₀,D x)(hi2:i+1<(bi st).size)(hr:Runs rk (arrOf st) (bi st).toList 0 hi)(hh:hi<=a₀.size)
  (h:∀ st',Sb kd a₀ st'->(bi st').size+1=(bi st).size->Runs rk (arrOf st') (bi st').toList 0 hi->(∀ j,hi<=j->kA rk (arrOf st') j=kA rk (arrOf st) j)->Q true st'):wpS (model prog w) A E s (mergeAt' i) Q st:=by
 obtain⟨pre,⟨sa,na,pa⟩,⟨sb,nb,pb⟩,post,e,rfl⟩:=two_at (ps:=(bi st).toList) (i:=i) (by rw[aC];exact hi2)
 refine wpS_mgAt R B hD e hr hh fun st' B' e' r' k'=>h st' B' ?_ r' k'
 rw[<- aC,<- aC,e,e']
 simp only[aP,aQ]
 lia
theorem zhY(R:Rk prog w A s kd D rk){Q:Unit->SortSt->Prop}(B:Sb kd a₀ st)(hD:∀ x ∈ a₀,D x)(h2:1<=a₀.size)(hp:bi st=#[])
  (h:∀ st',Sb kd a₀ st'->Up rk (arrOf st') 0 a₀.size->Q () st'):wpS (model prog w) A E s sortRuns' Q st:=by
 rw[sortRuns'_eq]
 refine ar (wpS_get ?_)
 dsimp only
 rw[B.size]
 refine ar (wpS_mono (bX (I:=fun x c st'=>∃ lo,c=(ab,lo)/\x<=lo/\lo<=a₀.size/\Sb kd a₀ st'/\Runs rk (arrOf st') (bi st').toList 0 lo)
  (Q:=fun c st'=>c=(ab,a₀.size)/\Sb kd a₀ st'/\Runs rk (arrOf st') (bi st').toList 0 a₀.size) ?step ?fin ⟨0,rfl,ai _,aS _,B,by rw[hp];rfl⟩) ?post)
 case fin=>
  rintro c st' ⟨lo,rfl,h1,h2,B',r'⟩
  have:lo=a₀.size:=by lia
  subst this
  exact⟨rfl,B',r'⟩
 case post=>
  rintro c st' ⟨rfl,B',r'⟩
  dsimp only
  have hl:=r'.le
  rw[aC] at hl
  refine ar (wpS_mono (bX (I:=fun x c st'=>c=(ab,())/\(bi st').size+x<=a₀.size/\Sb kd a₀ st'/\Runs rk (arrOf st') (bi st').toList 0 a₀.size)
   (Q:=fun c st'=>c=(ab,())/\(bi st').size<=1/\Sb kd a₀ st'/\Runs rk (arrOf st') (bi st').toList 0 a₀.size) ?s2 ?f2 ⟨rfl,by lia,B',r'⟩) ?p2)
  case f2=>
   rintro c st' ⟨rfl,h1,B',r'⟩
   exact⟨rfl,by lia,B',r'⟩
  case p2=>
   rintro c st' ⟨rfl,h1,B',r'⟩
   refine aA (h st' B' ?_)
   rw[<- aC] at h1
   cases e:(bi st').toList with
   | nil=>
    rw[e] at r'
    have:0=a₀.size:=r'
    lia
   | cons p ps=>
    obtain⟨a,b,c⟩:=p
    rw[e] at r' h1
    rw[aQ] at h1
    have:ps=[]:=fw (by lia)
    subst this
    obtain⟨_,_,u,z⟩:=r'
    have z':0+b=a₀.size:=z
    rw[z'] at u
    exact u
  case s2=>
   rintro x c st' _ hx ⟨rfl,h1,B',r'⟩
   refine ar (wpS_get ?_)
   by_cases hz:(bi st').size<=1
   ·rw[if_pos hz]
    exact aA ⟨rfl,hz,B',r'⟩
   ·rw[if_neg hz]
    have go:∀ i,i+1<(bi st').size->wpS (model prog w) A E s (mergeAt' i) (fun a st''=>a=true/\(bi st'').size+(x+1)<=a₀.size/\Sb kd a₀ st''/\Runs rk (arrOf st'') (bi st'').toList 0 a₀.size) st':=fun i hi=>
     wpS_mgI R B' hD hi r' (ai _) fun st'' B'' e'' r'' _=>⟨rfl,by lia,B'',r''⟩
    refine ar (wpS_mono (go _ ?_) ?_)
    ·(repeat' split) <;> lia
    ·rintro _ st'' ⟨rfl,e1,e2,e3⟩
     rw[if_neg (by simp)]
     exact aA ⟨rfl,e1,e2,e3⟩
 case step=>
  rintro x c st' _ hx ⟨lo,rfl,h1,h2,B',r'⟩
  dsimp only
  by_cases hge:lo ≥ a₀.size
  ·rw[if_pos hge]
   have:lo=a₀.size:=by lia
   subst this
   exact aA ⟨rfl,B',r'⟩
  rw[if_neg hge]
  refine ar (wpS_run R B' hD (by lia) (by lia) fun n st1 K1 n1 n2 u1=>?_)
  dsimp only
  have put:∀ (N:Nat) (st2:SortSt),1<=N->lo+N<=a₀.size->Sb kd a₀ st2->Runs rk (arrOf st2) (bi st2).toList 0 lo->Up rk (arrOf st2) lo (lo+N) ->
    Runs rk (arrOf st2) ((bi st2).push (lo,N,0)).toList 0 (lo+N):=fun N st2 e1 e2 e3 e4 e5=>by
   rw[fY]
   exact e4.join ⟨rfl,e1,e5,rfl⟩
  by_cases hm:n<minRun' a₀.size a₀.size 0
  rw[if_pos hm]
  refine ar (zdK ?_)
  refine ar (wpS_ins R K1 hD (by lia) n1 (by lia) u1 fun st2 K2 u2=>?_)
  rw[if_neg (by simp)]
  have b1:1<=min (a₀.size - lo) (minRun' a₀.size a₀.size 0):=by lia
  have b2:lo+min (a₀.size - lo) (minRun' a₀.size a₀.size 0)<=a₀.size:=by lia
  generalize min (a₀.size - lo) (minRun' a₀.size a₀.size 0)=N at u2 b1 b2 ⊢
  rotate_left
  rw[if_neg hm]
  have K2:=K1
  have u2:=u1
  have b1:=n1
  have b2:lo+n<=a₀.size:=by lia
  generalize n=N at u2 b1 b2 ⊢
  all_goals
   have r2:=r'.congr (arr':=_) (fun i _ hi=>K2.left i hi)
   rw[<- K2.pend] at r2
   refine ar (wpS_get ?_)
   split
   ·rename_i s1 m1 q1 _
    generalize power' a₀.size (2 * s1+m1) _ a₀.size=pw
    refine ar (wpS_mono (bX (I:=fun y c st3=>c=(ab,())/\Sb kd a₀ st3/\Runs rk (arrOf st3) (bi st3).toList 0 lo/\Up rk (arrOf st3) lo (lo+N))
     (Q:=fun c st3=>c=(ab,())/\Sb kd a₀ st3/\Runs rk (arrOf st3) (bi st3).toList 0 lo/\Up rk (arrOf st3) lo (lo+N)) ?_ ?_ ⟨rfl,K2.sb,r2,u2⟩) ?_)
    ·rintro y c st3 _ hy ⟨rfl,B3,r3,u3⟩
     refine ar (wpS_get ?_)
     split
     ·rename_i hsome
      split
      ·exact aA ⟨rfl,B3,r3,u3⟩
      ·have hz:(bi st3).size > 1:=by
        refine eS fun hc=>?_
        rw[if_neg (by lia)] at hsome
        cases hsome
       refine ar (wpS_mgI R B3 hD (by lia) r3 (by lia) fun st4 B4 _ r4 k4=>?_)
       rw[if_neg (by simp)]
       exact aA ⟨rfl,B4,r4,u3.congr fun i i1 _=>k4 i i1⟩
     ·exact aA ⟨rfl,B3,r3,u3⟩
    ·exact fun c st3 z=>z
    ·rintro c st3 ⟨rfl,B3,r3,u3⟩
     dsimp only
     refine ar (wpS_modify ?_)
     refine ar (wpS_modify (aA ⟨_,rfl,by lia,b2,⟨B3.perm,B3.kind,B3.failed⟩,?_⟩))
     exact put N (setPending st3 ((bi st3).modify ((bi st3).size - 1) fun x=>(x.1,x.2.1,pw))) b1 b2 ⟨B3.perm,B3.kind,B3.failed⟩ (by
      show Runs rk (arrOf st3) ((bi st3).modify _ _).toList 0 lo
      rw[Array.toList_modify]
      exact r3.pow (map_mod (f:=fun x=>(x.1,x.2.1,pw)) fun r=>rfl).symm) u3
   ·exact ar (wpS_modify (aA ⟨_,rfl,by lia,b2,⟨K2.sb.perm,K2.sb.kind,K2.sb.failed⟩,put _ _ b1 b2 K2.sb r2 u2⟩))
end
end L2

namespace L2
open PySem PySem.Spec PyProof.Rows
abbrev RwI:=List Int
def rkR(rows:List RwI)(r:RwI):Nat:=rows.countP fun q=>decide (q<r)
theorem zff{α:Type}{p q:α->Bool}:∀ {l:List α},(∀ x,p x=true->q x=true)->(∃ x ∈ l,p x=false/\q x=true)->l.countP p<l.countP q
 | [],_,h=>by obtain⟨x,hx,_⟩:=h;cases hx
 | a :: l,h,⟨x,hx,hp,hq⟩=>by
  rw[i8,i8]
  have m:l.countP p<=l.countP q:=gZ fun x _ hx=>h x hx
  rcases aY.mp hx with e | hx
  ·subst e
   rw[if_neg (by simp[hp]),if_pos hq]
   lia
  ·have:=zff (l:=l) h ⟨x,hx,hp,hq⟩
   by_cases ha:p a=true
   ·rw[if_pos ha,if_pos (h a ha)];lia
   ·rw[if_neg ha]
    lia
theorem rkR_lt{rows:List RwI}{r r':RwI}(hr:r ∈ rows):decide (rkR rows r<rkR rows r')=decide (r<r'):=by
 by_cases h:r<r'
 ·rw[decide_eq_true h]
  refine decide_eq_true (zff (fun q hq=>?_) ⟨r,hr,?_,decide_eq_true h⟩)
  ·exact decide_eq_true (List.lt_trans (of_decide_eq_true hq) h)
  ·exact decide_eq_false (List.lt_irrefl r)
 ·rw[decide_eq_false h]
  refine decide_eq_false (jj.mpr (gZ fun q _ hq=>?_))
  refine decide_eq_true (gc fun hc=>h ?_)
  exact List.lt_of_le_of_lt (i3.mp hc) (of_decide_eq_true hq)
section
variable {prog:aR}{w:aU}{A:a9}{E:ae->ah->Prop}{s:ah}
structure SrtH(prog:aR)(w:aU)(HP:ba->Prop)(vs:List ae)(kd:SortKind)(row:ae->RwI):Prop where
 keep:∀ {h h':ba},HP h->(∀ b o,h.get? b=aa o->o.cls=.type "tuple" -> h'.get? b=aa o)->HP h'
 kind:∀ (A:a9) (s:ah) (E:ae->ah->Prop) (Q:SortKind->ah->Prop),HP s.heap->2<=vs.length->Q kd s->aI (model prog w) A (keyKind' vs.toArray) Q E s
 lt:∀ (A:a9) (s:ah),HP s.heap->∀ x ∈ vs,∀ y ∈ vs,∀ (E:ae->ah->Prop) (Q:Bool->ah->Prop),Q (decide (row x<row y)) s->aI (model prog w) A (keyLt' kd x y) Q E s
variable {HP:ba->Prop}{vs:List ae}{kd:SortKind}{row:ae->RwI}
theorem SrtH.rk(H:SrtH prog w HP vs kd row)(h:HP s.heap):Rk prog w A s kd (fun x=>x.1 ∈ vs) (fun x=>rkR (vs.map row) (row x.1)):=
 ⟨fun x y hx hy E Q q=>H.lt A s h _ hx _ hy E Q (by rw[rkR_lt (bJ.mpr ⟨_,hx,rfl⟩)] at q;exact q)⟩
theorem zip_all{xs:Array Keyed}(hp:xs.toList.Perm (vs.toArray.zip vs.toArray).toList):∃ out:List ae,(xs.map (·.2)).toList=out/\out.Perm vs/\out=xs.toList.map (·.1):=by
 rw[eT] at hp
 have h2:∀ p ∈ xs.toList,p.1=p.2:=fun p hx=>(mem_zip_self (hp.mem_iff.mp hx)).1
 refine⟨xs.toList.map (·.2),Array.toList_map,?_,bL fun p hx=>(h2 p hx).symm⟩
 have:=hp.map (·.2)
 rwa [dW (ai _)] at this
theorem zgb{a:af}{n:Nat}{P:Fin->ah->Prop}(H:SrtH prog w HP vs kd row)(ho:s.heap.get? a=aa (seqObj "list" vs.toArray n))(hI:HP s.heap)(hl:vs.length<=10000000)
  (h:∀ out:List ae,out.Perm vs->(out.map row).Pairwise (·<=·)->P (.done (.ret .none)) { s with heap:=sortedHeap s.heap a vs out.toArray}):aI (model prog w) A (Builtin.«list.sort» ⟨[.ref a],[]⟩) P E s:=by
 rw[list_sort_plain]
 have ha:a<s.heap.objs.size:=aN ho
 refine aj (listItems_at ho rfl ?_)
 refine aj (listUpdate_at ho rfl ?_ (by rw[ck];simp;lia) (by simp))
 obtain⟨e1,ho1⟩:∃ e1,(s.heap.update a (bP fun _=>#[])).get? a=aa (seqObj "list" #[] e1):=⟨_,get?_update_seq ho (fun _=>#[])⟩
 refine aj (seqEpoch_at ho1 rfl ?_)
 refine aj (wpAny_newTuple ?_ (by show vs.length<=_;rw[ck];lia))
 refine aj (wpAny_newList ?_)
 refine bT ?_
 have ho6:(((s.heap.update a (bP fun _=>#[])).push (seqObj "tuple" vs.toArray 0)).push (seqObj "list" #[] 0)).get? a=aa (seqObj "list" #[] e1):=by
  rw[iR _ _ _ (by rw[size_push',eU];exact bp (Nat.lt_succ_of_lt ha)),iR _ _ _ (by rw[eU];exact bp ha)]
  exact ho1
 show aI (model prog w) A _ P E { s with heap:=((s.heap.update a (bP fun _=>#[])).push (seqObj "tuple" vs.toArray 0)).push (seqObj "list" #[] 0)}
 dsimp only
 have hI6:HP (((s.heap.update a (bP fun _=>#[])).push (seqObj "tuple" vs.toArray 0)).push (seqObj "list" #[] 0)):=H.keep hI fun b o hb hc=>by
  have hne:b ≠ a:=fun e=>by subst e;rw[ho] at hb;cases hb;exact absurd (show cR "list" = cR "tuple" from hc) (fun z=>by injection z with z;exact absurd z (by decide))
  refine am _ (am _ ?_)
  rw[im _ _ _ _ hne]
  exact hb
 have fin:∀ st':SortSt,(arrOf st').toList.Perm (vs.toArray.zip vs.toArray).toList->((arrOf st').toList.map fun p=>row p.1).Pairwise (·<=·)->P (.done (.ret .none)) { s with heap:=sortedHeap s.heap a vs ((arrOf st').map (·.2))}:=fun st' hp hs=>by
  obtain⟨out,e1,e2,e3⟩:=zip_all hp
  have e4:(arrOf st').map (·.2)=out.toArray:=by apply hU;rw[e1]
  rw[e4]
  refine h out e2 ?_
  rw[e3,cK]
  exact hs
 have sz2:∀ st':SortSt,(arrOf st').toList.Perm (vs.toArray.zip vs.toArray).toList->((arrOf st').map (·.2)).size<=aZ+1:=fun st' hp=>by
  have:=hp.length_eq
  rw[aC] at this
  rw[Array.size_map,this,ck]
  simp
  lia
 by_cases h2:vs.toArray.size<2
 ·rw[if_pos h2,if_pos h2]
  refine aj (aE ?_)
  rw[StateT.run_pure]
  refine aj (aE ?_)
  dsimp only
  refine aj (seqEpoch_at ho6 rfl ?_)
  refine aj (listUpdate_at ho6 rfl ?_ (by simp) (sz2 (ey _ (vs.toArray.zip vs.toArray) #[] 7 ab) (.refl _)))
  simp only[bne_self_eq_false,bG,if_false]
  refine aE (fin (ey _ (vs.toArray.zip vs.toArray) #[] 7 ab) (.refl _) ?_)
  have hz:((vs.toArray.zip vs.toArray).toList.map fun p:Keyed=>row p.1).length<2:=by
   rw[aq,eT]
   simpa using h2
  show((vs.toArray.zip vs.toArray).toList.map fun p:Keyed=>row p.1).Pairwise (·<=·)
  match hq:((vs.toArray.zip vs.toArray).toList.map fun p:Keyed=>row p.1) with
  | []=>exact .nil
  | [x]=>exact eG _ _
  | _ :: _ :: _=>rw[hq] at hz;simp at hz;lia
 ·rw[if_neg h2,if_neg h2]
  refine aj (H.kind _ { s with heap:=((s.heap.update a (bP fun _=>#[])).push (seqObj "tuple" vs.toArray 0)).push (seqObj "list" #[] 0)} _ _ hI6 (by simpa using h2) ?_)
  refine aj (cM (zhY (a₀:=vs.toArray.zip vs.toArray) (st:=ey kd (vs.toArray.zip vs.toArray) #[] 7 ab) (Q:=fun _ st'=>Sb kd (vs.toArray.zip vs.toArray) st'/\((arrOf st').toList.map fun p=>row p.1).Pairwise (·<=·))
   (H.rk (s:={ s with heap:=((s.heap.update a (bP fun _=>#[])).push (seqObj "tuple" vs.toArray 0)).push (seqObj "list" #[] 0)}) hI6) ⟨.refl _,rfl,rfl⟩ (fun x hx=>?_) (by simp at h2 ⊢;lia) rfl fun st' B u=>⟨B,?_⟩) ?_ fun _ _ e=>e)
  ·have hx':x ∈ vs.zip vs:=by rw[<- cV,eT] at hx;exact hx
   exact(mem_zip_self hx').2
  ·rw[iS,d8]
   intro i j hi hj hij
   have hz:=B.size
   rw[aC] at hi hj
   have:=u i j (aS _) (by lia) (by lia)
   rw[zcY hi,zcY hj] at this
   rw[dj,dj]
   have hm:(arrOf st')[j] ∈ (vs.toArray.zip vs.toArray).toList:=B.perm.mem_iff.mp (cV.mpr (bu hj))
   rw[eT] at hm
   refine i3.mp fun hc=>?_
   have h3:=rkR_lt (rows:=vs.map row) (r':=row (arrOf st')[i].1) (bJ.mpr ⟨_,(mem_zip_self hm).2,rfl⟩)
   rw[decide_eq_true hc] at h3
   have:=of_decide_eq_true h3
   lia
  ·rintro⟨⟨⟩,st'⟩ s' ⟨rfl,B,hs⟩
   dsimp only at B hs ⊢
   refine aj (seqEpoch_at ho6 rfl ?_)
   refine aj (listUpdate_at ho6 rfl ?_ (by simp) (sz2 st' B.perm))
   have hf:=B.failed
   simp only[bne_self_eq_false,bG,if_false]
   rw[hf]
   exact aE (fin st' B.perm hs)
theorem zjc{l:af}{Q:ae->ah->Prop}(H:SrtH prog w HP vs kd row)(hl:s.heap.IsList l vs.toArray)(hI:HP s.heap)(hz:vs.length<=10000000)
  (h:∀ out:List ae,out.Perm vs->(out.map row).Pairwise (·<=·)->Q (.ref (s.heap.objs.size+1)) { s with heap:=sortedAll s.heap vs out.toArray}):aI (model prog w) A (call (.builtin "sorted") [.ref l]) Q E s:=by
 refine Calls.call_function_entry kind_sorted plain_sorted entry_sorted (args_sorted1 _) ?_
 unfold Builtin.«sorted»
 have hz':vs.length<=aZ:=by rw[ck];lia
 refine aj (m:=checkCount "sorted" 1 1 _) (aE ?_)
 refine aj (collect_list hl ?_ hz')
 refine aj (wpAny_newList ?_ hz')
 have hsz:((s.heap.push (seqObj "list" #[] 0)).update s.heap.objs.size (bP (· ++ vs.toArray))).objs.size=s.heap.objs.size+1:=by
  rw[eU,size_push']
 have hoL:(((s.heap.push (seqObj "list" #[] 0)).update s.heap.objs.size (bP (· ++ vs.toArray))).push (seqObj "list" vs.toArray 0)).get? (s.heap.objs.size+1)=aa (seqObj "list" vs.toArray 0):=by
  rw[<- hsz];exact aM _ rfl
 have hI2:HP (((s.heap.push (seqObj "list" #[] 0)).update s.heap.objs.size (bP (· ++ vs.toArray))).push (seqObj "list" vs.toArray 0)):=H.keep hI fun b o hb _=>by
  refine am _ ?_
  rw[im _ _ _ _ (bp (aN hb))]
  exact am _ hb
 show aI _ _ _ _ _ { s with heap:=((s.heap.push (seqObj "list" #[] 0)).update s.heap.objs.size (bP (· ++ vs.toArray))).push (seqObj "list" vs.toArray 0)}
 rw[hsz]
 refine aj (bT (wpAny_call_entry slot_list_sort ⟨_,hoL,rfl⟩ entry_list_sort (zgb H hoL hI2 hz fun out p1 p2=>⟨_,rfl,?_⟩) (args_list_sort _)))
 exact aE ⟨_,rfl,h out p1 p2⟩
end
end L2

namespace L2
open PySem PySem.Spec PyProof.Rows
section
variable {prog:aR}{w:aU}{A:a9}{s:ah}
theorem ziZ{Q:Bool->ah->Prop}:∀ {xs ys:List ae} {is js:List Int} (i:Nat),IntsAre xs is->IntsAre ys js->Q (decide (is<js)) s->PySem.W.KatLex prog w A true (decide (xs.length<ys.length)) Q (xs.zip ys) i s
 | _,_,_,_,i,.nil,.nil,h=>h
 | _,_,_,_,i,.nil,.cons n t r,h=>by
  refine jl ?_
  rw[decide_eq_true (by simp)]
  rwa [decide_eq_true (by simp)] at h
 | _,_,_,_,i,.cons n t r,.nil,h=>by
  refine jl ?_
  rw[decide_eq_false (by simp)]
  rwa [decide_eq_false (by simp)] at h
 | _,_,_,_,i,.cons (vs:=xs) (ns:=is) a t r,.cons (vs:=ys) (ns:=js) b u r',h=>by
  rw[bS]
  refine PySem.W.kat_cons (wpAny_eqBool_int ?_)
  by_cases e:a=b
  ·subst e
   rw[beq_self_eq_true]
   refine PySem.W.kat_yes ?_
   have e1:decide ((fH a t :: xs).length<(fH a u :: ys).length)=decide (xs.length<ys.length):=by simp
   have e2:decide (a :: is<a :: js)=decide (is<js):=by
    by_cases c:is<js
    ·rw[decide_eq_true c,decide_eq_true (dc.mpr (.inr ⟨rfl,c⟩))]
    ·rw[decide_eq_false c,decide_eq_false fun z=>(dc.mp z).elim (fun z=>by lia) fun z=>c z.2]
   rw[e2] at h
   rw[e1]
   exact ziZ (i+1) r r' h
  ·rw[beq_eq_false_iff_ne.mpr e]
   refine PySem.W.kat_no ?_
   have e2:decide (a :: is<b :: js)=decide (a<b):=by
    by_cases c:a<b
    ·rw[decide_eq_true c,decide_eq_true (dc.mpr (.inl c))]
    ·rw[decide_eq_false c,decide_eq_false fun z=>(dc.mp z).elim c fun z=>e z.1]
   rw[e2] at h
   cases hb:(true && i == 0) with
   | true=>exact oneLt_int h
   | false=>exact PySem.W.kat_one _ _ (lt_int h)
def zij(h:ba)(row:ae->RwI)(vs:List ae):Prop:=∀ v ∈ vs,∃ a o xs n,v=.ref a/\h.get? a=aa o/\o.cls=.type "tuple" /\ o.data=.seq xs n/\IntsAre xs.toList (row v)/\row v ≠ []
theorem zfk{h:ba}{row:ae->RwI}:∀ {vs:List ae},zij h row vs->∃ fs,PySem.W.KatTups h vs fs/\fs.length=vs.length/\∀ v ∈ fs,∃ i t,v=.int i t
 | [],_=>⟨[],trivial,rfl,fun v hv=>by cases hv⟩
 | v :: vs,t=>by
  obtain⟨fs,k1,k2,k3⟩:=zfk (vs:=vs) fun v hv=>t v (al _ hv)
  obtain⟨a,o,xs,n,rfl,e1,e2,e3,e4,e5⟩:=t v aw
  obtain⟨xs⟩:=xs
  generalize row (.ref a)=r at e4 e5
  cases e4 with
  | nil=>exact absurd rfl e5
  | cons i t _=>
   refine⟨.int i t :: fs,⟨⟨a,o,_,n,rfl,e1,e2,e3,rfl⟩,k1⟩,by rw[aQ,aQ,k2],fun v hv=>?_⟩
   rcases aY.mp hv with e | hv
   ·exact⟨i,t,e⟩
   ·exact k3 v hv
theorem srtH_tups{row:ae->RwI}{vs:List ae}:SrtH prog w (fun h=>zij h row vs) vs (tuples' true) row:=by
 refine⟨fun t k v hv=>?_,fun A s E Q t h2 q=>?_,fun A s t x hx y hy E Q q=>?_⟩
 ·obtain⟨a,o,xs,n,e0,e1,e2,e3,e4⟩:=t v hv
  exact⟨a,o,xs,n,e0,k a o e1 e2,e2,e3,e4⟩
 ·obtain⟨fs,k1,k2,k3⟩:=zfk t
  refine PySem.W.kat_kind (T:=.type "int") k1 (by lia) (fun v hv=>?_) rfl q
  obtain⟨i,t,rfl⟩:=k3 v hv
  exact .now
 ·obtain⟨a,oa,xs,n,rfl,a1,_,a3,a4,_⟩:=t x hx
  obtain⟨b,ob,ys,m,rfl,b1,_,b3,b4,_⟩:=t y hy
  refine PySem.W.kat_lt a1 a3 b1 b3 ?_
  rw[<- aC,<- aC]
  exact ziZ 0 a4 b4 q
end
def vI:V->Int
 | .int i=>i
 | _=>0
def zh9(H:Hp)(a:af):RwI:=match H a with
 | some (.tup vs)=>vs.map vI
 | _=>[]
def rowV(H:Hp):ae->RwI
 | .ref a=>zh9 H a
 | _=>[]
theorem zh7(r:RwI):(r.map V.int).map vI=r:=by
 rw[cK]
 exact(bL fun _ _=>rfl).trans (gP r)
theorem zeS:∀ {r:RwI} {us:List ae},Vals (r.map V.int) us->IntsAre us r
 | [],_,.nil=>.nil
 | i :: r,_,.cons h t=>by
  obtain⟨k,rfl⟩:=h
  exact .cons i k (zeS t)
theorem zgL:∀ {as:List af} {us:List ae},Vals (as.map V.ref) us->us=as.map bE
 | [],_,.nil=>rfl
 | a :: as,_,.cons h t=>by
  cases h
  rw[ay,zgL t]
theorem zhp:∀ as:List af,Vals (as.map V.ref) (as.map bE)
 | []=>.nil
 | a :: as=>.cons rfl (zhp as)
def unR:ae->af
 | .ref a=>a
 | _=>default
theorem perm_refs{as:List af}{out:List ae}(h:out.Perm (as.map bE)):∃ as':List af,as'.Perm as/\out=as'.map bE:=by
 refine⟨out.map unR,?_,?_⟩
 ·have:=h.map unR
  rwa [cK,show(unR ∘ bE)=id from rfl,gP] at this
 ·rw[cK]
  refine(gP out).symm.trans (bL fun v hv=>?_)
  obtain⟨a,_,rfl⟩:=bJ.mp (h.mem_iff.mp hv)
  rfl
def zg4(H:Hp)(as:List af):Prop:=∀ a ∈ as,∃ r:RwI,r ≠ []/\H a=aa (.tup (r.map V.int))
theorem Inv.tups{X:Cx}{pins:List (af × Obj)}{σ:St}{H:Hp}{s:ah}(I:Inv X pins σ H s){as:List af}(h:zg4 H as):zij s.heap (rowV H) (as.map bE):=by
 intro v hv
 obtain⟨a,ha,rfl⟩:=bJ.mp hv
 obtain⟨r,hr,hH⟩:=h a ha
 obtain⟨_,its,ri,o,e,hcl,n,hd⟩:=I.hok a _ hH
 have er:rowV H (.ref a)=r:=by
  show zh9 H a=r
  unfold zh9
  rw[hH]
  exact zh7 r
 rw[er]
 exact⟨a,o,_,n,rfl,e,hcl,congrArg kX hd,zeS ri,hr⟩
theorem call_srtG{X:Cx}:zec X (.builtin "sorted") (fun xs H Q=>∃ (p:af) (as:List af),xs=[.ref p]/\SqL X.K H p (as.map V.ref)/\zg4 H as/\as.length<=1000000/\∀ (as':List af) (l:af),as'.Perm as->(as'.map (zh9 H)).Pairwise (·<=·)->H l=ab->Q (.ref l) (upd H l (.lst (as'.map V.ref)))):=by
 intro pins s σ H xs us Q I r h
 obtain⟨p,as,rfl,hq,hpr,hl,q⟩:=h
 obtain⟨u,rfl,rx⟩:=zfF r
 cases rx
 obtain⟨its,r',pl,hz⟩:=I.list hq
 cases zgL r'
 refine zjc srtH_tups pl.isList (I.tups hpr) (by rw[aq];lia) fun out p1 p2=>?_
 obtain⟨as',p3,rfl⟩:=perm_refs p1
 rw[cK] at p2
 have sz:((s.heap.push (seqObj "list" #[] 0)).update s.heap.objs.size (bP (· ++ (as.map bE).toArray))).objs.size=s.heap.objs.size+1:=by rw[eU,size_push']
 have g0:(((s.heap.push (seqObj "list" #[] 0)).update s.heap.objs.size (bP (· ++ (as.map bE).toArray))).push (seqObj "list" (as.map bE).toArray 0)).get? (s.heap.objs.size+1)=aa (seqObj "list" (as.map bE).toArray 0):=by
  rw[<- sz];exact aM _ rfl
 obtain⟨e,he⟩:=sortedHeap_at (out:=(as'.map bE).toArray) g0
 refine⟨.ref (s.heap.objs.size+1),_,I.laid (a:=s.heap.objs.size+1) (o:=.lst (as'.map V.ref)) (h':=sortedAll s.heap (as.map bE) (as'.map bE).toArray) (t':=s.toks) (fun b o eb=>?_) (dm _) ⟨?_,as'.map bE,e,zhp as',he⟩,rfl,q as' _ p3 p2 (I.hok.fresh (dm _))⟩
 ·exact sortedAll_old eb
 ·rw[aq,p3.length_eq,ck];lia
end L2
namespace L3
open PySem PySem.Spec PyProof.Rows L2
def rowD(r:RwI):D:=.tup (r.map .int)
def zdR:D->Option RwI
 | .tup ds=>zhg ds
 | _=>ab
def zhb:List D->Option (List RwI)
 | []=>aa []
 | d :: ds=>(zdR d).bind fun p=>(zhb ds).map fun ps=>p :: ps
def srtR(rows:List RwI):List RwI:=rows.mergeSort fun a b=>decide (a<=b)
theorem zdx(rows:List RwI):(srtR rows).Perm rows:=List.mergeSort_perm _ _
theorem srtR_up(rows:List RwI):(srtR rows).Pairwise (·<=·):=by
 have:=List.pairwise_mergeSort (le:=fun a b:RwI=>decide (a<=b)) (fun a b c h1 h2=>decide_eq_true (List.le_trans (of_decide_eq_true h1) (of_decide_eq_true h2))) (fun a b=>by
  rcases List.le_total a b with h | h
  ·rw[decide_eq_true h];rfl
  ·rw[decide_eq_true h,Bool.or_true]) rows
 exact this.imp fun h=>of_decide_eq_true h
theorem srtR_only{rows rows':List RwI}(h:rows'.Perm rows)(hs:rows'.Pairwise (·<=·)):rows'=srtR rows:=
 j7 (fun a b _ _ h1 h2=>List.le_antisymm h1 h2) hs (srtR_up rows) (h.trans (zdx rows).symm)
theorem zgY{F:Hp}:∀ {vs:List V} {ds:List D} {rows:List RwI},Reps F vs ds->zhb ds=aa rows->(∀ r ∈ rows,r ≠ [])->∃ as:List af,vs=as.map V.ref/\zg4 F as/\rows=as.map (zh9 F)
 | _,_,_,.nil,q,_=>by cases q;exact⟨[],rfl,(fun a ha=>by cases ha),rfl⟩
 | _,_,_,.cons r t,q,hn=>by
  obtain⟨p,q1,q⟩:=bind_some q
  obtain⟨ps,q2,q⟩:=map_some q
  subst q
  obtain⟨as,e1,e2,e3⟩:=zgY t q2 fun r hr=>hn r (al _ hr)
  cases r with
  | tup e rs=>
   have ei:=ze5 rs q1
   rw[ei] at e
   rename_i a _ _
   refine⟨a :: as,by rw[e1];rfl,fun b hb=>?_,?_⟩
   ·rcases aY.mp hb with h | h
    ·subst h;exact⟨p,hn p aw,e⟩
    ·exact e2 b h
   ·rw[ay,<- e3]
    congr 1
    unfold zh9
    rw[e]
    exact(zh7 p).symm
  | non=>cases q1
  | bl=>cases q1
  | int=>cases q1
  | str=>cases q1
  | lst=>cases q1
  | dic=>cases q1
theorem zhC{F:Hp}:∀ {as:List af},zg4 F as->Reps F (as.map V.ref) ((as.map (zh9 F)).map rowD)
 | [],_=>.nil
 | a :: as,h=>by
  obtain⟨r,hr,e⟩:=h a aw
  have er:zh9 F a=r:=by unfold zh9;rw[e];exact zh7 r
  refine .cons ?_ (zhC fun b hb=>h b (al _ hb))
  rw[er]
  exact .tup e (.ints r)
noncomputable def gSrtG:List Ent->Option Ent
 | [x]=>(asL x).bind fun ds=>(zhb ds).bind fun rows=>gif ((∀ r ∈ rows,r ≠ [])/\rows.length<=1000000) (aa (.own ((srtR rows).map rowD)))
 | _=>ab
theorem c_srtG{X:Cx}:zeW X (.builtin "sorted") gSrtG:=⟨_,call_srtG,fun H0 F H vs es res Q fh hh r q k=>by
 obtain⟨x,rfl⟩:=zfu rfl (fun _ _ _=>rfl) q
 obtain⟨v,rfl,rz⟩:=zdv r
 obtain⟨ds,q1,q⟩:=bind_some q
 obtain⟨rows,q2,q⟩:=bind_some q
 obtain⟨⟨hs,hl⟩,qz⟩:=zbi q
 cases qz
 obtain⟨l,ws,e',h1,h2⟩:=RepR.toL rz fh q1
 subst e'
 obtain⟨as,e1,e2,e3⟩:=zgY h2 q2 hs
 rw[e1] at h1
 have hA:zg4 H as:=fun a ha=>by obtain⟨r,x1,x2⟩:=e2 a ha;exact⟨r,x1,fh _ _ x2⟩
 have hrow:∀ a ∈ as,zh9 H a=zh9 F a:=fun a ha=>by
  obtain⟨r,x1,x2⟩:=e2 a ha
  unfold zh9
  rw[x2,fh _ _ x2]
 refine⟨l,as,rfl,h1,hA,by rw[e3,aq] at hl;exact hl,fun as' p p1 p2 hp=>?_⟩
 have e4:as'.map (zh9 H)=as'.map (zh9 F):=bL fun a ha=>hrow a (p1.mem_iff.mp ha)
 rw[e4] at p2
 have e5:as'.map (zh9 F)=srtR rows:=srtR_only (by rw[e3];exact p1.map _) p2
 have e6:=zhC (F:=F) (as:=as') fun a ha=>e2 a (p1.mem_iff.mp ha)
 rw[e5] at e6
 exact k _ _ _ (Ex.lay fh hp) ⟨p,_,rfl,hh.free hp,zaj,e6,fh.free hp⟩⟩
end L3

namespace L3
open PySem PySem.Spec PyProof.Rows L2
def xPop(i:Nat):FXE:=fun δ=>((oAt i δ).bind lOf).bind fun ds=>(ds[ds.length - 1]?).map fun d=>(d,δ.set i (aa (.obj (.lst ds.dropLast))))
def xCO(i:Nat)(g:GM)(fs:FXA):FXE:=fun δ=>(oAt i δ).bind fun _=>(fs δ).bind fun p=>(oAt i p.2).bind fun o=>(g o p.1).map fun q=>(q.1,p.2.set i (aa (.obj q.2)))
def ziM(i:Nat)(fe:FE):FS:=fun δ=>(fe δ).bind fun r=>match r with
 | .own ds=>aa (.nx (δ.set i (aa (.obj (.lst ds)))))
 | _=>ab
def xLst(fs:FXA):FXE:=fun δ=>(fs δ).bind fun p=>if p.1.length<=1000 then aa (.lst p.1,p.2) else ab
def fXAsg(tg:FG)(fx:FXE):FS:=fun δ=>(fx δ).bind fun p=>(tg p.1 p.2).map .nx
theorem lOf_some{o:OT}{ds:List D}(h:lOf o=aa ds):o=.lst ds:=by
 cases o <;> first | (cases h;rfl) | (cases h)
section
variable {X:Cx}{e:Expr}{es:List Expr}{pos pos' p p0 apos cpos:Pos}{fa fb fx:FXE}{fs:FXA}{fe:FE}{x y:Str}{tg:Expr}{tgf:FG}
theorem xpop(i:Nat)(hN:X.N[i]? = aa x:=by rfl)(hv:Vis X.env.scope x:=by first | exact au rfl | exact bw (au rfl) | exact bw (bw rfl))(hd:(x == ("__debug__" : Str))=false:=by decide)(hcd:(x == ("__classdict__" : Str))=false:=by decide)
  (hbase:bU (.Name x p) "pop" X.env (eval (.Name x p) X.env)=eval (.Name x p) X.env:=by rfl) (hline:(apos.endLine == cpos.line)=true:=by rfl):VX X (.Call (.Attribute (.Name x p) "pop" apos) [] [] cpos) (xPop i):=by
 refine⟨_,⟨pe_bm0 eE PySem.F.slot_list_pop PySem.F.type_list_pop mt_pop (wv i hN hv hd hcd).h hbase hline⟩,fun B F H σ δ d δ' Q s q k=>?_⟩
 obtain⟨ds,q1,q⟩:=bind_some q
 obtain⟨o,q0,q1⟩:=bind_some q1
 obtain⟨d',q2,q⟩:=map_some q
 cases q
 cases lOf_some q1
 obtain⟨v,h1,A,t,n,h⟩:=s.ent i _ (zaV q0)
 cases t with
 | @lst l vs _ h2 h3=>
  have fl:=(h l (by simp)).1
  obtain⟨z,hz,rz⟩:=h3.get q2
  refine⟨_,h1,.inl ⟨rfl,vs,SqL.of h2⟩,l,vs,z,rfl,rfl,h2,by rw[h3.length];exact hz,?_⟩
  obtain⟨z1,z2⟩:=s.chg (o':=.lst ds.dropLast) (H':=upd H l (.lst vs.dropLast)) (F':=F) (zaV q0) h1 (.lst h2 h3) ⟨Same.refl _,fun b u hb=>by
    rw[zan fun z=>by subst z;rw[fl] at hb;cases hb]
    exact s.fh _ _ hb,fun b u hb=>by
    obtain⟨z1,z2⟩:=zbw hb
    rw[zan fun z=>z1 (by simp[z])]
    exact z2,fun _ _ _ _=>rfl⟩
   (.lst zaj h3.dropLast) (by simp) fun b hb=>by
    simp at hb
    subst hb
    exact⟨fl,zc8 (by simp)⟩
  exact k z F _ z1 z2 rz
theorem xco{CX:CXT}{k j:Nat}{f:af}{fd:bD}{ps:List Str}{st:Stmt}{E:XK}{g:GM}(i:Nat)(F:FnOk X.prog X.w X.K X.mg X.base CX k f fd ps (spM X.K g))(D:Def X.K X.mg y st ps f fd)(hr:Room j X.A)(hg:Gl X y)(hx:zcU CX X E)
  (ha:VXA X es fs) (hjk:k<=j:=by decide) (hdb:(y == ("__debug__" : Str))=false:=by decide) (h2:es.all zam=true:=by rfl)
  (hN:X.N[i]? = aa x:=by rfl) (hv:Vis X.env.scope x:=by first | exact au rfl | exact bw (au rfl) | exact bw (bw rfl)) (hd:(x == ("__debug__" : Str))=false:=by decide) (hcd:(x == ("__classdict__" : Str))=false:=by decide) :
  VX X (.Call (.Name y p) (.Name x p0 :: es) [] pos) (xCO i g fs):=by
 obtain⟨t,w,m⟩:=ha.h
 refine⟨_,wcl F D hr hg hx (wac (wv i hN hv hd hcd) w rfl) hjk hdb rfl h2,fun B F H σ δ d δ' Q s q kk=>?_⟩
 obtain⟨o0,q0,q⟩:=bind_some q
 obtain⟨p1,q1,q⟩:=bind_some q
 obtain⟨o,q2,q⟩:=bind_some q
 obtain⟨r,q3,q⟩:=map_some q
 cases q
 obtain⟨v,h1,_⟩:=s.ent i _ (zaV q0)
 refine⟨v,h1,m B F H σ δ p1.1 p1.2 _ s q1 fun vs F1 H1 s1 y1 r1=>?_⟩
 obtain⟨v',h1',A,t,n,h⟩:=s1.ent i _ (zaV q2)
 rw[h1] at h1'
 cases h1'
 rw[bV]
 refine⟨v,vs,F1,o,A,p1.1,r.1,r.2,rfl,s1.fh,t,n,fun a ha=>(h a ha).1,r1,q3,fun z F' H' A' ch t' n' f' rz=>?_⟩
 obtain⟨z1,z2⟩:=s1.chg (zaV q2) h1 t ch t' n' f'
 exact kk z F' H' z1 (y1.trans z2) rz
theorem xlst(ha:VXA X es fs):VX X (.List es pos) (xLst fs):=by
 obtain⟨t,w,m⟩:=ha.h
 refine⟨_,wlst w,fun B F H σ δ d δ' Q s q k=>?_⟩
 obtain⟨p1,q1,q⟩:=bind_some q
 split at q
 ·rename_i hl
  cases q
  refine m B F H σ δ p1.1 p1.2 _ s q1 fun vs F1 H1 s1 y1 r1=>⟨by rw[r1.length,ck];lia,fun a ha=>?_⟩
  have xa:Ex F1 H1 (upd F1 a (.lst vs)) (upd H1 a (.lst vs)):=Ex.alloc s1.fh ha
  exact k _ _ _ (s1.ext xa) (y1.trans (.of xa s1.bh)) (.lst zaj (r1.mono (Same.alloc (s1.fh.free ha))))
 ·cases q
theorem sXAsg(he:VX X e fx)(hg:VG X tg tgf)(hs:swapsWithSole [tg] e pos.line X.env=pure false:=by rfl)(hw:swappedStores [tg] e X.env=pure ab:=by rfl)(h1:(bH [tg] X.env).map (·.2)=[assign tg X.env]:=by rfl):VS X (.Assign [tg] e pos) (fXAsg tgf fx):=by
 obtain⟨t,w,m⟩:=he.h
 obtain⟨t1,w1,m1⟩:=hg.h
 refine⟨_,sasg w w1 hs hw h1,fun B F H σ δ out DD s q k=>?_⟩
 obtain⟨p1,q1,q⟩:=bind_some q
 obtain⟨δ2,q2,q⟩:=map_some q
 cases q
 exact m B F H σ δ p1.1 p1.2 _ s q1 fun v F1 H1 s1 y1 r1=>m1 B F1 H1 σ p1.2 δ2 v p1.1 _ s1 r1 q2 fun σ' s'=>k σ' F1 H1 s' y1
theorem sSetL'{i:Nat}(h0:0<i)(hN:X.N.Nodup)(hi:X.N[i]? = aa x)(hx:Loc X.env.scope x)(he:VE X e fe)(hs:swapsWith e (aa (.Name x pos')) pos.line X.env=pure false:=by rfl)(hf:X.fn x=true \/ X.env.scope.names.lookup x=aa .local:=by first | exact .inl rfl | exact .inr rfl | assumption) :
  VS X (.Assign [.Name x pos'] e pos) (ziM i fe):=by
 obtain⟨t,w,m⟩:=he.h
 refine⟨_,sset hN hi hx w hs hf,fun B F H σ δ out DD s q k=>?_⟩
 obtain⟨r,q1,q⟩:=bind_some q
 cases r with
 | own ds=>
  cases q
  refine m B F H σ δ _ _ s q1 fun v F' H' x z=>k _ F' H' (s.putO x i h0 ?_) (.of x s.bh)
  obtain⟨l,vs,e,g0,g1,rs,g2⟩:=z
  subst e
  exact⟨⟨l,rfl⟩,[l],.lst g1 rs,by simp,fun a ha=>by simp at ha;subst ha;exact⟨g2,g0⟩⟩
 | _=>cases q
end
abbrev FXO:=En->Option (Option Int × En)
def xoNo:FXO:=fun δ=>aa (ab,δ)
def iOfD:D->Option Int
 | .int i=>aa i
 | _=>ab
def xoSo(fx:FXE):FXO:=fun δ=>(fx δ).bind fun p=>(iOfD p.1).map fun i=>(aa i,p.2)
def SemXO(K:ag)(t:TO)(f:FXO):Prop:=∀ (B:Bd) (F H:Hp) (σ:Sg) (δ:En) (o:Option Int) (δ':En) (Q:Option Int->Hp->Prop),RS K B F H σ δ->f δ=aa (o,δ')->(∀ F' H',RS K B F' H' σ δ'->FX B F F'->Q o H')->t σ H Q
structure VXO(X:Cx)(e:Option Expr)(f:FXO):Prop where
 h:∃ t,WO X e t/\SemXO X.K t f
def xSl(g:Ent->Option Int->Option Int->Option Ent)(fx:FXE)(fl fu:FXO):FXE:=fun δ=>(fx δ).bind fun p=>(fl p.2).bind fun l=>(fu l.2).bind fun u=>((g (.val p.1) l.1 u.1).bind asV).map fun d=>(d,u.2)
section
variable {X:Cx}{e tg iter:Expr}{lo hi:Option Expr}{fx:FXE}{fl fu:FXO}{pos p2:Pos}{tgf:FG}{f:FS}{body:List Stmt}
theorem xon:VXO X ab xoNo:=⟨_,won,fun B F H σ δ o δ' Q s q k=>by cases q;exact k F H s .refl⟩
theorem iOfD_some{d:D}{i:Int}(h:iOfD d=aa i):d=.int i:=by cases d <;> first | (cases h;rfl) | cases h
theorem xos(h:VX X e fx):VXO X (aa e) (xoSo fx):=by
 obtain⟨t,w,m⟩:=h.h
 refine⟨_,wos w,fun B F H σ δ o δ' Q s q k=>?_⟩
 obtain⟨p1,q1,q⟩:=bind_some q
 obtain⟨i,q2,q⟩:=map_some q
 cases q
 exact m B F H σ δ p1.1 p1.2 _ s q1 fun v F1 H1 s1 y1 r1=>⟨i,za3 (iOfD_some q2 ▸ r1),k F1 H1 s1 y1⟩
theorem xsl{g:Ent->Option Int->Option Int->Option Ent}(hr:SlD X g)(he:VX X e fx)(hl:VXO X lo fl)(hu:VXO X hi fu):VX X (.Subscript e (.Slice lo hi ab p2) pos) (xSl g fx fl fu):=by
 obtain⟨t,w,m⟩:=he.h
 obtain⟨t1,w1,m1⟩:=hl.h
 obtain⟨t2,w2,m2⟩:=hu.h
 obtain⟨rr,hr1,hr2⟩:=hr
 refine⟨_,wslice hr1 w w1 w2,fun B F H σ δ d δ' Q s q k=>?_⟩
 obtain⟨p1,q1,q⟩:=bind_some q
 obtain⟨l,q2,q⟩:=bind_some q
 obtain⟨u,q3,q⟩:=bind_some q
 obtain⟨d',q4,q⟩:=map_some q
 cases q
 obtain⟨res,q4,q5⟩:=bind_some q4
 refine m B F H σ δ p1.1 p1.2 _ s q1 fun v F1 H1 s1 y1 r1=>?_
 refine m1 B F1 H1 σ p1.2 l.1 l.2 _ s1 q2 fun F2 H2 s2 y2=>?_
 refine m2 B F2 H2 σ l.2 u.1 u.2 _ s2 q3 fun F3 H3 s3 y3=>?_
 refine hr2 H3 F3 H3 v l.1 u.1 (.val p1.1) res Q s3.fh (Same.refl _) (Rep.mono (y2.trans y3).ff r1) q4 fun v' F' H' x4 r4=>?_
 obtain⟨F5,x5,_,r5⟩:=RepR.frz x4 (Same.refl _) r4 q5
 exact k v' F5 H' (s3.ext x5) (((y1.trans y2).trans y3).trans (.of x5 s3.bh)) r5
end
end L3

namespace L2
open PySem PySem.Spec PyProof.Rows
section
variable {prog:aR}{w:aU}{A:a9}{E:ae->ah->Prop}{s:ah}
set_option maxRecDepth 100000
theorem init_rev{R:Result->ah->Prop}{I l S:af}{items:Array ae}(hh:A.handled=ab)(hne:l ≠ I)(hit:s.heap.IsRevIter I l ((items.size:Int) - 1))(hl:s.heap.IsList l items)(hn:items.size<=aZ)
  (hS:s.heap.get? S=aa { cls:=.type "list",data:=.seq #[]}) (hSI:S ≠ I) (hSl:S ≠ l)
  (hR:∀ s' acc c',(∀ b o,b ≠ I->b ≠ S->s.heap.get? b=aa o->s'.heap.get? b=aa o)->s'.gens=s.gens->s'.drawn=s.drawn->s'.os=s.os->s'.heap.get? S=aa { cls:=.type "list",data:=.seq acc c'}->ItemsOf (fun i v=>items[items.size - 1 - i]? = aa v) acc items.size->R (.ok (.ret .none)) s') :
  aI (model prog w) A.in1 (Builtin.«list.__init__» ⟨[.ref S,.ref I],[]⟩)
   (fun fin s'=>match fin with | .done f=>R (.ok f) s' | .again c'=>c'.quiet=true/\codeAny (model prog w) A c' R s') (fun e s'=>R (.error e) s') s:=by
 show aI _ _ (do let old <- gQ (.ref S);kc (.ref S) (fun _=>#[]);letGo old.toList.reverse;cI (.ref S) (.ref I) .none) _ _ s
 refine aj ?_
 unfold gQ
 refine aj (wpAny_seqItems hS rfl (aE ?_))
 show aI _ _ (updateSeq S (fun _=>#[]) >>= fun _=>letGo (#[]:Array ae).toList.reverse >>= fun _=>cI (.ref S) (.ref I) .none) _ _ s
 refine aj (wpAny_updateSeq hS rfl ?_)
 have hS₂:=dN (bP (fun _=>(#[]:Array ae))) hS rfl
 have oth:∀ b o,b ≠ S->s.heap.get? b=aa o->(s.heap.update S (bP (fun _=>(#[]:Array ae)))).get? b=aa o:=
  fun b o hb e=>(b9 _ _ (cj hb)).trans e
 refine aj (wpAny_letGo ?_)
 generalize s.heap.update S (bP (fun _=>(#[]:Array ae)))=H at hS₂ oth
 have hit':H.IsRevIter I l ((items.size:Int) - 1):=hit.at fun o e=>oth _ o (cj hSI) e
 have hl':H.IsList l items:=hl.at fun o e=>oth _ o (cj hSl) e
 unfold cI
 refine aj (wpAny_typeOf (s:={ s with heap:=H}) hit'.typeIs ?_)
 have h1:dr (.ref S) (.ref I)=false:=by
  unfold dr
  simp
  exact hSI
 have h2:(cR "list_reverseiterator" == cR "list")=false:=by decide
 have h3:(cR "list_reverseiterator" == cR "tuple")=false:=by decide
 simp only[h1,h2,h3,ic,bG,if_false]
 refine aj (wpAny_pyIter_revIter hit' ?_)
 refine aj (bT ?_)
 refine ziW (s:={ s with heap:=H}) hit' ?_
 rw[if_neg (by decide)]
 have hSf:S ∉ [I,l]:=by simp[hSI,hSl]
 have st0:0<=items.size/\H.IsRevIter I l ((items.size:Int) - 1 - ((0:Nat):Int))/\H.IsList l items:=⟨aS _,by simpa using hit',hl'⟩
 refine aE ⟨plainId_quiet ij _,codeAny_extend_loopS (jy (A:=A.in1) hh I l hne items).toS hn _ hSf _ items.size 0 _ _ _ rfl (aS _) st0 hS₂ (kj _) fun s' acc' c' hm hS' hacc=>?_⟩
 refine hR s' acc' c' (fun b ob hb hb2 e=>hm.heap b ob (fun hc=>?_) (oth b ob hb2 e)) hm.gens hm.drawn hm.os hS' hacc
 rcases aY.mp hc with h | h
 ·exact hb2 h
 ·exact hb (a7.mp h)
theorem zgB{Q:ae->ah->Prop}{I l:af}{items:Array ae}(hh:A.handled=ab)(hne:l ≠ I)(hit:s.heap.IsRevIter I l ((items.size:Int) - 1))(hl:s.heap.IsList l items)(hsz:items.size<=aZ)
  (h:∀ (h':ba) (tk c:Nat) (acc:Array ae),(∀ b o,b ≠ I->s.heap.get? b=aa o->h'.get? b=aa o)->h'.get? s.heap.objs.size=aa { cls:=.type "list",data:=.seq acc c}->ItemsOf (fun i v=>items[items.size - 1 - i]? = aa v) acc items.size->Q (.ref s.heap.objs.size) { s with heap:=h',toks:=tk}) :
  aI (model prog w) A (call (.type "list") [.ref I]) Q E s:=by
 have lt:∀ a o,s.heap.get? a=aa o->s.heap.objs.size ≠ a:=fun a o e=>gh (aN e)
 obtain⟨oI,eI,_⟩:=id hit
 obtain⟨oL,eL,_⟩:=id hl
 refine callType_codes (Q₁:=fun obj s₁=>obj=.ref s.heap.objs.size/\s₁={ s with heap:=s.heap.push { cls:=.type "list",data:=.seq #[]}}) F.called_list (F.typeCall_list_1 _) F.entry_list_init
  (code_list_new _ ⟨rfl,rfl⟩) fun obj s₁ h₁=>?_
 obtain⟨rfl,rfl⟩:=h₁
 have hS:(s.heap.push { cls:=.type "list",data:=.seq #[]}).get? s.heap.objs.size=aa { cls:=.type "list",data:=.seq #[]}:=aM _ rfl
 refine⟨⟨_,hS,rfl⟩,F.args_list_init_2 _ _,init_rev (A:=A.in1) (I:=I) (l:=l) (items:=items) (s:={ s with heap:=s.heap.push { cls:=.type "list",data:=.seq #[]}}) hh hne (hit.at fun o e=>am _ e) (hl.at fun o e=>am _ e) hsz hS (lt _ _ eI) (lt _ _ eL) fun s' acc c' hk hg hd hos hS' hacc=>⟨rfl,?_⟩⟩
 obtain⟨h',g',d',tk',os'⟩:=s'
 cases (show g'=s.gens from hg)
 cases (show d'=s.drawn from hd)
 cases (show os'=s.os from hos)
 exact h h' tk' c' acc (fun b o hb e=>hk b o hb (cj (lt _ _ e)) (am _ e)) hS' hacc
end
section
variable {X:Cx}{e tg:Expr}{t:TE}{p p1 pos pos1:Pos}
def tLRv(K:ag)(t:TE):TE:=fun σ H Q=>t σ H fun x H1=>∃ a xs,x=.ref a/\SqL K H1 a xs/\∀ q,H1 q=ab->Q (.ref q) (upd H1 q (.lst xs.reverse))
theorem pe_lrv(hc:X.calm=true)(he:PE X e t)(hg:Gl X "list")(hm:X.mg "list" = ab)(hv:bn "list" = aa (.type "list"))(hg1:Gl X "reversed")(hm1:X.mg "reversed" = ab)(hv1:bn "reversed" = aa (.type "reversed"))
  (h1:be [e] X.env=(false,eval e X.env) :: be [] X.env) (h2:be [kL (.Name "reversed" p1) [e] [] pos1] X.env=(false,eval (.Call (.Name "reversed" p1) [e] [] pos1) X.env) :: be [] X.env) :
  PE X (.Call (.Name "list" p) [.Call (.Name "reversed" p1) [e] [] pos1] [] pos) (tLRv X.K t):=by
 intro pins s σ H Q I h
 refine cf (zep I hg hm hv ?_ (by decide) (by decide))
 refine bZ ?_ h2 rfl
 rw[h2]
 refine fJ (rest:=backTo pos (be [] X.env)) ?_
 refine cf (zep I hg1 hm1 hv1 ?_ (by decide) (by decide))
 refine bZ ?_ h1 rfl
 refine thn (zhZ he pa_nil h1 pos1 pins s σ H (one fun x H1=>∃ a xs,x=.ref a/\SqL X.K H1 a xs/\∀ q,H1 q=ab->Q (.ref q) (upd H1 q (.lst xs.reverse))) I ?_) ?_
 ·exact(show t σ H _ from h)
 ·rintro us s1 ⟨xs,H1,I1,r1,qx⟩
  obtain⟨x,rfl,a,vs,rfl,hq,kk⟩:=ziv qx
  cases r1 with
  | cons r1 rn=>
   cases rn
   cases r1
   obtain⟨its,rv,pl,hz⟩:=I1.list hq
   have hs:its.toArray.size<=aZ:=by have:=rv.length;simp;lia
   have hl:=pl.isList
   have hlt:a<s1.heap.objs.size:=by obtain⟨o,e,_⟩:=hl;exact aN e
   refine call_reversed_list hl ?_
   refine fW ?_
   refine zgB (I:=s1.heap.objs.size) (l:=a) (items:=its.toArray) (I.ok.hd hc) (bp hlt) ⟨_,aM _ rfl,rfl,rfl⟩ (hl.at fun o e=>am _ e) hs fun h' tk c acc old hS ha=>?_
   have old':∀ b o,s1.heap.get? b=aa o->h'.get? b=aa o:=fun b o e=>old b o (bp (aN e)) (am _ e)
   have hle:s1.heap.objs.size<=(s1.heap.push { cls:=.type "list_reverseiterator",data:=.fields #[.ref a,.int ((its.toArray.size:Int) - 1) 0]}).objs.size:=by rw[dL];exact dm _
   refine⟨.ref _,_,I1.laid (t':=tk) (o:=.lst vs.reverse) old' ?_ ⟨?_,acc.toList,c,zin rv ha,?_⟩,rfl,kk _ (I1.hok.fresh ?_)⟩
   ·rw[dL];exact dm _
   ·rw[c9];exact hz
   ·simpa using hS
   ·rw[dL];exact dm _
theorem op_fdivB:OpR X (binaryOp .FloorDiv) (rI (fun _ j=>0<j/\j<18446744073709551616) fun i j=>.int (i / j)):=opI fun i j _ _ _ _ _ hc q=>by
 have h1:(0:Int)<j:=hc.1
 have h2:j<18446744073709551616:=hc.2
 refine floordiv_int (by lia) (by rw[fP i (by lia)];exact q) (.inl (PyProof.noPylong_of_log2 ?_))
 refine aW ((Nat.log2_lt (by lia)).mpr (show j.natAbs<2 ^ 64 by lia)) (by decide)
def Itd(a:af)(o:Obj)(ks:List Str)(vs:List V):It:=⟨fun i H=>H a=aa (.frz o (.dK ((ks.map bm).zip vs)))/\i<ks.length,fun i H x H'=>H'=H/\∃ z,ks[i]? = aa z/\x=.str z,fun i H=>H a=aa (.frz o (.dK ((ks.map bm).zip vs)))/\ks.length<=i⟩
theorem kv_keys:∀ {ks:List Str} {vs:List V} {us:List (Key × ae)},ks.length=vs.length->KV ((ks.map bm).zip vs) us->us.map (·.1)=ks.map bm
 | [],[],us,_,r=>by
  unfold KV at r
  cases r
  rfl
 | x :: ks,v :: vs,us,hl,r=>by
  unfold KV at r
  rw[ay,bS] at r
  cases r with
  | cons h t=>rw[ay,ay,kv_keys (by simpa using hl) t,<- h.1]
theorem Inv.frzD{pins:List (af × Obj)}{σ:St}{H:Hp}{s:ah}{a:af}{o:Obj}{ks:List Str}{vs:List V}(I:Inv X pins σ H s)(e:H a=aa (.frz o (.dK ((ks.map bm).zip vs))))(hl:ks.length=vs.length) :
  (a == sysModules)=false/\∃ (us:List (Key × ae)) (es:Array DictEntry) (ep:Nat),o.data=.dict es ep/\us.map (·.1)=ks.map bm/\s.heap.DictAt (zdz X.prog X.w) a us ep:=by
 obtain⟨h1,_,hd,us,r,o',es,ep,h2,h3,h4,h5⟩:=I.hok a _ e
 rw[h1] at h2
 cases h2
 exact⟨hd,us,es,ep,h4,kv_keys hl r,_,es,h1,h3,h4,h5⟩
theorem turn_dic{P:aR}{w:aU}{K:ag}{a it:af}{o:Obj}{ks:List Str}{vs:List V}{es:Array DictEntry}{ep:Nat}(hl:ks.length=vs.length)(ho:o.data=.dict es ep) :
  Turn P w K tg (Itd a o ks vs) [it] it (fun i h=>h.IsKeyIter it a i ks.length ep) where
 mem:=by simp
 obj:=fun i h st b hb=>by
  have e:b=it:=by simpa using hb
  subst e
  obtain⟨o,e,c,d⟩:=st
  exact⟨o,e,fun v z=>by rw[d] at z;cases z⟩
 keep:=fun i h h' st k=>st.at fun o e=>k it (by simp) o e
 item:=by
  intro X hP hw hK hc i pins s σ H E I hf st hg
  subst hP hw hK
  obtain⟨f0,f1,f2,f3,f4,f5⟩:=hf it (by simp)
  obtain⟨hg1,hg2⟩:=(show _/\_ from hg)
  obtain⟨_,us,es',ep',h4,hk,hd⟩:=I.frzD hg1 hl
  rw[ho] at h4
  cases h4
  have hu:us.length=ks.length:=by have:=congrArg eJ hk;simpa using this
  have hlt:i<us.length:=by lia
  rw[<- hu] at st
  refine wpAny_pyNext_dict_item (knd:=zdz X.prog X.w) (k:=us[i].1) (v:=us[i].2) st hd (by rw[aF hlt]) fun key h' hk' st' sb=>?_
  have hz:us[i].1=bm ks[i]:=by
   have:=congrArg (fun l=>l[i]?) hk
   simp only[ax,aF hlt,aF hg2,cz,kQ] at this
   exact this
  rw[hz] at hk'
  have hk2:keyIs (bm ks[i]) key=true:=hk'
  rcases zbh hk2 with ⟨_,_,z,_⟩ | ⟨z,t,e1,e2⟩
  ·cases z
  ·cases e1
   subst e2
   have I1:Inv X pins σ H { s with heap:=h'}:=I.turned (t':=s.toks) (fun b o hb e=>(sb.2 b hb).trans e) f0 f1 f3 f4 f5
   rw[hu] at st'
   exact⟨_,rfl,letGo_keyiter (s':={ s with heap:=h'}) st' ⟨.str ks[i],H,I1,⟨t,rfl⟩,⟨rfl,_,aF hg2,rfl⟩,st',fun b hb=>(hf b hb).1⟩⟩
 done:=by
  intro X hP hw hK hc i pins s σ H E I hf st hg
  subst hP hw hK
  obtain⟨f0,f1,f2,f3,f4,f5⟩:=hf it (by simp)
  obtain⟨hg1,hg2⟩:=(show _/\_ from hg)
  obtain⟨_,us,es',ep',h4,hk,hd⟩:=I.frzD hg1 hl
  rw[ho] at h4
  cases h4
  have hu:us.length=ks.length:=by have:=congrArg eJ hk;simpa using this
  rw[<- hu] at st
  exact wpAny_pyNext_dict_end (knd:=zdz X.prog X.w) (I.ok.hd hc) st hd (cB (by lia)) fun h' eb=>⟨rfl,I.turned (t':=s.toks) (fun b o hb e=>eb b o hb e) f0 f1 f3 f4 f5⟩
 self:=fun _ _ _ _ _ st h=>wpAny_pyIter_keyiter st h
def iDk(tl:TE):TI:=fun σ H R=>tl σ H fun x H1=>∃ a o ks vs,x=.ref a/\ks.length=vs.length/\H1 a=aa (.frz o (.dK ((ks.map bm).zip vs)))/\R (Itd a o ks vs) H1
theorem pi_dic{l:Expr}{tl:TE}(hl:PE X l tl):PI X tg l (iDk tl):=by
 intro pins s σ H R I h
 refine thn (hl pins s σ H _ I h) fun v s1 ⟨x,H1,I1,r1,q1⟩=>?_
 obtain⟨a,o,ks,vs,e,hl',ha,q⟩:=q1
 subst e
 cases r1
 obtain⟨hs,us,es,ep,h4,hk,hd⟩:=I1.frzD ha hl'
 have hu:us.length=ks.length:=by have:=congrArg eJ hk;simpa using this
 refine wpAny_pyIter_dict (knd:=zdz X.prog X.w) hs hd ?_
 refine⟨s1.heap.objs.size,[s1.heap.objs.size],_,_,H1,rfl,I1.kept (t':=s1.toks) fun b o e=>am _ e,turn_dic hl' h4,⟨_,aM _ rfl,rfl,by rw[hu];rfl⟩,fun b hb=>?_,q⟩
 have e:b=s1.heap.objs.size:=by simpa using hb
 subst e
 exact I1.fpOk (ai _) (I1.hok.fresh (ai _))
end
end L2
namespace L3
open PySem PySem.Spec PyProof.Rows L2
def gLstRev:Ent->Option Ent:=fun x=>(asL x).bind fun ds=>aa (.own ds.reverse)
def gMax2:List Ent->Option Ent
 | [x,y]=>(iOf x).bind fun i=>(iOf y).map fun j=>.val (.int (if j > i then j else i))
 | _=>ab
noncomputable def gDivB:=pI (fun _ j=>0<j/\j<18446744073709551616) fun i j=>.int (i / j)
def iD(fe:FE):FI:=fun δ=>(fe δ).bind fun x=>(dOf x).map fun p=>p.1.map D.str
section
variable {X:Cx}{e tg:Expr}{fe:FE}{p p1 pos pos1:Pos}
theorem vLstRev(he:VE X e fe)(hg:Gl X "list")(hm:X.mg "list" = ab)(hv:bn "list" = aa (.type "list"))(hg1:Gl X "reversed")(hm1:X.mg "reversed" = ab)(hv1:bn "reversed" = aa (.type "reversed"))(hc:X.calm=true:=by rfl)(h1:zam e=true:=by rfl) :
  VE X (.Call (.Name "list" p) [.Call (.Name "reversed" p1) [e] [] pos1] [] pos) (ex1 gLstRev fe):=by
 obtain⟨t,w,m⟩:=he.h
 refine⟨_,⟨pe_lrv hc w.h hg hm hv hg1 hm1 hv1 (zar h1) (zar rfl)⟩,fun B F H σ δ res Q s q k=>?_⟩
 obtain⟨en,q1,q⟩:=bind_some q
 refine m B F H σ δ en _ s q1 fun v F1 H1 x1 r1=>?_
 obtain⟨ds,q2,q3⟩:=bind_some q
 cases q3
 obtain⟨l,vs,rfl,hs,rs⟩:=r1.toL x1.fh q2
 refine⟨l,vs,rfl,hs,fun r hr=>?_⟩
 exact k _ F1 _ (x1.trans (Ex.lay x1.fh hr)) ⟨r,_,rfl,x1.hh.free hr,zaj,rs.rev,x1.fh.free hr⟩
theorem c_max2(hc:X.calm=true:=by rfl):zeW X (.builtin "max") gMax2:=⟨_,call_max2 hc,fun H0 F H vs es res Q fh hh r q k=>by
 match es,q with
 | [x,y],q=>
  obtain⟨i,q1,q⟩:=bind_some q
  obtain⟨j,q2,q⟩:=map_some q
  cases za1 q1
  cases za1 q2
  cases q
  cases r with
  | cons r1 r=>
   cases r with
   | cons r2 r=>
    cases r
    cases za3 r1
    cases za3 r2
    exact⟨i,j,rfl,k _ F H (Ex.refl fh) (.int _)⟩⟩
theorem o_divB:OpD X (binaryOp .FloorDiv) gDivB:=⟨_,op_fdivB,semI (fun _ _ h=>h) fun _ _ _=>.int _⟩
theorem itOk_dic{B F0:Hp}{a:af}{o:Obj}{ks:List Str}{vs:List V}(h:F0 a=aa (.frz o (.dK ((ks.map bm).zip vs)))):ItOk B F0 (Itd a o ks vs) (ks.map D.str):=fun F H s1 s2 s3=>by
 have h':=s2 _ _ (s1 _ _ h)
 refine⟨⟨h',by simp⟩,fun i d e=>?_⟩
 rw[ax] at e
 by_cases hi:i<ks.length
 ·rw[aF hi] at e
  cases e
  refine⟨⟨h',hi⟩,fun x H' y=>?_⟩
  obtain⟨e',z,hz,y⟩:=y
  rw[aF hi] at hz
  cases hz
  subst e' y
  exact⟨F,Ex.refl s2,.str _⟩
 ·rw[cB (by lia)] at e;cases e
theorem iid(he:VE X e fe):VI X tg e (iD fe):=by
 obtain⟨t,w,m⟩:=he.h
 refine⟨_,⟨pi_dic w.h⟩,fun B F H σ δ ds R s q k=>?_⟩
 obtain⟨x,q1,q⟩:=bind_some q
 obtain⟨p,q2,q⟩:=map_some q
 cases q
 cases ze2 q2
 refine m B F H σ δ _ _ s q1 fun v F1 H1 x1 r1=>?_
 cases (show Rep F1 v (.dic p.1 p.2) from r1) with
 | @dic a o ks vs ds e1 hl rs=>exact⟨a,o,p.1,vs,rfl,hl,x1.fh _ _ e1,k _ F1 H1 x1 (itOk_dic e1)⟩
end
end L3

namespace L3
theorem jqa{α β:Type}(a:α)(f:α->Option β):(aa a).bind f=f a:=rfl
theorem jqb{α β:Type}(f:α->Option β):(ab:Option α).bind f=ab:=rfl
theorem jqc{α β:Type}(a:α)(f:α->β):(aa a).map f=aa (f a):=rfl
theorem jqd{α β:Type}(f:α->β):(ab:Option α).map f=ab:=rfl
theorem jqe{α:Type}{a:α}{l:List α}:(a :: l)[0]? = aa a:=rfl
theorem jqf{α:Type}{a:α}{l:List α}{i:Nat}:(a :: l)[i+1]? = l[i]?:=rfl
theorem jqg{α:Type}{a b:α}{l:List α}:(a :: l).set 0 b=b :: l:=rfl
theorem jqh{α:Type}{a b:α}{l:List α}{i:Nat}:(a :: l).set (i+1) b=a :: l.set i b:=rfl
theorem jqi{α:Type}{a:α}{l m:List α}:(a :: l) ++ m=a :: (l ++ m):=rfl
theorem jqj{α:Type}(l:List α):[] ++ l=l:=rfl
theorem jqk{α:Type}(l:List α):l ++ []=l:=bV l
theorem jqn{α β:Type}{f:α->β}{a:α}{l:List α}:(a :: l).map f=f a :: l.map f:=rfl
theorem jqo{α β:Type}{f:α->β}:([]:List α).map f=[]:=rfl
theorem jqp{α:Type}{a:α}{l:List α}:(a :: l).length=l.length+1:=rfl
theorem jqq{α:Type}:([]:List α).length=0:=rfl
theorem jqr:(false=true)=False:=bG
theorem jqt:(!true)=false:=rfl
theorem jqu:(!false)=true:=rfl
theorem jqx{α:Type}(a:Option α):(aa a).join=a:=rfl
theorem jqy{h:Decidable True}:decide True=true:=decide_true h
theorem jqz{h:Decidable False}:decide False=false:=decide_false h
theorem jra{α:Type}{_:Decidable True}(a b:α):(if True then a else b)=a:=if_true a b
theorem jrb{α:Type}{_:Decidable False}(a b:α):(if False then a else b)=b:=if_false a b
theorem jrc(p:Prop):(p \/ True)=True:=or_true p
theorem jrd(p:Prop):(True \/ p)=True:=true_or p
theorem jre(p:Prop):(p/\True)=p:=and_true p
theorem jrf(p:Prop):(True/\p)=p:=true_and p
end L3

namespace CE
open PySem L2 L3
def oD:Option Int->D
 | none=>.non
 | some i=>.int i
theorem oD_s(i:Int):oD (aa i)=.int i:=rfl
theorem oD_n:oD ab=.non:=rfl
def stp(c:Option Int)(p:Int):Option Int:=if p=0 then ab else c.map (· + p)
def lw(cs:List (Option Int)):Option Int:=minI (cs.filterMap id)
def tc(fit:Nat->Nat->Bool)(c:Nat->Nat->Option Int)(i j:Nat):Option Int:=if 0<i/\0<j then (if (fit i (j - 1) && fit (i - 1) j)=true then c (i - 1) (j - 1) else ab) else ab
structure Pr where
 put:Int
 left:Int
 exch:Int
 turn:Int
def Pr.d(p:Pr):D:=.tup [.int p.put,.int p.left,.int p.exch,.int p.turn]
variable (fit:Nat->Nat->Bool)(p:Pr)(fr:Bool)
def cel:Nat->Nat->Option Int
 | 0,0=>aa 0
 | 0,j+1=>if fr=true then aa 0 else stp (cel 0 j) p.put
 | i+1,0=>stp (cel i 0) p.left
 | i+1,j+1=>lw [if fit i j=true then cel i j else stp (cel i j) p.exch,stp (cel (i+1) j) p.put,stp (cel i (j+1)) p.left,
   stp (if 0<i/\0<j then (if (fit i (j - 1) && fit (i - 1) j)=true then cel (i - 1) (j - 1) else ab) else ab) p.turn]
termination_by i j=>(i,j)
theorem zhz:cel fit p fr 0 0=aa 0:=by rw[cel]
theorem zgK(j:Nat):cel fit p fr 0 (j+1)=if fr=true then aa 0 else stp (cel fit p fr 0 j) p.put:=by rw[cel]
theorem zit(i:Nat):cel fit p fr (i+1) 0=stp (cel fit p fr i 0) p.left:=by rw[cel]
theorem zeT(i j:Nat):cel fit p fr (i+1) (j+1)=lw [if fit i j=true then cel fit p fr i j else stp (cel fit p fr i j) p.exch,stp (cel fit p fr (i+1) j) p.put,stp (cel fit p fr i (j+1)) p.left,stp (tc fit (cel fit p fr) i j) p.turn]:=by
 rw[cel]
 rfl
end CE
namespace L3
open PySem L2
def zbQ(P:List Str)(T:List Nat)(i j:Nat):Bool:=inS (mkS [T.getD j 0]) (P.getD i (mkS []))
end L3
namespace CE
open PySem L2 L3
theorem zi1:∀ {ns:List Int} {m:Int},minI ns=aa m->m ∈ ns
 | [],m,h=>by cases h
 | n :: ns,m,h=>by
  have h':ns.foldl (fun a b=>if b<a then b else a) n=m:=bf h
  have key:∀ (ns:List Int) (n:Int),ns.foldl (fun a b=>if b<a then b else a) n=n \/ ns.foldl (fun a b=>if b<a then b else a) n ∈ ns:=by
   intro ns
   induction ns with
   | nil=>intro n;left;rfl
   | cons b ns ih=>
    intro n
    rw[cG]
    rcases ih (if b<n then b else n) with q | q
    ·rw[q]
     split
     ·right;exact aw
     ·left;rfl
    ·right;exact al _ q
  rcases key ns n with q | q
  ·rw[<- h',q];exact aw
  ·rw[<- h'];exact al _ q
theorem minI_le:∀ {ns:List Int} {c:Int},c ∈ ns->∃ m,minI ns=aa m/\m<=c
 | [],c,h=>by cases h
 | n :: ns,c,h=>by
  refine⟨_,rfl,?_⟩
  have key:∀ (ns:List Int) (n:Int),ns.foldl (fun a b=>if b<a then b else a) n<=n/\∀ c ∈ ns,ns.foldl (fun a b=>if b<a then b else a) n<=c:=by
   intro ns
   induction ns with
   | nil=>intro n;exact⟨dH _,by simp⟩
   | cons b ns ih=>
    intro n
    rw[cG]
    obtain⟨h1,h2⟩:=ih (if b<n then b else n)
    have h3:(if b<n then b else n)<=n/\(if b<n then b else n)<=b:=by split <;> lia
    refine⟨by lia,fun c hc=>?_⟩
    rcases aY.mp hc with rfl | hc
    ·lia
    ·exact h2 c hc
  rcases aY.mp h with rfl | h
  ·exact(key ns _).1
  ·exact(key ns n).2 c h
theorem zfZ{cs:List (Option Int)}{m:Int}(h:lw cs=aa m):aa m ∈ cs:=by
 have:=zi1 h
 obtain⟨x,h1,h2⟩:=dy.mp this
 have:x=aa m:=h2
 rw[<- this];exact h1
theorem zh0{cs:List (Option Int)}{c:Int}(h:aa c ∈ cs):∃ m,lw cs=aa m/\m<=c:=minI_le (dy.mpr ⟨aa c,h,rfl⟩)
theorem zbT{c:Option Int}{q m:Int}(h:stp c q=aa m):q ≠ 0/\∃ a,c=aa a/\m=a+q:=by
 unfold stp at h
 split at h
 ·cases h
 ·rename_i hq
  cases c with
  | none=>cases h
  | some a=>exact⟨hq,a,rfl,(bf h).symm⟩
theorem zfJ{a q:Int}(hq:q ≠ 0):stp (aa a) q=aa (a+q):=by unfold stp;rw[if_neg hq];rfl
inductive Ld(fit:Nat->Nat->Bool)(p:Pr)(fr:Bool):Nat->Nat->Int->Prop
 | nil:Ld fit p fr 0 0 0
 | free {j:Nat}:fr=true->Ld fit p fr 0 j 0
 | same {i j:Nat} {c:Int}:Ld fit p fr i j c->fit i j=true->Ld fit p fr (i+1) (j+1) c
 | exch {i j:Nat} {c:Int}:Ld fit p fr i j c->fit i j=false->p.exch ≠ 0->Ld fit p fr (i+1) (j+1) (c+p.exch)
 | put {i j:Nat} {c:Int}:Ld fit p fr i j c->p.put ≠ 0->Ld fit p fr i (j+1) (c+p.put)
 | left {i j:Nat} {c:Int}:Ld fit p fr i j c->p.left ≠ 0->Ld fit p fr (i+1) j (c+p.left)
 | turn {i j:Nat} {c:Int}:Ld fit p fr i j c->fit (i+1) j=true->fit i (j+1)=true->p.turn ≠ 0->Ld fit p fr (i+2) (j+2) (c+p.turn)
structure Pr.Ok(p:Pr):Prop where
 put:0<=p.put
 left:0<=p.left
 exch:0<=p.exch
 turn:0<=p.turn
variable {fit:Nat->Nat->Bool}{p:Pr}{fr:Bool}
theorem Ld.nonneg(hp:p.Ok){i j:Nat}{c:Int}(h:Ld fit p fr i j c):0<=c:=by
 have:=hp.put;have:=hp.left;have:=hp.exch;have:=hp.turn
 induction h <;> lia
theorem cel_ld:∀ (n i j:Nat),i+j=n->∀ m,cel fit p fr i j=aa m->Ld fit p fr i j m:=by
 intro n
 induction n using Nat.strongRecOn with
 | _ n ih=>
  intro i j hn m h
  cases i with
  | zero=>
   cases j with
   | zero=>rw[zhz] at h;cases h;exact .nil
   | succ j=>
    rw[zgK] at h
    split at h
    ·rename_i hf;cases h;exact .free hf
    ·obtain⟨hq,a,e1,rfl⟩:=zbT h
     exact .put (ih j (by lia) 0 j (by lia) a e1) hq
  | succ i=>
   cases j with
   | zero=>
    rw[zit] at h
    obtain⟨hq,a,e1,rfl⟩:=zbT h
    exact .left (ih i (by lia) i 0 (by lia) a e1) hq
   | succ j=>
    rw[zeT] at h
    have hm:=zfZ h
    simp only[aY,gw,or_false] at hm
    rcases hm with hm | hm | hm | hm
    ·by_cases hf:fit i j=true
     ·rw[if_pos hf] at hm;exact .same (ih (i+j) (by lia) i j rfl m hm.symm) hf
     ·rw[if_neg hf] at hm
      obtain⟨hq,a,e1,rfl⟩:=zbT hm.symm
      exact .exch (ih (i+j) (by lia) i j rfl a e1) (by simpa using hf) hq
    ·obtain⟨hq,a,e1,rfl⟩:=zbT hm.symm
     exact .put (ih (i+1+j) (by lia) (i+1) j rfl a e1) hq
    ·obtain⟨hq,a,e1,rfl⟩:=zbT hm.symm
     exact .left (ih (i+(j+1)) (by lia) i (j+1) rfl a e1) hq
    ·obtain⟨hq,a,e1,rfl⟩:=zbT hm.symm
     unfold tc at e1
     split at e1
     ·rename_i hij
      split at e1
      ·rename_i hf
       rw[cP] at hf
       obtain⟨i',rfl⟩:∃ i',i=i'+1:=⟨i - 1,by lia⟩
       obtain⟨j',rfl⟩:∃ j',j=j'+1:=⟨j - 1,by lia⟩
       simp only[em] at e1 hf
       exact .turn (ih (i'+j') (by lia) i' j' rfl a e1) hf.1 hf.2 hq
      ·cases e1
     ·cases e1
theorem ld_cel(hp:p.Ok){i j:Nat}{c:Int}(h:Ld fit p fr i j c):∃ m,cel fit p fr i j=aa m/\m<=c:=by
 have q1:=hp.put;have q2:=hp.left;have q3:=hp.exch;have q4:=hp.turn
 induction h with
 | nil=>exact⟨0,zhz ..,dH _⟩
 | @free j hf=>
  cases j with
  | zero=>exact⟨0,zhz ..,dH _⟩
  | succ j=>exact⟨0,by rw[zgK,if_pos hf],dH _⟩
 | @same i j c h hf ih=>
  obtain⟨m,e,hm⟩:=ih
  obtain⟨m',e',hm'⟩:=zh0 (cs:=[if fit i j=true then cel fit p fr i j else stp (cel fit p fr i j) p.exch,stp (cel fit p fr (i+1) j) p.put,stp (cel fit p fr i (j+1)) p.left,stp (tc fit (cel fit p fr) i j) p.turn]) (c:=m) (by rw[if_pos hf,e];simp)
  exact⟨m',by rw[zeT];exact e',by lia⟩
 | @exch i j c h hf hq ih=>
  obtain⟨m,e,hm⟩:=ih
  obtain⟨m',e',hm'⟩:=zh0 (cs:=[if fit i j=true then cel fit p fr i j else stp (cel fit p fr i j) p.exch,stp (cel fit p fr (i+1) j) p.put,stp (cel fit p fr i (j+1)) p.left,stp (tc fit (cel fit p fr) i j) p.turn]) (c:=m+p.exch) (by rw[if_neg (by rw[hf];decide),e,zfJ hq];simp)
  exact⟨m',by rw[zeT];exact e',by lia⟩
 | @put i j c h hq ih=>
  obtain⟨m,e,hm⟩:=ih
  cases i with
  | zero=>
   rw[zgK]
   cases fr with
   | true=>
    have:=Ld.nonneg hp h
    exact⟨0,rfl,by lia⟩
   | false=>exact⟨m+p.put,by rw[if_neg (by decide),e,zfJ hq],by lia⟩
  | succ i=>
   obtain⟨m',e',hm'⟩:=zh0 (cs:=[if fit i j=true then cel fit p fr i j else stp (cel fit p fr i j) p.exch,stp (cel fit p fr (i+1) j) p.put,stp (cel fit p fr i (j+1)) p.left,stp (tc fit (cel fit p fr) i j) p.turn]) (c:=m+p.put) (by rw[e,zfJ hq];simp)
   exact⟨m',by rw[zeT];exact e',by lia⟩
 | @left i j c h hq ih=>
  obtain⟨m,e,hm⟩:=ih
  cases j with
  | zero=>exact⟨m+p.left,by rw[zit,e,zfJ hq],by lia⟩
  | succ j=>
   obtain⟨m',e',hm'⟩:=zh0 (cs:=[if fit i j=true then cel fit p fr i j else stp (cel fit p fr i j) p.exch,stp (cel fit p fr (i+1) j) p.put,stp (cel fit p fr i (j+1)) p.left,stp (tc fit (cel fit p fr) i j) p.turn]) (c:=m+p.left) (by rw[e,zfJ hq];simp)
   exact⟨m',by rw[zeT];exact e',by lia⟩
 | @turn i j c h hf1 hf2 hq ih=>
  obtain⟨m,e,hm⟩:=ih
  have ht:tc fit (cel fit p fr) (i+1) (j+1)=aa m:=by
   unfold tc
   rw[if_pos ⟨by lia,by lia⟩,em,em,hf1,hf2]
   exact e
  obtain⟨m',e',hm'⟩:=zh0 (cs:=[if fit (i+1) (j+1)=true then cel fit p fr (i+1) (j+1) else stp (cel fit p fr (i+1) (j+1)) p.exch,stp (cel fit p fr (i+1+1) (j+1)) p.put,stp (cel fit p fr (i+1) (j+1+1)) p.left,stp (tc fit (cel fit p fr) (i+1) (j+1)) p.turn]) (c:=m+p.turn) (by rw[ht,zfJ hq];simp)
  exact⟨m',by rw[zeT];exact e',by lia⟩
theorem zc9(hp:p.Ok){i j:Nat}{m:Int}(h:cel fit p fr i j=aa m):Ld fit p fr i j m/\∀ c,Ld fit p fr i j c->m<=c:=
 ⟨cel_ld _ i j rfl m h,fun c hc=>by obtain⟨m',e,hm⟩:=ld_cel hp hc;rw[h] at e;cases e;exact hm⟩
theorem zf4(hp:p.Ok){i j:Nat}(h:cel fit p fr i j=ab):∀ c,¬ Ld fit p fr i j c:=fun c hc=>by
 obtain⟨m',e,_⟩:=ld_cel hp hc;rw[h] at e;cases e
theorem Ld.swap{fit':Nat->Nat->Bool}{n m:Nat}(hf:∀ i j,i<n->j<m->fit' j i=fit i j)(hpl:p.put=p.left){i j:Nat}{c:Int}(h:Ld fit p false i j c):i<=n->j<=m->Ld fit' p false j i c:=by
 induction h with
 | nil=>intro _ _;exact .nil
 | free h=>cases h
 | same h hs ih=>intro h1 h2;exact .same (ih (by lia) (by lia)) (by rw[hf _ _ (by lia) (by lia)];exact hs)
 | exch h hs hq ih=>intro h1 h2;exact .exch (ih (by lia) (by lia)) (by rw[hf _ _ (by lia) (by lia)];exact hs) hq
 | put h hq ih=>intro h1 h2;have:=Ld.left (ih (by lia) (by lia)) (by rw[<- hpl];exact hq);rwa [<- hpl] at this
 | left h hq ih=>intro h1 h2;have:=Ld.put (ih (by lia) (by lia)) (by rw[hpl];exact hq);rwa [hpl] at this
 | turn h hs1 hs2 hq ih=>intro h1 h2;exact .turn (ih (by lia) (by lia)) (by rw[hf _ _ (by lia) (by lia)];exact hs2) (by rw[hf _ _ (by lia) (by lia)];exact hs1) hq
theorem Ld.zero(hp:p.Ok){i j:Nat}{c:Int}(h:Ld fit p false i j c):c=0->i=j/\∀ a,a<i->fit a a=true:=by
 have q1:=hp.put;have q2:=hp.left;have q3:=hp.exch;have q4:=hp.turn
 induction h with
 | nil=>intro _;exact⟨rfl,fun a h=>by lia⟩
 | free h=>cases h
 | @same i j c h hs ih=>
  intro e
  obtain⟨e1,e2⟩:=ih e
  subst e1
  refine⟨rfl,fun a ha=>?_⟩
  by_cases ha':a<i
  ·exact e2 a ha'
  ·rw[show a=i by lia];exact hs
 | exch h hs hq ih=>intro e;have:=Ld.nonneg hp h;lia
 | put h hq ih=>intro e;have:=Ld.nonneg hp h;lia
 | left h hq ih=>intro e;have:=Ld.nonneg hp h;lia
 | turn h _ _ hq ih=>intro e;have:=Ld.nonneg hp h;lia
end CE
namespace CE
open PySem L2 L3
theorem inS_one(c:Nat)(z:Str):inS (mkS [c]) z=decide (c ∈ z.cps.toList):=StrLaws.found_one z c
def wP(w:List Nat):List Str:=w.map fun c=>mkS [c]
theorem wP_len(w:List Nat):(wP w).length=w.length:=by simp[wP]
theorem fit_w{w t:List Nat}{i j:Nat}(hi:i<w.length)(hj:j<t.length):zbQ (wP w) t i j=decide (t[j]=w[i]):=by
 unfold zbQ wP
 have e1:(w.map fun c=>mkS [c]).getD i (mkS [])=mkS [w[i]]:=by simp[hi]
 have e2:t.getD j 0=t[j]:=by simp[hj]
 rw[e1,e2,inS_one,zcD]
 simp
def wd(p:Pr)(w t:List Nat):Option Int:=cel (zbQ (wP w) t) p false w.length t.length
end CE
namespace CE
open PySem L2 L3
end CE
namespace PT
open PySem L2 L3
def lets:List Nat:=(ak 26).map fun i=>97+i
structure Cls(w:List Nat):Prop where
 ne:w ≠ []
 lo:∀ c ∈ w,97<=c/\c<=122
 up:w.Pairwise (·<·)
theorem Cls.len{w:List Nat}(h:Cls w):w.length<=26:=by
 have nd:w.Nodup:=h.up.imp (fun h=>bp h)
 have:∀ (n:Nat) (l:List Nat) (b:Nat),l.Pairwise (·<·)->(∀ c ∈ l,b<=c/\c<b+n)->l.length<=n:=by
  intro n
  induction n with
  | zero=>
   intro l b _ hl
   cases l with
   | nil=>simp
   | cons c l=>have:=hl c aw;lia
  | succ n ih=>
   intro l b hp hl
   cases l with
   | nil=>simp
   | cons c l=>
    have:=ih l (b+1) (km hp) (fun d hd=>by
     have h1:=List.rel_of_pairwise_cons hp hd
     have h2:=hl c aw
     have h3:=hl d (al _ hd)
     lia)
    simp only[aQ]
    lia
 exact this 26 w 97 h.up fun c hc=>by have:=h.lo c hc;lia
def wr(w:List Nat):List Nat:=if w=lets then [46] else if w.length=1 then w else 91 :: (w ++ [93])
end PT
namespace CE
open PySem L2 L3
section
variable (fit:Nat->Nat->Bool)(p:Pr)
inductive St1:Nat->Nat->Nat->Nat->Int->Prop
 | same {i j:Nat}:fit i j=true->St1 i j (i+1) (j+1) 0
 | exch {i j:Nat}:fit i j=false->p.exch ≠ 0->St1 i j (i+1) (j+1) p.exch
 | put {i j:Nat}:p.put ≠ 0->St1 i j i (j+1) p.put
 | left {i j:Nat}:p.left ≠ 0->St1 i j (i+1) j p.left
 | turn {i j:Nat}:fit (i+1) j=true->fit i (j+1)=true->p.turn ≠ 0->St1 i j (i+2) (j+2) p.turn
inductive Sg(a b:Nat):Nat->Nat->Int->Prop
 | nil:Sg a b a b 0
 | snoc {i j i' j':Nat} {c q:Int}:Sg a b i j c->St1 fit p i j i' j' q->Sg a b i' j' (c+q)
end
variable {fit fit':Nat->Nat->Bool}{p:Pr}
theorem St1.le{i j i' j':Nat}{q:Int}(h:St1 fit p i j i' j' q):i<=i'/\j<=j':=by cases h <;> lia
theorem Sg.le{a b i j:Nat}{c:Int}(h:Sg fit p a b i j c):a<=i/\b<=j:=by
 induction h with
 | nil=>lia
 | snoc _ s ih=>have:=s.le;lia
theorem Sg.cons{a b a' b' i j:Nat}{q c:Int}(s:St1 fit p a b a' b' q)(h:Sg fit p a' b' i j c):Sg fit p a b i j (c+q):=by
 induction h with
 | nil=>have:=Sg.snoc (.nil (a:=a) (b:=b)) s;rwa [et] at this ⊢
 | snoc _ s' ih=>have:=Sg.snoc ih s';rwa [Int.add_right_comm] at this
theorem Ld.sg{i j:Nat}{c:Int}(h:Ld fit p false i j c):Sg fit p 0 0 i j c:=by
 induction h with
 | nil=>exact .nil
 | free h=>cases h
 | same _ h ih=>have:=Sg.snoc ih (.same h);rwa [fq] at this
 | exch _ h q ih=>exact .snoc ih (.exch h q)
 | put _ q ih=>exact .snoc ih (.put q)
 | left _ q ih=>exact .snoc ih (.left q)
 | turn _ h1 h2 q ih=>exact .snoc ih (.turn h1 h2 q)
theorem Ld.step{fr:Bool}{i j i' j':Nat}{c q:Int}(h:Ld fit p fr i j c)(s:St1 fit p i j i' j' q):Ld fit p fr i' j' (c+q):=by
 cases s with
 | same e=>rw[fq];exact .same h e
 | exch e q=>exact .exch h e q
 | put q=>exact .put h q
 | left q=>exact .left h q
 | turn e1 e2 q=>exact .turn h e1 e2 q
theorem Sg.ld{i j:Nat}{c:Int}(h:Sg fit p 0 0 i j c):Ld fit p false i j c:=by
 induction h with
 | nil=>exact .nil
 | snoc _ s ih=>exact ih.step s
theorem Sg.ldF{b i j:Nat}{c:Int}(h:Sg fit p 0 b i j c):Ld fit p true i j c:=by
 induction h with
 | nil=>exact .free rfl
 | snoc _ s ih=>exact ih.step s
theorem Ld.sgF{i j:Nat}{c:Int}(h:Ld fit p true i j c):∃ b,b<=j/\Sg fit p 0 b i j c:=by
 induction h with
 | nil=>exact⟨0,ai _,.nil⟩
 | @free j _=>exact⟨j,ai _,.nil⟩
 | same _ h ih=>
  obtain⟨b,hb,s⟩:=ih
  have:=Sg.snoc s (.same h)
  rw[fq] at this
  exact⟨b,by lia,this⟩
 | exch _ h q ih=>obtain⟨b,hb,s⟩:=ih;exact⟨b,by lia,.snoc s (.exch h q)⟩
 | put _ q ih=>obtain⟨b,hb,s⟩:=ih;exact⟨b,by lia,.snoc s (.put q)⟩
 | left _ q ih=>obtain⟨b,hb,s⟩:=ih;exact⟨b,by lia,.snoc s (.left q)⟩
 | turn _ h1 h2 q ih=>obtain⟨b,hb,s⟩:=ih;exact⟨b,by lia,.snoc s (.turn h1 h2 q)⟩
theorem St1.rev{m e i j i' j':Nat}{q:Int}(hf:∀ x y,x<m->y<e->fit' x y=fit (m - 1 - x) (e - 1 - y))(hm:i'<=m)(he:j'<=e)(h:St1 fit p i j i' j' q):St1 fit' p (m - i') (e - j') (m - i) (e - j) q:=by
 cases h with
 | same h=>
  rw[show m - i=m - (i+1)+1 by lia,show e - j=e - (j+1)+1 by lia]
  exact .same (by rw[hf _ _ (by lia) (by lia),show m - 1 - (m - (i+1))=i by lia,show e - 1 - (e - (j+1))=j by lia];exact h)
 | exch h q=>
  rw[show m - i=m - (i+1)+1 by lia,show e - j=e - (j+1)+1 by lia]
  exact .exch (by rw[hf _ _ (by lia) (by lia),show m - 1 - (m - (i+1))=i by lia,show e - 1 - (e - (j+1))=j by lia];exact h) q
 | put q=>
  rw[show e - j=e - (j+1)+1 by lia]
  exact .put q
 | left q=>
  rw[show m - i=m - (i+1)+1 by lia]
  exact .left q
 | turn h1 h2 q=>
  rw[show m - i=m - (i+2)+2 by lia,show e - j=e - (j+2)+2 by lia]
  refine .turn ?_ ?_ q
  ·rw[hf _ _ (by lia) (by lia),show m - 1 - (m - (i+2)+1)=i by lia,show e - 1 - (e - (j+2))=j+1 by lia];exact h2
  ·rw[hf _ _ (by lia) (by lia),show m - 1 - (m - (i+2))=i+1 by lia,show e - 1 - (e - (j+2)+1)=j by lia];exact h1
theorem Sg.rev{m e a b i j:Nat}{c:Int}(hf:∀ x y,x<m->y<e->fit' x y=fit (m - 1 - x) (e - 1 - y))(h:Sg fit p a b i j c):i<=m->j<=e->Sg fit' p (m - i) (e - j) (m - a) (e - b) c:=by
 induction h with
 | nil=>intro _ _;exact .nil
 | snoc _ s ih=>
  intro hm he
  have:=s.le
  exact Sg.cons (s.rev hf hm he) (ih (by lia) (by lia))
theorem St1.shift{b0 m l i j i' j':Nat}{q:Int}(hf:∀ x y,x<m->y<l->fit' x y=fit x (b0+y))(hm:i'<=m)(he:j'<=b0+l)(hb:b0<=j)(h:St1 fit p i j i' j' q):St1 fit' p i (j - b0) i' (j' - b0) q:=by
 cases h with
 | same h=>
  rw[show j+1 - b0=j - b0+1 by lia]
  exact .same (by rw[hf _ _ (by lia) (by lia),show b0+(j - b0)=j by lia];exact h)
 | exch h q=>
  rw[show j+1 - b0=j - b0+1 by lia]
  exact .exch (by rw[hf _ _ (by lia) (by lia),show b0+(j - b0)=j by lia];exact h) q
 | put q=>rw[show j+1 - b0=j - b0+1 by lia];exact .put q
 | left q=>exact .left q
 | turn h1 h2 q=>
  rw[show j+2 - b0=j - b0+2 by lia]
  refine .turn ?_ ?_ q
  ·rw[hf _ _ (by lia) (by lia),show b0+(j - b0)=j by lia];exact h1
  ·rw[hf _ _ (by lia) (by lia),show b0+(j - b0+1)=j+1 by lia];exact h2
theorem Sg.shift{b0 m l a b i j:Nat}{c:Int}(hf:∀ x y,x<m->y<l->fit' x y=fit x (b0+y))(h:Sg fit p a b i j c):i<=m->j<=b0+l->b0<=b->Sg fit' p a (b - b0) i (j - b0) c:=by
 induction h with
 | nil=>intro _ _ _;exact .nil
 | snoc g s ih=>
  intro hm he hb
  have:=s.le
  have:=g.le
  exact .snoc (ih (by lia) (by lia) hb) (s.shift hf hm he (by lia))
theorem St1.back{b0 m l i j i' j':Nat}{q:Int}(hf:∀ x y,x<m->y<l->fit' x y=fit x (b0+y))(hm:i'<=m)(he:j'<=l)(h:St1 fit' p i j i' j' q):St1 fit p i (b0+j) i' (b0+j') q:=by
 cases h with
 | same h=>exact .same (by rw[<- hf _ _ (by lia) (by lia)];exact h)
 | exch h q=>exact .exch (by rw[<- hf _ _ (by lia) (by lia)];exact h) q
 | put q=>exact .put q
 | left q=>exact .left q
 | turn h1 h2 q=>exact .turn (by rw[<- hf _ _ (by lia) (by lia)];exact h1) (by rw[jA,<- hf _ _ (by lia) (by lia)];exact h2) q
theorem Sg.back{b0 m l a b i j:Nat}{c:Int}(hf:∀ x y,x<m->y<l->fit' x y=fit x (b0+y))(h:Sg fit' p a b i j c):i<=m->j<=l->Sg fit p a (b0+b) i (b0+j) c:=by
 induction h with
 | nil=>intro _ _;exact .nil
 | snoc _ s ih=>
  intro hm he
  have:=s.le
  exact .snoc (ih (by lia) (by lia)) (s.back hf hm he)
theorem cel_same(hp:p.Ok){i j i' j':Nat}{fr fr':Bool}(h:∀ c,Ld fit p fr i j c ↔ Ld fit' p fr' i' j' c):cel fit p fr i j=cel fit' p fr' i' j':=by
 cases h1:cel fit p fr i j with
 | none=>
  cases h2:cel fit' p fr' i' j' with
  | none=>rfl
  | some y=>exact absurd ((h y).mpr (zc9 hp h2).1) (zf4 hp h1 y)
 | some x=>
  cases h2:cel fit' p fr' i' j' with
  | none=>exact absurd ((h x).mp (zc9 hp h1).1) (zf4 hp h2 x)
  | some y=>
   have a:=(zc9 hp h1).2 y ((h y).mpr (zc9 hp h2).1)
   have b:=(zc9 hp h2).2 x ((h x).mp (zc9 hp h1).1)
   rw[show x=y by lia]
theorem rev_cel{fitR fitS:Nat->Nat->Bool}{m e l:Nat}(hp:p.Ok)(hl:l<=e)(hR:∀ x y,x<m->y<e->fitR x y=fit (m - 1 - x) (e - 1 - y))(hS:∀ x y,x<m->y<l->fitS x y=fit x (e - l+y)):cel fitR p false m l=cel fitS p false m l:=by
 refine cel_same hp fun c=>⟨fun h=>?_,fun h=>?_⟩
 ·have g:=h.sg.rev (fit':=fit) (m:=m) (e:=e) (fun x y hx hy=>by rw[hR _ _ (by lia) (by lia),show m - 1 - (m - 1 - x)=x by lia,show e - 1 - (e - 1 - y)=y by lia]) (ai _) hl
  rw[c6,dP,dP] at g
  have g':=g.shift (fit':=fitS) (b0:=e - l) (m:=m) (l:=l) hS (ai _) (by lia) (ai _)
  rw[c6,show e - (e - l)=l by lia] at g'
  exact g'.ld
 ·have g:=h.sg.back (fit:=fit) (b0:=e - l) (m:=m) (l:=l) hS (ai _) (ai _)
  rw[ej,show e - l+l=e by lia] at g
  have g':=g.rev (fit':=fitR) (m:=m) (e:=e) hR (ai _) (ai _)
  rw[c6,c6,dP,show e - (e - l)=l by lia] at g'
  exact g'.ld
theorem free_cel{fitR:Nat->Nat->Bool}{m e:Nat}(hp:p.Ok)(hR:∀ x y,x<m->y<e->fitR x y=fit (m - 1 - x) (e - 1 - y)):cel fit p true m e=lw ((ak (e+1)).map fun l=>cel fitR p false m l):=by
 have key:∀ b,b<=e->∀ c,Sg fit p 0 b m e c ↔ Ld fitR p false m (e - b) c:=fun b hb c=>by
  constructor
  ·intro g
   have g':=g.rev (fit':=fitR) (m:=m) (e:=e) hR (ai _) (ai _)
   rw[c6,c6,dP] at g'
   exact g'.ld
  ·intro g
   have g':=g.sg.rev (fit':=fit) (m:=m) (e:=e) (fun x y hx hy=>by rw[hR _ _ (by lia) (by lia),show m - 1 - (m - 1 - x)=x by lia,show e - 1 - (e - 1 - y)=y by lia]) (ai _) (by lia)
   rwa [c6,dP,dP,show e - (e - b)=b by lia] at g'
 cases h1:cel fit p true m e with
 | none=>
  cases h2:lw ((ak (e+1)).map fun l=>cel fitR p false m l) with
  | none=>rfl
  | some y=>
   obtain⟨l,hl,e2⟩:=bJ.mp (zfZ h2)
   have hl':l<=e:=by have:=bK.mp hl;lia
   have g:=(key (e - l) (by lia) y).mpr (by rw[show e - (e - l)=l by lia];exact(zc9 hp e2).1)
   exact absurd g.ldF (zf4 hp h1 y)
 | some x=>
  obtain⟨b,hb,g⟩:=(zc9 hp h1).1.sgF
  obtain⟨y,e2,hy⟩:=ld_cel hp ((key b hb x).mp g)
  obtain⟨z,h2,hz⟩:=zh0 (cs:=(ak (e+1)).map fun l=>cel fitR p false m l) (c:=y) (bJ.mpr ⟨e - b,bK.mpr (by lia),e2⟩)
  obtain⟨l,hl,e3⟩:=bJ.mp (zfZ h2)
  have hl':l<=e:=by have:=bK.mp hl;lia
  have g3:=(key (e - l) (by lia) z).mpr (by rw[show e - (e - l)=l by lia];exact(zc9 hp e3).1)
  have:=(zc9 hp h1).2 z g3.ldF
  rw[h2,show x=z by lia]
end CE
namespace CE
open PySem L2 L3
def pl:Pr:=⟨1,1,1,0⟩
theorem pl_ok:pl.Ok:=⟨by decide,by decide,by decide,by decide⟩
section
variable {fit:Nat->Nat->Bool}
theorem St1.pl{i j i' j':Nat}{q:Int}(h:St1 fit pl i j i' j' q):(i'=i+1/\j'=j+1/\q=0/\fit i j=true) \/ (q=1/\((i'=i+1/\j'=j+1) \/ (i'=i/\j'=j+1) \/ (i'=i+1/\j'=j))):=by
 cases h with
 | same h=>exact .inl ⟨rfl,rfl,rfl,h⟩
 | exch _ _=>exact .inr ⟨rfl,.inl ⟨rfl,rfl⟩⟩
 | put _=>exact .inr ⟨rfl,.inr (.inl ⟨rfl,rfl⟩)⟩
 | left _=>exact .inr ⟨rfl,.inr (.inr ⟨rfl,rfl⟩)⟩
 | turn _ _ h=>exact absurd rfl h
theorem Sg.dist{a b i j:Nat}{c:Int}(h:Sg fit pl a b i j c):0<=c/\((j:Int) - b) - ((i:Int) - a)<=c/\((i:Int) - a) - ((j:Int) - b)<=c:=by
 induction h with
 | nil=>lia
 | snoc _ s ih=>rcases s.pl with ⟨rfl,rfl,rfl,_⟩ | ⟨rfl,⟨rfl,rfl⟩ | ⟨rfl,rfl⟩ | ⟨rfl,rfl⟩⟩ <;> lia
theorem Sg.cut{a b i j:Nat}{c:Int}(h:Sg fit pl a b i j c):∀ k,a<=k->k<=i->∃ y c1 c2,Sg fit pl a b k y c1/\Sg fit pl k y i j c2/\c=c1+c2:=by
 induction h with
 | nil=>
  intro k h1 h2
  have:k=a:=by lia
  subst this
  exact⟨b,0,0,.nil,.nil,rfl⟩
 | @snoc i j i' j' c q h s ih=>
  intro k h1 h2
  by_cases hk:k<=i
  ·obtain⟨y,c1,c2,e1,e2,e3⟩:=ih k h1 hk
   exact⟨y,c1,c2+q,e1,.snoc e2 s,by lia⟩
  ·have hk':k=i':=by rcases s.pl with ⟨rfl,rfl,rfl,_⟩ | ⟨rfl,⟨rfl,rfl⟩ | ⟨rfl,rfl⟩ | ⟨rfl,rfl⟩⟩ <;> lia
   subst hk'
   exact⟨j',c+q,0,.snoc h s,.nil,by lia⟩
theorem Sg.whole{a b i j:Nat}{c:Int}(h:Sg fit pl a b i j c):c=0->i - a=j - b/\∀ x,a+x<i->fit (a+x) (b+x)=true:=by
 induction h with
 | nil=>intro _;exact⟨by lia,fun x hx=>by lia⟩
 | @snoc i j i' j' c q h s ih=>
  intro hc
  have hd:=h.dist
  have hl:=h.le
  rcases s.pl with ⟨rfl,rfl,rfl,hf⟩ | ⟨rfl,_⟩
  ·obtain⟨e1,e2⟩:=ih (by lia)
   refine⟨by lia,fun x hx=>?_⟩
   by_cases hx':a+x<i
   ·exact e2 x hx'
   ·have:x=i - a:=by lia
    subst this
    rw[show a+(i - a)=i by lia,show b+(i - a)=j by lia]
    exact hf
  ·lia
theorem Sg.part{i j:Nat}{pt:Nat->Nat}(hm:∀ r,pt r<=pt (r+1)):∀ (n:Nat) {b:Nat} {c:Int} (r0:Nat),Sg fit pl (pt r0) b i j c->c<n->pt (r0+n)=i ->
  ∃ r y,r0<=r/\r<r0+n/\(∃ c1 c2,Sg fit pl (pt r0) b (pt r) y c1/\Sg fit pl (pt r) y i j c2/\c=c1+c2)/\∀ x,pt r+x<pt (r+1)->fit (pt r+x) (y+x)=true/\y+x<j
 | 0,b,c,r0,h,hc,_=>by have:=h.dist;lia
 | n+1,b,c,r0,h,hc,he=>by
  have up:∀ k s,pt s<=pt (s+k):=fun k=>by
   induction k with
   | zero=>intro s;exact ai _
   | succ k ih=>intro s;exact aL (ih s) (hm _)
  have u1:pt (r0+1)<=i:=by have:=up n (r0+1);rw[show r0+1+n=r0+(n+1) by lia,he] at this;exact this
  obtain⟨y,c1,c2,e1,e2,e3⟩:=h.cut (pt (r0+1)) (hm r0) u1
  by_cases hz:c1=0
  ·obtain⟨w1,w2⟩:=e1.whole hz
   have l1:=e1.le
   have l2:=e2.le
   refine⟨r0,b,ai _,by lia,⟨0,c,.nil,h,by lia⟩,fun x hx=>⟨w2 x hx,by lia⟩⟩
  ·have d1:=e1.dist
   obtain⟨r,z,h1,h2,⟨d1,d2,g1,g2,g3⟩,h4⟩:=Sg.part hm n (r0+1) e2 (by lia) (by rw[show r0+1+n=r0+(n+1) by lia];exact he)
   refine⟨r,z,by lia,by lia,⟨c1+d1,d2,?_,g2,by lia⟩,h4⟩
   clear h4 g2 h1 h2 e2 h
   have app:∀ {a b i j i' j':Nat} {c d:Int},Sg fit pl a b i j c->Sg fit pl i j i' j' d->Sg fit pl a b i' j' (c+d):=by
    intro a b i j i' j' c d p q
    induction q with
    | nil=>rw[fq];exact p
    | snoc _ s ih=>rw[<- Int.add_assoc];exact .snoc ih s
   exact app e1 g1
end
def pcsL(q:Nat)(t:Nat->Nat)(lo hi:Nat):List (List Nat):=(ak (hi - lo+1 - q)).map fun p=>(ak q).map fun x=>t (lo+p+x)
theorem zfd{q:Nat}{t:Nat->Nat}{lo hi:Nat}(h:lo+q<=hi+1)(hl:lo<=hi):pcsL q t lo (hi+1)=pcsL q t lo hi ++ [(ak q).map fun x=>t (hi+1 - q+x)]:=by
 unfold pcsL
 rw[show hi+1 - lo+1 - q=(hi - lo+1 - q)+1 by lia,ce,bW]
 congr 1
 rw[List.map_singleton]
 congr 1
 refine bL fun x _=>?_
 rw[show lo+(hi - lo+1 - q)=hi+1 - q by lia]
theorem zdL{q:Nat}{t:Nat->Nat}{lo hi:Nat}(hl:lo<=hi)(hq:1<=q):(pcsL q t lo hi).Sublist (pcsL q t lo (hi+1)):=by
 by_cases h:lo+q<=hi+1
 ·rw[zfd h hl];exact List.sublist_append_left _ _
 ·unfold pcsL
  rw[show hi+1 - lo+1 - q=0 by lia,show hi - lo+1 - q=0 by lia]
  exact .refl _
theorem Sg.pieces{q lo:Nat}{w t:Nat->Nat}(hq:1<=q){b i j:Nat}{c:Int}(h:Sg (fun i j=>decide (t j=w i)) pl 0 b i j c)(hb:lo<=b) :
  ∃ (G:List (List Nat)) (r:Nat),G.Sublist (pcsL q w 0 i)/\G.Sublist (pcsL q t lo j)/\r<=i/\b+r<=j/\(∀ x,x<r->t (j - 1 - x)=w (i - 1 - x))/\(i:Int) - c * q - (min r (q - 1):Nat)<=(G.length:Int):=by
 induction h with
 | nil=>exact⟨[],0,i9 _,i9 _,ai _,ai _,fun x hx=>by lia,by simp⟩
 | @snoc i j i' j' c q' h s ih=>
  obtain⟨G,r,g1,g2,r1,r2,r3,g3⟩:=ih
  have hl:=h.le
  rcases s.pl with ⟨rfl,rfl,rfl,hf⟩ | ⟨rfl,hs⟩
  ·have hf':t j=w i:=of_decide_eq_true hf
   have run:∀ x,x<r+1->t (j+1 - 1 - x)=w (i+1 - 1 - x):=fun x hx=>by
    cases x with
    | zero=>exact hf'
    | succ x=>rw[show j+1 - 1 - (x+1)=j - 1 - x by lia,show i+1 - 1 - (x+1)=i - 1 - x by lia];exact r3 x (by lia)
   rw[fq]
   by_cases hr:q<=r+1
   ·refine⟨G ++ [(ak q).map fun x=>w (i+1 - q+x)],r+1,?_,?_,by lia,by lia,run,?_⟩
    ·rw[zfd (by lia) (aS _)]
     exact g1.append (.refl _)
    ·rw[zfd (by lia) (by lia)]
     refine g2.append ?_
     have:((ak q).map fun x=>w (i+1 - q+x))=(ak q).map fun x=>t (j+1 - q+x):=bL fun x hx=>by
      have hx':=bK.mp hx
      have:=run (q - 1 - x) (by lia)
      rw[show j+1 - 1 - (q - 1 - x)=j+1 - q+x by lia,show i+1 - 1 - (q - 1 - x)=i+1 - q+x by lia] at this
      exact this.symm
     rw[this]
     exact .refl _
    ·rw[aP,cA]
     have e1:min r (q - 1)=q - 1:=by lia
     have e2:min (r+1) (q - 1)=q - 1:=by lia
     rw[e1] at g3
     rw[e2]
     lia
   ·refine⟨G,r+1,g1.trans (zdL (aS _) hq),g2.trans (zdL (by lia) hq),by lia,by lia,run,?_⟩
    have e1:min r (q - 1)=r:=by lia
    have e2:min (r+1) (q - 1)=r+1:=by lia
    rw[e1] at g3
    rw[e2]
    lia
  ·have hc:(c+1) * (q:Int)=c * q+q:=by rw[Int.add_mul,Int.one_mul]
   have e0:min 0 (q - 1)=0:=by lia
   have e1:min r (q - 1)<=q - 1:=by lia
   rcases hs with ⟨rfl,rfl⟩ | ⟨rfl,rfl⟩ | ⟨rfl,rfl⟩
   ·exact⟨G,0,g1.trans (zdL (aS _) hq),g2.trans (zdL (by lia) hq),by lia,by lia,fun x hx=>by lia,by rw[hc,e0];lia⟩
   ·exact⟨G,0,g1,g2.trans (zdL (by lia) hq),by lia,by lia,fun x hx=>by lia,by rw[hc,e0];lia⟩
   ·exact⟨G,0,g1.trans (zdL (aS _) hq),g2,by lia,by lia,fun x hx=>by lia,by rw[hc,e0];lia⟩
end CE
namespace L3
open PySem L2
theorem zge{f g:FS}{δ δ':En}{e:Ent}(h:f δ=aa (.rt e δ')):zau f g δ=aa (.rt e δ'):=by unfold zau;rw[h];rfl
theorem zdu{fe:FE}{δ:En}{d:D}(h:fe δ=aa (.val d)):zbB fe δ=aa (.rt (.val d) δ):=by unfold zbB;rw[h];rfl
theorem eAndI{e f:FE}{δ:En}{a b:Bool}(h1:e δ=aa (.val (.bl a)))(h2:f δ=aa (.val (.bl b))):eAnd e f δ=aa (.val (.bl (a && b))):=by
 cases a <;> simp only[eAnd,h1,jqa,bOf,h2,jqr,jrb,eu,jra,jB]
theorem zaP{i:Nat}{e:FE}{r:FS}{δ:En}{v:D}(h:e δ=aa (.val v)):zau (zbE i e) r δ=r (δ.set i (aa (.val v))):=by
 simp only[zau,zbE,h,aT,sqO,stE,toN,cz]
theorem orNot{X Y:FE}{δ:En}{a b:Bool}(hX:X δ=aa (.val (.bl a)))(hY:Y δ=aa (.val (.bl b))):fOr (fNot (tOf X)) (fNot (tOf Y)) δ=aa (!(a && b)):=by
 cases a <;> simp only[fOr,fNot,tOf,hX,jqa,bOf,jqc,jqu,hY,jra,eu,jqt,jqr,jrb,jB]
theorem orNeg{X Y:FE}{δ:En}{a b:Int}(hX:X δ=aa (.val (.int a)))(hY:Y δ=aa (.val (.int b))):fOr (tOf (ex2 gLt X (eC (.int 0)))) (tOf (ex2 gLt Y (eC (.int 0)))) δ=aa (decide (a<0 \/ b<0)):=by
 by_cases c1:a<0
 ·simp only[fOr,tOf,ex2,hX,eC,gLt,pI0,iOf,jqa,jqc,c1,jqy,bOf,jra,jrd]
 ·by_cases c2:b<0 <;> simp only[fOr,tOf,ex2,hX,eC,gLt,pI0,iOf,jqa,jqc,c1,jqz,bOf,hY,c2,jqy,jqr,jrb,jrc,or_self]
theorem zeI{i:Nat}{e:FE}{δ:En}{v:D}(h:e δ=aa (.val v)):zbE i e δ=aa (.nx (δ.set i (aa (.val v)))):=by unfold zbE;rw[h];rfl
theorem zhn{E F:FE}{δ:En}{a b:Int}(h1:E δ=aa (.val (.int a)))(h2:F δ=aa (.val (.int b))):ex2 zbg E F δ=aa (.val (.int (a+b))):=by simp only[ex2,h1,h2,zbg,pI0,iOf,jqa,jqc]
theorem lenT{E:FE}{δ:En}{ds:List D}{n:Nat}(h:E δ=aa (.val (.tup ds)))(hn:ds.length=n):eCB zb1 (zaa E zae) δ=aa (.val (.int (n:Int))):=by subst hn;simp only[eCB,zaa,h,zae,jqc,jqa,zb1,zei]
theorem zhK{E:FE}{δ:En}{z:Str}{n:Nat}(h:E δ=aa (.val (.str z)))(hn:z.length=n)(hl:n<=1000000):eCB za9 (zaa E zae) δ=aa (.val (.int (n:Int))):=by subst hn;simp only[eCB,zaa,h,zae,jqc,jqa,za9,sOf,hl,zaO,zaf]
theorem forN{it:FI}{tg:FG}{f r:FS}{δ δ':En}{ds:List D}(h:it δ=aa ds)(hl:loop tg f ds δ=aa (.nx δ')):zau (zez it tg f) r δ=r δ':=zaU (by unfold zez;rw[h];exact hl)
theorem forR{it:FI}{tg:FG}{f r:FS}{δ δ':En}{ds:List D}{e:Ent}(h:it δ=aa ds)(hl:loop tg f ds δ=aa (.rt e δ')):zau (zez it tg f) r δ=aa (.rt e δ'):=zge (by unfold zez;rw[h];exact hl)
theorem zg1{E F:FE}{δ:En}{a b:Int}(h1:E δ=aa (.val (.int a)))(h2:F δ=aa (.val (.int b))):ex2 zdO E F δ=aa (.val (.int (a - b))):=by simp only[ex2,h1,h2,zdO,pI0,iOf,jqa,jqc]
theorem zhN{i:Nat}{e:FE}{δ:En}{ds:List D}{v:D}(h0:δ[i]? = aa (aa (.own ds)))(h:e δ=aa (.val v))(hl:ds.length<1000000):zgF i e δ=aa (.nx (δ.set i (aa (.own (ds ++ [v]))))):=by
 unfold zgF;rw[h0,h];simp (disch:=omega) only[jqa,asV,zaO,zaf]
theorem orGt{X Y:FE}{δ:En}{a b:Int}(hX:X δ=aa (.val (.int a)))(hY:Y δ=aa (.val (.int b))):fOr (tOf (ex2 gGt X (eC (.int 0)))) (tOf (ex2 gGt Y (eC (.int 0)))) δ=aa (decide (a > 0 \/ b > 0)):=by
 by_cases c1:a > 0
 ·simp only[fOr,tOf,ex2,hX,eC,gGt,pI0,iOf,jqa,jqc,c1,jqy,bOf,jra,jrd]
 ·by_cases c2:b > 0 <;> simp only[fOr,tOf,ex2,hX,eC,gGt,pI0,iOf,jqa,jqc,c1,jqz,bOf,hY,c2,jqy,jqr,jrb,jrc,or_self]
theorem zfP{E F:FE}{δ:En}{a b:Int}(h1:E δ=aa (.val (.int a)))(h2:F δ=aa (.val (.int b)))(hb:0<b):ex2 zbF E F δ=aa (.val (.int (a % b))):=by simp (disch:=omega) only[ex2,h1,h2,zbF,pI,iOf,jqa,zdm,zaf]
theorem zf3{E F:FE}{δ:En}{a b:Int}(h1:E δ=aa (.val (.int a)))(h2:F δ=aa (.val (.int b)))(hb:0<b/\b<1000000):ex2 zcQ E F δ=aa (.val (.int (a / b))):=by simp (disch:=omega) only[ex2,h1,h2,zcQ,pI,iOf,jqa,zgu,zaf]
theorem eqTT{E F:FE}{δ:En}{a b:Int}(h1:E δ=aa (.val (.int a)))(h2:F δ=aa (.val (.int b))):tOf (ex2 gEq E F) δ=aa (decide (a=b)):=by by_cases e:a=b <;> simp only[tOf,ex2,h1,e,h2,gEq,zic,jqa,jqy,jqc,bOf,jqz]
theorem ixLB{E F:FE}{δ:En}{ds:List D}{a:Int}{v:D}(h1:E δ=aa (.bor ds))(h2:F δ=aa (.val (.int a)))(h:atI ds a=aa v):ex2 zda E F δ=aa (.val v):=by simp only[ex2,h1,h2,zda,asL,iOf,jqa,h,jqc]
theorem ixLO{E F:FE}{δ:En}{ds:List D}{a:Int}{v:D}(h1:E δ=aa (.own ds))(h2:F δ=aa (.val (.int a)))(h:atI ds a=aa v):ex2 zda E F δ=aa (.val v):=by simp only[ex2,h1,h2,zda,asL,iOf,jqa,h,jqc]
theorem orLt{X Y:FE}{δ:En}{a b c:Int}(hX:X δ=aa (.val (.int a)))(hY:Y δ=aa (.val (.int b))):fOr (tOf (ex2 gLt X (eC (.int c)))) (tOf (ex2 gLt Y (eC (.int c)))) δ=aa (decide (a<c \/ b<c)):=by
 by_cases c1:a<c
 ·simp only[fOr,tOf,ex2,hX,eC,gLt,pI0,iOf,jqa,jqc,c1,jqy,bOf,jra,jrd]
 ·by_cases c2:b<c <;> simp only[fOr,tOf,ex2,hX,eC,gLt,pI0,iOf,jqa,jqc,c1,jqz,bOf,hY,c2,jqy,jqr,jrb,jrc,or_self]
theorem orB{X Y:FE}{δ:En}{a b:Bool}(hX:X δ=aa (.val (.bl a)))(hY:Y δ=aa (.val (.bl b))):fOr (tOf X) (tOf Y) δ=aa (a || b):=by
 cases a <;> simp only[fOr,tOf,hX,jqa,bOf,hY,jqr,jrb,Bool.false_or,jra,Bool.true_or]
theorem ixTT{E F:FE}{δ:En}{ds:List D}{a:Int}{v:D}(h1:E δ=aa (.val (.tup ds)))(h2:F δ=aa (.val (.int a)))(h:atI ds a=aa v):ex2 zcu E F δ=aa (.val v):=by simp only[ex2,h1,h2,zcu,zei,iOf,jqa,h,jqc]
theorem ixSS{E F:FE}{δ:En}{tx:List Nat}{a:Int}{t:Nat}(h1:E δ=aa (.val (.str (mkS tx))))(hl:tx.length<=1000000)(h2:F δ=aa (.val (.int a)))(h:atI tx a=aa t):ex2 zhJ E F δ=aa (.val (.str (mkS [t]))):=by simp only[ex2,h1,h2,zhJ,sOf,iOf,jqa,zat,hl,zaO,zcD,h,jqc,zaf]
theorem inSS{E F:FE}{δ:En}{z w:Str}(h1:E δ=aa (.val (.str z)))(h2:F δ=aa (.val (.str w))):ex2 gInS E F δ=aa (.val (.bl (inS z w))):=by simp only[ex2,h1,h2,gInS,sOf,jqa,jqc]
theorem niSS{E F:FE}{δ:En}{z w:Str}(h1:E δ=aa (.val (.str z)))(h2:F δ=aa (.val (.str w))):ex2 gNiS E F δ=aa (.val (.bl (!inS z w))):=by simp only[ex2,h1,h2,gNiS,sOf,jqa,jqc]
theorem low4{A B C E:FE}{δ:En}{a b c d:D}{g:List D->Option Ent}(hA:A δ=aa (.val a))(hB:B δ=aa (.val b))(hC:C δ=aa (.val c))(hE:E δ=aa (.val d)):zah [.v] g (zaa (zcH (zaa A (zaa B (zaa C (zaa E zae))))) zae) δ=g [.lst [a,b,c,d]]:=by simp only[zah,zaa,zcH,hA,hB,hC,hE,zae,jqc,jqa,jqp,jqq,Nat.reduceLeDiff,zey,asV,jra,zbf,zcG]
theorem zfw{X Y:FE}{δ:En}{a b:D}{g:List D->Option Ent}(hX:X δ=aa (.val a))(hY:Y δ=aa (.val b)):zah [.v,.v] g (zaa X (zaa Y zae)) δ=g [a,b]:=by
 unfold zah zaa zae;rw[hX];simp only[aT];rw[hY];rfl
theorem eIfI{A B C:FE}{δ:En}{q:Bool}{a b:D}(hA:A δ=aa (.val (.bl q)))(hB:B δ=aa (.val a))(hC:C δ=aa (.val b)):eIf (tOf A) B C δ=aa (.val (if q=true then a else b)):=by
 cases q <;> simp only[eIf,tOf,hA,jqa,bOf,hB,hC,jqr,jrb,jra]
theorem zhm{i:Nat}{e:FE}{δ:En}{ds:List D}(h:e δ=aa (.own ds)):zbE i e δ=aa (.nx (δ.set i (aa (.own ds)))):=by unfold zbE;rw[h];rfl
theorem ixLW{E F:FE}{δ:En}{ds:List D}{a:Int}{v:D}(h1:E δ=aa (.vw ds))(h2:F δ=aa (.val (.int a)))(h:atI ds a=aa v):ex2 zda E F δ=aa (.val v):=by simp only[ex2,h1,h2,zda,asL,iOf,jqa,h,jqc]
theorem eLst1{E:FE}{δ:En}{v:D}(h:E δ=aa (.val v)):zcH (zaa E zae) δ=aa (.own [v]):=by unfold zcH zaa zae;rw[h];rfl
end L3

namespace N44
open PySem L2 L3 PyProof.Rows
noncomputable section
def zdd:FE:=
  (zab 0)
def zcs:FT:=
  (tOf (ex2 gEq (eSl zex (zab 2) (oSo (zab 0)) (oSo (ex2 zbg (zab 0) (eCB za9 (zaa (zab 1) zae))))) (zab 1)))
def zd7:FS:=
  (zbB (eLC [0,1] (iR1 (zaa (ex2 zbg (ex2 zdO (eCB za9 (zaa (zab 1) zae)) (eCB za9 (zaa (zab 0) zae))) (eC (.int 1))) zae)) zcs zdd))
def zcp:List D->Option Ent:=zcL [.v,.v] 0 zd7
def zc4:FE:=
  (zeR (zaa (eCB gMax2 (zaa (ex2 zdO (ex2 zdO (zab 0) (eCB za9 (zaa (zab 2) zae))) (zab 1)) (zaa (eC (.int 0)) zae))) (zaa (zab 0) zae)))
def zfn:FS:=
  (zbB (eLC [1,0] (iR1 (zaa (ex2 zbg (eCB za9 (zaa (zab 2) zae)) (eC (.int 1))) zae)) zdT zc4))
def zeq:List D->Option Ent:=zcL [.v,.v,.v] 0 zfn
def zbj:FS:=
  (zau (zbE 4 (eSl zex (zab 0) (oSo (zab 3)) (oSo (ex2 zbg (zab 3) (zab 1)))))
   (fDput 2 (zab 4) (ex2 zbg (eDget 2 (zaa (zab 4) (zaa (eC (.int 0)) zae))) (eC (.int 1)))))
def zbU:FS:=
  (zau (fSetO 2 eD0)
   (zau (zez (iR1 (zaa (ex2 zbg (ex2 zdO (eCB za9 (zaa (zab 0) zae)) (zab 1)) (eC (.int 1))) zae)) (gNm 3) zbj)
   (fFrzD 2 (zhR 2))))
def zaH:List D->Option Ent:=zcL [.v,.v] 3 zbU
def zaD:FE:=
  (eCB zjx (zaa (ex2 gDx (zab 1) (zab 0)) (zaa (eBM gGet (zab 2) (zaa (zab 0) (zaa (eC (.int 0)) zae))) zae)))
def zcZ:FS:=
  (zbB (eCB gSum (zaa (eLC [0,1] (iD (zab 0)) zdT zaD) zae)))
def zbG:List D->Option Ent:=zcL [.v,.v] 0 zcZ
def zfz:FS:=
  (fIf (fAnd (tOf (ex2 gGt (eCB zb1 (zaa (zab 1) zae)) (eC (.int 0)))) (tOf (ex2 gLe (zab 2) (ex2 zcu (ex2 zda (zab 1) (ex1 zeV (eC (.int 1)))) (eC (.int 1)))))) (fSIx 1 (ex1 zeV (eC (.int 1))) (zeR (zaa (ex2 zcu (ex2 zda (zab 1) (ex1 zeV (eC (.int 1)))) (eC (.int 0))) (zaa (eCB gMax2 (zaa (ex2 zcu (ex2 zda (zab 1) (ex1 zeV (eC (.int 1)))) (eC (.int 1))) (zaa (zab 3) zae))) zae)))) (zgF 1 (zeR (zaa (zab 2) (zaa (zab 3) zae)))))
def ze4:FS:=
  (zau (zbE 1 (zcH zae))
   (zau (zez (iL (eCB gSrtG (zaa (zab 0) zae))) (gTp (za2 (gNm 2) (za2 (gNm 3) zd8))) zfz)
   (zbB (eCB zeC (zaa (zab 1) zae)))))
def zdM:List D->Option Ent:=zcL [.b] 3 ze4
def zcT:FE:=
  (ex2 zcu (zab 0) (zab 1))
def zdB:FS:=
  (zbB (eCB zeC (zaa (eLC [1] (iB 0) zdT zcT) zae)))
def zcx:List D->Option Ent:=zcL [.b,.v] 0 zdB
def zaS:FS:=
  (zau (fIf (fOr (tOf (ex2 gLt (zab 3) (eC (.int 2)))) (tOf (ex2 gLt (eCB za9 (zaa (zab 2) zae)) (eC (.int 2))))) (zbB (eC .non)) fNx)
   (zau (fIf (fOr (tOf (ex2 gNiS (ex2 zhJ (zab 2) (ex1 zeV (eC (.int 2)))) (ex2 zcu (zab 1) (ex2 zdO (zab 3) (eC (.int 1)))))) (tOf (ex2 gNiS (ex2 zhJ (zab 2) (ex1 zeV (eC (.int 1)))) (ex2 zcu (zab 1) (ex2 zdO (zab 3) (eC (.int 2))))))) (zbB (eC .non)) fNx)
   (zbB (ex2 zcu (ex2 zda (zab 0) (ex1 zeV (eC (.int 2)))) (ex2 zdO (zab 3) (eC (.int 2)))))))
def zaT:List D->Option Ent:=zcL [.b,.v,.v,.v] 0 zaS
def zdA:FS:=
  (zau (fIf (fOr (tOf (ex2 zjH (zab 0) (eC .non))) (tOf (ex2 gEq (zab 1) (eC (.int 0))))) (zbB (eC .non)) fNx)
   (zbB (ex2 zbg (zab 0) (zab 1))))
def zbl:List D->Option Ent:=zcL [.v,.v] 0 zdA
def zeb:FE:=
  (zab 0)
def zed:FT:=
  (tOf (ex2 gNoN (zab 0) (eC .non)))
def zgr:FS:=
  (zbB (ex2 gMinD (eLC [] (qV (zab 0)) zed zeb) (eC .non)))
def zcN:List D->Option Ent:=zcL [.v] 0 zgr
def zcV:FS:=
  (zau (fIf (fOr (tOf (ex2 gGt (ex2 zbg (zab 2) (ex1 (zjF [("same",1),("exchanged",1),("put",0),("left",1),("turned",2)]) (zab 4))) (eCB zb1 (zaa (zab 0) zae)))) (tOf (ex2 gGt (ex2 zbg (zab 3) (ex1 (zjF [("same",1),("exchanged",1),("put",1),("left",0),("turned",2)]) (zab 4))) (eCB za9 (zaa (zab 1) zae))))) (zbB (eC (.bl false))) fNx)
   (zau (fIf (tOf (ex2 gEq (zab 4) (eC (.str "same")))) (zbB (ex2 gInS (ex2 zhJ (zab 1) (zab 3)) (ex2 zcu (zab 0) (zab 2)))) fNx)
   (zau (fIf (tOf (ex2 gEq (zab 4) (eC (.str "exchanged")))) (zbB (ex2 gNiS (ex2 zhJ (zab 1) (zab 3)) (ex2 zcu (zab 0) (zab 2)))) fNx)
   (zau (fIf (tOf (ex2 gEq (zab 4) (eC (.str "turned")))) (zbB (eAnd (ex2 gInS (ex2 zhJ (zab 1) (zab 3)) (ex2 zcu (zab 0) (ex2 zbg (zab 2) (eC (.int 1))))) (ex2 gInS (ex2 zhJ (zab 1) (ex2 zbg (zab 3) (eC (.int 1)))) (ex2 zcu (zab 0) (zab 2))))) fNx)
   (zbB (eC (.bl true)))))))
def zco:List D->Option Ent:=zcL [.v,.v,.v,.v,.v] 0 zcV
def zeP:FS:=
  (zau (fIf (tOf (ex2 gEq (zab 1) (eC (.str "same")))) (zbB (eC (.int 0))) fNx)
   (zbB (ex2 zcu (zab 0) (ex1 (zjF [("put",0),("left",1),("exchanged",2),("turned",3)]) (zab 1)))))
def zbN:List D->Option Ent:=zcL [.v,.v] 0 zeP
def zdC:FS:=
  (zbB (eCB gTupS (zaa (zab 0) zae)))
def zcd:List D->Option Ent:=zcL [.v] 0 zdC
def zbY:FE:=
  (ex2 zd0 (zab 0) (eCB zcO (zaa (ex2 gGe (zab 0) (ex2 gPow (eC (.int 10)) (eC (.int 18)))) zae)))
def zbZ:FS:=
  (zau (zbE 6 (ex2 zbF (zab 5) (eCB zb1 (zaa (zab 2) zae))))
   (zau (zbE 7 (ex2 zbg (ex2 zd0 (ex2 zbF (ex2 zbg (ex2 zbg (ex2 zda (zab 2) (zab 6)) (ex2 zd0 (ex2 zd0 (zab 5) (zab 5)) (eC (.int 16807)))) (ex2 zd0 (eC (.int 3)) (zab 5))) (eC (.int 2147483629))) (ex2 zda (zcH (zaa (eC (.int 48271)) (zaa (eC (.int 69621)) (zaa (eC (.int 39373)) (zaa (eC (.int 16807)) zae))))) (ex2 zbF (zab 5) (eC (.int 4))))) (eC (.int 7))))
   (zau (zgF 4 (ex2 zda (zcH (zaa (ex2 zbF (ex2 zd0 (zab 7) (zab 7)) (eC (.int 2147483629))) (zaa (ex2 zbF (ex2 zda (zab 3) (zab 6)) (ex2 gPow (eC (.int 10)) (eC (.int 18)))) zae))) (eCB zcO (zaa (ex2 gNe (ex2 zda (zab 3) (zab 6)) (eC (.int 0))) zae))))
   (fSIx 3 (zab 6) (ex2 gDivB (ex2 zda (zab 3) (zab 6)) (ex2 gPow (eC (.int 10)) (eC (.int 18))))))))
def zdq:FS:=
  (zau (zbE 2 (ex2 gCat (eCB zfY (zaa (zab 0) zae)) (ex2 gRep (zcH (zaa (eC (.int 0)) zae)) (eCB zcO (zaa (ex2 gEq (eCB zb1 (zaa (zab 0) zae)) (eC (.int 0))) zae)))))
   (fFrz 2 (zau (zbE 3 (eLC [] (iL (zab 2)) zdT zbY))
   (zau (zbE 4 (zcH zae))
   (zau (zez (iR1 (zaa (zab 1) zae)) (gNm 5) zbZ)
   (zbB (ex1 gLstRev (zab 4))))))))
def zcn:List D->Option Ent:=zcL [.b,.v] 6 zdq
def zea:FS:=
  (zbB (ex2 zhJ (eC (.str "abcdefghijklmnopqrstuvwxyz")) (ex2 zbF (ex2 zbg (zab 0) (ex2 zd0 (zab 1) (ex2 zbg (eC (.int 1)) (ex2 zbF (ex2 zcQ (zab 0) (eC (.int 26))) (eC (.int 8)))))) (eC (.int 26)))))
def zav:List D->Option Ent:=zcL [.v,.v] 0 zea
def zaJ:FS:=
  (fIf (fAnd (tOf (ex2 gLe (zab 3) (zab 0))) (tOf (ex2 gLe (zab 1) (zab 4)))) (zbB (eC (.bl true))) fNx)
def zd3:FS:=
  (zau (zez (iT (zab 2)) (gTp (za2 (gNm 3) (za2 (gNm 4) zd8))) zaJ)
   (zbB (eC (.bl false))))
def zds:List D->Option Ent:=zcL [.v,.v,.v] 2 zd3
def zci:FS:=
  (zau (fIf (fOr (tOf (ex2 gLe (zab 3) (zab 2))) (fOr (tOf (ex2 gLt (zab 4) (zab 3))) (tOf (ex2 gGt (zab 4) (zab 1))))) (zbB (eC (.bl false))) fNx)
   (zbE 2 (zab 4)))
def zdG:FS:=
  (zau (zbE 2 (ex1 zeV (eC (.int 1))))
   (zau (zez (iT (zab 0)) (gTp (za2 (gNm 3) (za2 (gNm 4) zd8))) zci)
   (zbB (eC (.bl true)))))
def zc5:List D->Option Ent:=zcL [.v,.v] 3 zdG
def zcI:FS:=
  (zau (fFNew 0 "Sight" [] "most" (zab 1))
   (zau (fFNew 0 "Sight" ["most"] "end" (eC (.int 0)))
   (fFNew 0 "Sight" ["most","end"] "pairs" (zcH zae))))
def zbz:GM:=zhH 1 0 zcI
def zcA:FS:=
  (zau (fIf (fAnd (tOf (ex2 gNoN (zab 1) (eC .non))) (tOf (ex2 gLe (zab 1) (eFld 0 "Sight" ["most","end","pairs"] 0)))) (fFApp 0 "Sight" ["most","end","pairs"] 2 (zeR (zaa (eFld 0 "Sight" ["most","end","pairs"] 1) (zaa (zab 1) zae)))) fNx)
   (zh6 0 "Sight" ["most","end","pairs"] 1 (ex2 zbg (eFld 0 "Sight" ["most","end","pairs"] 1) (eC (.int 1)))))
def zbL:GM:=zhH 1 0 zcA
def zdy:FS:=
  (zau (zbE 1 (eCB zeC (zaa (eFld 0 "Sight" ["most","end","pairs"] 2) zae)))
   (zau (zh6 0 "Sight" ["most","end","pairs"] 2 (zcH zae))
   (zhR 1)))
def zcB:GM:=zhH 0 1 zdy
def zcl:FS:=
  (zgF 3 (zeR (zaa (eCB gMax2 (zaa (ex2 zdO (ex2 zdO (zab 7) (zab 5)) (zab 1)) (zaa (eC (.int 0)) zae))) (zaa (eCB zjx (zaa (ex2 zbg (ex2 zdO (ex2 zbg (zab 7) (eCB za9 (zaa (zab 0) zae))) (zab 5)) (zab 1)) (zaa (eCB za9 (zaa (zab 2) zae)) zae))) zae))))
def zbC:FS:=
  (zau (zbE 5 (ex2 zcQ (ex2 zd0 (zab 4) (eCB za9 (zaa (zab 0) zae))) (ex2 zbg (zab 1) (eC (.int 1)))))
   (zau (zbE 6 (ex2 zcQ (ex2 zd0 (ex2 zbg (zab 4) (eC (.int 1))) (eCB za9 (zaa (zab 0) zae))) (ex2 zbg (zab 1) (eC (.int 1)))))
   (zez (iL (zah [.v,.v] zcp (zaa (eSl zex (zab 0) (oSo (zab 5)) (oSo (zab 6))) (zaa (zab 2) zae)))) (gNm 7) zcl)))
def zck:FS:=
  (zau (zbE 3 (zcH zae))
   (zau (zez (iR1 (zaa (ex2 zbg (zab 1) (eC (.int 1))) zae)) (gNm 4) zbC)
   (zbB (zah [.b] zdM (zaa (zab 3) zae)))))
def zbP:List D->Option Ent:=zcL [.v,.v,.v] 5 zck
def za0:FS:=
  (fIf (tOf (ex2 gGe (zah [.v,.v] zbG (zaa (zab 5) (zaa (zah [.v,.v] zaH (zaa (eSl zex (zab 2) (oSo (zab 7)) (oSo (zab 8))) (zaa (zab 3) zae))) zae))) (zab 4))) (zgF 6 (zeR (zaa (zab 7) (zaa (zab 8) zae)))) fNx)
def zb3:FS:=
  (zau (zbE 4 (ex2 zdO (ex2 zbg (ex2 zdO (eCB za9 (zaa (zab 0) zae)) (zab 3)) (eC (.int 1))) (ex2 zd0 (zab 1) (zab 3))))
   (zau (zbE 5 (zah [.v,.v] zaH (zaa (zab 0) (zaa (zab 3) zae))))
   (zau (zbE 6 (zcH zae))
   (zau (zez (iL (zah [.v,.v,.v] zeq (zaa (zab 0) (zaa (zab 1) (zaa (zab 2) zae))))) (gTp (za2 (gNm 7) (za2 (gNm 8) zd8))) za0)
   (zbB (zah [.b] zdM (zaa (zab 6) zae)))))))
def zaR:List D->Option Ent:=zcL [.v,.v,.v,.v] 5 zb3
def zbR:FS:=
  (zgF 2 (zah [.v,.v] zbl (zaa (ex2 zda (zab 2) (ex2 zdO (zab 3) (eC (.int 1)))) (zaa (ex2 zcu (zab 1) (eC (.int 1))) zae))))
def zdb:FS:=
  (zau (zbE 2 (zcH (zaa (eC (.int 0)) zae)))
   (zau (zez (iR2 (zaa (eC (.int 1)) (zaa (ex2 zbg (eCB zb1 (zaa (zab 0) zae)) (eC (.int 1))) zae))) (gNm 3) zbR)
   (zbB (eCB zeC (zaa (zab 2) zae)))))
def zb0:List D->Option Ent:=zcL [.v,.v] 2 zdb
def zbu:FS:=
  (zau (zbE 8 (ex2 gInS (ex2 zhJ (zab 2) (ex1 zeV (eC (.int 1)))) (ex2 zcu (zab 1) (ex2 zdO (zab 7) (eC (.int 1))))))
   (zgF 6 (zah [.v] zcN (zaa (zcH (zaa (eIf (tOf (zab 8)) (ex2 zcu (zab 5) (ex2 zdO (zab 7) (eC (.int 1)))) (zah [.v,.v] zbl (zaa (ex2 zcu (zab 5) (ex2 zdO (zab 7) (eC (.int 1)))) (zaa (ex2 zcu (zab 3) (eC (.int 2))) zae)))) (zaa (zah [.v,.v] zbl (zaa (ex2 zcu (zab 5) (zab 7)) (zaa (ex2 zcu (zab 3) (eC (.int 0))) zae))) (zaa (zah [.v,.v] zbl (zaa (ex2 zda (zab 6) (ex2 zdO (zab 7) (eC (.int 1)))) (zaa (ex2 zcu (zab 3) (eC (.int 1))) zae))) (zaa (zah [.v,.v] zbl (zaa (zah [.b,.v,.v,.v] zaT (zaa (zab 0) (zaa (zab 1) (zaa (zab 2) (zaa (zab 7) zae))))) (zaa (ex2 zcu (zab 3) (eC (.int 3))) zae))) zae))))) zae))))
def zb2:FS:=
  (zau (zbE 5 (ex2 zda (zab 0) (ex1 zeV (eC (.int 1)))))
   (zau (zbE 6 (zcH (zaa (eIf (tOf (zab 4)) (eC (.int 0)) (zah [.v,.v] zbl (zaa (ex2 zcu (zab 5) (eC (.int 0))) (zaa (ex2 zcu (zab 3) (eC (.int 0))) zae)))) zae)))
   (zau (zez (iR2 (zaa (eC (.int 1)) (zaa (ex2 zbg (eCB zb1 (zaa (zab 1) zae)) (eC (.int 1))) zae))) (gNm 7) zbu)
   (zbB (eCB zeC (zaa (zab 6) zae))))))
def zb4:List D->Option Ent:=zcL [.b,.v,.v,.v,.v] 4 zb2
def zgP:FS:=
  (zbB (eOr (ex2 gEq (zab 1) (eC (.str "same"))) (ex2 gNe (zah [.v,.v] zbN (zaa (zab 0) (zaa (zab 1) zae))) (eC (.int 0)))))
def zdi:List D->Option Ent:=zcL [.v,.v] 0 zgP
def zdf:FS:=
  (zau (zbE 1 (zah [.v] zcN (zaa (zab 0) zae)))
   (zau (fIf (tOf (ex2 zjH (zab 1) (eC .non))) (zbB (eC .non)) fNx)
   (zbB (zeR (zaa (eBM gIdxT (zab 0) (zaa (zab 1) zae)) (zaa (zab 1) zae))))))
def zbX:List D->Option Ent:=zcL [.v] 1 zdf
def zbk:FS:=
  (zau (fIf (tOf (ex2 gEq (ex2 zbF (zab 6) (eC (.int 12))) (eC (.int 0)))) (zfE 5 (xPop 0)) fNx)
   (zau (zbE 4 (ex2 zd6 (zab 4) (zah [.v,.v] zav (zaa (zab 3) (zaa (ex2 zbF (zab 5) (zab 2)) zae)))))
   (zbE 5 (ex2 zcQ (zab 5) (zab 2)))))
def zct:FS:=
  (zau (zbE 4 (eC (.str "")))
   (zau (zbE 5 (eC (.int 0)))
   (zau (zez (iR1 (zaa (zab 1) zae)) (gNm 6) zbk)
   (zhR 4))))
def zaC:GM:=zhH 3 3 zct
def zbS:FS:=
  (zau (zbE 7 (ex2 zbF (ex2 zbF (zab 4) (eC (.int 41))) (ex2 zbg (eCB za9 (zaa (zab 1) zae)) (eC (.int 1)))))
   (zau (zbE 8 (ex2 zbF (ex2 zcQ (zab 4) (eC (.int 41))) (eC (.int 3))))
   (zau (zbE 9 (ex2 zda (zcH (zaa (zah [.v,.v] zav (zaa (zab 3) (zaa (ex2 zbF (ex2 zcQ (zab 4) (eC (.int 123))) (zab 2)) zae))) (zaa (eC (.str "")) (zaa (zah [.v,.v] zav (zaa (zab 3) (zaa (ex2 zbF (ex2 zcQ (zab 4) (eC (.int 123))) (zab 2)) zae))) zae)))) (zab 8)))
   (zau (zbE 1 (ex2 zd6 (ex2 zd6 (eSl zex (zab 1) oNo (oSo (zab 7))) (zab 9)) (eSl zex (zab 1) (oSo (ex2 zbg (zab 7) (eCB zcO (zaa (ex2 gGt (zab 8) (eC (.int 0))) zae)))) oNo)))
   (zbE 4 (ex2 zcQ (zab 4) (ex2 zd0 (eC (.int 123)) (zab 2))))))))
def zcr:FS:=
  (zau (zfE 4 (xPop 0))
   (zau (zbE 5 (ex2 zbF (zab 4) (eC (.int 4))))
   (zau (zbE 4 (ex2 zcQ (zab 4) (eC (.int 4))))
   (zau (zez (iR1 (zaa (zab 5) zae)) (gNm 6) zbS)
   (zhR 1)))))
def zaW:GM:=zhH 3 6 zcr
def zcF:FS:=
  (zbB (zah [.v,.v,.v,.v] zaR (zaa (zab 0) (zaa (zab 1) (zaa (zab 2) (zaa (eC (.int 1)) zae))))))
def za4:List D->Option Ent:=zcL [.v,.v,.v] 0 zcF
def zdp:FS:=
  (zgF 4 (zah [.b,.v,.v,.v,.v] zb4 (zaa (zab 4) (zaa (zab 0) (zaa (eSl zex (zab 1) oNo (oSo (zab 5))) (zaa (zab 2) (zaa (zab 3) zae)))))))
def zdo:FE:=
  (zah [.b,.v] zcx (zaa (zab 1) (zaa (zab 0) zae)))
def zeA:FS:=
  (zau (zbE 4 (zcH (zaa (zah [.v,.v] zb0 (zaa (zab 0) (zaa (zab 2) zae))) zae)))
   (zau (zez (iR2 (zaa (eC (.int 1)) (zaa (ex2 zbg (eCB za9 (zaa (zab 1) zae)) (eC (.int 1))) zae))) (gNm 5) zdp)
   (zbB (eCB zeC (zaa (eLC [4] (iR1 (zaa (ex2 zbg (eCB zb1 (zaa (zab 0) zae)) (eC (.int 1))) zae)) zdT zdo) zae)))))
def zbV:List D->Option Ent:=zcL [.v,.v,.v,.v] 2 zeA
def zc3:FS:=
  (zau (zbE 7 (ex2 zdO (zab 4) (ex1 (zjF [("same",1),("exchanged",1),("put",0),("left",1),("turned",2)]) (zab 6))))
   (zau (zbE 8 (ex2 zdO (zab 5) (ex1 (zjF [("same",1),("exchanged",1),("put",1),("left",0),("turned",2)]) (zab 6))))
   (zau (fIf (fOr (tOf (ex2 gLt (zab 7) (eC (.int 0)))) (tOf (ex2 gLt (zab 8) (eC (.int 0))))) (zbB (eC (.bl false))) fNx)
   (zau (fIf (fOr (fNot (tOf (zah [.v,.v] zdi (zaa (zab 3) (zaa (zab 6) zae))))) (fNot (tOf (zah [.v,.v,.v,.v,.v] zco (zaa (zab 1) (zaa (zab 2) (zaa (zab 7) (zaa (zab 8) (zaa (zab 6) zae))))))))) (zbB (eC (.bl false))) fNx)
   (zau (zbE 9 (ex2 zcu (ex2 zcu (zab 0) (zab 7)) (zab 8)))
   (zbB (eAnd (ex2 gNoN (zab 9) (eC .non)) (ex2 gEq (ex2 zbg (zab 9) (zah [.v,.v] zbN (zaa (zab 3) (zaa (zab 6) zae)))) (ex2 zcu (ex2 zcu (zab 0) (zab 4)) (zab 5))))))))))
def zc7:List D->Option Ent:=zcL [.v,.v,.v,.v,.v,.v,.v] 3 zc3
def zdX:FS:=
  (zau (zfE 7 (x2 zd6 (x2 zd6 (xP (zab 7)) (xCO 0 zaC (zbD (x2 zbF (xPop 0) (xP (eC (.int 12)))) (zbD (xP (zab 2)) (zbD (xP (zab 3)) zhL))))) (xSl zex (xCO 0 zaW (zbD (xP (zab 6)) (zbD (xP (zab 2)) (zbD (xP (zab 3)) zhL)))) xoNo (xoSo (xP (eC (.int 20)))))))
   (zjk (xLst (zbD (xP (zab 6)) (zbD (xP (zab 5)) (zbD (x2 zd6 (xP (zab 7)) (xCO 0 zaC (zbD (x2 zbF (xPop 0) (xP (eC (.int 9)))) (zbD (xP (zab 2)) (zbD (xP (zab 3)) zhL))))) zhL))))))
def zd2:FS:=
  (zau (zfE 7 (x2 zd6 (xCO 0 zaC (zbD (x2 zbF (xPop 0) (xP (eC (.int 16)))) (zbD (xP (zab 2)) (zbD (xP (zab 3)) zhL)))) (xCO 0 zaW (zbD (xP (zab 6)) (zbD (xP (zab 2)) (zbD (xP (zab 3)) zhL))))))
   zdX)
def zdV:FS:=
  (zau (zfE 6 (xCO 0 zaC (zbD (xP (zab 4)) (zbD (xP (zab 2)) (zbD (xP (zab 3)) zhL)))))
   zd2)
def zdW:FS:=
  (zau (zbE 5 (ex2 zda (zcH (zaa (ex2 zbF (ex2 zcQ (zab 1) (eC (.int 400000))) (eC (.int 4))) (zaa (ex2 zbF (ex2 zcQ (zab 1) (eC (.int 400000))) (eC (.int 7))) (zaa (ex2 zbF (ex2 zcQ (zab 1) (eC (.int 400000))) (eC (.int 41))) zae)))) (ex2 zcQ (ex2 zbF (ex2 zcQ (zab 1) (eC (.int 20000000))) (eC (.int 6))) (eC (.int 2)))))
   zdV)
def zdY:FS:=
  (zau (zbE 4 (ex2 zda (zcH (zaa (ex2 zbF (ex2 zcQ (zab 1) (eC (.int 832))) (eC (.int 13))) (zaa (ex2 zbF (ex2 zcQ (zab 1) (eC (.int 832))) (eC (.int 7))) (zaa (ex2 zbF (ex2 zcQ (zab 1) (eC (.int 832))) (eC (.int 41))) zae)))) (ex2 zcQ (ex2 zbF (ex2 zcQ (zab 1) (eC (.int 40000))) (eC (.int 8))) (eC (.int 3)))))
   zdW)
def zdU:FS:=
  (zau (zbE 3 (ex2 zbF (ex2 zcQ (zab 1) (eC (.int 4))) (eC (.int 208))))
   zdY)
def zd1:FS:=
  (zau (zbE 2 (ex2 zbg (eC (.int 2)) (ex2 zbF (zab 1) (eC (.int 4)))))
   zdU)
def zdr:FS:=
  (zau (zfE 1 (xPop 0))
   zd1)
def zb5:GM:=zhH 0 7 zdr
def zde:FE:=
  (zab 0)
def zcw:FT:=
  (tOf (zah [.v,.v,.v,.v,.v,.v,.v] zc7 (zaa (zab 1) (zaa (zab 2) (zaa (zab 3) (zaa (zab 4) (zaa (zab 5) (zaa (zab 6) (zaa (zab 0) zae)))))))))
def zd5:FS:=
  (zau (zbE 6 (eLC [0,1,2,3,4,5] (iK ["same","exchanged","put","left","turned"]) zcw zde))
   (zbB (ex2 zda (zab 6) (eC (.int 0)))))
def zb7:List D->Option Ent:=zcL [.v,.v,.v,.v,.v,.v] 1 zd5
def zcE:FS:=
  (zbB (ex2 zcu (zah [.v,.v,.v,.v] zbV (zaa (zab 0) (zaa (zab 1) (zaa (zab 2) (zaa (eC (.bl true)) zae))))) (ex1 zeV (eC (.int 1)))))
def zbx:List D->Option Ent:=zcL [.v,.v,.v] 0 zcE
def zcf:FS:=
  (zbB (ex2 zcu (zhq [.v,.v,.v,.v] zbV (zaa (ex1 gRvT (zab 0)) (zaa (ex1 gRvS (zab 1)) (zaa (zab 2) zae))) (.bl false)) (ex1 zeV (eC (.int 1)))))
def zbe:List D->Option Ent:=zcL [.v,.v,.v] 0 zcf
def zby:FT:=
  (fOr (tOf (ex2 gGt (zab 5) (eC (.int 0)))) (tOf (ex2 gGt (zab 6) (eC (.int 0)))))
def zbA:FS:=
  (zau (zbE 7 (zah [.v,.v,.v,.v,.v,.v] zb7 (zaa (zab 3) (zaa (zab 0) (zaa (zab 1) (zaa (zab 2) (zaa (zab 5) (zaa (zab 6) zae))))))))
   (zau (zgF 4 (zab 7))
   (zau (zbE 5 (ex2 zdO (zab 5) (ex1 (zjF [("same",1),("exchanged",1),("put",0),("left",1),("turned",2)]) (zab 7))))
   (zbE 6 (ex2 zdO (zab 6) (ex1 (zjF [("same",1),("exchanged",1),("put",1),("left",0),("turned",2)]) (zab 7)))))))
def zdn:FS:=
  (zau (zbE 3 (zhq [.v,.v,.v,.v] zbV (zaa (zab 0) (zaa (zab 1) (zaa (zab 2) zae))) (.bl false)))
   (zau (fIf (tOf (ex2 zjH (ex2 zcu (ex2 zcu (zab 3) (ex1 zeV (eC (.int 1)))) (ex1 zeV (eC (.int 1)))) (eC .non))) (zbB (eC .non)) fNx)
   (zau (zbE 4 (zcH zae))
   (zau (zbE 5 (eCB zb1 (zaa (zab 0) zae)))
   (zau (zbE 6 (eCB za9 (zaa (zab 1) zae)))
   (zau (whl zby
   zbA 2100)
   (zbB (ex1 zh4 (zab 4)))))))))
def zcg:List D->Option Ent:=zcL [.v,.v,.v] 5 zdn
def zc6:FS:=
  (fX (xM 4 "Sight" ["most","end","pairs"] zbL (zaa (zab 5) zae)))
def zfi:FS:=
  (zau (fSetO 4 (eMake "Sight" zbz (zaa (zab 2) zae)))
   (zau (zez (iT (zah [.v,.v,.v] zbx (zaa (zab 0) (zaa (zab 1) (zaa (zab 3) zae))))) (gNm 5) zc6)
   (zjk (xM 4 "Sight" ["most","end","pairs"] zcB zae))))
def zcX:List D->Option Ent:=zcL [.v,.v,.v,.v] 2 zfi
def zdF:FS:=
  (zau (fIf (fOr (tOf (ex2 gLt (zab 2) (eC (.int 0)))) (tOf (ex2 gGt (zab 2) (eCB za9 (zaa (zab 1) zae))))) (zbB (eC .non)) fNx)
   (zau (zbE 4 (zah [.v] zbX (zaa (zah [.v,.v,.v] zbe (zaa (zab 0) (zaa (eSl zex (zab 1) oNo (oSo (zab 2))) (zaa (zab 3) zae)))) zae)))
   (zau (fIf (tOf (ex2 zjH (zab 4) (eC .non))) (zbB (eC .non)) fNx)
   (zau (zbE 5 (ex2 zdO (zab 2) (ex2 zcu (zab 4) (eC (.int 0)))))
   (zbB (zeR (zaa (zab 5) (zaa (zah [.v,.v,.v] zcg (zaa (zab 0) (zaa (eSl zex (zab 1) (oSo (zab 5)) (oSo (zab 2))) (zaa (zab 3) zae)))) zae))))))))
def zbH:List D->Option Ent:=zcL [.v,.v,.v,.v] 2 zdF
def zfb:FS:=
  (fIf (fNot (tOf (zah [.v,.v] zc5 (zaa (zab 9) (zaa (eCB za9 (zaa (zab 4) zae)) zae))))) (zbB (eC (.bl false))) fNx)
def zfa:FS:=
  (fIf (fNot (tOf (zah [.v,.v,.v] zds (zaa (zab 13) (zaa (zab 11) (zaa (zab 9) zae)))))) (zbB (eC (.bl false))) fNx)
def ze9:FS:=
  (zau (fAsg (gTp (za2 (gNm 11) (za2 (gNm 12) zd8))) (ex2 zcu (zab 6) (ex2 zbF (ex2 zbg (ex2 zcQ (zab 8) (eC (.int 6))) (ex2 zd0 (zab 10) (ex2 zbg (eC (.int 1)) (ex2 zcQ (eCB zb1 (zaa (zab 6) zae)) (eC (.int 10)))))) (eCB zb1 (zaa (zab 6) zae)))))
   (zau (fAsg (gTp (za2 (gNm 13) (za2 (gNm 14) zd8))) (zah [.v,.v,.v,.v] zbH (zaa (zab 5) (zaa (zab 4) (zaa (zab 11) (zaa (zeR (zaa (eC (.int 1)) (zaa (eC (.int 1)) (zaa (eC (.int 1)) (zaa (eC (.int 0)) zae))))) zae))))))
   (zez (iL (zab 7)) (gNm 9) zfa)))
def ze6:FS:=
  (zau (zez (iR1 (zaa (eCB zjx (zaa (ex2 zda (zcH (zaa (eC (.int 10)) (zaa (eC (.int 2)) zae))) (eCB zcO (zaa (ex2 gGt (eCB za9 (zaa (zab 2) zae)) (eC (.int 12))) zae))) (zaa (eCB zb1 (zaa (zab 6) zae)) zae))) zae)) (gNm 10) ze9)
   (zbB (eC (.bl true))))
def F_law_S7:FS:=
  (fFrz 7 (zau (zez (iL (zab 7)) (gNm 9) zfb)
   ze6))
def ziH:FS:=
  (zau (zgF 7 (zah [.v,.v,.v,.v] zaR (zaa (zab 2) (zaa (zab 3) (zaa (zab 4) (zaa (ex2 zbg (eC (.int 1)) (ex2 zbF (zab 8) (eC (.int 6)))) zae))))))
   F_law_S7)
def ziz:FS:=
  (zau (zfE 8 (xPop 1))
   ziH)
def ziy:FS:=
  (zau (zbE 7 (zcH (zaa (zah [.v,.v,.v] zbP (zaa (zab 2) (zaa (zab 3) (zaa (zab 4) zae)))) (zaa (zah [.v,.v,.v] za4 (zaa (zab 2) (zaa (zab 3) (zaa (zab 4) zae)))) zae))))
   ziz)
def ziU:FS:=
  (zau (zbE 6 (zah [.v,.v,.v,.v] zcX (zaa (zab 5) (zaa (zab 4) (zaa (zab 3) (zaa (zeR (zaa (eC (.int 1)) (zaa (eC (.int 1)) (zaa (eC (.int 1)) (zaa (eC (.int 0)) zae))))) zae))))))
   ziy)
def ziJ:FS:=
  (zau (zbE 5 (zah [.v] zcd (zaa (zab 2) zae)))
   ziU)
def ziR:FS:=
  (zau (fXAsg (gLs (za2 (gNm 2) (za2 (gNm 3) (za2 (gNm 4) zd8)))) (xCO 1 zb5 zhL))
   ziJ)
def F_law:FS:=
  (zau (ziM 1 (zah [.b,.v] zcn (zaa (eSl gSlL (zab 0) oNo (oSo (eC (.int 63)))) (zaa (eC (.int 30)) zae))))
   ziR)
def g_law:List D->Option Ent:=zcL [.b] 14 F_law
end
end N44

namespace N44
open PySem L2 L3 PyProof.Rows
def top(i:Nat):Stmt:=PySem.Challenge.pw_nearfind_k44_whole_nothing_lost.main.body.getD i (.Pass ⟨0,0,0,0⟩)
def clsB(st:Stmt)(j:Nat):Stmt:=match st with
 | .ClassDef _ _ _ b _ _ _ _ _ _ _=>b.getD j (.Pass ⟨0,0,0,0⟩)
 | _=>.Pass ⟨0,0,0,0⟩
abbrev zaF:Stmt:=top 1
theorem sc_kept_by_parts:FnScope ["W","most","T","found","number","begin","end","place"] ["W","most","T"] (zad zaF):=⟨rfl,rfl,rfl,by decide +kernel,rfl,by decide +kernel,by decide +kernel⟩
abbrev zaA:Stmt:=top 2
theorem zeG:FnScope ["W","most","T"] ["W","most","T"] (zad zaA):=⟨rfl,rfl,rfl,by decide +kernel,rfl,by decide +kernel,by decide +kernel⟩
abbrev zaz:Stmt:=top 3
theorem sc_kept_by_pieces:FnScope ["W","most","T","long","needed","pieces","found","begin","end"] ["W","most","T","long"] (zad zaz):=⟨rfl,rfl,rfl,by decide +kernel,rfl,by decide +kernel,by decide +kernel⟩
abbrev zbs:Stmt:=top 4
theorem zg3:FnScope ["part","text"] ["part","text"] (zad zbs):=⟨rfl,rfl,rfl,by decide +kernel,rfl,by decide +kernel,by decide +kernel⟩
abbrev zb8:Stmt:=top 5
theorem zjr:FnScope ["word","most","text"] ["word","most","text"] (zad zb8):=⟨rfl,rfl,rfl,by decide +kernel,rfl,by decide +kernel,by decide +kernel⟩
abbrev zas:Stmt:=top 6
theorem sc_times_of_pieces:FnScope ["text","long","times","place","piece"] ["text","long"] (zad zas):=⟨rfl,rfl,rfl,by decide +kernel,rfl,by decide +kernel,by decide +kernel⟩
abbrev zaE:Stmt:=top 7
theorem zeX:FnScope ["times","other_times"] ["times","other_times"] (zad zaE):=⟨rfl,rfl,rfl,by decide +kernel,rfl,by decide +kernel,by decide +kernel⟩
abbrev zcz:Stmt:=top 8
theorem sc_joined:FnScope ["stretches","kept","begin","end"] ["stretches"] (zad zcz):=⟨rfl,rfl,rfl,by decide +kernel,rfl,by decide +kernel,by decide +kernel⟩
abbrev zbJ:Stmt:=top 14
theorem sc_cells_of:FnScope ["P","T","prices","free","columns","signs"] ["P","T","prices","free"] (zad zbJ):=⟨rfl,rfl,rfl,by decide +kernel,rfl,by decide +kernel,by decide +kernel⟩
abbrev za5:Stmt:=top 15
theorem zgk:FnScope ["columns","classes"] ["columns","classes"] (zad za5):=⟨rfl,rfl,rfl,by decide +kernel,rfl,by decide +kernel,by decide +kernel⟩
abbrev zaK:Stmt:=top 16
theorem sc_first_column:FnScope ["pattern","prices","column","classes"] ["pattern","prices"] (zad zaK):=⟨rfl,rfl,rfl,by decide +kernel,rfl,by decide +kernel,by decide +kernel⟩
abbrev zaw:Stmt:=top 17
theorem sc_further_column:FnScope ["columns","pattern","text","prices","free","before","column","classes","fits"] ["columns","pattern","text","prices","free"] (zad zaw):=⟨rfl,rfl,rfl,by decide +kernel,rfl,by decide +kernel,by decide +kernel⟩
abbrev zak:Stmt:=top 18
theorem zdI:FnScope ["columns","pattern","text","classes"] ["columns","pattern","text","classes"] (zad zak):=⟨rfl,rfl,rfl,by decide +kernel,rfl,by decide +kernel,by decide +kernel⟩
abbrev zca:Stmt:=top 19
theorem zjo:FnScope ["cell","price"] ["cell","price"] (zad zca):=⟨rfl,rfl,rfl,by decide +kernel,rfl,by decide +kernel,by decide +kernel⟩
abbrev zcC:Stmt:=top 20
theorem sc_lowest:FnScope ["cells"] ["cells"] (zad zcC):=⟨rfl,rfl,rfl,by decide +kernel,rfl,by decide +kernel,by decide +kernel⟩
abbrev zaX:Stmt:=top 25
theorem sc_row_between:FnScope ["P","T","prices","cells","backward","classes","signs","step"] ["P","T","prices"] (zad zaX):=⟨rfl,rfl,rfl,by decide +kernel,rfl,by decide +kernel,by decide +kernel⟩
abbrev zbq:Stmt:=top 26
theorem sc_last_step:FnScope ["cells","pattern","text","prices","classes","signs","found"] ["cells","pattern","text","prices","classes","signs"] (zad zbq):=⟨rfl,rfl,rfl,by decide +kernel,rfl,by decide +kernel,by decide +kernel⟩
abbrev za6:Stmt:=top 27
theorem sc_comes_last:FnScope ["cells","pattern","text","prices","classes","signs","step","classes_ahead","signs_ahead","ahead"] ["cells","pattern","text","prices","classes","signs","step"] (zad za6):=⟨rfl,rfl,rfl,by decide +kernel,rfl,by decide +kernel,by decide +kernel⟩
abbrev zbm:Stmt:=top 28
theorem zhr:FnScope ["pattern","text","classes","signs","step"] ["pattern","text","classes","signs","step"] (zad zbm):=⟨rfl,rfl,rfl,by decide +kernel,rfl,by decide +kernel,by decide +kernel⟩
abbrev zcc:Stmt:=top 29
theorem zjB:FnScope ["prices","step"] ["prices","step"] (zad zcc):=⟨rfl,rfl,rfl,by decide +kernel,rfl,by decide +kernel,by decide +kernel⟩
abbrev zbd:Stmt:=top 30
theorem zgD:FnScope ["prices","step"] ["prices","step"] (zad zbd):=⟨rfl,rfl,rfl,by decide +kernel,rfl,by decide +kernel,by decide +kernel⟩
abbrev zb9:Stmt:=top 33
theorem sc_ends_in:FnScope ["P","T","most","prices","sight","price"] ["P","T","most","prices"] (zad zb9):=⟨rfl,rfl,rfl,by decide +kernel,rfl,by decide +kernel,by decide +kernel⟩
abbrev zba:Stmt:=top 34
theorem sc_stretch_at:FnScope ["P","T","end","prices","nearest","begin"] ["P","T","end","prices"] (zad zba):=⟨rfl,rfl,rfl,by decide +kernel,rfl,by decide +kernel,by decide +kernel⟩
abbrev zay:Stmt:=top 35
theorem zeL:FnScope ["pattern","text","prices"] ["pattern","text","prices"] (zad zay):=⟨rfl,rfl,rfl,by decide +kernel,rfl,by decide +kernel,by decide +kernel⟩
abbrev zap:Stmt:=top 36
theorem zeh:FnScope ["pattern","text","prices"] ["pattern","text","prices"] (zad zap):=⟨rfl,rfl,rfl,by decide +kernel,rfl,by decide +kernel,by decide +kernel⟩
abbrev zaN:Stmt:=top 37
theorem sc_first_lowest:FnScope ["told","price"] ["told"] (zad zaN):=⟨rfl,rfl,rfl,by decide +kernel,rfl,by decide +kernel,by decide +kernel⟩
abbrev zbc:Stmt:=top 39
theorem zgw:FnScope ["W"] ["W"] (zad zbc):=⟨rfl,rfl,rfl,by decide +kernel,rfl,by decide +kernel,by decide +kernel⟩
abbrev zbn:Stmt:=top 41
theorem sc__law_deck:FnScope ["_law_cells","_law_many","_law_own","_law_row","_law_deck_here","_law_k","_law_at","_law_one"] ["_law_cells","_law_many"] (zad zbn):=⟨rfl,rfl,rfl,by decide +kernel,rfl,by decide +kernel,by decide +kernel⟩
abbrev zbr:Stmt:=top 42
theorem zhv:FnScope ["_law_turn","_law_number"] ["_law_turn","_law_number"] (zad zbr):=⟨rfl,rfl,rfl,by decide +kernel,rfl,by decide +kernel,by decide +kernel⟩
abbrev zaL:Stmt:=top 43
theorem sc__law_letters:FnScope ["_law_deck_here","_law_many","_law_few","_law_turn","_law_found","_law_cell","_law_k"] ["_law_deck_here","_law_many","_law_few","_law_turn"] (zad zaL):=⟨rfl,rfl,rfl,by decide +kernel,rfl,by decide +kernel,by decide +kernel⟩
abbrev zaM:Stmt:=top 44
theorem sc__law_slipped:FnScope ["_law_deck_here","_law_word","_law_few","_law_turn","_law_cell","_law_slips","_law_k","_law_at","_law_way","_law_sign_here"] ["_law_deck_here","_law_word","_law_few","_law_turn"] (zad zaM):=⟨rfl,rfl,rfl,by decide +kernel,rfl,by decide +kernel,by decide +kernel⟩
abbrev zbp:Stmt:=top 45
theorem sc__law_case:FnScope ["_law_deck_here","_law_cell","_law_few","_law_turn","_law_long","_law_most","_law_word","_law_text"] ["_law_deck_here"] (zad zbp):=⟨rfl,rfl,rfl,by decide +kernel,rfl,by decide +kernel,by decide +kernel⟩
abbrev zbo:Stmt:=top 46
theorem sc__law_lies:FnScope ["_law_begin","_law_end","_law_kept","_law_low","_law_high"] ["_law_begin","_law_end","_law_kept"] (zad zbo):=⟨rfl,rfl,rfl,by decide +kernel,rfl,by decide +kernel,by decide +kernel⟩
abbrev zbb:Stmt:=top 47
theorem sc__law_apart:FnScope ["_law_kept","_law_many","_law_ahead","_law_begin","_law_end"] ["_law_kept","_law_many"] (zad zbb):=⟨rfl,rfl,rfl,by decide +kernel,rfl,by decide +kernel,by decide +kernel⟩
abbrev zdZ:Stmt:=top 48
theorem sc_law:FnScope ["_law_script","_law_deck_here","_law_word","_law_most","_law_text","_law_pattern","_law_ends","_law_some","_law_turn","_law_kept","_law_k","_law_end","_law_price","_law_begin","_law_row"] ["_law_script"] (zad zdZ):=⟨rfl,rfl,rfl,by decide +kernel,rfl,by decide +kernel,by decide +kernel⟩
abbrev zax:Stmt:=clsB (top 32) 0
theorem zeE:FnScope ["self","most"] ["self","most"] (zad zax):=⟨rfl,rfl,rfl,by decide +kernel,rfl,by decide +kernel,by decide +kernel⟩
abbrev za7:Stmt:=clsB (top 32) 1
theorem zgo:FnScope ["self","price"] ["self","price"] (zad za7):=⟨rfl,rfl,rfl,by decide +kernel,rfl,by decide +kernel,by decide +kernel⟩
abbrev za8:Stmt:=clsB (top 32) 2
theorem sc_Sight_tell:FnScope ["self","told"] ["self"] (zad za8):=⟨rfl,rfl,rfl,by decide +kernel,rfl,by decide +kernel,by decide +kernel⟩
theorem zew:bn "int" = aa (.type "int"):=by kernel_rfl
theorem zal:bn "len" = aa (.builtin "len"):=by kernel_rfl
theorem zgV:bn "list" = aa (.type "list"):=by kernel_rfl
theorem zf6:bn "max" = aa (.builtin "max"):=by kernel_rfl
theorem ze3:bn "min" = aa (.builtin "min"):=by kernel_rfl
theorem boot_range:bn "range" = aa (.type "range"):=by kernel_rfl
theorem zev:bn "reversed" = aa (.type "reversed"):=by kernel_rfl
theorem zii:bn "sorted" = aa (.builtin "sorted"):=by kernel_rfl
theorem boot_sum:bn "sum" = aa (.builtin "sum"):=by kernel_rfl
theorem zcb:bn "tuple" = aa (.type "tuple"):=by kernel_rfl
structure Txt(w:aU)(K:ag)(mg:Str->Option ae):Prop where
 m_int:mg "int" = ab
 m_len:mg "len" = ab
 m_list:mg "list" = ab
 m_max:mg "max" = ab
 m_min:mg "min" = ab
 m_range:mg "range" = ab
 m_reversed:mg "reversed" = ab
 m_sorted:mg "sorted" = ab
 m_sum:mg "sum" = ab
 m_tuple:mg "tuple" = ab
 g_PUT:∃ u,mg "PUT" = aa u/\RelV (.int 0) u
 g_LEFT:∃ u,mg "LEFT" = aa u/\RelV (.int 1) u
 g_EXCHANGED:∃ u,mg "EXCHANGED" = aa u/\RelV (.int 2) u
 g_TURNED:∃ u,mg "TURNED" = aa u/\RelV (.int 3) u
 t_CLASSES_USED:∃ a,mg "CLASSES_USED" = aa (.ref a)/\TabK K a [("same",1),("exchanged",1),("put",0),("left",1),("turned",2)]
 t_SIGNS_USED:∃ a,mg "SIGNS_USED" = aa (.ref a)/\TabK K a [("same",1),("exchanged",1),("put",1),("left",0),("turned",2)]
 t_PLACE_IN_PRICES:∃ a,mg "PLACE_IN_PRICES" = aa (.ref a)/\TabK K a [("put",0),("left",1),("exchanged",2),("turned",3)]
 k_CLASSES_USED:∃ a,mg "CLASSES_USED" = aa (.ref a)/\KeysK w K a ["same","exchanged","put","left","turned"]
 c_Sight:∃ C,ClsD K mg "Sight" ["most","end","pairs"] C
 d_kept_by_parts:∃ f fd,Def K mg "kept_by_parts" zaF ["W","most","T"] f fd
 d_kept_by_counts:∃ f fd,Def K mg "kept_by_counts" zaA ["W","most","T"] f fd
 d_kept_by_pieces:∃ f fd,Def K mg "kept_by_pieces" zaz ["W","most","T","long"] f fd
 d_places_of:∃ f fd,Def K mg "places_of" zbs ["part","text"] f fd
 d_windows:∃ f fd,Def K mg "windows" zb8 ["word","most","text"] f fd
 d_times_of_pieces:∃ f fd,Def K mg "times_of_pieces" zas ["text","long"] f fd
 d_number_shared:∃ f fd,Def K mg "number_shared" zaE ["times","other_times"] f fd
 d_joined:∃ f fd,Def K mg "joined" zcz ["stretches"] f fd
 d_cells_of:∃ f fd,DefD K mg "cells_of" zbJ ["P","T","prices","free"] f fd
 d_row_across:∃ f fd,Def K mg "row_across" za5 ["columns","classes"] f fd
 d_first_column:∃ f fd,Def K mg "first_column" zaK ["pattern","prices"] f fd
 d_further_column:∃ f fd,Def K mg "further_column" zaw ["columns","pattern","text","prices","free"] f fd
 d_cell_ahead_of_turn:∃ f fd,Def K mg "cell_ahead_of_turn" zak ["columns","pattern","text","classes"] f fd
 d_stepped:∃ f fd,Def K mg "stepped" zca ["cell","price"] f fd
 d_lowest:∃ f fd,Def K mg "lowest" zcC ["cells"] f fd
 d_row_between:∃ f fd,Def K mg "row_between" zaX ["P","T","prices"] f fd
 d_last_step:∃ f fd,Def K mg "last_step" zbq ["cells","pattern","text","prices","classes","signs"] f fd
 d_comes_last:∃ f fd,Def K mg "comes_last" za6 ["cells","pattern","text","prices","classes","signs","step"] f fd
 d_can_stand:∃ f fd,Def K mg "can_stand" zbm ["pattern","text","classes","signs","step"] f fd
 d_is_done:∃ f fd,Def K mg "is_done" zcc ["prices","step"] f fd
 d_step_price:∃ f fd,Def K mg "step_price" zbd ["prices","step"] f fd
 d_ends_in:∃ f fd,Def K mg "ends_in" zb9 ["P","T","most","prices"] f fd
 d_stretch_at:∃ f fd,Def K mg "stretch_at" zba ["P","T","end","prices"] f fd
 d_prices_at_ends:∃ f fd,Def K mg "prices_at_ends" zay ["pattern","text","prices"] f fd
 d_prices_by_length:∃ f fd,Def K mg "prices_by_length" zap ["pattern","text","prices"] f fd
 d_first_lowest:∃ f fd,Def K mg "first_lowest" zaN ["told"] f fd
 d_pattern_of:∃ f fd,Def K mg "pattern_of" zbc ["W"] f fd
 d__law_deck:∃ f fd,Def K mg "_law_deck" zbn ["_law_cells","_law_many"] f fd
 d__law_sign:∃ f fd,Def K mg "_law_sign" zbr ["_law_turn","_law_number"] f fd
 d__law_letters:∃ f fd,Def K mg "_law_letters" zaL ["_law_deck_here","_law_many","_law_few","_law_turn"] f fd
 d__law_slipped:∃ f fd,Def K mg "_law_slipped" zaM ["_law_deck_here","_law_word","_law_few","_law_turn"] f fd
 d__law_case:∃ f fd,Def K mg "_law_case" zbp ["_law_deck_here"] f fd
 d__law_lies:∃ f fd,Def K mg "_law_lies" zbo ["_law_begin","_law_end","_law_kept"] f fd
 d__law_apart:∃ f fd,Def K mg "_law_apart" zbb ["_law_kept","_law_many"] f fd
 d_Sight___init__:∃ f fd,MakeD K "Sight" zax "Sight.__init__" ["self","most"] f fd
 d_Sight_come:∃ f fd,MethD K "Sight" "come" za7 "Sight.come" ["self","price"] f fd
 d_Sight_tell:∃ f fd,MethD K "Sight" "tell" za8 "Sight.tell" ["self"] f fd
section
variable {P:aR}{w:aU}{K:ag}{mg:Str->Option ae}{base:ba}{f:af}{fd:bD}
theorem zhI(T:Txt w K mg)(F:FunA K "places_of" "places_of" zbs f fd):FnOk P w K mg base CX0 1 f fd ["part","text"] (spD K [.v,.v] zcp):=by
 refine zaY F zg3 zd7 rfl (fun _ _ h=>h) fun cdv A outer s H E hr=>?_
 have hu:=zbv hr
 exact(ss1 (zcP (vlc (N:=["place","part","text"]) (fr:=[0,1]) ⟨rfl,rfl,rfl,by decide +kernel,rfl,rfl⟩ (iir1 (by rfl) T.m_range (zac (vop zbM (vop zc0 (vcb zcj (by rfl) T.m_len zal (zac (vv 1) zaq)) (vcb zcj (by rfl) T.m_len zal (zac (vv 0) zaq))) zao) zaq)) (fun _ _ _ _=>by exact(if1 (tcm (o_eq) (vsl zfI (vv 2) (vos (vv 0)) (vos (vop zbM (vv 0) (vcb zcj (by rfl) T.m_len zal (zac (vv 1) zaq))))) (vv 1) (zaB _)))) (fun _ _ _ _=>by exact(vv 0)))))
theorem zjt(T:Txt w K mg)(F:FunA K "windows" "windows" zb8 f fd):FnOk P w K mg base CX0 1 f fd ["word","most","text"] (spD K [.v,.v,.v] zeq):=by
 refine zaY F zjr zfn rfl (fun _ _ h=>h) fun cdv A outer s H E hr=>?_
 have hu:=zbv hr
 exact(ss1 (zcP (vlc (N:=["end","most","word"]) (fr:=[1,0]) ⟨rfl,rfl,rfl,by decide +kernel,rfl,rfl⟩ (iir1 (by rfl) T.m_range (zac (vop zbM (vcb zcj (by rfl) T.m_len zal (zac (vv 2) zaq)) zao) zaq)) (fun _ _ _ _=>by exact if0) (fun _ _ _ _=>by exact(vtup (zac (vcb c_max2 (by rfl) T.m_max zf6 (zac (vop zc0 (vop zc0 (vv 0) (vcb zcj (by rfl) T.m_len zal (zac (vv 2) zaq))) (vv 1)) (zac zao zaq))) (zac (vv 0) zaq)))))))
theorem zej(T:Txt w K mg)(F:FunA K "times_of_pieces" "times_of_pieces" zas f fd):FnOk P w K mg base CX0 1 f fd ["text","long"] (spD K [.v,.v] zaH):=by
 refine zaY F sc_times_of_pieces zbU rfl (fun _ _ h=>h) fun cdv A outer s H E hr=>?_
 have hu:=zbv hr
 exact(ssc (sSetO (i:=2) (by decide) sc_times_of_pieces.nd rfl (au rfl) vD0)
   (ssc (zhy (iir1 (by rfl) T.m_range (zac (vop zbM (vop zc0 (vcb zcj (by rfl) T.m_len zal (zac (vv 0) zaq)) (vv 1)) zao) zaq)) (gnm (i:=3) sc_times_of_pieces.nd rfl (au rfl))
   (ssc (zcJ (i:=4) sc_times_of_pieces.nd rfl (au rfl) (vsl zfI (vv 0) (vos (vv 3)) (vos (vop zbM (vv 3) (vv 1)))))
   (ss1 (sDput 2 (vop zbM (vDget 2 (zac (vv 4) (zac zao zaq))) zao) (vv 4) (hg:=fun a b=>⟨pg_sub a.h b.h set_dic⟩)))))
   (sFrzD 2 (ss1 (sRetV 2)))))
theorem zeZ(T:Txt w K mg)(F:FunA K "number_shared" "number_shared" zaE f fd):FnOk P w K mg base CX0 1 f fd ["times","other_times"] (spD K [.v,.v] zbG):=by
 refine zaY F zeX zcZ rfl (fun _ _ h=>h) fun cdv A outer s H E hr=>?_
 have hu:=zbv hr
 exact(ss1 (zcP (vcb c_sum (by rfl) T.m_sum boot_sum (zac (vlc (N:=["piece","times","other_times"]) (fr:=[0,1]) ⟨rfl,rfl,rfl,by decide +kernel,rfl,rfl⟩ (iid (vv 0)) (fun _ _ _ _=>by exact if0) (fun _ _ _ _=>by exact(vcb c_min2 (by rfl) T.m_min ze3 (zac (vix x_dic (vv 1) (vv 0) (fun _ _=>rfl)) (zac (vbm m_get (vv 2) (zac (vv 0) (zac zao zaq))) zaq))))) zaq))))
theorem zgT(T:Txt w K mg)(F:FunA K "joined" "joined" zcz f fd):FnOk P w K mg base CX0 1 f fd ["stretches"] (spD K [.b] zdM):=by
 refine zaY F sc_joined ze4 rfl (fun _ _ h=>h) fun cdv A outer s H E hr=>?_
 have hu:=zbv hr
 exact(ssc (zcJ (i:=1) sc_joined.nd rfl (au rfl) (zf2 zaq))
   (ssc (zhy (iil (vcb c_srtG (by rfl) T.m_sorted zii (zac (vv 0) zaq))) (gtp rfl (zia (gnm (i:=2) sc_joined.nd rfl (au rfl)) (zia (gnm (i:=3) sc_joined.nd rfl (au rfl)) gns0)) (hl:=gl1 (gl1 (gl0))))
   (ss1 (sIf (tww (tan (tcm (o_gt) (vcb zdD (by rfl) T.m_len zal (zac (vv 1) zaq)) zao (zaB _)) (tan1 (tcm (o_le) (vv 2) (vix zbW (vix zcm (vv 1) (vun zdS zao) (fun _ _=>rfl)) zao (fun _ _=>rfl)) (zaB _))))) (ss1 (sSIx 1 (vtup (zac (vix zbW (vix zcm (vv 1) (vun zdS zao) (fun _ _=>rfl)) zao (fun _ _=>rfl)) (zac (vcb c_max2 (by rfl) T.m_max zf6 (zac (vix zbW (vix zcm (vv 1) (vun zdS zao) (fun _ _=>rfl)) zao (fun _ _=>rfl)) (zac (vv 3) zaq))) zaq))) (vun zdS zao) (hg:=fun a b=>⟨pg_sub a.h b.h ziA⟩))) (ss1 (sApp 1 (vtup (zac (vv 2) (zac (vv 3) zaq))))))))
   (ss1 (zcP (vct zfX (by rfl) T.m_tuple zcb (zac (vv 1) zaq))))))
theorem zga(T:Txt w K mg)(F:FunA K "row_across" "row_across" za5 f fd):FnOk P w K mg base CX0 1 f fd ["columns","classes"] (spD K [.b,.v] zcx):=by
 refine zaY F zgk zdB rfl (fun _ _ h=>h) fun cdv A outer s H E hr=>?_
 have hu:=zbv hr
 exact(ss1 (zcP (vct zfX (by rfl) T.m_tuple zcb (zac (vlc (N:=["column","classes"]) (fr:=[1]) ⟨rfl,rfl,rfl,by decide +kernel,rfl,rfl⟩ (iib 0) (fun _ _ _ _=>by exact if0) (fun _ _ _ _=>by exact(vix zbW (vv 0) (vv 1) (fun _ _=>rfl)))) zaq))))
theorem zdw(T:Txt w K mg)(F:FunA K "cell_ahead_of_turn" "cell_ahead_of_turn" zak f fd):FnOk P w K mg base CX0 1 f fd ["columns","pattern","text","classes"] (spD K [.b,.v,.v,.v] zaT):=by
 refine zaY F zdI zaS rfl (fun _ _ h=>h) fun cdv A outer s H E hr=>?_
 have hu:=zbv hr
 exact(ssc (sIf (tww (tor' (tcm ((o_lt)) (vv 3) zao (zaB _)) (zgx (tcm ((o_lt)) (vcb zcj (by rfl) T.m_len zal (zac (vv 2) zaq)) zao (zaB _))))) (ss1 (zcP zhU)) ss0)
   (ssc (sIf (tww (tor' (tcm (o_niS) (vix zgS (vv 2) (vun zdS zao) (fun _ _=>rfl)) (vix zbW (vv 1) (vop zc0 (vv 3) zao) (fun _ _=>rfl)) (by with_unfolding_all rfl)) (zgx (tcm (o_niS) (vix zgS (vv 2) (vun zdS zao) (fun _ _=>rfl)) (vix zbW (vv 1) (vop zc0 (vv 3) zao) (fun _ _=>rfl)) (by with_unfolding_all rfl))))) (ss1 (zcP zhU)) ss0)
   (ss1 (zcP (vix zbW (vix zcm (vv 0) (vun zdS zao) (fun _ _=>rfl)) (vop zc0 (vv 3) zao) (fun _ _=>rfl))))))
theorem zfS(T:Txt w K mg)(F:FunA K "stepped" "stepped" zca f fd):FnOk P w K mg base CX0 1 f fd ["cell","price"] (spD K [.v,.v] zbl):=by
 refine zaY F zjo zdA rfl (fun _ _ h=>h) fun cdv A outer s H E hr=>?_
 have hu:=zbv hr
 exact(ssc (sIf (tww (tor' (tcm (o_isN) (vv 0) zhU (zaB _)) (zgx (tcm (o_eq) (vv 1) zao (zaB _))))) (ss1 (zcP zhU)) ss0)
   (ss1 (zcP (vop zbM (vv 0) (vv 1)))))
theorem zhF(T:Txt w K mg)(F:FunA K "lowest" "lowest" zcC f fd):FnOk P w K mg base CX0 1 f fd ["cells"] (spD K [.v] zcN):=by
 refine zaY F sc_lowest zgr rfl (fun _ _ h=>h) fun cdv A outer s H E hr=>?_
 have hu:=zbv hr
 exact(ss1 (zcP (vminD (vlc (N:=["cell"]) (fr:=[]) ⟨rfl,rfl,rfl,by decide +kernel,rfl,rfl⟩ (iiq (vv 0)) (fun _ _ _ _=>by exact(if1 (tcm (o_noN) (vv 0) zhU (zaB _)))) (fun _ _ _ _=>by exact(vv 0))) zhU (by rfl) T.m_min ze3)))
theorem zgZ(T:Txt w K mg)(F:FunA K "can_stand" "can_stand" zbm f fd):FnOk P w K mg base CX0 1 f fd ["pattern","text","classes","signs","step"] (spD K [.v,.v,.v,.v,.v] zco):=by
 refine zaY F zhr zcV rfl (fun _ _ h=>h) fun cdv A outer s H E hr=>?_
 have hu:=zbv hr
 exact(ssc (sIf (tww (tor' (tcm (o_gt) (vop zbM (vv 2) (vgx (by rfl) T.t_CLASSES_USED (vv 4))) (vcb zdD (by rfl) T.m_len zal (zac (vv 0) zaq)) (zaB _)) (zgx (tcm (o_gt) (vop zbM (vv 3) (vgx (by rfl) T.t_SIGNS_USED (vv 4))) (vcb zcj (by rfl) T.m_len zal (zac (vv 1) zaq)) (zaB _))))) (ss1 (zcP vbl)) ss0)
   (ssc (sIf (tcm (o_eq) (vv 4) vstr (zaB _)) (ss1 (zcP (ziQ (o_inS) (vix zgS (vv 1) (vv 3) (fun _ _=>rfl)) (vix zbW (vv 0) (vv 2) (fun _ _=>rfl)) (by with_unfolding_all rfl)))) ss0)
   (ssc (sIf (tcm (o_eq) (vv 4) vstr (zaB _)) (ss1 (zcP (ziQ (o_niS) (vix zgS (vv 1) (vv 3) (fun _ _=>rfl)) (vix zbW (vv 0) (vv 2) (fun _ _=>rfl)) (by with_unfolding_all rfl)))) ss0)
   (ssc (sIf (tcm (o_eq) (vv 4) vstr (zaB _)) (ss1 (zcP (vand (ziQ (o_inS) (vix zgS (vv 1) (vv 3) (fun _ _=>rfl)) (vix zbW (vv 0) (vop zbM (vv 2) zao) (fun _ _=>rfl)) (by with_unfolding_all rfl)) (vone (ziQ (o_inS) (vix zgS (vv 1) (vop zbM (vv 3) zao) (fun _ _=>rfl)) (vix zbW (vv 0) (vv 2) (fun _ _=>rfl)) (by with_unfolding_all rfl)))))) ss0)
   (ss1 (zcP vbl))))))
theorem zel(T:Txt w K mg)(F:FunA K "step_price" "step_price" zbd f fd):FnOk P w K mg base CX0 1 f fd ["prices","step"] (spD K [.v,.v] zbN):=by
 refine zaY F zgD zeP rfl (fun _ _ h=>h) fun cdv A outer s H E hr=>?_
 have hu:=zbv hr
 exact(ssc (sIf (tcm (o_eq) (vv 1) vstr (zaB _)) (ss1 (zcP zao)) ss0)
   (ss1 (zcP (vix zbW (vv 0) (vgx (by rfl) T.t_PLACE_IN_PRICES (vv 1)) (fun _ _=>rfl)))))
theorem zgq(T:Txt w K mg)(F:FunA K "pattern_of" "pattern_of" zbc f fd):FnOk P w K mg base CX0 1 f fd ["W"] (spD K [.v] zcd):=by
 refine zaY F zgw zdC rfl (fun _ _ h=>h) fun cdv A outer s H E hr=>?_
 have hu:=zbv hr
 exact(ss1 (zcP (vct c_tupS (by rfl) T.m_tuple zcb (zac (vv 0) zaq))))
theorem zgM(T:Txt w K mg)(F:FunA K "_law_deck" "_law_deck" zbn f fd):FnOk P w K mg base CX0 1 f fd ["_law_cells","_law_many"] (spD K [.b,.v] zcn):=by
 refine zaY F sc__law_deck zdq rfl (fun _ _ h=>h) fun cdv A outer s H E hr=>?_
 have hu:=zbv hr
 exact(ssc (zcJ (i:=2) sc__law_deck.nd rfl (au rfl) (vop o_cat (vct c_listQ (by rfl) T.m_list zgV (zac (vv 0) zaq)) (vop o_rep (zf2 (zac zao zaq)) (vct zhw (by rfl) T.m_int zew (zac (ziQ (o_eq) (vcb zdD (by rfl) T.m_len zal (zac (vv 0) zaq)) zao (zaB _)) zaq)))))
   (sFrz 2 (ssc (sSetLC (i:=3) sc__law_deck.nd rfl (au rfl) (N:=["_law_cell"]) (fr:=[]) ⟨rfl,rfl,rfl,by decide +kernel,rfl,rfl⟩ (iil (vv 2)) (fun _ _ _ _=>by exact if0) (fun _ _ _ _=>by exact(vop ze1 (vv 0) (vct zhw (by rfl) T.m_int zew (zac (ziQ (o_ge) (vv 0) (vop o_pow zao zao) (zaB _)) zaq)))))
   (ssc (zcJ (i:=4) sc__law_deck.nd rfl (au rfl) (zf2 zaq))
   (ssc (zhy (iir1 (by rfl) T.m_range (zac (vv 1) zaq)) (gnm (i:=5) sc__law_deck.nd rfl (au rfl))
   (ssc (zcJ (i:=6) sc__law_deck.nd rfl (au rfl) (vop zce (vv 5) (vcb zdD (by rfl) T.m_len zal (zac (vv 2) zaq))))
   (ssc (zcJ (i:=7) sc__law_deck.nd rfl (au rfl) (vop zbM (vop ze1 (vop zce (vop zbM (vop zbM (vix zcm (vv 2) (vv 6) (fun _ _=>rfl)) (vop ze1 (vop ze1 (vv 5) (vv 5)) zao)) (vop ze1 zao (vv 5))) zao) (vix zcm (zf2 (zac zao (zac zao (zac zao (zac zao zaq))))) (vop zce (vv 5) zao) (fun _ _=>rfl))) zao))
   (ssc (sApp 4 (vix zcm (zf2 (zac (vop zce (vop ze1 (vv 7) (vv 7)) zao) (zac (vop zce (vix zcm (vv 3) (vv 6) (fun _ _=>rfl)) (vop o_pow zao zao)) zaq))) (vct zhw (by rfl) T.m_int zew (zac (ziQ (o_ne) (vix zcm (vv 3) (vv 6) (fun _ _=>rfl)) zao (zaB _)) zaq)) (fun _ _=>rfl)))
   (ss1 (sSIx 3 (vop o_divB (vix zcm (vv 3) (vv 6) (fun _ _=>rfl)) (vop o_pow zao zao)) (vv 6) (hg:=fun a b=>⟨pg_sub a.h b.h ziA⟩)))))))
   (ss1 (zcP (vLstRev (vv 4) (by rfl) T.m_list zgV (by rfl) T.m_reversed zev))))))))
theorem zeQ(T:Txt w K mg)(F:FunA K "_law_sign" "_law_sign" zbr f fd):FnOk P w K mg base CX0 1 f fd ["_law_turn","_law_number"] (spD K [.v,.v] zav):=by
 refine zaY F zhv zea rfl (fun _ _ h=>h) fun cdv A outer s H E hr=>?_
 have hu:=zbv hr
 exact(ss1 (zcP (vix zgS vstr (vop zce (vop zbM (vv 0) (vop ze1 (vv 1) (vop zbM zao (vop zce (vop zc2 (vv 0) zao) zao)))) zao) (fun _ _=>rfl))))
theorem zg9(T:Txt w K mg)(F:FunA K "_law_lies" "_law_lies" zbo f fd):FnOk P w K mg base CX0 1 f fd ["_law_begin","_law_end","_law_kept"] (spD K [.v,.v,.v] zds):=by
 refine zaY F sc__law_lies zd3 rfl (fun _ _ h=>h) fun cdv A outer s H E hr=>?_
 have hu:=zbv hr
 exact(ssc (zhy (iit (vv 2)) (gtp rfl (zia (gnm (i:=3) sc__law_lies.nd rfl (au rfl)) (zia (gnm (i:=4) sc__law_lies.nd rfl (au rfl)) gns0)) (hl:=gl1 (gl1 (gl0))))
   (ss1 (sIf (tww (tan (tcm (o_le) (vv 3) (vv 0) (zaB _)) (tan1 (tcm (o_le) (vv 1) (vv 4) (zaB _))))) (ss1 (zcP vbl)) ss0)))
   (ss1 (zcP vbl)))
theorem zf7(T:Txt w K mg)(F:FunA K "_law_apart" "_law_apart" zbb f fd):FnOk P w K mg base CX0 1 f fd ["_law_kept","_law_many"] (spD K [.v,.v] zc5):=by
 refine zaY F sc__law_apart zdG rfl (fun _ _ h=>h) fun cdv A outer s H E hr=>?_
 have hu:=zbv hr
 exact(ssc (zcJ (i:=2) sc__law_apart.nd rfl (au rfl) (vun zdS zao))
   (ssc (zhy (iit (vv 0)) (gtp rfl (zia (gnm (i:=3) sc__law_apart.nd rfl (au rfl)) (zia (gnm (i:=4) sc__law_apart.nd rfl (au rfl)) gns0)) (hl:=gl1 (gl1 (gl0))))
   (ssc (sIf (tww (tor' (tcm (o_le) (vv 3) (vv 2) (zaB _)) (tor' (tcm ((o_lt)) (vv 4) (vv 3) (zaB _)) (zgx (tcm (o_gt) (vv 4) (vv 1) (zaB _)))))) (ss1 (zcP vbl)) ss0)
   (ss1 (zcJ (i:=2) sc__law_apart.nd rfl (au rfl) (vv 4)))))
   (ss1 (zcP vbl))))
theorem zeF(T:Txt w K mg)(F:FunA K "__init__" "Sight.__init__" zax f fd):FnOk P w K mg base CX0 1 f fd ["self","most"] (spM K zbz):=by
 obtain⟨C_Sight,DC_Sight⟩:=T.c_Sight
 refine zfQ (n:=1) F zeE zcI rfl (fun _ _ _ h=>h) fun cdv A outer s H E hr=>?_
 have hu:=zbv hr
 exact(ssc (sFNew (ns:=[]) 0 DC_Sight.toF (vv 1))
   (ssc (sFNew (ns:=["most"]) 0 DC_Sight.toF zao)
   (ss1 (sFNew (ns:=["most","end"]) 0 DC_Sight.toF (zf2 zaq)))))
theorem zgt(T:Txt w K mg)(F:FunA K "come" "Sight.come" za7 f fd):FnOk P w K mg base CX0 1 f fd ["self","price"] (spM K zbL):=by
 obtain⟨C_Sight,DC_Sight⟩:=T.c_Sight
 refine zfQ (n:=1) F zgo zcA rfl (fun _ _ _ h=>h) fun cdv A outer s H E hr=>?_
 have hu:=zbv hr
 exact(ssc (sIf (tww (tan (tcm (o_noN) (vv 1) zhU (zaB _)) (tan1 (tcm (o_le) (vv 1) (vFld (ns:=["most","end","pairs"]) 0 0 DC_Sight.toF) (zaB _))))) (ss1 (sFApp (ns:=["most","end","pairs"]) 0 2 DC_Sight.toF (vtup (zac (vFld (ns:=["most","end","pairs"]) 0 1 DC_Sight.toF) (zac (vv 1) zaq))))) ss0)
   (ss1 (sFSet (ns:=["most","end","pairs"]) 0 1 DC_Sight.toF (vop zbM (vFld (ns:=["most","end","pairs"]) 0 1 DC_Sight.toF) zao))))
theorem zgs(T:Txt w K mg)(F:FunA K "tell" "Sight.tell" za8 f fd):FnOk P w K mg base CX0 1 f fd ["self"] (spM K zcB):=by
 obtain⟨C_Sight,DC_Sight⟩:=T.c_Sight
 refine zfQ (n:=0) F sc_Sight_tell zdy rfl (fun _ _ _ h=>h) fun cdv A outer s H E hr=>?_
 have hu:=zbv hr
 exact(ssc (zcJ (i:=1) sc_Sight_tell.nd rfl (au rfl) (vct zfX (by rfl) T.m_tuple zcb (zac (vFld (ns:=["most","end","pairs"]) 0 2 DC_Sight.toF) zaq)))
   (ssc (sFSet (ns:=["most","end","pairs"]) 0 2 DC_Sight.toF (zf2 zaq))
   (ss1 (sRetV 1))))
theorem zeY(T:Txt w K mg)(F:FunA K "kept_by_parts" "kept_by_parts" zaF f fd):FnOk P w K mg base CX0 2 f fd ["W","most","T"] (spD K [.v,.v,.v] zbP):=by
 obtain⟨f_joined,fd_joined,D_joined⟩:=T.d_joined
 have G_joined:FnOk P w K mg base CX0 1 f_joined fd_joined ["stretches"] (spD K [.b] zdM):=zgT T (.of D_joined.fn)
 obtain⟨f_places_of,fd_places_of,D_places_of⟩:=T.d_places_of
 have G_places_of:FnOk P w K mg base CX0 1 f_places_of fd_places_of ["part","text"] (spD K [.v,.v] zcp):=zhI T (.of D_places_of.fn)
 refine zaY F sc_kept_by_parts zck rfl (fun _ _ h=>h) fun cdv A outer s H E hr=>?_
 have hu:=zbv hr
 exact(ssc (zcJ (i:=3) sc_kept_by_parts.nd rfl (au rfl) (zf2 zaq))
   (ssc (zhy (iir1 (by rfl) T.m_range (zac (vop zbM (vv 1) zao) zaq)) (gnm (i:=4) sc_kept_by_parts.nd rfl (au rfl))
   (ssc (zcJ (i:=5) sc_kept_by_parts.nd rfl (au rfl) (vop zc2 (vop ze1 (vv 4) (vcb zcj (by rfl) T.m_len zal (zac (vv 0) zaq))) (vop zbM (vv 1) zao)))
   (ssc (zcJ (i:=6) sc_kept_by_parts.nd rfl (au rfl) (vop zc2 (vop ze1 (vop zbM (vv 4) zao) (vcb zcj (by rfl) T.m_len zal (zac (vv 0) zaq))) (vop zbM (vv 1) zao)))
   (ss1 (zhy (iil (vcl G_places_of D_places_of hr (by rfl) zaI (zac (vsl zfI (vv 0) (vos (vv 5)) (vos (vv 6))) (zac (vv 2) zaq)))) (gnm (i:=7) sc_kept_by_parts.nd rfl (au rfl))
   (ss1 (sApp 3 (vtup (zac (vcb c_max2 (by rfl) T.m_max zf6 (zac (vop zc0 (vop zc0 (vv 7) (vv 5)) (vv 1)) (zac zao zaq))) (zac (vcb c_min2 (by rfl) T.m_min ze3 (zac (vop zbM (vop zc0 (vop zbM (vv 7) (vcb zcj (by rfl) T.m_len zal (zac (vv 0) zaq))) (vv 5)) (vv 1)) (zac (vcb zcj (by rfl) T.m_len zal (zac (vv 2) zaq)) zaq))) zaq))))))))))
   (ss1 (zcP (vcl G_joined D_joined hr (by rfl) zaI (zac (vv 3) zaq))))))
theorem zdh(T:Txt w K mg)(F:FunA K "kept_by_pieces" "kept_by_pieces" zaz f fd):FnOk P w K mg base CX0 2 f fd ["W","most","T","long"] (spD K [.v,.v,.v,.v] zaR):=by
 obtain⟨f_joined,fd_joined,D_joined⟩:=T.d_joined
 have G_joined:FnOk P w K mg base CX0 1 f_joined fd_joined ["stretches"] (spD K [.b] zdM):=zgT T (.of D_joined.fn)
 obtain⟨f_number_shared,fd_number_shared,D_number_shared⟩:=T.d_number_shared
 have G_number_shared:FnOk P w K mg base CX0 1 f_number_shared fd_number_shared ["times","other_times"] (spD K [.v,.v] zbG):=zeZ T (.of D_number_shared.fn)
 obtain⟨f_times_of_pieces,fd_times_of_pieces,D_times_of_pieces⟩:=T.d_times_of_pieces
 have G_times_of_pieces:FnOk P w K mg base CX0 1 f_times_of_pieces fd_times_of_pieces ["text","long"] (spD K [.v,.v] zaH):=zej T (.of D_times_of_pieces.fn)
 obtain⟨f_windows,fd_windows,D_windows⟩:=T.d_windows
 have G_windows:FnOk P w K mg base CX0 1 f_windows fd_windows ["word","most","text"] (spD K [.v,.v,.v] zeq):=zjt T (.of D_windows.fn)
 refine zaY F sc_kept_by_pieces zb3 rfl (fun _ _ h=>h) fun cdv A outer s H E hr=>?_
 have hu:=zbv hr
 exact(ssc (zcJ (i:=4) sc_kept_by_pieces.nd rfl (au rfl) (vop zc0 (vop zbM (vop zc0 (vcb zcj (by rfl) T.m_len zal (zac (vv 0) zaq)) (vv 3)) zao) (vop ze1 (vv 1) (vv 3))))
   (ssc (zcJ (i:=5) sc_kept_by_pieces.nd rfl (au rfl) (vcl G_times_of_pieces D_times_of_pieces hr (by rfl) zaI (zac (vv 0) (zac (vv 3) zaq))))
   (ssc (zcJ (i:=6) sc_kept_by_pieces.nd rfl (au rfl) (zf2 zaq))
   (ssc (zhy (iil (vcl G_windows D_windows hr (by rfl) zaI (zac (vv 0) (zac (vv 1) (zac (vv 2) zaq))))) (gtp rfl (zia (gnm (i:=7) sc_kept_by_pieces.nd rfl (au rfl)) (zia (gnm (i:=8) sc_kept_by_pieces.nd rfl (au rfl)) gns0)) (hl:=gl1 (gl1 (gl0))))
   (ss1 (sIf (tcm (o_ge) (vcl G_number_shared D_number_shared hr (by rfl) zaI (zac (vv 5) (zac (vcl G_times_of_pieces D_times_of_pieces hr (by rfl) zaI (zac (vsl zfI (vv 2) (vos (vv 7)) (vos (vv 8))) (zac (vv 3) zaq))) zaq))) (vv 4) (zaB _)) (ss1 (sApp 6 (vtup (zac (vv 7) (zac (vv 8) zaq))))) ss0)))
   (ss1 (zcP (vcl G_joined D_joined hr (by rfl) zaI (zac (vv 6) zaq))))))))
theorem zfx(T:Txt w K mg)(F:FunA K "first_column" "first_column" zaK f fd):FnOk P w K mg base CX0 2 f fd ["pattern","prices"] (spD K [.v,.v] zb0):=by
 obtain⟨f_stepped,fd_stepped,D_stepped⟩:=T.d_stepped
 have G_stepped:FnOk P w K mg base CX0 1 f_stepped fd_stepped ["cell","price"] (spD K [.v,.v] zbl):=zfS T (.of D_stepped.fn)
 refine zaY F sc_first_column zdb rfl (fun _ _ h=>h) fun cdv A outer s H E hr=>?_
 have hu:=zbv hr
 exact(ssc (zcJ (i:=2) sc_first_column.nd rfl (au rfl) (zf2 (zac zao zaq)))
   (ssc (zhy (iir2 (by rfl) T.m_range (zac zao (zac (vop zbM (vcb zdD (by rfl) T.m_len zal (zac (vv 0) zaq)) zao) zaq))) (gnm (i:=3) sc_first_column.nd rfl (au rfl))
   (ss1 (sApp 2 (vcl G_stepped D_stepped hr (by rfl) zaI (zac (vix zcm (vv 2) (vop zc0 (vv 3) zao) (fun _ _=>rfl)) (zac (vix zbW (vv 1) (vglI (by rfl) T.g_LEFT) (fun _ _=>rfl)) zaq))))))
   (ss1 (zcP (vct zfX (by rfl) T.m_tuple zcb (zac (vv 2) zaq))))))
theorem zeJ(T:Txt w K mg)(F:FunA K "further_column" "further_column" zaw f fd):FnOk P w K mg base CX0 2 f fd ["columns","pattern","text","prices","free"] (spD K [.b,.v,.v,.v,.v] zb4):=by
 obtain⟨f_cell_ahead_of_turn,fd_cell_ahead_of_turn,D_cell_ahead_of_turn⟩:=T.d_cell_ahead_of_turn
 have G_cell_ahead_of_turn:FnOk P w K mg base CX0 1 f_cell_ahead_of_turn fd_cell_ahead_of_turn ["columns","pattern","text","classes"] (spD K [.b,.v,.v,.v] zaT):=zdw T (.of D_cell_ahead_of_turn.fn)
 obtain⟨f_lowest,fd_lowest,D_lowest⟩:=T.d_lowest
 have G_lowest:FnOk P w K mg base CX0 1 f_lowest fd_lowest ["cells"] (spD K [.v] zcN):=zhF T (.of D_lowest.fn)
 obtain⟨f_stepped,fd_stepped,D_stepped⟩:=T.d_stepped
 have G_stepped:FnOk P w K mg base CX0 1 f_stepped fd_stepped ["cell","price"] (spD K [.v,.v] zbl):=zfS T (.of D_stepped.fn)
 refine zaY F sc_further_column zb2 rfl (fun _ _ h=>h) fun cdv A outer s H E hr=>?_
 have hu:=zbv hr
 exact(ssc (zcJ (i:=5) sc_further_column.nd rfl (au rfl) (vix zcm (vv 0) (vun zdS zao) (fun _ _=>rfl)))
   (ssc (zcJ (i:=6) sc_further_column.nd rfl (au rfl) (zf2 (zac (vif (tva (vv 4)) zao (vcl G_stepped D_stepped hr (by rfl) zaI (zac (vix zbW (vv 5) zao (fun _ _=>rfl)) (zac (vix zbW (vv 3) (vglI (by rfl) T.g_PUT) (fun _ _=>rfl)) zaq)))) zaq)))
   (ssc (zhy (iir2 (by rfl) T.m_range (zac zao (zac (vop zbM (vcb zdD (by rfl) T.m_len zal (zac (vv 1) zaq)) zao) zaq))) (gnm (i:=7) sc_further_column.nd rfl (au rfl))
   (ssc (zcJ (i:=8) sc_further_column.nd rfl (au rfl) (ziQ (o_inS) (vix zgS (vv 2) (vun zdS zao) (fun _ _=>rfl)) (vix zbW (vv 1) (vop zc0 (vv 7) zao) (fun _ _=>rfl)) (by with_unfolding_all rfl)))
   (ss1 (sApp 6 (vcl G_lowest D_lowest hr (by rfl) zaI (zac (zf2 (zac (vif (tva (vv 8)) (vix zbW (vv 5) (vop zc0 (vv 7) zao) (fun _ _=>rfl)) (vcl G_stepped D_stepped hr (by rfl) zaI (zac (vix zbW (vv 5) (vop zc0 (vv 7) zao) (fun _ _=>rfl)) (zac (vix zbW (vv 3) (vglI (by rfl) T.g_EXCHANGED) (fun _ _=>rfl)) zaq)))) (zac (vcl G_stepped D_stepped hr (by rfl) zaI (zac (vix zbW (vv 5) (vv 7) (fun _ _=>rfl)) (zac (vix zbW (vv 3) (vglI (by rfl) T.g_PUT) (fun _ _=>rfl)) zaq))) (zac (vcl G_stepped D_stepped hr (by rfl) zaI (zac (vix zcm (vv 6) (vop zc0 (vv 7) zao) (fun _ _=>rfl)) (zac (vix zbW (vv 3) (vglI (by rfl) T.g_LEFT) (fun _ _=>rfl)) zaq))) (zac (vcl G_stepped D_stepped hr (by rfl) zaI (zac (vcl G_cell_ahead_of_turn D_cell_ahead_of_turn hr (by rfl) zaI (zac (vv 0) (zac (vv 1) (zac (vv 2) (zac (vv 7) zaq))))) (zac (vix zbW (vv 3) (vglI (by rfl) T.g_TURNED) (fun _ _=>rfl)) zaq))) zaq))))) zaq))))))
   (ss1 (zcP (vct zfX (by rfl) T.m_tuple zcb (zac (vv 6) zaq)))))))
theorem zjf(T:Txt w K mg)(F:FunA K "is_done" "is_done" zcc f fd):FnOk P w K mg base CX0 2 f fd ["prices","step"] (spD K [.v,.v] zdi):=by
 obtain⟨f_step_price,fd_step_price,D_step_price⟩:=T.d_step_price
 have G_step_price:FnOk P w K mg base CX0 1 f_step_price fd_step_price ["prices","step"] (spD K [.v,.v] zbN):=zel T (.of D_step_price.fn)
 refine zaY F zjB zgP rfl (fun _ _ h=>h) fun cdv A outer s H E hr=>?_
 have hu:=zbv hr
 exact(ss1 (zcP (vor (ziQ (o_eq) (vv 1) vstr (zaB _)) (vone (ziQ (o_ne) (vcl G_step_price D_step_price hr (by rfl) zaI (zac (vv 0) (zac (vv 1) zaq))) zao (zaB _))))))
theorem zfm(T:Txt w K mg)(F:FunA K "first_lowest" "first_lowest" zaN f fd):FnOk P w K mg base CX0 2 f fd ["told"] (spD K [.v] zbX):=by
 obtain⟨f_lowest,fd_lowest,D_lowest⟩:=T.d_lowest
 have G_lowest:FnOk P w K mg base CX0 1 f_lowest fd_lowest ["cells"] (spD K [.v] zcN):=zhF T (.of D_lowest.fn)
 refine zaY F sc_first_lowest zdf rfl (fun _ _ h=>h) fun cdv A outer s H E hr=>?_
 have hu:=zbv hr
 exact(ssc (zcJ (i:=1) sc_first_lowest.nd rfl (au rfl) (vcl G_lowest D_lowest hr (by rfl) zaI (zac (vv 0) zaq)))
   (ssc (sIf (tcm (o_isN) (vv 1) zhU (zaB _)) (ss1 (zcP zhU)) ss0)
   (ss1 (zcP (vtup (zac (vbt m_idxT (vv 0) (zac (vv 1) zaq)) (zac (vv 1) zaq)))))))
theorem zfv(T:Txt w K mg)(F:FunA K "_law_letters" "_law_letters" zaL f fd):FnOk P w K mg base CX0 2 f fd ["_law_deck_here","_law_many","_law_few","_law_turn"] (spM K zaC):=by
 obtain⟨f__law_sign,fd__law_sign,D__law_sign⟩:=T.d__law_sign
 have G__law_sign:FnOk P w K mg base CX0 1 f__law_sign fd__law_sign ["_law_turn","_law_number"] (spD K [.v,.v] zav):=zeQ T (.of D__law_sign.fn)
 refine zfQ (n:=3) F sc__law_letters zct rfl (fun _ _ _ h=>h) fun cdv A outer s H E hr=>?_
 have hu:=zbv hr
 exact(ssc (zcJ (i:=4) sc__law_letters.nd rfl (au rfl) vstr)
   (ssc (zcJ (i:=5) sc__law_letters.nd rfl (au rfl) zao)
   (ssc (zhy (iir1 (by rfl) T.m_range (zac (vv 1) zaq)) (gnm (i:=6) sc__law_letters.nd rfl (au rfl))
   (ssc (sIf (tcm (o_eq) (vop zce (vv 6) zao) zao (zaB _)) (ss1 (zhO (i:=5) sc__law_letters.nd rfl (au rfl) (xpop 0))) ss0)
   (ssc (zcJ (i:=4) sc__law_letters.nd rfl (au rfl) (vop zfj (vv 4) (vcl G__law_sign D__law_sign hr (by rfl) zaI (zac (vv 3) (zac (vop zce (vv 5) (vv 2)) zaq)))))
   (ss1 (zcJ (i:=5) sc__law_letters.nd rfl (au rfl) (vop zc2 (vv 5) (vv 2)))))))
   (ss1 (sRetV 4)))))
theorem zfh(T:Txt w K mg)(F:FunA K "_law_slipped" "_law_slipped" zaM f fd):FnOk P w K mg base CX0 2 f fd ["_law_deck_here","_law_word","_law_few","_law_turn"] (spM K zaW):=by
 obtain⟨f__law_sign,fd__law_sign,D__law_sign⟩:=T.d__law_sign
 have G__law_sign:FnOk P w K mg base CX0 1 f__law_sign fd__law_sign ["_law_turn","_law_number"] (spD K [.v,.v] zav):=zeQ T (.of D__law_sign.fn)
 refine zfQ (n:=3) F sc__law_slipped zcr rfl (fun _ _ _ h=>h) fun cdv A outer s H E hr=>?_
 have hu:=zbv hr
 exact(ssc (zhO (i:=4) sc__law_slipped.nd rfl (au rfl) (xpop 0))
   (ssc (zcJ (i:=5) sc__law_slipped.nd rfl (au rfl) (vop zce (vv 4) zao))
   (ssc (zcJ (i:=4) sc__law_slipped.nd rfl (au rfl) (vop zc2 (vv 4) zao))
   (ssc (zhy (iir1 (by rfl) T.m_range (zac (vv 5) zaq)) (gnm (i:=6) sc__law_slipped.nd rfl (au rfl))
   (ssc (zcJ (i:=7) sc__law_slipped.nd rfl (au rfl) (vop zce (vop zce (vv 4) zao) (vop zbM (vcb zcj (by rfl) T.m_len zal (zac (vv 1) zaq)) zao)))
   (ssc (zcJ (i:=8) sc__law_slipped.nd rfl (au rfl) (vop zce (vop zc2 (vv 4) zao) zao))
   (ssc (zcJ (i:=9) sc__law_slipped.nd rfl (au rfl) (vix zcm (zf2 (zac (vcl G__law_sign D__law_sign hr (by rfl) zaI (zac (vv 3) (zac (vop zce (vop zc2 (vv 4) zao) (vv 2)) zaq))) (zac vstr (zac (vcl G__law_sign D__law_sign hr (by rfl) zaI (zac (vv 3) (zac (vop zce (vop zc2 (vv 4) zao) (vv 2)) zaq))) zaq)))) (vv 8) (fun _ _=>rfl)))
   (ssc (zcJ (i:=1) sc__law_slipped.nd rfl (au rfl) (vop zfj (vop zfj (vsl zfI (vv 1) von (vos (vv 7))) (vv 9)) (vsl zfI (vv 1) (vos (vop zbM (vv 7) (vct zhw (by rfl) T.m_int zew (zac (ziQ (o_gt) (vv 8) zao (zaB _)) zaq)))) von)))
   (ss1 (zcJ (i:=4) sc__law_slipped.nd rfl (au rfl) (vop zc2 (vv 4) (vop ze1 zao (vv 2))))))))))
   (ss1 (sRetV 1))))))
theorem zeH(T:Txt w K mg)(F:FunA K "kept_by_counts" "kept_by_counts" zaA f fd):FnOk P w K mg base CX0 3 f fd ["W","most","T"] (spD K [.v,.v,.v] za4):=by
 obtain⟨f_kept_by_pieces,fd_kept_by_pieces,D_kept_by_pieces⟩:=T.d_kept_by_pieces
 have G_kept_by_pieces:FnOk P w K mg base CX0 2 f_kept_by_pieces fd_kept_by_pieces ["W","most","T","long"] (spD K [.v,.v,.v,.v] zaR):=zdh T (.of D_kept_by_pieces.fn)
 refine zaY F zeG zcF rfl (fun _ _ h=>h) fun cdv A outer s H E hr=>?_
 have hu:=zbv hr
 exact(ss1 (zcP (vcl G_kept_by_pieces D_kept_by_pieces hr (by rfl) zaI (zac (vv 0) (zac (vv 1) (zac (vv 2) (zac zao zaq)))))))
theorem zd9(T:Txt w K mg)(F:FunA K "cells_of" "cells_of" zbJ f fd):FnOk P w K mg base CX0 3 f fd ["P","T","prices","free"] (spD K [.v,.v,.v,.v] zbV):=by
 obtain⟨f_first_column,fd_first_column,D_first_column⟩:=T.d_first_column
 have G_first_column:FnOk P w K mg base CX0 2 f_first_column fd_first_column ["pattern","prices"] (spD K [.v,.v] zb0):=zfx T (.of D_first_column.fn)
 obtain⟨f_further_column,fd_further_column,D_further_column⟩:=T.d_further_column
 have G_further_column:FnOk P w K mg base CX0 2 f_further_column fd_further_column ["columns","pattern","text","prices","free"] (spD K [.b,.v,.v,.v,.v] zb4):=zeJ T (.of D_further_column.fn)
 obtain⟨f_row_across,fd_row_across,D_row_across⟩:=T.d_row_across
 have G_row_across:FnOk P w K mg base CX0 1 f_row_across fd_row_across ["columns","classes"] (spD K [.b,.v] zcx):=zga T (.of D_row_across.fn)
 refine zaY F sc_cells_of zeA rfl (fun _ _ h=>h) fun cdv A outer s H E hr=>?_
 have hu:=zbv hr
 exact(ssc (zcJ (i:=4) sc_cells_of.nd rfl (bw rfl) (zf2 (zac (vcl G_first_column D_first_column hr (by rfl) zaI (zac (vv 0) (zac (vv 2) zaq))) zaq)))
   (ssc (zhy (iir2 (by rfl) T.m_range (zac zao (zac (vop zbM (vcb zcj (by rfl) T.m_len zal (zac (vv 1) zaq)) zao) zaq))) (gnm (i:=5) sc_cells_of.nd rfl (au rfl))
   (ss1 (sApp 4 (vcl G_further_column D_further_column hr (by rfl) zaI (zac (vv 4) (zac (vv 0) (zac (vsl zfI (vv 1) von (vos (vv 5))) (zac (vv 2) (zac (vv 3) zaq)))))))))
   (ss1 (zcP (vct zfX (by rfl) T.m_tuple zcb (zac (vlc (N:=["classes","columns"]) (fr:=[4]) ⟨rfl,rfl,rfl,by decide +kernel,rfl,rfl⟩ (iir1 (by rfl) T.m_range (zac (vop zbM (vcb zdD (by rfl) T.m_len zal (zac (vv 0) zaq)) zao) zaq)) (fun _ _ _ _=>by exact if0) (fun _ _ _ _=>by exact(vcl G_row_across D_row_across hr (by rfl) zaI (zac (vv 1) (zac (vv 0) zaq))))) zaq))))))
theorem zf1(T:Txt w K mg)(F:FunA K "comes_last" "comes_last" za6 f fd):FnOk P w K mg base CX0 3 f fd ["cells","pattern","text","prices","classes","signs","step"] (spD K [.v,.v,.v,.v,.v,.v,.v] zc7):=by
 obtain⟨f_can_stand,fd_can_stand,D_can_stand⟩:=T.d_can_stand
 have G_can_stand:FnOk P w K mg base CX0 1 f_can_stand fd_can_stand ["pattern","text","classes","signs","step"] (spD K [.v,.v,.v,.v,.v] zco):=zgZ T (.of D_can_stand.fn)
 obtain⟨f_is_done,fd_is_done,D_is_done⟩:=T.d_is_done
 have G_is_done:FnOk P w K mg base CX0 2 f_is_done fd_is_done ["prices","step"] (spD K [.v,.v] zdi):=zjf T (.of D_is_done.fn)
 obtain⟨f_step_price,fd_step_price,D_step_price⟩:=T.d_step_price
 have G_step_price:FnOk P w K mg base CX0 1 f_step_price fd_step_price ["prices","step"] (spD K [.v,.v] zbN):=zel T (.of D_step_price.fn)
 refine zaY F sc_comes_last zc3 rfl (fun _ _ h=>h) fun cdv A outer s H E hr=>?_
 have hu:=zbv hr
 exact(ssc (zcJ (i:=7) sc_comes_last.nd rfl (au rfl) (vop zc0 (vv 4) (vgx (by rfl) T.t_CLASSES_USED (vv 6))))
   (ssc (zcJ (i:=8) sc_comes_last.nd rfl (au rfl) (vop zc0 (vv 5) (vgx (by rfl) T.t_SIGNS_USED (vv 6))))
   (ssc (sIf (tww (tor' (tcm ((o_lt)) (vv 7) zao (zaB _)) (zgx (tcm ((o_lt)) (vv 8) zao (zaB _))))) (ss1 (zcP vbl)) ss0)
   (ssc (sIf (tww (tor' (tnt (tva (vcl G_is_done D_is_done hr (by rfl) zaI (zac (vv 3) (zac (vv 6) zaq))))) (zgx (tnt (tva (vcl G_can_stand D_can_stand hr (by rfl) zaI (zac (vv 1) (zac (vv 2) (zac (vv 7) (zac (vv 8) (zac (vv 6) zaq))))))))))) (ss1 (zcP vbl)) ss0)
   (ssc (zcJ (i:=9) sc_comes_last.nd rfl (au rfl) (vix zbW (vix zbW (vv 0) (vv 7) (fun _ _=>rfl)) (vv 8) (fun _ _=>rfl)))
   (ss1 (zcP (vand (ziQ (o_noN) (vv 9) zhU (zaB _)) (vone (ziQ (o_eq) (vop zbM (vv 9) (vcl G_step_price D_step_price hr (by rfl) zaI (zac (vv 3) (zac (vv 6) zaq)))) (vix zbW (vix zbW (vv 0) (vv 4) (fun _ _=>rfl)) (vv 5) (fun _ _=>rfl)) (zaB _)))))))))))
theorem zg7(T:Txt w K mg)(F:FunA K "_law_case" "_law_case" zbp f fd):FnOk P w K mg base CX0 3 f fd ["_law_deck_here"] (spM K zb5):=by
 obtain⟨f__law_letters,fd__law_letters,D__law_letters⟩:=T.d__law_letters
 have G__law_letters:FnOk P w K mg base CX0 2 f__law_letters fd__law_letters ["_law_deck_here","_law_many","_law_few","_law_turn"] (spM K zaC):=zfv T (.of D__law_letters.fn)
 obtain⟨f__law_slipped,fd__law_slipped,D__law_slipped⟩:=T.d__law_slipped
 have G__law_slipped:FnOk P w K mg base CX0 2 f__law_slipped fd__law_slipped ["_law_deck_here","_law_word","_law_few","_law_turn"] (spM K zaW):=zfh T (.of D__law_slipped.fn)
 refine zfQ (n:=0) F sc__law_case zdr rfl (fun _ _ _ h=>h) fun cdv A outer s H E hr=>?_
 have hu:=zbv hr
 exact(ssc (zhO (i:=1) sc__law_case.nd rfl (au rfl) (xpop 0))
   (ssc (zcJ (i:=2) sc__law_case.nd rfl (au rfl) (vop zbM zao (vop zce (vv 1) zao)))
   (ssc (zcJ (i:=3) sc__law_case.nd rfl (au rfl) (vop zce (vop zc2 (vv 1) zao) zao))
   (ssc (zcJ (i:=4) sc__law_case.nd rfl (au rfl) (vix zcm (zf2 (zac (vop zce (vop zc2 (vv 1) zao) zao) (zac (vop zce (vop zc2 (vv 1) zao) zao) (zac (vop zce (vop zc2 (vv 1) zao) zao) zaq)))) (vop zc2 (vop zce (vop zc2 (vv 1) zao) zao) zao) (fun _ _=>rfl)))
   (ssc (zcJ (i:=5) sc__law_case.nd rfl (au rfl) (vix zcm (zf2 (zac (vop zce (vop zc2 (vv 1) zao) zao) (zac (vop zce (vop zc2 (vv 1) zao) zao) (zac (vop zce (vop zc2 (vv 1) zao) zao) zaq)))) (vop zc2 (vop zce (vop zc2 (vv 1) zao) zao) zao) (fun _ _=>rfl)))
   (ssc (zhO (i:=6) sc__law_case.nd rfl (au rfl) (xco 0 G__law_letters D__law_letters hr (by rfl) zaI (zdc (zcS (vv 4)) (zdc (zcS (vv 2)) (zdc (zcS (vv 3)) xnil)))))
   (ssc (zhO (i:=7) sc__law_case.nd rfl (au rfl) (xop zfj (xco 0 G__law_letters D__law_letters hr (by rfl) zaI (zdc (xop zce (xpop 0) (zcS zao)) (zdc (zcS (vv 2)) (zdc (zcS (vv 3)) xnil)))) (xco 0 G__law_slipped D__law_slipped hr (by rfl) zaI (zdc (zcS (vv 6)) (zdc (zcS (vv 2)) (zdc (zcS (vv 3)) xnil))))))
   (ssc (zhO (i:=7) sc__law_case.nd rfl (au rfl) (xop zfj (xop zfj (zcS (vv 7)) (xco 0 G__law_letters D__law_letters hr (by rfl) zaI (zdc (xop zce (xpop 0) (zcS zao)) (zdc (zcS (vv 2)) (zdc (zcS (vv 3)) xnil))))) (xsl zfI (xco 0 G__law_slipped D__law_slipped hr (by rfl) zaI (zdc (zcS (vv 6)) (zdc (zcS (vv 2)) (zdc (zcS (vv 3)) xnil)))) xon (xos (zcS zao)))))
   (ss1 (sXRet (xlst (zdc (zcS (vv 6)) (zdc (zcS (vv 5)) (zdc (xop zfj (zcS (vv 7)) (xco 0 G__law_letters D__law_letters hr (by rfl) zaI (zdc (xop zce (xpop 0) (zcS zao)) (zdc (zcS (vv 2)) (zdc (zcS (vv 3)) xnil))))) xnil))))))))))))))
theorem zho(T:Txt w K mg)(F:FunA K "last_step" "last_step" zbq f fd):FnOk P w K mg base CX0 4 f fd ["cells","pattern","text","prices","classes","signs"] (spD K [.v,.v,.v,.v,.v,.v] zb7):=by
 obtain⟨f_comes_last,fd_comes_last,D_comes_last⟩:=T.d_comes_last
 have G_comes_last:FnOk P w K mg base CX0 3 f_comes_last fd_comes_last ["cells","pattern","text","prices","classes","signs","step"] (spD K [.v,.v,.v,.v,.v,.v,.v] zc7):=zf1 T (.of D_comes_last.fn)
 refine zaY F sc_last_step zd5 rfl (fun _ _ h=>h) fun cdv A outer s H E hr=>?_
 have hu:=zbv hr
 exact(ssc (sSetLC (i:=6) sc_last_step.nd rfl (au rfl) (N:=["step","cells","pattern","text","prices","classes","signs"]) (fr:=[0,1,2,3,4,5]) ⟨rfl,rfl,rfl,by decide +kernel,rfl,rfl⟩ (iik (by rfl) T.k_CLASSES_USED) (fun _ _ _ _=>by exact(if1 (tva (vcl G_comes_last D_comes_last hr (by rfl) zaI (zac (vv 1) (zac (vv 2) (zac (vv 3) (zac (vv 4) (zac (vv 5) (zac (vv 6) (zac (vv 0) zaq))))))))))) (fun _ _ _ _=>by exact(vv 0)))
   (ss1 (zcP (vix zcm (vv 6) zao (fun _ _=>rfl)))))
theorem zeK(T:Txt w K mg)(F:FunA K "prices_at_ends" "prices_at_ends" zay f fd):FnOk P w K mg base CX0 4 f fd ["pattern","text","prices"] (spD K [.v,.v,.v] zbx):=by
 obtain⟨f_cells_of,fd_cells_of,D_cells_of⟩:=T.d_cells_of
 have G_cells_of:FnOk P w K mg base CX0 3 f_cells_of fd_cells_of ["P","T","prices","free"] (spD K [.v,.v,.v,.v] zbV):=zd9 T D_cells_of.fn
 refine zaY F zeL zcE rfl (fun _ _ h=>h) fun cdv A outer s H E hr=>?_
 have hu:=zbv hr
 exact(ss1 (zcP (vix zbW (vclF G_cells_of D_cells_of hr (by rfl) zaI (zac (vv 0) (zac (vv 1) (zac (vv 2) (zac vbl zaq))))) (vun zdS zao) (fun _ _=>rfl))))
theorem zeg(T:Txt w K mg)(F:FunA K "prices_by_length" "prices_by_length" zap f fd):FnOk P w K mg base CX0 4 f fd ["pattern","text","prices"] (spD K [.v,.v,.v] zbe):=by
 obtain⟨f_cells_of,fd_cells_of,D_cells_of⟩:=T.d_cells_of
 have G_cells_of:FnOk P w K mg base CX0 3 f_cells_of fd_cells_of ["P","T","prices","free"] (spD K [.v,.v,.v,.v] zbV):=zd9 T D_cells_of.fn
 refine zaY F zeh zcf rfl (fun _ _ h=>h) fun cdv A outer s H E hr=>?_
 have hu:=zbv hr
 exact(ss1 (zcP (vix zbW (vclD G_cells_of D_cells_of hr (by rfl) zaI (zac (vRvT (vv 0) (vun zdS zao)) (zac (vRvS (vv 1) (vun zdS zao)) (zac (vv 2) zaq)))) (vun zdS zao) (fun _ _=>rfl))))
theorem zfH(T:Txt w K mg)(F:FunA K "row_between" "row_between" zaX f fd):FnOk P w K mg base CX0 5 f fd ["P","T","prices"] (spD K [.v,.v,.v] zcg):=by
 obtain⟨f_cells_of,fd_cells_of,D_cells_of⟩:=T.d_cells_of
 have G_cells_of:FnOk P w K mg base CX0 3 f_cells_of fd_cells_of ["P","T","prices","free"] (spD K [.v,.v,.v,.v] zbV):=zd9 T D_cells_of.fn
 obtain⟨f_last_step,fd_last_step,D_last_step⟩:=T.d_last_step
 have G_last_step:FnOk P w K mg base CX0 4 f_last_step fd_last_step ["cells","pattern","text","prices","classes","signs"] (spD K [.v,.v,.v,.v,.v,.v] zb7):=zho T (.of D_last_step.fn)
 refine zaY F sc_row_between zdn rfl (fun _ _ h=>h) fun cdv A outer s H E hr=>?_
 have hu:=zbv hr
 exact(ssc (zcJ (i:=3) sc_row_between.nd rfl (au rfl) (vclD G_cells_of D_cells_of hr (by rfl) zaI (zac (vv 0) (zac (vv 1) (zac (vv 2) zaq)))))
   (ssc (sIf (tcm (o_isN) (vix zbW (vix zbW (vv 3) (vun zdS zao) (fun _ _=>rfl)) (vun zdS zao) (fun _ _=>rfl)) zhU (zaB _)) (ss1 (zcP zhU)) ss0)
   (ssc (zcJ (i:=4) sc_row_between.nd rfl (au rfl) (zf2 zaq))
   (ssc (zcJ (i:=5) sc_row_between.nd rfl (au rfl) (vcb zdD (by rfl) T.m_len zal (zac (vv 0) zaq)))
   (ssc (zcJ (i:=6) sc_row_between.nd rfl (au rfl) (vcb zcj (by rfl) T.m_len zal (zac (vv 1) zaq)))
   (ssc (sWhl 2100 (tww (tor' (tcm (o_gt) (vv 5) zao (zaB _)) (zgx (tcm (o_gt) (vv 6) zao (zaB _)))))
   (ssc (zcJ (i:=7) sc_row_between.nd rfl (au rfl) (vcl G_last_step D_last_step hr (by rfl) zaI (zac (vv 3) (zac (vv 0) (zac (vv 1) (zac (vv 2) (zac (vv 5) (zac (vv 6) zaq))))))))
   (ssc (sApp 4 (vv 7))
   (ssc (zcJ (i:=5) sc_row_between.nd rfl (au rfl) (vop zc0 (vv 5) (vgx (by rfl) T.t_CLASSES_USED (vv 7))))
   (ss1 (zcJ (i:=6) sc_row_between.nd rfl (au rfl) (vop zc0 (vv 6) (vgx (by rfl) T.t_SIGNS_USED (vv 7)))))))))
   (ss1 (zcP (vTupRev (vv 4) (by rfl) T.m_tuple zcb (by rfl) T.m_reversed zev)))))))))
theorem zjz(T:Txt w K mg)(F:FunA K "ends_in" "ends_in" zb9 f fd):FnOk P w K mg base CX0 5 f fd ["P","T","most","prices"] (spD K [.v,.v,.v,.v] zcX):=by
 obtain⟨C_Sight,DC_Sight⟩:=T.c_Sight
 obtain⟨f_Sight___init__,fd_Sight___init__,D_Sight___init__⟩:=T.d_Sight___init__
 have G_Sight___init__:FnOk P w K mg base CX0 1 f_Sight___init__ fd_Sight___init__ ["self","most"] (spM K zbz):=zeF T D_Sight___init__.fn
 obtain⟨f_Sight_come,fd_Sight_come,D_Sight_come⟩:=T.d_Sight_come
 have G_Sight_come:FnOk P w K mg base CX0 1 f_Sight_come fd_Sight_come ["self","price"] (spM K zbL):=zgt T D_Sight_come.fn
 obtain⟨f_Sight_tell,fd_Sight_tell,D_Sight_tell⟩:=T.d_Sight_tell
 have G_Sight_tell:FnOk P w K mg base CX0 1 f_Sight_tell fd_Sight_tell ["self"] (spM K zcB):=zgs T D_Sight_tell.fn
 obtain⟨f_prices_at_ends,fd_prices_at_ends,D_prices_at_ends⟩:=T.d_prices_at_ends
 have G_prices_at_ends:FnOk P w K mg base CX0 4 f_prices_at_ends fd_prices_at_ends ["pattern","text","prices"] (spD K [.v,.v,.v] zbx):=zeK T (.of D_prices_at_ends.fn)
 refine zaY F sc_ends_in zfi rfl (fun _ _ h=>h) fun cdv A outer s H E hr=>?_
 have hu:=zbv hr
 exact(ssc (sSetO (i:=4) (by decide) sc_ends_in.nd rfl (au rfl) (vmake DC_Sight D_Sight___init__ G_Sight___init__ hr (by rfl) zaI (zac (vv 2) zaq)))
   (ssc (zhy (iit (vcl G_prices_at_ends D_prices_at_ends hr (by rfl) zaI (zac (vv 0) (zac (vv 1) (zac (vv 3) zaq))))) (gnm (i:=5) sc_ends_in.nd rfl (au rfl))
   (ss1 (sX (xmeth (ns:=["most","end","pairs"]) 4 DC_Sight D_Sight_come G_Sight_come hr zaI (zac (vv 5) zaq)))))
   (ss1 (sXRet (xmeth0 (ns:=["most","end","pairs"]) 4 DC_Sight D_Sight_tell G_Sight_tell hr zaI)))))
theorem zgp(T:Txt w K mg)(F:FunA K "stretch_at" "stretch_at" zba f fd):FnOk P w K mg base CX0 6 f fd ["P","T","end","prices"] (spD K [.v,.v,.v,.v] zbH):=by
 obtain⟨f_first_lowest,fd_first_lowest,D_first_lowest⟩:=T.d_first_lowest
 have G_first_lowest:FnOk P w K mg base CX0 2 f_first_lowest fd_first_lowest ["told"] (spD K [.v] zbX):=zfm T (.of D_first_lowest.fn)
 obtain⟨f_prices_by_length,fd_prices_by_length,D_prices_by_length⟩:=T.d_prices_by_length
 have G_prices_by_length:FnOk P w K mg base CX0 4 f_prices_by_length fd_prices_by_length ["pattern","text","prices"] (spD K [.v,.v,.v] zbe):=zeg T (.of D_prices_by_length.fn)
 obtain⟨f_row_between,fd_row_between,D_row_between⟩:=T.d_row_between
 have G_row_between:FnOk P w K mg base CX0 5 f_row_between fd_row_between ["P","T","prices"] (spD K [.v,.v,.v] zcg):=zfH T (.of D_row_between.fn)
 refine zaY F sc_stretch_at zdF rfl (fun _ _ h=>h) fun cdv A outer s H E hr=>?_
 have hu:=zbv hr
 exact(ssc (sIf (tww (tor' (tcm ((o_lt)) (vv 2) zao (zaB _)) (zgx (tcm (o_gt) (vv 2) (vcb zcj (by rfl) T.m_len zal (zac (vv 1) zaq)) (zaB _))))) (ss1 (zcP zhU)) ss0)
   (ssc (zcJ (i:=4) sc_stretch_at.nd rfl (au rfl) (vcl G_first_lowest D_first_lowest hr (by rfl) zaI (zac (vcl G_prices_by_length D_prices_by_length hr (by rfl) zaI (zac (vv 0) (zac (vsl zfI (vv 1) von (vos (vv 2))) (zac (vv 3) zaq)))) zaq)))
   (ssc (sIf (tcm (o_isN) (vv 4) zhU (zaB _)) (ss1 (zcP zhU)) ss0)
   (ssc (zcJ (i:=5) sc_stretch_at.nd rfl (au rfl) (vop zc0 (vv 2) (vix zbW (vv 4) zao (fun _ _=>rfl))))
   (ss1 (zcP (vtup (zac (vv 5) (zac (vcl G_row_between D_row_between hr (by rfl) zaI (zac (vv 0) (zac (vsl zfI (vv 1) (vos (vv 5)) (vos (vv 2))) (zac (vv 3) zaq)))) zaq)))))))))
theorem ok_law(T:Txt w K mg)(F:FunA K "law" "law" zdZ f fd):FnOk P w K mg base CX0 7 f fd ["_law_script"] (spD K [.b] g_law):=by
 obtain⟨f__law_apart,fd__law_apart,D__law_apart⟩:=T.d__law_apart
 have G__law_apart:FnOk P w K mg base CX0 1 f__law_apart fd__law_apart ["_law_kept","_law_many"] (spD K [.v,.v] zc5):=zf7 T (.of D__law_apart.fn)
 obtain⟨f__law_case,fd__law_case,D__law_case⟩:=T.d__law_case
 have G__law_case:FnOk P w K mg base CX0 3 f__law_case fd__law_case ["_law_deck_here"] (spM K zb5):=zg7 T (.of D__law_case.fn)
 obtain⟨f__law_deck,fd__law_deck,D__law_deck⟩:=T.d__law_deck
 have G__law_deck:FnOk P w K mg base CX0 1 f__law_deck fd__law_deck ["_law_cells","_law_many"] (spD K [.b,.v] zcn):=zgM T (.of D__law_deck.fn)
 obtain⟨f__law_lies,fd__law_lies,D__law_lies⟩:=T.d__law_lies
 have G__law_lies:FnOk P w K mg base CX0 1 f__law_lies fd__law_lies ["_law_begin","_law_end","_law_kept"] (spD K [.v,.v,.v] zds):=zg9 T (.of D__law_lies.fn)
 obtain⟨f_ends_in,fd_ends_in,D_ends_in⟩:=T.d_ends_in
 have G_ends_in:FnOk P w K mg base CX0 5 f_ends_in fd_ends_in ["P","T","most","prices"] (spD K [.v,.v,.v,.v] zcX):=zjz T (.of D_ends_in.fn)
 obtain⟨f_kept_by_counts,fd_kept_by_counts,D_kept_by_counts⟩:=T.d_kept_by_counts
 have G_kept_by_counts:FnOk P w K mg base CX0 3 f_kept_by_counts fd_kept_by_counts ["W","most","T"] (spD K [.v,.v,.v] za4):=zeH T (.of D_kept_by_counts.fn)
 obtain⟨f_kept_by_parts,fd_kept_by_parts,D_kept_by_parts⟩:=T.d_kept_by_parts
 have G_kept_by_parts:FnOk P w K mg base CX0 2 f_kept_by_parts fd_kept_by_parts ["W","most","T"] (spD K [.v,.v,.v] zbP):=zeY T (.of D_kept_by_parts.fn)
 obtain⟨f_kept_by_pieces,fd_kept_by_pieces,D_kept_by_pieces⟩:=T.d_kept_by_pieces
 have G_kept_by_pieces:FnOk P w K mg base CX0 2 f_kept_by_pieces fd_kept_by_pieces ["W","most","T","long"] (spD K [.v,.v,.v,.v] zaR):=zdh T (.of D_kept_by_pieces.fn)
 obtain⟨f_pattern_of,fd_pattern_of,D_pattern_of⟩:=T.d_pattern_of
 have G_pattern_of:FnOk P w K mg base CX0 1 f_pattern_of fd_pattern_of ["W"] (spD K [.v] zcd):=zgq T (.of D_pattern_of.fn)
 obtain⟨f_stretch_at,fd_stretch_at,D_stretch_at⟩:=T.d_stretch_at
 have G_stretch_at:FnOk P w K mg base CX0 6 f_stretch_at fd_stretch_at ["P","T","end","prices"] (spD K [.v,.v,.v,.v] zbH):=zgp T (.of D_stretch_at.fn)
 refine zaY F sc_law F_law rfl (fun _ _ h=>h) fun cdv A outer s H E hr=>?_
 have hu:=zbv hr
 exact(ssc (sSetL' (i:=1) (by decide) sc_law.nd rfl (au rfl) (vcl G__law_deck D__law_deck hr (by rfl) zaI (zac (vsl l_list (vv 0) von (vos zao)) (zac zao zaq))))
   (ssc (sXAsg (xco 1 G__law_case D__law_case hr (by rfl) zaI xnil) (gls rfl (zia (gnm (i:=2) sc_law.nd rfl (au rfl)) (zia (gnm (i:=3) sc_law.nd rfl (au rfl)) (zia (gnm (i:=4) sc_law.nd rfl (au rfl)) gns0))) (hl:=gl1 (gl1 (gl1 (gl0))))))
   (ssc (zcJ (i:=5) sc_law.nd rfl (au rfl) (vcl G_pattern_of D_pattern_of hr (by rfl) zaI (zac (vv 2) zaq)))
   (ssc (zcJ (i:=6) sc_law.nd rfl (au rfl) (vcl G_ends_in D_ends_in hr (by rfl) zaI (zac (vv 5) (zac (vv 4) (zac (vv 3) (zac (vtup (zac zao (zac zao (zac zao (zac zao zaq))))) zaq))))))
   (ssc (zcJ (i:=7) sc_law.nd rfl (au rfl) (zf2 (zac (vcl G_kept_by_parts D_kept_by_parts hr (by rfl) zaI (zac (vv 2) (zac (vv 3) (zac (vv 4) zaq)))) (zac (vcl G_kept_by_counts D_kept_by_counts hr (by rfl) zaI (zac (vv 2) (zac (vv 3) (zac (vv 4) zaq)))) zaq))))
   (ssc (zhO (i:=8) sc_law.nd rfl (au rfl) (xpop 1))
   (ssc (sApp 7 (vcl G_kept_by_pieces D_kept_by_pieces hr (by rfl) zaI (zac (vv 2) (zac (vv 3) (zac (vv 4) (zac (vop zbM zao (vop zce (vv 8) zao)) zaq))))))
   (sFrz 7 (ssc (zhy (iil (vv 7)) (gnm (i:=9) sc_law.nd rfl (au rfl))
   (ss1 (sIf (tnt (tva (vcl G__law_apart D__law_apart hr (by rfl) zaI (zac (vv 9) (zac (vcb zcj (by rfl) T.m_len zal (zac (vv 4) zaq)) zaq))))) (ss1 (zcP vbl)) ss0)))
   (ssc (zhy (iir1 (by rfl) T.m_range (zac (vcb c_min2 (by rfl) T.m_min ze3 (zac (vix zcm (zf2 (zac zao (zac zao zaq))) (vct zhw (by rfl) T.m_int zew (zac (ziQ (o_gt) (vcb zcj (by rfl) T.m_len zal (zac (vv 2) zaq)) zao (zaB _)) zaq)) (fun _ _=>rfl)) (zac (vcb zdD (by rfl) T.m_len zal (zac (vv 6) zaq)) zaq))) zaq)) (gnm (i:=10) sc_law.nd rfl (au rfl))
   (ssc (sAsg (vix zbW (vv 6) (vop zce (vop zbM (vop zc2 (vv 8) zao) (vop ze1 (vv 10) (vop zbM zao (vop zc2 (vcb zdD (by rfl) T.m_len zal (zac (vv 6) zaq)) zao)))) (vcb zdD (by rfl) T.m_len zal (zac (vv 6) zaq))) (fun _ _=>rfl)) (gtp rfl (zia (gnm (i:=11) sc_law.nd rfl (au rfl)) (zia (gnm (i:=12) sc_law.nd rfl (au rfl)) gns0)) (hl:=gl1 (gl1 (gl0)))))
   (ssc (sAsg (vcl G_stretch_at D_stretch_at hr (by rfl) zaI (zac (vv 5) (zac (vv 4) (zac (vv 11) (zac (vtup (zac zao (zac zao (zac zao (zac zao zaq))))) zaq))))) (gtp rfl (zia (gnm (i:=13) sc_law.nd rfl (au rfl)) (zia (gnm (i:=14) sc_law.nd rfl (au rfl)) gns0)) (hl:=gl1 (gl1 (gl0)))))
   (ss1 (zhy (iil (vv 7)) (gnm (i:=9) sc_law.nd rfl (au rfl))
   (ss1 (sIf (tnt (tva (vcl G__law_lies D__law_lies hr (by rfl) zaI (zac (vv 13) (zac (vv 11) (zac (vv 9) zaq)))))) (ss1 (zcP vbl)) ss0)))))))
   (ss1 (zcP vbl))))))))))))
end
end N44

namespace N44
open PySem L2 L3
open CE in
theorem zcR(c:Option Int)(q:Int):zbl [oD c,.int q]=aa (.val (oD (stp c q))):=by
 cases c with
 | none=>simp (disch:=omega) only[zbl,zcL,stE,stN,oD,jqc,jqa,zdA,zau,fIf,fOr,tOf,ex2,zab,aD,jqk,eC,zjH,isN,gEq,zic,zbB,toN,fNx,zbg,jqe,bOf,jqf,jra,sqO,zf9,stp,jqd,ite_self]
 | some i=>
  by_cases h:q=0
  ·simp (disch:=omega) only[zbl,zcL,stE,stN,oD,h,jqc,jqa,zdA,zau,fIf,fOr,tOf,ex2,zab,aD,jqk,eC,zjH,isN,gEq,zic,zbB,toN,fNx,zbg,jqe,bOf,jqf,jqy,jqr,jrb,jra,sqO,zf9,stp]
  ·simp (disch:=omega) only[zbl,zcL,stE,stN,oD,jqc,jqa,zdA,zau,fIf,fOr,tOf,ex2,zab,aD,jqk,eC,zjH,isN,gEq,zic,zbB,toN,fNx,zbg,jqe,bOf,jqf,h,jqz,jqr,jrb,sqO,pI0,iOf,zf9,stp]
open CE in
theorem zid(δ:En)(cs:List (Option Int)):zdj (fun d=>zed (cEn [] δ d)) (fun d=>zeb (cEn [] δ d)) (cs.map oD)=aa ((cs.filterMap id).map D.int):=by
 induction cs with
 | nil=>rfl
 | cons c cs ih=>
  rw[ay,zdj,ih]
  cases c with
  | none=>rfl
  | some i=>rfl
open CE in
theorem ziI(cs:List (Option Int))(d:D)(hd:qOf (.val d)=aa (cs.map oD))(h:cs.length<=1000000):zcN [d]=aa (.val (oD (lw cs))):=by
 have hE:eLC [] (qV (zab 0)) zed zeb [aa (.val d)]=aa (.own ((cs.filterMap id).map D.int)):=
  zeM (by unfold qV;exact hd) (zid _ cs) (by rw[aq];exact aL (List.length_filterMap_le _ _) h)
 simp (disch:=omega) only[zcN,zcL,stE,stN,jqc,jqa,zgr,zbB,ex2,aD,jqk,eC,gMinD,asL,toN,hE,zhk]
 cases hm:minI (cs.filterMap id) with
 | none=>simp (disch:=omega) only[jqa,jqc,zf9,oD,lw,hm]
 | some m=>simp (disch:=omega) only[jqa,jqc,zf9,oD,lw,hm]
open CE in
theorem lowest_eq(cs:List (Option Int))(h:cs.length<=1000000):zcN [.lst (cs.map oD)]=aa (.val (oD (lw cs))):=ziI cs _ rfl h
open CE in
theorem zi7(cs:List (Option Int))(h:cs.length<=1000000):zcN [.tup (cs.map oD)]=aa (.val (oD (lw cs))):=ziI cs _ rfl h
def zdR(c:Nat->Nat->Option Int)(n a:Nat):D:=.tup ((ak (n+1)).map fun j=>CE.oD (c a j))
theorem rowOf_at(c:Nat->Nat->Option Int)(n a:Nat){k:Int}(h0:0<=k)(h:k.toNat<=n):atI ((ak (n+1)).map fun j=>CE.oD (c a j)) k=aa (CE.oD (c a k.toNat)):=by
 refine zgn h0 ?_
 rw[ax,bo (by lia)]
 rfl
def zcq(c:Nat->Nat->Option Int)(m j:Nat):D:=.tup ((ak (m+1)).map fun i=>CE.oD (c i j))
theorem zfe(f:Nat->D)(n:Nat){k:Int}(h0:0<=k)(h:k.toNat<=n):atI ((ak (n+1)).map f) k=aa (f k.toNat):=by
 refine zgn h0 ?_
 rw[ax,bo (by lia)]
 rfl
theorem zet(f:Nat->D)(n:Nat):atI ((ak (n+1)).map f) (-1)=aa (f n):=atI_m1 (by rw[ce,bW];simp)
theorem atI_m2{α:Type}{xs:List α}{x:α}(h2:2<=xs.length)(h:xs[xs.length - 2]? = aa x):atI xs (-2)=aa x:=by
 unfold atI ixN
 rw[if_neg (by lia),if_pos (by lia)]
 show xs[(-2+(xs.length:Int)).toNat]? = _
 rw[show(-2+(xs.length:Int)).toNat=xs.length - 2 by lia]
 exact h
theorem rng_last2(f:Nat->D)(n:Nat):atI ((ak (n+1+1)).map f) (-2)=aa (f n):=by
 refine atI_m2 (by simp) ?_
 rw[aq,bI,show n+1+1 - 2=n by lia,ax,bo (by lia)]
 rfl
structure Win(c:Nat->Nat->Option Int)(fit:Nat->Nat->Bool)(P:List Str)(j:Nat)(cs:List D)(tx:List Nat):Prop where
 l:tx.length<=1000000
 c1:atI cs (-1)=aa (zcq c P.length j)
 s1:∃ t,atI tx (-1)=aa t/\∀ i,i<P.length->inS (mkS [t]) (P.getD i (mkS []))=fit i j
 two:(tx.length<2/\j=0) \/ (2<=tx.length/\0<j/\atI cs (-2)=aa (zcq c P.length (j - 1))/\∃ t,atI tx (-2)=aa t/\∀ i,i<P.length->inS (mkS [t]) (P.getD i (mkS []))=fit i (j - 1))
open CE in
theorem ahead_eq{c:Nat->Nat->Option Int}{fit:Nat->Nat->Bool}{P:List Str}{j:Nat}{cs:List D}{tx:List Nat}(W:Win c fit P j cs tx)(i:Nat)(hi:i<P.length) :
  zaT [.lst cs,.tup (P.map .str),.str (mkS tx),.int (1+(i:Int))]=aa (.val (oD (tc fit c i j))):=by
 have hl:tx.length<=1000000:=W.l
 suffices hF:zaS [aa (.bor cs),aa (.val (.tup (P.map .str))),aa (.val (.str (mkS tx))),aa (.val (.int (1+(i:Int))))]=aa (.rt (.val (oD (tc fit c i j))) [aa (.bor cs),aa (.val (.tup (P.map .str))),aa (.val (.str (mkS tx))),aa (.val (.int (1+(i:Int))))]) from
  (congrArg (fun o=>bM o _) hF).trans rfl
 have t1:=orLt (X:=zab 3) (Y:=eCB za9 (zaa (zab 2) zae)) (c:=2) (δ:=[aa (.bor cs),aa (.val (.tup (P.map .str))),aa (.val (.str (mkS tx))),aa (.val (.int (1+(i:Int))))]) rfl (zhK rfl (zat tx) hl)
 by_cases h:0<i/\2<=tx.length
 ·rcases W.two with ⟨h2,_⟩ | ⟨_,hj,q2,t',e2,g2⟩
  ·lia
  ·obtain⟨t,e1,g1⟩:=W.s1
   have hi1:i - 1<P.length:=ef (Nat.sub_le _ _) hi
   have ht:tc fit c i j=if (fit i (j - 1) && fit (i - 1) j)=true then c (i - 1) (j - 1) else ab:=by unfold tc;rw[if_pos ⟨h.1,hj⟩]
   have k1:1+(i:Int) - 1=(i:Int):=by lia
   have k2:1+(i:Int) - 2=((i - 1:Nat):Int):=by lia
   have a3:=zef D.str (mkS []) (xs:=P) (i:=(i:Int)) (dB _) (by simpa using hi)
   have a4:=zef D.str (mkS []) (xs:=P) (i:=((i - 1:Nat):Int)) (dB _) (by simpa using hi1)
   have a6:atI ((ak (P.length+1)).map fun k=>oD (c k (j - 1))) ((i - 1:Nat):Int)=aa (oD (c (i - 1) (j - 1))):=by
    rw[zfe _ _ (dB _) (by simp;lia)];rfl
   have f1:=g2 i hi
   have f2:=g1 (i - 1) hi1
   have s1:=zg1 (E:=zab 3) (F:=eC (.int 1)) (δ:=[aa (.bor cs),aa (.val (.tup (P.map .str))),aa (.val (.str (mkS tx))),aa (.val (.int (1+(i:Int))))]) rfl rfl
   have s2:=zg1 (E:=zab 3) (F:=eC (.int 2)) (δ:=[aa (.bor cs),aa (.val (.tup (P.map .str))),aa (.val (.str (mkS tx))),aa (.val (.int (1+(i:Int))))]) rfl rfl
   rw[k1] at s1
   rw[k2] at s2
   have n1:=niSS (ixSS (E:=zab 2) (F:=ex1 zeV (eC (.int 2))) rfl hl rfl e2) (ixTT (E:=zab 1) rfl s1 a3)
   have n2:=niSS (ixSS (E:=zab 2) (F:=ex1 zeV (eC (.int 1))) rfl hl rfl e1) (ixTT (E:=zab 1) rfl s2 a4)
   have t2:=orB n1 n2
   rw[dI,dI,f1,f2,<- Bool.not_and] at t2
   rw[decide_eq_false (by lia)] at t1
   refine(show zaS _=_ from zaU (zgi t1)).trans ?_
   rw[ht]
   cases v:(fit i (j - 1) && fit (i - 1) j) with
   | false=>rw[v] at t2;exact zge ((zjE t2).trans (zdu rfl))
   | true=>rw[v] at t2;exact(zaU (zgi t2)).trans (zdu (ixTT (ixLB rfl rfl q2) s2 a6))
 ·have ht:tc fit c i j=ab:=by
   unfold tc
   rw[if_neg]
   intro q
   rcases W.two with ⟨h2,hj⟩ | ⟨h2,_⟩
   ·lia
   ·exact h ⟨q.1,h2⟩
  rw[decide_eq_true (by lia)] at t1
  rw[ht]
  exact show zaS _=_ from zge ((zjE t1).trans (zdu rfl))
open CE in
theorem zh8(P:List Str)(p:Pr)(free:Bool)(fit:Nat->Nat->Bool)(k:Nat)(hk:k<P.length)(hP:P.length<=100000) :
  zbR [aa (.val (.tup (P.map .str))),aa (.val p.d),aa (.own ((ak (k+1)).map fun i=>oD (cel fit p free i 0))),aa (.val (.int (1+(k:Int))))] =
  aa (.nx [aa (.val (.tup (P.map .str))),aa (.val p.d),aa (.own ((ak (k+1+1)).map fun i=>oD (cel fit p free i 0))),aa (.val (.int (1+(k:Int))))]):=by
 have hl:(((ak (k+1)).map fun i=>oD (cel fit p free i 0))).length<1000000:=by simp;lia
 have hx:atI ((ak (k+1)).map fun i=>oD (cel fit p free i 0)) (1+(k:Int) - 1)=aa (oD (cel fit p free k 0)):=by
  rw[zfe _ _ (by lia) (by lia),show(1+(k:Int) - 1).toNat=k by lia]
 have h0:atI [D.int p.put,D.int p.left,D.int p.exch,D.int p.turn] 1=aa (.int p.left):=rfl
 have e:(ak (k+1+1)).map (fun i=>oD (cel fit p free i 0))=(ak (k+1)).map (fun i=>oD (cel fit p free i 0)) ++ [oD (cel fit p free (k+1) 0)]:=by
  rw[ce (n:=k+1),bW];rfl
 rw[e,zit]
 simp (disch:=omega) only[zbR,zgF,Pr.d,jqf,jqe,zah,zaa,ex2,zab,eC,zdO,pI0,iOf,jqa,jqc,zda,asL,hx,zcu,zei,h0,zae,zbf,zcG,asV,zcR,zaO,jqh,jqg,zaf]
open CE in
theorem firstc_eq(P:List Str)(p:Pr)(free:Bool)(fit:Nat->Nat->Bool)(hP:P.length<=100000) :
  zb0 [.tup (P.map .str),p.d]=aa (.val (zcq (cel fit p free) P.length 0)):=by
 obtain⟨δ',w1,kv,rfl⟩:=zbI (tg:=gNm 3) (f:=zbR) (fun k δ=>∃ kv,δ=[aa (.val (.tup (P.map .str))),aa (.val p.d),aa (.own ((ak (k+1)).map fun i=>oD (cel fit p free i 0))),kv])
  ((ak P.length).map fun(k:Nat)=>D.int (1+(k:Int))) 0 _ (fun k d δ hd hδ=>by
   obtain⟨kv,rfl⟩:=hδ
   rw[bq]
   rw[ax] at hd
   have hk:k<P.length:=by
    cases q:(ak P.length)[k]? with
    | none=>rw[q] at hd;cases hd
    | some z=>have:=(aO.mp q).1;simpa using this
   rw[bo hk] at hd
   cases hd
   exact⟨_,_,rfl,.inl (zh8 P p free fit k hk hP),_,rfl⟩) ⟨ab,rfl⟩
 have hb1:b62 1:=zcW (by decide)
 have hb2:b62 ((P.length:Int)+1):=zcW (by lia)
 have hn:((P.length:Int)+1 - 1).toNat=P.length:=by lia
 have hl:P.length<=100000:=hP
 simp only[aq,bI,bq] at w1
 simp only[ce (n:=0),gL,dz,ay,ci,zhz,oD_s,oD_n] at w1
 simp (disch:=omega) only[zb0,zcL,stE,stN,jqc,jqa,zdb,zau,zbE,zcH,zaa,eC,zae,jqp,jqq,Nat.reduceLeDiff,zey,asV,jra,aD,toN,zbg,sqO,zez,iR2,ex2,eCB,zab,pI0,iOf,jqi,jqj,jqh,jqg,jqe,zb1,zei,aq,zer,jre,hn,zaf,w1,zbB,jqf,zeC,asL,zf9,zcq]
open CE in
theorem zhx(P:List Str)(p:Pr)(free:Bool)(fit:Nat->Nat->Bool)(cs:List D)(tx:List Nat)(j k:Nat)(W:Win (cel fit p free) fit P j cs tx)(f8:Option Ent)(hk:k<P.length)(hP:P.length<=100000) :
  zbu [aa (.bor cs),aa (.val (.tup (P.map .str))),aa (.val (.str (mkS tx))),aa (.val p.d),aa (.val (.bl free)),aa (.val (zcq (cel fit p free) P.length j)),aa (.own ((ak (k+1)).map fun i=>oD (cel fit p free i (j+1)))),aa (.val (.int (1+(k:Int)))),f8] =
  aa (.nx [aa (.bor cs),aa (.val (.tup (P.map .str))),aa (.val (.str (mkS tx))),aa (.val p.d),aa (.val (.bl free)),aa (.val (zcq (cel fit p free) P.length j)),aa (.own ((ak (k+1+1)).map fun i=>oD (cel fit p free i (j+1)))),aa (.val (.int (1+(k:Int)))),aa (.val (.bl (fit k j)))]):=by
 have hl:(((ak (k+1)).map fun i=>oD (cel fit p free i (j+1)))).length<1000000:=by simp;lia
 have hx:atI ((ak (k+1)).map fun i=>oD (cel fit p free i (j+1))) (1+(k:Int) - 1)=aa (oD (cel fit p free k (j+1))):=by
  rw[zfe _ _ (by lia) (by lia),show(1+(k:Int) - 1).toNat=k by lia]
 obtain⟨t,a1,g1⟩:=W.s1
 have f1:=g1 k hk
 have k1:1+(k:Int) - 1=(k:Int):=by lia
 have a2:=zef D.str (mkS []) (xs:=P) (i:=(k:Int)) (dB _) (by simpa using hk)
 have a3:atI ((ak (P.length+1)).map fun i=>oD (cel fit p free i j)) (k:Int)=aa (oD (cel fit p free k j)):=by
  rw[zfe _ _ (dB _) (by simp;lia)];rfl
 have a4:atI ((ak (P.length+1)).map fun i=>oD (cel fit p free i j)) (1+(k:Int))=aa (oD (cel fit p free (k+1) j)):=by
  rw[zfe _ _ (by lia) (by lia),show(1+(k:Int)).toNat=k+1 by lia]
 rw[k1] at hx
 have e:(ak (k+1+1)).map (fun i=>oD (cel fit p free i (j+1)))=(ak (k+1)).map (fun i=>oD (cel fit p free i (j+1))) ++ [oD (cel fit p free (k+1) (j+1))]:=by
  rw[ce (n:=k+1),bW];rfl
 rw[e,zeT]
 generalize (ak (k+1)).map (fun i=>oD (cel fit p free i (j+1)))=ds at *
 have sA:=zg1 (E:=zab 7) (F:=eC (.int 1)) (δ:=[aa (.bor cs),aa (.val (.tup (P.map .str))),aa (.val (.str (mkS tx))),aa (.val p.d),aa (.val (.bl free)),aa (.val (zcq (cel fit p free) P.length j)),aa (.own ds),aa (.val (.int (1+(k:Int)))),f8]) rfl rfl
 have sB:=zg1 (E:=zab 7) (F:=eC (.int 1)) (δ:=[aa (.bor cs),aa (.val (.tup (P.map .str))),aa (.val (.str (mkS tx))),aa (.val p.d),aa (.val (.bl free)),aa (.val (zcq (cel fit p free) P.length j)),aa (.own ds),aa (.val (.int (1+(k:Int)))),aa (.val (.bl (fit k j)))]) rfl rfl
 rw[k1] at sA sB
 have v8:=inSS (ixSS (E:=zab 2) (F:=ex1 zeV (eC (.int 1))) rfl W.l rfl a1) (ixTT (E:=zab 1) rfl sA a2)
 rw[dI,f1] at v8
 have x1:=ixTT (E:=zab 5) rfl sB a3
 have x4:=ixTT (E:=zab 5) (F:=zab 7) (δ:=[aa (.bor cs),aa (.val (.tup (P.map .str))),aa (.val (.str (mkS tx))),aa (.val p.d),aa (.val (.bl free)),aa (.val (zcq (cel fit p free) P.length j)),aa (.own ds),aa (.val (.int (1+(k:Int)))),aa (.val (.bl (fit k j)))]) rfl rfl a4
 have xL:=ixLW (E:=zab 6) rfl sB hx
 have y1:=eIfI (A:=zab 8) rfl x1 ((zfw x1 (Y:=ex2 zcu (zab 3) (eC (.int 2))) (b:=.int p.exch) rfl).trans (zcR _ _))
 have y2:=(zfw x4 (Y:=ex2 zcu (zab 3) (eC (.int 0))) (b:=.int p.put) rfl).trans (zcR _ _)
 have y3:=(zfw xL (Y:=ex2 zcu (zab 3) (eC (.int 1))) (b:=.int p.left) rfl).trans (zcR _ _)
 have z4:zah [.b,.v,.v,.v] zaT (zaa (zab 0) (zaa (zab 1) (zaa (zab 2) (zaa (zab 7) zae)))) [aa (.bor cs),aa (.val (.tup (P.map .str))),aa (.val (.str (mkS tx))),aa (.val p.d),aa (.val (.bl free)),aa (.val (zcq (cel fit p free) P.length j)),aa (.own ds),aa (.val (.int (1+(k:Int)))),aa (.val (.bl (fit k j)))]=aa (.val (oD (tc fit (cel fit p free) k j))):=ahead_eq W k hk
 have y4:=(zfw z4 (Y:=ex2 zcu (zab 3) (eC (.int 3))) (b:=.int p.turn) rfl).trans (zcR _ _)
 rw[show(if fit k j=true then oD (cel fit p free k j) else oD (stp (cel fit p free k j) p.exch))=oD (if fit k j=true then cel fit p free k j else stp (cel fit p free k j) p.exch) by cases fit k j <;> rfl] at y1
 exact(show zbu _=_ from zaP v8).trans (zhN rfl ((low4 y1 y2 y3 y4).trans (lowest_eq [_,_,_,_] (show 4<=1000000 by decide))) hl)
open CE in
theorem zjb(P:List Str)(p:Pr)(free:Bool)(fit:Nat->Nat->Bool)(cs:List D)(tx:List Nat)(j:Nat)(W:Win (cel fit p free) fit P j cs tx)(hP:P.length<=100000) :
  zb4 [.lst cs,.tup (P.map .str),.str (mkS tx),p.d,.bl free]=aa (.val (zcq (cel fit p free) P.length (j+1))):=by
 obtain⟨δ',w1,kv,fv,rfl⟩:=zbI (tg:=gNm 7) (f:=zbu) (fun k δ=>∃ kv fv,δ=[aa (.bor cs),aa (.val (.tup (P.map .str))),aa (.val (.str (mkS tx))),aa (.val p.d),aa (.val (.bl free)),aa (.val (zcq (cel fit p free) P.length j)),aa (.own ((ak (k+1)).map fun i=>oD (cel fit p free i (j+1)))),kv,fv])
  ((ak P.length).map fun(k:Nat)=>D.int (1+(k:Int))) 0 _ (fun k d δ hd hδ=>by
   obtain⟨kv,fv,rfl⟩:=hδ
   rw[bq]
   rw[ax] at hd
   have hk:k<P.length:=by
    cases q:(ak P.length)[k]? with
    | none=>rw[q] at hd;cases hd
    | some z=>have:=(aO.mp q).1;simpa using this
   rw[bo hk] at hd
   cases hd
   exact⟨_,_,rfl,.inl (zhx P p free fit cs tx j k W _ hk hP),_,_,rfl⟩) ⟨ab,ab,rfl⟩
 have hb1:b62 1:=zcW (by decide)
 have hb2:b62 ((P.length:Int)+1):=zcW (by lia)
 have hn:((P.length:Int)+1 - 1).toNat=P.length:=by lia
 have hl:P.length<=100000:=hP
 have c1:=W.c1
 have a2:atI ((ak (P.length+1)).map fun i=>oD (cel fit p free i j)) 0=aa (oD (cel fit p free 0 j)):=by
  rw[zfe _ _ (by lia) (by simp)];rfl
 simp only[aq,bI,bq] at w1
 simp only[ce (n:=0),gL,dz,ay,ci,zgK] at w1
 suffices hF:∃ δ,zb2 [aa (.bor cs),aa (.val (.tup (P.map .str))),aa (.val (.str (mkS tx))),aa (.val p.d),aa (.val (.bl free)),ab,ab,ab,ab]=aa (.rt (.val (zcq (cel fit p free) P.length (j+1))) δ) from
  hF.elim fun _ h=>(congrArg (fun o=>bM o _) h).trans rfl
 have x0:=ixLB (E:=zab 0) (F:=ex1 zeV (eC (.int 1))) (δ:=[aa (.bor cs),aa (.val (.tup (P.map .str))),aa (.val (.str (mkS tx))),aa (.val p.d),aa (.val (.bl free)),ab,ab,ab,ab]) rfl rfl c1
 have y0:=eIfI (A:=zab 4) (B:=eC (.int 0)) (δ:=[aa (.bor cs),aa (.val (.tup (P.map .str))),aa (.val (.str (mkS tx))),aa (.val p.d),aa (.val (.bl free)),aa (.val (zcq (cel fit p free) P.length j)),ab,ab,ab]) rfl rfl ((zfw (ixTT (E:=zab 5) (F:=eC (.int 0)) rfl rfl a2) (Y:=ex2 zcu (zab 3) (eC (.int 0))) (b:=.int p.put) rfl).trans (zcR _ _))
 have h0:oD (if free=true then aa 0 else stp (cel fit p free 0 j) p.put)=(if free=true then D.int 0 else oD (stp (cel fit p free 0 j) p.put)):=by cases free <;> rfl
 rw[h0] at w1
 have z0:=eLst1 y0
 generalize (if free=true then D.int 0 else oD (stp (cel fit p free 0 j) p.put))=v0 at *
 have ir:iR2 (zaa (eC (.int 1)) (zaa (ex2 zbg (eCB zb1 (zaa (zab 1) zae)) (eC (.int 1))) zae)) [aa (.bor cs),aa (.val (.tup (P.map .str))),aa (.val (.str (mkS tx))),aa (.val p.d),aa (.val (.bl free)),aa (.val (zcq (cel fit p free) P.length j)),aa (.own [v0]),ab,ab]=aa ((ak P.length).map fun(k:Nat)=>D.int (1+(k:Int))):=by
  simp only[iR2,zaa,eC,ex2,eCB,zab,jqf,jqe,zae,jqc,jqa,zb1,zei,aq,zbg,pI0,iOf,hb2,jre,Int.reduceNeg,Int.reduceLT,and_self,zer,hn,zaf]
 exact⟨_,(show zb2 _=_ from zaP x0).trans ((zaU (zhm z0)).trans ((forN ir w1).trans rfl))⟩
theorem getD_in{T:List Nat}{k:Nat}(h:k<T.length):T[k]? = aa (T.getD k 0):=by
 rw[aF h,br,aF h]
 rfl
open CE in
theorem win_take(P:List Str)(T:List Nat)(c:Nat->Nat->Option Int)(k:Nat)(hk:k<T.length)(hT:T.length<=100000):Win c (zbQ P T) P k ((ak (k+1)).map fun j=>zcq c P.length j) (T.take (k+1)):=by
 have hl:(T.take (k+1)).length=k+1:=by rw[bv];lia
 refine⟨by lia,zet _ _,⟨T.getD k 0,?_,fun i _=>rfl⟩,?_⟩
 ·refine atI_m1 ?_
  rw[f7,hl,cX (by lia),show k+1 - 1=k by lia]
  exact getD_in hk
 ·by_cases h:k=0
  ·exact .inl ⟨by lia,h⟩
  ·obtain⟨n,rfl⟩:∃ n,k=n+1:=⟨k - 1,by lia⟩
   refine .inr ⟨by lia,by lia,rng_last2 _ n,T.getD n 0,?_,fun i _=>rfl⟩
   refine atI_m2 (by lia) ?_
   rw[hl,cX (by lia),show n+1+1 - 2=n by lia]
   exact getD_in (by lia)
open CE in
theorem across_eq(c:Nat->Nat->Option Int)(m n i:Nat)(hi:i<=m)(hn:n<=100000):zcx [.lst ((ak (n+1)).map fun j=>zcq c m j),.int (i:Int)]=aa (.val (zdR c n i)):=by
 have ec:eLC [1] (iB 0) zdT zcT [aa (.bor ((ak (n+1)).map fun j=>zcq c m j)),aa (.val (.int (i:Int)))]=aa (.own ((ak (n+1)).map fun j=>oD (c i j))):=by
  refine zeM (ds:=(ak (n+1)).map fun j=>zcq c m j) rfl ?_ (by simp;lia)
  refine zg8 _ _ (by simp) (fun d _=>rfl) fun k d hd=>?_
  rw[ax] at hd
  obtain⟨j,e1,e2⟩:=gR.mp hd
  subst e2
  have ha:atI ((ak (m+1)).map fun i=>oD (c i j)) (i:Int)=aa (oD (c i j)):=by
   rw[zfe _ _ (by lia) (by lia)];rfl
  refine⟨oD (c i j),?_,by rw[ax,e1];rfl⟩
  simp only[zcT,ex2,zab,cEn,zcq,jqn,jqf,jqe,jqx,jqa,capt,jqo,zcu,zei,iOf,ha,jqc,asV]
 have hl:n<=100000:=hn
 simp (disch:=omega) only[zcx,zcL,stE,stN,jqc,jqa,zdB,zbB,eCB,zaa,aD,jqk,zae,toN,ec,zeC,asL,zf9,zdR]
open CE in
theorem zgm(P:List Str)(T:List Nat)(p:Pr)(free:Bool)(hP:P.length<=100000)(hT:T.length<=100000) :
  zbV [.tup (P.map .str),.str (mkS T),p.d,.bl free]=aa (.val (.tup ((ak (P.length+1)).map fun i=>zdR (cel (zbQ P T) p free) T.length i))):=by
 obtain⟨δ',w1,kv,rfl⟩:=zbI (tg:=gNm 5) (f:=zdp) (fun k δ=>∃ kv,δ=[aa (.val (.tup (P.map .str))),aa (.val (.str (mkS T))),aa (.val p.d),aa (.val (.bl free)),aa (.own ((ak (k+1)).map fun j=>zcq (cel (zbQ P T) p free) P.length j)),kv])
  ((ak T.length).map fun(k:Nat)=>D.int (1+(k:Int))) 0 _ (fun k d δ hd hδ=>by
   obtain⟨kv,rfl⟩:=hδ
   rw[bq]
   rw[ax] at hd
   have hk:k<T.length:=by
    cases q:(ak T.length)[k]? with
    | none=>rw[q] at hd;cases hd
    | some z=>have:=(aO.mp q).1;simpa using this
   rw[bo hk] at hd
   cases hd
   have fe:=zjb P p free (zbQ P T) ((ak (k+1)).map fun j=>zcq (cel (zbQ P T) p free) P.length j) (T.take (k+1)) k (win_take P T _ k hk hT) hP
   have hl:((ak (k+1)).map fun j=>zcq (cel (zbQ P T) p free) P.length j).length<1000000:=by simp;lia
   have e:(ak (k+1+1)).map (fun j=>zcq (cel (zbQ P T) p free) P.length j)=(ak (k+1)).map (fun j=>zcq (cel (zbQ P T) p free) P.length j) ++ [zcq (cel (zbQ P T) p free) P.length (k+1)]:=by
    rw[ce (n:=k+1),bW];rfl
   have hc:zc1 T ab (aa (1+(k:Int)))=T.take (k+1):=by rw[zfc _ (by lia),show(1+(k:Int)).toNat=k+1 by lia]
   have hm:T.length<=1000000:=by lia
   refine⟨_,_,rfl,.inl ?_,aa (.val (.int (1+(k:Int)))),rfl⟩
   rw[e]
   simp (disch:=omega) only[zdp,zgF,jqh,jqg,jqf,jqe,zah,zaa,zab,eSl,oNo,oSo,jqa,iOf,jqc,zex,sOf,zat,zaO,zcD,hc,zaf,zae,zbf,zcG,asL,asV,fe]) ⟨ab,rfl⟩
 have hb1:b62 1:=zcW (by decide)
 have hb2:b62 ((T.length:Int)+1):=zcW (by lia)
 have hb3:b62 ((P.length:Int)+1):=zcW (by lia)
 have hn:((T.length:Int)+1 - 1).toNat=T.length:=by lia
 have hn3:((P.length:Int)+1).toNat=P.length+1:=by lia
 have f1:=firstc_eq P p free (zbQ P T) hP
 have hm:T.length<=1000000:=by lia
 have hm2:P.length<=100000:=hP
 simp only[aq,bI,bq] at w1
 simp only[ce (n:=0),gL,dz,ay,ci] at w1
 have ec:eLC [4] (iR1 (zaa (ex2 zbg (eCB zb1 (zaa (zab 0) zae)) (eC (.int 1))) zae)) zdT zdo [aa (.val (.tup (P.map .str))),aa (.val (.str (mkS T))),aa (.val p.d),aa (.val (.bl free)),aa (.own ((ak (T.length+1)).map fun j=>zcq (cel (zbQ P T) p free) P.length j)),kv] =
   aa (.own ((ak (P.length+1)).map fun i=>zdR (cel (zbQ P T) p free) T.length i)):=by
  refine zeM (ds:=(ak (P.length+1)).map fun(i:Nat)=>D.int (0+(i:Int))) ?_ ?_ (by simp;lia)
  ·simp (disch:=omega) only[iR1,zaa,ex2,eCB,zab,jqe,zae,jqc,jqa,zb1,zei,aq,eC,zbg,pI0,iOf,zer,hn3,zaf]
  ·refine zg8 _ _ (by simp) (fun d _=>rfl) fun k d hd=>?_
   rw[ax] at hd
   obtain⟨i,e1,e2⟩:=gR.mp hd
   subst e2
   have hi:i<=P.length:=by
    have:=bK.mp (cg e1)
    lia
   have ac:=across_eq (cel (zbQ P T) p free) P.length T.length i hi hT
   refine⟨zdR (cel (zbQ P T) p free) T.length i,?_,by rw[ax,e1];rfl⟩
   rw[show(0+(i:Int))=(i:Int) by lia]
   simp only[zdo,zah,zaa,zab,cEn,jqn,jqf,jqe,jqx,jqa,capt,jqo,zae,jqc,zbf,zcG,asL,asV,ac]
 simp only[zbg] at ec
 simp (disch:=omega) only[zbV,zcL,stE,stN,jqc,jqa,zeA,zau,zbE,zcH,zaa,zah,zab,aD,zae,toN,zbg,jqi,jqj,jqe,jqf,zbf,zcG,asV,f1,jqp,jqq,Nat.reduceLeDiff,zey,jra,jqh,jqg,sqO,zez,iR2,eC,ex2,eCB,za9,sOf,zat,zaO,zaf,pI0,iOf,zer,jre,hn,w1,zbB]
 simp (disch:=omega) only[ec,jqa,zeC,asL,jqc,zf9]
section
open CE
inductive Kd5 | same | exch | put | left | turn
def Kd5.s:Kd5->Str
 | .same=> "same" | .exch=> "exchanged" | .put=> "put" | .left=> "left" | .turn=> "turned"
def Kd5.cu:Kd5->Nat
 | .same=>1 | .exch=>1 | .put=>0 | .left=>1 | .turn=>2
def Kd5.su:Kd5->Nat
 | .same=>1 | .exch=>1 | .put=>1 | .left=>0 | .turn=>2
def Kd5.pr(p:Pr):Kd5->Int
 | .same=>0 | .exch=>p.exch | .put=>p.put | .left=>p.left | .turn=>p.turn
def Kd5.dn(p:Pr):Kd5->Bool
 | .same=>true | .exch=>decide (p.exch ≠ 0) | .put=>decide (p.put ≠ 0) | .left=>decide (p.left ≠ 0) | .turn=>decide (p.turn ≠ 0)
def Kd5.ft(f:Nat->Nat->Bool)(i j:Nat):Kd5->Bool
 | .same=>f i j | .exch=>!f i j | .put=>true | .left=>true | .turn=>f (i+1) j && f i (j+1)
structure NoK(z:Str):Prop where
 a:(z = "same")=False
 b:(z = "exchanged")=False
 c:(z = "put")=False
 d:(z = "left")=False
 e:(z = "turned")=False
 a':(("same" : Str)=z)=False
 b':(("exchanged" : Str)=z)=False
 c':(("put" : Str)=z)=False
 d':(("left" : Str)=z)=False
 e':(("turned" : Str)=z)=False
theorem zgN(p:Pr)(k:Kd5):zbN [p.d,.str k.s]=aa (.val (.int (k.pr p))):=by cases k <;> kernel_rfl
theorem is_done_k(p:Pr)(k:Kd5):zdi [p.d,.str k.s]=aa (.val (.bl (k.dn p))):=by
 have h:∀ a:Int,decide (a ≠ 0)=!decide (a=0):=fun a=>decide_not
 cases k <;> simp only[Kd5.dn,h] <;> kernel_rfl
variable (P:List Str)(T:List Nat)
theorem cls_at{i:Nat}(h:i<P.length){k:Int}(e:k=(i:Int)):atI (P.map D.str) k=aa (.str (P.getD i (mkS []))):=by
 subst e
 rw[zef D.str (mkS []) (by lia) (by lia)]
 simp
theorem sgn_at{j:Nat}(h:j<T.length){k:Int}(e:k=(j:Int)):atI T k=aa (T.getD j 0):=by
 subst e
 refine ziY ?_
 rw[aF h,br,aF h]
 rfl
def stB(f:Nat->Nat->Bool)(m n i j:Nat)(k:Kd5):Bool:=if i+k.cu<=m/\j+k.su<=n then k.ft f i j else false
theorem stG{E2 E3 X Y L0 L1:FE}{δ:En}{i j a b m n:Int}(h2:E2 δ=aa (.val (.int i)))(h3:E3 δ=aa (.val (.int j)))(hX:X δ=aa (.val (.int a)))(hY:Y δ=aa (.val (.int b)))
  (h0:L0 δ=aa (.val (.int m))) (h1:L1 δ=aa (.val (.int n))):fOr (tOf (ex2 gGt (ex2 zbg E2 X) L0)) (tOf (ex2 gGt (ex2 zbg E3 Y) L1)) δ=aa (decide (i+a > m \/ j+b > n)):=by
 by_cases c1:i+a > m
 ·simp only[fOr,tOf,ex2,h2,hX,zbg,pI0,iOf,jqa,jqc,h0,gGt,c1,jqy,bOf,jra,jrd]
 ·by_cases c2:j+b > n <;> simp only[fOr,tOf,ex2,h2,hX,zbg,pI0,iOf,jqa,jqc,h0,gGt,c1,jqz,bOf,h3,hY,h1,c2,jqy,jqr,jrb,jrc,or_self]
theorem tabC_k(k:Kd5){Z:FE}{δ:En}(h:Z δ=aa (.val (.str k.s))):ex1 (zjF [("same",1),("exchanged",1),("put",0),("left",1),("turned",2)]) Z δ=aa (.val (.int (k.cu:Int))):=by
 unfold ex1;rw[h];cases k <;> kernel_rfl
theorem tabS_k(k:Kd5){Z:FE}{δ:En}(h:Z δ=aa (.val (.str k.s))):ex1 (zjF [("same",1),("exchanged",1),("put",1),("left",0),("turned",2)]) Z δ=aa (.val (.int (k.su:Int))):=by
 unfold ex1;rw[h];cases k <;> kernel_rfl
def stδ(i j:Nat)(k:Kd5):En:=[aa (.val (.tup (P.map .str))),aa (.val (.str (mkS T))),aa (.val (.int (i:Int))),aa (.val (.int (j:Int))),aa (.val (.str k.s))]
theorem st_in{E0 E1 e1 e2:FE}{δ:En}{a b:Nat}(v0:E0 δ=aa (.val (.tup (P.map .str))))(v1:E1 δ=aa (.val (.str (mkS T))))(hl:T.length<=1000000)(h1:e1 δ=aa (.val (.int (b:Int))))(h2:e2 δ=aa (.val (.int (a:Int))))(ha:a<P.length)(hb:b<T.length) :
  ex2 gInS (ex2 zhJ E1 e1) (ex2 zcu E0 e2) δ=aa (.val (.bl (zbQ P T a b))):=by
 have a1:=cls_at P ha rfl
 have a2:=sgn_at T hb rfl
 simp only[ex2,v1,h1,zhJ,sOf,iOf,jqa,zat,hl,zaO,zcD,a2,jqc,zaf,v0,h2,zcu,zei,a1,gInS]
 rfl
theorem st_ni{E0 E1 e1 e2:FE}{δ:En}{a b:Nat}(v0:E0 δ=aa (.val (.tup (P.map .str))))(v1:E1 δ=aa (.val (.str (mkS T))))(hl:T.length<=1000000)(h1:e1 δ=aa (.val (.int (b:Int))))(h2:e2 δ=aa (.val (.int (a:Int))))(ha:a<P.length)(hb:b<T.length) :
  ex2 gNiS (ex2 zhJ E1 e1) (ex2 zcu E0 e2) δ=aa (.val (.bl (!zbQ P T a b))):=by
 have a1:=cls_at P ha rfl
 have a2:=sgn_at T hb rfl
 simp only[ex2,v1,h1,zhJ,sOf,iOf,jqa,zat,hl,zaO,zcD,a2,jqc,zaf,v0,h2,zcu,zei,a1,gNiS]
 rfl
theorem stand_k(hP:P.length<=100000)(hT:T.length<=100000)(k:Kd5)(i j:Nat)(hi:i<=P.length)(hj:j<=T.length) :
  zco [.tup (P.map .str),.str (mkS T),.int (i:Int),.int (j:Int),.str k.s]=aa (.val (.bl (stB (zbQ P T) P.length T.length i j k))):=by
 have hl:T.length<=1000000:=by lia
 have hF:zcV (stδ P T i j k)=aa (.rt (.val (.bl (stB (zbQ P T) P.length T.length i j k))) (stδ P T i j k)):=by
  have hg:=stG (E2:=zab 2) (E3:=zab 3) (δ:=stδ P T i j k) rfl rfl (tabC_k k (Z:=zab 4) rfl) (tabS_k k (Z:=zab 4) rfl) (lenT (E:=zab 0) rfl (aq _)) (zhK (E:=zab 1) rfl (zat T) hl)
  unfold stB
  by_cases c:i+k.cu<=P.length/\j+k.su<=T.length
  ·rw[if_pos c]
   obtain⟨c1,c2⟩:=c
   rw[decide_eq_false (by lia)] at hg
   refine(show zcV _=_ from zaU (zgi hg)).trans ?_
   cases k with
   | same=>exact zge ((zjE (by kernel_rfl)).trans (zdu (st_in P T rfl rfl hl rfl rfl c1 c2)))
   | exch=>exact(zaU (zgi (by kernel_rfl))).trans (zge ((zjE (by kernel_rfl)).trans (zdu (st_ni P T rfl rfl hl rfl rfl c1 c2))))
   | put=>exact(zaU (zgi (by kernel_rfl))).trans ((zaU (zgi (by kernel_rfl))).trans ((zaU (zgi (by kernel_rfl))).trans (zdu rfl)))
   | left=>exact(zaU (zgi (by kernel_rfl))).trans ((zaU (zgi (by kernel_rfl))).trans ((zaU (zgi (by kernel_rfl))).trans (zdu rfl)))
   | turn=>
    exact(zaU (zgi (by kernel_rfl))).trans ((zaU (zgi (by kernel_rfl))).trans (zge ((zjE (by kernel_rfl)).trans (zdu (eAndI (st_in P T rfl rfl hl rfl (a:=i+1) rfl (Nat.lt_of_succ_le c1) (iU c2)) (st_in P T rfl rfl hl (b:=j+1) rfl rfl (iU c1) c2))))))
  ·rw[if_neg c]
   rw[decide_eq_true (by lia)] at hg
   exact show zcV _=_ from zge ((zjE hg).trans (zdu rfl))
 exact(congrArg (fun o=>bM o _) hF).trans rfl
end
theorem alph:("abcdefghijklmnopqrstuvwxyz" : Str).cps.toList=(ak 26).map fun i=>97+i:=by decide +kernel
theorem deck_at(own:List Int)(k:Nat)(h:0<own.length):0<=(0+(k:Int)) % (own.length:Int)/\(0+(k:Int)) % (own.length:Int)<own.length:=⟨dC _ (by lia),dD _ (by lia)⟩
theorem four_at(k:Nat):∃ m:Int,atI [D.int 48271,D.int 69621,D.int 39373,D.int 16807] ((0+(k:Int)) % 4)=aa (.int m)/\0<=m/\m<=69621:=by
 have h:(0+(k:Int)) % 4=0 \/ (0+(k:Int)) % 4=1 \/ (0+(k:Int)) % 4=2 \/ (0+(k:Int)) % 4=3:=by lia
 rcases h with h | h | h | h <;> rw[h]
 ·exact⟨48271,rfl,by decide,by decide⟩
 ·exact⟨69621,rfl,by decide,by decide⟩
 ·exact⟨39373,rfl,by decide,by decide⟩
 ·exact⟨16807,rfl,by decide,by decide⟩
theorem p18:(10:Int) ^ (18:Int).toNat=1000000000000000000:=by decide
theorem g18:(0<=(18:Int)/\(18:Int)<=1000000)/\(10:Int).natAbs<18446744073709551616:=by decide
theorem pow18{δ:En}:ex2 gPow (eC (.int 10)) (eC (.int 18)) δ=aa (.val (.int 1000000000000000000)):=by
 unfold ex2 eC gPow pI
 simp only[aT,iOf,g18,and_self,zaf,p18]
theorem divB{E F:FE}{δ:En}{a b:Int}(h1:E δ=aa (.val (.int a)))(h2:F δ=aa (.val (.int b)))(hb:0<b/\b<18446744073709551616):ex2 gDivB E F δ=aa (.val (.int (a / b))):=by
 unfold ex2 gDivB pI
 simp only[h1,h2,aT,iOf,hb,and_self,zaf]
theorem deck_turn(c0 c1:Option Ent)(own row dk:List Int)(k:Nat)(x6 x7:Option Ent)(h0:0<own.length)(hr:row.length=own.length)(hk:k<1000)(hd:dk.length=k):∃ (row':List Int) (d:Int) (y6 y7:Option Ent),row'.length=own.length /\
  zbZ [c0,c1,aa (.val (.lst (own.map .int))),aa (.own (row.map .int)),aa (.own (dk.map .int)),aa (.val (.int (0+(k:Int)))),x6,x7] =
  aa (.nx [c0,c1,aa (.val (.lst (own.map .int))),aa (.own (row'.map .int)),aa (.own ((dk ++ [d]).map .int)),aa (.val (.int (0+(k:Int)))),y6,y7]):=by
 obtain⟨a1,a2⟩:=deck_at own k h0
 obtain⟨m,hm,m0,m1⟩:=four_at k
 have ow:atI (own.map D.int) ((0+(k:Int)) % (own.length:Int))=aa (.int (own.getD ((0+(k:Int)) % (own.length:Int)).toNat 0)):=zef D.int 0 a1 (by lia)
 have rw':atI (row.map D.int) ((0+(k:Int)) % (own.length:Int))=aa (.int (row.getD ((0+(k:Int)) % (own.length:Int)).toNat 0)):=zef D.int 0 a1 (by lia)
 have ix:ixN (row.map D.int).length ((0+(k:Int)) % (own.length:Int))=aa ((0+(k:Int)) % (own.length:Int)).toNat:=by
  have:=ixN_nat (n:=(row.map D.int).length) (i:=((0+(k:Int)) % (own.length:Int)).toNat) (by rw[aq];lia)
  rwa [Int.toNat_of_nonneg a1] at this
 have hlo:(own.map D.int).length=own.length:=aq _
 have hdl:(dk.map D.int).length<1000000:=by rw[aq];lia
 generalize hat:(0+(k:Int)) % (own.length:Int)=at' at *
 generalize own.getD at'.toNat 0=o at ow
 generalize hrr:row.getD at'.toNat 0=r at rw'
 have hb1:b64 (0+(k:Int)):=zdH (by lia)
 have hps:0<(own.length:Int):=by lia
 have hb3:b64 ((o+(0+(k:Int)) * (0+(k:Int)) * 16807+3 * (0+(k:Int))) % 2147483629):=zdH (by lia)
 have hb4:b64 ((o+(0+(k:Int)) * (0+(k:Int)) * 16807+3 * (0+(k:Int))) % 2147483629 * m+7):=by
  have h1:0<=(o+(0+(k:Int)) * (0+(k:Int)) * 16807+3 * (0+(k:Int))) % 2147483629:=by lia
  have h2:(o+(0+(k:Int)) * (0+(k:Int)) * 16807+3 * (0+(k:Int))) % 2147483629<=2147483629:=by lia
  generalize (o+(0+(k:Int)) * (0+(k:Int)) * 16807+3 * (0+(k:Int))) % 2147483629=u at h1 h2
  have h3:=ju h1 m0
  have h4:=Int.mul_le_mul h2 m1 m0 (by decide:(0:Int)<=2147483629)
  exact zdH (by lia)
 have s1:ex2 zbF (zab 5) (eCB zb1 (zaa (zab 2) zae)) [c0,c1,aa (.val (.lst (own.map .int))),aa (.own (row.map .int)),aa (.own (dk.map .int)),aa (.val (.int (0+(k:Int)))),x6,x7]=aa (.val (.int at')):=by
  rw[<- hat]
  simp (disch:=omega) only[ex2,zab,jqf,jqe,eCB,zaa,zae,jqc,jqa,zb1,zei,asL,hlo,zbF,pI,iOf,zdm,zaf]
 have s2:∃ v,(ex2 zbg (ex2 zd0 (ex2 zbF (ex2 zbg (ex2 zbg (ex2 zda (zab 2) (zab 6)) (ex2 zd0 (ex2 zd0 (zab 5) (zab 5)) (eC (.int 16807)))) (ex2 zd0 (eC (.int 3)) (zab 5))) (eC (.int 2147483629))) (ex2 zda (zcH (zaa (eC (.int 48271)) (zaa (eC (.int 69621)) (zaa (eC (.int 39373)) (zaa (eC (.int 16807)) zae))))) (ex2 zbF (zab 5) (eC (.int 4))))) (eC (.int 7))) [c0,c1,aa (.val (.lst (own.map .int))),aa (.own (row.map .int)),aa (.own (dk.map .int)),aa (.val (.int (0+(k:Int)))),aa (.val (.int at')),x7]=aa (.val (.int v))/\b64 v:=by
  refine⟨_,?_,hb4⟩
  simp (disch:=omega) only[ex2,zab,jqf,jqe,zda,asL,iOf,jqa,ow,jqc,zd0,pI,zes,jrc,zaf,eC,zbg,pI0,zbF,zdm,zcH,zaa,zae,jqp,jqq,Nat.reduceLeDiff,zey,asV,jra,hm]
 obtain⟨v,s2,hv⟩:=s2
 have s3:∃ d:Int,(ex2 zda (zcH (zaa (ex2 zbF (ex2 zd0 (zab 7) (zab 7)) (eC (.int 2147483629))) (zaa (ex2 zbF (ex2 zda (zab 3) (zab 6)) (ex2 gPow (eC (.int 10)) (eC (.int 18)))) zae))) (eCB zcO (zaa (ex2 gNe (ex2 zda (zab 3) (zab 6)) (eC (.int 0))) zae))) [c0,c1,aa (.val (.lst (own.map .int))),aa (.own (row.map .int)),aa (.own (dk.map .int)),aa (.val (.int (0+(k:Int)))),aa (.val (.int at')),aa (.val (.int v))]=aa (.val (.int d)):=by
  have q1:=zfP (E:=ex2 zda (zab 3) (zab 6)) (δ:=[c0,c1,aa (.val (.lst (own.map .int))),aa (.own (row.map .int)),aa (.own (dk.map .int)),aa (.val (.int (0+(k:Int)))),aa (.val (.int at')),aa (.val (.int v))]) (ixLW rfl rfl rw') pow18 (by decide)
  generalize ex2 zbF (ex2 zda (zab 3) (zab 6)) (ex2 gPow (eC (.int 10)) (eC (.int 18)))=EE at q1 ⊢
  by_cases hz:r=0
  ·refine⟨v * v % 2147483629,?_⟩
   have a0:atI [D.int (v * v % 2147483629),D.int (r % 1000000000000000000)] 0=aa (.int (v * v % 2147483629)):=rfl
   simp (disch:=omega) only[ex2,zcH,zaa,zab,jqf,jqe,zd0,pI,iOf,jqa,hv,jrc,zaf,eC,zbF,zdm,q1,hz,zae,jqc,jqp,jqq,Nat.reduceLeDiff,zey,asV,jra,eCB,zda,asL,rw',gNe,zic,jqy,jqt,zcO,jqr,jrb]
   rw[hz] at a0
   simp only[a0,cz]
  ·refine⟨r % 1000000000000000000,?_⟩
   have a0:atI [D.int (v * v % 2147483629),D.int (r % 1000000000000000000)] 1=aa (.int (r % 1000000000000000000)):=rfl
   simp (disch:=omega) only[ex2,zcH,zaa,zab,jqf,jqe,zd0,pI,iOf,jqa,hv,jrc,zaf,eC,zbF,zdm,q1,zae,jqc,jqp,jqq,Nat.reduceLeDiff,zey,asV,jra,eCB,zda,asL,rw',gNe,zic,hz,jqz,jqu,zcO,a0]
 obtain⟨d,s3⟩:=s3
 have s4:=divB (E:=ex2 zda (zab 3) (zab 6)) (δ:=[c0,c1,aa (.val (.lst (own.map .int))),aa (.own (row.map .int)),aa (.own (dk.map .int ++ [.int d])),aa (.val (.int (0+(k:Int)))),aa (.val (.int at')),aa (.val (.int v))]) (ixLW rfl rfl rw') pow18 (by decide)
 refine⟨row.set at'.toNat (r / 1000000000000000000),d,aa (.val (.int at')),aa (.val (.int v)),by rw[gH];exact hr,?_⟩
 refine(show zbZ _=_ from zaU (zeI s1)).trans ((zaU (zeI s2)).trans ((zaU (zhN rfl s3 hdl)).trans ?_))
 rw[bW,ay,ci,List.map_set]
 show fSIx 3 (zab 6) _ [c0,c1,aa (.val (.lst (own.map .int))),aa (.own (row.map .int)),aa (.own (dk.map .int ++ [.int d])),aa (.val (.int (0+(k:Int)))),aa (.val (.int at')),aa (.val (.int v))]=_
 unfold fSIx
 simp only[eD,c8,s4,aT,asV]
 simp only[zab,jqf,jqe,jqa,iOf,jqh,jqg,ix,jqc]
theorem deck_loop(c0 c1:Option Ent)(own row:List Int)(n:Nat)(h0:0<own.length)(hr:row.length=own.length)(hn:n<=1000):∃ (row' dk:List Int) (y5 y6 y7:Option Ent),dk.length=n /\
  loop (gNm 5) zbZ ((ak n).map fun(i:Nat)=>D.int (0+(i:Int))) [c0,c1,aa (.val (.lst (own.map .int))),aa (.own (row.map .int)),aa (.own []),ab,ab,ab] =
  aa (.nx [c0,c1,aa (.val (.lst (own.map .int))),aa (.own (row'.map .int)),aa (.own (dk.map .int)),y5,y6,y7]):=by
 obtain⟨δ',w1,row',dk,y5,y6,y7,_,h1,rfl⟩:=zbI (tg:=gNm 5) (f:=zbZ) (fun k δ=>∃ (row' dk:List Int) (y5 y6 y7:Option Ent),row'.length=own.length/\dk.length=k/\δ=[c0,c1,aa (.val (.lst (own.map .int))),aa (.own (row'.map .int)),aa (.own (dk.map .int)),y5,y6,y7])
  ((ak n).map fun(i:Nat)=>D.int (0+(i:Int))) 0 [c0,c1,aa (.val (.lst (own.map .int))),aa (.own (row.map .int)),aa (.own []),ab,ab,ab] (fun k d δ hd hδ=>by
   obtain⟨row',dk,y5,y6,y7,e1,e2,rfl⟩:=hδ
   have hk:k<n:=by have:=(aO.mp hd).1;simpa using this
   rw[ax,bo hk] at hd
   cases hd
   obtain⟨row2,d,z6,z7,f1,f2⟩:=deck_turn c0 c1 own row' dk k y6 y7 h0 e1 (by lia) (by lia)
   exact⟨_,_,rfl,.inl f2,row2,dk ++ [d],_,z6,z7,f1,by rw[aP,e2];rfl,rfl⟩) ⟨row,[],ab,ab,ab,hr,rfl,rfl⟩
 exact⟨row',dk,y5,y6,y7,by simpa using h1,w1⟩
theorem deck_comp(own:List Int)(δ:En):zdj (fun d=>zdT (cEn [] δ d)) (fun d=>zbY (cEn [] δ d)) (own.map D.int)=aa ((own.map fun c=>c * (if c ≥ 1000000000000000000 then 1 else 0)).map D.int):=by
 induction own with
 | nil=>rfl
 | cons x xs ih=>
  rw[ay,zdj,ih]
  have q:zbY (cEn [] δ (D.int x))=aa (.val (.int (x * (if x ≥ 1000000000000000000 then 1 else 0)))):=by
   unfold zbY cEn
   have p:=pow18 (δ:=aa (Ent.val (D.int x)) :: [])
   have b1:b64 1:=zdH (by decide)
   have b0:b64 0:=zdH (by decide)
   generalize ex2 gPow (eC (.int 10)) (eC (.int 18))=EE at p ⊢
   by_cases hx:x ≥ 1000000000000000000
   ·simp only[ex2,zab,jqo,jqe,eCB,zaa,p,gGe,pI0,iOf,jqa,jqc,hx,jqy,zae,zcO,jra,zd0,pI,Int.reduceNeg,Int.reduceLT,jre,zes,jrc,zaf]
   ·simp only[ex2,zab,jqo,jqe,eCB,zaa,p,gGe,pI0,iOf,jqa,jqc,hx,jqz,zae,zcO,jqr,jrb,zd0,pI,Int.reduceNeg,Int.reduceLT,jre,zes,jrc,zaf]
  rw[q]
  rfl
theorem deck_ok(ns:List Int)(hn:ns.length<=63):∃ dk:List Int,dk.length=30/\zcn [.lst (ns.map .int),.int 30]=aa (.own (dk.map .int)):=by
 obtain⟨own,h0,h1,s1⟩:∃ own:List Int,0<own.length/\own.length<=64/\(ex2 gCat (eCB zfY (zaa (zab 0) zae)) (ex2 gRep (zcH (zaa (eC (.int 0)) zae)) (eCB zcO (zaa (ex2 gEq (eCB zb1 (zaa (zab 0) zae)) (eC (.int 0))) zae)))) [aa (.bor (ns.map .int)),aa (.val (.int 30)),ab,ab,ab,ab,ab,ab]=aa (.own (own.map .int)):=by
  have hl:(ns.map D.int).length=ns.length:=aq _
  by_cases hz:ns.length=0
  ·refine⟨[0],by decide,by decide,?_⟩
   have hnil:ns=[]:=List.length_eq_zero_iff.mp hz
   subst hnil
   have hr:gRep (.own [.int 0]) (.val (.int 1))=aa (.own [.int 0]):=by simp (decide:=true) only[gRep,asLt,iOf,Int.reduceNeg,jqa,jrf,zaf];rfl
   simp (disch:=omega) only[ex2,eCB,zaa,zab,jqo,jqe,zae,jqc,jqa,zfY,zei,asL,zcH,eC,jqp,jqq,Nat.reduceLeDiff,zey,asV,jra,zb1,Int.ofNat_zero,gEq,zic,jqy,zcO,hr,gCat,asLt,zaO,jqj,zaf,jqn]
  ·refine⟨ns,by lia,by lia,?_⟩
   have hz':¬ (ns.length:Int)=0:=by lia
   have hr:gRep (.own [.int 0]) (.val (.int 0))=aa (.own []):=by simp (decide:=true) only[gRep,asLt,iOf,Int.reduceNeg,jqa,jrf,zaf];rfl
   simp (disch:=omega) only[ex2,eCB,zaa,zab,jqe,zae,jqc,jqa,zfY,zei,asL,zcH,eC,jqp,jqq,Nat.reduceLeDiff,zey,asV,jra,zb1,hl,gEq,zic,hz',jqz,zcO,jqr,jrb,hr,gCat,asLt,jqk,zaO,zaf]
 obtain⟨row',dk,y5,y6,y7,h2,s3⟩:=deck_loop (aa (.bor (ns.map .int))) (aa (.val (.int 30))) own (own.map fun c=>c * (if c ≥ 1000000000000000000 then 1 else 0)) 30 h0 (by simp) (by decide)
 have s2:eLC [] (iL (zab 2)) zdT zbY [aa (.bor (ns.map .int)),aa (.val (.int 30)),aa (.val (.lst (own.map .int))),ab,ab,ab,ab,ab]=aa (.own ((own.map fun c=>c * (if c ≥ 1000000000000000000 then 1 else 0)).map .int)):=
  zeM rfl (deck_comp own _) (by simp;lia)
 refine⟨dk.reverse,by rw[c9];exact h2,?_⟩
 suffices hF:zdq [aa (.bor (ns.map .int)),aa (.val (.int 30)),ab,ab,ab,ab,ab,ab]=aa (.rt (.own (dk.reverse.map .int)) [aa (.bor (ns.map .int)),aa (.val (.int 30)),aa (.val (.lst (own.map .int))),aa (.own (row'.map .int)),aa (.own (dk.map .int)),y5,y6,y7]) from (congrArg (fun o=>bM o _) hF).trans rfl
 have hb:b62 30:=zcW (by decide)
 generalize own.map D.int=ow at *
 generalize (own.map fun c=>c * (if c ≥ 1000000000000000000 then 1 else 0)).map D.int=rw0 at *
 refine(show zdq _=_ from zaU (zhm s1)).trans ?_
 simp only[fFrz,List.set_cons_succ,List.set_cons_zero,eD,c8]
 refine(zaU (zhm s2)).trans ((zaU (zhm (show zcH zae _=aa (.own []) from rfl))).trans ((forN (ds:=(ak 30).map fun(i:Nat)=>D.int (0+(i:Int))) ?_ s3).trans ?_))
 ·simp only[iR1,zaa,zab,jqf,jqe,zae,jqc,jqa,iOf,Int.reduceNeg,Int.reduceLT,jre,zer,zaf];rfl
 ·rw[eV];rfl
theorem zil{fe:FE}{δ:En}{d:D}(h:fe δ=aa (.val d)):xP fe δ=aa (d,δ):=by unfold xP;rw[h];rfl
theorem x2_i{g:Ent->Ent->Option Ent}{fa fb:FXE}{δ δ1 δ2:En}{a b d:D}(h1:fa δ=aa (a,δ1))(h2:fb δ1=aa (b,δ2))(h3:g (.val a) (.val b)=aa (.val d)):x2 g fa fb δ=aa (d,δ2):=by
 unfold x2;rw[h1];simp only[aT];rw[h2];simp only[aT,h3,asV,cz]
theorem zjG{fe:FXE}{fa:FXA}{δ δ1 δ2:En}{d:D}{ds:List D}(h1:fe δ=aa (d,δ1))(h2:fa δ1=aa (ds,δ2)):zbD fe fa δ=aa (d :: ds,δ2):=by
 unfold zbD;rw[h1];simp only[aT];rw[h2];rfl
theorem xCO_i{i:Nat}{g:GM}{fs:FXA}{δ δ1:En}{o0 o o':OT}{ds:List D}{d:D}(h0:oAt i δ=aa o0)(h1:fs δ=aa (ds,δ1))(h2:oAt i δ1=aa o)(h3:g o ds=aa (d,o')):xCO i g fs δ=aa (d,δ1.set i (aa (.obj o'))):=by
 unfold xCO;rw[h0];simp only[aT];rw[h1];simp only[aT];rw[h2];simp only[aT];rw[h3];rfl
theorem zee{i:Nat}{fx:FXE}{δ δ1:En}{d:D}(h:fx δ=aa (d,δ1)):zfE i fx δ=aa (.nx (δ1.set i (aa (.val d)))):=by unfold zfE;rw[h];rfl
theorem xLst_i{fs:FXA}{δ δ1:En}{ds:List D}(h:fs δ=aa (ds,δ1))(hl:ds.length<=1000):xLst fs δ=aa (.lst ds,δ1):=by unfold xLst;rw[h];simp only[aT];rw[if_pos hl]
theorem fXRet_i{fx:FXE}{δ δ1:En}{d:D}(h:fx δ=aa (d,δ1)):zjk fx δ=aa (.rt (.val d) δ1):=by unfold zjk;rw[h];rfl
theorem pop_i(dk:List Int)(h:0<dk.length)(i:Nat){δ:En}(hi:oAt i δ=aa (.lst (dk.map .int))):∃ d:Int,xPop i δ=aa (.int d,δ.set i (aa (.obj (.lst (dk.dropLast.map .int))))):=by
 refine⟨dk[dk.length - 1],?_⟩
 unfold xPop
 rw[hi]
 simp only[aT,lOf,aq,ax,aF (show dk.length - 1<dk.length by lia),cz,iV]
theorem alphl:("abcdefghijklmnopqrstuvwxyz" : Str).length=26:=by decide +kernel
theorem sign_ok(turn num:Int)(h:0<=turn/\turn<208)(hn:0<=num/\num<10):∃ c,zav [.int turn,.int num]=aa (.val (.str (mkS [c]))):=by
 have b1:b64 num:=zdH (by lia)
 have i0:0<=(turn+num * (1+turn / 26 % 8)) % 26:=by lia
 have i1:(turn+num * (1+turn / 26 % 8)) % 26<26:=by lia
 have ha:atI ("abcdefghijklmnopqrstuvwxyz" : Str).cps.toList ((turn+num * (1+turn / 26 % 8)) % 26)=aa (97+(ak 26).getD ((turn+num * (1+turn / 26 % 8)) % 26).toNat 0):=by
  rw[alph]
  exact zef (fun i=>97+i) 0 i0 (by simp;lia)
 refine⟨97+(ak 26).getD ((turn+num * (1+turn / 26 % 8)) % 26).toNat 0,?_⟩
 simp (disch:=omega) only[zav,zcL,stE,stN,jqc,jqa,zea,zbB,ex2,eC,zab,aD,jqk,zcQ,pI,iOf,zgu,zaf,zbF,zdm,zbg,pI0,zd0,zhJ,sOf,alphl,zaO,toN,jqe,jqf,zes,jrc,ha,zf9]
theorem zgR(dk:List Int)(m:Option Ent)(few turn c:Int)(t:List Nat)(k:Nat)(hf:2<=few/\few<=5)(ht:0<=turn/\turn<208)(hk:k<1000)(hl:t.length<1000)(hd:k % 12=0->0<dk.length) :
  ∃ (dk':List Int) (ch:Nat) (c':Int),dk'.length=(if k % 12=0 then dk.length - 1 else dk.length) /\
  zbk [aa (.obj (.lst (dk.map .int))),m,aa (.val (.int few)),aa (.val (.int turn)),aa (.val (.str (mkS t))),aa (.val (.int c)),aa (.val (.int (0+(k:Int))))] =
  aa (.nx [aa (.obj (.lst (dk'.map .int))),m,aa (.val (.int few)),aa (.val (.int turn)),aa (.val (.str (mkS (t ++ [ch])))),aa (.val (.int c')),aa (.val (.int (0+(k:Int))))]):=by
 have key:∀ (o:Option Ent) (c:Int),∃ (ch:Nat) (c':Int),(zau (zbE 4 (ex2 zd6 (zab 4) (zah [.v,.v] zav (zaa (zab 3) (zaa (ex2 zbF (zab 5) (zab 2)) zae))))) (zbE 5 (ex2 zcQ (zab 5) (zab 2)))) [o,m,aa (.val (.int few)),aa (.val (.int turn)),aa (.val (.str (mkS t))),aa (.val (.int c)),aa (.val (.int (0+(k:Int))))] =
   aa (.nx [o,m,aa (.val (.int few)),aa (.val (.int turn)),aa (.val (.str (mkS (t ++ [ch])))),aa (.val (.int c')),aa (.val (.int (0+(k:Int))))]):=by
  intro o c
  obtain⟨ch,hs⟩:=sign_ok turn (c % few) ht ⟨dC _ (by lia),by have:=dD c (show 0<few by lia);lia⟩
  refine⟨ch,c / few,?_⟩
  have e1:ex2 zbF (zab 5) (zab 2) [o,m,aa (.val (.int few)),aa (.val (.int turn)),aa (.val (.str (mkS t))),aa (.val (.int c)),aa (.val (.int (0+(k:Int))))]=aa (.val (.int (c % few))):=zfP rfl rfl (by lia)
  refine(zaU (zeI (v:=.str (mkS (t ++ [ch]))) ?_)).trans (zeI (zf3 rfl rfl (by lia)))
  have e2:zah [.v,.v] zav (zaa (zab 3) (zaa (ex2 zbF (zab 5) (zab 2)) zae)) [o,m,aa (.val (.int few)),aa (.val (.int turn)),aa (.val (.str (mkS t))),aa (.val (.int c)),aa (.val (.int (0+(k:Int))))]=aa (.val (.str (mkS [ch]))):=(zfw rfl e1).trans hs
  generalize zah [.v,.v] zav (zaa (zab 3) (zaa (ex2 zbF (zab 5) (zab 2)) zae))=CC at e2 ⊢
  have hz:t.length+1<=1000000:=by lia
  simp only[ex2,zab,jqf,jqe,e2,zd6,sOf,jqa,zat,jqp,jqq,hz,zaO,zik,zaf]
 have hc:tOf (ex2 gEq (ex2 zbF (zab 6) (eC (.int 12))) (eC (.int 0))) [aa (.obj (.lst (dk.map .int))),m,aa (.val (.int few)),aa (.val (.int turn)),aa (.val (.str (mkS t))),aa (.val (.int c)),aa (.val (.int (0+(k:Int))))]=aa (decide ((0+(k:Int)) % 12=0)):=eqTT (zfP rfl rfl (by decide)) rfl
 by_cases hz:k % 12=0
 ·rw[decide_eq_true (show(0+(k:Int)) % 12=0 by lia)] at hc
  obtain⟨d,hp⟩:=pop_i dk (hd hz) 0 (δ:=[aa (.obj (.lst (dk.map .int))),m,aa (.val (.int few)),aa (.val (.int turn)),aa (.val (.str (mkS t))),aa (.val (.int c)),aa (.val (.int (0+(k:Int))))]) rfl
  obtain⟨ch,c',e⟩:=key (aa (.obj (.lst (dk.dropLast.map .int)))) d
  exact⟨dk.dropLast,ch,c',by rw[if_pos hz,cF],(show zbk _=_ from zaU ((zjE hc).trans (zee hp))).trans e⟩
 ·rw[decide_eq_false (show ¬ (0+(k:Int)) % 12=0 by lia)] at hc
  obtain⟨ch,c',e⟩:=key (aa (.obj (.lst (dk.map .int)))) c
  exact⟨dk,ch,c',by rw[if_neg hz],(show zbk _=_ from zaU (zgi hc)).trans e⟩
theorem zfR(dk:List Int)(many few turn:Int)(hf:2<=few/\few<=5)(ht:0<=turn/\turn<208)(h0:0<=many/\many<900)(hd:(many.toNat+11) / 12<=dk.length) :
  ∃ (dk':List Int) (t:List Nat),dk'.length=dk.length - (many.toNat+11) / 12/\t.length=many.toNat/\zaC (.lst (dk.map .int)) [.int many,.int few,.int turn]=aa (.str (mkS t),.lst (dk'.map .int)):=by
 obtain⟨δ',w1,dk',t,c,x6,h1,h2,rfl⟩:=zbI (tg:=gNm 6) (f:=zbk) (fun k δ=>∃ (dk':List Int) (t:List Nat) (c:Int) (x6:Option Ent),dk'.length=dk.length - (k+11) / 12/\t.length=k/\δ=[aa (.obj (.lst (dk'.map .int))),aa (.val (.int many)),aa (.val (.int few)),aa (.val (.int turn)),aa (.val (.str (mkS t))),aa (.val (.int c)),x6])
  ((ak many.toNat).map fun(i:Nat)=>D.int (0+(i:Int))) 0 [aa (.obj (.lst (dk.map .int))),aa (.val (.int many)),aa (.val (.int few)),aa (.val (.int turn)),aa (.val (.str (mkS []))),aa (.val (.int 0)),ab] (fun k d δ hd' hδ=>by
   obtain⟨dk',t,c,x6,e1,e2,rfl⟩:=hδ
   have hk:k<many.toNat:=by have:=(aO.mp hd').1;simpa using this
   rw[ax,bo hk] at hd'
   cases hd'
   obtain⟨dk2,ch,c',f1,f2⟩:=zgR dk' (aa (.val (.int many))) few turn c t k hf ht (by lia) (by lia) (by lia)
   refine⟨_,_,rfl,.inl f2,dk2,t ++ [ch],c',_,?_,by rw[aP,e2];rfl,rfl⟩
   rw[f1]
   split <;> lia) ⟨dk,[],0,ab,by simp,rfl,rfl⟩
 simp only[aq,bI,bq] at h1 h2 w1
 refine⟨dk',t,h1,h2,?_⟩
 have hF:zct [aa (.obj (.lst (dk.map .int))),aa (.val (.int many)),aa (.val (.int few)),aa (.val (.int turn)),ab,ab,ab]=aa (.rt (.val (.str (mkS t))) [aa (.obj (.lst (dk'.map .int))),aa (.val (.int many)),aa (.val (.int few)),aa (.val (.int turn)),aa (.val (.str (mkS t))),aa (.val (.int c)),x6]):=by
  refine(show zct _=_ from zaP (v:=.str (mkS [])) rfl).trans ((zaP (v:=.int 0) rfl).trans ((forN ?_ w1).trans rfl))
  have hb:b62 many:=zcW (by lia)
  simp only[iR1,zaa,zab,jqf,jqe,zae,jqc,jqa,iOf,hb,zaf]
 unfold zaC zhH
 rw[if_pos (show [D.int many,D.int few,D.int turn].length=3 from rfl)]
 exact(congrArg (fun o=>bM o _) hF).trans rfl
theorem slip_turn(o m5:Option Ent)(few turn c:Int)(t:List Nat)(k x7 x8 x9:Option Ent)(hf:2<=few/\few<=5)(ht:0<=turn/\turn<208)(hl:t.length<1000) :
  ∃ (u:List Nat) (c':Int) (y7 y8 y9:Option Ent),u.length<=t.length+1 /\
  zbS [o,aa (.val (.str (mkS t))),aa (.val (.int few)),aa (.val (.int turn)),aa (.val (.int c)),m5,k,x7,x8,x9] =
  aa (.nx [o,aa (.val (.str (mkS u))),aa (.val (.int few)),aa (.val (.int turn)),aa (.val (.int c')),m5,k,y7,y8,y9]):=by
 have a0:0<=c % 41 % ((t.length:Int)+1):=dC _ (by lia)
 have s7:ex2 zbF (ex2 zbF (zab 4) (eC (.int 41))) (ex2 zbg (eCB za9 (zaa (zab 1) zae)) (eC (.int 1))) [o,aa (.val (.str (mkS t))),aa (.val (.int few)),aa (.val (.int turn)),aa (.val (.int c)),m5,k,x7,x8,x9]=aa (.val (.int (c % 41 % ((t.length:Int)+1)))):=
  zfP (zfP rfl rfl (by decide)) (zhn (zhK rfl (zat t) (by lia)) rfl) (by lia)
 generalize c % 41 % ((t.length:Int)+1)=at' at a0 s7
 have s8:ex2 zbF (ex2 zcQ (zab 4) (eC (.int 41))) (eC (.int 3)) [o,aa (.val (.str (mkS t))),aa (.val (.int few)),aa (.val (.int turn)),aa (.val (.int c)),m5,k,aa (.val (.int at')),x8,x9]=aa (.val (.int (c / 41 % 3))):=zfP (zf3 rfl rfl (by decide)) rfl (by decide)
 have w0:c / 41 % 3=0 \/ c / 41 % 3=1 \/ c / 41 % 3=2:=by lia
 generalize c / 41 % 3=way at s8 w0
 obtain⟨ch,hs⟩:=sign_ok turn (c / 123 % few) ht ⟨dC _ (by lia),by have:=dD (c / 123) (show 0<few by lia);lia⟩
 have e2:zah [.v,.v] zav (zaa (zab 3) (zaa (ex2 zbF (ex2 zcQ (zab 4) (eC (.int 123))) (zab 2)) zae)) [o,aa (.val (.str (mkS t))),aa (.val (.int few)),aa (.val (.int turn)),aa (.val (.int c)),m5,k,aa (.val (.int at')),aa (.val (.int way)),x9]=aa (.val (.str (mkS [ch]))):=(zfw rfl (zfP (zf3 rfl rfl (by decide)) rfl (by lia))).trans hs
 obtain⟨sg,hsg,s9⟩:∃ sg:List Nat,sg.length<=1/\ex2 zda (zcH (zaa (zah [.v,.v] zav (zaa (zab 3) (zaa (ex2 zbF (ex2 zcQ (zab 4) (eC (.int 123))) (zab 2)) zae))) (zaa (eC (.str "")) (zaa (zah [.v,.v] zav (zaa (zab 3) (zaa (ex2 zbF (ex2 zcQ (zab 4) (eC (.int 123))) (zab 2)) zae))) zae)))) (zab 8) [o,aa (.val (.str (mkS t))),aa (.val (.int few)),aa (.val (.int turn)),aa (.val (.int c)),m5,k,aa (.val (.int at')),aa (.val (.int way)),x9]=aa (.val (.str (mkS sg))):=by
  generalize zah [.v,.v] zav (zaa (zab 3) (zaa (ex2 zbF (ex2 zcQ (zab 4) (eC (.int 123))) (zab 2)) zae))=CC at e2 ⊢
  have hE:(zcH (zaa CC (zaa (eC (.str "")) (zaa CC zae)))) [o,aa (.val (.str (mkS t))),aa (.val (.int few)),aa (.val (.int turn)),aa (.val (.int c)),m5,k,aa (.val (.int at')),aa (.val (.int way)),x9]=aa (.own [.str (mkS [ch]),.str (mkS []),.str (mkS [ch])]):=by
   unfold zcH zaa zae;rw[e2];rfl
  rcases w0 with rfl | rfl | rfl
  ·exact⟨[ch],by simp,ixLO hE rfl rfl⟩
  ·exact⟨[],by simp,ixLO hE rfl rfl⟩
  ·exact⟨[ch],by simp,ixLO hE rfl rfl⟩
 obtain⟨j,hj,sj⟩:∃ j:Int,0<=j/\ex2 zbg (zab 7) (eCB zcO (zaa (ex2 gGt (zab 8) (eC (.int 0))) zae)) [o,aa (.val (.str (mkS t))),aa (.val (.int few)),aa (.val (.int turn)),aa (.val (.int c)),m5,k,aa (.val (.int at')),aa (.val (.int way)),aa (.val (.str (mkS sg)))]=aa (.val (.int (at'+j))):=by
  by_cases hw:way > 0
  ·exact⟨1,by decide,by simp only[ex2,zab,jqf,jqe,eCB,zaa,eC,gGt,pI0,iOf,jqa,jqc,hw,jqy,zae,zcO,jra,zbg]⟩
  ·exact⟨0,by decide,by simp only[ex2,zab,jqf,jqe,eCB,zaa,eC,gGt,pI0,iOf,jqa,jqc,hw,jqz,zae,zcO,jqr,jrb,zbg]⟩
 have s1:ex2 zd6 (ex2 zd6 (eSl zex (zab 1) oNo (oSo (zab 7))) (zab 9)) (eSl zex (zab 1) (oSo (ex2 zbg (zab 7) (eCB zcO (zaa (ex2 gGt (zab 8) (eC (.int 0))) zae)))) oNo) [o,aa (.val (.str (mkS t))),aa (.val (.int few)),aa (.val (.int turn)),aa (.val (.int c)),m5,k,aa (.val (.int at')),aa (.val (.int way)),aa (.val (.str (mkS sg)))] =
   aa (.val (.str (mkS ((t.take at'.toNat ++ sg) ++ t.drop (at'+j).toNat)))):=by
  generalize ex2 zbg (zab 7) (eCB zcO (zaa (ex2 gGt (zab 8) (eC (.int 0))) zae))=JJ at sj ⊢
  have c1:=zfc t a0
  have c2:=zjn t (show 0<=at'+j by lia)
  have z0:t.length<=1000000:=by lia
  have z1:(t.take at'.toNat).length+sg.length<=1000000:=by rw[bv];lia
  have z2:(t.take at'.toNat ++ sg).length+(t.drop (at'+j).toNat).length<=1000000:=by rw[aP,bv,cC];lia
  simp only[ex2,eSl,zab,jqf,jqe,oNo,oSo,jqa,iOf,jqc,zex,sOf,zat,z0,zaO,zcD,c1,zaf,zd6,z1,zik,sj,c2,z2]
 have hb:0<123 * few/\123 * few<1000000:=by lia
 have b1:b64 few:=zdH (by lia)
 have s4:ex2 zcQ (zab 4) (ex2 zd0 (eC (.int 123)) (zab 2)) [o,aa (.val (.str (mkS ((t.take at'.toNat ++ sg) ++ t.drop (at'+j).toNat)))),aa (.val (.int few)),aa (.val (.int turn)),aa (.val (.int c)),m5,k,aa (.val (.int at')),aa (.val (.int way)),aa (.val (.str (mkS sg)))]=aa (.val (.int (c / (123 * few)))):=zf3 rfl (by simp (disch:=omega) only[ex2,eC,zab,jqf,jqe,zd0,pI,iOf,jqa,zes,jrc,zaf]) hb
 refine⟨(t.take at'.toNat ++ sg) ++ t.drop (at'+j).toNat,_,_,_,_,?_,(show zbS _=_ from zaU (zeI s7)).trans ((zaU (zeI s8)).trans ((zaU (zeI s9)).trans ((zaU (zeI s1)).trans (zeI s4))))⟩
 rw[aP,aP,bv,cC]
 lia
theorem zjg(dk:List Int)(t:List Nat)(few turn:Int)(hf:2<=few/\few<=5)(ht:0<=turn/\turn<208)(hl:t.length<900)(hd:0<dk.length) :
  ∃ u:List Nat,u.length<=t.length+3/\zaW (.lst (dk.map .int)) [.str (mkS t),.int few,.int turn]=aa (.str (mkS u),.lst (dk.dropLast.map .int)):=by
 obtain⟨d,hp⟩:=pop_i dk hd 0 (δ:=[aa (.obj (.lst (dk.map .int))),aa (.val (.str (mkS t))),aa (.val (.int few)),aa (.val (.int turn)),ab,ab,ab,ab,ab,ab]) rfl
 have r0:0<=d % 4/\d % 4<4:=by lia
 obtain⟨δ',w1,u,c,x6,x7,x8,x9,h1,rfl⟩:=zbI (tg:=gNm 6) (f:=zbS) (fun k δ=>∃ (u:List Nat) (c:Int) (x6 x7 x8 x9:Option Ent),u.length<=t.length+k/\δ=[aa (.obj (.lst (dk.dropLast.map .int))),aa (.val (.str (mkS u))),aa (.val (.int few)),aa (.val (.int turn)),aa (.val (.int c)),aa (.val (.int (d % 4))),x6,x7,x8,x9])
  ((ak (d % 4).toNat).map fun(i:Nat)=>D.int (0+(i:Int))) 0 [aa (.obj (.lst (dk.dropLast.map .int))),aa (.val (.str (mkS t))),aa (.val (.int few)),aa (.val (.int turn)),aa (.val (.int (d / 4))),aa (.val (.int (d % 4))),ab,ab,ab,ab] (fun k d' δ hd' hδ=>by
   obtain⟨u,c,x6,x7,x8,x9,e1,rfl⟩:=hδ
   have hk:k<(d % 4).toNat:=by have:=(aO.mp hd').1;simpa using this
   obtain⟨v,c',y7,y8,y9,f1,f2⟩:=slip_turn (aa (.obj (.lst (dk.dropLast.map .int)))) (aa (.val (.int (d % 4)))) few turn c u (aa (.val d')) x7 x8 x9 hf ht (by lia)
   exact⟨_,_,rfl,.inl f2,v,c',_,y7,y8,y9,by lia,rfl⟩) ⟨t,d / 4,ab,ab,ab,ab,by lia,rfl⟩
 simp only[aq,bI,bq] at h1 w1
 refine⟨u,by lia,?_⟩
 have hF:zcr [aa (.obj (.lst (dk.map .int))),aa (.val (.str (mkS t))),aa (.val (.int few)),aa (.val (.int turn)),ab,ab,ab,ab,ab,ab]=aa (.rt (.val (.str (mkS u))) [aa (.obj (.lst (dk.dropLast.map .int))),aa (.val (.str (mkS u))),aa (.val (.int few)),aa (.val (.int turn)),aa (.val (.int c)),aa (.val (.int (d % 4))),x6,x7,x8,x9]):=by
  refine(show zcr _=_ from zaU (zee hp)).trans ((zaP (v:=.int (d % 4)) (zfP rfl rfl (by decide))).trans ((zaP (v:=.int (d / 4)) (zf3 rfl rfl (by decide))).trans ((forN ?_ w1).trans rfl)))
  have hb:b62 (d % 4):=zcW (by lia)
  simp only[iR1,zaa,zab,jqf,jqe,zae,jqc,jqa,iOf,hb,zaf]
 unfold zaW zhH
 rw[if_pos (show [D.str (mkS t),D.int few,D.int turn].length=3 from rfl)]
 exact(congrArg (fun o=>bM o _) hF).trans rfl
theorem zgy(dk:List Int)(n few turn:Int)(c1 x4 x5 x6 x7:Option Ent)(hf:2<=few/\few<=5)(ht:0<=turn/\turn<208)(hn:0<n/\n<=16)(hd:3<=dk.length) :
  ∃ (dk':List Int) (t:List Nat),dk.length<=dk'.length+3/\(n<=13->dk.length<=dk'.length+2)/\t.length<16/\xCO 0 zaC (zbD (x2 zbF (xPop 0) (xP (eC (.int n)))) (zbD (xP (zab 2)) (zbD (xP (zab 3)) zhL))) [aa (.obj (.lst (dk.map .int))),c1,aa (.val (.int few)),aa (.val (.int turn)),x4,x5,x6,x7] =
   aa (.str (mkS t),[aa (.obj (.lst (dk'.map .int))),c1,aa (.val (.int few)),aa (.val (.int turn)),x4,x5,x6,x7]):=by
 obtain⟨d,hp⟩:=pop_i dk (by lia) 0 (δ:=[aa (.obj (.lst (dk.map .int))),c1,aa (.val (.int few)),aa (.val (.int turn)),x4,x5,x6,x7]) rfl
 have m0:0<=d % n:=dC _ (by lia)
 have m1:d % n<n:=dD _ (by lia)
 have hm:zbF (.val (.int d)) (.val (.int n))=aa (.val (.int (d % n))):=by simp (disch:=omega) only[zbF,pI,iOf,jqa,zdm,zaf]
 have hdl:dk.dropLast.length=dk.length - 1:=cF
 obtain⟨dk',t,h1,h2,h3⟩:=zfR dk.dropLast (d % n) few turn hf ht (by lia) (by lia)
 refine⟨dk',t,by lia,by lia,by lia,?_⟩
 exact(xCO_i (i:=0) (δ1:=[aa (.obj (.lst (dk.dropLast.map .int))),c1,aa (.val (.int few)),aa (.val (.int turn)),x4,x5,x6,x7]) (o0:=.lst (dk.map .int)) rfl (zjG (x2_i hp (zil rfl) hm) (zjG (zil rfl) (zjG (zil rfl) rfl))) rfl h3).trans rfl
theorem zi2(dk:List Int)(t:List Nat)(few turn:Int)(c1 x4 x5 x7:Option Ent)(hf:2<=few/\few<=5)(ht:0<=turn/\turn<208)(hl:t.length<900)(hd:0<dk.length) :
  ∃ u:List Nat,u.length<=t.length+3/\xCO 0 zaW (zbD (xP (zab 6)) (zbD (xP (zab 2)) (zbD (xP (zab 3)) zhL))) [aa (.obj (.lst (dk.map .int))),c1,aa (.val (.int few)),aa (.val (.int turn)),x4,x5,aa (.val (.str (mkS t))),x7] =
   aa (.str (mkS u),[aa (.obj (.lst (dk.dropLast.map .int))),c1,aa (.val (.int few)),aa (.val (.int turn)),x4,x5,aa (.val (.str (mkS t))),x7]):=by
 obtain⟨u,h1,h2⟩:=zjg dk t few turn hf ht hl hd
 exact⟨u,h1,(xCO_i (i:=0) (δ1:=[aa (.obj (.lst (dk.map .int))),c1,aa (.val (.int few)),aa (.val (.int turn)),x4,x5,aa (.val (.str (mkS t))),x7]) (o0:=.lst (dk.map .int)) rfl (zjG (zil rfl) (zjG (zil rfl) (zjG (zil rfl) rfl))) rfl h2).trans rfl⟩
theorem addS(a b:List Nat)(h:a.length+b.length<=1000000):zd6 (.val (.str (mkS a))) (.val (.str (mkS b)))=aa (.val (.str (mkS (a ++ b)))):=by
 simp only[zd6,sOf,jqa,zat,h,zaO,zik,zaf]
theorem ziC(a b c i:Int)(h:0<=i/\i<3):∃ m,(m=a \/ m=b \/ m=c)/\atI [D.int a,D.int b,D.int c] i=aa (.int m):=by
 have:i=0 \/ i=1 \/ i=2:=by lia
 rcases this with rfl | rfl | rfl
 ·exact⟨a,.inl rfl,rfl⟩
 ·exact⟨b,.inr (.inl rfl),rfl⟩
 ·exact⟨c,.inr (.inr rfl),rfl⟩
theorem lst3{A B C:FE}{δ:En}{a b c:D}(hA:A δ=aa (.val a))(hB:B δ=aa (.val b))(hC:C δ=aa (.val c)):zcH (zaa A (zaa B (zaa C zae))) δ=aa (.own [a,b,c]):=by
 unfold zcH zaa zae;rw[hA];simp only[aT];rw[hB];simp only[aT];rw[hC];rfl
theorem divB7{E F:FE}{δ:En}{a b:Int}(h1:E δ=aa (.val (.int a)))(h2:F δ=aa (.val (.int b)))(hb:0<b/\b<1000000000):ex2 zcQ E F δ=aa (.val (.int (a / b))):=by simp (disch:=omega) only[ex2,h1,h2,zcQ,pI,iOf,jqa,zgu,zaf]
theorem case_ok(dk:List Int)(hd:dk.length=30):∃ (dk':List Int) (w t:List Nat) (m:Int),1<=dk'.length/\w.length<=40/\0<=m/\m<=40/\t.length<=300/\zb5 (.lst (dk.map .int)) []=aa (.lst [.str (mkS w),.int m,.str (mkS t)],.lst (dk'.map .int)):=by
 obtain⟨c,hp⟩:=pop_i dk (by lia) 0 (δ:=[aa (.obj (.lst (dk.map .int))),ab,ab,ab,ab,ab,ab,ab]) rfl
 have hd1:dk.dropLast.length=29:=by rw[cF,hd]
 generalize dk.dropLast=d1 at hp hd1
 have hf:2<=2+c % 4/\2+c % 4<=5:=by lia
 have ht:0<=c / 4 % 208/\c / 4 % 208<208:=by lia
 obtain⟨lg,hlg,alg⟩:=ziC (c / 832 % 13) (c / 832 % 7) (c / 832 % 41) (c / 40000 % 8 / 3) (by lia)
 obtain⟨ms,hms,ams⟩:=ziC (c / 400000 % 4) (c / 400000 % 7) (c / 400000 % 41) (c / 20000000 % 6 / 2) (by lia)
 have hlg':0<=lg/\lg<=40:=by lia
 have hms':0<=ms/\ms<=40:=by lia
 have s2:ex2 zbg (eC (.int 2)) (ex2 zbF (zab 1) (eC (.int 4))) [aa (.obj (.lst (d1.map .int))),aa (.val (.int c)),ab,ab,ab,ab,ab,ab]=aa (.val (.int (2+c % 4))):=zhn rfl (zfP rfl rfl (by decide))
 generalize 2+c % 4=few at hf s2
 have s3:ex2 zbF (ex2 zcQ (zab 1) (eC (.int 4))) (eC (.int 208)) [aa (.obj (.lst (d1.map .int))),aa (.val (.int c)),aa (.val (.int few)),ab,ab,ab,ab,ab]=aa (.val (.int (c / 4 % 208))):=zfP (zf3 rfl rfl (by decide)) rfl (by decide)
 generalize c / 4 % 208=turn at ht s3
 have s4:ex2 zda (zcH (zaa (ex2 zbF (ex2 zcQ (zab 1) (eC (.int 832))) (eC (.int 13))) (zaa (ex2 zbF (ex2 zcQ (zab 1) (eC (.int 832))) (eC (.int 7))) (zaa (ex2 zbF (ex2 zcQ (zab 1) (eC (.int 832))) (eC (.int 41))) zae)))) (ex2 zcQ (ex2 zbF (ex2 zcQ (zab 1) (eC (.int 40000))) (eC (.int 8))) (eC (.int 3))) [aa (.obj (.lst (d1.map .int))),aa (.val (.int c)),aa (.val (.int few)),aa (.val (.int turn)),ab,ab,ab,ab]=aa (.val (.int lg)):=
  ixLO (lst3 (zfP (zf3 rfl rfl (by decide)) rfl (by decide)) (zfP (zf3 rfl rfl (by decide)) rfl (by decide)) (zfP (zf3 rfl rfl (by decide)) rfl (by decide))) (zf3 (zfP (zf3 rfl rfl (by decide)) rfl (by decide)) rfl (by decide)) alg
 have s5:ex2 zda (zcH (zaa (ex2 zbF (ex2 zcQ (zab 1) (eC (.int 400000))) (eC (.int 4))) (zaa (ex2 zbF (ex2 zcQ (zab 1) (eC (.int 400000))) (eC (.int 7))) (zaa (ex2 zbF (ex2 zcQ (zab 1) (eC (.int 400000))) (eC (.int 41))) zae)))) (ex2 zcQ (ex2 zbF (ex2 zcQ (zab 1) (eC (.int 20000000))) (eC (.int 6))) (eC (.int 2))) [aa (.obj (.lst (d1.map .int))),aa (.val (.int c)),aa (.val (.int few)),aa (.val (.int turn)),aa (.val (.int lg)),ab,ab,ab]=aa (.val (.int ms)):=
  ixLO (lst3 (zfP (zf3 rfl rfl (by decide)) rfl (by decide)) (zfP (zf3 rfl rfl (by decide)) rfl (by decide)) (zfP (zf3 rfl rfl (by decide)) rfl (by decide))) (zf3 (zfP (divB7 rfl rfl (by decide)) rfl (by decide)) rfl (by decide)) ams
 obtain⟨d2,w,w1,w2,w3⟩:=zfR d1 lg few turn hf ht (by lia) (by lia)
 have s6:xCO 0 zaC (zbD (xP (zab 4)) (zbD (xP (zab 2)) (zbD (xP (zab 3)) zhL))) [aa (.obj (.lst (d1.map .int))),aa (.val (.int c)),aa (.val (.int few)),aa (.val (.int turn)),aa (.val (.int lg)),aa (.val (.int ms)),ab,ab]=aa (.str (mkS w),[aa (.obj (.lst (d2.map .int))),aa (.val (.int c)),aa (.val (.int few)),aa (.val (.int turn)),aa (.val (.int lg)),aa (.val (.int ms)),ab,ab]):=
  (xCO_i (i:=0) (δ1:=[aa (.obj (.lst (d1.map .int))),aa (.val (.int c)),aa (.val (.int few)),aa (.val (.int turn)),aa (.val (.int lg)),aa (.val (.int ms)),ab,ab]) (o0:=.lst (d1.map .int)) rfl (zjG (zil rfl) (zjG (zil rfl) (zjG (zil rfl) rfl))) rfl w3).trans rfl
 have hd2:25<=d2.length:=by lia
 obtain⟨d3,t1,p1,_,p2,p3⟩:=zgy d2 16 few turn (aa (.val (.int c))) (aa (.val (.int lg))) (aa (.val (.int ms))) (aa (.val (.str (mkS w)))) ab hf ht (by decide) (by lia)
 obtain⟨u1,q1,q2⟩:=zi2 d3 w few turn (aa (.val (.int c))) (aa (.val (.int lg))) (aa (.val (.int ms))) ab hf ht (by lia) (by lia)
 have l3:d3.dropLast.length=d3.length - 1:=cF
 have s7:=x2_i p3 q2 (addS t1 u1 (by lia))
 generalize d3.dropLast=d4 at l3 q2 s7
 obtain⟨tx,htx⟩:∃ tx,tx=t1 ++ u1:=⟨_,rfl⟩
 have ltx:tx.length<=15+43:=by rw[htx,aP];lia
 rw[<- htx] at s7
 obtain⟨d5,t2,p4,_,p5,p6⟩:=zgy d4 12 few turn (aa (.val (.int c))) (aa (.val (.int lg))) (aa (.val (.int ms))) (aa (.val (.str (mkS w)))) (aa (.val (.str (mkS tx)))) hf ht (by decide) (by lia)
 obtain⟨u2,q3,q4⟩:=zi2 d5 w few turn (aa (.val (.int c))) (aa (.val (.int lg))) (aa (.val (.int ms))) (aa (.val (.str (mkS tx)))) hf ht (by lia) (by lia)
 have l5:d5.dropLast.length=d5.length - 1:=cF
 generalize d5.dropLast=d6 at l5 q4
 have s8:xSl zex (xCO 0 zaW (zbD (xP (zab 6)) (zbD (xP (zab 2)) (zbD (xP (zab 3)) zhL)))) xoNo (xoSo (xP (eC (.int 20)))) [aa (.obj (.lst (d5.map .int))),aa (.val (.int c)),aa (.val (.int few)),aa (.val (.int turn)),aa (.val (.int lg)),aa (.val (.int ms)),aa (.val (.str (mkS w))),aa (.val (.str (mkS tx)))] =
   aa (.str (mkS (u2.take 20)),[aa (.obj (.lst (d6.map .int))),aa (.val (.int c)),aa (.val (.int few)),aa (.val (.int turn)),aa (.val (.int lg)),aa (.val (.int ms)),aa (.val (.str (mkS w))),aa (.val (.str (mkS tx)))]):=by
  have hz:u2.length<=1000000:=by lia
  have hc:zc1 u2 ab (aa 20)=u2.take 20:=zfc u2 (by decide)
  have hg:zex (.val (.str (mkS u2))) ab (aa 20)=aa (.val (.str (mkS (u2.take 20)))):=by simp only[zex,sOf,jqa,zat,hz,zaO,zcD,hc,zaf]
  unfold xSl
  rw[q4]
  simp only[aT,xoNo,xoSo,zil (show eC (.int 20) _=aa (.val (.int 20)) from rfl),iOfD,cz,hg,asV]
 have s9:=x2_i (x2_i (zil (fe:=zab 7) rfl) p6 (addS tx t2 (by lia))) s8 (addS (tx ++ t2) (u2.take 20) (by rw[aP,bv];lia))
 obtain⟨ty,hty⟩:∃ ty,ty=tx ++ t2 ++ u2.take 20:=⟨_,rfl⟩
 have lty:ty.length<=15+43+15+20:=by rw[hty,aP,aP,bv];lia
 rw[<- hty] at s9
 obtain⟨d7,t3,p7,_,p8,p9⟩:=zgy d6 9 few turn (aa (.val (.int c))) (aa (.val (.int lg))) (aa (.val (.int ms))) (aa (.val (.str (mkS w)))) (aa (.val (.str (mkS ty)))) hf ht (by decide) (by lia)
 have s10:=x2_i (zil (fe:=zab 7) rfl) p9 (addS ty t3 (by lia))
 refine⟨d7,w,ty ++ t3,ms,by lia,by lia,by lia,by lia,by rw[aP];lia,?_⟩
 have s11:=zjG (zil (fe:=zab 6) (δ:=[aa (.obj (.lst (d6.map .int))),aa (.val (.int c)),aa (.val (.int few)),aa (.val (.int turn)),aa (.val (.int lg)),aa (.val (.int ms)),aa (.val (.str (mkS w))),aa (.val (.str (mkS ty)))]) (d:=.str (mkS w)) rfl) (zjG (zil (fe:=zab 5) (d:=.int ms) rfl) (zjG s10 (show zhL _=aa ([],_) from rfl)))
 have hF:zdr [aa (.obj (.lst (dk.map .int))),ab,ab,ab,ab,ab,ab,ab]=aa (.rt (.val (.lst [.str (mkS w),.int ms,.str (mkS (ty ++ t3))])) [aa (.obj (.lst (d7.map .int))),aa (.val (.int c)),aa (.val (.int few)),aa (.val (.int turn)),aa (.val (.int lg)),aa (.val (.int ms)),aa (.val (.str (mkS w))),aa (.val (.str (mkS ty)))]):=by
  refine(show zdr _=_ from zaU (zee hp)).trans ((show zd1 _=_ from zaP s2).trans ((show zdU _=_ from zaP s3).trans ((show zdY _=_ from zaP s4).trans ((show zdW _=_ from zaP s5).trans ((show zdV _=_ from zaU (zee s6)).trans ((show zd2 _=_ from zaU (zee s7)).trans ((show zdX _=_ from zaU (zee s9)).trans ?_)))))))
  exact fXRet_i (xLst_i s11 (by simp))
 unfold zb5 zhH
 rw[if_pos (show([]:List D).length=0 from rfl)]
 exact(congrArg (fun o=>bM o _) hF).trans rfl
def prD(p:Int × Int):D:=.tup [.int p.1,.int p.2]
def jst(acc:List (Int × Int))(p:Int × Int):List (Int × Int):=match acc.getLast? with
 | some l=>if p.1<=l.2 then acc.dropLast ++ [(l.1,if p.2 > l.2 then p.2 else l.2)] else acc ++ [p]
 | none=>acc ++ [p]
def jnd(ps:List (Int × Int)):List (Int × Int):=ps.foldl jst []
theorem set_last{α:Type}{xs:List α}{x y:α}(h:xs.getLast? = aa x):xs.set (xs.length - 1) y=xs.dropLast ++ [y]:=by
 obtain⟨ys,rfl⟩:=gd.mp h
 rw[hZ,aP,cA,em,gY _ _ (ai _),c6]
 rfl
theorem ixN_m1{n:Nat}(h:0<n):ixN n (-1)=aa (n - 1):=by
 unfold ixN
 rw[if_neg (by decide),if_pos (by lia),show(-1+(n:Int)).toNat=n - 1 by lia]
theorem jst_len(acc:List (Int × Int))(p:Int × Int):(jst acc p).length<=acc.length+1:=by
 unfold jst
 split
 ·split
  ·rw[aP,cF,cA];lia
  ·rw[aP,cA];exact ai _
 ·rw[aP,cA];exact ai _
theorem sIx_i{i:Nat}{fi fe:FE}{δ:En}{ds:List D}{d:D}{k:Int}{j:Nat}(h0:δ[i]? = aa (aa (.own ds)))(h1:fe δ=aa (.val d))(h2:fi δ=aa (.val (.int k)))(h3:ixN ds.length k=aa j):fSIx i fi fe δ=aa (.nx (δ.set i (aa (.own (ds.set j d))))):=by
 unfold fSIx
 rw[h0]
 show((fe δ).bind asV).bind _=_
 rw[h1,h2]
 simp only[aT,asV,iOf,h3,cz]
theorem andI{X Y:FT}{δ:En}{a b:Bool}(hX:X δ=aa a)(hY:a=true->Y δ=aa b):fAnd X Y δ=aa (a && b):=by
 cases a with
 | false=>unfold fAnd;rw[hX];rfl
 | true=>unfold fAnd;rw[hX];exact hY rfl
theorem tup2{A B:FE}{δ:En}{a b:D}(hA:A δ=aa (.val a))(hB:B δ=aa (.val b)):zeR (zaa A (zaa B zae)) δ=aa (.val (.tup [a,b])):=by
 unfold zeR zaa zae;rw[hA];simp only[aT];rw[hB];rfl
theorem max2{A B:FE}{δ:En}{a b:Int}(hA:A δ=aa (.val (.int a)))(hB:B δ=aa (.val (.int b))):eCB gMax2 (zaa A (zaa B zae)) δ=aa (.val (.int (if b > a then b else a))):=by
 unfold eCB zaa zae;rw[hA];simp only[aT];rw[hB];rfl
theorem leII{E F:FE}{δ:En}{a b:Int}(h1:E δ=aa (.val (.int a)))(h2:F δ=aa (.val (.int b))):tOf (ex2 gLe E F) δ=aa (decide (a<=b)):=by by_cases e:a<=b <;> simp only[tOf,ex2,h1,h2,gLe,pI0,iOf,jqa,jqc,e,jqy,bOf,jqz]
theorem geII{E F:FE}{δ:En}{a b:Int}(h1:E δ=aa (.val (.int a)))(h2:F δ=aa (.val (.int b))):tOf (ex2 gGe E F) δ=aa (decide (a ≥ b)):=by by_cases e:a ≥ b <;> simp only[tOf,ex2,h1,h2,gGe,pI0,iOf,jqa,jqc,e,jqy,bOf,jqz]
theorem jst_body{C:FT}{V:FE}{s:Option Ent}{acc:List (Int × Int)}{p:Int × Int}(hl:acc.length<100000)
  (hC:C [s,aa (.own (acc.map prD)),aa (.val (.int p.1)),aa (.val (.int p.2))]=aa (match acc.getLast? with | some l=>decide (p.1<=l.2) | none=>false))
  (hV:∀ l,acc.getLast? = aa l->V [s,aa (.own (acc.map prD)),aa (.val (.int p.1)),aa (.val (.int p.2))]=aa (.val (prD (l.1,if p.2 > l.2 then p.2 else l.2)))) :
  (fIf C (fSIx 1 (ex1 zeV (eC (.int 1))) V) (zgF 1 (zeR (zaa (zab 2) (zaa (zab 3) zae))))) [s,aa (.own (acc.map prD)),aa (.val (.int p.1)),aa (.val (.int p.2))] =
  aa (.nx [s,aa (.own ((jst acc p).map prD)),aa (.val (.int p.1)),aa (.val (.int p.2))]):=by
 have ap:(zgF 1 (zeR (zaa (zab 2) (zaa (zab 3) zae)))) [s,aa (.own (acc.map prD)),aa (.val (.int p.1)),aa (.val (.int p.2))]=aa (.nx [s,aa (.own ((acc ++ [p]).map prD)),aa (.val (.int p.1)),aa (.val (.int p.2))]):=by
  rw[bW]
  exact zhN rfl (tup2 rfl rfl) (by rw[aq];lia)
 cases q:acc.getLast? with
 | none=>
  rw[q] at hC
  rw[zgi hC,ap]
  unfold jst
  rw[q]
 | some l=>
  rw[q] at hC
  have hpos:0<acc.length:=by cases acc with
   | nil=>cases q
   | cons _ _=>simp
  by_cases hb:p.1<=l.2
  ·rw[show(match aa l with | some l=>decide (p.1<=l.2) | none=>false)=true from decide_eq_true hb] at hC
   rw[zjE hC]
   refine(sIx_i (k:=-1) rfl (hV l q) rfl (ixN_m1 (by rw[aq];exact hpos))).trans ?_
   have e:jst acc p=acc.dropLast ++ [(l.1,if p.2 > l.2 then p.2 else l.2)]:=by unfold jst;rw[q];exact if_pos hb
   have hq:(acc.map prD).getLast? = aa (prD l):=by rw[iW,q];rfl
   rw[set_last hq,e,bW,iV]
   rfl
  ·rw[show(match aa l with | some l=>decide (p.1<=l.2) | none=>false)=false from decide_eq_false hb] at hC
   rw[zgi hC,ap]
   have e:jst acc p=acc ++ [p]:=by unfold jst;rw[q];exact if_neg hb
   rw[e]
theorem last_at{acc:List (Int × Int)}{l:Int × Int}(h:acc.getLast? = aa l):atI (acc.map prD) (-1)=aa (prD l):=atI_m1 (by rw[iW,h];rfl)
theorem last_i{s a b:Option Ent}{acc:List (Int × Int)}{l:Int × Int}(h:acc.getLast? = aa l):ex2 zda (zab 1) (ex1 zeV (eC (.int 1))) [s,aa (.own (acc.map prD)),a,b]=aa (.val (prD l)):=ixLW rfl rfl (last_at h)
theorem zh5(s:Option Ent)(acc:List (Int × Int))(p:Int × Int)(hl:acc.length<100000) :
  zfz [s,aa (.own (acc.map prD)),aa (.val (.int p.1)),aa (.val (.int p.2))]=aa (.nx [s,aa (.own ((jst acc p).map prD)),aa (.val (.int p.1)),aa (.val (.int p.2))]):=by
 refine jst_body hl ?_ fun l h=>tup2 (ixTT (last_i h) rfl rfl) (max2 (ixTT (last_i h) rfl rfl) rfl)
 have e1:eCB zb1 (zaa (zab 1) zae) [s,aa (.own (acc.map prD)),aa (.val (.int p.1)),aa (.val (.int p.2))]=aa (.val (.int (acc.length:Int))):=by simp only[eCB,zaa,zab,jqf,jqe,zae,jqc,jqa,zb1,zei,asL,aq]
 have e2:tOf (ex2 gGt (eCB zb1 (zaa (zab 1) zae)) (eC (.int 0))) [s,aa (.own (acc.map prD)),aa (.val (.int p.1)),aa (.val (.int p.2))]=aa (decide (acc.length > 0)):=by
  generalize eCB zb1 (zaa (zab 1) zae)=EE at e1 ⊢
  by_cases h:acc.length > 0
  ·simp only[tOf,ex2,e1,eC,gGt,pI0,iOf,jqa,jqc,show(acc.length:Int) > 0 by lia,jqy,bOf,h]
  ·simp only[tOf,ex2,e1,eC,gGt,pI0,iOf,jqa,jqc,show ¬(acc.length:Int) > 0 by lia,jqz,bOf,h]
 cases q:acc.getLast? with
 | none=>
  have:acc=[]:=gf.mp q
  subst this
  exact andI (b:=false) e2 fun h=>by simp at h
 | some l=>
  have hpos:acc.length > 0:=by cases acc with
   | nil=>cases q
   | cons _ _=>simp
  rw[decide_eq_true hpos] at e2
  exact andI (b:=decide (p.1<=l.2)) e2 fun _=>leII rfl (ixTT (last_i q) rfl rfl)
theorem jloop{f:FS}(hf:∀ (s:Option Ent) (acc:List (Int × Int)) (p:Int × Int),acc.length<100000->f [s,aa (.own (acc.map prD)),aa (.val (.int p.1)),aa (.val (.int p.2))]=aa (.nx [s,aa (.own ((jst acc p).map prD)),aa (.val (.int p.1)),aa (.val (.int p.2))])) :
  ∀ (ps:List (Int × Int)) (s:Option Ent) (acc:List (Int × Int)) (a b:Option Ent),acc.length+ps.length<100000->∃ a' b',loop (gTp (za2 (gNm 2) (za2 (gNm 3) zd8))) f (ps.map prD) [s,aa (.own (acc.map prD)),a,b]=aa (.nx [s,aa (.own ((ps.foldl jst acc).map prD)),a',b'])
 | [],s,acc,a,b,_=>⟨a,b,rfl⟩
 | p :: ps,s,acc,a,b,h=>by
  rw[aQ] at h
  have:=jst_len acc p
  obtain⟨a',b',e⟩:=jloop hf ps s (jst acc p) (aa (.val (.int p.1))) (aa (.val (.int p.2))) (by lia)
  exact⟨a',b',(zbO rfl (hf s acc p (by lia))).trans e⟩
theorem zg5:∀ (ps acc:List (Int × Int)),(ps.foldl jst acc).length<=acc.length+ps.length
 | [],acc=>ai _
 | p :: ps,acc=>by
  have h1:=zg5 ps (jst acc p)
  have h2:=jst_len acc p
  rw[cG,aQ]
  lia
def prR(p:Int × Int):RwI:=[p.1,p.2]
def ofR(r:RwI):Int × Int:=(r.getD 0 0,r.getD 1 0)
def zd4(ps:List (Int × Int)):List (Int × Int):=(srtR (ps.map prR)).map ofR
theorem rows_map(ps:List (Int × Int)):zhb (ps.map prD)=aa (ps.map prR):=by
 induction ps with
 | nil=>rfl
 | cons p ps ih=>rw[ay,zhb,ih];rfl
theorem srtP_D(ps:List (Int × Int)):(srtR (ps.map prR)).map rowD=(zd4 ps).map prD:=by
 unfold zd4
 rw[cK]
 refine bL fun r hr=>?_
 obtain⟨p,_,rfl⟩:=bJ.mp ((zdx _).mem_iff.mp hr)
 rfl
theorem zfq(ps:List (Int × Int)):(zd4 ps).Perm ps:=by
 have h:=(zdx (ps.map prR)).map ofR
 rw[cK] at h
 exact h.trans (.of_eq ((bL fun p _=>rfl).trans (gP ps)))
theorem srt_g{ps:List (Int × Int)}(hl:ps.length<=1000000){δ:En}{E:FE}(h:E δ=aa (.bor (ps.map prD))):iL (eCB gSrtG (zaa E zae)) δ=aa ((zd4 ps).map prD):=by
 have e:eCB gSrtG (zaa E zae) δ=aa (.own ((zd4 ps).map prD)):=by
  have hr:∀ r ∈ ps.map prR,r ≠ []:=fun r hr=>by
   obtain⟨p,_,rfl⟩:=bJ.mp hr
   exact List.cons_ne_nil _ _
  have hl':(ps.map prR).length<=1000000:=by rw[aq];exact hl
  unfold eCB zaa zae
  rw[h]
  simp only[aT,gSrtG,asL,rows_map,srtP_D,cz]
  rw[eq_true (And.intro hr hl'),zaf]
 unfold iL
 rw[e]
 rfl
theorem zhi(ps:List (Int × Int))(hl:ps.length<=90000):zdM [.lst (ps.map prD)]=aa (.val (.tup ((jnd (zd4 ps)).map prD))):=by
 have hp:=(zfq ps).length_eq
 obtain⟨a',b',e⟩:=jloop zh5 (zd4 ps) (aa (.bor (ps.map prD))) [] ab ab (by simp;lia)
 have hj:(jnd (zd4 ps)).length<=90000:=by have:=zg5 (zd4 ps) [];simp at this;exact aL this (by lia)
 have hF:ze4 [aa (.bor (ps.map prD)),ab,ab,ab]=aa (.rt (.val (.tup ((jnd (zd4 ps)).map prD))) [aa (.bor (ps.map prD)),aa (.own ((jnd (zd4 ps)).map prD)),a',b']):=by
  refine(show ze4 _=_ from zaU (zhm (show zcH zae _=aa (.own []) from rfl))).trans ((forN (srt_g (by lia) rfl) e).trans (zdu ?_))
  have hz:((jnd (zd4 ps)).map prD).length<=1000000:=by rw[aq];lia
  show eCB zeC (zaa (zab 1) zae) [aa (.bor (ps.map prD)),aa (.own ((jnd (zd4 ps)).map prD)),a',b']=_
  simp only[eCB,zaa,zab,jqf,jqe,zae,jqc,jqa,zeC,asL]
 exact(congrArg (fun o=>bM o _) hF).trans rfl
theorem mulI{E F:FE}{δ:En}{a b:Int}(h1:E δ=aa (.val (.int a)))(h2:F δ=aa (.val (.int b)))(hb:b64 a):ex2 zd0 E F δ=aa (.val (.int (a * b))):=by simp only[ex2,h1,h2,zd0,pI,iOf,jqa,hb,jrd,zaf]
theorem min2{A B:FE}{δ:En}{a b:Int}(hA:A δ=aa (.val (.int a)))(hB:B δ=aa (.val (.int b))):eCB zjx (zaa A (zaa B zae)) δ=aa (.val (.int (if b<a then b else a))):=by
 unfold eCB zaa zae;rw[hA];simp only[aT];rw[hB];rfl
theorem sliceI(t:List Nat)(a b:Int){A B E:FE}{δ:En}(hl:t.length<=1000000)(hE:E δ=aa (.val (.str (mkS t))))(hA:A δ=aa (.val (.int a)))(hB:B δ=aa (.val (.int b))):eSl zex E (oSo A) (oSo B) δ=aa (.val (.str (mkS (zc1 t (aa a) (aa b))))):=by
 simp only[eSl,hE,oSo,hA,jqa,iOf,jqc,hB,zex,sOf,zat,hl,zaO,zcD,zaf]
theorem eqS{E F:FE}{δ:En}{a b:List Nat}(h1:E δ=aa (.val (.str (mkS a))))(h2:F δ=aa (.val (.str (mkS b)))):tOf (ex2 gEq E F) δ=aa (decide (a=b)):=by
 by_cases e:a=b
 ·have e':mkS a=mkS b:=by rw[e]
  simp only[tOf,ex2,h1,e,h2,gEq,zic,jqa,jqy,jqc,bOf]
 ·have e':¬ mkS a=mkS b:=fun q=>e (mkS_inj q)
  simp only[tOf,ex2,h1,h2,gEq,zic,jqa,e',jqz,jqc,bOf,e]
theorem rngI{E:FE}{δ:En}{n:Nat}(h:E δ=aa (.val (.int (n:Int))))(hn:n<1000000000):iR1 (zaa E zae) δ=aa ((ak n).map fun(i:Nat)=>D.int (0+(i:Int))):=by
 have hb:b62 (n:Int):=zcW (by lia)
 have ez:((n:Int)).toNat=n:=by lia
 simp only[iR1,zaa,h,zae,jqc,jqa,iOf,hb,ez,zaf]
def pB(n:Nat)(m:Int)(i:Nat):Int:=(0+(i:Int)) * (n:Int) / (m+1)
def pE(n:Nat)(m:Int)(i:Nat):Int:=(0+(i:Int)+1) * (n:Int) / (m+1)
theorem pBE(n:Nat){m:Int}{i:Nat}(h:(i:Int)<=m):0<=pB n m i/\pB n m i<=pE n m i/\pE n m i<=n:=by
 unfold pB pE
 have hm:0<m+1:=by lia
 refine⟨Int.ediv_nonneg (ju (by lia) (by lia)) (by lia),Int.ediv_le_ediv hm (dE (by lia) (by lia)),?_⟩
 refine Int.ediv_le_of_le_mul hm ?_
 rw[Int.mul_comm (n:Int)]
 exact dE (by lia) (by lia)
theorem cut_len(w:List Nat){b e:Int}(h0:0<=b)(h1:b<=e)(h2:e<=w.length):((zc1 w (aa b) (aa e)).length:Int)=e - b:=by
 obtain⟨b,rfl⟩:=b7 h0
 obtain⟨e,rfl⟩:=b7 (iF h0 h1)
 unfold zc1
 rw[HT.sIx_nat,HT.sIx_nat,bv,cC]
 lia
def stnd(w t:List Nat)(b e:Int)(a:Nat):Bool:=decide (zc1 t (aa (0+(a:Int))) (aa (0+(a:Int)+(e - b)))=zc1 w (aa b) (aa e))
def spr(n:Nat)(m:Int)(l:Nat)(b:Int)(a:Nat):Int × Int:=(if 0 > 0+(a:Int) - b - m then 0 else 0+(a:Int) - b - m,if (l:Int)<0+(a:Int)+n - b+m then (l:Int) else 0+(a:Int)+n - b+m)
def plc(w t:List Nat)(b e:Int):List Nat:=(ak ((t.length:Int) - (e - b)+1).toNat).filter (stnd w t b e)
theorem plc_len(w t:List Nat){b e:Int}(h:b<=e):(plc w t b e).length<=t.length+1:=by
 unfold plc
 refine aL (dR _ _) ?_
 rw[bI]
 lia
def zfg(w t:List Nat)(m:Int)(k:Nat):List (Int × Int):=(ak k).flatMap fun i=>(plc w t (pB w.length m i) (pE w.length m i)).map (spr w.length m t.length (pB w.length m i))
theorem zgI(w t:List Nat)(m:Int)(k:Nat):zfg w t m (k+1)=zfg w t m k ++ (plc w t (pB w.length m k) (pE w.length m k)).map (spr w.length m t.length (pB w.length m k)):=by
 unfold zfg
 rw[ce,fD]
 simp
theorem zgc(w t:List Nat)(m:Int)(ht:t.length<=900):∀ k:Nat,(k:Int)<=m+1->(zfg w t m k).length<=k * 901
 | 0,_=>ai _
 | k+1,h=>by
  rw[zgI,aP,aq]
  have h1:=zgc w t m ht k (by lia)
  have h2:=plc_len w t (b:=pB w.length m k) (e:=pE w.length m k) (pBE w.length (by lia)).2.1
  lia
theorem places_ok(w t:List Nat)(b e:Int)(h0:0<=b)(h1:b<=e)(h2:e<=w.length)(hw:w.length<=1000)(ht:t.length<=900):zcp [.str (mkS (zc1 w (aa b) (aa e))),.str (mkS t)]=aa (.own ((plc w t b e).map fun(a:Nat)=>D.int (0+(a:Int)))):=by
 have hl:=cut_len w h0 h1 h2
 have hw':(zc1 w (aa b) (aa e)).length<=1000:=aL (zi3 _ _ _) hw
 have hlt:∀ a:Nat,stnd w t b e a=decide (zc1 t (aa (0+(a:Int))) (aa (0+(a:Int)+((zc1 w (aa b) (aa e)).length:Int)))=zc1 w (aa b) (aa e)):=fun a=>by rw[hl];rfl
 have hd:(plc w t b e)=(ak ((t.length:Int) - ((zc1 w (aa b) (aa e)).length:Int)+1).toNat).filter (stnd w t b e):=by rw[hl];rfl
 rw[hd]
 generalize stnd w t b e=P at hlt ⊢
 generalize zc1 w (aa b) (aa e)=p at hlt hw' ⊢
 have hc:∀ (es:List Nat) (δ:En),δ[0]? = aa (aa (.val (.str (mkS p))))->δ[1]? = aa (aa (.val (.str (mkS t))))->zdj (fun d=>zcs (cEn [0,1] δ d)) (fun d=>zdd (cEn [0,1] δ d)) (es.map fun(i:Nat)=>D.int (0+(i:Int)))=aa ((es.filter P).map fun(a:Nat)=>D.int (0+(a:Int))):=by
  intro es δ h1 h2
  induction es with
  | nil=>rfl
  | cons a es ih=>
   have hcE:cEn [0,1] δ (D.int (0+(a:Int)))=[aa (.val (.int (0+(a:Int)))),aa (.val (.str (mkS p))),aa (.val (.str (mkS t)))]:=by
    simp only[cEn,ay,ci,h1,h2,gx,aT,capt]
   have hT:zcs [aa (.val (.int (0+(a:Int)))),aa (.val (.str (mkS p))),aa (.val (.str (mkS t)))]=aa (P a):=by
    rw[hlt]
    exact eqS (sliceI t _ _ (by lia) rfl rfl (zhn rfl (zhK rfl (zat p) (by lia)))) rfl
   rw[ay,zdj,ih,hcE,hT]
   simp only[aT]
   cases hP:P a with
   | true=>rw[if_pos rfl,gC hP];rfl
   | false=>rw[if_neg (by simp),gD (by rw[hP];simp)]
 have e1:ex2 zbg (ex2 zdO (eCB za9 (zaa (zab 1) zae)) (eCB za9 (zaa (zab 0) zae))) (eC (.int 1)) [aa (.val (.str (mkS p))),aa (.val (.str (mkS t)))]=aa (.val (.int ((t.length:Int) - (p.length:Int)+1))):=zhn (zg1 (zhK rfl (zat t) (by lia)) (zhK rfl (zat p) (by lia))) rfl
 have e2:iR1 (zaa (ex2 zbg (ex2 zdO (eCB za9 (zaa (zab 1) zae)) (eCB za9 (zaa (zab 0) zae))) (eC (.int 1))) zae) [aa (.val (.str (mkS p))),aa (.val (.str (mkS t)))]=aa ((ak ((t.length:Int) - (p.length:Int)+1).toNat).map fun(i:Nat)=>D.int (0+(i:Int))):=by
  have hb:b62 ((t.length:Int) - (p.length:Int)+1):=zcW (by lia)
  generalize ex2 zbg (ex2 zdO (eCB za9 (zaa (zab 1) zae)) (eCB za9 (zaa (zab 0) zae))) (eC (.int 1))=EE at e1 ⊢
  simp only[iR1,zaa,e1,zae,jqc,jqa,iOf,hb,zaf]
 have e3:=zeM (fr:=[0,1]) (ft:=zcs) (fe:=zdd) e2 (hc (ak ((t.length:Int) - (p.length:Int)+1).toNat) _ rfl rfl) (by
  rw[aq]
  refine aL (dR _ _) ?_
  rw[bI]
  lia)
 have hF:zd7 [aa (.val (.str (mkS p))),aa (.val (.str (mkS t)))]=aa (.rt (.own (((ak ((t.length:Int) - (p.length:Int)+1).toNat).filter P).map fun(a:Nat)=>D.int (0+(a:Int)))) [aa (.val (.str (mkS p))),aa (.val (.str (mkS t)))]):=by
  show zbB _ _=_
  unfold zbB
  rw[e3]
  rfl
 exact(congrArg (fun o=>bM o _) hF).trans rfl
theorem zim(w t:List Nat)(m b:Int)(x4 x6:Option Ent)(hw:w.length<=1000)(ht:t.length<=900):∀ (as:List Nat) (acc:List (Int × Int)) (x7:Option Ent),acc.length+as.length<1000000->∃ y7,
  loop (gNm 7) zcl (as.map fun(a:Nat)=>D.int (0+(a:Int))) [aa (.val (.str (mkS w))),aa (.val (.int m)),aa (.val (.str (mkS t))),aa (.own (acc.map prD)),x4,aa (.val (.int b)),x6,x7] =
  aa (.nx [aa (.val (.str (mkS w))),aa (.val (.int m)),aa (.val (.str (mkS t))),aa (.own ((acc ++ as.map (spr w.length m t.length b)).map prD)),x4,aa (.val (.int b)),x6,y7])
 | [],acc,x7,_=>⟨x7,by rw[ci,ci,bV];rfl⟩
 | a :: as,acc,x7,h=>by
  rw[aQ] at h
  obtain⟨y7,e⟩:=zim w t m b x4 x6 hw ht as (acc ++ [spr w.length m t.length b a]) (aa (.val (.int (0+(a:Int))))) (by rw[aP,cA];lia)
  refine⟨y7,(zbO rfl (show zcl _=_ from (zhN (ds:=acc.map prD) rfl (tup2 (max2 (zg1 (zg1 rfl rfl) rfl) rfl) (min2 (zhn (zg1 (zhn rfl (zhK rfl (zat w) (by lia))) rfl) rfl) (zhK rfl (zat t) (by lia)))) (by rw[aq];lia)))).trans ?_⟩
  rw[b6] at e
  rw[show acc.map prD ++ [D.tup [.int (if 0 > 0+(a:Int) - b - m then 0 else 0+(a:Int) - b - m),.int (if (t.length:Int)<0+(a:Int)+w.length - b+m then (t.length:Int) else 0+(a:Int)+w.length - b+m)]]=(acc ++ [spr w.length m t.length b a]).map prD by rw[bW];rfl]
  exact e
theorem zjj(w t:List Nat)(m:Int)(k:Nat)(x5 x6 x7:Option Ent)(hm:0<=m/\m<=90)(hk:(k:Int)<=m)(hw:w.length<=1000)(ht:t.length<=900):∃ y5 y6 y7,
  zbC [aa (.val (.str (mkS w))),aa (.val (.int m)),aa (.val (.str (mkS t))),aa (.own ((zfg w t m k).map prD)),aa (.val (.int (0+(k:Int)))),x5,x6,x7] =
  aa (.nx [aa (.val (.str (mkS w))),aa (.val (.int m)),aa (.val (.str (mkS t))),aa (.own ((zfg w t m (k+1)).map prD)),aa (.val (.int (0+(k:Int)))),y5,y6,y7]):=by
 obtain⟨h0,h1,h2⟩:=pBE w.length hk
 have hl:=zgc w t m ht k (by lia)
 have hp:=plc_len w t h1
 have s5:ex2 zcQ (ex2 zd0 (zab 4) (eCB za9 (zaa (zab 0) zae))) (ex2 zbg (zab 1) (eC (.int 1))) [aa (.val (.str (mkS w))),aa (.val (.int m)),aa (.val (.str (mkS t))),aa (.own ((zfg w t m k).map prD)),aa (.val (.int (0+(k:Int)))),x5,x6,x7]=aa (.val (.int (pB w.length m k))):=
  zf3 (mulI rfl (zhK rfl (zat w) (by lia)) (zdH (by lia))) (zhn rfl rfl) (by lia)
 have s6:ex2 zcQ (ex2 zd0 (ex2 zbg (zab 4) (eC (.int 1))) (eCB za9 (zaa (zab 0) zae))) (ex2 zbg (zab 1) (eC (.int 1))) [aa (.val (.str (mkS w))),aa (.val (.int m)),aa (.val (.str (mkS t))),aa (.own ((zfg w t m k).map prD)),aa (.val (.int (0+(k:Int)))),aa (.val (.int (pB w.length m k))),x6,x7]=aa (.val (.int (pE w.length m k))):=
  zf3 (mulI (zhn rfl rfl) (zhK rfl (zat w) (by lia)) (zdH (by lia))) (zhn rfl rfl) (by lia)
 obtain⟨y7,e7⟩:=zim w t m (pB w.length m k) (aa (.val (.int (0+(k:Int))))) (aa (.val (.int (pE w.length m k)))) hw ht (plc w t (pB w.length m k) (pE w.length m k)) (zfg w t m k) x7 (by lia)
 have e1:eSl zex (zab 0) (oSo (zab 5)) (oSo (zab 6)) [aa (.val (.str (mkS w))),aa (.val (.int m)),aa (.val (.str (mkS t))),aa (.own ((zfg w t m k).map prD)),aa (.val (.int (0+(k:Int)))),aa (.val (.int (pB w.length m k))),aa (.val (.int (pE w.length m k))),x7]=aa (.val (.str (mkS (zc1 w (aa (pB w.length m k)) (aa (pE w.length m k)))))):=sliceI w _ _ (by lia) rfl rfl rfl
 have e2:=(zfw (g:=zcp) (Y:=zab 2) e1 rfl).trans (places_ok w t (pB w.length m k) (pE w.length m k) h0 h1 h2 hw ht)
 have e3:iL (zah [.v,.v] zcp (zaa (eSl zex (zab 0) (oSo (zab 5)) (oSo (zab 6))) (zaa (zab 2) zae))) [aa (.val (.str (mkS w))),aa (.val (.int m)),aa (.val (.str (mkS t))),aa (.own ((zfg w t m k).map prD)),aa (.val (.int (0+(k:Int)))),aa (.val (.int (pB w.length m k))),aa (.val (.int (pE w.length m k))),x7]=aa ((plc w t (pB w.length m k) (pE w.length m k)).map fun(a:Nat)=>D.int (0+(a:Int))):=by
  unfold iL
  rw[e2]
  rfl
 refine⟨aa (.val (.int (pB w.length m k))),aa (.val (.int (pE w.length m k))),y7,(show zbC _=_ from zaU (zeI s5)).trans ((zaU (zeI s6)).trans ?_)⟩
 rw[zgI]
 exact(show zez _ _ _ _=_ by unfold zez;exact(congrArg (fun o=>bM o _) e3).trans e7)
theorem parts_ok(w t:List Nat)(m:Int)(hm:0<=m/\m<=90)(hw:w.length<=1000)(ht:t.length<=900):zbP [.str (mkS w),.int m,.str (mkS t)]=aa (.val (.tup ((jnd (zd4 (zfg w t m (m.toNat+1)))).map prD))):=by
 obtain⟨n,rfl⟩:=b7 hm.1
 rw[show((n:Int)).toNat=n by lia]
 obtain⟨δ',w1,x4,x5,x6,x7,rfl⟩:=zbI (tg:=gNm 4) (f:=zbC) (fun k δ=>∃ x4 x5 x6 x7,δ=[aa (.val (.str (mkS w))),aa (.val (.int (n:Int))),aa (.val (.str (mkS t))),aa (.own ((zfg w t n k).map prD)),x4,x5,x6,x7])
  ((ak (n+1)).map fun(i:Nat)=>D.int (0+(i:Int))) 0 [aa (.val (.str (mkS w))),aa (.val (.int (n:Int))),aa (.val (.str (mkS t))),aa (.own []),ab,ab,ab,ab] (fun k d δ hd hδ=>by
   obtain⟨x4,x5,x6,x7,rfl⟩:=hδ
   rw[bq]
   have hk:k<n+1:=by have:=(aO.mp hd).1;simpa using this
   rw[ax,bo hk] at hd
   cases hd
   obtain⟨y5,y6,y7,h⟩:=zjj w t n k x5 x6 x7 hm (by lia) hw ht
   exact⟨_,_,rfl,.inl h,_,y5,y6,y7,rfl⟩) ⟨ab,ab,ab,ab,rfl⟩
 simp only[aq,bI,bq] at w1
 have hl:=zgc w t n ht (n+1) (by lia)
 have hj:=zhi (zfg w t n (n+1)) (by lia)
 generalize zfg w t n (n+1)=fs at w1 hj ⊢
 have hF:zck [aa (.val (.str (mkS w))),aa (.val (.int (n:Int))),aa (.val (.str (mkS t))),ab,ab,ab,ab,ab]=aa (.rt (.val (.tup ((jnd (zd4 fs)).map prD))) [aa (.val (.str (mkS w))),aa (.val (.int (n:Int))),aa (.val (.str (mkS t))),aa (.own (fs.map prD)),x4,x5,x6,x7]):=by
  refine(show zck _=_ from zaU (zhm (show zcH zae _=aa (.own []) from rfl))).trans ((forN (rngI (n:=n+1) ((zhn rfl rfl).trans (by rw[Int.natCast_add];rfl)) (by lia)) w1).trans (zdu ?_))
  simp only[zah,zaa,zab,jqf,jqe,zae,jqc,jqa,zbf,zcG,asL,hj]
 exact(congrArg (fun o=>bM o _) hF).trans rfl
def lkI:List Str->List Int->Str->Option Int
 | k :: ks,i :: is,z=>if k=z then aa i else lkI ks is z
 | _,_,_=>ab
theorem zgv(z:Str):∀ (ks:List Str) (is:List Int),lkD ks (is.map .int) z=(lkI ks is z).map .int
 | [],is=>by cases is <;> rfl
 | k :: ks,[]=>rfl
 | k :: ks,i :: is=>by
  rw[ay]
  simp only[lkD,lkI]
  by_cases e:k=z
  ·rw[if_pos e,if_pos e];rfl
  ·rw[if_neg e,if_neg e];exact zgv z ks is
theorem lkI_mem{z:Str}:∀ {ks:List Str} {is:List Int},ks.length=is.length->z ∈ ks->∃ i,lkI ks is z=aa i
 | [],_,_,h=>by cases h
 | k :: ks,[],hl,_=>by cases hl
 | k :: ks,i :: is,hl,h=>by
  simp only[lkI]
  by_cases e:k=z
  ·exact⟨i,if_pos e⟩
  ·rw[if_neg e]
   exact lkI_mem (by simpa using hl) ((aY.mp h).resolve_left fun q=>e q.symm)
def zeU(p:List Str × List Int)(z:Str):List Str × List Int:=(pkD p.1 z,pvG p.1 p.2 z ((lkI p.1 p.2 z).getD 0+1))
theorem pvG_map(z:Str)(v:Int)(ks:List Str)(is:List Int):pvG ks (is.map D.int) z (.int v)=(pvG ks is z v).map .int:=by
 have key:∀ (ks:List Str) (is:List Int),dQ (fun x y=>if x=z then D.int v else y) ks (is.map D.int)=(dQ (fun x y=>if x=z then v else y) ks is).map .int:=by
  intro ks
  induction ks with
  | nil=>intro is;rfl
  | cons k ks ih=>
   intro is
   cases is with
   | nil=>rfl
   | cons i is=>
    rw[ay,cL,cL,ay,ih]
    by_cases e:k=z
    ·rw[if_pos e,if_pos e]
    ·rw[if_neg e,if_neg e]
 unfold pvG
 by_cases h:z ∈ ks
 ·rw[if_pos h,if_pos h];exact key ks is
 ·rw[if_neg h,if_neg h,bW];rfl
theorem zix(p:List Str × List Int)(z:Str)(h:p.1.length=p.2.length):(zeU p z).1.length=(zeU p z).2.length/\(zeU p z).1.length<=p.1.length+1:=zgC h
def pcs(t:List Nat)(long:Int):List Str:=(ak ((t.length:Int) - long+1).toNat).map fun(p:Nat)=>mkS (zc1 t (aa (0+(p:Int))) (aa (0+(p:Int)+long)))
def tms(t:List Nat)(long:Int):List Str × List Int:=(pcs t long).foldl zeU ([],[])
def dcD(p:List Str × List Int):D:=.dic p.1 (p.2.map .int)
theorem ze7:∀ (zs:List Str) (p:List Str × List Int),p.1.length=p.2.length->(zs.foldl zeU p).1.length=(zs.foldl zeU p).2.length/\(zs.foldl zeU p).1.length<=p.1.length+zs.length
 | [],p,h=>⟨h,ai _⟩
 | z :: zs,p,h=>by
  obtain⟨h1,h2⟩:=zix p z h
  obtain⟨h3,h4⟩:=ze7 zs (zeU p z) h1
  refine⟨h3,?_⟩
  rw[cG,aQ]
  lia
theorem tms_len(t:List Nat)(long:Int):(tms t long).1.length=(tms t long).2.length:=(ze7 _ _ rfl).1
theorem get_e{δ:En}{i:Nat}{FZ FD:FE}{p:List Str × List Int}{z:Str}(h0:dAt i δ=aa (p.1,p.2.map .int))(hz:FZ δ=aa (.val (.str z))):eDget i (zaa FZ (zaa (eC (.int 0)) zae)) δ=aa (.val (.int ((lkI p.1 p.2 z).getD 0))):=by
 unfold eDget zaa zae eC
 rw[h0,hz]
 simp only[aT,cz,gDg,sOf,zgv]
 cases lkI p.1 p.2 z <;> rfl
theorem zjd(t:List Nat)(long:Int)(p:List Str × List Int)(k:Nat)(x4:Option Ent)(hp:p.1.length<=900000)(hl:t.length<=1000000) :
  zbj [aa (.val (.str (mkS t))),aa (.val (.int long)),aa (.obj (.dic p.1 (p.2.map .int))),aa (.val (.int (0+(k:Int)))),x4] =
  aa (.nx [aa (.val (.str (mkS t))),aa (.val (.int long)),aa (.obj (.dic (zeU p (mkS (zc1 t (aa (0+(k:Int))) (aa (0+(k:Int)+long))))).1 ((zeU p (mkS (zc1 t (aa (0+(k:Int))) (aa (0+(k:Int)+long))))).2.map .int))),aa (.val (.int (0+(k:Int)))),aa (.val (.str (mkS (zc1 t (aa (0+(k:Int))) (aa (0+(k:Int)+long))))))]):=by
 have s4:eSl zex (zab 0) (oSo (zab 3)) (oSo (ex2 zbg (zab 3) (zab 1))) [aa (.val (.str (mkS t))),aa (.val (.int long)),aa (.obj (.dic p.1 (p.2.map .int))),aa (.val (.int (0+(k:Int)))),x4]=aa (.val (.str (mkS (zc1 t (aa (0+(k:Int))) (aa (0+(k:Int)+long)))))):=by
  simp only[eSl,zab,jqe,oSo,jqf,jqa,iOf,jqc,ex2,zbg,pI0,zex,sOf,zat,hl,zaO,zcD,zaf]
 generalize zc1 t (aa (0+(k:Int))) (aa (0+(k:Int)+long))=z at s4 ⊢
 have s5:ex2 zbg (eDget 2 (zaa (zab 4) (zaa (eC (.int 0)) zae))) (eC (.int 1)) [aa (.val (.str (mkS t))),aa (.val (.int long)),aa (.obj (.dic p.1 (p.2.map .int))),aa (.val (.int (0+(k:Int)))),aa (.val (.str (mkS z)))]=aa (.val (.int ((lkI p.1 p.2 (mkS z)).getD 0+1))):=zhn (get_e (FD:=zab 0) rfl rfl) rfl
 refine(show zbj _=_ from zaU (zeI s4)).trans ?_
 show fDput 2 (zab 4) _ [aa (.val (.str (mkS t))),aa (.val (.int long)),aa (.obj (.dic p.1 (p.2.map .int))),aa (.val (.int (0+(k:Int)))),aa (.val (.str (mkS z)))]=_
 unfold fDput
 rw[s5]
 have hd:dAt 2 [aa (.val (.str (mkS t))),aa (.val (.int long)),aa (.obj (.dic p.1 (p.2.map .int))),aa (.val (.int (0+(k:Int)))),aa (.val (.str (mkS z)))]=aa (p.1,p.2.map .int):=rfl
 have hs:sz (p.1.length+1)=True:=zaO (by lia)
 simp only[jqa,asV,zab,jqf,jqe,sOf,hd,jqh,jqg,hs,zaf,pvG_map,zeU]
theorem ziw(t:List Nat)(long:Int)(h0:0<long/\long<1000)(hl:t.length<=1000):zaH [.str (mkS t),.int long]=aa (.val (dcD (tms t long))):=by
 have hn:(pcs t long).length=((t.length:Int) - long+1).toNat:=by unfold pcs;simp
 obtain⟨δ',w1,x3,x4,rfl⟩:=zbI (tg:=gNm 3) (f:=zbj) (fun k δ=>∃ x3 x4,δ=[aa (.val (.str (mkS t))),aa (.val (.int long)),aa (.obj (.dic (((pcs t long).take k).foldl zeU ([],[])).1 ((((pcs t long).take k).foldl zeU ([],[])).2.map .int))),x3,x4])
  ((ak ((t.length:Int) - long+1).toNat).map fun(i:Nat)=>D.int (0+(i:Int))) 0 [aa (.val (.str (mkS t))),aa (.val (.int long)),aa (.obj (.dic [] [])),ab,ab] (fun k d δ hd hδ=>by
   obtain⟨x3,x4,rfl⟩:=hδ
   rw[bq]
   have hk:k<((t.length:Int) - long+1).toNat:=by have:=(aO.mp hd).1;simpa using this
   rw[ax,bo hk] at hd
   cases hd
   have hb:=(ze7 ((pcs t long).take k) ([],[]) rfl).2
   rw[bv] at hb
   have hg:(pcs t long)[k]? = aa (mkS (zc1 t (aa (0+(k:Int))) (aa (0+(k:Int)+long)))):=by
    unfold pcs
    rw[ax,bo hk]
    rfl
   have h:=zjd t long (((pcs t long).take k).foldl zeU ([],[])) k x4 (by simp at hb;lia) (by lia)
   refine⟨_,_,rfl,.inl h,aa (.val (.int (0+(k:Int)))),aa (.val (.str (mkS (zc1 t (aa (0+(k:Int))) (aa (0+(k:Int)+long)))))),?_⟩
   rw[List.take_add_one,hg,iJ]
   rfl) ⟨ab,ab,rfl⟩
 simp only[aq,bI,bq] at w1
 rw[<- hn,eR] at w1
 suffices hF:zbU [aa (.val (.str (mkS t))),aa (.val (.int long)),ab,ab,ab]=aa (.rt (.val (dcD (tms t long))) [aa (.val (.str (mkS t))),aa (.val (.int long)),aa (.val (dcD (tms t long))),x3,x4]) from (congrArg (fun o=>bM o _) hF).trans rfl
 refine(show zbU _=_ from zaU (δ':=[aa (.val (.str (mkS t))),aa (.val (.int long)),aa (.obj (.dic [] [])),ab,ab]) rfl).trans ((forN (ds:=(ak ((t.length:Int) - long+1).toNat).map fun(i:Nat)=>D.int (0+(i:Int))) ?_ (by rw[<- hn];exact w1)).trans rfl)
 have e1:ex2 zbg (ex2 zdO (eCB za9 (zaa (zab 0) zae)) (zab 1)) (eC (.int 1)) [aa (.val (.str (mkS t))),aa (.val (.int long)),aa (.obj (.dic [] [])),ab,ab]=aa (.val (.int ((t.length:Int) - long+1))):=zhn (zg1 (zhK rfl (zat t) (by lia)) rfl) rfl
 have hb:b62 ((t.length:Int) - long+1):=zcW (by lia)
 generalize ex2 zbg (ex2 zdO (eCB za9 (zaa (zab 0) zae)) (zab 1)) (eC (.int 1))=EE at e1 ⊢
 simp only[iR1,zaa,e1,zae,jqc,jqa,iOf,hb,zaf]
def shF(p q:List Str × List Int)(z:Str):Int:=if (lkI q.1 q.2 z).getD 0<(lkI p.1 p.2 z).getD 0 then (lkI q.1 q.2 z).getD 0 else (lkI p.1 p.2 z).getD 0
def shr(p q:List Str × List Int):Int:=(p.1.map (shF p q)).sum
theorem shr_c(p q:List Str × List Int)(z:Str)(i:Int)(h:lkI p.1 p.2 z=aa i):zaD [aa (.val (.str z)),aa (.val (dcD p)),aa (.val (dcD q))]=aa (.val (.int (shF p q z))):=by
 have e1:ex2 gDx (zab 1) (zab 0) [aa (.val (.str z)),aa (.val (dcD p)),aa (.val (dcD q))]=aa (.val (.int i)):=by
  simp only[ex2,zab,dcD,jqf,jqe,gDx,dOf,sOf,jqa,zgv,h,jqc]
 have e2:eBM gGet (zab 2) (zaa (zab 0) (zaa (eC (.int 0)) zae)) [aa (.val (.str z)),aa (.val (dcD p)),aa (.val (dcD q))]=aa (.val (.int ((lkI q.1 q.2 z).getD 0))):=by
  simp only[eBM,zab,dcD,jqf,jqe,zaa,eC,zae,jqc,jqa,gGet,dOf,gDg,sOf,zgv]
  cases lkI q.1 q.2 z <;> rfl
 unfold zaD shF
 rw[h]
 generalize ex2 gDx (zab 1) (zab 0)=E1 at e1 ⊢
 generalize eBM gGet (zab 2) (zaa (zab 0) (zaa (eC (.int 0)) zae))=E2 at e2 ⊢
 simp only[eCB,zaa,e1,e2,zae,jqc,jqa,zjx,iOf,Option.getD_some]
theorem shr_e{δ:En}{i j:Nat}{p q:List Str × List Int}(hp:p.1.length=p.2.length)(hl:p.1.length<=1000)(hi:δ[i]? = aa (aa (.val (dcD p))))(hj:δ[j]? = aa (aa (.val (dcD q))))(he:zab i δ=aa (.val (dcD p))) :
  eCB gSum (zaa (eLC [i,j] (iD (zab i)) zdT zaD) zae) δ=aa (.val (.int (shr p q))):=by
 have hc:∀ zs:List Str,(∀ z ∈ zs,z ∈ p.1)->zdj (fun d=>zdT (cEn [i,j] δ d)) (fun d=>zaD (cEn [i,j] δ d)) (zs.map D.str)=aa ((zs.map (shF p q)).map D.int):=by
  intro zs
  induction zs with
  | nil=>intro _;rfl
  | cons z zs ih=>
   intro h
   obtain⟨v,hv⟩:=lkI_mem hp (h z aw)
   have hcE:cEn [i,j] δ (D.str z)=[aa (.val (.str z)),aa (.val (dcD p)),aa (.val (dcD q))]:=by
    simp only[cEn,ay,ci,hi,hj,gx,aT,capt]
   rw[ay,zdj,ih fun y hy=>h y (al _ hy),hcE,shr_c p q z v hv]
   rfl
 have e1:iD (zab i) δ=aa (p.1.map D.str):=by
  unfold iD
  rw[he]
  rfl
 have e2:eLC [i,j] (iD (zab i)) zdT zaD δ=aa (.own ((p.1.map (shF p q)).map D.int)):=zeM e1 (hc p.1 fun _ h=>h) (by simp;lia)
 generalize eLC [i,j] (iD (zab i)) zdT zaD=EE at e2 ⊢
 simp only[eCB,zaa,e2,zae,jqc,jqa,gSum,asL,zhk,shr]
theorem shared_ok(p q:List Str × List Int)(hp:p.1.length=p.2.length)(hl:p.1.length<=1000):zbG [dcD p,dcD q]=aa (.val (.int (shr p q))):=by
 have e:=shr_e (δ:=[aa (.val (dcD p)),aa (.val (dcD q))]) (i:=0) (j:=1) (q:=q) hp hl rfl rfl rfl
 have hF:zcZ [aa (.val (dcD p)),aa (.val (dcD q))]=aa (.rt (.val (.int (shr p q))) [aa (.val (dcD p)),aa (.val (dcD q))]):=zdu e
 exact(congrArg (fun o=>bM o _) hF).trans rfl
theorem tms_le(t:List Nat)(long:Int)(h:0<long):(tms t long).1.length<=t.length:=by
 have:=(ze7 (pcs t long) ([],[]) rfl).2
 have hn:(pcs t long).length=((t.length:Int) - long+1).toNat:=by unfold pcs;simp
 show((pcs t long).foldl zeU ([],[])).1.length<=_
 simp at this
 lia
def wb(n:Nat)(m:Int)(e:Nat):Int:=if 0 > 0+(e:Int) - (n:Int) - m then 0 else 0+(e:Int) - (n:Int) - m
def wPr(n:Nat)(m:Int)(e:Nat):Int × Int:=(wb n m e,0+(e:Int))
def fnd(P:Nat->Bool)(n:Nat)(m:Int)(k:Nat):List (Int × Int):=((ak k).filter P).map (wPr n m)
theorem fnd_succ(P:Nat->Bool)(n:Nat)(m:Int)(k:Nat):fnd P n m (k+1)=if P k=true then fnd P n m k ++ [wPr n m k] else fnd P n m k:=by
 unfold fnd
 rw[ce,List.filter_append]
 by_cases h:P k=true
 ·rw[if_pos h,gC h,jm,bW];rfl
 ·rw[if_neg h,gD h,jm,bV]
theorem fnd_len(P:Nat->Bool)(n:Nat)(m:Int)(k:Nat):(fnd P n m k).length<=k:=by
 unfold fnd
 rw[aq]
 exact aL (dR _ _) (by simp)
theorem zi6(w t:List Nat)(m:Int)(hw:w.length<=1000)(ht:t.length<=900):zeq [.str (mkS w),.int m,.str (mkS t)]=aa (.own ((ak (t.length+1)).map fun e=>prD (wPr w.length m e))):=by
 have hc:∀ (es:List Nat) (δ:En),δ[1]? = aa (aa (.val (.int m)))->δ[0]? = aa (aa (.val (.str (mkS w))))->zdj (fun d=>zdT (cEn [1,0] δ d)) (fun d=>zc4 (cEn [1,0] δ d)) (es.map fun(i:Nat)=>D.int (0+(i:Int)))=aa (es.map fun e=>prD (wPr w.length m e)):=by
  intro es δ h1 h2
  induction es with
  | nil=>rfl
  | cons e es ih=>
   have hcE:cEn [1,0] δ (D.int (0+(e:Int)))=[aa (.val (.int (0+(e:Int)))),aa (.val (.int m)),aa (.val (.str (mkS w)))]:=by
    simp only[cEn,ay,ci,h1,h2,gx,aT,capt]
   rw[ay,zdj,ih,hcE]
   have hC:zc4 [aa (.val (.int (0+(e:Int)))),aa (.val (.int m)),aa (.val (.str (mkS w)))]=aa (.val (prD (wPr w.length m e))):=
    tup2 (max2 (zg1 (zg1 rfl (zhK rfl (zat w) (by lia))) rfl) rfl) rfl
   rw[hC]
   rfl
 have e1:ex2 zbg (eCB za9 (zaa (zab 2) zae)) (eC (.int 1)) [aa (.val (.str (mkS w))),aa (.val (.int m)),aa (.val (.str (mkS t)))]=aa (.val (.int ((t.length:Int)+1))):=zhn (zhK rfl (zat t) (by lia)) rfl
 have e2:iR1 (zaa (ex2 zbg (eCB za9 (zaa (zab 2) zae)) (eC (.int 1))) zae) [aa (.val (.str (mkS w))),aa (.val (.int m)),aa (.val (.str (mkS t)))]=aa ((ak (t.length+1)).map fun(i:Nat)=>D.int (0+(i:Int))):=by
  have hb:b62 ((t.length:Int)+1):=zcW (by lia)
  generalize ex2 zbg (eCB za9 (zaa (zab 2) zae)) (eC (.int 1))=EE at e1 ⊢
  have ez:((t.length:Int)+1).toNat=t.length+1:=by lia
  simp only[iR1,zaa,e1,zae,jqc,jqa,iOf,hb,ez,zaf]
 have e3:=zeM (fr:=[1,0]) (ft:=zdT) (fe:=zc4) e2 (hc (ak (t.length+1)) _ rfl rfl) (by simp;lia)
 have hF:zfn [aa (.val (.str (mkS w))),aa (.val (.int m)),aa (.val (.str (mkS t)))]=aa (.rt (.own ((ak (t.length+1)).map fun e=>prD (wPr w.length m e))) [aa (.val (.str (mkS w))),aa (.val (.int m)),aa (.val (.str (mkS t)))]):=by
  show zbB _ _=_
  unfold zbB
  rw[e3]
  rfl
 exact(congrArg (fun o=>bM o _) hF).trans rfl
def win(w t:List Nat)(m:Int)(e:Nat):List Nat:=zc1 t (aa (wb w.length m e)) (aa (0+(e:Int)))
def zch(w t:List Nat)(m long:Int)(e:Nat):Bool:=decide (shr (tms w long) (tms (win w t m e) long) ≥ (w.length:Int) - long+1 - m * long)
theorem slice_i(t:List Nat)(a b:Int){A B E:FE}{δ:En}(hl:t.length<=1000000)(hE:E δ=aa (.val (.str (mkS t))))(hA:A δ=aa (.val (.int a)))(hB:B δ=aa (.val (.int b))):eSl zex E (oSo A) (oSo B) δ=aa (.val (.str (mkS (zc1 t (aa a) (aa b))))):=by
 simp only[eSl,hE,oSo,hA,jqa,iOf,jqc,hB,zex,sOf,zat,hl,zaO,zcD,zaf]
theorem kept_turn(w t:List Nat)(m long:Int)(k:Nat)(W M:Option Ent)(h0:0<long/\long<1000)(hw:w.length<=1000)(ht:t.length<=900)(hk:k<10000) :
  za0 [W,M,aa (.val (.str (mkS t))),aa (.val (.int long)),aa (.val (.int ((w.length:Int) - long+1 - m * long))),aa (.val (dcD (tms w long))),aa (.own ((fnd (zch w t m long) w.length m k).map prD)),aa (.val (.int (wb w.length m k))),aa (.val (.int (0+(k:Int))))] =
  aa (.nx [W,M,aa (.val (.str (mkS t))),aa (.val (.int long)),aa (.val (.int ((w.length:Int) - long+1 - m * long))),aa (.val (dcD (tms w long))),aa (.own ((fnd (zch w t m long) w.length m (k+1)).map prD)),aa (.val (.int (wb w.length m k))),aa (.val (.int (0+(k:Int))))]):=by
 have hl:=fnd_len (zch w t m long) w.length m k
 have hwin:(win w t m k).length<=900:=aL (zi3 _ _ _) ht
 have e1:eSl zex (zab 2) (oSo (zab 7)) (oSo (zab 8)) [W,M,aa (.val (.str (mkS t))),aa (.val (.int long)),aa (.val (.int ((w.length:Int) - long+1 - m * long))),aa (.val (dcD (tms w long))),aa (.own ((fnd (zch w t m long) w.length m k).map prD)),aa (.val (.int (wb w.length m k))),aa (.val (.int (0+(k:Int))))]=aa (.val (.str (mkS (win w t m k)))):=slice_i t _ _ (by lia) rfl rfl rfl
 have e2:=(zfw (g:=zaH) e1 (Y:=zab 3) rfl).trans (ziw (win w t m k) long h0 (by lia))
 have hle:=tms_le w long h0.1
 have e3:=(zfw (g:=zbG) (X:=zab 5) rfl e2).trans (shared_ok (tms w long) (tms (win w t m k) long) (tms_len _ _) (by lia))
 have e4:=geII (F:=zab 4) e3 rfl
 rw[fnd_succ]
 by_cases hq:zch w t m long k=true
 ·rw[if_pos hq,bW]
  have hq':decide (shr (tms w long) (tms (win w t m k) long) ≥ (w.length:Int) - long+1 - m * long)=true:=hq
  rw[hq'] at e4
  exact(show za0 _=_ from zjE e4).trans (zhN rfl (tup2 rfl rfl) (by rw[aq];lia))
 ·rw[if_neg hq]
  have hq':decide (shr (tms w long) (tms (win w t m k) long) ≥ (w.length:Int) - long+1 - m * long)=false:=Bool.eq_false_iff.mpr hq
  rw[hq'] at e4
  exact(show za0 _=_ from zgi e4)
theorem kept_ok(w t:List Nat)(m long:Int)(h0:0<long/\long<1000)(hm:0<=m/\m<=1000)(hw:w.length<=1000)(ht:t.length<=900):zaR [.str (mkS w),.int m,.str (mkS t),.int long]=aa (.val (.tup ((jnd (zd4 (fnd (zch w t m long) w.length m (t.length+1)))).map prD))):=by
 have b1:b64 m:=zdH (by lia)
 have s4:ex2 zdO (ex2 zbg (ex2 zdO (eCB za9 (zaa (zab 0) zae)) (zab 3)) (eC (.int 1))) (ex2 zd0 (zab 1) (zab 3)) [aa (.val (.str (mkS w))),aa (.val (.int m)),aa (.val (.str (mkS t))),aa (.val (.int long)),ab,ab,ab,ab,ab]=aa (.val (.int ((w.length:Int) - long+1 - m * long))):=
  zg1 (zhn (zg1 (zhK rfl (zat w) (by lia)) rfl) rfl) (by simp only[ex2,zab,jqf,jqe,zd0,pI,iOf,jqa,b1,jrd,zaf])
 have s5:=(zfw (g:=zaH) (X:=zab 0) (Y:=zab 3) (δ:=[aa (.val (.str (mkS w))),aa (.val (.int m)),aa (.val (.str (mkS t))),aa (.val (.int long)),aa (.val (.int ((w.length:Int) - long+1 - m * long))),ab,ab,ab,ab]) rfl rfl).trans (ziw w long h0 hw)
 have e0:((ak (t.length+1)).map fun e=>prD (wPr w.length m e)).length=t.length+1:=by simp
 obtain⟨δ',w1,x7,x8,rfl⟩:=zbI (tg:=gTp (za2 (gNm 7) (za2 (gNm 8) zd8))) (f:=za0) (fun k δ=>∃ x7 x8,δ=[aa (.val (.str (mkS w))),aa (.val (.int m)),aa (.val (.str (mkS t))),aa (.val (.int long)),aa (.val (.int ((w.length:Int) - long+1 - m * long))),aa (.val (dcD (tms w long))),aa (.own ((fnd (zch w t m long) w.length m k).map prD)),x7,x8])
  ((ak (t.length+1)).map fun e=>prD (wPr w.length m e)) 0 [aa (.val (.str (mkS w))),aa (.val (.int m)),aa (.val (.str (mkS t))),aa (.val (.int long)),aa (.val (.int ((w.length:Int) - long+1 - m * long))),aa (.val (dcD (tms w long))),aa (.own []),ab,ab] (fun k d δ hd hδ=>by
   obtain⟨x7,x8,rfl⟩:=hδ
   rw[bq]
   have hk:k<t.length+1:=by have:=(aO.mp hd).1;simpa using this
   rw[ax,bo hk] at hd
   cases hd
   exact⟨_,_,rfl,.inl (kept_turn w t m long k _ _ h0 hw ht (by lia)),_,_,rfl⟩) ⟨ab,ab,rfl⟩
 simp only[e0,bq] at w1
 have e6:=zi6 w t m hw ht
 have hj:=zhi (fnd (zch w t m long) w.length m (t.length+1)) (aL (fnd_len _ _ _ _) (by lia))
 generalize fnd (zch w t m long) w.length m (t.length+1)=fs at w1 hj ⊢
 generalize (ak (t.length+1)).map (fun e=>prD (wPr w.length m e))=ws at w1 e6 e0
 have hF:zb3 [aa (.val (.str (mkS w))),aa (.val (.int m)),aa (.val (.str (mkS t))),aa (.val (.int long)),ab,ab,ab,ab,ab]=aa (.rt (.val (.tup ((jnd (zd4 fs)).map prD))) [aa (.val (.str (mkS w))),aa (.val (.int m)),aa (.val (.str (mkS t))),aa (.val (.int long)),aa (.val (.int ((w.length:Int) - long+1 - m * long))),aa (.val (dcD (tms w long))),aa (.own (fs.map prD)),x7,x8]):=by
  refine(show zb3 _=_ from zaP s4).trans ((zaP s5).trans ((zaU (zhm (show zcH zae _=aa (.own []) from rfl))).trans ((forN ?_ w1).trans (zdu ?_))))
  ·simp only[iL,zah,zaa,zab,jqe,jqf,zae,jqc,jqa,zbf,zcG,asV,e6]
  ·simp only[zah,zaa,zab,jqf,jqe,zae,jqc,jqa,zbf,zcG,asL,hj]
 exact(congrArg (fun o=>bM o _) hF).trans rfl
section
open CE
variable (P:List Str)(T:List Nat)(p:Pr)
def siO(most:Int)(e:Nat)(prs:List D):OT:=.ins "Sight" ["most","end","pairs"] [.val (.int most),.val (.int (e:Int)),.lst prs]
def seD(most:Int)(x:Option Int)(j:Nat):List D:=match x with
 | some x=>if x<=most then [.tup [.int (j:Int),.int x]] else []
 | none=>[]
theorem seD_len(most:Int)(x:Option Int)(j:Nat):(seD most x j).length<=1:=by
 unfold seD
 split
 ·split <;> simp
 ·simp
theorem sinit_ok(most:Int):zbz (.ins "Sight" [] []) [.int most]=aa (.non,siO most 0 []):=by
 simp only[zbz,zhH,jqp,jqq,bq,zcI,zau,fFNew,zab,jqn,jqo,aD,jqk,jqf,jqe,jqa,toO,oAt,zdJ,jqj,jqg,sqO,eC,jqi,zcH,zae,Nat.reduceLeDiff,zey,jqc,jra,endM,siO]
 all_goals rfl
theorem come_ok(most:Int)(x:Option Int)(e:Nat)(prs:List D)(hl:prs.length<100000):zbL (siO most e prs) [oD x]=aa (.non,siO most (e+1) (prs ++ seD most x e)):=by
 have ee:((e+1:Nat):Int)=(e:Int)+1:=rfl
 unfold siO
 rw[ee]
 cases x with
 | none=>
  rw[show seD most ab e=[] from rfl,bV]
  simp (disch:=omega) only[zbL,zhH,oD_n,jqp,jqq,bq,zcA,zau,fIf,fAnd,tOf,ex2,zab,jqn,jqo,aD,jqk,jqf,jqe,eC,gNoN,isN,jqa,jqt,bOf,eFld,oAt,zdJ,fE,gLe,pI0,iOf,jqc,jqb,jqr,jrb,fFApp,zeR,zaa,zae,Nat.reduceAdd,Nat.reduceLeDiff,zey,asV,jra,jqg,lOf,jqh,zaO,zaf,fNx,zbg,sqO,zh6,toO,Nat.reduceLT,endM]
 | some x=>
  by_cases h:x<=most
  ·rw[show seD most (aa x) e=[.tup [.int (e:Int),.int x]] from if_pos h]
   simp (disch:=omega) only[zbL,zhH,oD_s,jqp,jqq,bq,zcA,zau,fIf,fAnd,tOf,ex2,zab,jqn,jqo,aD,jqk,jqf,jqe,eC,gNoN,isN,jqa,jqu,bOf,eFld,oAt,zdJ,fE,gLe,pI0,iOf,jqc,h,jqy,jra,fFApp,zeR,zaa,zae,Nat.reduceAdd,Nat.reduceLeDiff,zey,asV,jqg,lOf,jqh,zaO,zaf,fNx,zbg,sqO,zh6,toO,Nat.reduceLT,endM]
  ·rw[show seD most (aa x) e=[] from if_neg h,bV]
   simp (disch:=omega) only[zbL,zhH,oD_s,jqp,jqq,bq,zcA,zau,fIf,fAnd,tOf,ex2,zab,jqn,jqo,aD,jqk,jqf,jqe,eC,gNoN,isN,jqa,jqu,bOf,eFld,oAt,zdJ,fE,gLe,pI0,iOf,jqc,h,jqz,jra,fFApp,zeR,zaa,zae,Nat.reduceAdd,Nat.reduceLeDiff,zey,asV,jqg,lOf,jqh,zaO,zaf,fNx,jqr,jrb,zbg,sqO,zh6,toO,Nat.reduceLT,endM]
theorem tell_ok(most:Int)(e:Nat)(prs:List D):zcB (siO most e prs) []=aa (.tup prs,siO most e []):=by
 unfold siO
 simp (disch:=omega) only[zcB,zhH,jqq,zdy,zau,zbE,eCB,zaa,eFld,oAt,jqo,aD,jqi,jqj,jqe,jqa,zdJ,jqf,fE,zae,jqc,zeC,asL,jqh,jqg,toN,sqO,zh6,zcH,Nat.reduceLeDiff,zey,jra,toO,jqp,bq,Nat.reduceAdd,Nat.reduceLT,zhR,endM]
abbrev cT:Nat->Nat->Option Int:=cel (zbQ P T) p true
def seR(most:Int)(a b:Nat):List D:=(dG a (b - a)).flatMap fun j=>seD most (cT P T p P.length j) j
theorem ziB(most:Int)(a:Nat):seR P T p most a a=[]:=by simp[seR]
theorem seR_succ(most:Int){a b:Nat}(h:a<=b):seR P T p most a (b+1)=seR P T p most a b ++ seD most (cT P T p P.length b) b:=by
 unfold seR
 rw[show b+1 - a=(b - a)+1 by lia,List.range'_concat,fD]
 simp[show a+(b - a)=b by lia]
theorem seR_app(most:Int){a b d:Nat}(h1:a<=b)(h2:b<=d):seR P T p most a b ++ seR P T p most b d=seR P T p most a d:=by
 unfold seR
 rw[<- fD,show d - a=(b - a)+(d - b) by lia,<- List.range'_append_1,show a+(b - a)=b by lia]
end
section
open CE
variable (P:List Str)(T:List Nat)(p:Pr)
theorem isC_si(most:Int)(e:Nat)(prs:List D):isC "Sight" ["most","end","pairs"] (siO most e prs)=aa [.val (.int most),.val (.int (e:Int)),.lst prs]:=zdJ
theorem zfL(x0 x1 x3 y2:Option Ent)(most:Int):∀ (n a:Nat) (prs:List D) (x5:Option Ent),prs.length+n<100000->∃ y5,
  loop (gNm 5) zc6 ((dG a n).map fun(j:Nat)=>oD (cT P T p P.length j)) [x0,x1,y2,x3,aa (.obj (siO most a prs)),x5] =
  aa (.nx [x0,x1,y2,x3,aa (.obj (siO most (a+n) (prs ++ seR P T p most a (a+n)))),y5])
 | 0,a,prs,x5,_=>⟨x5,by rw[ej,ziB,bV];rfl⟩
 | n+1,a,prs,x5,hl=>by
  have cm:=come_ok most (cT P T p P.length a) a prs (by lia)
  have st:zc6 [x0,x1,y2,x3,aa (.obj (siO most a prs)),aa (.val (oD (cT P T p P.length a)))]=aa (.nx [x0,x1,y2,x3,aa (.obj (siO most (a+1) (prs ++ seD most (cT P T p P.length a) a))),aa (.val (oD (cT P T p P.length a)))]):=by
   have c1:=isC_si most a prs
   generalize siO most a prs=o1 at *
   generalize siO most (a+1) (prs ++ seD most (cT P T p P.length a) a)=o2 at *
   generalize oD (cT P T p P.length a)=d at *
   simp only[zc6,fX,xM,oAt,jqf,jqe,zaa,zab,zae,jqc,jqa,zey,asV,jqh,jqg,c1,cm]
  have pl:=seD_len most (cT P T p P.length a) a
  obtain⟨y5,e⟩:=zfL x0 x1 x3 y2 most n (a+1) (prs ++ seD most (cT P T p P.length a) a) (aa (.val (oD (cT P T p P.length a)))) (by rw[aP];lia)
  refine⟨y5,gy (zbO rfl st) (gy e ?_)⟩
  have q:seD most (cT P T p P.length a) a=seR P T p most a (a+1):=by rw[seR_succ P T p most (ai a),ziB,dz]
  rw[b6,q,seR_app P T p most (by lia) (by lia),show a+1+n=a+(n+1) by lia]
variable (hP:P.length<=100000)(hT:T.length<=10000)
include hP hT
theorem ends_at:zbx [.tup (P.map .str),.str (mkS T),p.d]=aa (.val (.tup ((dG 0 (T.length+1)).map fun(j:Nat)=>oD (cT P T p P.length j)))):=by
 have c:=zgm P T p true hP (by lia)
 have l1:=zet (fun i=>zdR (cel (zbQ P T) p true) T.length i) P.length
 rw[<- List.range_eq_range']
 simp (disch:=omega) only[zbx,zcL,stE,stN,jqc,jqa,zcE,zbB,ex2,zah,zaa,zab,aD,jqk,eC,zae,ex1,zeV,iOf,Int.reduceNeg,zcu,zei,toN,jqe,jqf,zbf,zcG,asV,c,l1,zf9]
 rfl
theorem ends_ok(most:Int):zcX [.tup (P.map .str),.str (mkS T),.int most,p.d]=aa (.val (.tup (seR P T p most 0 (T.length+1)))):=by
 have e:=ends_at P T p hP hT
 obtain⟨y5,lo⟩:=zfL P T p (aa (.val (.tup (P.map .str)))) (aa (.val (.str (mkS T)))) (aa (.val p.d)) (aa (.val (.int most))) most (T.length+1) 0 [] ab (by simp;lia)
 rw[dz,bq] at lo
 have t:=tell_ok most (T.length+1) (seR P T p most 0 (T.length+1))
 have i1:=sinit_ok most
 have c2:=isC_si most (T.length+1) (seR P T p most 0 (T.length+1))
 generalize (dG 0 (T.length+1)).map (fun(j:Nat)=>oD (cT P T p P.length j))=ls at *
 generalize siO most 0 []=o1 at *
 generalize siO most (T.length+1) (seR P T p most 0 (T.length+1))=o2 at *
 generalize siO most (T.length+1) []=o3 at *
 generalize seR P T p most 0 (T.length+1)=rr at *
 generalize P.map D.str=pp at *
 simp only[zcX,zcL,stE,stN,jqc,jqa,zfi,zau,fSetO,eMake,zaa,zab,aD,zae,jqi,jqj,jqf,jqe,zey,asV,i1,jqh,jqg,sqO,zez,iT,zah,zbf,zcG,e,zei,lo,zjk,xM,oAt,c2,t,zf9]
end
section
open CE
variable (P:List Str)(T:List Nat)(p:Pr)
theorem Kd5.inj{k k':Kd5}(h:k.s=k'.s):k=k':=by
 cases k <;> cases k' <;> first | rfl | (exact absurd h (by simp only[Kd5.s];decide +kernel))
theorem NoK.not{z:Str}(n:NoK z):¬ ∃ k:Kd5,z=k.s:=by
 rintro⟨k,e⟩
 cases k
 ·exact cast n.a e
 ·exact cast n.b e
 ·exact cast n.c e
 ·exact cast n.d e
 ·exact cast n.e e
end
def tab(c:Nat->Nat->Option Int)(m n:Nat):List D:=(ak (m+1)).map fun i=>zdR c n i
theorem tab_at(c:Nat->Nat->Option Int)(m n k:Nat){i:Int}(e:i=(k:Int))(h:k<=m):atI (tab c m n) i=aa (.tup ((ak (n+1)).map fun j=>CE.oD (c k j))):=by
 subst e
 refine ziY ?_
 unfold tab
 rw[ax,bo (by lia)]
 rfl
theorem row_at(c:Nat->Nat->Option Int)(n a k:Nat){i:Int}(e:i=(k:Int))(h:k<=n):atI ((ak (n+1)).map fun j=>CE.oD (c a j)) i=aa (CE.oD (c a k)):=by
 subst e
 rw[rowOf_at c n a (by lia) (by lia)]
 simp
section
open CE
variable (P:List Str)(T:List Nat)(p:Pr)
def lsB(c:Nat->Nat->Option Int)(f:Nat->Nat->Bool)(m n i j:Nat)(x:Int)(k:Kd5):Bool:=
 if k.cu<=i/\k.su<=j then (k.dn p && stB f m n (i - k.cu) (j - k.su) k) && (match c (i - k.cu) (j - k.su) with | some v=>decide (v+k.pr p=x) | none=>false) else false
theorem ixTab{E0 E1 E2:FE}{δ:En}{c:Nat->Nat->Option Int}{m n a b:Nat}(h0:E0 δ=aa (.val (.tup (tab c m n))))(h1:E1 δ=aa (.val (.int (a:Int))))(h2:E2 δ=aa (.val (.int (b:Int))))(ha:a<=m)(hb:b<=n) :
  ex2 zcu (ex2 zcu E0 E1) E2 δ=aa (.val (oD (c a b))):=by
 simp only[ex2,h0,h1,zcu,zei,iOf,jqa,tab_at c m n a rfl ha,jqc,h2,row_at c n a b rfl hb]
theorem clF{E9 X Y:FE}{δ:En}{v:Option Int}{a x:Int}(h9:E9 δ=aa (.val (oD v)))(hp:X δ=aa (.val (.int a)))(hc:Y δ=aa (.val (.int x))) :
  eAnd (ex2 gNoN E9 (eC .non)) (ex2 gEq (ex2 zbg E9 X) Y) δ=aa (.val (.bl (match (generalizing:=false) v with | some v=>decide (v+a=x) | none=>false))):=by
 cases v with
 | none=>rw[oD_n] at h9;simp only[eAnd,ex2,h9,eC,gNoN,isN,jqa,jqt,bOf,zbg,pI0,iOf,jqb,gEq,zic,jqr,jrb]
 | some v=>rw[oD_s] at h9;by_cases e:v+a=x <;> simp only[eAnd,ex2,h9,eC,gNoN,isN,jqa,jqu,bOf,hp,zbg,pI0,iOf,jqc,e,hc,gEq,zic,jqy,jra,jqz]
theorem zhh(hP:P.length<=100000)(hT:T.length<=100000)(c:Nat->Nat->Option Int)(k:Kd5)(i j:Nat)(hi:i<=P.length)(hj:j<=T.length){x:Int}(hx:c i j=aa x) :
  zc7 [.tup (tab c P.length T.length),.tup (P.map .str),.str (mkS T),p.d,.int (i:Int),.int (j:Int),.str k.s]=aa (.val (.bl (lsB p c (zbQ P T) P.length T.length i j x k))):=by
 suffices hF:∃ δ',zc3 [aa (.val (.tup (tab c P.length T.length))),aa (.val (.tup (P.map .str))),aa (.val (.str (mkS T))),aa (.val p.d),aa (.val (.int (i:Int))),aa (.val (.int (j:Int))),aa (.val (.str k.s)),ab,ab,ab]=aa (.rt (.val (.bl (lsB p c (zbQ P T) P.length T.length i j x k))) δ') from
  hF.elim fun _ h=>(congrArg (fun o=>bM o _) h).trans rfl
 have e7:=zg1 (E:=zab 4) (F:=ex1 (zjF [("same",1),("exchanged",1),("put",0),("left",1),("turned",2)]) (zab 6)) (δ:=[aa (.val (.tup (tab c P.length T.length))),aa (.val (.tup (P.map .str))),aa (.val (.str (mkS T))),aa (.val p.d),aa (.val (.int (i:Int))),aa (.val (.int (j:Int))),aa (.val (.str k.s)),ab,ab,ab]) rfl (tabC_k k rfl)
 have e8:=zg1 (E:=zab 5) (F:=ex1 (zjF [("same",1),("exchanged",1),("put",1),("left",0),("turned",2)]) (zab 6)) (δ:=[aa (.val (.tup (tab c P.length T.length))),aa (.val (.tup (P.map .str))),aa (.val (.str (mkS T))),aa (.val p.d),aa (.val (.int (i:Int))),aa (.val (.int (j:Int))),aa (.val (.str k.s)),aa (.val (.int ((i:Int) - (k.cu:Int)))),ab,ab]) rfl (tabS_k k rfl)
 rw[show zc3 [aa (.val (.tup (tab c P.length T.length))),aa (.val (.tup (P.map .str))),aa (.val (.str (mkS T))),aa (.val p.d),aa (.val (.int (i:Int))),aa (.val (.int (j:Int))),aa (.val (.str k.s)),ab,ab,ab]=_ from (zaP e7).trans (zaP e8)]
 clear e7 e8
 have hg:=orNeg (X:=zab 7) (Y:=zab 8) (δ:=[aa (.val (.tup (tab c P.length T.length))),aa (.val (.tup (P.map .str))),aa (.val (.str (mkS T))),aa (.val p.d),aa (.val (.int (i:Int))),aa (.val (.int (j:Int))),aa (.val (.str k.s)),aa (.val (.int ((i:Int) - (k.cu:Int)))),aa (.val (.int ((j:Int) - (k.su:Int)))),ab]) rfl rfl
 unfold lsB
 by_cases h1:k.cu<=i/\k.su<=j
 ·rw[if_pos h1]
  rw[decide_eq_false (by lia)] at hg
  generalize hi':i - k.cu=i' at *
  generalize hj':j - k.su=j' at *
  have c1:(i:Int) - (k.cu:Int)=(i':Int):=by lia
  have c2:(j:Int) - (k.su:Int)=(j':Int):=by lia
  rw[c1,c2] at hg
  have l1:i'<=P.length:=by lia
  have l2:j'<=T.length:=by lia
  have b2:=orNot (X:=zah [.v,.v] zdi (zaa (zab 3) (zaa (zab 6) zae))) (Y:=zah [.v,.v,.v,.v,.v] zco (zaa (zab 1) (zaa (zab 2) (zaa (zab 7) (zaa (zab 8) (zaa (zab 6) zae)))))) (δ:=[aa (.val (.tup (tab c P.length T.length))),aa (.val (.tup (P.map .str))),aa (.val (.str (mkS T))),aa (.val p.d),aa (.val (.int (i:Int))),aa (.val (.int (j:Int))),aa (.val (.str k.s)),aa (.val (.int (i':Int))),aa (.val (.int (j':Int))),ab])
   (show zdi [p.d,.str k.s]=_ from is_done_k p k) (show zco [.tup (P.map .str),.str (mkS T),.int (i':Int),.int (j':Int),.str k.s]=_ from stand_k P T hP hT k i' j' l1 l2)
  rw[c1,c2]
  show ∃ δ',zau _ _ _=_
  rw[zaU (f:=fIf _ _ _) (zgi hg)]
  cases d:(k.dn p && stB (zbQ P T) P.length T.length i' j' k) with
  | false=>
   rw[d] at b2
   exact⟨_,zge ((zjE b2).trans (zdu rfl))⟩
  | true=>
   rw[d] at b2
   refine⟨?w,(zaU (zgi b2)).trans ((zaP (ixTab (c:=c) rfl rfl rfl l1 l2)).trans ?z)⟩
   case z=>
    refine zdu ?_
    refine clF (v:=c i' j') rfl (a:=k.pr p) ?_ ?_
    ·exact show zbN [p.d,.str k.s]=_ from zgN p k
    ·refine(ixTab (c:=c) rfl rfl rfl hi hj).trans ?_
     rw[hx,oD_s]
 ·rw[if_neg h1]
  rw[decide_eq_true (by lia)] at hg
  exact⟨_,zge ((zjE hg).trans (zdu rfl))⟩
end
section
open CE
variable (f:Nat->Nat->Bool)(p:Pr)
theorem zfZ{cs:List (Option Int)}{x:Int}(h:lw cs=aa x):aa x ∈ cs:=by
 have:=zi1 h
 obtain⟨o,h1,h2⟩:=dy.mp this
 cases h2
 exact h1
theorem zbT{c:Option Int}{q x:Int}(h:stp c q=aa x):q ≠ 0/\∃ v,c=aa v/\v+q=x:=by
 unfold stp at h
 by_cases e:q=0
 ·rw[if_pos e] at h;cases h
 ·rw[if_neg e] at h
  cases c with
  | none=>cases h
  | some v=>cases h;exact⟨e,v,rfl,rfl⟩
theorem zhQ{c:Nat->Nat->Option Int}{m n i j:Nat}{x v:Int}{k:Kd5}(h1:k.cu<=i)(h2:k.su<=j)(hi:i<=m)(hj:j<=n)(hd:k.dn p=true)(hf:k.ft f (i - k.cu) (j - k.su)=true)(hc:c (i - k.cu) (j - k.su)=aa v)(he:v+k.pr p=x):lsB p c f m n i j x k=true:=by
 unfold lsB stB
 rw[if_pos ⟨h1,h2⟩,if_pos ⟨by lia,by lia⟩,hd,hf,hc]
 simp only[he,decide_true,Bool.and_self]
theorem ex_last{m n i j:Nat}{x:Int}(hi:i<=m)(hj:j<=n)(h0:0<i \/ 0<j)(h:cel f p false i j=aa x):∃ k:Kd5,lsB p (cel f p false) f m n i j x k=true:=by
 cases i with
 | zero=>
  cases j with
  | zero=>lia
  | succ j=>
   rw[zgK,if_neg (by decide)] at h
   obtain⟨q,v,e1,e2⟩:=zbT h
   exact⟨.put,zhQ f p (v:=v) (by decide) (by simp[Kd5.su]) hi hj (by simpa [Kd5.dn] using q) rfl (by simpa [Kd5.cu,Kd5.su] using e1) e2⟩
 | succ i=>
  cases j with
  | zero=>
   rw[zit] at h
   obtain⟨q,v,e1,e2⟩:=zbT h
   exact⟨.left,zhQ f p (v:=v) (by simp[Kd5.cu]) (by decide) hi hj (by simpa [Kd5.dn] using q) rfl (by simpa [Kd5.cu,Kd5.su] using e1) e2⟩
  | succ j=>
   rw[zeT] at h
   have hm:=zfZ h
   simp only[aY,gw,or_false] at hm
   rcases hm with e | e | e | e
   ·by_cases q:f i j=true
    ·rw[if_pos q] at e
     exact⟨.same,zhQ f p (v:=x) (by simp[Kd5.cu]) (by simp[Kd5.su]) hi hj rfl (by simpa [Kd5.ft,Kd5.cu,Kd5.su] using q) (by simpa [Kd5.cu,Kd5.su] using e.symm) (by simp[Kd5.pr])⟩
    ·rw[if_neg q] at e
     obtain⟨q2,v,e1,e2⟩:=zbT e.symm
     exact⟨.exch,zhQ f p (v:=v) (by simp[Kd5.cu]) (by simp[Kd5.su]) hi hj (by simpa [Kd5.dn] using q2) (by simpa [Kd5.ft,Kd5.cu,Kd5.su] using q) (by simpa [Kd5.cu,Kd5.su] using e1) e2⟩
   ·obtain⟨q2,v,e1,e2⟩:=zbT e.symm
    exact⟨.put,zhQ f p (v:=v) (by simp[Kd5.cu]) (by simp[Kd5.su]) hi hj (by simpa [Kd5.dn] using q2) rfl (by simpa [Kd5.cu,Kd5.su] using e1) e2⟩
   ·obtain⟨q2,v,e1,e2⟩:=zbT e.symm
    exact⟨.left,zhQ f p (v:=v) (by simp[Kd5.cu]) (by simp[Kd5.su]) hi hj (by simpa [Kd5.dn] using q2) rfl (by simpa [Kd5.cu,Kd5.su] using e1) e2⟩
   ·obtain⟨q2,v,e1,e2⟩:=zbT e.symm
    unfold tc at e1
    by_cases q:0<i/\0<j
    ·rw[if_pos q] at e1
     by_cases q3:(f i (j - 1) && f (i - 1) j)=true
     ·rw[if_pos q3] at e1
      refine⟨.turn,zhQ f p (v:=v) (by simp[Kd5.cu];lia) (by simp[Kd5.su];lia) hi hj (by simpa [Kd5.dn] using q2) ?_ ?_ e2⟩
      ·show(f (i+1 - 2+1) (j+1 - 2) && f (i+1 - 2) (j+1 - 2+1))=true
       rw[show i+1 - 2+1=i by lia,show j+1 - 2=j - 1 by lia,show i+1 - 2=i - 1 by lia,show j - 1+1=j by lia]
       exact q3
      ·show cel f p false (i+1 - 2) (j+1 - 2)=aa v
       rw[show i+1 - 2=i - 1 by lia,show j+1 - 2=j - 1 by lia]
       exact e1
     ·rw[if_neg q3] at e1;cases e1
    ·rw[if_neg q] at e1;cases e1
def ks5:List Kd5:=[.same,.exch,.put,.left,.turn]
theorem mem5(k:Kd5):k ∈ ks5:=by cases k <;> simp[ks5]
theorem ziO{ft:D->Option Bool}{fe:D->Option Ent}{b:Kd5->Bool}(h1:∀ k:Kd5,ft (.str k.s)=aa (b k))(h2:∀ z:Str,fe (.str z)=aa (.val (.str z))):∀ ks:List Kd5,zdj ft fe ((ks.map Kd5.s).map .str)=aa (((ks.filter b).map Kd5.s).map .str)
 | []=>rfl
 | k :: ks=>by
  rw[ay,ay,zdj,h1,ziO h1 h2 ks,List.filter_cons]
  cases b k with
  | true=>simp only[aT,if_true,h2,asV,cz,ay]
  | false=>simp only[aT,if_false,bG]
theorem lastst_ok(P:List Str)(T:List Nat)(hP:P.length<=100000)(hT:T.length<=100000)(c:Nat->Nat->Option Int)(i j:Nat)(hi:i<=P.length)(hj:j<=T.length){x:Int}(hx:c i j=aa x)(hk:∃ k,lsB p c (zbQ P T) P.length T.length i j x k=true) :
  ∃ k,lsB p c (zbQ P T) P.length T.length i j x k=true/\zb7 [.tup (tab c P.length T.length),.tup (P.map .str),.str (mkS T),p.d,.int (i:Int),.int (j:Int)]=aa (.val (.str k.s)):=by
 obtain⟨k0,hk0⟩:=hk
 have hm:k0 ∈ ks5.filter (lsB p c (zbQ P T) P.length T.length i j x):=cU.mpr ⟨mem5 k0,hk0⟩
 cases hl:ks5.filter (lsB p c (zbQ P T) P.length T.length i j x) with
 | nil=>rw[hl] at hm;cases hm
 | cons k r=>
  have hk':lsB p c (zbQ P T) P.length T.length i j x k=true:=(cU.mp (hl ▸ aw:k ∈ ks5.filter (lsB p c (zbQ P T) P.length T.length i j x))).2
  refine⟨k,hk',?_⟩
  have ln:r.length+1<=5:=by
   have:=dR (lsB p c (zbQ P T) P.length T.length i j x) ks5
   rw[hl] at this
   simpa [ks5] using this
  have cd:=ziO (ft:=fun d=>zcw (cEn [0,1,2,3,4,5] [aa (.val (.tup (tab c P.length T.length))),aa (.val (.tup (P.map .str))),aa (.val (.str (mkS T))),aa (.val p.d),aa (.val (.int (i:Int))),aa (.val (.int (j:Int))),ab] d))
   (fe:=fun d=>zde (cEn [0,1,2,3,4,5] [aa (.val (.tup (tab c P.length T.length))),aa (.val (.tup (P.map .str))),aa (.val (.str (mkS T))),aa (.val p.d),aa (.val (.int (i:Int))),aa (.val (.int (j:Int))),ab] d))
   (b:=lsB p c (zbQ P T) P.length T.length i j x) (fun k=>by
    have:=zhh P T p hP hT c k i j hi hj hx
    simp only[zcw,tOf,zah,zaa,zab,cEn,jqn,jqe,jqx,jqa,capt,jqf,jqo,zae,jqc,zbf,zcG,asV,this,bOf]) (fun z=>rfl) ks5
  rw[hl] at cd
  have ec:=zeM (fr:=[0,1,2,3,4,5]) (fi:=iK ["same","exchanged","put","left","turned"]) (ft:=zcw) (fe:=zde) (δ:=[aa (.val (.tup (tab c P.length T.length))),aa (.val (.tup (P.map .str))),aa (.val (.str (mkS T))),aa (.val p.d),aa (.val (.int (i:Int))),aa (.val (.int (j:Int))),ab]) rfl cd (by simp;lia)
  have a0:atI (((k :: r).map Kd5.s).map D.str) 0=aa (.str k.s):=zgn (by decide) rfl
  rw[ay,ay] at a0 ec
  simp (disch:=omega) only[zb7,zcL,stE,stN,jqc,jqa,zd5,zau,zbE,aD,toN,jqi,jqj,ec,jqh,jqg,sqO,zbB,ex2,zab,jqf,jqe,eC,zda,asL,iOf,a0,zf9]
end
section
open CE
def Run(f:Nat->Nat->Bool)(m n:Nat)(p:Pr):List Kd5->Nat->Nat->Prop
 | [],i,j=>i=m/\j=n
 | k :: r,i,j=>k.dn p=true/\stB f m n i j k=true/\Run f m n p r (i+k.cu) (j+k.su)
theorem Kd5.pos(k:Kd5):1<=k.cu+k.su:=by cases k <;> decide
theorem whl_go{c:FT}{f:FS}{n:Nat}{δ δ':En}(h1:c δ=aa true)(h2:f δ=aa (.nx δ')):whl c f (n+1) δ=whl c f n δ':=by
 simp only[whl,h1,h2,aT,if_true]
 rfl
theorem whl_end{c:FT}{f:FS}{n:Nat}{δ:En}(h1:c δ=aa false):whl c f (n+1) δ=aa (.nx δ):=by
 simp only[whl,h1,aT,if_false,bG]
def ziE(ks:List Kd5):List D:=(ks.reverse.map Kd5.s).map .str
variable (P:List Str)(T:List Nat)(p:Pr)(hP:P.length<=1000)(hT:T.length<=1000)
include hP hT
theorem back_turn(c:Nat->Nat->Option Int)(i j:Nat)(k:Kd5)(ks:List Kd5)(x7:Option Ent)(hi:k.cu<=i)(hj:k.su<=j)(hl:ks.length<=100000)
  (h:zb7 [.tup (tab c P.length T.length),.tup (P.map .str),.str (mkS T),p.d,.int (i:Int),.int (j:Int)]=aa (.val (.str k.s))) :
  zbA [aa (.val (.tup (P.map .str))),aa (.val (.str (mkS T))),aa (.val p.d),aa (.val (.tup (tab c P.length T.length))),aa (.own (ziE ks)),aa (.val (.int (i:Int))),aa (.val (.int (j:Int))),x7] =
  aa (.nx [aa (.val (.tup (P.map .str))),aa (.val (.str (mkS T))),aa (.val p.d),aa (.val (.tup (tab c P.length T.length))),aa (.own (ziE (k :: ks))),aa (.val (.int ((i - k.cu:Nat):Int))),aa (.val (.int ((j - k.su:Nat):Int))),aa (.val (.str k.s))]):=by
 have c1:((i - k.cu:Nat):Int)=(i:Int) - (k.cu:Int):=by lia
 have c2:((j - k.su:Nat):Int)=(j:Int) - (k.su:Int):=by lia
 have e:ziE (k :: ks)=ziE ks ++ [.str k.s]:=by simp[ziE]
 have ll:(ziE ks).length<1000000:=by simp[ziE];lia
 rw[c1,c2,e]
 generalize ziE ks=acc at *
 have s1:zah [.v,.v,.v,.v,.v,.v] zb7 (zaa (zab 3) (zaa (zab 0) (zaa (zab 1) (zaa (zab 2) (zaa (zab 5) (zaa (zab 6) zae)))))) [aa (.val (.tup (P.map .str))),aa (.val (.str (mkS T))),aa (.val p.d),aa (.val (.tup (tab c P.length T.length))),aa (.own acc),aa (.val (.int (i:Int))),aa (.val (.int (j:Int))),x7]=aa (.val (.str k.s)):=h
 exact(show zbA _=_ from zaP s1).trans ((zaU (zhN (ds:=acc) (v:=.str k.s) rfl rfl ll)).trans ((zaP (zg1 (a:=(i:Int)) rfl (tabC_k k rfl))).trans (zeI (zg1 (a:=(j:Int)) rfl (tabS_k k rfl)))))
theorem back_ok:∀ (N i j:Nat) (ks:List Kd5) (x7:Option Ent) (x:Int),i+j<N->i<=P.length->j<=T.length->ks.length+i+j<=3000->cel (zbQ P T) p false i j=aa x->Run (zbQ P T) P.length T.length p ks i j ->
  ∃ (ks':List Kd5) (y7:Option Ent),Run (zbQ P T) P.length T.length p ks' 0 0/\(ks'.map (Kd5.pr p)).sum=x+(ks.map (Kd5.pr p)).sum/\ks'.length<=3000 /\
  whl zby zbA N [aa (.val (.tup (P.map .str))),aa (.val (.str (mkS T))),aa (.val p.d),aa (.val (.tup (tab (cel (zbQ P T) p false) P.length T.length))),aa (.own (ziE ks)),aa (.val (.int (i:Int))),aa (.val (.int (j:Int))),x7] =
   aa (.nx [aa (.val (.tup (P.map .str))),aa (.val (.str (mkS T))),aa (.val p.d),aa (.val (.tup (tab (cel (zbQ P T) p false) P.length T.length))),aa (.own (ziE ks')),aa (.val (.int 0)),aa (.val (.int 0)),y7])
 | 0,i,j,ks,x7,x,h,_,_,_,_,_=>by lia
 | N+1,i,j,ks,x7,x,h,hi,hj,hl,hc,hr=>by
  by_cases h0:0<i \/ 0<j
  ·obtain⟨k,hk,hg⟩:=lastst_ok p P T (by lia) (by lia) (cel (zbQ P T) p false) i j hi hj hc (ex_last (zbQ P T) p hi hj h0 hc)
   unfold lsB at hk
   by_cases hb:k.cu<=i/\k.su<=j
   ·rw[if_pos hb,cP,cP] at hk
    obtain⟨⟨hd,hs⟩,hv⟩:=hk
    have pos:=k.pos
    cases cv:cel (zbQ P T) p false (i - k.cu) (j - k.su) with
    | none=>rw[cv] at hv;cases hv
    | some v=>
     rw[cv] at hv
     have hv':v+k.pr p=x:=of_decide_eq_true hv
     obtain⟨ks',y7,r1,r2,r3,r4⟩:=back_ok N (i - k.cu) (j - k.su) (k :: ks) (aa (.val (.str k.s))) v (by lia) (by lia) (by lia) (by simp;lia) cv ⟨hd,hs,by rw[iG hb.1,iG hb.2];exact hr⟩
     refine⟨ks',y7,r1,?_,r3,?_⟩
     ·rw[r2,ay,dw];lia
     ·have hw:zby [aa (.val (.tup (P.map .str))),aa (.val (.str (mkS T))),aa (.val p.d),aa (.val (.tup (tab (cel (zbQ P T) p false) P.length T.length))),aa (.own (ziE ks)),aa (.val (.int (i:Int))),aa (.val (.int (j:Int))),x7]=aa true:=by
       refine(show zby _=_ from orGt rfl rfl).trans ?_
       rw[decide_eq_true (by lia)]
      rw[whl_go hw (back_turn P T p hP hT _ i j k ks x7 hb.1 hb.2 (by lia) hg)]
      exact r4
   ·rw[if_neg hb] at hk;cases hk
  ·have e1:i=0:=by lia
   have e2:j=0:=by lia
   subst e1 e2
   rw[zhz] at hc
   cases hc
   refine⟨ks,x7,hr,by lia,by lia,whl_end ?_⟩
   exact orGt (a:=((0:Nat):Int)) (b:=((0:Nat):Int)) rfl rfl
end
section
open CE
variable (P:List Str)(T:List Nat)(p:Pr)(hP:P.length<=1000)(hT:T.length<=1000)
include hP hT
theorem row_some{x:Int}(h:cel (zbQ P T) p false P.length T.length=aa x):∃ ks:List Kd5,Run (zbQ P T) P.length T.length p ks 0 0/\(ks.map (Kd5.pr p)).sum=x/\ks.length<=3000/\zcg [.tup (P.map .str),.str (mkS T),p.d]=aa (.val (.tup ((ks.map Kd5.s).map .str))):=by
 obtain⟨ks,y7,r1,r2,r3,r4⟩:=back_ok P T p hP hT 2100 P.length T.length [] ab x (by lia) (ai _) (ai _) (by simp;lia) h ⟨rfl,rfl⟩
 refine⟨ks,r1,by simpa using r2,r3,?_⟩
 have c:=zgm P T p false (by lia) (by lia)
 have l1:=zet (fun i=>zdR (cel (zbQ P T) p false) T.length i) P.length
 have l2:=zet (fun j=>oD (cel (zbQ P T) p false P.length j)) T.length
 rw[h,oD_s] at l2
 have r5:whl zby zbA 2100 [aa (.val (.tup (P.map .str))),aa (.val (.str (mkS T))),aa (.val p.d),aa (.val (.tup ((ak (P.length+1)).map fun i=>zdR (cel (zbQ P T) p false) T.length i))),aa (.own []),aa (.val (.int (P.length:Int))),aa (.val (.int (T.length:Int))),ab] =
   aa (.nx [aa (.val (.tup (P.map .str))),aa (.val (.str (mkS T))),aa (.val p.d),aa (.val (.tup ((ak (P.length+1)).map fun i=>zdR (cel (zbQ P T) p false) T.length i))),aa (.own (ziE ks)),aa (.val (.int 0)),aa (.val (.int 0)),y7]):=r4
 have er:(ziE ks).reverse=(ks.map Kd5.s).map .str:=by
  unfold ziE
  rw[<- eV,<- eV,List.reverse_reverse]
 unfold zdR at l1 c r5
 have hm:T.length<=1000000:=by lia
 simp (disch:=omega) only[zcg,zcL,stE,stN,jqc,jqa,zdn,zau,zbE,zhq,zaa,zab,aD,zae,toN,jqi,jqj,jqe,jqf,zbf,zcG,asV,c,jqh,jqg,sqO,fIf,tOf,ex2,ex1,eC,zeV,iOf,Int.reduceNeg,zcu,zei,l1,l2,zjH,isN,bOf,zbB,fNx,jqr,jrb,zcH,jqq,Nat.reduceLeDiff,zey,jra,eCB,zb1,aq,za9,sOf,zat,zaO,zaf]
 simp (disch:=omega) only[r5,jqa,sqO,zbB,ex1,zab,jqf,jqe,zh4,asL,er,toN,jqc,zf9]
end
section
open CE
end
section
open CE
theorem flat_oD(cs:List (Option Int)):(cs.map oD).all flD=true:=by
 rw[cD]
 intro d hd
 obtain⟨c,_,rfl⟩:=bJ.mp hd
 cases c <;> rfl
theorem eqF_oD(c:Option Int)(x:Int):(eqF (oD c) (.int x)=true) ↔ c=aa x:=by
 cases c with
 | none=>simp[oD,eqF]
 | some a=>simp[oD,eqF]
theorem idx_first(cs:List (Option Int))(m:Int)(h:aa m ∈ cs):∃ j:Nat,idxD (cs.map oD) (.int m)=aa (.val (.int (j:Int)))/\cs[j]? = aa (aa m)/\∀ l,l<j->cs[l]? ≠ aa (aa m):=by
 unfold idxD
 rw[flat_oD]
 cases q:(cs.map oD).findIdx? (fun e=>eqF e (.int m)) with
 | some j=>
  refine⟨j,rfl,?_⟩
  obtain⟨h1,h2,h3⟩:=dq.mp q
  have hj:j<cs.length:=by simpa using h1
  refine⟨?_,fun l hl e=>?_⟩
  ·rw[gz] at h2
   rw[aF hj,(eqF_oD _ _).mp h2]
  ·have:=h3 l hl
   rw[gz] at this
   have hl':l<cs.length:=by lia
   rw[aF hl'] at e
   exact this ((eqF_oD _ _).mpr (bf e))
 | none=>
  have:=List.findIdx?_eq_none_iff.mp q (.int m) (bJ.mpr ⟨aa m,h,rfl⟩)
  simp[eqF] at this
theorem ziT{α:Type}(l:List α)(d:α)(x:Nat)(h:x<l.length):l.reverse.getD x d=l.getD (l.length - 1 - x) d:=by
 rw[br,br,gU h]
theorem zhd{α:Type}(l:List α)(d:α)(x n:Nat)(h:x<n):(l.take n).getD x d=l.getD x d:=by
 rw[br,br,cX h]
theorem getD_sub{α:Type}(l:List α)(d:α)(b x n:Nat)(h:x<n):((l.drop b).take n).getD x d=l.getD (b+x) d:=by
 rw[zhd _ _ _ _ h,br,br,iE]
variable (P:List Str)(T:List Nat)(p:Pr)(e:Nat)
abbrev fitB:Nat->Nat->Bool:=zbQ P.reverse (T.take e).reverse
abbrev sub(l:Nat):List Nat:=(T.drop (e - l)).take l
abbrev zfG:List (Option Int):=(ak (e+1)).map fun l=>cel (fitB P T e) p false P.length l
variable (hP:P.length<=1000)(hT:T.length<=1000)(hp:p.Ok)(he:e<=T.length)
include he in
theorem fitB_eq(x y:Nat)(hx:x<P.length)(hy:y<e):fitB P T e x y=zbQ P T (P.length - 1 - x) (e - 1 - y):=by
 have hl:(T.take e).length=e:=by rw[bv];lia
 unfold fitB zbQ
 rw[ziT P _ x hx,ziT (T.take e) _ y (by lia),hl,zhd _ _ _ _ (by lia)]
theorem fitS_eq{l:Nat}(x y:Nat)(hy:y<l):zbQ P (sub T e l) x y=zbQ P T x (e - l+y):=by
 unfold zbQ sub
 rw[getD_sub _ _ _ _ _ hy]
include hp he in
theorem sub_cel{l:Nat}(hl:l<=e):cel (fitB P T e) p false P.length l=cel (zbQ P (sub T e l)) p false P.length l:=
 rev_cel (fit:=zbQ P T) hp hl (fitB_eq P T e he) fun x y _ hy=>fitS_eq P T e x y hy
include hp he in
theorem free_told:cel (zbQ P T) p true P.length e=lw (zfG P T p e):=free_cel hp (fitB_eq P T e he)
theorem zhM{l:Nat}(he:e<=T.length)(hl:l<=e):(sub T e l).length=l:=by
 rw[bv,cC];lia
theorem cut_sub{b:Nat}(he:e<=T.length)(hb:b<=e):zc1 T (aa (b:Int)) (aa (e:Int))=sub T e (e - b):=by
 unfold zc1 sub
 rw[HT.sIx_nat,HT.sIx_nat,da (by lia),da (by lia),show e - (e - b)=b by lia]
include hP hT he in
theorem by_len:zbe [.tup (P.map .str),.str (mkS (T.take e)),p.d]=aa (.val (.tup ((zfG P T p e).map oD))):=by
 have hl:(T.take e).length=e:=by rw[bv];lia
 have c:=zgm P.reverse (T.take e).reverse p false (by simp;lia) (by simp;lia)
 rw[eV,c9,c9,hl] at c
 have l1:=zet (fun i=>zdR (cel (fitB P T e) p false) e i) P.length
 have hm:(T.take e).length<=1000000:=by lia
 have r:zdR (cel (fitB P T e) p false) e P.length=.tup ((zfG P T p e).map oD):=by
  unfold zdR zfG
  rw[cK]
  rfl
 rw[r] at l1
 generalize (zfG P T p e).map oD=told at *
 simp (disch:=omega) only[zbe,zcL,stE,stN,jqc,jqa,zcf,zbB,ex2,zhq,zaa,ex1,zab,aD,jqk,zae,eC,zeV,iOf,Int.reduceNeg,zcu,zei,toN,jqe,gRvT,jqf,gRvS,sOf,zat,zaO,zcD,zaf,jqi,jqj,zbf,zcG,asV,c,l1,zf9]
theorem low_some(cs:List (Option Int))(hl:cs.length<=1000000){x:Int}{j:Nat}(h:lw cs=aa x)(hj:idxD (cs.map oD) (.int x)=aa (.val (.int (j:Int)))):zbX [.tup (cs.map oD)]=aa (.val (.tup [.int (j:Int),.int x])):=by
 have l:=zi7 cs hl
 rw[h,oD_s] at l
 unfold idxD at hj
 simp (disch:=omega) only[zbX,zcL,stE,stN,jqc,jqa,zdf,zau,zbE,zah,zaa,zab,aD,zae,toN,jqi,jqj,jqe,zbf,zcG,asV,l,jqh,jqg,sqO,fIf,tOf,ex2,jqf,eC,zjH,isN,bOf,zbB,fNx,jqr,jrb,zeR,eBM,gIdxT,zei,vOf,idxD,hj,jqp,jqq,Nat.reduceLeDiff,zey,jra,zf9]
include hP hT hp he
theorem zhc{x:Int}(h:cel (zbQ P T) p true P.length e=aa x):∃ (l:Nat) (ks:List Kd5),l<=e/\Run (zbQ P (sub T e l)) P.length (sub T e l).length p ks 0 0/\(ks.map (Kd5.pr p)).sum=x/\ks.length<=3000 /\
  (∀ l',l'<l->∀ y,cel (zbQ P (sub T e l')) p false P.length l'=aa y->x<y) /\
  zbH [.tup (P.map .str),.str (mkS T),.int (e:Int),p.d]=aa (.val (.tup [.int ((e - l:Nat):Int),.tup ((ks.map Kd5.s).map .str)])):=by
 rw[free_told P T p e hp he] at h
 obtain⟨l,hj,h1,h2⟩:=idx_first (zfG P T p e) x (zfZ h)
 have hl:l<=e:=by
  have:=(aO.mp h1).1
  simp at this
  lia
 have at':∀ l',l'<=e->(zfG P T p e)[l']? = aa (cel (fitB P T e) p false P.length l'):=fun l' hl'=>by
  rw[ax,bo (by lia)]
  rfl
 rw[at' l hl] at h1
 have hc1:cel (zbQ P (sub T e l)) p false P.length (sub T e l).length=aa x:=by
  rw[zhM T e he hl,<- sub_cel P T p e hp he hl]
  exact bf h1
 obtain⟨ks,r1,r2,r3,r4⟩:=row_some P (sub T e l) p hP (by rw[zhM T e he hl];lia) hc1
 refine⟨l,ks,hl,r1,r2,r3,fun l' hl' y hy=>?_,?_⟩
 ·rw[<- sub_cel P T p e hp he (by lia)] at hy
  obtain⟨z,hz,hzy⟩:=zh0 (cs:=zfG P T p e) (c:=y) (cg ((at' l' (by lia)).trans (by rw[hy])))
  rw[h] at hz
  cases hz
  have hne:y ≠ x:=fun q=>h2 l' hl' (by rw[at' l' (by lia),hy,q])
  lia
 ·have b:=by_len P T p e hP hT he
  have f:=low_some (zfG P T p e) (by simp;lia) h hj
  have n1:¬ ((e:Int)<0):=by lia
  have n2:¬ ((e:Int) > (T.length:Int)):=by lia
  have hm:T.length<=1000000:=by lia
  have hc:=cutG_to T e
  have c1:(e:Int) - (l:Int)=((e - l:Nat):Int):=by lia
  have c2:=cut_sub T e (b:=e - l) he (by lia)
  rw[show e - (e - l)=l by lia] at c2
  have x0:atI [D.int (l:Int),D.int x] 0=aa (.int (l:Int)):=rfl
  generalize (zfG P T p e).map oD=told at *
  generalize (ks.map Kd5.s).map D.str=row at *
  generalize sub T e l=sb at *
  simp (disch:=omega) only[zbH,zcL,stE,stN,jqc,jqa,zdF,zau,fIf,fOr,tOf,ex2,zab,aD,eC,gLt,pI0,iOf,eCB,zaa,zae,gGt,zbB,toN,fNx,zdO,jqi,jqj,jqf,jqe,n1,jqz,bOf,za9,sOf,zat,zaO,zaf,n2,jqr,jrb,sqO,zbE,zah,eSl,oNo,oSo,zex,zcD,hc,zbf,zcG,asV,b,f,jqh,jqg,zjH,isN,zcu,zei,x0,c1,zeR,c2,r4,jqp,jqq,Nat.reduceLeDiff,zey,jra,zf9]
end
theorem row_le{p q:Int × Int}(h:prR p<=prR q):p.1<=q.1:=by
 refine gc fun hc=>?_
 exact(i3.mpr h) (dc.mpr (.inl (by lia)))
theorem srtP_up(ps:List (Int × Int)):(zd4 ps).Pairwise fun p q=>p.1<=q.1:=by
 unfold zd4
 rw[iS]
 refine(srtR_up (ps.map prR)).imp_of_mem fun {a b} ha hb h=>?_
 obtain⟨p,_,rfl⟩:=bJ.mp ((zdx _).mem_iff.mp ha)
 obtain⟨q,_,rfl⟩:=bJ.mp ((zdx _).mem_iff.mp hb)
 exact row_le h
structure Kp(n:Int)(K:List (Int × Int)):Prop where
 apart:K.Pairwise fun p q=>p.2<q.1
 ok:∀ p ∈ K,0<=p.1/\p.1<=p.2/\p.2<=n
theorem jst_kp{n:Int}{acc:List (Int × Int)}{p:Int × Int}(k:Kp n acc)(h:∀ q ∈ acc,q.1<=p.1)(hp:0<=p.1/\p.1<=p.2/\p.2<=n) :
  Kp n (jst acc p)/\(∀ q ∈ jst acc p,q.1<=p.1)/\(∀ q,q=p \/ (∃ r ∈ acc,r.1<=q.1/\q.2<=r.2)->∃ r ∈ jst acc p,r.1<=q.1/\q.2<=r.2):=by
 have app:(∀ q ∈ acc,q.2<p.1)->Kp n (acc ++ [p])/\(∀ q ∈ acc ++ [p],q.1<=p.1)/\(∀ q,q=p \/ (∃ r ∈ acc,r.1<=q.1/\q.2<=r.2)->∃ r ∈ acc ++ [p],r.1<=q.1/\q.2<=r.2):=fun hl=>by
  refine⟨⟨dX.mpr ⟨k.apart,eG _ _,fun a ha b hb=>by rw[a7] at hb;subst hb;exact hl a ha⟩,fun q hq=>?_⟩,fun q hq=>?_,fun q hq=>?_⟩
  ·rcases bx.mp hq with hq | hq
   ·exact k.ok q hq
   ·rw[a7] at hq;subst hq;exact hp
  ·rcases bx.mp hq with hq | hq
   ·exact h q hq
   ·rw[a7] at hq;subst hq;exact dH _
  ·rcases hq with rfl | ⟨r,hr,h1,h2⟩
   ·exact⟨_,aJ _ (a7.mpr rfl),dH _,dH _⟩
   ·exact⟨r,bz _ hr,h1,h2⟩
 unfold jst
 cases q0:acc.getLast? with
 | none=>
  have:acc=[]:=gf.mp q0
  exact app fun q hq=>by rw[this] at hq;cases hq
 | some l=>
  obtain⟨ys,rfl⟩:=gd.mp q0
  have hl:l ∈ ys ++ [l]:=aJ _ (a7.mpr rfl)
  have pw:=dX.mp k.apart
  dsimp only
  by_cases hc:p.1<=l.2
  ·rw[if_pos hc,hZ]
   have kl:=k.ok l hl
   have ll:=h l hl
   have mx:l.2<=(if p.2 > l.2 then p.2 else l.2)/\p.2<=(if p.2 > l.2 then p.2 else l.2)/\(if p.2 > l.2 then p.2 else l.2)<=n:=by split <;> lia
   generalize (if p.2 > l.2 then p.2 else l.2)=M at mx
   refine⟨⟨dX.mpr ⟨pw.1,eG _ _,fun a ha b hb=>?_⟩,fun q hq=>?_⟩,fun q hq=>?_,fun q hq=>?_⟩
   ·rw[a7] at hb;subst hb;exact pw.2.2 a ha l (a7.mpr rfl)
   ·rcases bx.mp hq with hq | hq
    ·exact k.ok q (bz _ hq)
    ·rw[a7] at hq;subst hq
     exact⟨kl.1,by show l.1<=M;lia,mx.2.2⟩
   ·rcases bx.mp hq with hq | hq
    ·exact h q (bz _ hq)
    ·rw[a7] at hq;subst hq;exact ll
   ·rcases hq with rfl | ⟨r,hr,h1,h2⟩
    ·exact⟨(l.1,M),aJ _ (a7.mpr rfl),ll,mx.2.1⟩
    ·rcases bx.mp hr with hr | hr
     ·exact⟨r,bz _ hr,h1,h2⟩
     ·rw[a7] at hr;subst hr
      exact⟨(r.1,M),aJ _ (a7.mpr rfl),h1,iF h2 mx.1⟩
  ·rw[if_neg hc]
   refine app fun q hq=>?_
   have kl:=k.ok l hl
   rcases bx.mp hq with hq | hq
   ·have:=pw.2.2 q hq l (a7.mpr rfl)
    lia
   ·rw[a7] at hq;subst hq;lia
theorem ziG{n:Int}:∀ (ps acc:List (Int × Int)),Kp n acc->(∀ q ∈ acc,∀ p ∈ ps,q.1<=p.1)->(ps.Pairwise fun p q=>p.1<=q.1)->(∀ p ∈ ps,0<=p.1/\p.1<=p.2/\p.2<=n) ->
  Kp n (ps.foldl jst acc)/\∀ q,(q ∈ ps \/ ∃ r ∈ acc,r.1<=q.1/\q.2<=r.2)->∃ r ∈ ps.foldl jst acc,r.1<=q.1/\q.2<=r.2
 | [],acc,k,_,_,_=>⟨k,fun q hq=>hq.elim (fun h=>by cases h) fun h=>h⟩
 | p :: ps,acc,k,h,hs,ho=>by
  obtain⟨hs1,hs2⟩:=iH.mp hs
  obtain⟨a1,a2,a3⟩:=jst_kp k (fun q hq=>h q hq p aw) (ho p aw)
  obtain⟨b1,b2⟩:=ziG ps (jst acc p) a1 (fun q hq r hr=>iF (a2 q hq) (hs1 r hr)) hs2 fun r hr=>ho r (al _ hr)
  refine⟨b1,fun q hq=>b2 q ?_⟩
  rcases hq with hq | hq
  ·rcases aY.mp hq with rfl | hq
   ·exact .inr (a3 q (.inl rfl))
   ·exact .inl hq
  ·exact .inr (a3 q (.inr hq))
theorem jnd_kp{n:Int}(ps:List (Int × Int))(ho:∀ p ∈ ps,0<=p.1/\p.1<=p.2/\p.2<=n):Kp n (jnd (zd4 ps))/\∀ q ∈ ps,∃ r ∈ jnd (zd4 ps),r.1<=q.1/\q.2<=r.2:=by
 obtain⟨h1,h2⟩:=ziG (n:=n) (zd4 ps) [] ⟨.nil,fun p hp=>by cases hp⟩ (fun q hq=>by cases hq) (srtP_up ps) fun p hp=>ho p ((zfq ps).mem_iff.mp hp)
 exact⟨h1,fun q hq=>h2 q (.inl ((zfq ps).mem_iff.mpr hq))⟩
theorem zht{α:Type}[DecidableEq α]:∀ (K G:List α),K.Nodup->(∀ g ∈ G,g ∈ K)->(K.map fun z=>G.count z).sum=G.length
 | K,[],_,_=>by
  have:∀ K:List α,(K.map fun z=>([]:List α).count z).sum=0:=fun K=>by
   induction K with
   | nil=>rfl
   | cons z K ih=>rw[ay,dw,ih];rfl
  exact this K
 | K,g :: G,nd,h=>by
  have ih:=zht K G nd fun x hx=>h x (al _ hx)
  have key:∀ (K:List α),K.Nodup->(K.map fun z=>(g :: G).count z).sum=(K.map fun z=>G.count z).sum+if g ∈ K then 1 else 0:=by
   intro K nd
   induction K with
   | nil=>rfl
   | cons z K ihK=>
    obtain⟨n1,n2⟩:=aV.mp nd
    rw[ay,ay,dw,dw,ihK n2,jn]
    by_cases e:g=z
    ·subst e
     rw[if_pos (by simp),if_neg n1,if_pos aw]
     lia
    ·rw[if_neg (by simpa using e)]
     by_cases hk:g ∈ K
     ·rw[if_pos hk,if_pos (al _ hk)];lia
     ·rw[if_neg hk,if_neg (fun z'=>by rcases aY.mp z' with e' | e';exact e e';exact hk e')];lia
  rw[key K nd,ih,if_pos (h g aw),aQ]
theorem zf5{y:Str}:∀ {ks:List Str} {is:List Int},y ∉ ks->lkI ks is y=ab
 | [],_,_=>by unfold lkI;rfl
 | k :: ks,[],_=>by unfold lkI;rfl
 | k :: ks,i :: is,h=>by
  unfold lkI
  rw[if_neg (fun e=>h (by rw[e];exact aw))]
  exact zf5 fun z=>h (al _ z)
theorem lkI_zip{k y:Str}{v:Int}:∀ {ks:List Str} {is:List Int},ks.length=is.length->lkI ks (dQ (fun x y=>if x=k then v else y) ks is) y=if y=k/\y ∈ ks then aa v else lkI ks is y
 | [],is,_=>by rw[if_neg (fun z=>by cases z.2)];cases is <;> rfl
 | x :: ks,[],h=>by cases h
 | x :: ks,i :: is,h=>by
  rw[cL]
  unfold lkI
  by_cases e:x=y
  ·rw[if_pos e,if_pos e]
   by_cases e2:x=k
   ·rw[if_pos e2,if_pos ⟨e ▸ e2,by rw[e];exact aw⟩]
   ·rw[if_neg e2,if_neg (fun z=>e2 (e.trans z.1))]
  ·rw[if_neg e,if_neg e,lkI_zip (by simpa using h)]
   by_cases e2:y=k/\y ∈ ks
   ·rw[if_pos e2,if_pos ⟨e2.1,al _ e2.2⟩]
   ·rw[if_neg e2,if_neg (fun z=>e2 ⟨z.1,(aY.mp z.2).resolve_left fun q=>e q.symm⟩)]
theorem lkI_app{k y:Str}{v:Int}:∀ {ks:List Str} {is:List Int},ks.length=is.length->lkI (ks ++ [k]) (is ++ [v]) y=if y ∈ ks then lkI ks is y else if k=y then aa v else ab
 | [],[],_=>by
  rw[if_neg (fun z=>by cases z)]
  show lkI [k] [v] y=_
  unfold lkI
  split
  ·rfl
  ·unfold lkI;rfl
 | [],_ :: _,h=>by cases h
 | x :: ks,[],h=>by cases h
 | x :: ks,i :: is,h=>by
  rw[gv,gv]
  unfold lkI
  by_cases e:x=y
  ·rw[if_pos e,if_pos e,if_pos (by rw[e];exact aw)]
  ·rw[if_neg e,if_neg e,lkI_app (by simpa using h)]
   by_cases e2:y ∈ ks
   ·rw[if_pos e2,if_pos (al _ e2)]
   ·rw[if_neg e2,if_neg (fun z=>(aY.mp z).elim (fun q=>e q.symm) e2)]
theorem tput_lk(p:List Str × List Int)(z y:Str)(h:p.1.length=p.2.length)(nd:p.1.Nodup):(zeU p z).1.Nodup/\((lkI (zeU p z).1 (zeU p z).2 y).getD 0=(lkI p.1 p.2 y).getD 0+if y=z then 1 else 0)/\(y ∈ (zeU p z).1 ↔ y ∈ p.1 \/ y=z):=by
 show(pkD p.1 z).Nodup/\((lkI (pkD p.1 z) (pvG p.1 p.2 z ((lkI p.1 p.2 z).getD 0+1)) y).getD 0=_)/\(y ∈ pkD p.1 z ↔ _)
 unfold pkD pvG
 by_cases hz:z ∈ p.1
 ·rw[if_pos hz,if_pos hz,lkI_zip h]
  refine⟨nd,?_,fun q=>.inl q,fun q=>q.elim id fun e=>e ▸ hz⟩
  by_cases e:y=z
  ·subst e
   rw[if_pos ⟨rfl,hz⟩,if_pos rfl]
   rfl
  ·rw[if_neg (fun q=>e q.1),if_neg e]
   lia
 ·rw[if_neg hz,if_neg hz,lkI_app h]
  refine⟨?_,?_,?_⟩
  ·rw[bO]
   exact⟨nd,aV.mpr ⟨fun q=>(by cases q),g5⟩,fun a ha b hb e=>by rw[a7] at hb;subst hb;subst e;exact hz ha⟩
  ·by_cases e:y=z
   ·subst e
    rw[if_neg hz,if_pos rfl,if_pos rfl,zf5 hz]
    rfl
   ·rw[if_neg e]
    by_cases e2:y ∈ p.1
    ·rw[if_pos e2];lia
    ·rw[if_neg e2,if_neg (fun q=>e q.symm),zf5 e2];rfl
  ·rw[bx,a7]
theorem zhP:∀ (zs:List Str) (p:List Str × List Int),p.1.length=p.2.length->p.1.Nodup->(zs.foldl zeU p).1.Nodup/\(∀ y,(lkI (zs.foldl zeU p).1 (zs.foldl zeU p).2 y).getD 0=(lkI p.1 p.2 y).getD 0+(zs.count y:Nat))/\∀ y,y ∈ (zs.foldl zeU p).1 ↔ y ∈ p.1 \/ y ∈ zs
 | [],p,_,nd=>⟨nd,fun y=>by simp,fun y=>by simp⟩
 | z :: zs,p,h,nd=>by
  have tl:=(zix p z h).1
  have t:=fun y=>tput_lk p z y h nd
  obtain⟨a1,a2,a3⟩:=zhP zs (zeU p z) tl (t z).1
  refine⟨a1,fun y=>?_,fun y=>?_⟩
  ·rw[cG,a2,(t y).2.1,jn]
   by_cases e:y=z
   ·subst e;rw[if_pos rfl,if_pos (by simp)];lia
   ·rw[if_neg e,if_neg (by simpa using fun q=>e q.symm)];lia
  ·rw[cG,a3,(t y).2.2,aY]
   constructor
   ·rintro ((h | h) | h)
    ·exact .inl h
    ·exact .inr (.inl h)
    ·exact .inr (.inr h)
   ·rintro (h | h | h)
    ·exact .inl (.inl h)
    ·exact .inl (.inr h)
    ·exact .inr h
theorem shr_ge(u v:List Nat)(long:Int)(G:List Str)(h1:G.Sublist (pcs u long))(h2:G.Sublist (pcs v long)):(G.length:Int)<=shr (tms u long) (tms v long):=by
 obtain⟨a1,a2,a3⟩:=zhP (pcs u long) ([],[]) rfl g5
 obtain⟨b1,b2,b3⟩:=zhP (pcs v long) ([],[]) rfl g5
 have e0:∀ y,(lkI [] [] y).getD 0=0:=fun y=>rfl
 have hu:∀ z,(lkI (tms u long).1 (tms u long).2 z).getD 0=((pcs u long).count z:Nat):=fun z=>by rw[show tms u long=(pcs u long).foldl zeU ([],[]) from rfl,a2];show 0+_=_;lia
 have hv:∀ z,(lkI (tms v long).1 (tms v long).2 z).getD 0=((pcs v long).count z:Nat):=fun z=>by rw[show tms v long=(pcs v long).foldl zeU ([],[]) from rfl,b2];show 0+_=_;lia
 have hs:∀ z,(G.count z:Int)<=shF (tms u long) (tms v long) z:=fun z=>by
  have c1:=h1.count_le z
  have c2:=h2.count_le z
  unfold shF
  rw[hu,hv]
  split <;> lia
 have hsum:=zht (tms u long).1 G a1 fun g hg=>(a3 g).mpr (.inr (h1.subset hg))
 unfold shr
 rw[<- hsum]
 generalize (tms u long).1=K
 clear a1 a3 hsum
 induction K with
 | nil=>exact dH _
 | cons z K ih=>
  rw[ay,dw,ay,dw]
  have:=hs z
  lia
section
open CE
theorem cutN(xs:List Nat)(a b:Nat)(h:a<=b)(hb:b<=xs.length):zc1 xs (aa (a:Int)) (aa (b:Int))=(ak (b - a)).map fun x=>xs.getD (a+x) 0:=by
 unfold zc1
 rw[HT.sIx_nat,HT.sIx_nat,da (aL h hb),da hb]
 refine eQ ?_ fun i h1 h2=>?_
 ·rw[bv,cC,aq,bI];lia
 ·rw[aq,bI] at h2
  rw[List.getElem_take,iO,gz,List.getElem_range]
  rw[br,aF (by lia)]
  rfl
abbrev ft0(w t:List Nat):Nat->Nat->Bool:=fun i j=>decide (t.getD j 0=w.getD i 0)
theorem fit0(w t:List Nat)(x y:Nat)(hx:x<w.length)(hy:y<t.length):ft0 w t x y=zbQ (wP w) t x (0+y):=by
 rw[bq,fit_w hx hy]
 show decide (t.getD y 0=w.getD x 0)=_
 rw[br,br,aF hy,aF hx]
 rfl
variable {w t:List Nat}{s j:Nat}{c:Int}
theorem sg0(h:Sg (zbQ (wP w) t) pl 0 s w.length j c)(hj:j<=t.length):Sg (ft0 w t) pl 0 s w.length j c:=by
 have:=h.shift (b0:=0) (m:=w.length) (l:=t.length) (fit':=ft0 w t) (fun x y hx hy=>fit0 w t x y hx hy) (ai _) (by lia) (aS _)
 simpa using this
def ptN(n M r:Nat):Nat:=r * n / (M+1)
theorem ptB(n M r:Nat):pB n (M:Int) r=(ptN n M r:Nat):=by
 unfold pB ptN
 rw[et,ja]
 push_cast
 rfl
theorem ptE(n M r:Nat):pE n (M:Int) r=(ptN n M (r+1):Nat):=by
 unfold pE ptN
 rw[et,ja]
 push_cast
 rfl
theorem parts_k3(M:Nat)(h:Sg (zbQ (wP w) t) pl 0 s w.length j c)(hc:c<=M)(hj:j<=t.length):∃ q ∈ zfg w t (M:Int) (M+1),q.1<=s/\(j:Int)<=q.2:=by
 have h0:=sg0 h hj
 have e0:ptN w.length M 0=0:=by unfold ptN;simp
 have e1:ptN w.length M (M+1)=w.length:=by unfold ptN;exact Nat.mul_div_cancel_left _ (Nat.succ_pos M)
 have up:∀ r,ptN w.length M r<=ptN w.length M (r+1):=fun r=>Nat.div_le_div_right (Nat.mul_le_mul_right _ (dm r))
 rw[<- e0] at h0
 obtain⟨r,y,_,r2,⟨c1,c2,g1,g2,g3⟩,g4⟩:=Sg.part up (M+1) 0 h0 (by lia) (by rw[bq];exact e1)
 rw[e0] at g1
 have d1:=g1.dist
 have d2:=g2.dist
 have l1:=g1.le
 have l2:=g2.le
 have hb:=pBE w.length (m:=(M:Int)) (i:=r) (by lia)
 rw[ptB,ptE] at hb
 have hd:ptN w.length M (r+1)<=w.length:=by lia
 have hlen:y+(ptN w.length M (r+1) - ptN w.length M r)<=t.length:=by
  by_cases e:ptN w.length M r=ptN w.length M (r+1)
  ·lia
  ·have:=(g4 (ptN w.length M (r+1) - ptN w.length M r - 1) (by have:=up r;lia)).2
   lia
 have hst:stnd w t (pB w.length (M:Int) r) (pE w.length (M:Int) r) y=true:=by
  unfold stnd
  refine decide_eq_true ?_
  rw[ptB,ptE,et,show((y:Int)+(((ptN w.length M (r+1):Nat):Int) - ((ptN w.length M r:Nat):Int)))=((y+(ptN w.length M (r+1) - ptN w.length M r):Nat):Int) by have:=up r;lia,cutN t y _ (by lia) hlen,cutN w _ _ (up r) hd,eF]
  refine bL fun x hx=>?_
  have hx':=bK.mp hx
  exact of_decide_eq_true (g4 x (by lia)).1
 have hpl:y ∈ plc w t (pB w.length (M:Int) r) (pE w.length (M:Int) r):=by
  unfold plc
  refine cU.mpr ⟨bK.mpr ?_,hst⟩
  rw[ptB,ptE]
  have:=up r
  lia
 refine⟨spr w.length (M:Int) t.length (pB w.length (M:Int) r) y,?_,?_,?_⟩
 ·unfold zfg
  exact gA.mpr ⟨r,bK.mpr (by lia),bJ.mpr ⟨y,hpl,rfl⟩⟩
 ·unfold spr
  rw[ptB]
  dsimp only
  split <;> lia
 ·unfold spr
  rw[ptB]
  dsimp only
  split <;> lia
theorem parts_ok2(w t:List Nat)(M:Nat):∀ p ∈ zfg w t (M:Int) (M+1),0<=p.1/\p.1<=p.2/\p.2<=(t.length:Int):=by
 intro p hp
 unfold zfg at hp
 obtain⟨r,hr,hp⟩:=gA.mp hp
 obtain⟨y,hy,rfl⟩:=bJ.mp hp
 have hr':=bK.mp hr
 have hb:=pBE w.length (m:=(M:Int)) (i:=r) (by lia)
 have hy1:=bK.mp (cU.mp hy).1
 unfold spr
 dsimp only
 refine⟨?_,?_,?_⟩ <;> (repeat' split) <;> lia
theorem pcs_eq(xs:List Nat)(q:Nat)(f:Nat->Nat)(lo hi:Nat)(hl:xs.length=hi - lo)(hf:∀ i,i<xs.length->xs.getD i 0=f (lo+i)):pcs xs (q:Int)=(pcsL q f lo hi).map mkS:=by
 unfold pcs pcsL
 rw[cK,show((xs.length:Int) - (q:Int)+1).toNat=hi - lo+1 - q by lia]
 refine bL fun p hp=>?_
 have hp':=bK.mp hp
 rw[et,show((p:Int)+(q:Int))=((p+q:Nat):Int) by lia,cutN xs p (p+q) (by lia) (by lia),eF]
 show mkS _=mkS _
 congr 1
 refine bL fun x hx=>?_
 have hx':=bK.mp hx
 rw[hf _ (by lia),jA]
theorem pieces_k3(M q:Nat)(hq:1<=q)(h:Sg (zbQ (wP w) t) pl 0 s w.length j c)(hc:c<=M)(hj:j<=t.length):∃ p ∈ fnd (zch w t (M:Int) (q:Int)) w.length (M:Int) (t.length+1),p.1<=s/\(j:Int)<=p.2:=by
 have h0:=sg0 h hj
 have d:=h0.dist
 have l:=h0.le
 obtain⟨lo,hlo,hlo2,hlo3⟩:∃ lo:Nat,wb w.length (M:Int) j=lo/\lo<=s/\lo<=j:=by
  refine⟨(wb w.length (M:Int) j).toNat,?_,?_,?_⟩ <;> unfold wb <;> split <;> lia
 obtain⟨G,r,g1,g2,_,_,_,g3⟩:=Sg.pieces (q:=q) (lo:=lo) (w:=fun i=>w.getD i 0) (t:=fun j=>t.getD j 0) hq h0 hlo2
 have hwin:win w t (M:Int) j=(ak (j - lo)).map fun x=>t.getD (lo+x) 0:=by
  unfold win
  rw[hlo,et]
  exact cutN t lo j hlo3 hj
 have wl:(win w t (M:Int) j).length=j - lo:=by rw[hwin,aq,bI]
 have e1:=pcs_eq w q (fun i=>w.getD i 0) 0 w.length (by lia) fun i _=>by rw[bq]
 have e2:=pcs_eq (win w t (M:Int) j) q (fun j=>t.getD j 0) lo j wl fun i hi=>by
  rw[wl] at hi
  rw[hwin,br,ax,bo hi]
  rfl
 have sg:=shr_ge w (win w t (M:Int) j) (q:Int) (G.map mkS) (by rw[e1];exact g1.map _) (by rw[e2];exact g2.map _)
 rw[aq] at sg
 have hen:zch w t (M:Int) (q:Int) j=true:=by
  unfold zch
  refine decide_eq_true ?_
  have m1:min r (q - 1)<=q - 1:=dU _ _
  have m2:c * (q:Int)<=(M:Int) * (q:Int):=dE hc (by lia)
  generalize c * (q:Int)=cq at g3 m2
  generalize (M:Int) * (q:Int)=mq at m2 ⊢
  lia
 refine⟨wPr w.length (M:Int) j,?_,?_,?_⟩
 ·unfold fnd
  exact bJ.mpr ⟨j,cU.mpr ⟨bK.mpr (by lia),hen⟩,rfl⟩
 ·show wb w.length (M:Int) j<=s
  lia
 ·show(j:Int)<=0+(j:Int)
  lia
theorem zjm(w t:List Nat)(M:Nat)(P:Nat->Bool):∀ p ∈ fnd P w.length (M:Int) (t.length+1),0<=p.1/\p.1<=p.2/\p.2<=(t.length:Int):=by
 intro p hp
 unfold fnd at hp
 obtain⟨e,he,rfl⟩:=bJ.mp hp
 have he':=bK.mp (cU.mp he).1
 show 0<=wb w.length (M:Int) e/\wb w.length (M:Int) e<=0+(e:Int)/\0+(e:Int)<=(t.length:Int)
 unfold wb
 split <;> lia
end
section
open CE
def sePr(M:Int)(x:Option Int)(j:Nat):List (Int × Int):=match x with
 | some x=>if x<=M then [((j:Int),x)] else []
 | none=>[]
theorem seD_pr(M:Int)(x:Option Int)(j:Nat):seD M x j=(sePr M x j).map prD:=by
 unfold seD sePr
 cases x with
 | none=>rfl
 | some x=>
  dsimp only
  split <;> rfl
abbrev cW(w t:List Nat)(j:Nat):Option Int:=cel (zbQ (wP w) t) pl true w.length j
def wE(w t:List Nat)(M:Int)(a b:Nat):List (Int × Int):=(dG a (b - a)).flatMap fun j=>sePr M (cW w t j) j
end
section
open CE
theorem patn_eq(w:List Nat)(h:w.length<=1000):zcd [.str (mkS w)]=aa (.val (.tup ((wP w).map .str))):=by
 have hl:(mkS w).length<=1000000:=by rw[zat];lia
 simp (disch:=omega) only[zcd,zcL,stE,stN,jqc,jqa,zdC,zbB,eCB,zaa,zab,aD,jqk,zae,toN,jqe,gTupS,sOf,zaO,sgn_mkS,zaf,zf9,wP]
theorem told_eq(w t:List Nat)(M:Int):seR (wP w) t pl M 0 (t.length+1)=(wE w t M 0 (t.length+1)).map prD:=by
 unfold seR wE
 rw[List.map_flatMap]
 congr 1
 funext j
 rw[seD_pr,wP_len]
theorem wE_len(w t:List Nat)(M:Int)(a b:Nat):(wE w t M a b).length<=b - a:=by
 have:∀ l:List Nat,(l.flatMap fun j=>sePr M (cW w t j) j).length<=l.length:=fun l=>by
  induction l with
  | nil=>simp
  | cons x l ih=>
   have h1:(sePr M (cW w t x) x).length<=1:=by
    unfold sePr
    split
    ·split <;> simp
    ·simp
   rw[List.flatMap_cons,aP,aQ]
   lia
 have h:=this (dG a (b - a))
 rwa [List.length_range'] at h
theorem ends_eq(w t:List Nat)(M:Int)(hw:w.length<=1000)(ht:t.length<=900):zcX [.tup ((wP w).map .str),.str (mkS t),.int M,pl.d]=aa (.val (.tup ((wE w t M 0 (t.length+1)).map prD))):=by
 rw[<- told_eq]
 exact ends_ok (wP w) t pl (by rw[wP_len];lia) (by lia) M
end
section
open CE
theorem counts_eq(w t:List Nat)(m:Int)(hm:0<=m/\m<=1000)(hw:w.length<=1000)(ht:t.length<=900):za4 [.str (mkS w),.int m,.str (mkS t)]=aa (.val (.tup ((jnd (zd4 (fnd (zch w t m 1) w.length m (t.length+1)))).map prD))):=by
 have h:=kept_ok w t m 1 (by decide) hm hw ht
 generalize (jnd (zd4 (fnd (zch w t m 1) w.length m (t.length+1)))).map prD=R at h
 simp only[za4,zcL,stE,stN,jqc,jqa,zcF,zbB,zah,zaa,zab,aD,jqk,eC,zae,toN,jqe,jqf,zbf,zcG,asV,h,zf9]
structure Sv(w t:List Nat)(M:Int)(K:List (Int × Int)):Prop where
 kp:Kp (t.length:Int) K
 k3:∀ (s j:Nat) (c:Int),Sg (zbQ (wP w) t) pl 0 s w.length j c->c<=M->j<=t.length->∃ p ∈ K,p.1<=(s:Int)/\(j:Int)<=p.2
theorem sv_parts(w t:List Nat)(M:Nat):Sv w t M (jnd (zd4 (zfg w t M (M+1)))):=by
 obtain⟨h1,h2⟩:=jnd_kp (n:=(t.length:Int)) (zfg w t M (M+1)) (parts_ok2 w t M)
 refine⟨h1,fun s j c g hc hj=>?_⟩
 obtain⟨q,hq,q1,q2⟩:=parts_k3 M g hc hj
 obtain⟨r,hr,r1,r2⟩:=h2 q hq
 exact⟨r,hr,by lia,by lia⟩
theorem zha(w t:List Nat)(M q:Nat)(hq:1<=q):Sv w t M (jnd (zd4 (fnd (zch w t M q) w.length M (t.length+1)))):=by
 obtain⟨h1,h2⟩:=jnd_kp (n:=(t.length:Int)) (fnd (zch w t M q) w.length M (t.length+1)) (zjm w t M _)
 refine⟨h1,fun s j c g hc hj=>?_⟩
 obtain⟨p,hp,p1,p2⟩:=pieces_k3 M q hq g hc hj
 obtain⟨r,hr,r1,r2⟩:=h2 p hp
 exact⟨r,hr,by lia,by lia⟩
end
section
open CE
theorem run_sg{f:Nat->Nat->Bool}{p:Pr}{m n:Nat}:∀ (ks:List Kd5) (i j:Nat),Run f m n p ks i j->Sg f p i j m n (ks.map (Kd5.pr p)).sum
 | [],i,j,h=>by
  obtain⟨rfl,rfl⟩:=h
  exact .nil
 | k :: ks,i,j,h=>by
  obtain⟨h1,h2,h3⟩:=h
  have s:St1 f p i j (i+k.cu) (j+k.su) (k.pr p):=by
   unfold stB at h2
   split at h2
   ·cases k with
    | same=>exact .same h2
    | exch=>exact .exch (by simpa [Kd5.ft] using h2) (of_decide_eq_true h1)
    | put=>exact .put (of_decide_eq_true h1)
    | left=>exact .left (of_decide_eq_true h1)
    | turn=>
     have h2':=Bool.and_eq_true_iff.mp (show(f (i+1) j && f i (j+1))=true from h2)
     exact .turn h2'.1 h2'.2 (of_decide_eq_true h1)
   ·cases h2
  rw[ay,dw,Int.add_comm]
  exact Sg.cons s (run_sg ks _ _ h3)
theorem stretch44(w t:List Nat){j:Nat}{x:Int}(hw:w.length<=1000)(ht:t.length<=900)(hj:j<=t.length)(h:cW w t j=aa x):∃ (b:Nat) (R:D),Sg (zbQ (wP w) t) pl 0 b w.length j x/\zbH [.tup ((wP w).map .str),.str (mkS t),.int (j:Int),pl.d]=aa (.val (.tup [.int (b:Int),R])):=by
 have hl:=wP_len w
 obtain⟨l,ks,h1,h2,h3,_,_,h6⟩:=zhc (wP w) t pl j (by lia) (by lia) pl_ok hj (x:=x) (by rw[hl];exact h)
 refine⟨j - l,_,?_,h6⟩
 have s:=run_sg ks 0 0 h2
 rw[h3,zhM t j hj h1] at s
 have:=Sg.back (fit:=zbQ (wP w) t) (b0:=j - l) (m:=(wP w).length) (l:=l) (fun x y _ hy=>fitS_eq (wP w) t j x y hy) s (ai _) (ai _)
 rwa [ej,show j - l+l=j by lia,hl] at this
theorem wE_mem{w t:List Nat}{M:Int}{n:Nat}{p:Int × Int}(h:p ∈ wE w t M 0 n):∃ j:Nat,j<n/\p.1=(j:Int)/\p.2<=M/\cW w t j=aa p.2:=by
 unfold wE at h
 obtain⟨j,hj,h⟩:=gA.mp h
 have hj':=List.mem_range'_1.mp hj
 unfold sePr at h
 split at h
 ·rename_i x hx
  split at h
  ·rw[a7] at h
   subst h
   exact⟨j,by lia,rfl,by assumption,hx⟩
  ·cases h
 ·cases h
theorem zg2(b e:Int)(x2:Option Ent):∀ (K:List (Int × Int)) (x3 x4:Option Ent),(∃ p ∈ K,p.1<=b/\e<=p.2)->∃ δ,
  loop (gTp (za2 (gNm 3) (za2 (gNm 4) zd8))) zaJ (K.map prD) [aa (.val (.int b)),aa (.val (.int e)),x2,x3,x4]=aa (.rt (.val (.bl true)) δ)
 | [],_,_,h=>by obtain⟨_,h,_⟩:=h;cases h
 | p :: K,x3,x4,h=>by
  have k:=andI (leII (E:=zab 3) (F:=zab 0) (a:=p.1) (b:=b) (δ:=[aa (.val (.int b)),aa (.val (.int e)),x2,aa (.val (.int p.1)),aa (.val (.int p.2))]) rfl rfl) (fun _=>leII (E:=zab 1) (F:=zab 4) (a:=e) (b:=p.2) rfl rfl)
  by_cases c:p.1<=b/\e<=p.2
  ·rw[decide_eq_true c.1,decide_eq_true c.2] at k
   refine⟨[aa (.val (.int b)),aa (.val (.int e)),x2,aa (.val (.int p.1)),aa (.val (.int p.2))],?_⟩
   have st:zaJ [aa (.val (.int b)),aa (.val (.int e)),x2,aa (.val (.int p.1)),aa (.val (.int p.2))]=aa (.rt (.val (.bl true)) [aa (.val (.int b)),aa (.val (.int e)),x2,aa (.val (.int p.1)),aa (.val (.int p.2))]):=(show zaJ _=_ from zjE k).trans (zdu rfl)
   show((gTp (za2 (gNm 3) (za2 (gNm 4) zd8)) (prD p) _).bind fun δ1=>(zaJ δ1).bind (lpO (loop _ zaJ (K.map prD))))=_
   show((zaJ [aa (.val (.int b)),aa (.val (.int e)),x2,aa (.val (.int p.1)),aa (.val (.int p.2))]).bind (lpO (loop _ zaJ (K.map prD))))=_
   rw[st]
   rfl
  ·have k':fAnd (tOf (ex2 gLe (zab 3) (zab 0))) (tOf (ex2 gLe (zab 1) (zab 4))) [aa (.val (.int b)),aa (.val (.int e)),x2,aa (.val (.int p.1)),aa (.val (.int p.2))]=aa false:=by
    rw[k]
    by_cases c1:p.1<=b
    ·rw[decide_eq_false fun c2=>c ⟨c1,c2⟩,jr]
    ·rw[decide_eq_false c1,eu]
   have h':∃ q ∈ K,q.1<=b/\e<=q.2:=by
    obtain⟨q,hq,hc⟩:=h
    rcases aY.mp hq with rfl | hq
    ·exact absurd hc c
    ·exact⟨q,hq,hc⟩
   obtain⟨δ,hd⟩:=zg2 b e x2 K (aa (.val (.int p.1))) (aa (.val (.int p.2))) h'
   exact⟨δ,(zbO rfl (show zaJ _=_ from zgi k')).trans hd⟩
theorem lies_ok(b e:Int)(K:List (Int × Int))(h:∃ p ∈ K,p.1<=b/\e<=p.2):zds [.int b,.int e,.tup (K.map prD)]=aa (.val (.bl true)):=by
 obtain⟨δ,hd⟩:=zg2 b e (aa (.val (.tup (K.map prD)))) K ab ab h
 exact(congrArg (fun o=>bM o _) (show zd3 [aa (.val (.int b)),aa (.val (.int e)),aa (.val (.tup (K.map prD))),ab,ab]=_ from forR (ds:=K.map prD) rfl hd)).trans rfl
theorem zfM(n:Int)(x0:Option Ent):∀ (K:List (Int × Int)) (a:Int) (x3 x4:Option Ent),(K.Pairwise fun p q=>p.2<q.1)->(∀ p ∈ K,a<p.1/\p.1<=p.2/\p.2<=n)->∃ δ,
  loop (gTp (za2 (gNm 3) (za2 (gNm 4) zd8))) zci (K.map prD) [x0,aa (.val (.int n)),aa (.val (.int a)),x3,x4]=aa (.nx δ)
 | [],a,x3,x4,_,_=>⟨_,rfl⟩
 | p :: K,a,x3,x4,pw,ho=>by
  obtain⟨pw1,pw2⟩:=iH.mp pw
  obtain⟨o1,o2,o3⟩:=ho p aw
  obtain⟨δ,hd⟩:=zfM n x0 K p.2 (aa (.val (.int p.1))) (aa (.val (.int p.2))) pw2 fun q hq=>⟨pw1 q hq,(ho q (al _ hq)).2⟩
  have n1:¬ p.1<=a:=by lia
  have n2:¬ p.2<p.1:=by lia
  have n3:¬ p.2 > n:=by lia
  refine⟨δ,(zbO rfl (show zci [x0,aa (.val (.int n)),aa (.val (.int a)),aa (.val (.int p.1)),aa (.val (.int p.2))]=aa (.nx [x0,aa (.val (.int n)),aa (.val (.int p.2)),aa (.val (.int p.1)),aa (.val (.int p.2))]) from ?_)).trans hd⟩
  simp only[zci,zau,fIf,fOr,tOf,ex2,zab,jqf,jqe,gLe,pI0,iOf,jqa,jqc,n1,jqz,bOf,gLt,n2,gGt,n3,jqr,jrb,zbB,eC,toN,fNx,sqO,zbE,jqh,jqg]
theorem apart_ok{n:Int}{K:List (Int × Int)}(kp:Kp n K):zc5 [.tup (K.map prD),.int n]=aa (.val (.bl true)):=by
 obtain⟨δ,hd⟩:=zfM n (aa (.val (.tup (K.map prD)))) K (-1) ab ab kp.1 fun p hp=>⟨by have:=(kp.2 p hp).1;lia,(kp.2 p hp).2⟩
 exact(congrArg (fun o=>bM o _) ((show zdG [aa (.val (.tup (K.map prD))),aa (.val (.int n)),ab,ab,ab]=_ from zaP (v:=.int (-1)) rfl).trans ((forN (ds:=K.map prD) rfl hd).trans (zdu (d:=.bl true) rfl)))).trans rfl
variable {w t:List Nat}{M:Int}(hw:w.length<=1000)(ht:t.length<=900)
include ht in
theorem turnA{K:List (Int × Int)}(kp:Kp (t.length:Int) K)(a b x2 x3 x5 x6 x7 x8 x10 x11 x12 x13 x14:Option Ent) :
  zfb [a,b,x2,x3,aa (.val (.str (mkS t))),x5,x6,x7,x8,aa (.val (.tup (K.map prD))),x10,x11,x12,x13,x14]=aa (.nx [a,b,x2,x3,aa (.val (.str (mkS t))),x5,x6,x7,x8,aa (.val (.tup (K.map prD))),x10,x11,x12,x13,x14]):=by
 have e1:=apart_ok kp
 have z:=zhK (E:=zab 4) (δ:=[a,b,x2,x3,aa (.val (.str (mkS t))),x5,x6,x7,x8,aa (.val (.tup (K.map prD))),x10,x11,x12,x13,x14]) rfl (zat t) (by lia)
 unfold zfb
 generalize K.map prD=KK at e1 z ⊢
 generalize eCB za9 (zaa (zab 4) zae)=E at z ⊢
 simp only[fIf,fNot,tOf,zah,zaa,zab,jqf,jqe,z,zae,jqc,jqa,zbf,zcG,asV,e1,bOf,jqt,zbB,eC,toN,fNx,jqr,jrb]
theorem turnB{K:List (Int × Int)}{bg e:Int}(h:∃ p ∈ K,p.1<=bg/\e<=p.2)(a b x2 x3 x4 x5 x6 x7 x8 x10 x12 x14:Option Ent) :
  zfa [a,b,x2,x3,x4,x5,x6,x7,x8,aa (.val (.tup (K.map prD))),x10,aa (.val (.int e)),x12,aa (.val (.int bg)),x14]=aa (.nx [a,b,x2,x3,x4,x5,x6,x7,x8,aa (.val (.tup (K.map prD))),x10,aa (.val (.int e)),x12,aa (.val (.int bg)),x14]):=by
 have e1:=lies_ok bg e K h
 unfold zfa
 generalize K.map prD=KK at e1 ⊢
 simp only[fIf,fNot,tOf,zah,zaa,zab,jqf,jqe,zae,jqc,jqa,zbf,zcG,asV,e1,bOf,jqt,zbB,eC,toN,fNx,jqr,jrb]
include hw ht
theorem turnC{K1 K2 K3:List (Int × Int)}(v1:Sv w t M K1)(v2:Sv w t M K2)(v3:Sv w t M K3)(a b x9 x11 x12 x13 x14:Option Ent)(T:Int)(k:Nat)(hk:k<1000)(hn:0<(wE w t M 0 (t.length+1)).length):∃ y9 y11 y12 y13 y14,
  ze9 [a,b,aa (.val (.str (mkS w))),aa (.val (.int M)),aa (.val (.str (mkS t))),aa (.val (.tup ((wP w).map .str))),aa (.val (.tup ((wE w t M 0 (t.length+1)).map prD))),aa (.val (.lst [.tup (K1.map prD),.tup (K2.map prD),.tup (K3.map prD)])),aa (.val (.int T)),x9,aa (.val (.int (0+(k:Int)))),x11,x12,x13,x14] =
  aa (.nx [a,b,aa (.val (.str (mkS w))),aa (.val (.int M)),aa (.val (.str (mkS t))),aa (.val (.tup ((wP w).map .str))),aa (.val (.tup ((wE w t M 0 (t.length+1)).map prD))),aa (.val (.lst [.tup (K1.map prD),.tup (K2.map prD),.tup (K3.map prD)])),aa (.val (.int T)),y9,aa (.val (.int (0+(k:Int)))),y11,y12,y13,y14]):=by
 have hm:=@wE_mem w t M (t.length+1)
 have hln:=wE_len w t M 0 (t.length+1)
 generalize wE w t M 0 (t.length+1)=ps at hn hm hln ⊢
 have hl:eCB zb1 (zaa (zab 6) zae) [a,b,aa (.val (.str (mkS w))),aa (.val (.int M)),aa (.val (.str (mkS t))),aa (.val (.tup ((wP w).map .str))),aa (.val (.tup (ps.map prD))),aa (.val (.lst [.tup (K1.map prD),.tup (K2.map prD),.tup (K3.map prD)])),aa (.val (.int T)),x9,aa (.val (.int (0+(k:Int)))),x11,x12,x13,x14]=aa (.val (.int (ps.length:Int))):=by
  show aa (Ent.val (.int ((ps.map prD).length:Int)))=_
  rw[aq]
 have hN:(0:Int)<(ps.length:Int):=by lia
 have hx:=zfP (zhn (zf3 (E:=zab 8) (F:=eC (.int 6)) (a:=T) (b:=6) rfl rfl (by decide)) (mulI (E:=zab 10) (a:=0+(k:Int)) rfl (zhn (E:=eC (.int 1)) (a:=1) rfl (zf3 (F:=eC (.int 10)) (b:=10) hl rfl (by decide))) (zdH (by lia)))) hl hN
 have i0:=dC (T / 6+(0+(k:Int)) * (1+(ps.length:Int) / 10)) (Int.ne_of_gt hN)
 have i1:=dD (T / 6+(0+(k:Int)) * (1+(ps.length:Int) / 10)) hN
 obtain⟨i,hi⟩:=b7 i0
 rw[hi] at hx i1
 have hi':i<ps.length:=by lia
 obtain⟨j,j1,j2,j3,j4⟩:=hm (List.getElem_mem hi')
 have ha:atI (ps.map prD) (i:Int)=aa (prD ps[i]):=ziY (by rw[ax,aF hi'];rfl)
 generalize ps[i]=q at j2 j3 j4 ha
 have e1:=ixTT (E:=zab 6) (show zab 6 [a,b,aa (.val (.str (mkS w))),aa (.val (.int M)),aa (.val (.str (mkS t))),aa (.val (.tup ((wP w).map .str))),aa (.val (.tup (ps.map prD))),aa (.val (.lst [.tup (K1.map prD),.tup (K2.map prD),.tup (K3.map prD)])),aa (.val (.int T)),x9,aa (.val (.int (0+(k:Int)))),x11,x12,x13,x14]=aa (.val (.tup (ps.map prD))) from rfl) hx ha
 obtain⟨bg,R,sg,hs⟩:=stretch44 w t hw ht (by lia) j4
 rw[<- j2] at hs
 have e2:zah [.v,.v,.v,.v] zbH (zaa (zab 5) (zaa (zab 4) (zaa (zab 11) (zaa (zeR (zaa (eC (.int 1)) (zaa (eC (.int 1)) (zaa (eC (.int 1)) (zaa (eC (.int 0)) zae))))) zae)))) [a,b,aa (.val (.str (mkS w))),aa (.val (.int M)),aa (.val (.str (mkS t))),aa (.val (.tup ((wP w).map .str))),aa (.val (.tup (ps.map prD))),aa (.val (.lst [.tup (K1.map prD),.tup (K2.map prD),.tup (K3.map prD)])),aa (.val (.int T)),x9,aa (.val (.int (0+(k:Int)))),aa (.val (.int q.1)),aa (.val (.int q.2)),x13,x14]=aa (.val (.tup [.int (bg:Int),R])):=by
  have hb:zeR (zaa (eC (.int 1)) (zaa (eC (.int 1)) (zaa (eC (.int 1)) (zaa (eC (.int 0)) zae)))) [a,b,aa (.val (.str (mkS w))),aa (.val (.int M)),aa (.val (.str (mkS t))),aa (.val (.tup ((wP w).map .str))),aa (.val (.tup (ps.map prD))),aa (.val (.lst [.tup (K1.map prD),.tup (K2.map prD),.tup (K3.map prD)])),aa (.val (.int T)),x9,aa (.val (.int (0+(k:Int)))),aa (.val (.int q.1)),aa (.val (.int q.2)),x13,x14]=aa (.val pl.d):=rfl
  generalize zeR (zaa (eC (.int 1)) (zaa (eC (.int 1)) (zaa (eC (.int 1)) (zaa (eC (.int 0)) zae))))=E3 at hb ⊢
  generalize pl.d=pd at hb hs
  generalize (wP w).map D.str=pp at hb hs ⊢
  generalize ps.map prD=pz at hb ⊢
  simp only[zah,zaa,zab,jqf,jqe,hb,zae,jqc,jqa,zbf,zcG,asV,hs]
 have lk:∀ {K:List (Int × Int)},Sv w t M K->∃ p ∈ K,p.1<=(bg:Int)/\q.1<=p.2:=fun v=>by
  obtain⟨p,hp,p1,p2⟩:=v.k3 bg j q.2 sg j3 (by lia)
  exact⟨p,hp,p1,by lia⟩
 refine⟨aa (.val (.tup (K3.map prD))),aa (.val (.int q.1)),aa (.val (.int q.2)),aa (.val (.int (bg:Int))),aa (.val R),?_⟩
 refine(show ze9 _=_ from zaU (δ':=[a,b,aa (.val (.str (mkS w))),aa (.val (.int M)),aa (.val (.str (mkS t))),aa (.val (.tup ((wP w).map .str))),aa (.val (.tup (ps.map prD))),aa (.val (.lst [.tup (K1.map prD),.tup (K2.map prD),.tup (K3.map prD)])),aa (.val (.int T)),x9,aa (.val (.int (0+(k:Int)))),aa (.val (.int q.1)),aa (.val (.int q.2)),x13,x14]) ?_).trans ((zaU (δ':=[a,b,aa (.val (.str (mkS w))),aa (.val (.int M)),aa (.val (.str (mkS t))),aa (.val (.tup ((wP w).map .str))),aa (.val (.tup (ps.map prD))),aa (.val (.lst [.tup (K1.map prD),.tup (K2.map prD),.tup (K3.map prD)])),aa (.val (.int T)),x9,aa (.val (.int (0+(k:Int)))),aa (.val (.int q.1)),aa (.val (.int q.2)),aa (.val (.int (bg:Int))),aa (.val R)]) ?_).trans ?_)
 ·unfold fAsg;rw[e1];rfl
 ·unfold fAsg;rw[e2];rfl
 ·show loop (gNm 9) zfa [.tup (K1.map prD),.tup (K2.map prD),.tup (K3.map prD)] [a,b,aa (.val (.str (mkS w))),aa (.val (.int M)),aa (.val (.str (mkS t))),aa (.val (.tup ((wP w).map .str))),aa (.val (.tup (ps.map prD))),aa (.val (.lst [.tup (K1.map prD),.tup (K2.map prD),.tup (K3.map prD)])),aa (.val (.int T)),x9,aa (.val (.int (0+(k:Int)))),aa (.val (.int q.1)),aa (.val (.int q.2)),aa (.val (.int (bg:Int))),aa (.val R)]=_
  refine gy (zbO rfl (turnB (lk v1) _ _ _ _ _ _ _ _ _ _ _ _)) ?_
  refine gy (zbO rfl (turnB (lk v2) _ _ _ _ _ _ _ _ _ _ _ _)) ?_
  exact zbO rfl (turnB (lk v3) _ _ _ _ _ _ _ _ _ _ _ _)
end
section
open CE
theorem main(ns:List Int)(hn:ns.length<=63):g_law [.lst (ns.map .int)]=aa (.val (.bl true)):=by
 obtain⟨dk,hd,s1⟩:=deck_ok (ns.take 63) (by rw[bv];lia)
 have hcut:zc1 (ns.map D.int) ab (aa 63)=(ns.take 63).map D.int:=by rw[zfc _ (by decide),List.map_take];rfl
 have e1:ziM 1 (zah [.b,.v] zcn (zaa (eSl gSlL (zab 0) oNo (oSo (eC (.int 63)))) (zaa (eC (.int 30)) zae))) [aa (.bor (ns.map .int)),ab,ab,ab,ab,ab,ab,ab,ab,ab,ab,ab,ab,ab,ab]=aa (.nx [aa (.bor (ns.map .int)),aa (.obj (.lst (dk.map .int))),ab,ab,ab,ab,ab,ab,ab,ab,ab,ab,ab,ab,ab]):=by
  have q:zah [.b,.v] zcn (zaa (eSl gSlL (zab 0) oNo (oSo (eC (.int 63)))) (zaa (eC (.int 30)) zae)) [aa (.bor (ns.map .int)),ab,ab,ab,ab,ab,ab,ab,ab,ab,ab,ab,ab,ab,ab]=aa (.own (dk.map .int)):=by
   simp only[zah,zaa,eSl,zab,jqe,oNo,oSo,eC,jqa,iOf,jqc,gSlL,asL,hcut,zae,zbf,zcG,asV,s1]
  unfold ziM
  rw[q]
  rfl
 obtain⟨d2,w,t,m,h2,hw,m0,m1,ht,s2⟩:=case_ok dk hd
 have e2:fXAsg (gLs (za2 (gNm 2) (za2 (gNm 3) (za2 (gNm 4) zd8)))) (xCO 1 zb5 zhL) [aa (.bor (ns.map .int)),aa (.obj (.lst (dk.map .int))),ab,ab,ab,ab,ab,ab,ab,ab,ab,ab,ab,ab,ab]=aa (.nx [aa (.bor (ns.map .int)),aa (.obj (.lst (d2.map .int))),aa (.val (.str (mkS w))),aa (.val (.int m)),aa (.val (.str (mkS t))),ab,ab,ab,ab,ab,ab,ab,ab,ab,ab]):=by
  have q:=xCO_i (i:=1) (g:=zb5) (fs:=zhL) (δ:=[aa (.bor (ns.map .int)),aa (.obj (.lst (dk.map .int))),ab,ab,ab,ab,ab,ab,ab,ab,ab,ab,ab,ab,ab]) (o0:=.lst (dk.map .int)) rfl rfl rfl s2
  unfold fXAsg
  rw[q]
  rfl
 obtain⟨M,rfl⟩:=b7 m0
 generalize hA:aa (Ent.bor (ns.map D.int))=A at *
 have hwl:w.length<=1000:=by lia
 have htl:t.length<=900:=by lia
 have e5:zah [.v] zcd (zaa (zab 2) zae) [A,aa (.obj (.lst (d2.map .int))),aa (.val (.str (mkS w))),aa (.val (.int (M:Int))),aa (.val (.str (mkS t))),ab,ab,ab,ab,ab,ab,ab,ab,ab,ab]=aa (.val (.tup ((wP w).map .str))):=by
  have q:=patn_eq w hwl
  generalize (wP w).map D.str=pp at q
  simp only[zah,zaa,zab,jqf,jqe,zae,jqc,jqa,zbf,zcG,asV,q]
 have e6:zah [.v,.v,.v,.v] zcX (zaa (zab 5) (zaa (zab 4) (zaa (zab 3) (zaa (zeR (zaa (eC (.int 1)) (zaa (eC (.int 1)) (zaa (eC (.int 1)) (zaa (eC (.int 0)) zae))))) zae)))) [A,aa (.obj (.lst (d2.map .int))),aa (.val (.str (mkS w))),aa (.val (.int (M:Int))),aa (.val (.str (mkS t))),aa (.val (.tup ((wP w).map .str))),ab,ab,ab,ab,ab,ab,ab,ab,ab]=aa (.val (.tup ((wE w t (M:Int) 0 (t.length+1)).map prD))):=by
  have q:=ends_eq w t M hwl htl
  have hb:zeR (zaa (eC (.int 1)) (zaa (eC (.int 1)) (zaa (eC (.int 1)) (zaa (eC (.int 0)) zae)))) [A,aa (.obj (.lst (d2.map .int))),aa (.val (.str (mkS w))),aa (.val (.int (M:Int))),aa (.val (.str (mkS t))),aa (.val (.tup ((wP w).map .str))),ab,ab,ab,ab,ab,ab,ab,ab,ab]=aa (.val pl.d):=rfl
  generalize (wE w t (M:Int) 0 (t.length+1)).map prD=R at q ⊢
  generalize zeR (zaa (eC (.int 1)) (zaa (eC (.int 1)) (zaa (eC (.int 1)) (zaa (eC (.int 0)) zae))))=E3 at hb ⊢
  generalize pl.d=pd at hb q
  generalize (wP w).map D.str=pp at hb q ⊢
  simp only[zah,zaa,zab,jqf,jqe,hb,zae,jqc,jqa,zbf,zcG,asV,q]
 obtain⟨T,hp⟩:=pop_i d2 (by lia) 1 (δ:=[A,aa (.obj (.lst (d2.map .int))),aa (.val (.str (mkS w))),aa (.val (.int (M:Int))),aa (.val (.str (mkS t))),aa (.val (.tup ((wP w).map .str))),aa (.val (.tup ((wE w t (M:Int) 0 (t.length+1)).map prD))),aa (.own [.tup ((jnd (zd4 (zfg w t M (M+1)))).map prD),.tup ((jnd (zd4 (fnd (zch w t M 1) w.length M (t.length+1)))).map prD)]),ab,ab,ab,ab,ab,ab,ab]) rfl
 have q1:=parts_ok w t M (by lia) hwl htl
 rw[dI] at q1
 have q2:=counts_eq w t M (by lia) hwl htl
 have sv1:=sv_parts w t M
 have sv2:=zha w t M 1 (ai 1)
 obtain⟨q,hq,q0,q6⟩:∃ q:Nat,1+T % 6=(q:Int)/\1<=q/\q<1000:=⟨(1+T % 6).toNat,by lia,by lia,by lia⟩
 have q3:=kept_ok w t M q (by lia) (by lia) hwl htl
 have sv3:=zha w t M q q0
 rw[show((1:Nat):Int)=1 from rfl] at sv2
 generalize jnd (zd4 (zfg w t M (M+1)))=K1 at *
 generalize jnd (zd4 (fnd (zch w t M 1) w.length M (t.length+1)))=K2 at *
 generalize jnd (zd4 (fnd (zch w t M q) w.length M (t.length+1)))=K3 at *
 generalize hdx:aa (Ent.obj (.lst (d2.map D.int)))=DX at *
 have e7:zcH (zaa (zah [.v,.v,.v] zbP (zaa (zab 2) (zaa (zab 3) (zaa (zab 4) zae)))) (zaa (zah [.v,.v,.v] za4 (zaa (zab 2) (zaa (zab 3) (zaa (zab 4) zae)))) zae)) [A,DX,aa (.val (.str (mkS w))),aa (.val (.int (M:Int))),aa (.val (.str (mkS t))),aa (.val (.tup ((wP w).map .str))),aa (.val (.tup ((wE w t (M:Int) 0 (t.length+1)).map prD))),ab,ab,ab,ab,ab,ab,ab,ab]=aa (.own [.tup (K1.map prD),.tup (K2.map prD)]):=by
  generalize K1.map prD=k1 at q1 ⊢
  generalize K2.map prD=k2 at q2 ⊢
  generalize (wE w t (M:Int) 0 (t.length+1)).map prD=R
  generalize (wP w).map D.str=pp
  simp only[zcH,zaa,zah,zab,jqf,jqe,zae,jqc,jqa,zbf,zcG,asV,q1,q2,jqp,jqq,Nat.reduceLeDiff,zey,jra]
 generalize hdy:aa (Ent.obj (.lst (d2.dropLast.map D.int)))=DY at *
 have e8:zgF 7 (zah [.v,.v,.v,.v] zaR (zaa (zab 2) (zaa (zab 3) (zaa (zab 4) (zaa (ex2 zbg (eC (.int 1)) (ex2 zbF (zab 8) (eC (.int 6)))) zae))))) [A,DY,aa (.val (.str (mkS w))),aa (.val (.int (M:Int))),aa (.val (.str (mkS t))),aa (.val (.tup ((wP w).map .str))),aa (.val (.tup ((wE w t (M:Int) 0 (t.length+1)).map prD))),aa (.own [.tup (K1.map prD),.tup (K2.map prD)]),aa (.val (.int T)),ab,ab,ab,ab,ab,ab]=aa (.nx [A,DY,aa (.val (.str (mkS w))),aa (.val (.int (M:Int))),aa (.val (.str (mkS t))),aa (.val (.tup ((wP w).map .str))),aa (.val (.tup ((wE w t (M:Int) 0 (t.length+1)).map prD))),aa (.own [.tup (K1.map prD),.tup (K2.map prD),.tup (K3.map prD)]),aa (.val (.int T)),ab,ab,ab,ab,ab,ab]):=by
  refine zhN (ds:=[.tup (K1.map prD),.tup (K2.map prD)]) (v:=.tup (K3.map prD)) rfl ?_ (by show 2<1000000;decide)
  have z:ex2 zbg (eC (.int 1)) (ex2 zbF (zab 8) (eC (.int 6))) [A,DY,aa (.val (.str (mkS w))),aa (.val (.int (M:Int))),aa (.val (.str (mkS t))),aa (.val (.tup ((wP w).map .str))),aa (.val (.tup ((wE w t (M:Int) 0 (t.length+1)).map prD))),aa (.own [.tup (K1.map prD),.tup (K2.map prD)]),aa (.val (.int T)),ab,ab,ab,ab,ab,ab]=aa (.val (.int (q:Int))):=(zhn rfl (zfP rfl rfl (by decide))).trans (by rw[hq])
  generalize ex2 zbg (eC (.int 1)) (ex2 zbF (zab 8) (eC (.int 6)))=E at z ⊢
  generalize K1.map prD=k1 at z ⊢
  generalize K2.map prD=k2 at z ⊢
  generalize K3.map prD=k3 at q3 ⊢
  generalize (wE w t (M:Int) 0 (t.length+1)).map prD=R at z ⊢
  generalize (wP w).map D.str=pp at z ⊢
  simp only[zah,zaa,zab,jqf,jqe,z,zae,jqc,jqa,zbf,zcG,asV,q3]
 have w1:loop (gNm 9) zfb [.tup (K1.map prD),.tup (K2.map prD),.tup (K3.map prD)] [A,DY,aa (.val (.str (mkS w))),aa (.val (.int (M:Int))),aa (.val (.str (mkS t))),aa (.val (.tup ((wP w).map .str))),aa (.val (.tup ((wE w t (M:Int) 0 (t.length+1)).map prD))),aa (.val (.lst [.tup (K1.map prD),.tup (K2.map prD),.tup (K3.map prD)])),aa (.val (.int T)),ab,ab,ab,ab,ab,ab]=aa (.nx [A,DY,aa (.val (.str (mkS w))),aa (.val (.int (M:Int))),aa (.val (.str (mkS t))),aa (.val (.tup ((wP w).map .str))),aa (.val (.tup ((wE w t (M:Int) 0 (t.length+1)).map prD))),aa (.val (.lst [.tup (K1.map prD),.tup (K2.map prD),.tup (K3.map prD)])),aa (.val (.int T)),aa (.val (.tup (K3.map prD))),ab,ab,ab,ab,ab]):=by
  refine gy (zbO rfl (turnA htl sv1.kp A DY _ _ _ _ _ _ _ _ _ _ _)) ?_
  refine gy (zbO rfl (turnA htl sv2.kp A DY _ _ _ _ _ _ _ _ _ _ _)) ?_
  exact zbO rfl (turnA htl sv3.kp A DY _ _ _ _ _ _ _ _ _ _ _)
 obtain⟨δ,hE⟩:∃ δ,ze6 [A,DY,aa (.val (.str (mkS w))),aa (.val (.int (M:Int))),aa (.val (.str (mkS t))),aa (.val (.tup ((wP w).map .str))),aa (.val (.tup ((wE w t (M:Int) 0 (t.length+1)).map prD))),aa (.val (.lst [.tup (K1.map prD),.tup (K2.map prD),.tup (K3.map prD)])),aa (.val (.int T)),aa (.val (.tup (K3.map prD))),ab,ab,ab,ab,ab]=aa (.rt (.val (.bl true)) δ):=by
  have hln:=wE_len w t (M:Int) 0 (t.length+1)
  have tc:=fun x9 x11 x12 x13 x14 k hk hn=>turnC (M:=(M:Int)) hwl htl sv1 sv2 sv3 A DY x9 x11 x12 x13 x14 T k hk hn
  generalize wE w t (M:Int) 0 (t.length+1)=ps at hln tc ⊢
  obtain⟨c,hc,c0,c1⟩:∃ c:Int,ex2 zda (zcH (zaa (eC (.int 10)) (zaa (eC (.int 2)) zae))) (eCB zcO (zaa (ex2 gGt (eCB za9 (zaa (zab 2) zae)) (eC (.int 12))) zae)) [A,DY,aa (.val (.str (mkS w))),aa (.val (.int (M:Int))),aa (.val (.str (mkS t))),aa (.val (.tup ((wP w).map .str))),aa (.val (.tup (ps.map prD))),aa (.val (.lst [.tup (K1.map prD),.tup (K2.map prD),.tup (K3.map prD)])),aa (.val (.int T)),aa (.val (.tup (K3.map prD))),ab,ab,ab,ab,ab]=aa (.val (.int c))/\0<=c/\c<=10:=by
   have z:=zhK (E:=zab 2) (δ:=[A,DY,aa (.val (.str (mkS w))),aa (.val (.int (M:Int))),aa (.val (.str (mkS t))),aa (.val (.tup ((wP w).map .str))),aa (.val (.tup (ps.map prD))),aa (.val (.lst [.tup (K1.map prD),.tup (K2.map prD),.tup (K3.map prD)])),aa (.val (.int T)),aa (.val (.tup (K3.map prD))),ab,ab,ab,ab,ab]) rfl (zat w) (by lia)
   generalize eCB za9 (zaa (zab 2) zae)=E at z ⊢
   have ga:∀ i:Int,0<=i/\i<2->∃ c,atI [D.int 10,D.int 2] i=aa (.int c)/\0<=c/\c<=10:=fun i hi=>by
    have:i=0 \/ i=1:=by lia
    rcases this with rfl | rfl
    ·exact⟨10,rfl,by decide,by decide⟩
    ·exact⟨2,rfl,by decide,by decide⟩
   have gi:∃ i:Int,(0<=i/\i<2)/\eCB zcO (zaa (ex2 gGt E (eC (.int 12))) zae) [A,DY,aa (.val (.str (mkS w))),aa (.val (.int (M:Int))),aa (.val (.str (mkS t))),aa (.val (.tup ((wP w).map .str))),aa (.val (.tup (ps.map prD))),aa (.val (.lst [.tup (K1.map prD),.tup (K2.map prD),.tup (K3.map prD)])),aa (.val (.int T)),aa (.val (.tup (K3.map prD))),ab,ab,ab,ab,ab]=aa (.val (.int i)):=by
    by_cases g:(w.length:Int) > 12
    ·exact⟨1,by decide,by simp only[eCB,zaa,ex2,z,eC,gGt,pI0,iOf,jqa,jqc,g,jqy,zae,zcO,jra]⟩
    ·exact⟨0,by decide,by simp only[eCB,zaa,ex2,z,eC,gGt,pI0,iOf,jqa,jqc,g,jqz,zae,zcO,jqr,jrb]⟩
   obtain⟨i,hi,gi⟩:=gi
   obtain⟨c,hc,hb⟩:=ga i hi
   exact⟨c,ixLO (ds:=[.int 10,.int 2]) rfl gi hc,hb⟩
  have hl:eCB zb1 (zaa (zab 6) zae) [A,DY,aa (.val (.str (mkS w))),aa (.val (.int (M:Int))),aa (.val (.str (mkS t))),aa (.val (.tup ((wP w).map .str))),aa (.val (.tup (ps.map prD))),aa (.val (.lst [.tup (K1.map prD),.tup (K2.map prD),.tup (K3.map prD)])),aa (.val (.int T)),aa (.val (.tup (K3.map prD))),ab,ab,ab,ab,ab]=aa (.val (.int (ps.length:Int))):=by
   show aa (Ent.val (.int ((ps.map prD).length:Int)))=_
   rw[aq]
  have hm:=min2 hc hl
  obtain⟨n,hn,hn1,hn2⟩:∃ n:Nat,(if (ps.length:Int)<c then (ps.length:Int) else c)=(n:Int)/\n<=10/\(0<n->0<ps.length):=⟨(if (ps.length:Int)<c then (ps.length:Int) else c).toNat,by split <;> lia,by split <;> lia,by split <;> lia⟩
  rw[hn] at hm
  obtain⟨δ',w2,x9,x10,x11,x12,x13,x14,rfl⟩:=zbI (tg:=gNm 10) (f:=ze9) (fun k δ=>∃ x9 x10 x11 x12 x13 x14,δ=[A,DY,aa (.val (.str (mkS w))),aa (.val (.int (M:Int))),aa (.val (.str (mkS t))),aa (.val (.tup ((wP w).map .str))),aa (.val (.tup (ps.map prD))),aa (.val (.lst [.tup (K1.map prD),.tup (K2.map prD),.tup (K3.map prD)])),aa (.val (.int T)),x9,x10,x11,x12,x13,x14])
   ((ak n).map fun(i:Nat)=>D.int (0+(i:Int))) 0 _ (fun k d δ hd hδ=>by
    obtain⟨x9,x10,x11,x12,x13,x14,rfl⟩:=hδ
    have hk:k<n:=by have:=(aO.mp hd).1;simpa using this
    rw[ax,bo hk] at hd
    cases hd
    obtain⟨y9,y11,y12,y13,y14,h⟩:=tc x9 x11 x12 x13 x14 k (by lia) (hn2 (by lia))
    exact⟨_,_,rfl,.inl h,y9,_,y11,y12,y13,y14,rfl⟩) ⟨aa (.val (.tup (K3.map prD))),ab,ab,ab,ab,ab,rfl⟩
  exact⟨_,(show ze6 _=_ from forN (rngI hm (by lia)) w2).trans (zdu (d:=.bl true) rfl)⟩
 have hF:F_law [A,ab,ab,ab,ab,ab,ab,ab,ab,ab,ab,ab,ab,ab,ab]=aa (.rt (.val (.bl true)) δ):=by
  refine(show F_law _=_ from zaU e1).trans ((show ziR _=_ from zaU e2).trans ((show ziJ _=_ from zaP e5).trans ((show ziU _=_ from zaP e6).trans ((show ziy _=_ from zaU (zhm e7)).trans ((show ziz _=_ from zaU (zee hp)).trans ((show ziH _=_ from zaU e8).trans ?_))))))
  exact(forN (r:=ze6) (show iL (zab 7) _=aa [.tup (K1.map prD),.tup (K2.map prD),.tup (K3.map prD)] from rfl) w1).trans hE
 subst hA
 exact(congrArg (fun o=>bM o _) hF).trans rfl
end
end N44
namespace N44
open PySem L2 L3 PyProof.Rows
def spLaw(K:ag):Sp:=fun vs H Q _=>∃ (a:af) (ns:List Int),vs=[.ref a]/\SqL K H a (ns.map V.int)/\ns.length<=63/\∀ H',Q (.bl true) H'
theorem sp_law{K:ag}{vs:List V}{H:Hp}{Q:VK}{E:XK}(h:spLaw K vs H Q E):spD K [.b] g_law vs H Q E:=by
 obtain⟨a,ns,rfl,hq,hl,k⟩:=h
 refine⟨fun _=>ab,_,_,fun _ _ e=>(nomatch e),.cons (k:=.b) (d:=.lst (ns.map D.int)) ⟨a,_,rfl,hq,Reps.ints ns⟩ .nil,main ns hl,fun v F' H' _ r=>?_⟩
 cases zhl r
 exact k H'
theorem all_mk{l:gI}{w:aU}{K:ag}{h:ba}{mg:Str->Option ae}{fa:af}(X:K.In h)(G:h.Ns av mg)(hfa:mg "law" = aa (.ref fa))
  {C_Sight:af}
  {f_21:af} {od_21 an_21:Option af} {sl_21:Array (Option ae)} {oc_21 kV_21 dc_21 pm_21 cd_21 ct_21:ae}
  {f_20:af} {od_20 an_20:Option af} {sl_20:Array (Option ae)} {oc_20 kV_20 dc_20 pm_20 cd_20 ct_20:ae}
  {f_22:af} {od_22 an_22:Option af} {sl_22:Array (Option ae)} {oc_22 kV_22 dc_22 pm_22 cd_22 ct_22:ae}
  {f_28:af} {od_28 an_28:Option af} {sl_28:Array (Option ae)} {oc_28 kV_28 dc_28 pm_28 cd_28 ct_28:ae}
  {f_37:af} {od_37 an_37:Option af} {sl_37:Array (Option ae)} {oc_37 kV_37 dc_37 pm_37 cd_37 ct_37:ae}
  {f_36:af} {od_36 an_36:Option af} {sl_36:Array (Option ae)} {oc_36 kV_36 dc_36 pm_36 cd_36 ct_36:ae}
  {f_26:af} {od_26 an_26:Option af} {sl_26:Array (Option ae)} {oc_26 kV_26 dc_26 pm_26 cd_26 ct_26:ae}
  {f_19:af} {od_19 an_19:Option af} {sl_19:Array (Option ae)} {oc_19 kV_19 dc_19 pm_19 cd_19 ct_19:ae}
  {f_12:af} {od_12 an_12:Option af} {sl_12:Array (Option ae)} {oc_12 kV_12 dc_12 pm_12 cd_12 ct_12:ae}
  {df_12:ae}
  {f_31:af} {od_31 an_31:Option af} {sl_31:Array (Option ae)} {oc_31 kV_31 dc_31 pm_31 cd_31 ct_31:ae}
  {f_15:af} {od_15 an_15:Option af} {sl_15:Array (Option ae)} {oc_15 kV_15 dc_15 pm_15 cd_15 ct_15:ae}
  {f_17:af} {od_17 an_17:Option af} {sl_17:Array (Option ae)} {oc_17 kV_17 dc_17 pm_17 cd_17 ct_17:ae}
  {f_11:af} {od_11 an_11:Option af} {sl_11:Array (Option ae)} {oc_11 kV_11 dc_11 pm_11 cd_11 ct_11:ae}
  {f_34:af} {od_34 an_34:Option af} {sl_34:Array (Option ae)} {oc_34 kV_34 dc_34 pm_34 cd_34 ct_34:ae}
  {f_25:af} {od_25 an_25:Option af} {sl_25:Array (Option ae)} {oc_25 kV_25 dc_25 pm_25 cd_25 ct_25:ae}
  {f_32:af} {od_32 an_32:Option af} {sl_32:Array (Option ae)} {oc_32 kV_32 dc_32 pm_32 cd_32 ct_32:ae}
  {f_23:af} {od_23 an_23:Option af} {sl_23:Array (Option ae)} {oc_23 kV_23 dc_23 pm_23 cd_23 ct_23:ae}
  {f_13:af} {od_13 an_13:Option af} {sl_13:Array (Option ae)} {oc_13 kV_13 dc_13 pm_13 cd_13 ct_13:ae}
  {f_10:af} {od_10 an_10:Option af} {sl_10:Array (Option ae)} {oc_10 kV_10 dc_10 pm_10 cd_10 ct_10:ae}
  {f_18:af} {od_18 an_18:Option af} {sl_18:Array (Option ae)} {oc_18 kV_18 dc_18 pm_18 cd_18 ct_18:ae}
  {f_33:af} {od_33 an_33:Option af} {sl_33:Array (Option ae)} {oc_33 kV_33 dc_33 pm_33 cd_33 ct_33:ae}
  {f_14:af} {od_14 an_14:Option af} {sl_14:Array (Option ae)} {oc_14 kV_14 dc_14 pm_14 cd_14 ct_14:ae}
  {f_35:af} {od_35 an_35:Option af} {sl_35:Array (Option ae)} {oc_35 kV_35 dc_35 pm_35 cd_35 ct_35:ae}
  {f_29:af} {od_29 an_29:Option af} {sl_29:Array (Option ae)} {oc_29 kV_29 dc_29 pm_29 cd_29 ct_29:ae}
  {f_30:af} {od_30 an_30:Option af} {sl_30:Array (Option ae)} {oc_30 kV_30 dc_30 pm_30 cd_30 ct_30:ae}
  {f_16:af} {od_16 an_16:Option af} {sl_16:Array (Option ae)} {oc_16 kV_16 dc_16 pm_16 cd_16 ct_16:ae}
  {f_27:af} {od_27 an_27:Option af} {sl_27:Array (Option ae)} {oc_27 kV_27 dc_27 pm_27 cd_27 ct_27:ae}
  {f_5:af} {od_5 an_5:Option af} {sl_5:Array (Option ae)} {oc_5 kV_5 dc_5 pm_5 cd_5 ct_5:ae}
  {f_8:af} {od_8 an_8:Option af} {sl_8:Array (Option ae)} {oc_8 kV_8 dc_8 pm_8 cd_8 ct_8:ae}
  {f_6:af} {od_6 an_6:Option af} {sl_6:Array (Option ae)} {oc_6 kV_6 dc_6 pm_6 cd_6 ct_6:ae}
  {f_9:af} {od_9 an_9:Option af} {sl_9:Array (Option ae)} {oc_9 kV_9 dc_9 pm_9 cd_9 ct_9:ae}
  {f_4:af} {od_4 an_4:Option af} {sl_4:Array (Option ae)} {oc_4 kV_4 dc_4 pm_4 cd_4 ct_4:ae}
  {f_7:af} {od_7 an_7:Option af} {sl_7:Array (Option ae)} {oc_7 kV_7 dc_7 pm_7 cd_7 ct_7:ae}
  {f_3:af} {od_3 an_3:Option af} {sl_3:Array (Option ae)} {oc_3 kV_3 dc_3 pm_3 cd_3 ct_3:ae}
  {f_24:af} {od_24 an_24:Option af} {sl_24:Array (Option ae)} {oc_24 kV_24 dc_24 pm_24 cd_24 ct_24:ae}
  {f_0:af} {od_0 an_0:Option af} {sl_0:Array (Option ae)} {oc_0 kV_0 dc_0 pm_0 cd_0 ct_0:ae}
  {f_1:af} {od_1 an_1:Option af} {sl_1:Array (Option ae)} {oc_1 kV_1 dc_1 pm_1 cd_1 ct_1:ae}
  {f_2:af} {od_2 an_2:Option af} {sl_2:Array (Option ae)} {oc_2 kV_2 dc_2 pm_2 cd_2 ct_2:ae}
  {tk_PUT:Tok}
  {tk_LEFT:Tok}
  {tk_EXCHANGED:Tok}
  {tk_TURNED:Tok}
  {ta_CLASSES_USED:af} {es_CLASSES_USED:Array DictEntry} {ep_CLASSES_USED:Nat}
  {ta_SIGNS_USED:af} {es_SIGNS_USED:Array DictEntry} {ep_SIGNS_USED:Nat}
  {ta_PLACE_IN_PRICES:af} {es_PLACE_IN_PRICES:Array DictEntry} {ep_PLACE_IN_PRICES:Nat}
  (a_Sight:az K av "Sight" = aa (aa (.ref C_Sight))) (p1_Sight:dS K C_Sight kH=true) (p2_Sight:eH K C_Sight=true) (p3_Sight:fV K C_Sight=true) (p4_Sight:bB K (.ref C_Sight) "__setattr__" = aa (aa (.builtin "object.__setattr__")))
  (n_Sight_most:bB K (.ref C_Sight) "most" = aa ab)
  (n_Sight_end:bB K (.ref C_Sight) "end" = aa ab)
  (n_Sight_pairs:bB K (.ref C_Sight) "pairs" = aa ab)
  (m1_Sight:gF K C_Sight=true) (m2_Sight:aB K (.ref C_Sight)=true)
  (a_21:az K av "kept_by_parts" = aa (aa (.ref f_21))) (l_21:K.lookup f_21=aa ⟨oc_21,od_21,.func (aK "kept_by_parts" "kept_by_parts" (zai zaF) (zag zaF) (zad zaF) .none kV_21 dc_21 pm_21 an_21 cd_21 ct_21),sl_21⟩) (c_21:aG K cd_21 "kept_by_parts" = true) (k_21:aB K (.ref f_21)=true)
  (a_20:az K av "kept_by_counts" = aa (aa (.ref f_20))) (l_20:K.lookup f_20=aa ⟨oc_20,od_20,.func (aK "kept_by_counts" "kept_by_counts" (zai zaA) (zag zaA) (zad zaA) .none kV_20 dc_20 pm_20 an_20 cd_20 ct_20),sl_20⟩) (c_20:aG K cd_20 "kept_by_counts" = true) (k_20:aB K (.ref f_20)=true)
  (a_22:az K av "kept_by_pieces" = aa (aa (.ref f_22))) (l_22:K.lookup f_22=aa ⟨oc_22,od_22,.func (aK "kept_by_pieces" "kept_by_pieces" (zai zaz) (zag zaz) (zad zaz) .none kV_22 dc_22 pm_22 an_22 cd_22 ct_22),sl_22⟩) (c_22:aG K cd_22 "kept_by_pieces" = true) (k_22:aB K (.ref f_22)=true)
  (a_28:az K av "places_of" = aa (aa (.ref f_28))) (l_28:K.lookup f_28=aa ⟨oc_28,od_28,.func (aK "places_of" "places_of" (zai zbs) (zag zbs) (zad zbs) .none kV_28 dc_28 pm_28 an_28 cd_28 ct_28),sl_28⟩) (c_28:aG K cd_28 "places_of" = true) (k_28:aB K (.ref f_28)=true)
  (a_37:az K av "windows" = aa (aa (.ref f_37))) (l_37:K.lookup f_37=aa ⟨oc_37,od_37,.func (aK "windows" "windows" (zai zb8) (zag zb8) (zad zb8) .none kV_37 dc_37 pm_37 an_37 cd_37 ct_37),sl_37⟩) (c_37:aG K cd_37 "windows" = true) (k_37:aB K (.ref f_37)=true)
  (a_36:az K av "times_of_pieces" = aa (aa (.ref f_36))) (l_36:K.lookup f_36=aa ⟨oc_36,od_36,.func (aK "times_of_pieces" "times_of_pieces" (zai zas) (zag zas) (zad zas) .none kV_36 dc_36 pm_36 an_36 cd_36 ct_36),sl_36⟩) (c_36:aG K cd_36 "times_of_pieces" = true) (k_36:aB K (.ref f_36)=true)
  (a_26:az K av "number_shared" = aa (aa (.ref f_26))) (l_26:K.lookup f_26=aa ⟨oc_26,od_26,.func (aK "number_shared" "number_shared" (zai zaE) (zag zaE) (zad zaE) .none kV_26 dc_26 pm_26 an_26 cd_26 ct_26),sl_26⟩) (c_26:aG K cd_26 "number_shared" = true) (k_26:aB K (.ref f_26)=true)
  (a_19:az K av "joined" = aa (aa (.ref f_19))) (l_19:K.lookup f_19=aa ⟨oc_19,od_19,.func (aK "joined" "joined" (zai zcz) (zag zcz) (zad zcz) .none kV_19 dc_19 pm_19 an_19 cd_19 ct_19),sl_19⟩) (c_19:aG K cd_19 "joined" = true) (k_19:aB K (.ref f_19)=true)
  (a_12:az K av "cells_of" = aa (aa (.ref f_12))) (l_12:K.lookup f_12=aa ⟨oc_12,od_12,.func (aK "cells_of" "cells_of" (zai zbJ) (zag zbJ) (zad zbJ) df_12 kV_12 dc_12 pm_12 an_12 cd_12 ct_12),sl_12⟩) (c_12:aG K cd_12 "cells_of" = true) (k_12:aB K (.ref f_12)=true)
  (e_12:DfOk K df_12)
  (a_31:az K av "row_across" = aa (aa (.ref f_31))) (l_31:K.lookup f_31=aa ⟨oc_31,od_31,.func (aK "row_across" "row_across" (zai za5) (zag za5) (zad za5) .none kV_31 dc_31 pm_31 an_31 cd_31 ct_31),sl_31⟩) (c_31:aG K cd_31 "row_across" = true) (k_31:aB K (.ref f_31)=true)
  (a_15:az K av "first_column" = aa (aa (.ref f_15))) (l_15:K.lookup f_15=aa ⟨oc_15,od_15,.func (aK "first_column" "first_column" (zai zaK) (zag zaK) (zad zaK) .none kV_15 dc_15 pm_15 an_15 cd_15 ct_15),sl_15⟩) (c_15:aG K cd_15 "first_column" = true) (k_15:aB K (.ref f_15)=true)
  (a_17:az K av "further_column" = aa (aa (.ref f_17))) (l_17:K.lookup f_17=aa ⟨oc_17,od_17,.func (aK "further_column" "further_column" (zai zaw) (zag zaw) (zad zaw) .none kV_17 dc_17 pm_17 an_17 cd_17 ct_17),sl_17⟩) (c_17:aG K cd_17 "further_column" = true) (k_17:aB K (.ref f_17)=true)
  (a_11:az K av "cell_ahead_of_turn" = aa (aa (.ref f_11))) (l_11:K.lookup f_11=aa ⟨oc_11,od_11,.func (aK "cell_ahead_of_turn" "cell_ahead_of_turn" (zai zak) (zag zak) (zad zak) .none kV_11 dc_11 pm_11 an_11 cd_11 ct_11),sl_11⟩) (c_11:aG K cd_11 "cell_ahead_of_turn" = true) (k_11:aB K (.ref f_11)=true)
  (a_34:az K av "stepped" = aa (aa (.ref f_34))) (l_34:K.lookup f_34=aa ⟨oc_34,od_34,.func (aK "stepped" "stepped" (zai zca) (zag zca) (zad zca) .none kV_34 dc_34 pm_34 an_34 cd_34 ct_34),sl_34⟩) (c_34:aG K cd_34 "stepped" = true) (k_34:aB K (.ref f_34)=true)
  (a_25:az K av "lowest" = aa (aa (.ref f_25))) (l_25:K.lookup f_25=aa ⟨oc_25,od_25,.func (aK "lowest" "lowest" (zai zcC) (zag zcC) (zad zcC) .none kV_25 dc_25 pm_25 an_25 cd_25 ct_25),sl_25⟩) (c_25:aG K cd_25 "lowest" = true) (k_25:aB K (.ref f_25)=true)
  (a_32:az K av "row_between" = aa (aa (.ref f_32))) (l_32:K.lookup f_32=aa ⟨oc_32,od_32,.func (aK "row_between" "row_between" (zai zaX) (zag zaX) (zad zaX) .none kV_32 dc_32 pm_32 an_32 cd_32 ct_32),sl_32⟩) (c_32:aG K cd_32 "row_between" = true) (k_32:aB K (.ref f_32)=true)
  (a_23:az K av "last_step" = aa (aa (.ref f_23))) (l_23:K.lookup f_23=aa ⟨oc_23,od_23,.func (aK "last_step" "last_step" (zai zbq) (zag zbq) (zad zbq) .none kV_23 dc_23 pm_23 an_23 cd_23 ct_23),sl_23⟩) (c_23:aG K cd_23 "last_step" = true) (k_23:aB K (.ref f_23)=true)
  (a_13:az K av "comes_last" = aa (aa (.ref f_13))) (l_13:K.lookup f_13=aa ⟨oc_13,od_13,.func (aK "comes_last" "comes_last" (zai za6) (zag za6) (zad za6) .none kV_13 dc_13 pm_13 an_13 cd_13 ct_13),sl_13⟩) (c_13:aG K cd_13 "comes_last" = true) (k_13:aB K (.ref f_13)=true)
  (a_10:az K av "can_stand" = aa (aa (.ref f_10))) (l_10:K.lookup f_10=aa ⟨oc_10,od_10,.func (aK "can_stand" "can_stand" (zai zbm) (zag zbm) (zad zbm) .none kV_10 dc_10 pm_10 an_10 cd_10 ct_10),sl_10⟩) (c_10:aG K cd_10 "can_stand" = true) (k_10:aB K (.ref f_10)=true)
  (a_18:az K av "is_done" = aa (aa (.ref f_18))) (l_18:K.lookup f_18=aa ⟨oc_18,od_18,.func (aK "is_done" "is_done" (zai zcc) (zag zcc) (zad zcc) .none kV_18 dc_18 pm_18 an_18 cd_18 ct_18),sl_18⟩) (c_18:aG K cd_18 "is_done" = true) (k_18:aB K (.ref f_18)=true)
  (a_33:az K av "step_price" = aa (aa (.ref f_33))) (l_33:K.lookup f_33=aa ⟨oc_33,od_33,.func (aK "step_price" "step_price" (zai zbd) (zag zbd) (zad zbd) .none kV_33 dc_33 pm_33 an_33 cd_33 ct_33),sl_33⟩) (c_33:aG K cd_33 "step_price" = true) (k_33:aB K (.ref f_33)=true)
  (a_14:az K av "ends_in" = aa (aa (.ref f_14))) (l_14:K.lookup f_14=aa ⟨oc_14,od_14,.func (aK "ends_in" "ends_in" (zai zb9) (zag zb9) (zad zb9) .none kV_14 dc_14 pm_14 an_14 cd_14 ct_14),sl_14⟩) (c_14:aG K cd_14 "ends_in" = true) (k_14:aB K (.ref f_14)=true)
  (a_35:az K av "stretch_at" = aa (aa (.ref f_35))) (l_35:K.lookup f_35=aa ⟨oc_35,od_35,.func (aK "stretch_at" "stretch_at" (zai zba) (zag zba) (zad zba) .none kV_35 dc_35 pm_35 an_35 cd_35 ct_35),sl_35⟩) (c_35:aG K cd_35 "stretch_at" = true) (k_35:aB K (.ref f_35)=true)
  (a_29:az K av "prices_at_ends" = aa (aa (.ref f_29))) (l_29:K.lookup f_29=aa ⟨oc_29,od_29,.func (aK "prices_at_ends" "prices_at_ends" (zai zay) (zag zay) (zad zay) .none kV_29 dc_29 pm_29 an_29 cd_29 ct_29),sl_29⟩) (c_29:aG K cd_29 "prices_at_ends" = true) (k_29:aB K (.ref f_29)=true)
  (a_30:az K av "prices_by_length" = aa (aa (.ref f_30))) (l_30:K.lookup f_30=aa ⟨oc_30,od_30,.func (aK "prices_by_length" "prices_by_length" (zai zap) (zag zap) (zad zap) .none kV_30 dc_30 pm_30 an_30 cd_30 ct_30),sl_30⟩) (c_30:aG K cd_30 "prices_by_length" = true) (k_30:aB K (.ref f_30)=true)
  (a_16:az K av "first_lowest" = aa (aa (.ref f_16))) (l_16:K.lookup f_16=aa ⟨oc_16,od_16,.func (aK "first_lowest" "first_lowest" (zai zaN) (zag zaN) (zad zaN) .none kV_16 dc_16 pm_16 an_16 cd_16 ct_16),sl_16⟩) (c_16:aG K cd_16 "first_lowest" = true) (k_16:aB K (.ref f_16)=true)
  (a_27:az K av "pattern_of" = aa (aa (.ref f_27))) (l_27:K.lookup f_27=aa ⟨oc_27,od_27,.func (aK "pattern_of" "pattern_of" (zai zbc) (zag zbc) (zad zbc) .none kV_27 dc_27 pm_27 an_27 cd_27 ct_27),sl_27⟩) (c_27:aG K cd_27 "pattern_of" = true) (k_27:aB K (.ref f_27)=true)
  (a_5:az K av "_law_deck" = aa (aa (.ref f_5))) (l_5:K.lookup f_5=aa ⟨oc_5,od_5,.func (aK "_law_deck" "_law_deck" (zai zbn) (zag zbn) (zad zbn) .none kV_5 dc_5 pm_5 an_5 cd_5 ct_5),sl_5⟩) (c_5:aG K cd_5 "_law_deck" = true) (k_5:aB K (.ref f_5)=true)
  (a_8:az K av "_law_sign" = aa (aa (.ref f_8))) (l_8:K.lookup f_8=aa ⟨oc_8,od_8,.func (aK "_law_sign" "_law_sign" (zai zbr) (zag zbr) (zad zbr) .none kV_8 dc_8 pm_8 an_8 cd_8 ct_8),sl_8⟩) (c_8:aG K cd_8 "_law_sign" = true) (k_8:aB K (.ref f_8)=true)
  (a_6:az K av "_law_letters" = aa (aa (.ref f_6))) (l_6:K.lookup f_6=aa ⟨oc_6,od_6,.func (aK "_law_letters" "_law_letters" (zai zaL) (zag zaL) (zad zaL) .none kV_6 dc_6 pm_6 an_6 cd_6 ct_6),sl_6⟩) (c_6:aG K cd_6 "_law_letters" = true) (k_6:aB K (.ref f_6)=true)
  (a_9:az K av "_law_slipped" = aa (aa (.ref f_9))) (l_9:K.lookup f_9=aa ⟨oc_9,od_9,.func (aK "_law_slipped" "_law_slipped" (zai zaM) (zag zaM) (zad zaM) .none kV_9 dc_9 pm_9 an_9 cd_9 ct_9),sl_9⟩) (c_9:aG K cd_9 "_law_slipped" = true) (k_9:aB K (.ref f_9)=true)
  (a_4:az K av "_law_case" = aa (aa (.ref f_4))) (l_4:K.lookup f_4=aa ⟨oc_4,od_4,.func (aK "_law_case" "_law_case" (zai zbp) (zag zbp) (zad zbp) .none kV_4 dc_4 pm_4 an_4 cd_4 ct_4),sl_4⟩) (c_4:aG K cd_4 "_law_case" = true) (k_4:aB K (.ref f_4)=true)
  (a_7:az K av "_law_lies" = aa (aa (.ref f_7))) (l_7:K.lookup f_7=aa ⟨oc_7,od_7,.func (aK "_law_lies" "_law_lies" (zai zbo) (zag zbo) (zad zbo) .none kV_7 dc_7 pm_7 an_7 cd_7 ct_7),sl_7⟩) (c_7:aG K cd_7 "_law_lies" = true) (k_7:aB K (.ref f_7)=true)
  (a_3:az K av "_law_apart" = aa (aa (.ref f_3))) (l_3:K.lookup f_3=aa ⟨oc_3,od_3,.func (aK "_law_apart" "_law_apart" (zai zbb) (zag zbb) (zad zbb) .none kV_3 dc_3 pm_3 an_3 cd_3 ct_3),sl_3⟩) (c_3:aG K cd_3 "_law_apart" = true) (k_3:aB K (.ref f_3)=true)
  (a_24:az K av "law" = aa (aa (.ref f_24))) (l_24:K.lookup f_24=aa ⟨oc_24,od_24,.func (aK "law" "law" (zai zdZ) (zag zdZ) (zad zdZ) .none kV_24 dc_24 pm_24 an_24 cd_24 ct_24),sl_24⟩) (c_24:aG K cd_24 "law" = true) (k_24:aB K (.ref f_24)=true)
  (a_0:bB K (.ref C_Sight) "__init__" = aa (aa (.ref f_0))) (l_0:K.lookup f_0=aa ⟨oc_0,od_0,.func (aK "__init__" "Sight.__init__" (zai zax) (zag zax) (zad zax) .none kV_0 dc_0 pm_0 an_0 cd_0 ct_0),sl_0⟩) (c_0:aG K cd_0 "Sight.__init__" = true) (k_0:aB K (.ref f_0)=true) (i_0:d9 K (.ref f_0)=true)
  (a_1:bB K (.ref C_Sight) "come" = aa (aa (.ref f_1))) (l_1:K.lookup f_1=aa ⟨oc_1,od_1,.func (aK "come" "Sight.come" (zai za7) (zag za7) (zad za7) .none kV_1 dc_1 pm_1 an_1 cd_1 ct_1),sl_1⟩) (c_1:aG K cd_1 "Sight.come" = true) (k_1:aB K (.ref f_1)=true) (i_1:d9 K (.ref f_1)=true)
  (a_2:bB K (.ref C_Sight) "tell" = aa (aa (.ref f_2))) (l_2:K.lookup f_2=aa ⟨oc_2,od_2,.func (aK "tell" "Sight.tell" (zai za8) (zag za8) (zad za8) .none kV_2 dc_2 pm_2 an_2 cd_2 ct_2),sl_2⟩) (c_2:aG K cd_2 "Sight.tell" = true) (k_2:aB K (.ref f_2)=true) (i_2:d9 K (.ref f_2)=true)
  (z_int:az K av "int" = aa ab)
  (z_len:az K av "len" = aa ab)
  (z_list:az K av "list" = aa ab)
  (z_max:az K av "max" = aa ab)
  (z_min:az K av "min" = aa ab)
  (z_range:az K av "range" = aa ab)
  (z_reversed:az K av "reversed" = aa ab)
  (z_sorted:az K av "sorted" = aa ab)
  (z_sum:az K av "sum" = aa ab)
  (z_tuple:az K av "tuple" = aa ab)
  (q_PUT:az K av "PUT" = aa (aa (.int 0 tk_PUT)))
  (q_LEFT:az K av "LEFT" = aa (aa (.int 1 tk_LEFT)))
  (q_EXCHANGED:az K av "EXCHANGED" = aa (aa (.int 2 tk_EXCHANGED)))
  (q_TURNED:az K av "TURNED" = aa (aa (.int 3 tk_TURNED)))
  (q_CLASSES_USED:az K av "CLASSES_USED" = aa (aa (.ref ta_CLASSES_USED))) (l_CLASSES_USED:K.lookup ta_CLASSES_USED=aa ⟨.type "dict",ab,.dict es_CLASSES_USED ep_CLASSES_USED,#[]⟩) (c_CLASSES_USED:RowsK K es_CLASSES_USED [("same",1),("exchanged",1),("put",0),("left",1),("turned",2)]) (m_CLASSES_USED:(ta_CLASSES_USED == sysModules)=false)
  (q_SIGNS_USED:az K av "SIGNS_USED" = aa (aa (.ref ta_SIGNS_USED))) (l_SIGNS_USED:K.lookup ta_SIGNS_USED=aa ⟨.type "dict",ab,.dict es_SIGNS_USED ep_SIGNS_USED,#[]⟩) (c_SIGNS_USED:RowsK K es_SIGNS_USED [("same",1),("exchanged",1),("put",1),("left",0),("turned",2)]) (m_SIGNS_USED:(ta_SIGNS_USED == sysModules)=false)
  (q_PLACE_IN_PRICES:az K av "PLACE_IN_PRICES" = aa (aa (.ref ta_PLACE_IN_PRICES))) (l_PLACE_IN_PRICES:K.lookup ta_PLACE_IN_PRICES=aa ⟨.type "dict",ab,.dict es_PLACE_IN_PRICES ep_PLACE_IN_PRICES,#[]⟩) (c_PLACE_IN_PRICES:RowsK K es_PLACE_IN_PRICES [("put",0),("left",1),("exchanged",2),("turned",3)]) (m_PLACE_IN_PRICES:(ta_PLACE_IN_PRICES == sysModules)=false)
  (h_CLASSES_USED:es_CLASSES_USED.toList.map (·.hash)=(([("same",1),("exchanged",1),("put",0),("left",1),("turned",2)]:List (Str × Int)).map (·.1)).map (hashStr w)) :
  ∃ fd:bD,(∀ (s:ah) (v:ae),BindsTo s fd ⟨[v],[]⟩ [("_law_script",v)])/\∀ base:ba,K.In base->base.Ns av mg->FnOk l.prog w K mg base CX0 7 fa fd ["_law_script"] (spLaw K):=by
 have e:=hfa.symm.trans (aH X G a_24)
 cases e
 have DC_Sight:ClsD K mg "Sight" ["most","end","pairs"] C_Sight:=⟨a_Sight,aH X G a_Sight,⟨p1_Sight,p2_Sight,p3_Sight,p4_Sight⟩,fun f hf=>by
  simp only[aY,gw,or_false] at hf
  rcases hf with rfl | rfl | rfl
  ·exact n_Sight_most
  ·exact n_Sight_end
  ·exact n_Sight_pairs⟩
 have F_21:=zaG (st:=zaF) l_21 c_21 k_21
 have D_21:Def K mg "kept_by_parts" zaF ["W","most","T"] _ _:=⟨F_21,aH X G a_21,F_21.binds (ps:=["W","most","T"]) fun _ _ _ _ _ _ us hl=>by obtain⟨_,_,_,rfl⟩:=len3 hl;rfl⟩
 have F_20:=zaG (st:=zaA) l_20 c_20 k_20
 have D_20:Def K mg "kept_by_counts" zaA ["W","most","T"] _ _:=⟨F_20,aH X G a_20,F_20.binds (ps:=["W","most","T"]) fun _ _ _ _ _ _ us hl=>by obtain⟨_,_,_,rfl⟩:=len3 hl;rfl⟩
 have F_22:=zaG (st:=zaz) l_22 c_22 k_22
 have D_22:Def K mg "kept_by_pieces" zaz ["W","most","T","long"] _ _:=⟨F_22,aH X G a_22,F_22.binds (ps:=["W","most","T","long"]) fun _ _ _ _ _ _ us hl=>by obtain⟨_,_,_,_,rfl⟩:=len4 hl;rfl⟩
 have F_28:=zaG (st:=zbs) l_28 c_28 k_28
 have D_28:Def K mg "places_of" zbs ["part","text"] _ _:=⟨F_28,aH X G a_28,F_28.binds (ps:=["part","text"]) fun _ _ _ _ _ _ us hl=>by obtain⟨_,_,rfl⟩:=zji hl;rfl⟩
 have F_37:=zaG (st:=zb8) l_37 c_37 k_37
 have D_37:Def K mg "windows" zb8 ["word","most","text"] _ _:=⟨F_37,aH X G a_37,F_37.binds (ps:=["word","most","text"]) fun _ _ _ _ _ _ us hl=>by obtain⟨_,_,_,rfl⟩:=len3 hl;rfl⟩
 have F_36:=zaG (st:=zas) l_36 c_36 k_36
 have D_36:Def K mg "times_of_pieces" zas ["text","long"] _ _:=⟨F_36,aH X G a_36,F_36.binds (ps:=["text","long"]) fun _ _ _ _ _ _ us hl=>by obtain⟨_,_,rfl⟩:=zji hl;rfl⟩
 have F_26:=zaG (st:=zaE) l_26 c_26 k_26
 have D_26:Def K mg "number_shared" zaE ["times","other_times"] _ _:=⟨F_26,aH X G a_26,F_26.binds (ps:=["times","other_times"]) fun _ _ _ _ _ _ us hl=>by obtain⟨_,_,rfl⟩:=zji hl;rfl⟩
 have F_19:=zaG (st:=zcz) l_19 c_19 k_19
 have D_19:Def K mg "joined" zcz ["stretches"] _ _:=⟨F_19,aH X G a_19,F_19.binds (ps:=["stretches"]) fun _ _ _ _ _ _ us hl=>by obtain⟨_,rfl⟩:=len1 hl;rfl⟩
 obtain⟨T_12,o_12,n_12,rfl,h1_12,h2_12⟩:=e_12
 have F_12:FunA K "cells_of" "cells_of" zbJ f_12 _:=⟨⟨oc_12,od_12,.ref T_12,kV_12,dc_12,pm_12,an_12,cd_12,ct_12,sl_12,rfl,l_12,c_12⟩,k_12⟩
 have D_12:DefD K mg "cells_of" zbJ ["P","T","prices","free"] _ _:=⟨F_12,aH X G a_12,(fun s us KI hl=>match us,hl with | [_,_,_,_],_=>gM KI rfl h1_12 h2_12 rfl rfl),(fun s us KI hl=>match us,(show us.length=3 from Nat.succ.inj ((aP (as:=us) (bs:=[g7 false])).symm.trans hl)),hl with | [_,_,_],_,_=>gM KI rfl h1_12 h2_12 rfl rfl),⟨(fun s us ws KI hl=>by
  obtain⟨e1,e2,e3⟩:=gK_shape hl
  rw[e3]
  exact match us,e1,ws,e2 with | [_,_,_],_,[_],_=>gM KI rfl h1_12 h2_12 rfl rfl),fun r rz=>gK_rel r rz⟩⟩
 have F_31:=zaG (st:=za5) l_31 c_31 k_31
 have D_31:Def K mg "row_across" za5 ["columns","classes"] _ _:=⟨F_31,aH X G a_31,F_31.binds (ps:=["columns","classes"]) fun _ _ _ _ _ _ us hl=>by obtain⟨_,_,rfl⟩:=zji hl;rfl⟩
 have F_15:=zaG (st:=zaK) l_15 c_15 k_15
 have D_15:Def K mg "first_column" zaK ["pattern","prices"] _ _:=⟨F_15,aH X G a_15,F_15.binds (ps:=["pattern","prices"]) fun _ _ _ _ _ _ us hl=>by obtain⟨_,_,rfl⟩:=zji hl;rfl⟩
 have F_17:=zaG (st:=zaw) l_17 c_17 k_17
 have D_17:Def K mg "further_column" zaw ["columns","pattern","text","prices","free"] _ _:=⟨F_17,aH X G a_17,F_17.binds (ps:=["columns","pattern","text","prices","free"]) fun _ _ _ _ _ _ us hl=>by obtain⟨_,_,_,_,_,rfl⟩:=len5 hl;rfl⟩
 have F_11:=zaG (st:=zak) l_11 c_11 k_11
 have D_11:Def K mg "cell_ahead_of_turn" zak ["columns","pattern","text","classes"] _ _:=⟨F_11,aH X G a_11,F_11.binds (ps:=["columns","pattern","text","classes"]) fun _ _ _ _ _ _ us hl=>by obtain⟨_,_,_,_,rfl⟩:=len4 hl;rfl⟩
 have F_34:=zaG (st:=zca) l_34 c_34 k_34
 have D_34:Def K mg "stepped" zca ["cell","price"] _ _:=⟨F_34,aH X G a_34,F_34.binds (ps:=["cell","price"]) fun _ _ _ _ _ _ us hl=>by obtain⟨_,_,rfl⟩:=zji hl;rfl⟩
 have F_25:=zaG (st:=zcC) l_25 c_25 k_25
 have D_25:Def K mg "lowest" zcC ["cells"] _ _:=⟨F_25,aH X G a_25,F_25.binds (ps:=["cells"]) fun _ _ _ _ _ _ us hl=>by obtain⟨_,rfl⟩:=len1 hl;rfl⟩
 have F_32:=zaG (st:=zaX) l_32 c_32 k_32
 have D_32:Def K mg "row_between" zaX ["P","T","prices"] _ _:=⟨F_32,aH X G a_32,F_32.binds (ps:=["P","T","prices"]) fun _ _ _ _ _ _ us hl=>by obtain⟨_,_,_,rfl⟩:=len3 hl;rfl⟩
 have F_23:=zaG (st:=zbq) l_23 c_23 k_23
 have D_23:Def K mg "last_step" zbq ["cells","pattern","text","prices","classes","signs"] _ _:=⟨F_23,aH X G a_23,F_23.binds (ps:=["cells","pattern","text","prices","classes","signs"]) fun _ _ _ _ _ _ us hl=>by obtain⟨_,_,_,_,_,_,rfl⟩:=len6 hl;rfl⟩
 have F_13:=zaG (st:=za6) l_13 c_13 k_13
 have D_13:Def K mg "comes_last" za6 ["cells","pattern","text","prices","classes","signs","step"] _ _:=⟨F_13,aH X G a_13,F_13.binds (ps:=["cells","pattern","text","prices","classes","signs","step"]) fun _ _ _ _ _ _ us hl=>by obtain⟨_,_,_,_,_,_,_,rfl⟩:=len7 hl;rfl⟩
 have F_10:=zaG (st:=zbm) l_10 c_10 k_10
 have D_10:Def K mg "can_stand" zbm ["pattern","text","classes","signs","step"] _ _:=⟨F_10,aH X G a_10,F_10.binds (ps:=["pattern","text","classes","signs","step"]) fun _ _ _ _ _ _ us hl=>by obtain⟨_,_,_,_,_,rfl⟩:=len5 hl;rfl⟩
 have F_18:=zaG (st:=zcc) l_18 c_18 k_18
 have D_18:Def K mg "is_done" zcc ["prices","step"] _ _:=⟨F_18,aH X G a_18,F_18.binds (ps:=["prices","step"]) fun _ _ _ _ _ _ us hl=>by obtain⟨_,_,rfl⟩:=zji hl;rfl⟩
 have F_33:=zaG (st:=zbd) l_33 c_33 k_33
 have D_33:Def K mg "step_price" zbd ["prices","step"] _ _:=⟨F_33,aH X G a_33,F_33.binds (ps:=["prices","step"]) fun _ _ _ _ _ _ us hl=>by obtain⟨_,_,rfl⟩:=zji hl;rfl⟩
 have F_14:=zaG (st:=zb9) l_14 c_14 k_14
 have D_14:Def K mg "ends_in" zb9 ["P","T","most","prices"] _ _:=⟨F_14,aH X G a_14,F_14.binds (ps:=["P","T","most","prices"]) fun _ _ _ _ _ _ us hl=>by obtain⟨_,_,_,_,rfl⟩:=len4 hl;rfl⟩
 have F_35:=zaG (st:=zba) l_35 c_35 k_35
 have D_35:Def K mg "stretch_at" zba ["P","T","end","prices"] _ _:=⟨F_35,aH X G a_35,F_35.binds (ps:=["P","T","end","prices"]) fun _ _ _ _ _ _ us hl=>by obtain⟨_,_,_,_,rfl⟩:=len4 hl;rfl⟩
 have F_29:=zaG (st:=zay) l_29 c_29 k_29
 have D_29:Def K mg "prices_at_ends" zay ["pattern","text","prices"] _ _:=⟨F_29,aH X G a_29,F_29.binds (ps:=["pattern","text","prices"]) fun _ _ _ _ _ _ us hl=>by obtain⟨_,_,_,rfl⟩:=len3 hl;rfl⟩
 have F_30:=zaG (st:=zap) l_30 c_30 k_30
 have D_30:Def K mg "prices_by_length" zap ["pattern","text","prices"] _ _:=⟨F_30,aH X G a_30,F_30.binds (ps:=["pattern","text","prices"]) fun _ _ _ _ _ _ us hl=>by obtain⟨_,_,_,rfl⟩:=len3 hl;rfl⟩
 have F_16:=zaG (st:=zaN) l_16 c_16 k_16
 have D_16:Def K mg "first_lowest" zaN ["told"] _ _:=⟨F_16,aH X G a_16,F_16.binds (ps:=["told"]) fun _ _ _ _ _ _ us hl=>by obtain⟨_,rfl⟩:=len1 hl;rfl⟩
 have F_27:=zaG (st:=zbc) l_27 c_27 k_27
 have D_27:Def K mg "pattern_of" zbc ["W"] _ _:=⟨F_27,aH X G a_27,F_27.binds (ps:=["W"]) fun _ _ _ _ _ _ us hl=>by obtain⟨_,rfl⟩:=len1 hl;rfl⟩
 have F_5:=zaG (st:=zbn) l_5 c_5 k_5
 have D_5:Def K mg "_law_deck" zbn ["_law_cells","_law_many"] _ _:=⟨F_5,aH X G a_5,F_5.binds (ps:=["_law_cells","_law_many"]) fun _ _ _ _ _ _ us hl=>by obtain⟨_,_,rfl⟩:=zji hl;rfl⟩
 have F_8:=zaG (st:=zbr) l_8 c_8 k_8
 have D_8:Def K mg "_law_sign" zbr ["_law_turn","_law_number"] _ _:=⟨F_8,aH X G a_8,F_8.binds (ps:=["_law_turn","_law_number"]) fun _ _ _ _ _ _ us hl=>by obtain⟨_,_,rfl⟩:=zji hl;rfl⟩
 have F_6:=zaG (st:=zaL) l_6 c_6 k_6
 have D_6:Def K mg "_law_letters" zaL ["_law_deck_here","_law_many","_law_few","_law_turn"] _ _:=⟨F_6,aH X G a_6,F_6.binds (ps:=["_law_deck_here","_law_many","_law_few","_law_turn"]) fun _ _ _ _ _ _ us hl=>by obtain⟨_,_,_,_,rfl⟩:=len4 hl;rfl⟩
 have F_9:=zaG (st:=zaM) l_9 c_9 k_9
 have D_9:Def K mg "_law_slipped" zaM ["_law_deck_here","_law_word","_law_few","_law_turn"] _ _:=⟨F_9,aH X G a_9,F_9.binds (ps:=["_law_deck_here","_law_word","_law_few","_law_turn"]) fun _ _ _ _ _ _ us hl=>by obtain⟨_,_,_,_,rfl⟩:=len4 hl;rfl⟩
 have F_4:=zaG (st:=zbp) l_4 c_4 k_4
 have D_4:Def K mg "_law_case" zbp ["_law_deck_here"] _ _:=⟨F_4,aH X G a_4,F_4.binds (ps:=["_law_deck_here"]) fun _ _ _ _ _ _ us hl=>by obtain⟨_,rfl⟩:=len1 hl;rfl⟩
 have F_7:=zaG (st:=zbo) l_7 c_7 k_7
 have D_7:Def K mg "_law_lies" zbo ["_law_begin","_law_end","_law_kept"] _ _:=⟨F_7,aH X G a_7,F_7.binds (ps:=["_law_begin","_law_end","_law_kept"]) fun _ _ _ _ _ _ us hl=>by obtain⟨_,_,_,rfl⟩:=len3 hl;rfl⟩
 have F_3:=zaG (st:=zbb) l_3 c_3 k_3
 have D_3:Def K mg "_law_apart" zbb ["_law_kept","_law_many"] _ _:=⟨F_3,aH X G a_3,F_3.binds (ps:=["_law_kept","_law_many"]) fun _ _ _ _ _ _ us hl=>by obtain⟨_,_,rfl⟩:=zji hl;rfl⟩
 have F_24:=zaG (st:=zdZ) l_24 c_24 k_24
 have D_24:Def K mg "law" zdZ ["_law_script"] _ _:=⟨F_24,aH X G a_24,F_24.binds (ps:=["_law_script"]) fun _ _ _ _ _ _ us hl=>by obtain⟨_,rfl⟩:=len1 hl;rfl⟩
 have F_0:=zaG (st:=zax) l_0 c_0 k_0
 have D_0:MakeD K "Sight" zax "Sight.__init__" ["self","most"] _ _:=⟨.of F_0,fun C h=>by cases zdk a_Sight h;exact⟨m1_Sight,a_0,i_0,m2_Sight⟩,F_0.binds (ps:=["self","most"]) fun _ _ _ _ _ _ us hl=>by obtain⟨_,_,rfl⟩:=zji hl;rfl⟩
 have F_1:=zaG (st:=za7) l_1 c_1 k_1
 have D_1:MethD K "Sight" "come" za7 "Sight.come" ["self","price"] _ _:=⟨.of F_1,fun C h=>by cases zdk a_Sight h;exact⟨a_1,i_1,k_1⟩,F_1.binds (ps:=["self","price"]) fun _ _ _ _ _ _ us hl=>by obtain⟨_,_,rfl⟩:=zji hl;rfl⟩
 have F_2:=zaG (st:=za8) l_2 c_2 k_2
 have D_2:MethD K "Sight" "tell" za8 "Sight.tell" ["self"] _ _:=⟨.of F_2,fun C h=>by cases zdk a_Sight h;exact⟨a_2,i_2,k_2⟩,F_2.binds (ps:=["self"]) fun _ _ _ _ _ _ us hl=>by obtain⟨_,rfl⟩:=len1 hl;rfl⟩
 have T:Txt w K mg:={ m_int:=b8 X G z_int,m_len:=b8 X G z_len,m_list:=b8 X G z_list,m_max:=b8 X G z_max,m_min:=b8 X G z_min,m_range:=b8 X G z_range,m_reversed:=b8 X G z_reversed,m_sorted:=b8 X G z_sorted,m_sum:=b8 X G z_sum,m_tuple:=b8 X G z_tuple,g_PUT:=⟨_,aH X G q_PUT,⟨_,rfl⟩⟩,g_LEFT:=⟨_,aH X G q_LEFT,⟨_,rfl⟩⟩,g_EXCHANGED:=⟨_,aH X G q_EXCHANGED,⟨_,rfl⟩⟩,g_TURNED:=⟨_,aH X G q_TURNED,⟨_,rfl⟩⟩,t_CLASSES_USED:=⟨_,aH X G q_CLASSES_USED,zh2 l_CLASSES_USED c_CLASSES_USED m_CLASSES_USED⟩,t_SIGNS_USED:=⟨_,aH X G q_SIGNS_USED,zh2 l_SIGNS_USED c_SIGNS_USED m_SIGNS_USED⟩,t_PLACE_IN_PRICES:=⟨_,aH X G q_PLACE_IN_PRICES,zh2 l_PLACE_IN_PRICES c_PLACE_IN_PRICES m_PLACE_IN_PRICES⟩,k_CLASSES_USED:=⟨_,aH X G q_CLASSES_USED,keysK_of l_CLASSES_USED c_CLASSES_USED m_CLASSES_USED h_CLASSES_USED (by decide)⟩,c_Sight:=⟨_,DC_Sight⟩,d_kept_by_parts:=⟨_,_,D_21⟩,d_kept_by_counts:=⟨_,_,D_20⟩,d_kept_by_pieces:=⟨_,_,D_22⟩,d_places_of:=⟨_,_,D_28⟩,d_windows:=⟨_,_,D_37⟩,d_times_of_pieces:=⟨_,_,D_36⟩,d_number_shared:=⟨_,_,D_26⟩,d_joined:=⟨_,_,D_19⟩,d_cells_of:=⟨_,_,D_12⟩,d_row_across:=⟨_,_,D_31⟩,d_first_column:=⟨_,_,D_15⟩,d_further_column:=⟨_,_,D_17⟩,d_cell_ahead_of_turn:=⟨_,_,D_11⟩,d_stepped:=⟨_,_,D_34⟩,d_lowest:=⟨_,_,D_25⟩,d_row_between:=⟨_,_,D_32⟩,d_last_step:=⟨_,_,D_23⟩,d_comes_last:=⟨_,_,D_13⟩,d_can_stand:=⟨_,_,D_10⟩,d_is_done:=⟨_,_,D_18⟩,d_step_price:=⟨_,_,D_33⟩,d_ends_in:=⟨_,_,D_14⟩,d_stretch_at:=⟨_,_,D_35⟩,d_prices_at_ends:=⟨_,_,D_29⟩,d_prices_by_length:=⟨_,_,D_30⟩,d_first_lowest:=⟨_,_,D_16⟩,d_pattern_of:=⟨_,_,D_27⟩,d__law_deck:=⟨_,_,D_5⟩,d__law_sign:=⟨_,_,D_8⟩,d__law_letters:=⟨_,_,D_6⟩,d__law_slipped:=⟨_,_,D_9⟩,d__law_case:=⟨_,_,D_4⟩,d__law_lies:=⟨_,_,D_7⟩,d__law_apart:=⟨_,_,D_3⟩,d_Sight___init__:=⟨_,_,D_0⟩,d_Sight_come:=⟨_,_,D_1⟩,d_Sight_tell:=⟨_,_,D_2⟩}
 exact⟨aK "law" "law" (zai zdZ) (zag zdZ) (zad zdZ) .none kV_24 dc_24 pm_24 an_24 cd_24 ct_24,fun s v=>.of_eq rfl,fun base _ _=>(ok_law T (.of F_24)).imp fun _ _ _ _ h=>sp_law h⟩
theorem walk{l:gI}{q:aR}{loose:List Str}{XP:(Str->Option ae)->ba->Prop}{YP:aU->ba->Prop}{d:DefRec}{K:Params->ag}(hn:l.most=aa 63)(hdf:d.params.defaults=[])
  (hY:∀ (w:aU) (h:ba),YP w h->(K w.params).In h)
  (F:∀ (w:aU) (mg:Str->Option ae) (fa:af) (h:ba),(K w.params).In h->h.Ns av mg->mg d.name=aa (.ref fa) ->
   ∃ fd:bD,(∀ (s:ah) (u:ae),BindsTo s fd ⟨[u],[]⟩ [("_law_script",u)])/\∀ base:ba,(K w.params).In base->base.Ns av mg->FnOk l.prog w (K w.params) mg base CX0 7 fa fd ["_law_script"] (spLaw (K w.params))) :
  jx q loose XP YP l.row.toRowW d [] (fun f vs=>jf f vs):=
 L2.walk_of (n:=63) (k:=7) (x:= "_law_script") (CX:=fun _=>CX0) (sp:=fun w=>spLaw (K w.params)) hn (by decide) hdf ⟨rfl,by decide,by decide⟩ hY F (fun _ _ a ns hl _ hS=>⟨a,ns,rfl,hS,hl,fun _=>rfl⟩) fun _ _ _ _ _ z=>z
end N44
open PySem PySem.W PyProof.Rows
set_option maxRecDepth 100000 in
set_option maxHeartbeats 0 in
theorem PySem.Challenge.cw_nearfind_k44_whole_nothing_lost_holds : PySem.Challenge.rw_nearfind_k44_whole_nothing_lost.Holds := by
 refine holds_law (by kernel_rfl) fun said=>?_
 refine holds_open (q:=TopH.topView) (loose:=TopH.topLoose) (Xt:=fun s=>recOk (jO TopH.topRow) s) (XP:=fun _ _=>True) (Yf:=TopH.topHook.obs) (Ya:=TopH.topHook.val) (YP:=TopH.topHook.says) (N:=12000) TopH.topLeft TopH.topHook.of TopH.topHook.keeps (fun _ _=>trivial) (fun _ _ _ _ _=>trivial) (by rfl) (by rfl) (by rfl) (fun s e=>recFacts_of e) (by rfl) (by assumption) (by decide +kernel) ⟨rfl,rfl,rfl,rfl,rfl,by decide +kernel⟩ ?hw ?hc
 (case hw=>w_witness2)
 unfold TopH.topHook
 k_fill
 refine N44.walk (l:=PySem.Challenge.rw_nearfind_k44_whole_nothing_lost) rfl rfl (fun w h Y=>PySem.W.kIn_of Y) ?F
 case F=>
  intro w mg fa h KX G hmg
  refine' N44.all_mk KX G hmg ?a_Sight ?p1_Sight ?p2_Sight ?p3_Sight ?p4_Sight ?n_Sight_most ?n_Sight_end ?n_Sight_pairs ?m1_Sight ?m2_Sight ?a_21 ?l_21 ?c_21 ?k_21 ?a_20 ?l_20 ?c_20 ?k_20 ?a_22 ?l_22 ?c_22 ?k_22 ?a_28 ?l_28 ?c_28 ?k_28 ?a_37 ?l_37 ?c_37 ?k_37 ?a_36 ?l_36 ?c_36 ?k_36 ?a_26 ?l_26 ?c_26 ?k_26 ?a_19 ?l_19 ?c_19 ?k_19 ?a_12 ?l_12 ?c_12 ?k_12 ?e_12 ?a_31 ?l_31 ?c_31 ?k_31 ?a_15 ?l_15 ?c_15 ?k_15 ?a_17 ?l_17 ?c_17 ?k_17 ?a_11 ?l_11 ?c_11 ?k_11 ?a_34 ?l_34 ?c_34 ?k_34 ?a_25 ?l_25 ?c_25 ?k_25 ?a_32 ?l_32 ?c_32 ?k_32 ?a_23 ?l_23 ?c_23 ?k_23 ?a_13 ?l_13 ?c_13 ?k_13 ?a_10 ?l_10 ?c_10 ?k_10 ?a_18 ?l_18 ?c_18 ?k_18 ?a_33 ?l_33 ?c_33 ?k_33 ?a_14 ?l_14 ?c_14 ?k_14 ?a_35 ?l_35 ?c_35 ?k_35 ?a_29 ?l_29 ?c_29 ?k_29 ?a_30 ?l_30 ?c_30 ?k_30 ?a_16 ?l_16 ?c_16 ?k_16 ?a_27 ?l_27 ?c_27 ?k_27 ?a_5 ?l_5 ?c_5 ?k_5 ?a_8 ?l_8 ?c_8 ?k_8 ?a_6 ?l_6 ?c_6 ?k_6 ?a_9 ?l_9 ?c_9 ?k_9 ?a_4 ?l_4 ?c_4 ?k_4 ?a_7 ?l_7 ?c_7 ?k_7 ?a_3 ?l_3 ?c_3 ?k_3 ?a_24 ?l_24 ?c_24 ?k_24 ?a_0 ?l_0 ?c_0 ?k_0 ?i_0 ?a_1 ?l_1 ?c_1 ?k_1 ?i_1 ?a_2 ?l_2 ?c_2 ?k_2 ?i_2 ?z_int ?z_len ?z_list ?z_max ?z_min ?z_range ?z_reversed ?z_sorted ?z_sum ?z_tuple ?q_PUT ?q_LEFT ?q_EXCHANGED ?q_TURNED ?q_CLASSES_USED ?l_CLASSES_USED ?c_CLASSES_USED ?m_CLASSES_USED ?q_SIGNS_USED ?l_SIGNS_USED ?c_SIGNS_USED ?m_SIGNS_USED ?q_PLACE_IN_PRICES ?l_PLACE_IN_PRICES ?c_PLACE_IN_PRICES ?m_PLACE_IN_PRICES ?h_CLASSES_USED
  (case a_Sight=>k_is)
  (case p1_Sight=>k_is)
  (case p2_Sight=>k_is)
  (case p3_Sight=>k_is)
  (case p4_Sight=>k_is)
  (case n_Sight_most=>k_is)
  (case n_Sight_end=>k_is)
  (case n_Sight_pairs=>k_is)
  (case m1_Sight=>k_is)
  (case m2_Sight=>k_is)
  (case a_21=>k_is)
  (case l_21=>k_is)
  (case c_21=>k_is)
  (case k_21=>k_is)
  (case a_20=>k_is)
  (case l_20=>k_is)
  (case c_20=>k_is)
  (case k_20=>k_is)
  (case a_22=>k_is)
  (case l_22=>k_is)
  (case c_22=>k_is)
  (case k_22=>k_is)
  (case a_28=>k_is)
  (case l_28=>k_is)
  (case c_28=>k_is)
  (case k_28=>k_is)
  (case a_37=>k_is)
  (case l_37=>k_is)
  (case c_37=>k_is)
  (case k_37=>k_is)
  (case a_36=>k_is)
  (case l_36=>k_is)
  (case c_36=>k_is)
  (case k_36=>k_is)
  (case a_26=>k_is)
  (case l_26=>k_is)
  (case c_26=>k_is)
  (case k_26=>k_is)
  (case a_19=>k_is)
  (case l_19=>k_is)
  (case c_19=>k_is)
  (case k_19=>k_is)
  (case a_12=>k_is)
  (case l_12=>k_is)
  (case c_12=>k_is)
  (case k_12=>k_is)
  (case e_12=>exact⟨_,_,_,rfl,by k_is,rfl⟩)
  (case a_31=>k_is)
  (case l_31=>k_is)
  (case c_31=>k_is)
  (case k_31=>k_is)
  (case a_15=>k_is)
  (case l_15=>k_is)
  (case c_15=>k_is)
  (case k_15=>k_is)
  (case a_17=>k_is)
  (case l_17=>k_is)
  (case c_17=>k_is)
  (case k_17=>k_is)
  (case a_11=>k_is)
  (case l_11=>k_is)
  (case c_11=>k_is)
  (case k_11=>k_is)
  (case a_34=>k_is)
  (case l_34=>k_is)
  (case c_34=>k_is)
  (case k_34=>k_is)
  (case a_25=>k_is)
  (case l_25=>k_is)
  (case c_25=>k_is)
  (case k_25=>k_is)
  (case a_32=>k_is)
  (case l_32=>k_is)
  (case c_32=>k_is)
  (case k_32=>k_is)
  (case a_23=>k_is)
  (case l_23=>k_is)
  (case c_23=>k_is)
  (case k_23=>k_is)
  (case a_13=>k_is)
  (case l_13=>k_is)
  (case c_13=>k_is)
  (case k_13=>k_is)
  (case a_10=>k_is)
  (case l_10=>k_is)
  (case c_10=>k_is)
  (case k_10=>k_is)
  (case a_18=>k_is)
  (case l_18=>k_is)
  (case c_18=>k_is)
  (case k_18=>k_is)
  (case a_33=>k_is)
  (case l_33=>k_is)
  (case c_33=>k_is)
  (case k_33=>k_is)
  (case a_14=>k_is)
  (case l_14=>k_is)
  (case c_14=>k_is)
  (case k_14=>k_is)
  (case a_35=>k_is)
  (case l_35=>k_is)
  (case c_35=>k_is)
  (case k_35=>k_is)
  (case a_29=>k_is)
  (case l_29=>k_is)
  (case c_29=>k_is)
  (case k_29=>k_is)
  (case a_30=>k_is)
  (case l_30=>k_is)
  (case c_30=>k_is)
  (case k_30=>k_is)
  (case a_16=>k_is)
  (case l_16=>k_is)
  (case c_16=>k_is)
  (case k_16=>k_is)
  (case a_27=>k_is)
  (case l_27=>k_is)
  (case c_27=>k_is)
  (case k_27=>k_is)
  (case a_5=>k_is)
  (case l_5=>k_is)
  (case c_5=>k_is)
  (case k_5=>k_is)
  (case a_8=>k_is)
  (case l_8=>k_is)
  (case c_8=>k_is)
  (case k_8=>k_is)
  (case a_6=>k_is)
  (case l_6=>k_is)
  (case c_6=>k_is)
  (case k_6=>k_is)
  (case a_9=>k_is)
  (case l_9=>k_is)
  (case c_9=>k_is)
  (case k_9=>k_is)
  (case a_4=>k_is)
  (case l_4=>k_is)
  (case c_4=>k_is)
  (case k_4=>k_is)
  (case a_7=>k_is)
  (case l_7=>k_is)
  (case c_7=>k_is)
  (case k_7=>k_is)
  (case a_3=>k_is)
  (case l_3=>k_is)
  (case c_3=>k_is)
  (case k_3=>k_is)
  (case a_24=>k_is)
  (case l_24=>k_is)
  (case c_24=>k_is)
  (case k_24=>k_is)
  (case a_0=>k_is)
  (case l_0=>k_is)
  (case c_0=>k_is)
  (case k_0=>k_is)
  (case i_0=>k_is)
  (case a_1=>k_is)
  (case l_1=>k_is)
  (case c_1=>k_is)
  (case k_1=>k_is)
  (case i_1=>k_is)
  (case a_2=>k_is)
  (case l_2=>k_is)
  (case c_2=>k_is)
  (case k_2=>k_is)
  (case i_2=>k_is)
  (case z_int=>k_is)
  (case z_len=>k_is)
  (case z_list=>k_is)
  (case z_max=>k_is)
  (case z_min=>k_is)
  (case z_range=>k_is)
  (case z_reversed=>k_is)
  (case z_sorted=>k_is)
  (case z_sum=>k_is)
  (case z_tuple=>k_is)
  (case q_PUT=>k_is)
  (case q_LEFT=>k_is)
  (case q_EXCHANGED=>k_is)
  (case q_TURNED=>k_is)
  (case q_CLASSES_USED=>k_is)
  (case l_CLASSES_USED=>k_is)
  (case c_CLASSES_USED=>unfold L2.RowsK;kernel_rfl)
  (case m_CLASSES_USED=>kernel_rfl)
  (case q_SIGNS_USED=>k_is)
  (case l_SIGNS_USED=>k_is)
  (case c_SIGNS_USED=>unfold L2.RowsK;kernel_rfl)
  (case m_SIGNS_USED=>kernel_rfl)
  (case q_PLACE_IN_PRICES=>k_is)
  (case l_PLACE_IN_PRICES=>k_is)
  (case c_PLACE_IN_PRICES=>unfold L2.RowsK;kernel_rfl)
  (case m_PLACE_IN_PRICES=>kernel_rfl)
  (case h_CLASSES_USED=>kernel_rfl)
#print axioms PySem.Challenge.cw_nearfind_k44_whole_nothing_lost_holds


