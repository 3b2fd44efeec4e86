import PyProof.Rows.All
import Wide.All
import OpenK.AllK
import Wide.FinOn
import Lean
import PyProof.EqAt
import PyProof.EqKinds
import PyProof.TupleCall
import PyProof.NeKinds
import PyProof.SetNew
import PyProof.SetRoads
import PyProof.Rows.SetFrom
import PyProof.CollectStr
import PyProof.ZipIter
import PyProof.Rows.StrNews2
import PyProof.Rows.StrCut
import KE.KRevIter
import PyProof.MaxThree
import KE.KDictSum
import KE.KEqDict
import KE.KDictOf
import PyProof.AttrMissHeap
import PySem.Challenge.RW_nearfind_k53_whole_nearest_any_order
open Array renaming length_toList->cq,mem_toList_iff->c8,getElem?_toList->dM,toList_zip->eN,eq_empty_of_size_eq_zero->eY,toList_append->fF,getD_eq_getD_getElem?->fS,getElem?_eq_some_iff->f6,perm_iff_toList_perm->f9,toList_push->gg,getElem_mem->gj,replicate->gW,toArray_toList->ip,getElem_toList->iq,toList_inj->jd,toList->jX
open Bool renaming false_ne_true->aQ,false_eq_true->bx,and_eq_true->de,not_true->eM,and_eq_false_imp->eQ,eq_iff_iff->eU,or_eq_false_iff->eZ,and_false->fJ,and_true->f7,not_eq_true'->gh,or_eq_true_iff->iA,or_true->iP,false_and->ju,or_false->jD
open Classical renaming propDecidable->km
open Decidable renaming byContradiction->jU
open False renaming elim->cc
open ForInStep renaming yield->eX
open Int renaming toNat_natCast->cO,natCast_nonneg->dD,emod_lt_of_pos->ef,eq_ofNat_of_zero_le->em,emod_nonneg->fw,le_refl->fN,ofNat->fU,fdiv_eq_ediv_of_nonneg->fY,ofNat_lt->ki
open Int.ofNat renaming inj->jJ
open List renaming mem_cons_of_mem->aj,length_map->al,mem_cons_self->am,length_cons->aw,range->ax,mem_cons->az,mem_append_right->aA,length_append->aC,getElem?_map->aD,getElem?_eq_getElem->aE,map_cons->aF,nodup_cons->aG,replicate->aJ,size_toArray->aU,append_nil->aY,getElem?_eq_some_iff->a9,getElem?_set->bf,mem_append_left->bg,mem_append->bj,length_nil->bm,mem_singleton->bo,map_append->bz,getElem?_cons_succ->bA,append_assoc->bF,nodup_append->bG,mem_map->bH,map_nil->bK,lookup_cons->bV,not_mem_nil->bW,map_map->bY,length_range->bZ,lookup->cf,nil_append->cj,getElem?_range->cr,zip_cons_cons->cx,length_take->cz,getElem?_append_right->cA,eraseIdx_eq_take_drop_succ->cB,getElem?_append_left->cE,drop_eq_getElem_cons->cF,range_succ->cG,length_replicate->cH,getElem?_eq_none->cJ,getElem?_set_ne->cK,mem_of_getElem?->cL,getElem?_cons_zero->cM,replicate_succ->cR,getElem?_set_self->cT,all_eq_true->cW,cons_lt_cons_iff->cX,length->cY,foldl_cons->c9,length_dropLast->db,getElem?_replicate->dc,singleton_append->di,flatten_cons->dj,ext_getElem->dy,map_congr_left->dA,length_set->dC,filter_append->dE,range'->dG,find?_cons_of_pos->dH,find?_cons_of_neg->dI,eq_nil_of_length_eq_zero->dJ,length_filter_le->dO,drop_length->dR,isEmpty_nil->dS,length_eraseIdx_of_lt->dW,getD_eq_getElem?_getD->dX,rel_of_pairwise_cons->dZ,mem_filterMap->d5,getElem?_take_of_lt->d7,length_eq_zero_iff->ez,pairwise_mergeSort->eD,reverse_cons->eG,length_singleton->eP,eraseIdxIfInBounds_toArray->eT,length_zip->fg,range_zero->fq,eq_nil_iff_forall_not_mem->fz,mem_of_mem_take->fB,filterMap_cons->fD,mergeSort_perm->fG,filter_eq_self->fH,set_cons_zero->fV,all_cons->fZ,perm_ext_iff_of_nodup->ga,map_take->gb,filter_congr->gk,getElem?_eq_none_iff->gt,getLast?_eq_getElem?->gy,map_snd_zip->gA,take_length->gD,getElem_mem->gH,perm_middle->gI,cons_append->gJ,filter_cons->gN,of_mem_zip->gR,take_of_length_le->g8,range_succ_eq_map->g9,dropLast_eq_take->ib,drop_zero->ie,perm_append_comm->ii,countP_mono_left->ij,take_succ_cons->iC,length_reverse->iG,replicate_zero->iH,map_inj_right->iQ,set_set->iR,mergeSort_nil->iS,pairwise_map->iZ,map_id->i7,length_drop->i9,range'_succ->jc,countP_cons->je,le_antisymm->jg,mem_filter->ji,foldl->jk,forIn_cons->jm,mem_range->jt,forIn_nil->jv,take_zero->jw,lt_irrefl->jx,take_nil->jF,drop_nil->jG,not_lt->kF,map->lr
open List.Pairwise renaming of_cons->ig,map->i4,of_map->kL,nil->k8
open List.Perm renaming eq_of_pairwise->gL,append_left->ik,cons->jz
open List.cons renaming inj->lA
open Nat renaming le_refl->au,ne_of_lt->aR,lt_of_lt_of_le->bn,le_trans->bp,lt_irrefl->b8,le_succ->cg,zero_add->ck,zero_le->cm,lt_succ_self->cy,lt_succ_of_lt->cD,le_of_lt->dq,ne_of_gt->dr,le_of_eq->dv,add_sub_cancel->d9,lt_of_le_of_lt->fP,not_lt->gw,lt_trans->gz,min_self->gG,zero_lt_succ->gM,lt_of_succ_lt_succ->hG,add_le_add_left->iz,min_eq_right->jb,min_eq_left->jp,strongRecOn->js,add_comm->ka,sub_self->kl,mod_lt->kK
open Nat.succ renaming inj->iO
open Ne renaming symm->ce
open Option renaming some->aa,none->ab,bind_some->aL,map_some->bS,bind->cv,map_eq_some_iff->hV,getD_none->ja,none->kz
open Option.some renaming inj->aM,injEq->eH
open Or renaming inl->aK,inr->be
open Prod renaming fst->ly,ext->lz
open PyProof.Rows renaming wpS_bind->bI,callWith_type1->bP,wpS_pure->cn,wpS_forRange->d8,callWith_builtin1->eW,pendingOf->fT,callWith_kw->kc,len_mul->kM
open PyProof.Rows.SortSt renaming mk'->jq
open PySem renaming Value->ae,Addr->af,Shared->ah,wpAny_bind->ai,wpAny_pure->aq,wpAny->ay,mainGlobals->aI,Program->aN,bootBuiltins->aS,World->aV,Around->aX,sizeLine->aZ,starEach->ba,Heap->bd,compareOp->bu,FuncData->bw,sizeLine_eq->bC,wpAny_Call_Name_kw->bQ,wpAny_mono->bR,mem_of_lookup->bT,wpAny_holding->bU,foldedSetIterable->bX,attributeBase->b9,assignEach->dg,Within->iK,call->jl
open PySem.Around renaming under_plainId->bO,under->iM
open PySem.AutoListH renaming list___mul___list_int_3->i6
open PySem.Builtin.Builtins renaming bindParams->fQ
open PySem.Builtin.Dict renaming updateFrom->gP,pairItems->hU,selfAndRest->kj
open PySem.Builtin.Frozenset renaming updateFrom->fL,newClass->jI,addrOf->kg,sizeOf->kh,slot0->ko
open PySem.Builtin.List renaming listExtendWith->cQ,listTooLong->dw,listSameRef->dz,listLengthHint->dQ,listUpdate->gO,listItems->hJ,listTouch->kD
open PySem.Builtin.Range renaming rangeSize->ej
open PySem.Builtin.Str renaming strSliceIndices->cP,occurrences->ek,tooLong->jV
open PySem.Calls renaming call_function_entry->dY,spliced_cons->d6,spliced_nil->eF,Name_function_global->fW,callWith_builtin->g7
open PySem.Code renaming isFrame->iN,frames->ky
open PySem.Data renaming seq->ld
open PySem.DictEntry renaming refKey->lg
open PySem.EqMixed renaming eq_bool_str->jN,eq_str_bool->jO,ne_bool_str->jS,ne_str_bool->jT,eq_int_str->j1,eq_str_int->j3,ne_int_str->j7,ne_str_int->j9
open PySem.EqNone renaming eq_none_none->jK,eq_none_bool->jL,eq_bool_none->jM,ne_none_none->jP,ne_none_bool->jQ,ne_bool_none->jR,eq_none_int->jY,eq_none_str->jZ,eq_int_none->j0,eq_str_none->j2,ne_none_int->j4,ne_none_str->j5,ne_int_none->j6,ne_str_none->j8
open PySem.Expr renaming Call->jC
open PySem.F renaming plain_min_loop->b7,plainAttrs_list->cN,entry_min_loop->dF,slot_list_pop->eR,type_list_pop->eS,slot_list_append->gB,type_list_append->gC
open PySem.Heap renaming get?_push_of_some->ak,get?_push_size->aB,lt_size->aH,size_push->bL,get?_update_other->bN,get?_update_self->cI,SameBut->d4,size_update->eO,get?_update_ne->iF,get?_push_ne->iY
open PySem.Heap.DictOf renaming new->jn
open PySem.Heap.IsList renaming push->lm
open PySem.Heap.IsSliceOf renaming new->kY
open PySem.Heap.IsTuple renaming push->lb
open PySem.Heap.SameBut renaming update->iE
open PySem.IsL renaming update->lh
open PySem.IsRange renaming new->kx
open PySem.ItemsOf renaming nil->kE
open PySem.Moved renaming trans->kB
open PySem.NameKind renaming free->bD,cell->cV
open PySem.Obj renaming mapSeq->bJ,putSet->im
open PySem.Paired renaming length->iu
open PySem.PassesOwn renaming never->gX
open PySem.SeqAt renaming EqAt->gu
open PySem.SeqAt.EqAt renaming of_refs->fR,same->gT,int_str->iI,str_int->iJ,none_bool->kG,bool_none->kH,bool_bool->kI,none_int->kN,none_str->kO,bool_int->kP,bool_str->kQ,int_none->kR,int_bool->kS,str_none->kT,str_bool->kU,int_int->kZ,str_str->k4
open PySem.SeqAt.RcAt renaming lists_lengths->kf,tuples->k9,lists->lj
open PySem.SeqAt.RcNeAt renaming lists_lengths->jH,tuples->kW,lists->k6
open PySem.SetTable renaming below->dN
open PySem.SetTable.below renaming go->iX
open PySem.Shared renaming TypeIs->eJ
open PySem.Str renaming ofString->cS,length->jj,empty->jA
open PySem.StrLaws renaming strSliceIndices_plain->fC
open PySem.Txt renaming mul->fM,slice_le->gF,slice->jB
open PySem.Value renaming ref->br,str->cw,type->cU,int->dm,isStrOf->dU,none->ei,bool->gq,isStrOf_shape->iw,float->i5,isInt->kr,bytes->ku
open PySem.W renaming Frag->ag,nsIn->aO,keepIn->aP,codeIn->aT,fnOf->aW,mg_of->bc,findIn->bq,mg_none_of->bM,kia_one->cu,emptyDict->cC,instObj->cZ,isFn->dh,plainGet->du,hasDictIn->dL,plainOver->eE,makesIn->eV,plainGet_of->fE,lookIn->fI,callWith_K->fO,methodObj->gc,takerIn->gQ,OpenLaw->gU,binds_K->gY,cellsFrom_some->gZ,kitOne->hW,methodCall_KW->ia,callWith_K0->iy,specialIn->iU,kitx_list->iV,kitx_dict->iW,handedIn->i8,kat_cons->jf,kat_yes->jr,kat_no->jy,WalkO->jE
open PySem.W.Looks renaming here->kX
open PySem.W.RowW renaming records->jW
open PySem.W.WData renaming int->k5
open PySem.W.WShape renaming has->kJ
open PySem.Walks renaming list->jo
open PySem.Within renaming cons->k7
open Sum renaming inr->bB,inl->bE
open Sum.inr renaming inj->kt
open True renaming intro->dB
noncomputable section
namespace TopH
open PySem PySem.W PyProof.Rows
local macro_rules | `(tactic| o_head $H)=>`(tactic| (contradiction;exact $H))
set_option maxRecDepth 100000
set_option maxHeartbeats 0 in
noncomputable def topHook:Hook:=by
 refine(fun(_:False->PySem.Challenge.rw_nearfind_k53_whole_nearest_any_order.row.Holds)=>?H) ?g;rotate_left;intro _
 k_head
abbrev topProg:aN:=PySem.Challenge.pw_nearfind_k53_whole_nearest_any_order
noncomputable def topView:aN:=view topProg [34]
noncomputable def topLoose:List Str:=["PUT","LEFT","EXCHANGED","TURNED","cells_of","price_between","row_across","first_column","further_column","cell_ahead_of_turn","stepped","lowest","PLAIN_PRICES","pattern_of","Book","Knot","slips_between","hang","tree_from","knots_in_reach","_law_deck","_law_sign","_law_word","_law_words","_law_price","_law_due","_law_right","_law_grows","_law_turned","_law_between"].map cS
abbrev topRow:RowW:=OpenRow.toRowW (OpenLaw.row PySem.Challenge.rw_nearfind_k53_whole_nearest_any_order)
abbrev topAt(w:aV):Prop:=(openEnds treeTable topProg w 12000).map (fun s=>(openSeen topView topLoose (importedModules topProg.main.body) (fun s=>recOk (jW topRow) s) true s,topHook.obs s))=aa (openGood topView topLoose,topHook.val w)
theorem topLeft(w:aV):topAt w:=by kernel_rfl
end TopH
set_option Elab.async false
set_option linter.all false
set_option maxRecDepth 100000
namespace L2
open PySem PySem.Spec PyProof.Rows
abbrev Key:=Sum Int Str
def zgW:Key->ae->Bool
 | .inl k,v=>kr k v
 | .inr x,v=>dU x v
def keyH(w:aV):Key->Int
 | .inl k=>hashInt k
 | .inr x=>hashStr w x
def zaF:∀ {k:Key} {v:ae},zgW k v=true->(∃ i t,k=bE i/\v=dm i t) \/ (∃ x t,k=bB x/\v=cw x t)
 | .inl i,v,h=>by
  obtain⟨t,e⟩:=Value.isInt_shape (k:=i) (v:=v) h;exact .inl ⟨i,t,rfl,e⟩
 | .inr x,v,h=>by
  obtain⟨t,e⟩:=iw (x:=x) (v:=v) h;exact .inr ⟨x,t,rfl,e⟩
def keyIs_int(i:Int)(t:Tok):zgW (.inl i) (.int i t)=true:=by simp[zgW,kr]
def key_ll(a b:Int):decide ((bE a:Key)=bE b)=(a == b):=by
 by_cases e:a=b
 ·subst e;simp
 ·have h:¬ (bE a:Key)=bE b:=fun q=>e (Sum.inl.inj q);rw[decide_eq_false h];exact(beq_eq_false_iff_ne.mpr e).symm
def key_rr(a b:Str):decide ((bB a:Key)=bB b)=decide (a=b):=by
 by_cases e:a=b
 ·subst e;simp
 ·have h:¬ (bB a:Key)=bB b:=fun q=>e (kt q);rw[decide_eq_false h,decide_eq_false e]
def key_lr(a:Int)(b:Str):decide ((bE a:Key)=bB b)=false:=decide_eq_false (fun q=>nomatch q)
def key_rl(a:Str)(b:Int):decide ((bB a:Key)=bE b)=false:=decide_eq_false (fun q=>nomatch q)
def zbd(prog:aN)(w:aV):PySem.KeyKind prog w Key where
 is:=zgW
 hash:=keyH w
 inj:=fun v a b ha hb=>by
  rcases zaF ha with ⟨i,t,rfl,rfl⟩ | ⟨x,t,rfl,rfl⟩
  ·rcases zaF hb with ⟨j,u,rfl,e⟩ | ⟨y,u,rfl,e⟩
   ·injection e with e1 _;rw[e1]
   ·exact nomatch e
  ·rcases zaF hb with ⟨j,u,rfl,e⟩ | ⟨y,u,rfl,e⟩
   ·exact nomatch e
   ·injection e with e1 _;rw[e1]
 byValue:=fun k v h=>by
  rcases zaF h with ⟨i,t,rfl,rfl⟩ | ⟨x,t,rfl,rfl⟩ <;> rfl
 pyHash:=fun hv h=>by
  rcases zaF hv with ⟨i,t,rfl,rfl⟩ | ⟨x,t,rfl,rfl⟩
  ·exact wpAny_pyHash_int h
  ·exact wpAny_pyHash_str h
 eqBool:=fun hu hv h=>by
  rcases zaF hu with ⟨i,t,rfl,rfl⟩ | ⟨x,t,rfl,rfl⟩
  ·rcases zaF hv with ⟨j,u,rfl,rfl⟩ | ⟨y,u,rfl,rfl⟩
   ·rw[key_ll] at h;exact wpAny_eqBool_int h
   ·rw[key_lr] at h;exact iI i t y u _ _ _ _ h
  ·rcases zaF hv with ⟨j,u,rfl,rfl⟩ | ⟨y,u,rfl,rfl⟩
   ·rw[key_rl] at h;exact iJ x t j u _ _ _ _ h
   ·rw[key_rr] at h;exact wpAny_eqBool_str h
 «strs» :=fun k x t v h=>by
  rcases zaF h with ⟨i,u,rfl,e⟩ | ⟨y,u,rfl,e⟩
  ·exact nomatch e
  ·injection e with e1 _;subst e1;cases v <;> rfl
end L2
namespace L2
open PySem PySem.Spec PyProof.Rows
inductive V where
 | non | bl (b:Bool) | int (i:Int) | str (x:Str) | byt (b:Array UInt8) | flt (b:UInt64) | ref (a:af) | ty (n:String)
 deriving DecidableEq
def RelV:V->ae->Prop
 | .non,u=>u=ei
 | .bl b,u=>u=gq b
 | .int i,u=>∃ t,u=dm i t
 | .str x,u=>∃ t,u=cw x t
 | .byt b,u=>∃ t,u=ku b t
 | .flt b,u=>∃ t,u=i5 b t
 | .ref a,u=>u=br a
 | .ty n,u=>u=cU n
abbrev Vals:List V->List ae->Prop:=Paired RelV
def Vals.length{xs:List V}{us:List ae}(r:Vals xs us):xs.length=us.length:=iu r
def Vals.get:∀ {xs:List V} {us:List ae} {i:Nat} {x:V},Vals xs us->xs[i]? = aa x->∃ u,us[i]? = aa u/\RelV x u
 | _,_,_,_,.nil,e=>by simp at e
 | _,_,0,_,.cons r _,e=>by simp at e;subst e;exact⟨_,rfl,r⟩
 | _,_,i+1,x,.cons _ t,e=>by
  obtain⟨u,h1,h2⟩:=Vals.get (i:=i) (x:=x) t (by simpa using e);exact⟨u,by simpa using h1,h2⟩
def Vals.set{x:V}{u:ae}(r:RelV x u):∀ {xs:List V} {us:List ae} (i:Nat),Vals xs us->Vals (xs.set i x) (us.set i u)
 | _,_,_,.nil=>.nil
 | _,_,0,.cons _ t=>.cons r t
 | _,_,i+1,.cons q t=>.cons q (Vals.set r i t)
def Vals.append:∀ {xs ys:List V} {us ws:List ae},Vals xs us->Vals ys ws->Vals (xs ++ ys) (us ++ ws)
 | _,_,_,_,.nil,s=>s
 | _,_,_,_,.cons r t,s=>.cons r (Vals.append t s)
def Vals.take:∀ {xs:List V} {us:List ae} (n:Nat),Vals xs us->Vals (xs.take n) (us.take n)
 | _,_,0,_=>.nil
 | _,_,_+1,.nil=>.nil
 | _,_,n+1,.cons r t=>.cons r (Vals.take n t)
def Vals.drop:∀ {xs:List V} {us:List ae} (n:Nat),Vals xs us->Vals (xs.drop n) (us.drop n)
 | _,_,0,r=>r
 | _,_,_+1,.nil=>.nil
 | _,_,n+1,.cons _ t=>Vals.drop n t
def Vals.none_of:∀ {xs:List V} {us:List ae} {i:Nat},Vals xs us->xs[i]? = ab->us[i]? = ab:=fun {xs us i} r e=>by
 have h1:=r.length;have h2:xs.length<=i:=gt.mp e;exact gt.mpr (by lia)
def RelO:Option V->Option ae->Prop
 | some v,aa u=>RelV v u
 | none,ab=>True
 | _,_=>False
def KV{κ:Type}:List (κ × V)->List (κ × ae)->Prop:=Paired fun(p:κ × V) (q:κ × ae)=>p.1=q.1/\RelV p.2 q.2
def kV:Key->V
 | .inl i=>.int i
 | .inr x=>.str x
inductive HO where
  | lst (xs:List V)
  | tup (xs:List V)
  | dK (kvs:List (Key × V)) | dT (kvs:List (List Key × V))
  | set (S:Int->Bool) (n:Nat)
  | ins (C dx:af) (fs:List (Str × V))
  | own (x:af)
  | xd (fs:List (Str × V))
  | met (f x:af)
  | rng (lo hi:Int)
  | frz (o:Obj) (u:HO)
  | tbl (ps:Array ae)
  | ext (φ:bd->Prop)
abbrev Hp:=af->Option HO
def upd(H:Hp)(a:af)(o:HO):Hp:=fun b=>if b=a then aa o else H b
def zai{H:Hp}{a:af}{o:HO}:upd H a o a=aa o:=by unfold upd;rw[if_pos rfl]
def zam{H:Hp}{a b:af}{o:HO}(h:b ≠ a):upd H a o b=H b:=by unfold upd;rw[if_neg h]
def upd_upd{H:Hp}{a:af}{o u:HO}:upd (upd H a o) a u=upd H a u:=by
 funext b;unfold upd;split <;> rfl
def zaD{H:Hp}{a b:af}{o:HO}(h:H a=aa o)(h':H b=ab):a ≠ b:=by
 intro e;subst e;rw[h] at h';cases h'
section
variable (P:aN)(w:aV)
def TupN(h:bd)(a:af)(ts:Array ae):Prop:=∃ o,h.get? a=aa o/\o.cls=.type "tuple" /\ ∃ n,(o.data,o.dict)=(ld ts n,ab)
def TupN.is{h:bd}{a:af}{ts:Array ae}(x:TupN h a ts):IsTup h a ts:=let⟨o,e,c,n,d⟩:=x;⟨o,e,c,n,(Prod.mk.inj d).1⟩
def TupN.lt{h:bd}{a:af}{ts:Array ae}(x:TupN h a ts):a<h.objs.size:=x.is.lt
def TupN.new(h:bd)(ts:Array ae):TupN (h.push { cls:=.type "tuple",data:=.seq ts}) h.objs.size ts:=⟨_,aB _ rfl,rfl,0,rfl⟩
instance {h:bd}{a:af}{ts:Array ae}:Coe (TupN h a ts) (IsTup h a ts):=⟨TupN.is⟩
def ObjOk(H:Hp)(h:bd)(a:af):HO->Prop
 | .lst xs=>xs.length<=aZ/\∃ (its:List ae) (n:Nat),Vals xs its/\h.get? a=aa { cls:=.type "list",data:=.seq its.toArray n}
 | .tup xs=>xs.length<=aZ/\∃ its:List ae,Vals xs its/\TupN h a its.toArray
 | .dK kvs=>kvs.length<=aZ/\(a == sysModules)=false/\∃ vs,KV kvs vs/\h.DictOf (zbd P w) a vs
 | .dT kvs=>kvs.length<=aZ/\(a == sysModules)=false/\∃ xs:List (List Key × af × ae),
   Paired (fun(p:List Key × V) (q:List Key × af × ae)=>p.1=q.1/\H q.2.1=aa (.tup (p.1.map kV))/\RelV p.2 q.2.2) kvs xs /\
   ∃ o es ep,h.get? a=aa o/\o.ExactDict/\o.data=.dict es ep/\es.toList=xs.map (entryOfKey (tupleKind (zbd P w)))/\(xs.map (·.1)).Nodup
 | .set S n=>h.SetOf (intKind P w) a S n
 | .ins C dx fs=>H dx=aa (.own a)/\fs.length<=1000/\dx ≠ a/\h.get? a=aa (cZ C dx) /\
   ∃ mA,h.Ns1 dx mA/\(∀ f,RelO (fs.lookup f) (mA f))/\iK mA (fs.map (·.1))
 | .own _=>∃ o,h.get? a=aa o
 | .xd fs=>∃ mA,h.Ns1 a mA/\∀ f,RelO (fs.lookup f) (mA f)
 | .rng lo hi=>∃ t u v,h.get? a=aa { cls:=.type "range",data:=.fields #[.int lo t,.int hi u,.int 1 v]}
 | .frz o u=>h.get? a=aa o/\ObjOk H h a u
 | .tbl ps=>h.get? a=aa { cls:=.none,data:=.fields ps}
 | .met f x=>h.get? a=aa (gc (.ref f) (.ref x))
 | .ext φ=>φ h/\(∃ o,h.get? a=aa o)/\∀ h1 h2:bd,φ h1->(∀ o,h1.get? a=aa o->h2.get? a=aa o)->φ h2
def HOk(H:Hp)(h:bd):Prop:=∀ a o,H a=aa o->ObjOk P w H h a o
end
section
variable {P:aN}{w:aV}{H H':Hp}{h h':bd}{a:af}{o:HO}
def ObjOk.lt(x:ObjOk P w H h a o):a<h.objs.size:=by
 cases o with
 | lst xs=>obtain⟨_,_,_,_,e⟩:=x;exact aH e
 | tup xs=>obtain⟨_,_,_,p⟩:=x;exact p.lt
 | dK kvs=>obtain⟨_,_,_,_,o,_,_,e,_⟩:=x;exact aH e
 | dT kvs=>obtain⟨_,_,_,_,o,_,_,e,_⟩:=x;exact aH e
 | set S n=>obtain⟨o,_,_,_,e,_⟩:=x;exact aH e
 | ins C dx fs=>obtain⟨_,_,_,e,_⟩:=x;exact aH e
 | own y=>obtain⟨_,e⟩:=x;exact aH e
 | xd fs=>obtain⟨_,⟨_,_,_,e,_⟩,_⟩:=x;exact aH e
 | rng lo hi=>obtain⟨_,_,_,e⟩:=x;exact aH e
 | frz ob u=>obtain⟨e,_⟩:=x;exact aH e
 | tbl ps=>exact aH (show h.get? a=aa _ from x)
 | met f y=>exact aH (show h.get? a=aa _ from x)
 | ext φ=>obtain⟨_,⟨_,e⟩,_⟩:=x;exact aH e
def Paired.mapP{α β:Type}{F G:α->β->Prop}:∀ {l₁:List α} {l₂:List β},Paired F l₁ l₂->(∀ a b,F a b->G a b)->Paired G l₁ l₂
 | _,_,.nil,_=>.nil
 | _,_,.cons r t,f=>.cons (f _ _ r) (Paired.mapP t f)
def ObjOk.stay(x:ObjOk P w H h a o)(k:∀ b u,(b=a \/ H b=aa (.own a))->h.get? b=aa u->h'.get? b=aa u)
  (ho:∀ b,H b=aa (.own a)->H' b=aa (.own a)) (ht:∀ b xs,H b=aa (.tup xs)->H' b=aa (.tup xs)):ObjOk P w H' h' a o:=by
 induction o with
 | lst xs=>obtain⟨z,its,n,r,e⟩:=x;exact⟨z,its,n,r,k _ _ (.inl rfl) e⟩
 | tup xs=>obtain⟨z,its,r,ob,e,c⟩:=x;exact⟨z,its,r,ob,k _ _ (.inl rfl) e,c⟩
 | dK kvs=>obtain⟨z,y,vs,r,ob,es,ep,e,c⟩:=x;exact⟨z,y,vs,r,ob,es,ep,k _ _ (.inl rfl) e,c⟩
 | dT kvs=>
  obtain⟨z,y,xs,r,ob,es,ep,e,c⟩:=x;exact⟨z,y,xs,Paired.mapP r fun p q z=>⟨z.1,ht _ _ z.2.1,z.2.2⟩,ob,es,ep,k _ _ (.inl rfl) e,c⟩
 | set S n=>obtain⟨ob,es,ep,t,e,c⟩:=x;exact⟨ob,es,ep,t,k _ _ (.inl rfl) e,c⟩
 | ins C dx fs=>
  obtain⟨d,z,ne,e,mA,⟨od,es,ep,e2,c⟩,r⟩:=x;exact⟨ho _ d,z,ne,k _ _ (.inl rfl) e,mA,⟨od,es,ep,k _ _ (.inr d) e2,c⟩,r⟩
 | own y=>obtain⟨ob,e⟩:=x;exact⟨ob,k _ _ (.inl rfl) e⟩
 | xd fs=>obtain⟨mA,⟨od,es,ep,e,c⟩,r⟩:=x;exact⟨mA,⟨od,es,ep,k _ _ (.inl rfl) e,c⟩,r⟩
 | rng lo hi=>obtain⟨t,u,v,e⟩:=x;exact⟨t,u,v,k _ _ (.inl rfl) e⟩
 | frz ob u ih=>obtain⟨e,q⟩:=x;exact⟨k _ _ (.inl rfl) e,ih q⟩
 | tbl ps=>
  have e:h.get? a=aa { cls:=.none,data:=.fields ps}:=x;show h'.get? a=aa { cls:=.none,data:=.fields ps};exact k a _ (.inl rfl) e
 | met f y=>
  have e:h.get? a=aa (gc (.ref f) (.ref y)):=x;show h'.get? a=aa (gc (.ref f) (.ref y));exact k a _ (.inl rfl) e
 | ext φ=>obtain⟨p,⟨o,e⟩,st⟩:=x;exact⟨st _ _ p fun o q=>k _ _ (.inl rfl) q,⟨o,k _ _ (.inl rfl) e⟩,st⟩
def HOk.lt(x:HOk P w H h)(e:H a=aa o):a<h.objs.size:=(x a o e).lt
def HOk.fresh(x:HOk P w H h)(e:h.objs.size<=a):H a=ab:=by
 cases q:H a with
 | none=>rfl
 | some u=>exact absurd (bn (x.lt q) e) (b8 _)
def HOk.kept(x:HOk P w H h)(k:∀ b u,h.get? b=aa u->h'.get? b=aa u):HOk P w H h':=fun a o e=>
 (x a o e).stay (fun b u _ q=>k b u q) (fun _ q=>q) fun _ _ q=>q
def HOk.laid(x:HOk P w H h)(k:∀ b u,h.get? b=aa u->h'.get? b=aa u)(hp:h.objs.size<=a)(new:ObjOk P w (upd H a o) h' a o):HOk P w (upd H a o) h':=fun b u e=>by
 have hn:=x.fresh hp;by_cases hb:b=a
 ·subst hb;rw[zai] at e;cases e;exact new
 ·rw[zam hb] at e;exact(x b u e).stay (fun c v _ q=>k c v q) (fun c q=>by rw[zam (zaD q hn)];exact q) fun c xs q=>by rw[zam (zaD q hn)];exact q
end
def Rd(H:Hp)(a:af)(u:HO):Prop:=H a=aa u \/ ∃ o,H a=aa (.frz o u)
def Rd.of{H:Hp}{a:af}{u:HO}(h:H a=aa u):Rd H a u:=.inl h
def Rd.ok{P:aN}{w:aV}{H:Hp}{h:bd}{a:af}{u:HO}(r:Rd H a u)(x:HOk P w H h):ObjOk P w H h a u:=by
 rcases r with r | ⟨o,r⟩
 ·exact x a u r
 ·obtain⟨_,q⟩:=x a _ r;exact q
def Mut:Option HO->Prop
 | some (.lst _)=>True
 | some (.dK _)=>True
 | some (.dT _)=>True
 | some (.set _ _)=>True
 | some (.ins _ _ _)=>True
 | some (.ext _)=>True
 | _=>False
section
variable {P:aN}{w:aV}{H:Hp}{h h':bd}{x e:af}{o':HO}
def HOk.write(ok:HOk P w H h)(mu:Mut (H x))(he:e=x \/ H e=aa (.own x))(k:∀ b u,b ≠ e->h.get? b=aa u->h'.get? b=aa u)(heo:∃ u,h'.get? e=aa u)
  (new:ObjOk P w (upd H x o') h' x o'):HOk P w (upd H x o') h':=fun b u q=>by
 have nown:∀ c y,H c=aa (.own y)->c ≠ x:=fun c y r z=>by subst z;rw[r] at mu;exact mu
 have ntup:∀ c xs,H c=aa (.tup xs)->c ≠ x:=fun c xs r z=>by subst z;rw[r] at mu;exact mu
 by_cases hb:b=x
 ·subst hb;rw[zai] at q;cases q;exact new
 ·rw[zam hb] at q;by_cases hbe:b=e
  ·have q':H b=aa (.own x):=by
    rcases he with z | z
    ·exact absurd (hbe.trans z) hb
    ·rw[hbe];exact z
   rw[q] at q';cases q';obtain⟨v,hv⟩:=heo;exact⟨v,by rw[hbe];exact hv⟩
  ·refine(ok b u q).stay (fun c v hc r=>k c v ?_ r) (fun c r=>by rw[zam (nown c b r)];exact r) fun c xs r=>by rw[zam (ntup c xs r)];exact r
   rcases hc with rfl | hc
   ·exact hbe
   ·rintro rfl;rcases he with z | z
    ·exact nown c b hc z
    ·rw[hc] at z;cases z;exact hb rfl
end
structure Un(fs ex:List af)(H H':Hp)(h h':bd):Prop where
 keep:∀ b o,h.get? b=aa o->H b=ab->b ∉ fs->b ∉ ex->h'.get? b=aa o
 slot:∀ b o,h.get? b=aa o->H b=ab->b ∈ fs->b ∉ ex->∃ sl,h'.get? b=aa { o with slots:=sl}
 free:∀ b o,h.get? b=aa o->H b=ab->b ∉ ex->H' b=ab
 there:∀ b o,h.get? b=aa o->b ∉ ex->∃ o',h'.get? b=aa o'
 tups:∀ b xs,H b=aa (.tup xs)->H' b=aa (.tup xs)
 frzs:∀ b o u,H b=aa (.frz o u)->H' b=aa (.frz o u)
 tbls:∀ b ps,H b=aa (.tbl ps)->∃ more,H' b=aa (.tbl (ps ++ more))
section
variable {fs fs' ex ex':List af}{H H1 H2:Hp}{h h1 h2 h':bd}{a x e:af}{o:HO}
def Un.any(u:Un fs ex H H1 h h1){b:af}{ob:Obj}(q:h.get? b=aa ob)(n:H b=ab)(hx:b ∉ ex):∃ sl,h1.get? b=aa { ob with slots:=sl}:=by
 by_cases hb:b ∈ fs
 ·exact u.slot b ob q n hb hx
 ·exact⟨ob.slots,u.keep b ob q n hb hx⟩
def Un.kept(k:∀ b u,h.get? b=aa u->h'.get? b=aa u):Un fs ex H H h h':=
 ⟨fun b ob q _ _ _=>k b ob q,fun b ob q _ _ _=>⟨ob.slots,k b ob q⟩,fun _ _ _ n _=>n,fun b ob q _=>⟨ob,k b ob q⟩,fun _ _ q=>q,fun _ _ _ q=>q,fun _ ps q=>⟨#[],by rw[q];simp⟩⟩
def Un.refl:Un fs ex H H h h:=Un.kept fun _ _ q=>q
def Un.laid(k:∀ b u,h.get? b=aa u->h'.get? b=aa u)(hp:h.objs.size<=a)(hn:H a=ab):Un fs ex H (upd H a o) h h' where
 keep:=fun b u q _ _ _=>k b u q
 slot:=fun b u q _ _ _=>⟨u.slots,k b u q⟩
 free:=fun b u q n _=>by rw[zam (aR (bn (aH q) hp))];exact n
 there:=fun b u q _=>⟨u,k b u q⟩
 tups:=fun b xs q=>by rw[zam (zaD q hn)];exact q
 frzs:=fun b u xs q=>by rw[zam (zaD q hn)];exact q
 tbls:=fun b ps q=>⟨#[],by rw[zam (zaD q hn),q];simp⟩
def Un.write(mu:Mut (H x))(he:e=x \/ H e=aa (.own x))(k:∀ b u,b ≠ e->h.get? b=aa u->h'.get? b=aa u)(heo:∃ u,h'.get? e=aa u):Un fs ex H (upd H x o) h h':=by
 have hx:∀ b,H b=ab->b ≠ x:=fun b n z=>by subst z;rw[n] at mu;exact mu
 have hb:∀ b,H b=ab->b ≠ e:=fun b n z=>by
  subst z;rcases he with r | r
  ·exact hx b n r
  ·rw[n] at r;cases r
 have hm:∀ b u,H b=aa u->¬ Mut (aa u)->b ≠ x:=fun b u q nm z=>by subst z;rw[q] at mu;exact nm mu
 refine⟨fun b u q n _ _=>k b u (hb b n) q,fun b u q n _ _=>⟨u.slots,k b u (hb b n) q⟩,fun b u q n _=>by rw[zam (hx b n)];exact n,fun b u q _=>?_,
  fun b xs q=>by rw[zam (hm b _ q fun z=>z)];exact q,fun b u xs q=>by rw[zam (hm b _ q fun z=>z)];exact q,fun b ps q=>⟨#[],by rw[zam (hm b _ q fun z=>z),q];simp⟩⟩
 by_cases hbe:b=e
 ·subst hbe;exact heo
 ·exact⟨u,k b u hbe q⟩
end
def trk(h:bd)(H:Hp):List af:=(ax h.objs.size).filter fun a=>(H a).isSome
def hidT(h:bd)(H:Hp):bd:=PySem.W.hideAll h (trk h H)
def hidT_size(h:bd)(H:Hp):(hidT h H).objs.size=h.objs.size:=PySem.W.hideAll_size _ _
def hidT_get{h:bd}{H:Hp}{b:af}{o:Obj}(e:h.get? b=aa o)(n:H b=ab):(hidT h H).get? b=aa o:=
 PySem.W.hideAll_get _ e fun hm=>by
  have q:(H b).isSome=true:=(ji.mp hm).2;rw[n] at q;simp at q
def of_hidT{h:bd}{H:Hp}{b:af}{o:Obj}(e:(hidT h H).get? b=aa o):h.get? b=aa o/\H b=ab:=by
 have e':h.get? b=aa o:=PySem.W.of_hideAll (trk h H) e;refine⟨e',?_⟩;cases q:H b with
 | none=>rfl
 | some x=>
  have hm:b ∈ trk h H:=ji.mpr ⟨jt.mpr (aH e'),by simp[q]⟩;have z:(hidT h H).get? b=ab:=PySem.W.hideAll_none (trk h H) hm;rw[z] at e;cases e
def allNews(g h:bd)(L:af):List (af × Obj):=(ax h.objs.size).filterMap fun a=>if a=L \/ (g.get? a).isSome=true then ab else (h.get? a).map fun o=>(a,o)
def rest(g h:bd)(L d:af):List (af × Obj):=(allNews g h L).filter fun p=>decide (p.1 ≠ d)
end L2
namespace L2
open PySem PySem.Spec PyProof.Rows
structure Mod(K:ag)(mg:Str->Option ae)(base:bd):Prop where
 kin:K.In base
 glob:base.Ns aI mg
 blt:∃ mb,base.Ns builtinsNs mb/\∀ x:Str,x ≠ "__name__" -> mb x=aS x
 nolimit:base.NoLimit
structure Cx where
 prog:aN
 w:aV
 K:ag
 mg:Str->Option ae
 base:bd
 A:aX
 N:List Str
 s₀:ah
 H₀:Hp
 env:Env
 outer:List Env
 stack:List Env
 ex:List af
 fn:Str->Bool
 calm:Bool
 pn:List (af × Obj)
 xe:ae->ah->Prop
def frs(l:List Env):List af:=l.filterMap (·.frame)
abbrev Cx.fs(X:Cx):List af:=frs X.outer
def Vis(sc:Scope)(x:Str):Prop:=sc.names.lookup x=aa .local \/ sc.names.lookup x=aa .cell \/ sc.names.lookup x=aa .free
def Loc(sc:Scope)(x:Str):Prop:=sc.names.lookup x=aa .local \/ sc.names.lookup x=aa .cell
def Look(env:Env)(h:bd)(m:Str->Option ae)(x:Str)(u:ae):Prop:=
 (env.kindOf x=aa .local/\m x=aa u) \/ ((env.kindOf x=aa .cell \/ env.kindOf x=aa .free)/\∃ c,env.cells.lookup x=aa c/\h.IsCell c (aa u))
structure Cx.Ok(X:Cx):Prop where
 mod:Mod X.K X.mg X.base
 kind:X.env.scope.kind=.function
 glob:X.env.globals=aI
 blt:X.env.builtins=builtinsNs
 above:X.s₀.heap.objs.size<=X.env.locals
 inj:∀ x y c,X.env.cells.lookup x=aa c->X.env.cells.lookup y=aa c->x=y
 has:∀ x,(X.env.kindOf x=aa .cell \/ X.env.kindOf x=aa .free)->∃ c,X.env.cells.lookup x=aa c
 cab:∀ x c,X.fn x=true->X.env.cells.lookup x=aa c->X.s₀.heap.objs.size<=c
 hd:X.calm=true->X.A.handled=ab
 frames:X.A.frames=aa X.stack
 stk:X.stack=X.outer \/ (X.stack=X.env :: X.outer/\X.env.frame=aa X.env.locals)
 exf:∀ b ∈ X.ex,b ≠ X.env.locals/\∀ x c,X.env.cells.lookup x=aa c->c ≠ b
 bs:∀ b o,X.base.get? b=aa o->X.s₀.heap.get? b=aa o/\X.H₀ b=ab
 bsz:X.base.objs.size<=X.s₀.heap.objs.size
 noex:∀ b o,X.base.get? b=aa o->b ∉ X.ex
 exfs:∀ b ∈ X.ex,b ∉ X.fs
 funs:X.s₀.heap.FunFrames X.base X.outer
 frf:∀ b ∈ X.fs,X.H₀ b=ab
structure Inv(X:Cx)(pins:List (af × Obj))(σ:List (Option V))(H:Hp)(s:ah):Prop where
 ok:X.Ok
 os:s.os=X.s₀.os
 bare:AllBare s.gens
 base:Un X.fs X.ex X.H₀ H X.s₀.heap s.heap
 loc:∃ m,s.heap.Ns X.env.locals m/\∀ (i:Nat) (x:Str) (v:V),X.N[i]? = aa x->σ[i]? = aa (aa v)->Vis X.env.scope x->∃ u,RelV v u/\Look X.env s.heap m x u
 cell:∀ x c,X.env.cells.lookup x=aa c->∃ v,s.heap.IsCell c v
 free:H X.env.locals=ab
 freeC:∀ x c,X.env.cells.lookup x=aa c->H c=ab
 pin:∀ p ∈ X.pn ++ pins,s.heap.get? p.1=aa p.2/\H p.1=ab/\p.1 ≠ X.env.locals/\p.1 ∉ X.fs/\∀ v,p.2.data ≠ .cell v
 hok:HOk X.prog X.w H s.heap
 len:σ.length=X.N.length
section
variable {X:Cx}{pins:List (af × Obj)}{σ:List (Option V)}{H H':Hp}{s:ah}{h':bd}
def Cx.Ok.nofr(ok:X.Ok){b:af}{o:Obj}(e:X.base.get? b=aa o):b ∉ X.fs:=fun hb=>by
 have:=(ok.funs.mem hb).1;rw[e] at this;cases this
def Inv.bs(I:Inv X pins σ H s):∀ b o,X.base.get? b=aa o->s.heap.get? b=aa o/\H b=ab:=fun b o e=>
 ⟨I.base.keep b o (I.ok.bs b o e).1 (I.ok.bs b o e).2 (I.ok.nofr e) (I.ok.noex b o e),I.base.free b o (I.ok.bs b o e).1 (I.ok.bs b o e).2 (I.ok.noex b o e)⟩
def Inv.bk(I:Inv X pins σ H s):∀ b o,X.base.get? b=aa o->s.heap.get? b=aa o:=fun b o e=>(I.bs b o e).1
def Inv.mod(I:Inv X pins σ H s):Mod X.K X.mg X.base:=I.ok.mod
def Inv.kIn(I:Inv X pins σ H s):X.K.In s.heap:=I.ok.mod.kin.keeps I.bk
def Inv.lt(I:Inv X pins σ H s):X.env.locals<s.heap.objs.size:=let⟨_,hn,_⟩:=I.loc;hn.lt
def Inv.sz(I:Inv X pins σ H s):X.s₀.heap.objs.size<=s.heap.objs.size:=bp I.ok.above (dq I.lt)
def Inv.nofs(I:Inv X pins σ H s){a:af}(h:s.heap.objs.size<=a):a ∉ X.fs:=fun hb=>by
 obtain⟨_,o,ho,_⟩:=I.ok.funs.mem hb;exact absurd (bn (aH ho) (bp I.sz h)) (b8 _)
def Inv.cne(I:Inv X pins σ H s):∀ x c,X.env.cells.lookup x=aa c->c ≠ X.env.locals:=fun x c e z=>by
 obtain⟨v,o,ho,hd⟩:=I.cell x c e;obtain⟨m,⟨o',es,ep,ho',hd',_⟩,_⟩:=I.loc;rw[z,ho'] at ho;cases ho;rw[hd'] at hd;cases hd
def Inv.funs(I:Inv X pins σ H s):s.heap.FunFrames X.base X.outer:=by
 have all:∀ (l:List Env),(∀ b ∈ frs l,b ∈ X.fs)->X.s₀.heap.FunFrames X.base l->s.heap.FunFrames X.base l:=by
  intro l
  induction l with
  | nil=>intro _ _;trivial
  | cons env r ih=>
   intro hs hl;obtain⟨hk,⟨L,o,hf,hn,ho,hd⟩,hr⟩:=hl;have hL:L ∈ X.fs:=hs L (by unfold frs;rw[fD,hf];exact am);obtain⟨sl,e⟩:=I.base.slot L o ho (I.ok.frf L hL) hL fun z=>I.ok.exfs L z hL;exact⟨hk,⟨L,_,hf,hn,e,hd⟩,ih (fun b hb=>hs b (by unfold frs;rw[fD,hf];exact aj _ hb)) hr⟩
 exact all X.outer (fun _ hb=>hb) I.ok.funs
def Inv.stack(I:Inv X pins σ H s):s.heap.FunFrames X.base X.stack:=by
 rcases I.ok.stk with e | ⟨e,hf⟩
 ·rw[e];exact I.funs
 ·rw[e];obtain⟨m,hn,_⟩:=I.loc;refine .cons (by rw[I.ok.kind];decide) hf hn ?_ I.funs;exact Heap.get?_none_of_le (bp I.ok.bsz I.ok.above)
def Inv.stkSub(I:Inv X pins σ H s):∀ b ∈ frs X.stack,b ∈ X.env.locals :: X.fs:=fun b hb=>by
 rcases I.ok.stk with e | ⟨e,hf⟩
 ·rw[e] at hb;exact aj _ hb
 ·rw[e] at hb;unfold frs at hb;rw[fD,hf] at hb;exact hb
def Inv.stkFree(I:Inv X pins σ H s):∀ b ∈ frs X.stack,H b=ab:=fun b hb=>by
 rcases az.mp (I.stkSub b hb) with e | hb
 ·rw[e];exact I.free
 ·obtain⟨_,o,ho,_⟩:=I.ok.funs.mem hb;exact I.base.free b o ho (I.ok.frf b hb) fun z=>I.ok.exfs b z hb
def Inv.step{g':Array GenState}{t':Nat}{d':Drawn}{ch:List af}(I:Inv X pins σ H s)
  (hch:∀ b ∈ ch,(b ∈ X.ex \/ X.s₀.heap.objs.size<=b)/\b ≠ X.env.locals/\(∀ x c,X.env.cells.lookup x=aa c->c ≠ b)/\∀ p ∈ X.pn ++ pins,p.1 ≠ b)
  (keep:∀ b o,b ≠ X.env.locals->b ∉ X.fs->b ∉ ch->s.heap.get? b=aa o->H b=ab->h'.get? b=aa o)
  (slot:∀ b o,b ≠ X.env.locals->b ∈ X.fs->b ∉ ch->s.heap.get? b=aa o->H b=ab->∃ sl,h'.get? b=aa { o with slots:=sl}) (free:∀ b o,b ∉ ch->s.heap.get? b=aa o->H b=ab->H' b=ab)
  (there:∀ b o,b ∉ ch->s.heap.get? b=aa o->∃ o',h'.get? b=aa o')
  (tups:∀ b xs,H b=aa (.tup xs)->H' b=aa (.tup xs)) (frzs:∀ b o u,H b=aa (.frz o u)->H' b=aa (.frz o u)) (tbls:∀ b ps,H b=aa (.tbl ps)->∃ more,H' b=aa (.tbl (ps ++ more)))
  (ns:∀ m,s.heap.Ns X.env.locals m->h'.Ns X.env.locals m) (hok:HOk X.prog X.w H' h') (hg:AllBare g') :
  Inv X pins σ H' { s with heap:=h',gens:=g',drawn:=d',toks:=t'}:=by
 have neL:∀ b o,X.s₀.heap.get? b=aa o->b ≠ X.env.locals:=fun b o e=>aR (bn (aH e) I.ok.above);have neC:∀ b o,X.s₀.heap.get? b=aa o->b ∉ X.ex->b ∉ ch:=fun b o e hx hb=>by
  rcases (hch b hb).1 with z | z
  ·exact hx z
  ·exact absurd (bn (aH e) z) (b8 _)
 have cellK:∀ x c,X.env.cells.lookup x=aa c->∀ v,s.heap.IsCell c v->h'.IsCell c v:=fun x c e v ⟨o,ho,hd⟩=>by
  have nch:c ∉ ch:=fun z=>(hch c z).2.2.1 x c e rfl;by_cases hc:c ∈ X.fs
  ·obtain⟨sl,q⟩:=slot c o (I.cne x c e) hc nch ho (I.freeC x c e);exact⟨_,q,hd⟩
  ·exact⟨o,keep c o (I.cne x c e) hc nch ho (I.freeC x c e),hd⟩
 refine⟨I.ok,I.os,hg,⟨fun b o e n hb hx=>?_,fun b o e n hb hx=>?_,fun b o e n hx=>?_,fun b o e hx=>?_,fun b xs e=>tups b xs (I.base.tups b xs e),fun b o xs e=>frzs b o xs (I.base.frzs b o xs e),fun b ps e=>?_⟩,?_,fun x c e=>?_,?_,fun x c e=>?_,fun p hp=>?_,hok,I.len⟩
 ·exact keep b o (neL b o e) hb (neC b o e hx) (I.base.keep b o e n hb hx) (I.base.free b o e n hx)
 ·obtain⟨sl,e1⟩:=I.base.slot b o e n hb hx;obtain⟨sl',e2⟩:=slot b _ (neL b o e) hb (neC b o e hx) e1 (I.base.free b o e n hx);exact⟨sl',e2⟩
 ·obtain⟨o',e1⟩:=I.base.there b o e hx;exact free b o' (neC b o e hx) e1 (I.base.free b o e n hx)
 ·obtain⟨o',e1⟩:=I.base.there b o e hx;exact there b o' (neC b o e hx) e1
 ·obtain⟨m1,e1⟩:=I.base.tbls b ps e;obtain⟨m2,e2⟩:=tbls b _ e1;exact⟨m1 ++ m2,by rw[e2,Array.append_assoc]⟩
 ·obtain⟨m,hn,hl⟩:=I.loc;refine⟨m,ns m hn,fun i x v e1 e2 e3=>?_⟩;obtain⟨u,r,l⟩:=hl i x v e1 e2 e3;refine⟨u,r,?_⟩;rcases l with l | ⟨k,c,e,z⟩
  ·exact .inl l
  ·exact .inr ⟨k,c,e,cellK x c e _ z⟩
 ·obtain⟨v,z⟩:=I.cell x c e;exact⟨v,cellK x c e v z⟩
 ·obtain⟨m,⟨o,_,_,ho,_⟩,_⟩:=I.loc;exact free _ o (fun z=>(hch _ z).2.1 rfl) ho I.free
 ·obtain⟨v,o,ho,hd⟩:=I.cell x c e;exact free c o (fun z=>(hch c z).2.2.1 x c e rfl) ho (I.freeC x c e)
 ·obtain⟨e,n,ne,nf,d⟩:=I.pin p hp;have nch:p.1 ∉ ch:=fun z=>(hch p.1 z).2.2.2 p hp rfl;exact⟨keep p.1 p.2 ne nf nch e n,free p.1 p.2 nch e n,ne,nf,d⟩
def Inv.un{t':Nat}(I:Inv X pins σ H s)(u:Un X.fs [] H H' s.heap h')(hok:HOk X.prog X.w H' h'):Inv X pins σ H' { s with heap:=h',toks:=t'}:=by
 obtain⟨m,⟨o,es,ep,ho,r⟩,_⟩:=id I.loc;obtain⟨sl,hL⟩:=u.any ho I.free (by simp);exact I.step (g':=s.gens) (d':=s.drawn) (ch:=[]) (fun _ z=>nomatch z) (fun b o _ hb _ e n=>u.keep b o e n hb (by simp)) (fun b o _ hb _ e n=>u.slot b o e n hb (by simp)) (fun b o _ e n=>u.free b o e n (by simp)) (fun b o _ e=>u.there b o e (by simp)) u.tups u.frzs u.tbls (fun m' hm=>by
  obtain⟨o',es',ep',ho',r'⟩:=hm;rw[ho] at ho';cases ho';exact⟨_,es',ep',hL,r'⟩) hok I.bare
def Inv.call{g':Array GenState}{t':Nat}{d':Drawn}{ch:List af}(I:Inv X pins σ H s)(u:Un (frs X.stack) ch H H' s.heap h')(hok:HOk X.prog X.w H' h')(hg:AllBare g')
  (hch:∀ b ∈ ch,(b ∈ X.ex \/ X.s₀.heap.objs.size<=b)/\b ≠ X.env.locals/\(∀ x c,X.env.cells.lookup x=aa c->c ≠ b)/\∀ p ∈ X.pn ++ pins,p.1 ≠ b) :
  Inv X pins σ H' { s with heap:=h',gens:=g',drawn:=d',toks:=t'}:=by
 obtain⟨m,⟨o,es,ep,ho,r⟩,_⟩:=id I.loc;obtain⟨sl,hL⟩:=u.any ho I.free fun z=>(hch _ z).2.1 rfl;exact I.step (ch:=ch) hch (fun b o hL hb hc e n=>u.keep b o e n (fun z=>(az.mp (I.stkSub b z)).elim hL hb) hc) (fun b o _ _ hc e n=>u.any e n hc) (fun b o hc e n=>u.free b o e n hc) (fun b o hc e=>u.there b o e hc) u.tups u.frzs u.tbls (fun m' hm=>by
  obtain⟨o',es',ep',ho',r'⟩:=hm;rw[ho] at ho';cases ho';exact⟨_,es',ep',hL,r'⟩) hok hg
def Inv.turned{t':Nat}{it:af}(I:Inv X pins σ H s)(k:∀ b o,b ≠ it->s.heap.get? b=aa o->h'.get? b=aa o)(hn:H it=ab)(hL:it ≠ X.env.locals)
  (h1:it ∈ X.ex \/ X.s₀.heap.objs.size<=it) (h2:∀ x c,X.env.cells.lookup x=aa c->c ≠ it) (h3:∀ p ∈ X.pn ++ pins,p.1 ≠ it):Inv X pins σ H { s with heap:=h',toks:=t'}:=by
 have nit:∀ b u,H b=aa u->b ≠ it:=fun b u e z=>by rw[z,hn] at e;cases e
 refine I.step (g':=s.gens) (d':=s.drawn) (ch:=[it]) (fun b hb=>?_) (fun b o _ _ hc e _=>k b o (fun z=>hc (by simp[z])) e) (fun b o _ _ hc e _=>⟨o.slots,k b o (fun z=>hc (by simp[z])) e⟩) (fun _ _ _ _ n=>n)
  (fun b o hc e=>⟨o,k b o (fun z=>hc (by simp[z])) e⟩) (fun _ _ e=>e) (fun _ _ _ e=>e) (fun b ps e=>⟨#[],by rw[e];simp⟩) (fun m hm=>?_) (fun b u e=>?_) I.bare
 ·have e:b=it:=by simpa using hb
  subst e;exact⟨h1,hL,h2,h3⟩
 ·obtain⟨o,es,ep,ho,r⟩:=hm;exact⟨o,es,ep,k _ o (ce hL) ho,r⟩
 ·refine(I.hok b u e).stay (fun c v hc q=>k c v ?_ q) (fun _ q=>q) fun _ _ q=>q;rcases hc with z | z
  ·rw[z];exact nit b u e
  ·exact nit c _ z
def Inv.tok(I:Inv X pins σ H s)(t:Nat):Inv X pins σ H { s with toks:=t}:=I.un (h':=s.heap) (t':=t) Un.refl I.hok
def Inv.kept{t':Nat}(I:Inv X pins σ H s)(k:∀ b u,s.heap.get? b=aa u->h'.get? b=aa u):Inv X pins σ H { s with heap:=h',toks:=t'}:=I.un (Un.kept k) (I.hok.kept k)
def Inv.laid{a:af}{o:HO}{t':Nat}(I:Inv X pins σ H s)(k:∀ b u,s.heap.get? b=aa u->h'.get? b=aa u)(hp:s.heap.objs.size<=a)(new:ObjOk X.prog X.w (upd H a o) h' a o) :
  Inv X pins σ (upd H a o) { s with heap:=h',toks:=t'}:=I.un (Un.laid k hp (I.hok.fresh hp)) (I.hok.laid k hp new)
def Inv.write{x e:af}{o:HO}{t':Nat}(I:Inv X pins σ H s)(mu:Mut (H x))(he:e=x \/ H e=aa (.own x))(k:∀ b u,b ≠ e->s.heap.get? b=aa u->h'.get? b=aa u)(heo:∃ u,h'.get? e=aa u)
  (new:ObjOk X.prog X.w (upd H x o) h' x o):Inv X pins σ (upd H x o) { s with heap:=h',toks:=t'}:=I.un (Un.write mu he k heo) (I.hok.write mu he k heo new)
def Inv.pins_of{pins':List (af × Obj)}(I:Inv X pins σ H s)(h:∀ p ∈ pins',s.heap.get? p.1=aa p.2/\H p.1=ab/\p.1 ≠ X.env.locals/\p.1 ∉ X.fs/\∀ v,p.2.data ≠ .cell v):Inv X pins' σ H s:=
 ⟨I.ok,I.os,I.bare,I.base,I.loc,I.cell,I.free,I.freeC,fun p hp=>(bj.mp hp).elim (fun z=>I.pin p (bg _ z)) (h p),I.hok,I.len⟩
def zhR{N:List Str}(hN:N.Nodup){i j:Nat}{x:Str}(a:N[i]? = aa x)(b:N[j]? = aa x):i=j:=by
 obtain⟨h1,e1⟩:=a9.mp a;obtain⟨h2,e2⟩:=a9.mp b;exact(List.getElem_inj hN).mp (e1.trans e2.symm)
def zgM{M:Model}{A:aX}{E:ae->ah->Prop}{i:Nat}{x:Str}{v:V}{u:ae}{Q:Unit->ah->Prop}(I:Inv X pins σ H s)(hN:X.N.Nodup)(hi:X.N[i]? = aa x)(hx:Loc X.env.scope x)(r:RelV v u)
  (h:∀ s',Inv X pins (σ.set i (aa v)) H s'->(∃ a,d4 a s.heap s'.heap/\(a=X.env.locals \/ X.env.cells.lookup x=aa a))->Q () s') (hf:X.fn x=true \/ X.env.scope.names.lookup x=aa .local:=by first | exact .inl rfl | exact .inr rfl | assumption):ay M A (storeName X.env x u) Q E s:=by
 obtain⟨m,hn,hl⟩:=id I.loc;have hcls:(X.env.scope.kind == .class || (X.env.scope.kind == .module && X.env.locals != X.env.globals))=false:=by rw[I.ok.kind];rfl
 have hiσ:i<σ.length:=by rw[I.len];exact(a9.mp hi).1
 have cne:=I.cne;have tracked:∀ {a:af} {h':bd},(∃ o,s.heap.get? a=aa o/\H a=ab)->d4 a s.heap h'->HOk X.prog X.w H h':=fun {a h'} ha hs b ob e=>by
  obtain⟨_,_,hfree⟩:=ha;refine(I.hok b ob e).stay (fun c w' hc q=>(hs.2 c ?_).trans q) (fun _ q=>q) fun _ _ q=>q;rintro rfl;rcases hc with rfl | hc
  ·rw[hfree] at e;cases e
  ·rw[hfree] at hc;cases hc
 rcases hx with hk | hk
 ·refine wpAny_storeName_local hk hn (fun h' hn' hs=>?_) hcls;obtain⟨oL,_,_,hoL,_⟩:=id hn;refine h _ ⟨I.ok,I.os,I.bare,⟨fun b o e n hb hx=>?_,fun b o e n hb hx=>?_,I.base.free,fun b o e hx=>?_,I.base.tups,I.base.frzs,I.base.tbls⟩,⟨_,hn',fun j y v' e1 e2 e3=>?_⟩,fun y c e=>?_,I.free,I.freeC,fun p hp=>?_,tracked ⟨oL,hoL,I.free⟩ hs,by simpa using I.len⟩ ⟨_,hs,.inl rfl⟩
  ·exact(hs.2 b (aR (bn (aH e) I.ok.above))).trans (I.base.keep b o e n hb hx)
  ·obtain⟨sl,e1⟩:=I.base.slot b o e n hb hx;exact⟨sl,(hs.2 b (aR (bn (aH e) I.ok.above))).trans e1⟩
  ·obtain⟨o',e1⟩:=I.base.there b o e hx;exact⟨o',(hs.2 b (aR (bn (aH e) I.ok.above))).trans e1⟩
  ·by_cases hj:j=i
   ·subst hj;rw[hi] at e1;cases e1;rw[cT hiσ] at e2;cases e2;exact⟨u,r,.inl ⟨hk,by simp⟩⟩
   ·rw[cK (ce hj)] at e2;obtain⟨u',r',q⟩:=hl j y v' e1 e2 e3;refine⟨u',r',?_⟩;rcases q with ⟨k,e⟩ | ⟨k,c,e,z⟩
    ·refine .inl ⟨k,?_⟩;have:y ≠ x:=fun e=>hj (zhR hN e1 (e ▸ hi));simp[this,e]
    ·exact .inr ⟨k,c,e,z.sameBut hs (cne y c e)⟩
  ·obtain⟨w',z⟩:=I.cell y c e;exact⟨w',z.sameBut hs (cne y c e)⟩
  ·obtain⟨e,n,ne,nf,d⟩:=I.pin p hp;exact⟨(hs.2 p.1 ne).trans e,n,ne,nf,d⟩
 ·have hfn:X.fn x=true:=by
   rcases hf with z | z
   ·exact z
   ·rw[z] at hk;cases hk
  obtain⟨c,hc⟩:=I.ok.has x (.inl hk);obtain⟨w',z⟩:=I.cell x c hc;refine wpAny_storeName_cell I.ok.kind hk hc z (fun h' hc' hs=>?_);obtain⟨oc,hoc,hocd⟩:=id z;refine h { s with heap:=h'} ⟨I.ok,I.os,I.bare,⟨fun b o e n hb hx=>?_,fun b o e n hb hx=>?_,I.base.free,fun b o e hx=>?_,I.base.tups,I.base.frzs,I.base.tbls⟩,⟨m,hn.sameBut hs (ce (cne x c hc)),fun j y v' e1 e2 e3=>?_⟩,fun y c' e=>?_,I.free,I.freeC,fun p hp=>?_,tracked ⟨oc,hoc,I.freeC x c hc⟩ hs,by simpa using I.len⟩ ⟨c,hs,.inr hc⟩
  ·exact(hs.2 b (aR (bn (aH e) (I.ok.cab x c hfn hc)))).trans (I.base.keep b o e n hb hx)
  ·obtain⟨sl,e1⟩:=I.base.slot b o e n hb hx;exact⟨sl,(hs.2 b (aR (bn (aH e) (I.ok.cab x c hfn hc)))).trans e1⟩
  ·obtain⟨o',e1⟩:=I.base.there b o e hx;exact⟨o',(hs.2 b (aR (bn (aH e) (I.ok.cab x c hfn hc)))).trans e1⟩
  ·by_cases hj:j=i
   ·subst hj;rw[hi] at e1;cases e1;rw[cT hiσ] at e2;cases e2;exact⟨u,r,.inr ⟨.inl hk,c,hc,hc'⟩⟩
   ·rw[cK (ce hj)] at e2;obtain⟨u',r',q⟩:=hl j y v' e1 e2 e3;refine⟨u',r',?_⟩;rcases q with q | ⟨k,c',e,z'⟩
    ·exact .inl q
    ·refine .inr ⟨k,c',e,z'.sameBut hs ?_⟩;rintro rfl;exact hj (zhR hN e1 (I.ok.inj _ _ _ e hc ▸ hi))
  ·by_cases hcc:c'=c
   ·subst hcc;exact⟨_,hc'⟩
   ·obtain⟨w2,z2⟩:=I.cell y c' e;exact⟨w2,z2.sameBut hs hcc⟩
  ·obtain⟨e,n,ne,nf,d⟩:=I.pin p hp;refine⟨(hs.2 p.1 ?_).trans e,n,ne,nf,d⟩;intro q;rw[q,hoc] at e;have q':oc=p.2:=aM e;exact d w' (by rw[<- q'];exact hocd)
def zfN{M:Model}{A:aX}{E:ae->ah->Prop}{i:Nat}{x:Str}{v:V}{u:ae}{Q:Unit->ah->Prop}(I:Inv X pins σ H s)(hN:X.N.Nodup)(hi:X.N[i]? = aa x)(hx:Loc X.env.scope x)(r:RelV v u)
  (h:∀ s',Inv X pins (σ.set i (aa v)) H s'->Q () s') (hf:X.fn x=true \/ X.env.scope.names.lookup x=aa .local:=by first | exact .inl rfl | exact .inr rfl | assumption):ay M A (storeName X.env x u) Q E s:=
 zgM I hN hi hx r (fun s' I' _=>h s' I') hf
def Inv.call'{s':ah}{ch:List af}(I:Inv X pins σ H s)(ho:s'.os=s.os)(u:Un (frs X.stack) ch H H' s.heap s'.heap)(hok:HOk X.prog X.w H' s'.heap)(hg:AllBare s'.gens)
  (hch:∀ b ∈ ch,(b ∈ X.ex \/ X.s₀.heap.objs.size<=b)/\b ≠ X.env.locals/\(∀ x c,X.env.cells.lookup x=aa c->c ≠ b)/\∀ p ∈ X.pn ++ pins,p.1 ≠ b):Inv X pins σ H' s':=by
 obtain⟨h',g',d',t',o'⟩:=s';have e:o'=s.os:=ho;subst e;exact I.call (g':=g') (t':=t') (d':=d') u hok hg hch
end
abbrev XK:=ae->Option af->Hp->Prop
abbrev St:=List (Option V)
abbrev VK:=V->Hp->Prop
abbrev TE:=St->Hp->VK->Prop
abbrev TT:=St->Hp->(Bool->Hp->Prop)->Prop
abbrev TA:=St->Hp->(List V->Hp->Prop)->Prop
structure Ends where
 nx:St->Hp->Prop
 rt:VK
 bk:St->Hp->Prop:=fun _ _=>False
 ct:St->Hp->Prop:=fun _ _=>False
abbrev TS:=Ends->St->Hp->Prop
inductive EP(X:Cx)(pins:List (af × Obj))(σ:St)(Q:VK)(u:ae)(s':ah):Prop
 | mk (v:V) (H':Hp):Inv X pins σ H' s'->RelV v u->Q v H'->EP X pins σ Q u s'
inductive TP(X:Cx)(pins:List (af × Obj))(σ:St)(Q:Bool->Hp->Prop)(b:Bool)(s':ah):Prop
 | mk (H':Hp):Inv X pins σ H' s'->Q b H'->TP X pins σ Q b s'
inductive AP(X:Cx)(pins:List (af × Obj))(σ:St)(Q:List V->Hp->Prop)(us:List ae)(s':ah):Prop
 | mk (vs:List V) (H':Hp):Inv X pins σ H' s'->Vals vs us->Q vs H'->AP X pins σ Q us s'
inductive NP(X:Cx)(pins:List (af × Obj))(N:St->Hp->Prop)(z:ah):Prop
 | mk (a:St) (b:Hp):Inv X pins a b z->N a b->NP X pins N z
inductive RP(X:Cx)(pins:List (af × Obj))(Q:VK)(u:ae)(z:ah):Prop
 | mk (v:V) (a:St) (b:Hp):Inv X pins a b z->RelV v u->Q v b->RP X pins Q u z
def SP(X:Cx)(pins:List (af × Obj))(D:Ends)(f:Flow)(s':ah):Prop:=
 match f with
 | .next=>NP X pins D.nx s'
 | .brk=>NP X pins D.bk s'
 | .cont=>NP X pins D.ct s'
 | .ret u=>RP X pins D.rt u s'
def PE(X:Cx)(e:Expr)(t:TE):Prop:=
 ∀ (pins:List (af × Obj)) (s:ah) (σ:St) (H:Hp) (Q:VK),Inv X pins σ H s->t σ H Q->ay (model X.prog X.w) X.A (eval e X.env) (EP X pins σ Q) X.xe s
def PT(X:Cx)(e:Expr)(t:TT):Prop:=
 ∀ (pins:List (af × Obj)) (s:ah) (σ:St) (H:Hp) (Q:Bool->Hp->Prop),Inv X pins σ H s->t σ H Q->ay (model X.prog X.w) X.A (isTrue e X.env (eval e X.env)) (TP X pins σ Q) X.xe s
def PW(X:Cx)(e:Expr)(t:TT):Prop:=
 ∀ (whole:Sem ae) (pins:List (af × Obj)) (s:ah) (σ:St) (H:Hp) (Q:Bool->Hp->Prop),Inv X pins σ H s->t σ H Q->ay (model X.prog X.w) X.A (isTrue e X.env whole) (TP X pins σ Q) X.xe s
def PW.pt{X:Cx}{e:Expr}{t:TT}(h:PW X e t):PT X e t:=h _
def PA(X:Cx)(es:List Expr)(t:TA):Prop:=
 ∀ (pos:Pos) (pins:List (af × Obj)) (s:ah) (σ:St) (H:Hp) (Q:List V->Hp->Prop),Inv X pins σ H s->t σ H Q->ay (model X.prog X.w) X.A (spliced (backTo pos (ba es X.env))) (AP X pins σ Q) X.xe s
def PS(X:Cx)(st:Stmt)(t:TS):Prop:=
 ∀ (pins:List (af × Obj)) (s:ah) (σ:St) (H:Hp) (D:Ends),Inv X pins σ H s->t D σ H->ay (model X.prog X.w) X.A (exec st X.env) (SP X pins D) X.xe s
def PSs(X:Cx)(st:List Stmt)(t:TS):Prop:=
 ∀ (pins:List (af × Obj)) (s:ah) (σ:St) (H:Hp) (D:Ends),Inv X pins σ H s->t D σ H->ay (model X.prog X.w) X.A (execs st X.env) (SP X pins D) X.xe s
def thn{α:Type}{t:Sem α}{Q Q':α->ah->Prop}{M:Model}{A:aX}{E:ae->ah->Prop}{s:ah}(h:ay M A t Q E s)(hQ:∀ a s,Q a s->Q' a s):ay M A t Q' E s:=bR h hQ fun _ _ x=>x
end L2
namespace L2
open PySem PySem.Spec PyProof.Rows
section
variable {X:Cx}
def zdC(i:Nat):TE:=fun σ H Q=>∃ v,σ[i]? = aa (aa v)/\Q v H
def tC(v:V):TE:=fun _ H Q=>Q v H
def pe_var{i:Nat}{x:Str}{pos:Pos}(hN:X.N[i]? = aa x)(hv:Vis X.env.scope x)(hd:(x == ("__debug__" : Str))=false:=by decide)(hcd:(x == ("__classdict__" : Str))=false:=by decide):PE X (.Name x pos) (zdC i):=by
 intro pins s σ H Q I h;obtain⟨v,e,h⟩:=h;obtain⟨m,hn,hl⟩:=I.loc;obtain⟨u,r,l⟩:=hl i x v hN e hv;have fin:EP X pins σ Q u s:=⟨v,H,I,r,h⟩
 rcases l with ⟨hk,hm⟩ | ⟨hk,c,hc,hcell⟩
 ·exact wpAny_Name (wpAny_loadName_local I.ok.kind hk hn hm fin) hd
 ·rcases hk with hk | hk
  ·exact wpAny_Name (wpAny_loadName_cell I.ok.kind hk hc hcell fin) hd
  ·exact wpAny_Name (wpAny_loadName_free I.ok.kind hk hc hcell fin hcd) hd
def pe_int{i j pos}:PE X (.Constant (.int i) j pos) (tC (.int i)):=fun _ _ _ H _ I h=>wpAny_Constant_int ⟨.int i,H,I.tok _,⟨_,rfl⟩,h⟩
def pe_bl{b j pos}:PE X (.Constant (.bool b) j pos) (tC (.bl b)):=fun _ _ _ H _ I h=>Constant_bool ⟨.bl b,H,I,rfl,h⟩
def pe_non{j pos}:PE X (.Constant .none j pos) (tC .non):=fun _ _ _ H _ I h=>Constant_none ⟨.non,H,I,rfl,h⟩
def pe_str{x j pos}:PE X (.Constant (.str x) j pos) (tC (.str x)):=fun _ _ _ H _ I h=>Calls.Constant_str ⟨.str x,H,I.tok _,⟨_,rfl⟩,h⟩
def Gl(X:Cx)(x:Str):Prop:=X.env.kindOf x=aa .globalImplicit
def zfY{E:ae->ah->Prop}{pins:List (af × Obj)}{s:ah}{σ:St}{H:Hp}{x:Str}{u:ae}{pos:Pos}{Q:ae->ah->Prop}(I:Inv X pins σ H s)(hg:Gl X x)(hm:X.mg x=aa u)(h:Q u s)
  (hd:(x == ("__debug__" : Str))=false:=by decide):ay (model X.prog X.w) X.A (eval (.Name x pos) X.env) Q E s:=
 fW I.ok.kind hg (Calls.loadGlobal_global (by rw[I.ok.glob];exact I.mod.glob.keeps I.bk) hm h) hd
def zdd{E:ae->ah->Prop}{pins:List (af × Obj)}{s:ah}{σ:St}{H:Hp}{x:Str}{u:ae}{pos:Pos}{Q:ae->ah->Prop}(I:Inv X pins σ H s)(hg:Gl X x)(hm:X.mg x=ab)(hv:aS x=aa u)(h:Q u s)
  (hn:x ≠ "__name__" :=by decide) (hd:(x == ("__debug__" : Str))=false:=by decide):ay (model X.prog X.w) X.A (eval (.Name x pos) X.env) Q E s:=by
 obtain⟨mb,h1,h2⟩:=I.mod.blt;exact fW I.ok.kind hg (Calls.loadGlobal_builtin (by rw[I.ok.glob];exact I.mod.glob.keeps I.bk) hm (by rw[I.ok.blt];exact h1.keeps I.bk) ((h2 x hn).trans hv) h) hd
def pe_glob{x:Str}{v:V}{u:ae}{pos:Pos}(hg:Gl X x)(hm:X.mg x=aa u)(r:RelV v u)(hd:(x == ("__debug__" : Str))=false:=by decide):PE X (.Name x pos) (tC v):=
 fun _ _ _ H _ I h=>zfY I hg hm ⟨v,H,I,r,h⟩ hd
def pe_bltn{x:Str}{v:V}{u:ae}{pos:Pos}(hg:Gl X x)(hm:X.mg x=ab)(hv:aS x=aa u)(r:RelV v u)(hn:x ≠ "__name__" :=by decide)(hd:(x == ("__debug__" : Str))=false:=by decide):PE X (.Name x pos) (tC v):=
 fun _ _ _ H _ I h=>zdd I hg hm hv ⟨v,H,I,r,h⟩ hn hd
variable {a b:Expr}{ta tb:TE}{pos:Pos}
def tB(t:TE):TT:=fun σ H Q=>t σ H fun x H1=>∃ c,x=.bl c/\Q c H1
def pt_val{e:Expr}{t:TE}(h:PE X e t)(he:∀ whole,isTrue e X.env whole=(do let v <- whole;standAt e.pos;holding [v] (truthy v)):=by intro _;rfl):PT X e (tB t):=by
 intro pins s σ H Q I hw;refine isTrue_plain (thn (h pins s σ H _ I hw) ?_) (he _);rintro v s1 ⟨x,H1,I1,r1,q1⟩;obtain⟨d,rfl,q⟩:=q1;cases r1;exact wpAny_truthy_bool ⟨H1,I1,q⟩
variable {tA tB':TT}{rest:List Expr}
def tAnd(t u:TT):TT:=fun σ H Q=>t σ H fun c H1=>if c=true then u σ H1 Q else Q false H1
def tOr(t u:TT):TT:=fun σ H Q=>t σ H fun c H1=>if c=true then Q true H1 else u σ H1 Q
def tNot(t:TT):TT:=fun σ H Q=>t σ H fun c H1=>Q (!c) H1
def pw_and1(ha:PT X a tA):PW X (.BoolOp .And [a] pos) tA:=by
 intro wh pins s σ H Q I h;refine isTrue_and (thn (ha pins s σ H Q I h) fun c s1 e=>?_);cases c with
 | true=>exact isTrue_and_nil e
 | false=>exact e
def pw_or1(ha:PT X a tA):PW X (.BoolOp .Or [a] pos) tA:=by
 intro wh pins s σ H Q I h;refine isTrue_or (thn (ha pins s σ H Q I h) fun c s1 e=>?_);cases c with
 | false=>exact isTrue_or_nil e
 | true=>exact e
def pw_and(ha:PT X a tA)(hb:PW X (.BoolOp .And (b :: rest) pos) tB'):PW X (.BoolOp .And (a :: b :: rest) pos) (tAnd tA tB'):=by
 intro wh pins s σ H Q I h;refine isTrue_and (thn (ha pins s σ H _ I h) ?_);rintro c s1 ⟨H1,I1,q1⟩;cases c with
 | true=>exact hb wh pins s1 σ H1 Q I1 q1
 | false=>exact⟨H1,I1,q1⟩
def pw_or(ha:PT X a tA)(hb:PW X (.BoolOp .Or (b :: rest) pos) tB'):PW X (.BoolOp .Or (a :: b :: rest) pos) (tOr tA tB'):=by
 intro wh pins s σ H Q I h;refine isTrue_or (thn (ha pins s σ H _ I h) ?_);rintro c s1 ⟨H1,I1,q1⟩;cases c with
 | true=>exact⟨H1,I1,q1⟩
 | false=>exact hb wh pins s1 σ H1 Q I1 q1
def pt_not(ha:PT X a tA):PT X (.UnaryOp .Not a pos) (tNot tA):=by
 intro pins s σ H Q I h;exact isTrue_not (thn (ha pins s σ H (fun c H1=>Q (!c) H1) I h) fun _ _ ⟨a,b,c⟩=>⟨a,b,c⟩)
def tAndV(ta tb:TE):TE:=fun σ H Q=>ta σ H fun x H1=>∃ c,x=.bl c/\if c=true then tb σ H1 Q else Q (.bl false) H1
def pe_one{op}{t:TE}(h:PE X a t):PE X (.BoolOp op [a] pos) t:=fun pins s σ H Q I hw=>BoolOp_one (h pins s σ H Q I hw)
def pe_and(ha:PE X a ta)(hb:PE X (.BoolOp .And (b :: rest) pos) tb):PE X (.BoolOp .And (a :: b :: rest) pos) (tAndV ta tb):=by
 intro pins s σ H Q I h;refine BoolOp_and (thn (ha pins s σ H _ I h) ?_);rintro v s1 ⟨x,H1,I1,r1,q1⟩;obtain⟨c,rfl,q1⟩:=q1;cases r1;refine wpAny_truthy_bool ?_;cases c with
 | true=>exact hb pins s1 σ H1 Q I1 q1
 | false=>exact⟨.bl false,H1,I1,rfl,q1⟩
def tIf(t:TT)(ta tb:TE):TE:=fun σ H Q=>t σ H fun c H1=>if c=true then ta σ H1 Q else tb σ H1 Q
def pe_ifExp{c:Expr}(hc:PT X c tA)(ha:PE X a ta)(hb:PE X b tb):PE X (.IfExp c a b pos) (tIf tA ta tb):=by
 intro pins s σ H Q I h;refine wpAny_IfExp (thn (hc pins s σ H _ I h) ?_);rintro d s1 ⟨H1,I1,q1⟩;cases d with
 | true=>exact ha pins s1 σ H1 Q I1 q1
 | false=>exact hb pins s1 σ H1 Q I1 q1
end
end L2
namespace L2
open PySem PySem.Spec PyProof.Rows
def SqL(K:ag)(H:Hp)(a:af)(xs:List V):Prop:=
 Rd H a (.lst xs) \/
  ∃ (o:Obj) (its:Array ae) (n:Nat),K.lookup a=aa o/\o.cls=.type "list" /\ o.dict=ab/\o.data=.seq its n/\its.size<=aZ/\Vals xs its.toList
def SqT(K:ag)(H:Hp)(a:af)(xs:List V):Prop:=
 Rd H a (.tup xs) \/
  ∃ (o:Obj) (its:Array ae) (n:Nat),K.lookup a=aa o/\o.cls=.type "tuple" /\ o.data=.seq its n/\its.size<=aZ/\Vals xs its.toList
def absV:ae->Option V
 | .none=>aa .non
 | .bool b=>aa (.bl b)
 | .int i _=>aa (.int i)
 | .str x _=>aa (.str x)
 | .bytes b _=>aa (.byt b)
 | .float b _=>aa (.flt b)
 | .ref a=>aa (.ref a)
 | .type n=>aa (.ty n)
 | _=>ab
def RelV.abs{x:V}{u:ae}(r:RelV x u):absV u=aa x:=by
 cases x with
 | non=>cases r;rfl
 | bl _=>cases r;rfl
 | int _=>obtain⟨t,rfl⟩:=r;rfl
 | str _=>obtain⟨t,rfl⟩:=r;rfl
 | byt _=>obtain⟨t,rfl⟩:=r;rfl
 | flt _=>obtain⟨t,rfl⟩:=r;rfl
 | ref _=>cases r;rfl
 | ty _=>cases r;rfl
def RelV.inj{x y:V}{u:ae}(r:RelV x u)(q:RelV y u):x=y:=aM (r.abs.symm.trans q.abs)
def Vals.inj:∀ {xs ys:List V} {us:List ae},Vals xs us->Vals ys us->xs=ys
 | _,_,_,.nil,.nil=>rfl
 | _,_,_,.cons r t,.cons r' t'=>by rw[r.inj r',Vals.inj t t']
section
variable {X:Cx}{pins:List (af × Obj)}{σ:St}{H:Hp}{s:ah}{a:af}{xs ys:List V}
def SqL.of{K:ag}(h:H a=aa (.lst xs)):SqL K H a xs:=.inl (.inl h)
def SqT.of{K:ag}(h:H a=aa (.tup xs)):SqT K H a xs:=.inl (.inl h)
def Inv.list(I:Inv X pins σ H s)(h:SqL X.K H a xs):∃ its:List ae,Vals xs its/\PlainL s.heap a its.toArray/\xs.length<=aZ:=by
 rcases h with h | ⟨o,its,n,hk,hc,hd,hs,hz,r⟩
 ·obtain⟨z,its,n,r,e⟩:=h.ok I.hok;exact⟨its,r,⟨_,n,e,rfl,rfl,rfl⟩,z⟩
 ·refine⟨its.toList,r,⟨o,n,I.kIn a o hk,hc,hd,by simpa using hs⟩,?_⟩;have e:=r.length;simp only[cq] at e;lia
def Inv.tuple(I:Inv X pins σ H s)(h:SqT X.K H a xs):∃ its:List ae,Vals xs its/\IsTup s.heap a its.toArray/\xs.length<=aZ:=by
 rcases h with h | ⟨o,its,n,hk,hc,hs,hz,r⟩
 ·obtain⟨z,its,r,p⟩:=h.ok I.hok;exact⟨its,r,p,z⟩
 ·refine⟨its.toList,r,⟨o,I.kIn a o hk,hc,n,by simpa using hs⟩,?_⟩;have e:=r.length;simp only[cq] at e;lia
def Inv.list_inj(I:Inv X pins σ H s)(h:SqL X.K H a xs)(h':SqL X.K H a ys):xs=ys:=by
 obtain⟨its,r,⟨o,n,e,_,_,d⟩,_⟩:=I.list h;obtain⟨its',r',⟨o',n',e',_,_,d'⟩,_⟩:=I.list h';rw[e] at e';cases e';rw[d] at d';injection d' with d1 _;have:its=its':=by simpa using congrArg jX d1
 subst this;exact r.inj r'
def Inv.tuple_inj(I:Inv X pins σ H s)(h:SqT X.K H a xs)(h':SqT X.K H a ys):xs=ys:=by
 obtain⟨its,r,⟨o,e,_,n,d⟩,_⟩:=I.tuple h;obtain⟨its',r',⟨o',e',_,n',d'⟩,_⟩:=I.tuple h';rw[e] at e';cases e';rw[d] at d';injection d' with d1 _;have:its=its':=by simpa using congrArg jX d1
 subst this;exact r.inj r'
end
abbrev Cx.wish(X:Cx)(E:ae->ah->Prop):Cx:={ X with xe:=E}
abbrev Cx.nox(X:Cx):Cx:=X.wish fun _ _=>False
def Cx.Ok.wish{X:Cx}(ok:X.Ok)(E:ae->ah->Prop):(X.wish E).Ok:=
 ⟨ok.mod,ok.kind,ok.glob,ok.blt,ok.above,ok.inj,ok.has,ok.cab,ok.hd,ok.frames,ok.stk,ok.exf,ok.bs,ok.bsz,ok.noex,ok.exfs,ok.funs,ok.frf⟩
def Cx.Ok.unwish{X:Cx}{E:ae->ah->Prop}(ok:(X.wish E).Ok):X.Ok:=
 ⟨ok.mod,ok.kind,ok.glob,ok.blt,ok.above,ok.inj,ok.has,ok.cab,ok.hd,ok.frames,ok.stk,ok.exf,ok.bs,ok.bsz,ok.noex,ok.exfs,ok.funs,ok.frf⟩
section
variable {X:Cx}{pins:List (af × Obj)}{σ:St}{H:Hp}{s:ah}{E:ae->ah->Prop}
def Inv.wish(I:Inv X pins σ H s)(E:ae->ah->Prop):Inv (X.wish E) pins σ H s:=⟨I.ok.wish E,I.os,I.bare,I.base,I.loc,I.cell,I.free,I.freeC,I.pin,I.hok,I.len⟩
def Inv.unwish(I:Inv (X.wish E) pins σ H s):Inv X pins σ H s:=⟨I.ok.unwish,I.os,I.bare,I.base,I.loc,I.cell,I.free,I.freeC,I.pin,I.hok,I.len⟩
def SP.unwish{D:Ends}{f:Flow}{s':ah}(h:SP (X.wish E) pins D f s'):SP X pins D f s':=by
 cases f with
 | next=>obtain⟨σ',H',I,q⟩:=h;exact⟨σ',H',I.unwish,q⟩
 | brk=>obtain⟨σ',H',I,q⟩:=h;exact⟨σ',H',I.unwish,q⟩
 | cont=>obtain⟨σ',H',I,q⟩:=h;exact⟨σ',H',I.unwish,q⟩
 | ret u=>obtain⟨v,σ',H',I,r,q⟩:=h;exact⟨v,σ',H',I.unwish,r,q⟩
def PE.nox{e:Expr}{t:TE}(h:PE X.nox e t):PE X e t:=fun pins s σ H Q I hw=>
 bR (h pins s σ H Q (I.wish _) hw) (fun _ _ ⟨v,H',I',r,q⟩=>⟨v,H',I'.unwish,r,q⟩) fun _ _ z=>cc z
def PT.nox{e:Expr}{t:TT}(h:PT X.nox e t):PT X e t:=fun pins s σ H Q I hw=>
 bR (h pins s σ H Q (I.wish _) hw) (fun _ _ ⟨H',I',q⟩=>⟨H',I'.unwish,q⟩) fun _ _ z=>cc z
def PSs.nox{st:List Stmt}{t:TS}(h:PSs X.nox st t):PSs X st t:=fun pins s σ H D I hw=>
 bR (h pins s σ H D (I.wish _) hw) (fun _ _ q=>q.unwish) fun _ _ z=>cc z
end
section
variable {X:Cx}{st:Stmt}{rest:List Stmt}{t u:TS}{e:Expr}{te:TE}{pos:Pos}
def tNext:TS:=fun D σ H=>D.nx σ H
def tSeq(t u:TS):TS:=fun D σ H=>t { D with nx:=u D} σ H
def pss_nil:PSs X [] tNext:=fun _ _ σ H _ I h=>wpAny_execs_nil ⟨σ,H,I,h⟩
def pss_cons(h1:PS X st t)(h2:PSs X rest u):PSs X (st :: rest) (tSeq t u):=by
 intro pins s σ H D I h;refine wpAny_execs_cons (thn (h1 pins s σ H { D with nx:=u D} I h) fun f s1 q=>?_);cases f with
 | next=>
  obtain⟨σ',H',I',q⟩:=q;exact h2 pins s1 σ' H' D I' q
 | ret v=>exact q
 | brk=>exact q
 | cont=>exact q
def pss_one(h1:PS X st t):PSs X [st] t:=by
 intro pins s σ H D I h;refine wpAny_execs_cons (thn (h1 pins s σ H D I h) fun f s1 q=>?_);cases f with
 | next=>exact wpAny_execs_nil q
 | ret v=>exact q
 | brk=>exact q
 | cont=>exact q
def Inv.quiet{pins:List (af × Obj)}{σ:St}{H:Hp}{s:ah}(I:Inv X pins σ H s):interactive X.env=false:=by simp[interactive,I.ok.kind]
def tDrop(te:TE):TS:=fun D σ H=>te σ H fun _ H1=>D.nx σ H1
def ps_expr(he:PE X e te)(hs:swapsWith e ab pos.line X.env=pure false:=by rfl):PS X (.Expr e pos) (tDrop te):=by
 intro pins s σ H D I h;exact wpAny_Expr_any (thn (he pins s σ H _ I h) fun v s1 ⟨x,H1,I1,r1,q1⟩=>⟨σ,H1,I1,q1⟩) I.quiet hs
def tRet(te:TE):TS:=fun D σ H=>te σ H D.rt
def ps_ret(he:PE X e te):PS X (.Return (aa e) pos) (tRet te):=by
 intro pins s σ H D I h;exact wpAny_Return_some (thn (he pins s σ H _ I h) fun v s1 ⟨x,H1,I1,r1,q1⟩=>⟨x,σ,H1,I1,r1,q1⟩)
def tIfS(c:TT)(t u:TS):TS:=fun D σ H=>c σ H fun b H1=>if b=true then t D σ H1 else u D σ H1
def ps_if{c:Expr}{a b:List Stmt}{tc:TT}(hc:PT X c tc)(ha:PSs X a t)(hb:PSs X b u):PS X (.If c a b pos) (tIfS tc t u):=by
 intro pins s σ H D I h;refine wpAny_If (thn (hc pins s σ H _ I h) ?_);rintro d s1 ⟨H1,I1,q1⟩;cases d with
 | true=>exact ha pins s1 σ H1 D I1 q1
 | false=>exact hb pins s1 σ H1 D I1 q1
def tNever:TS:=fun _ _ _=>False
def pss_never{sts:List Stmt}:PSs X sts tNever:=fun _ _ _ _ _ _ h=>h.elim
end
abbrev TG:=V->St->Hp->(St->Hp->Prop)->Prop
abbrev TGs:=List V->St->Hp->(St->Hp->Prop)->Prop
def PG(X:Cx)(target:Expr)(t:TG):Prop:=
 ∀ (pins:List (af × Obj)) (s:ah) (σ:St) (H:Hp) (v:V) (u:ae) (Q:St->Hp->Prop),Inv X pins σ H s->RelV v u->t v σ H Q ->
  ay (model X.prog X.w) X.A (assign target X.env u) (fun _ s'=>NP X pins Q s') X.xe s
def PGs(X:Cx)(ts:List Expr)(t:TGs):Prop:=
 ∀ (pins:List (af × Obj)) (s:ah) (σ:St) (H:Hp) (vs:List V) (us:List ae) (Q:St->Hp->Prop),Inv X pins σ H s->Vals vs us->t vs σ H Q ->
  ay (model X.prog X.w) X.A (assignInOrder ((dg ts X.env).map (·.2)) us) (fun _ s'=>NP X pins Q s') X.xe s
abbrev TSet:=V->V->V->Hp->(Hp->Prop)->Prop
def PSet(X:Cx)(t:TSet):Prop:=
 ∀ (pins:List (af × Obj)) (s:ah) (σ:St) (H:Hp) (o i v:V) (ov iv u:ae) (Q:Hp->Prop),Inv X pins σ H s->RelV o ov->RelV i iv->RelV v u->t o i v H Q ->
  ay (model X.prog X.w) X.A (setItem ov iv u) (fun _ s'=>∃ H',Inv X pins σ H' s'/\Q H') X.xe s
section
variable {X:Cx}{pos:Pos}
def zdh(i:Nat):TG:=fun v σ H Q=>Q (σ.set i (aa v)) H
def zhm{i:Nat}{x:Str}(hN:X.N.Nodup)(hi:X.N[i]? = aa x)(hx:Loc X.env.scope x)(hf:X.fn x=true \/ X.env.scope.names.lookup x=aa .local:=by first | exact .inl rfl | exact .inr rfl | assumption):PG X (.Name x pos) (zdh i):=by
 intro pins s σ H v u Q I r h;exact wpAny_assign_Name (zfN I hN hi hx r (fun s' I'=>⟨_,H,I',h⟩) hf)
def gNil:TGs:=fun vs σ H Q=>vs=[]/\Q σ H
def gCons(t:TG)(u:TGs):TGs:=fun vs σ H Q=>∃ v r,vs=v :: r/\t v σ H fun σ' H'=>u r σ' H' Q
def pgs_nil:PGs X [] gNil:=by
 intro pins s σ H vs us Q I r h;obtain⟨e,h⟩:=h;subst e;cases r;exact assignInOrder_nil ⟨σ,H,I,h⟩
def zfI{e:Expr}{es:List Expr}{t:TG}{u:TGs}(h1:PG X e t)(h2:PGs X es u)
  (hs:(dg (e :: es) X.env).map (·.2)=assign e X.env :: (dg es X.env).map (·.2):=by rfl):PGs X (e :: es) (gCons t u):=by
 intro pins s σ H vs us Q I r h;obtain⟨v,vr,e1,h⟩:=h;subst e1;cases r with
 | cons r rr=>
  rw[hs];refine assignInOrder_cons (thn (h1 pins s σ H _ _ _ I r h) ?_);rintro _ s1 ⟨σ1,H1,I1,q1⟩;exact h2 pins s1 σ1 H1 _ _ Q I1 rr q1
def gTup(K:ag)(n:Nat)(t:TGs):TG:=fun v σ H Q=>∃ a xs,v=.ref a/\SqT K H a xs/\xs.length=n/\t xs σ H Q
def pg_tup{es:List Expr}{k:Nat}{t:TGs}{n:Nat}(hc:X.calm=true)(h:PGs X es t)
  (hn:(dg es X.env).length=n:=by rfl) (hst:(dg es X.env).findIdx? (·.1)=ab:=by rfl):PG X (.Tuple es k pos) (gTup X.K n t):=by
 intro pins s σ H v u Q I r hw;obtain⟨a,xs,e1,hq,hl,hw⟩:=hw;subst e1;cases r;obtain⟨its,rv,ht,hz⟩:=I.tuple hq;refine assign_Tuple_tuple (I.ok.hd hc) ht (by simp[hn,<- hl,rv.length]) hst fun h' hx=>?_;have I1:Inv X pins σ H { s with heap:=h'}:=I.kept (t':=s.toks) fun b o e=>hx b o (aR (aH e)) e;exact h pins _ σ H xs _ Q I1 (by simpa using rv) hw
def gSub(to ti:TE)(t:TSet):TG:=fun v σ H Q=>to σ H fun o H1=>ti σ H1 fun i H2=>t o i v H2 fun H3=>Q σ H3
def pg_sub{o i:Expr}{to ti:TE}{t:TSet}(ho:PE X o to)(hi:PE X i ti)(hs:PSet X t)
  (ha:∀ v,assign (.Subscript o i pos) X.env v=(do
   let ov <- holding [v] (eval o X.env);let iv <- holding [v,ov] (eval i X.env)
   standAt pos
   holding [v,ov,iv] (setItem ov iv v)
   release [v,ov,iv] []):=by intro _;rfl):PG X (.Subscript o i pos) (gSub to ti t):=by
 intro pins s σ H v u Q I r h;rw[ha];refine ai (bU (thn (ho pins s σ H _ I h) ?_));rintro ov s1 ⟨x,H1,I1,r1,q1⟩;refine ai (bU (thn (hi pins s1 σ H1 _ I1 q1) ?_));rintro iv s2 ⟨y,H2,I2,r2,q2⟩;refine ai (wpAny_standAt (ai (bU (thn (hs pins s2 σ H2 x y v ov iv u _ I2 r1 r2 r q2) ?_))));rintro _ s3 ⟨H3,I3,q3⟩;exact wpAny_release ⟨σ,H3,I3,q3⟩
def zfH(te:TE)(g:TG):TS:=fun D σ H=>te σ H fun x H1=>g x σ H1 D.nx
def ps_asg{tg e:Expr}{te:TE}{g:TG}(he:PE X e te)(hg:PG X tg g)(hs:swapsWithSole [tg] e pos.line X.env=pure false:=by rfl)(hw:swappedStores [tg] e X.env=pure ab:=by rfl)
  (h1:(dg [tg] X.env).map (·.2)=[assign tg X.env]:=by rfl):PS X (.Assign [tg] e pos) (zfH te g):=by
 intro pins s σ H D I h;refine wpAny_Assign_stores (thn (he pins s σ H _ I h) ?_) hs hw;rintro v s1 ⟨x,H1,I1,r1,q1⟩;rw[h1];exact thn (hg pins s1 σ H1 x v _ I1 r1 q1) fun _ s2 q=>q
def ps_set{i:Nat}{x:Str}{e:Expr}{te:TE}{pos':Pos}(hN:X.N.Nodup)(hi:X.N[i]? = aa x)(hx:Loc X.env.scope x)(he:PE X e te)(hs:swapsWith e (aa (.Name x pos')) pos.line X.env=pure false:=by rfl)(hf:X.fn x=true \/ X.env.scope.names.lookup x=aa .local:=by first | exact .inl rfl | exact .inr rfl | assumption) :
  PS X (.Assign [.Name x pos'] e pos) (zfH te (zdh i)):=by
 intro pins s σ H D I h;refine wpAny_Assign_Name (thn (he pins s σ H _ I h) ?_) hs;rintro v s1 ⟨y,H1,I1,r1,q1⟩;exact zfN I1 hN hi hx r1 (fun s2 I2=>⟨_,H1,I2,q1⟩) hf
end
section
variable {X:Cx}{pos:Pos}
def zid(c:TT)(tb:TS):TS:=fun D σ H=>∃ W:Nat->St->Hp->Prop,(∃ m,W m σ H)/\∀ m σ H,W m σ H ->
 c σ H fun b H1=>if b=true then ∃ N:St->Hp->Prop,(∀ σ' H',N σ' H'->∃ m',m'<m/\W m' σ' H')/\tb { D with nx:=N,ct:=N,bk:=D.nx} σ H1 else D.nx σ H1
def ps_while{c:Expr}{body:List Stmt}{tc:TT}{tb:TS}(hp:PassesOwn (model X.prog X.w) X.A X.env X.xe)(hc:PT X c tc)(hb:PSs X body tb):PS X (.While c body [] pos) (zid tc tb):=by
 intro pins s σ H D I h;obtain⟨W,⟨m0,w0⟩,turn⟩:=h;refine wpAny_While (codeAny_whileLoop (fun n s'=>∃ σ' H',Inv X pins σ' H' s'/\W n σ' H') ?_ m0 ⟨σ,H,I,w0⟩);rintro n s1 ⟨σ1,H1,I1,w1⟩;refine wpAny_passesOwn hp (thn (hc pins s1 σ1 H1 _ I1 (turn n σ1 H1 w1)) ?_);rintro b s2 ⟨H2,I2,q2⟩;cases b with
 | true=>
  obtain⟨N,hN,q2⟩:=q2;rw[if_pos rfl];refine wpAny_passesOwn hp (thn (hb pins s2 σ1 H2 _ I2 q2) fun f s3 q3=>?_);cases f with
  | next=>
   obtain⟨σ3,H3,I3,n3⟩:=q3;obtain⟨m',hm,w3⟩:=hN σ3 H3 n3;exact⟨m',hm,σ3,H3,I3,w3⟩
  | cont=>
   obtain⟨σ3,H3,I3,n3⟩:=q3;obtain⟨m',hm,w3⟩:=hN σ3 H3 n3;exact⟨m',hm,σ3,H3,I3,w3⟩
  | brk=>exact q3
  | ret v=>exact q3
 | false=>
  rw[if_neg aQ];exact wpAny_execs_nil ⟨σ1,H2,I2,q2⟩
end
structure It where
 go:Nat->Hp->Prop
 yld:Nat->Hp->V->Hp->Prop
 stop:Nat->Hp->Prop
def zg1(X:Cx)(pins:List (af × Obj))(H:Hp)(b:af):Prop:=
 H b=ab/\b ≠ X.env.locals/\b ∉ X.fs/\(b ∈ X.ex \/ X.s₀.heap.objs.size<=b)/\(∀ x c,X.env.cells.lookup x=aa c->c ≠ b)/\∀ p ∈ X.pn ++ pins,p.1 ≠ b
def Inv.fpOk{X:Cx}{pins:List (af × Obj)}{σ:St}{H H':Hp}{s:ah}{b:af}(I:Inv X pins σ H s)(hb:s.heap.objs.size<=b)(hn:H' b=ab):zg1 X pins H' b:=by
 refine⟨hn,dr (bn I.lt hb),I.nofs hb,.inr (bp I.sz hb),fun x c e z=>?_,fun p hp z=>?_⟩
 ·obtain⟨v,q⟩:=I.cell x c e;exact absurd (bn q.lt (by rw[z];exact hb)) (b8 _)
 ·exact absurd (bn (aH (I.pin p hp).1) (by rw[z];exact hb)) (b8 _)
structure Turn(P:aN)(w:aV)(K:ag)(tg:Expr)(J:It)(fp:List af)(it:af)(tn:Nat->bd->Prop):Prop where
 mem:it ∈ fp
 obj:∀ i h,tn i h->∀ b ∈ fp,∃ o,h.get? b=aa o/\∀ v,o.data ≠ .cell v
 keep:∀ i h h',tn i h->(∀ b ∈ fp,∀ o,h.get? b=aa o->h'.get? b=aa o)->tn i h'
 item:∀ (X:Cx),X.prog=P->X.w=w->X.K=K->X.calm=true->∀ (i:Nat) (pins:List (af × Obj)) (s:ah) (σ:St) (H:Hp) (E:ae->ah->Prop),Inv X pins σ H s->(∀ b ∈ fp,zg1 X pins H b)->tn i s.heap->J.go i H ->
  ay (model P w) X.A (pyNext (.ref it)) (fun r s1=>∃ u,r=aa u /\
   ay (model P w) X.A (letOwnedTupleGo tg (.ref it) u) (fun _ s2=>∃ x H',Inv X pins σ H' s2/\RelV x u/\J.yld i H x H'/\tn (i+1) s2.heap/\∀ b ∈ fp,H' b=ab) E s1) E s
 done:∀ (X:Cx),X.prog=P->X.w=w->X.K=K->X.calm=true->∀ (i:Nat) (pins:List (af × Obj)) (s:ah) (σ:St) (H:Hp) (E:ae->ah->Prop),Inv X pins σ H s->(∀ b ∈ fp,zg1 X pins H b)->tn i s.heap->J.stop i H ->
  ay (model P w) X.A (pyNext (.ref it)) (fun r s1=>r=ab/\Inv X pins σ H s1) E s
 self:∀ (A:aX) (i:Nat) (s:ah) (Q:ae->ah->Prop) (E:ae->ah->Prop),tn i s.heap->Q (.ref it) s->ay (model P w) A (pyIter (.ref it)) Q E s
abbrev TI:=St->Hp->(It->Hp->Prop)->Prop
def PIE(X:Cx)(pins:List (af × Obj))(σ:St)(tg:Expr)(R:It->Hp->Prop)(itv:ae)(s2:ah):Prop:=
 ∃ (it:af) (fp:List af) (tn:Nat->bd->Prop) (J:It) (H':Hp),itv=.ref it/\Inv X pins σ H' s2/\Turn X.prog X.w X.K tg J fp it tn/\tn 0 s2.heap/\(∀ b ∈ fp,zg1 X pins H' b)/\R J H'
def PI(X:Cx)(tg iter:Expr)(wi:TI):Prop:=
 ∀ (pins:List (af × Obj)) (s:ah) (σ:St) (H:Hp) (R:It->Hp->Prop),Inv X pins σ H s->wi σ H R ->
  ay (model X.prog X.w) X.A (eval iter X.env) (fun v s1=>ay (model X.prog X.w) X.A (pyIter v) (PIE X pins σ tg R) X.xe s1) X.xe s
def go_of{M:Model}{A:aX}{E:ae->ah->Prop}{s:ah}{tg:Expr}{it:af}{u:ae}{o:Obj}{n:String}{vs:Array ae}{Q:Unit->ah->Prop}(ho:s.heap.get? it=aa o)(hc:o.cls=.type n)(hd:o.data=.fields vs)
    (hn:["enumerate","zip","dict_itemiterator","dict_reverseitemiterator","odict_iterator","itertools.zip_longest","itertools.pairwise"].contains n=false) (hQ:Q () s):ay M A (letOwnedTupleGo tg (.ref it) u) Q E s:=by
  unfold letOwnedTupleGo;cases tg <;> first
    | exact aq hQ
    | (cases u <;> first
        | exact aq hQ
        | (refine ai (wpAny_load ho ?_)
           rw[hc,hd];show ay M A (if (["enumerate","zip","dict_itemiterator","dict_reverseitemiterator","odict_iterator","itertools.zip_longest","itertools.pairwise"].contains n && vs[0]? == aa (rawInt _))=true then _ else _) Q E s;rw[if_neg (by intro h;rw[hn,ju] at h;cases h)];exact aq hQ))
def Itl(K:ag)(a:af):It:=
 ⟨fun i H=>∃ xs x,SqL K H a xs/\xs[i]? = aa x,fun i H x H'=>H'=H/\∀ xs,SqL K H a xs->xs[i]? = aa x,fun i H=>∃ xs,SqL K H a xs/\xs.length<=i⟩
def Itt(K:ag)(a:af):It:=
 ⟨fun i H=>∃ xs x,SqT K H a xs/\xs[i]? = aa x,fun i H x H'=>H'=H/\∀ xs,SqT K H a xs->xs[i]? = aa x,fun i H=>∃ xs,SqT K H a xs/\xs.length<=i⟩
def Itr(lo:Int)(n:Nat):It:=⟨fun i _=>i<n,fun i H x H'=>H'=H/\x=.int (lo+i),fun i _=>n<=i⟩
def zgO{P:aN}{w:aV}{K:ag}{tg:Expr}(a it:af):Turn P w K tg (Itl K a) [it] it (fun i h=>h.IsListIter it a i) where
 mem:=by simp
 obj:=fun i h st b hb=>by
  have e:b=it:=by simpa using hb
  subst e;obtain⟨o,e,c,d⟩:=st;exact⟨o,e,fun v z=>by rw[d] at z;cases z⟩
 keep:=fun i h h' st k=>st.at fun o e=>k it (by simp) o e
 item:=by
  intro X hP hw hK hc i pins s σ H E I hf st hg;subst hP hw hK;obtain⟨xs,x,hq,hx⟩:=hg;obtain⟨its,rv,p,hz⟩:=I.list hq;obtain⟨u,hu,ru⟩:=rv.get hx;obtain⟨f0,f1,f2,f3,f4,f5⟩:=hf it (by simp);refine wpAny_pyNext_list_item st p.isList (x:=u) (by simpa using hu) fun h' st' sb=>?_;have I1:Inv X pins σ H { s with heap:=h'}:=I.turned (t':=s.toks) (fun b o hb e=>(sb.2 b hb).trans e) f0 f1 f3 f4 f5;obtain⟨o,e,c,d⟩:=id st';exact⟨u,rfl,go_of (s:={ s with heap:=h'}) e c d (by decide) ⟨x,H,I1,ru,⟨rfl,fun ys hy=>by rw[I.list_inj hy hq];exact hx⟩,st',fun b hb=>(hf b hb).1⟩⟩
 done:=by
  intro X hP hw hK hc i pins s σ H E I hf st hg;subst hP hw hK;obtain⟨xs,hq,hx⟩:=hg;obtain⟨its,rv,p,hz⟩:=I.list hq;obtain⟨f0,f1,f2,f3,f4,f5⟩:=hf it (by simp);have hl:=rv.length;exact wpAny_pyNext_list_end (I.ok.hd hc) st p.isList (by simp;lia) fun h' eb=>⟨rfl,I.turned (t':=s.toks) (fun b o hb e=>eb b o hb e) f0 f1 f3 f4 f5⟩
 self:=fun _ _ _ _ _ st h=>wpAny_pyIter_listiter st h
def zfh{P:aN}{w:aV}{K:ag}{tg:Expr}(a it:af):Turn P w K tg (Itt K a) [it] it (fun i h=>h.IsTupleIter it a i) where
 mem:=by simp
 obj:=fun i h st b hb=>by
  have e:b=it:=by simpa using hb
  subst e;obtain⟨o,e,c,d⟩:=st;exact⟨o,e,fun v z=>by rw[d] at z;cases z⟩
 keep:=fun i h h' st k=>st.at fun o e=>k it (by simp) o e
 item:=by
  intro X hP hw hK hc i pins s σ H E I hf st hg;subst hP hw hK;obtain⟨xs,x,hq,hx⟩:=hg;obtain⟨its,rv,p,hz⟩:=I.tuple hq;obtain⟨u,hu,ru⟩:=rv.get hx;obtain⟨f0,f1,f2,f3,f4,f5⟩:=hf it (by simp);refine wpAny_pyNext_tuple_item st (show s.heap.IsTuple a its.toArray from p) (x:=u) (by simpa using hu) fun h' st' sb=>?_;have I1:Inv X pins σ H { s with heap:=h'}:=I.turned (t':=s.toks) (fun b o hb e=>(sb.2 b hb).trans e) f0 f1 f3 f4 f5;obtain⟨o,e,c,d⟩:=id st';exact⟨u,rfl,go_of (s:={ s with heap:=h'}) e c d (by decide) ⟨x,H,I1,ru,⟨rfl,fun ys hy=>by rw[I.tuple_inj hy hq];exact hx⟩,st',fun b hb=>(hf b hb).1⟩⟩
 done:=by
  intro X hP hw hK hc i pins s σ H E I hf st hg;subst hP hw hK;obtain⟨xs,hq,hx⟩:=hg;obtain⟨its,rv,p,hz⟩:=I.tuple hq;obtain⟨f0,f1,f2,f3,f4,f5⟩:=hf it (by simp);have hl:=rv.length;exact wpAny_pyNext_tuple_end (I.ok.hd hc) st (show s.heap.IsTuple a its.toArray from p) (by simp;lia) fun h' eb=>⟨rfl,I.turned (t':=s.toks) (fun b o hb e=>eb b o hb e) f0 f1 f3 f4 f5⟩
 self:=fun _ _ _ _ _ st h=>wpAny_pyIter_tupleiter st h
def ziN{P:aN}{w:aV}{K:ag}{tg:Expr}(it:af)(lo:Int)(n:Nat):Turn P w K tg (Itr lo n) [it] it (fun i h=>IsRangeIter h it (lo+(i:Nat) * 1) ((n:Int) - (i:Nat)) 1) where
 mem:=by simp
 obj:=fun i h st b hb=>by
  have e:b=it:=by simpa using hb
  subst e;exact⟨_,st,fun v z=>by
   have z':Data.fields _=Data.cell v:=z;cases z'⟩
 keep:=fun i h h' st k=>k it (by simp) _ st
 item:=by
  intro X hP hw hK hc i pins s σ H E I hf st hg;subst hP hw hK;obtain⟨f0,f1,f2,f3,f4,f5⟩:=hf it (by simp);have W:=Walks.range (prog:=X.prog) (w:=X.w) (I.ok.hd hc) it lo 1 n;refine W.item i s _ _ hg st fun v h' tk hv st' kk=>?_;obtain⟨t,rfl⟩:=hv;have I1:Inv X pins σ H { s with heap:=h',toks:=tk}:=I.turned (fun b o hb e=>kk b o (by simpa using hb) e) f0 f1 f3 f4 f5;refine⟨_,rfl,go_of (s:={ s with heap:=h',toks:=tk}) (n:= "range_iterator") st' rfl rfl (by decide) ⟨.int (lo+i),H,I1,⟨t,?_⟩,⟨rfl,rfl⟩,st',fun b hb=>(hf b hb).1⟩⟩;rw[Int.mul_one]
 done:=by
  intro X hP hw hK hc i pins s σ H E I hf st hg;subst hP hw hK;obtain⟨f0,f1,f2,f3,f4,f5⟩:=hf it (by simp);exact wpAny_pyNext_range_end (I.ok.hd hc) st (by have:n<=i:=hg;lia) fun h' eb=>⟨rfl,I.turned (t':=s.toks) (fun b o hb e=>eb b o hb e) f0 f1 f3 f4 f5⟩
 self:=fun _ _ _ _ _ st h=>wpAny_pyIter_rangeiter st h
end L2
namespace L2
open PySem PySem.Spec PyProof.Rows
section
variable {X:Cx}{tg:Expr}
def iList(K:ag)(tl:TE):TI:=fun σ H R=>tl σ H fun x H1=>∃ a,x=.ref a/\(∃ xs,SqL K H1 a xs)/\R (Itl K a) H1
def iTup(K:ag)(tl:TE):TI:=fun σ H R=>tl σ H fun x H1=>∃ a,x=.ref a/\(∃ xs,SqT K H1 a xs)/\R (Itt K a) H1
def pi_list{l:Expr}{tl:TE}(hl:PE X l tl):PI X tg l (iList X.K tl):=by
 intro pins s σ H R I h;refine thn (hl pins s σ H _ I h) ?_;rintro v s1 ⟨x,H1,I1,r1,q1⟩;obtain⟨a,e,⟨xs,hq⟩,q⟩:=q1;subst e;cases r1;obtain⟨its,rv,p,hz⟩:=I1.list hq;refine wpAny_pyIter_list p.isList ?_;refine⟨s1.heap.objs.size,[s1.heap.objs.size],_,_,H1,rfl,I1.kept (t':=s1.toks) fun b o e=>ak _ e,zgO a _,⟨_,aB _ rfl,rfl,rfl⟩,fun b hb=>?_,q⟩;have e:b=s1.heap.objs.size:=by simpa using hb
 subst e;exact I1.fpOk (au _) (I1.hok.fresh (au _))
def pi_tup{l:Expr}{tl:TE}(hl:PE X l tl):PI X tg l (iTup X.K tl):=by
 intro pins s σ H R I h;refine thn (hl pins s σ H _ I h) ?_;rintro v s1 ⟨x,H1,I1,r1,q1⟩;obtain⟨a,e,⟨xs,hq⟩,q⟩:=q1;subst e;cases r1;obtain⟨its,rv,p,hz⟩:=I1.tuple hq;refine wpAny_pyIter_tuple (show s1.heap.IsTuple a its.toArray from p) ?_;refine⟨s1.heap.objs.size,[s1.heap.objs.size],_,_,H1,rfl,I1.kept (t':=s1.toks) fun b o e=>ak _ e,zfh a _,⟨_,aB _ rfl,rfl,rfl⟩,fun b hb=>?_,q⟩;have e:b=s1.heap.objs.size:=by simpa using hb
 subst e;exact I1.fpOk (au _) (I1.hok.fresh (au _))
def ziq{pins:List (af × Obj)}{σ:St}{H:Hp}{s:ah}{R:It->Hp->Prop}{E:ae->ah->Prop}{lo hi:Int}{t u v:Tok}{tk:Nat}(I:Inv X pins σ H s)(h1:-(2 ^ 62)<=lo)(h2:lo<2 ^ 62)(h3:-(2 ^ 62)<=hi)(h4:hi<2 ^ 62)
  (q:R (Itr lo (hi - lo).toNat) H):ay (model X.prog X.w) X.A (pyIter (.ref s.heap.objs.size)) (PIE X pins σ tg R) E { s with heap:=s.heap.push { cls:=.type "range",data:=.fields #[.int lo t,.int hi u,.int 1 v]},toks:=tk}:=by
 refine wpAny_pyIter_range (kx ..) (small_one h1 h2 h3 h4) ?_;have I1:Inv X pins σ H { s with heap:=s.heap.push { cls:=.type "range",data:=.fields #[.int lo t,.int hi u,.int 1 v]},toks:=tk}:=I.kept fun b o e=>ak _ e;refine⟨(s.heap.push { cls:=.type "range",data:=.fields #[.int lo t,.int hi u,.int 1 v]}).objs.size,[(s.heap.push { cls:=.type "range",data:=.fields #[.int lo t,.int hi u,.int 1 v]}).objs.size],_,_,H,rfl,
  I1.kept (t':=tk) fun b o e=>ak _ e,ziN _ lo (hi - lo).toNat,?_,fun b hb=>?_,q⟩
 ·have e1:lo+((0:Nat):Int) * 1=lo:=by simp
  have e2:(((hi - lo).toNat:Nat):Int) - ((0:Nat):Int)=ej lo hi 1:=by rw[rangeSize_one];split <;> lia
  show IsRangeIter _ _ (lo+((0:Nat):Int) * 1) ((((hi - lo).toNat:Nat):Int) - ((0:Nat):Int)) 1;rw[e1,e2];exact aB _ rfl
 ·have e:b=(s.heap.push { cls:=.type "range",data:=.fields #[.int lo t,.int hi u,.int 1 v]}).objs.size:=by simpa using hb
  subst e;exact I1.fpOk (au _) (I1.hok.fresh (au _))
def iRng1(ta:TA):TI:=fun σ H R=>ta σ H fun vs H1=>∃ j:Int,vs=[.int j] /\ -(2 ^ 62)<=j/\j<2 ^ 62/\R (Itr 0 j.toNat) H1
def iRng2(ta:TA):TI:=fun σ H R=>ta σ H fun vs H1=>∃ i j:Int,vs=[.int i,.int j]/\(-(2 ^ 62)<=i/\i<2 ^ 62 /\ -(2 ^ 62)<=j/\j<2 ^ 62)/\R (Itr i (j - i).toNat) H1
def pi_range1{a:Expr}{ta:TA}{p pos:Pos}(hg:Gl X "range")(hm:X.mg "range" = ab)(ha:PA X [a] ta)(hs:ba [a] X.env=[(false,eval a X.env)]:=by rfl):PI X tg (.Call (.Name "range" p) [a] [] pos) (iRng1 ta):=by
 intro pins s σ H R I h;refine Call_ (zdd I hg hm boot_range (bP (thn (ha pos pins s σ H _ I h) ?_) hs rfl));rintro us s1 ⟨vs,H1,I1,r1,q1⟩;obtain⟨j,e,q1,q2,q⟩:=q1;subst e;cases r1 with
 | cons r rr=>
  cases rr;obtain⟨t,rfl⟩:=r;exact call_range_1 (ziq I1 (by lia) (by lia) q1 q2 (by simpa using q))
def pi_range2{a b:Expr}{ta:TA}{p pos:Pos}(hg:Gl X "range")(hm:X.mg "range" = ab)(ha:PA X [a,b] ta)(hs:ba [a,b] X.env=[(false,eval a X.env),(false,eval b X.env)]:=by rfl)(hs2:ba [b] X.env=[(false,eval b X.env)]:=by rfl) :
  PI X tg (.Call (.Name "range" p) [a,b] [] pos) (iRng2 ta):=by
 intro pins s σ H R I h;refine Call_ (zdd I hg hm boot_range (bP (thn (ha pos pins s σ H _ I h) ?_) (by rw[hs,hs2]) (by rw[hs2];rfl)));rintro us s1 ⟨vs,H1,I1,r1,q1⟩;obtain⟨i,j,e,⟨q1,q2,q3,q4⟩,q⟩:=q1;subst e;cases r1 with
 | cons r rr=>
  cases rr with
  | cons r' rr=>
   cases rr;obtain⟨t,rfl⟩:=r;obtain⟨t',rfl⟩:=r';exact call_range_2 (ziq I1 q1 q2 q3 q4 q)
def tFor(wi:TI)(g:TG)(tb:TS):TS:=fun D σ H=>wi σ H fun J H1=>∃ W:Nat->Nat->St->Hp->Prop,(∃ m,W 0 m σ H1)/\∀ i m σ H,W i m σ H ->
 (J.stop i H/\D.nx σ H) \/ (J.go i H/\∃ N:St->Hp->Prop,(∀ σ' H',N σ' H'->∃ m',m'<m/\W (i+1) m' σ' H')/\∀ x H',J.yld i H x H'->g x σ H' fun σ2 H2=>tb { D with nx:=N,ct:=N,bk:=D.nx} σ2 H2)
def zeK(fp:List af)(h:bd):List (af × Obj):=fp.filterMap fun b=>(h.get? b).map fun o=>(b,o)
def zcv{fp:List af}{h:bd}{b:af}{o:Obj}(hb:b ∈ fp)(e:h.get? b=aa o):(b,o) ∈ zeK fp h:=d5.mpr ⟨b,hb,by rw[e];rfl⟩
def of_pinsAt{fp:List af}{h:bd}{p:af × Obj}(hp:p ∈ zeK fp h):p.1 ∈ fp/\h.get? p.1=aa p.2:=by
 obtain⟨b,hb,e⟩:=d5.mp hp;cases q:h.get? b with
 | none=>rw[q] at e;cases e
 | some o=>
  rw[q] at e;have e':(b,o)=p:=aM e;subst e';exact⟨hb,q⟩
def Inv.pinned{pins:List (af × Obj)}{σ:St}{H:Hp}{s:ah}{fp:List af}(I:Inv X pins σ H s)(hf:∀ b ∈ fp,zg1 X pins H b)(ho:∀ b ∈ fp,∃ o,s.heap.get? b=aa o/\∀ v,o.data ≠ .cell v):Inv X (pins ++ zeK fp s.heap) σ H s:=
 I.pins_of fun p hp=>(bj.mp hp).elim (fun z=>I.pin p (aA _ z)) fun z=>by
  obtain⟨hb,e⟩:=of_pinsAt z;obtain⟨f0,f1,f2,_⟩:=hf p.1 hb;obtain⟨o,e',d⟩:=ho p.1 hb;rw[e] at e';cases e';exact⟨e,f0,f1,f2,d⟩
def Inv.unpinned{pins pl:List (af × Obj)}{σ:St}{H:Hp}{s:ah}(I:Inv X (pins ++ pl) σ H s):Inv X pins σ H s:=I.pins_of fun p hp=>I.pin p (aA _ (bg _ hp))
def ps_for{iter:Expr}{body:List Stmt}{wi:TI}{g:TG}{tb:TS}{pos:Pos}(hp:PassesOwn (model X.prog X.w) X.A X.env X.xe)(hc:X.calm=true)(hi:PI X tg iter wi)(hg:PG X tg g)(hb:PSs X body tb)
  (hs:∀ x,bX iter X.env x=pure x:=by intro _;rfl):PS X (.For tg iter body [] pos) (tFor wi g tb):=by
 intro pins s σ H D I h;refine wpAny_For (thn (hi pins s σ H _ I h) fun v s1 h1=>thn h1 fun itv s2 h2=>?_) hs;obtain⟨it,fp,tn,J,H2,e,I2,T,st2,f2,W,⟨m0,w0⟩,turn⟩:=h2;subst e;have stat:∀ {H':Hp},(∀ b ∈ fp,H' b=ab)->∀ b ∈ fp,zg1 X pins H' b:=fun hn b hb=>⟨hn b hb,(f2 b hb).2⟩
 refine codeAny_forLoop_any (fun n s'=>∃ i σ' H',Inv X pins σ' H' s'/\tn i s'.heap/\(∀ b ∈ fp,H' b=ab)/\W i n σ' H') ?_ m0 ⟨0,σ,H2,I2,st2,fun b hb=>(f2 b hb).1,w0⟩;rintro n s3 ⟨i,σ3,H3,I3,st3,fr3,w3⟩;rcases turn i n σ3 H3 w3 with ⟨stop,qn⟩ | ⟨go,N,hN,step⟩
 ·refine wpAny_passesOwn hp (thn (T.done X rfl rfl rfl hc i pins s3 σ3 H3 X.xe I3 (stat fr3) st3 stop) ?_);rintro r s4 ⟨hr,I4⟩;subst hr;exact wpAny_execs_nil ⟨σ3,H3,I4,qn⟩
 ·refine wpAny_passesOwn hp (thn (T.item X rfl rfl rfl hc i pins s3 σ3 H3 X.xe I3 (stat fr3) st3 go) ?_);rintro r s4 ⟨u,hr,h4⟩;subst hr;refine wpAny_passesOwn hp (thn h4 ?_);rintro _ s5 ⟨x,H5,I5,r5,y5,st5,fr5⟩;have I5':=I5.pinned (stat fr5) (T.obj _ _ st5);refine wpAny_passesOwn hp (thn (hg _ s5 σ3 H5 x u _ I5' r5 (step x H5 y5)) ?_);rintro _ s6 ⟨σ6,H6,I6,q6⟩;refine wpAny_passesOwn hp (thn (hb _ s6 σ6 H6 _ I6 q6) fun f s7 q7=>?_);have again:∀ {σ7:St} {H7:Hp},Inv X (pins ++ zeK fp s5.heap) σ7 H7 s7->N σ7 H7->∃ m,m<n/\∃ i σ' H',Inv X pins σ' H' s7/\tn i s7.heap/\(∀ b ∈ fp,H' b=ab)/\W i m σ' H':=fun {σ7 H7} I7 n7=>by
   obtain⟨m',hm,w7⟩:=hN σ7 H7 n7;refine⟨m',hm,i+1,σ7,H7,I7.unpinned,T.keep _ _ _ st5 fun b hb o e=>(I7.pin (b,o) (aA _ (aA _ (zcv hb e)))).1,fun b hb=>?_,w7⟩;obtain⟨o,e,d⟩:=T.obj _ _ st5 b hb;exact(I7.pin (b,o) (aA _ (aA _ (zcv hb e)))).2.1
  cases f with
  | next=>obtain⟨σ7,H7,I7,n7⟩:=q7;exact again I7 n7
  | cont=>obtain⟨σ7,H7,I7,n7⟩:=q7;exact again I7 n7
  | brk=>obtain⟨σ7,H7,I7,q7⟩:=q7;exact⟨σ7,H7,I7.unpinned,q7⟩
  | ret v=>obtain⟨x7,σ7,H7,I7,r7,q7⟩:=q7;exact⟨x7,σ7,H7,I7.unpinned,r7,q7⟩
end
end L2
namespace L2
open PySem PySem.Spec PyProof.Rows
abbrev R2:=V->V->Hp->VK->Prop
def OpR(X:Cx)(f:ae->ae->Sem ae)(r:R2):Prop:=
 ∀ (pins:List (af × Obj)) (s:ah) (σ:St) (H:Hp) (x y:V) (v u:ae) (Q:VK),Inv X pins σ H s->RelV x v->RelV y u->r x y H Q ->
  ay (model X.prog X.w) X.A (f v u) (EP X pins σ Q) X.xe s
def UnR(X:Cx)(f:ae->Sem ae)(r:V->Hp->VK->Prop):Prop:=
 ∀ (pins:List (af × Obj)) (s:ah) (σ:St) (H:Hp) (x:V) (v:ae) (Q:VK),Inv X pins σ H s->RelV x v->r x H Q ->
  ay (model X.prog X.w) X.A (f v) (EP X pins σ Q) X.xe s
def zde(X:Cx)(f:ae)(r:List V->Hp->VK->Prop):Prop:=
 ∀ (pins:List (af × Obj)) (s:ah) (σ:St) (H:Hp) (xs:List V) (us:List ae) (Q:VK),Inv X pins σ H s->Vals xs us->r xs H Q ->
  ay (model X.prog X.w) X.A (call f us) (EP X pins σ Q) X.xe s
def tOp(r:R2)(ta tb:TE):TE:=fun σ H Q=>ta σ H fun x H1=>tb σ H1 fun y H2=>r x y H2 Q
def tUn(r:V->Hp->VK->Prop)(ta:TE):TE:=fun σ H Q=>ta σ H fun x H1=>r x H1 Q
def rI(C:Int->Int->Prop)(g:Int->Int->V):R2:=fun x y H Q=>∃ i j,x=.int i/\y=.int j/\C i j/\Q (g i j) H
def rI0(g:Int->Int->V):R2:=fun x y H Q=>∃ i j,x=.int i/\y=.int j/\Q (g i j) H
def rU(g:Int->V):V->Hp->VK->Prop:=fun x H Q=>∃ i,x=.int i/\Q (g i) H
section
variable {X:Cx}{a b c:Expr}{ta tb tc:TE}{pos:Pos}
def binT(ha:PE X a ta)(hb:PE X b tb){pins:List (af × Obj)}{s:ah}{σ:St}{H:Hp}{R:V->V->Hp->Prop}(I:Inv X pins σ H s)
  (h:ta σ H fun x H1=>tb σ H1 fun y H2=>R x y H2) {Q:ae->ah->Prop} {f:ae->ae->Sem ae}
  (hf:∀ v u s2 x y H2,Inv X pins σ H2 s2->RelV x v->RelV y u->R x y H2->ay (model X.prog X.w) X.A (f v u) Q X.xe s2) :
  ay (model X.prog X.w) X.A (eval a X.env) (fun v s₁=>ay (model X.prog X.w) X.A (eval b X.env) (fun u s₂=>ay (model X.prog X.w) X.A (f v u) Q X.xe s₂) X.xe s₁) X.xe s:=by
 refine thn (ha pins s σ H _ I h) ?_;rintro v s1 ⟨x,H1,I1,r1,q1⟩;refine thn (hb pins s1 σ H1 _ I1 q1) ?_;rintro u s2 ⟨y,H2,I2,r2,q2⟩;exact hf v u s2 x y H2 I2 r1 r2 q2
def pe_op{op:Operator}{r:R2}(ho:OpR X (binaryOp op) r)(ha:PE X a ta)(hb:PE X b tb):PE X (.BinOp a op b pos) (tOp r ta tb):=by
 intro pins s σ H Q I h;exact wpAny_BinOp (binT ha hb I h fun v u s2 x y H2 I2 rx ry q=>ho pins s2 σ H2 x y v u Q I2 rx ry q)
def pe_un{op:UnaryOp}{r:V->Hp->VK->Prop}(ho:UnR X (unaryOp op) r)(ha:PE X a ta):PE X (.UnaryOp op a pos) (tUn r ta):=by
 intro pins s σ H Q I h;exact UnaryOp_ (thn (ha pins s σ H _ I h) fun v s1 ⟨x,H1,I1,r1,q1⟩=>ho pins s1 σ H1 x v Q I1 r1 q1)
def opI{f:ae->ae->Sem ae}{C:Int->Int->Prop}{g:Int->Int->Int}
  (rule:∀ (i j:Int) (t u:Tok) (s:ah) (Q:ae->ah->Prop) (E:ae->ah->Prop),C i j->Q (.int (g i j) s.toks) { s with toks:=s.toks+1}->ay (model X.prog X.w) X.A (f (.int i t) (.int j u)) Q E s) :
  OpR X f (rI C fun i j=>.int (g i j)):=by
 intro pins s σ H x y v u Q I rx ry h;obtain⟨i,j,rfl,rfl,hc,q⟩:=h;obtain⟨t,rfl⟩:=rx;obtain⟨t',rfl⟩:=ry;exact rule i j t t' s _ _ hc ⟨.int (g i j),H,I.tok _,⟨_,rfl⟩,q⟩
def opI0{f:ae->ae->Sem ae}{g:Int->Int->Int}
  (rule:∀ (i j:Int) (t u:Tok) (s:ah) (Q:ae->ah->Prop) (E:ae->ah->Prop),Q (.int (g i j) s.toks) { s with toks:=s.toks+1}->ay (model X.prog X.w) X.A (f (.int i t) (.int j u)) Q E s) :
  OpR X f (rI0 fun i j=>.int (g i j)):=by
 intro pins s σ H x y v u Q I rx ry h;obtain⟨i,j,rfl,rfl,q⟩:=h;obtain⟨t,rfl⟩:=rx;obtain⟨t',rfl⟩:=ry;exact rule i j t t' s _ _ ⟨.int (g i j),H,I.tok _,⟨_,rfl⟩,q⟩
def opB0{f:ae->ae->Sem ae}{g:Int->Int->Bool}
  (rule:∀ (i j:Int) (t u:Tok) (s:ah) (Q:ae->ah->Prop) (E:ae->ah->Prop),Q (.bool (g i j)) s->ay (model X.prog X.w) X.A (f (.int i t) (.int j u)) Q E s) :
  OpR X f (rI0 fun i j=>.bl (g i j)):=by
 intro pins s σ H x y v u Q I rx ry h;obtain⟨i,j,rfl,rfl,q⟩:=h;obtain⟨t,rfl⟩:=rx;obtain⟨t',rfl⟩:=ry;exact rule i j t t' s _ _ ⟨.bl (g i j),H,I,rfl,q⟩
def CDiv(i j:Int):Prop:=0<j/\j<1073741824
def CPow(i j:Int):Prop:=0<=j/\j<=1000000/\i.natAbs<2 ^ 64
def CMul(i j:Int):Prop:=(-(2 ^ 64)<i/\i<2 ^ 64) \/ (-(2 ^ 64)<j/\j<2 ^ 64)
def CMul.ok{i j:Int}(h:CMul i j):IntMulOk i j:=by
 rcases h with ⟨h1,h2⟩ | ⟨h1,h2⟩
 ·exact .of_left (intBits_le_64 h1 h2)
 ·exact .of_right (intBits_le_64 h1 h2)
def op_add:OpR X (binaryOp .Add) (rI0 fun i j=>.int (i+j)):=opI0 fun _ _ _ _ _ _ _ q=>add_int q
def op_sub:OpR X (binaryOp .Sub) (rI0 fun i j=>.int (i - j)):=opI0 fun _ _ _ _ _ _ _ q=>sub_int q
def op_mul:OpR X (binaryOp .Mult) (rI CMul fun i j=>.int (i * j)):=opI fun _ _ _ _ _ _ _ hc q=>mul_int q hc.ok
def op_fdiv:OpR X (binaryOp .FloorDiv) (rI CDiv fun i j=>.int (i / j)):=opI fun i j _ _ _ _ _ hc q=>by
 have h1:(0:Int)<j:=hc.1;have h2:j<1073741824:=hc.2;exact floordiv_int (by lia) (by rw[fY i (by lia)];exact q) (.inl (PyProof.noPylong_small (by lia)))
def op_mod:OpR X (binaryOp .Mod) (rI (fun _ j=>0<j) fun i j=>.int (i % j)):=opI fun i j _ _ _ _ _ hc q=>by
 have h1:(0:Int)<j:=hc;exact mod_int' (by lia) (by rw[Int.fmod_eq_emod_of_nonneg i (by lia)];exact q)
def op_pow:OpR X (binaryOp .Pow) (rI CPow fun i j=>.int (i ^ j.toNat)):=opI fun _ _ _ _ _ _ _ hc q=>pow_int_small hc.1 hc.2.1 hc.2.2 q
def unI{f:ae->Sem ae}{g:Int->Int}
  (rule:∀ (i:Int) (t:Tok) (s:ah) (Q:ae->ah->Prop) (E:ae->ah->Prop),Q (.int (g i) s.toks) { s with toks:=s.toks+1}->ay (model X.prog X.w) X.A (f (.int i t)) Q E s) :
  UnR X f (rU fun i=>.int (g i)):=by
 intro pins s σ H x v Q I rx h;obtain⟨i,rfl,q⟩:=h;obtain⟨t,rfl⟩:=rx;exact rule i t s _ _ ⟨.int (g i),H,I.tok _,⟨_,rfl⟩,q⟩
def un_neg:UnR X (unaryOp .USub) (rU fun i=>.int (-i)):=unI fun _ _ _ _ _ q=>neg_int q
end
def scal:V->V->Bool
 | .non,.non=>true | .non,.int _=>true | .int _,.non=>true | .non,.bl _=>true | .bl _,.non=>true | .non,.str _=>true | .str _,.non=>true
 | .int _,.int _=>true | .bl _,.bl _=>true | .str _,.str _=>true | .byt _,.byt _=>true
 | .int _,.str _=>true | .str _,.int _=>true | .bl _,.str _=>true | .str _,.bl _=>true
 | _,_=>false
def rEq:R2:=fun x y H Q=>scal x y=true/\Q (.bl (decide (x=y))) H
def rNe:R2:=fun x y H Q=>scal x y=true/\Q (.bl (!decide (x=y))) H
def dec_int{i j:Int}:decide (V.int i=V.int j)=(i == j):=by
 rw[eU];simp
def dec_bl{i j:Bool}:decide (V.bl i=V.bl j)=(i == j):=by
 rw[eU];simp
def dec_str{i j:Str}:decide (V.str i=V.str j)=(i == j):=by
 rw[eU];simp
def dec_byt{i j:Array UInt8}:decide (V.byt i=V.byt j)=(i.toList == j.toList):=by
 rw[eU];cases i;cases j;simp
section
variable {X:Cx}{a b c:Expr}{ta tb tc:TE}{pos:Pos}
def zaN{pins:List (af × Obj)}{σ:St}{H:Hp}{s:ah}{Q:VK}{k k':Bool}(I:Inv X pins σ H s)(q:Q (.bl k) H)(e:k=k'):EP X pins σ Q (.bool k') s:=by
 subst e;exact⟨.bl k,H,I,rfl,q⟩
def op_eq:OpR X (bu .Eq) rEq:=by
 intro pins s σ H x y v u Q I rx ry h;obtain⟨hs,q⟩:=h;cases x with
 | non=>
  cases rx;cases y with
  | non=>cases ry;exact jK (zaN I q (by simp))
  | bl j=>cases ry;exact jL (zaN I q (by simp))
  | int j=>obtain⟨t',rfl⟩:=ry;exact jY (zaN I q (by simp))
  | str j=>obtain⟨t',rfl⟩:=ry;exact jZ (zaN I q (by simp))
  | _=>exact absurd (show false=true from hs) aQ
 | bl i=>
  cases rx;cases y with
  | non=>cases ry;exact jM (zaN I q (by simp))
  | bl j=>cases ry;exact eq_bool (zaN I q dec_bl)
  | str j=>obtain⟨t',rfl⟩:=ry;exact jN (zaN I q (by simp))
  | _=>exact absurd (show false=true from hs) aQ
 | int i=>
  obtain⟨t,rfl⟩:=rx;cases y with
  | non=>cases ry;exact j0 (zaN I q (by simp))
  | int j=>obtain⟨t',rfl⟩:=ry;exact eq_int (zaN I q dec_int)
  | str j=>obtain⟨t',rfl⟩:=ry;exact j1 (zaN I q (by simp))
  | _=>exact absurd (show false=true from hs) aQ
 | str i=>
  obtain⟨t,rfl⟩:=rx;cases y with
  | non=>cases ry;exact j2 (zaN I q (by simp))
  | bl j=>cases ry;exact jO (zaN I q (by simp))
  | int j=>obtain⟨t',rfl⟩:=ry;exact j3 (zaN I q (by simp))
  | str j=>obtain⟨t',rfl⟩:=ry;exact eq_str (zaN I q dec_str)
  | _=>exact absurd (show false=true from hs) aQ
 | byt i=>
  obtain⟨t,rfl⟩:=rx;cases y with
  | byt j=>obtain⟨t',rfl⟩:=ry;exact PySem.W.eq_bytes (zaN I q dec_byt)
  | _=>exact absurd (show false=true from hs) aQ
 | _=>cases y <;> exact absurd (show false=true from hs) aQ
def op_ne:OpR X (bu .NotEq) rNe:=by
 intro pins s σ H x y v u Q I rx ry h;obtain⟨hs,q⟩:=h;cases x with
 | non=>
  cases rx;cases y with
  | non=>cases ry;exact jP (zaN I q (by simp))
  | bl j=>cases ry;exact jQ (zaN I q (by simp))
  | int j=>obtain⟨t',rfl⟩:=ry;exact j4 (zaN I q (by simp))
  | str j=>obtain⟨t',rfl⟩:=ry;exact j5 (zaN I q (by simp))
  | _=>exact absurd (show false=true from hs) aQ
 | bl i=>
  cases rx;cases y with
  | non=>cases ry;exact jR (zaN I q (by simp))
  | bl j=>cases ry;exact ne_bool (zaN I q (congrArg not dec_bl))
  | str j=>obtain⟨t',rfl⟩:=ry;exact jS (zaN I q (by simp))
  | _=>exact absurd (show false=true from hs) aQ
 | int i=>
  obtain⟨t,rfl⟩:=rx;cases y with
  | non=>cases ry;exact j6 (zaN I q (by simp))
  | int j=>obtain⟨t',rfl⟩:=ry;exact ne_int (zaN I q (congrArg not dec_int))
  | str j=>obtain⟨t',rfl⟩:=ry;exact j7 (zaN I q (by simp))
  | _=>exact absurd (show false=true from hs) aQ
 | str i=>
  obtain⟨t,rfl⟩:=rx;cases y with
  | non=>cases ry;exact j8 (zaN I q (by simp))
  | bl j=>cases ry;exact jT (zaN I q (by simp))
  | int j=>obtain⟨t',rfl⟩:=ry;exact j9 (zaN I q (by simp))
  | str j=>obtain⟨t',rfl⟩:=ry;exact ne_str (zaN I q (congrArg not dec_str))
  | _=>exact absurd (show false=true from hs) aQ
 | byt i=>
  obtain⟨t,rfl⟩:=rx;cases y with
  | byt j=>obtain⟨t',rfl⟩:=ry;exact PySem.W.ne_bytes (zaN I q (congrArg not dec_byt))
  | _=>exact absurd (show false=true from hs) aQ
 | _=>cases y <;> exact absurd (show false=true from hs) aQ
def op_lt:OpR X (bu .Lt) (rI0 fun i j=>.bl (decide (i<j))):=opB0 fun _ _ _ _ _ _ _ q=>lt_int q
def op_le:OpR X (bu .LtE) (rI0 fun i j=>.bl (decide (i<=j))):=opB0 fun _ _ _ _ _ _ _ q=>le_int q
def op_gt:OpR X (bu .Gt) (rI0 fun i j=>.bl (decide (j<i))):=opB0 fun _ _ _ _ _ _ _ q=>gt_int q
def op_ge:OpR X (bu .GtE) (rI0 fun i j=>.bl (decide (j<=i))):=opB0 fun _ _ _ _ _ _ _ q=>ge_int q
def op_in_str:OpR X (bu .In) (fun x y H Q=>∃ i j,x=.str i/\y=.str j/\Q (.bl (!(ek j i 0 j.length 1).isEmpty)) H):=by
 intro pins s σ H x y v u Q I rx ry h;obtain⟨i,j,rfl,rfl,q⟩:=h;obtain⟨t,rfl⟩:=rx;obtain⟨t',rfl⟩:=ry;exact in_str (zaN I q rfl)
def op_isN:OpR X (bu .Is) (fun x y H Q=>y=.non/\Q (.bl (decide (x=.non))) H):=by
 intro pins s σ H x y v u Q I rx ry h;obtain⟨rfl,q⟩:=h;cases ry;refine is_none_gen (zaN I q ?_);cases x <;> first
  | (cases rx;rfl)
  | (obtain⟨t,rfl⟩:=rx;rfl)
def op_notN:OpR X (bu .IsNot) (fun x y H Q=>y=.non/\Q (.bl (!decide (x=.non))) H):=by
 intro pins s σ H x y v u Q I rx ry h;obtain⟨rfl,q⟩:=h;cases ry;refine isnot_none_gen (zaN I q ?_);cases x <;> first
  | (cases rx;rfl)
  | (obtain⟨t,rfl⟩:=rx;rfl)
def zgU:OpR X (bu .NotIn) (fun x y H Q=>∃ i j,x=.str i/\y=.str j/\Q (.bl (!(!(ek j i 0 j.length 1).isEmpty))) H):=by
 intro pins s σ H x y v u Q I rx ry h;obtain⟨i,j,rfl,rfl,q⟩:=h;obtain⟨t,rfl⟩:=rx;obtain⟨t',rfl⟩:=ry;exact notIn_str (zaN I q rfl)
def zaT(b:Expr){op:CmpOp}(h:op ≠ .In:=by decide)(h2:op ≠ .NotIn:=by decide):behindInMarks op b=false:=by
 have e1:(op == CmpOp.In)=false:=by cases op <;> first | rfl | exact absurd rfl h
 have e2:(op == CmpOp.NotIn)=false:=by cases op <;> first | rfl | exact absurd rfl h2
 cases b <;> simp[behindInMarks,e1,e2]
def pe_cmpR{op:CmpOp}{r:R2}(ho:OpR X (bu op) r)(ha:PE X a ta)(hb:PE X b tb)(hm:behindInMarks op b=false):PE X (.Compare a [op] [b] pos) (tOp r ta tb):=by
 intro pins s σ H Q I h;exact wpAny_Compare1 (binT ha hb I h fun v u s2 x y H2 I2 rx ry q=>ho pins s2 σ H2 x y v u Q I2 rx ry q) hm
def ze7(t:TE):TT:=fun σ H Q=>t σ H fun x H'=>∃ k,x=.bl k/\Q k H'
def pt_cmpR{op:CmpOp}{r:R2}(ho:OpR X (bu op) r)(ha:PE X a ta)(hb:PE X b tb)(hm:behindInMarks op b=false):PT X (.Compare a [op] [b] pos) (ze7 (tOp r ta tb)):=by
 intro pins s σ H Q I h;refine wpAny_isTrue_Compare1 (thn (ha pins s σ H _ I h) fun v s1 ⟨x,H1,I1,r1,q1⟩=>thn (hb pins s1 σ H1 _ I1 q1) fun u s2 ⟨y,H2,I2,r2,q2⟩=>
  thn (ho pins s2 σ H2 x y v u _ I2 r1 r2 q2) fun c s3 ⟨z,H3,I3,r3,k,e,q3⟩=>?_) hm
 subst e;cases r3;exact wpAny_truthy_bool ⟨H3,I3,q3⟩
def zft:(aZ:Nat)<2 ^ 63:=by rw[bC];decide
def zi4:OpR X (binaryOp .Add) (fun x y H Q=>∃ i j,x=.str i/\y=.str j/\i.length+j.length<=aZ/\Q (.str (i ++ j)) H):=by
 intro pins s σ H x y v u Q I rx ry h;obtain⟨i,j,rfl,rfl,hz,q⟩:=h;obtain⟨t,rfl⟩:=rx;obtain⟨t',rfl⟩:=ry;exact add_str (fun t' tk=>⟨.str (i ++ j),H,I.tok _,⟨_,rfl⟩,q⟩) hz
def zeA{x:V}{us:List ae}(r:Vals [x] us):∃ u,us=[u]/\RelV x u:=by
 cases r with
 | cons r1 r2=>cases r2;exact⟨_,rfl,r1⟩
def vals2{x y:V}{us:List ae}(r:Vals [x,y] us):∃ u w',us=[u,w']/\RelV x u/\RelV y w':=by
 cases r with
 | cons r1 r2=>
  cases r2 with
  | cons r3 r4=>cases r4;exact⟨_,_,rfl,r1,r3⟩
def call_abs:zde X (.builtin "abs") (fun xs H Q=>∃ i,xs=[.int i]/\Q (.int (if i<0 then -i else i)) H):=by
 intro pins s σ H xs us Q I r h;obtain⟨i,rfl,q⟩:=h;obtain⟨u,rfl,t,rfl⟩:=zeA r;exact call_abs_int fun u tk=>⟨.int (if i<0 then -i else i),H,I.tok _,⟨_,rfl⟩,q⟩
def call_int1:zde X (.type "int") (fun xs H Q=>(∃ i,xs=[.int i]/\Q (.int i) H) \/ ∃ k,xs=[.bl k]/\Q (.int (if k then 1 else 0)) H):=by
 intro pins s σ H xs us Q I r h;rcases h with ⟨i,rfl,q⟩ | ⟨k,rfl,q⟩
 ·obtain⟨u,rfl,t,rfl⟩:=zeA r;exact call_int_int ⟨.int i,H,I,⟨_,rfl⟩,q⟩
 ·obtain⟨u,rfl,r1⟩:=zeA r;cases r1;exact call_int_bool ⟨.int (if k then 1 else 0),H,I.tok _,⟨_,rfl⟩,q⟩
end
end L2
namespace L2
open PySem PySem.Spec PyProof.Rows
structure ObjM(h:bd)(x dx C:af)(mA:Str->Option ae):Prop where
 obj:h.get? x=aa (cZ C dx)
 ns:h.Ns1 dx mA
 ne:dx ≠ x
def lookIn_ns{h:bd}{dx:af}{mA:Str->Option ae}(n:h.Ns1 dx mA):∃ od,h.get? dx=aa od/\∀ name,fI name od=aa (mA name):=by
 obtain⟨o,es,ep,ho,hd,hk,_,hm⟩:=n;refine⟨o,ho,fun name=>?_⟩;have e:=hm name;unfold nsFind findBy at e;rw[<- Array.find?_toList] at e;unfold fI;rw[hd];dsimp only;split
 ·rename_i y q;rw[q] at e;exact congrArg aa e
 ·rename_i q;rw[q] at e;have a:es.toList.any (·.refKey)=false:=by
   rw[List.any_eq_false];intro y hy;obtain⟨z,t,hkey⟩:=hk y (c8.mp hy);simp[lg,hkey]
  have a':¬ es.toList.any (·.refKey)=true:=by rw[a];exact aQ
  rw[if_neg a'];exact congrArg aa e
def ObjM.look{h:bd}{x dx C:af}{mA:Str->Option ae}(I:ObjM h x dx C mA):∃ od,PySem.W.InstAt h x (cZ C dx) C (aa od)/\∀ name,fI name od=aa (mA name):=
 let⟨od,ho,hl⟩:=lookIn_ns I.ns
 ⟨od,⟨I.obj,rfl,rfl,ho⟩,hl⟩
section
variable {prog:aN}{w:aV}{A:aX}{E:ae->ah->Prop}{s:ah}{K:ag}{x dx C f:af}{mA:Str->Option ae}{name:Str}{v:ae}
def get_map{expr:Bool}{Q:ae->ah->Prop}(X:K.In s.heap)(I:ObjM s.heap x dx C mA)(hg:du K C name=true)(hh:dL K C=true)
  (ha:bq K (.ref C) name=aa ab) (hv:mA name=aa v) (hv':i8 v=true) (h:Q v { s with toks:=s.toks+1}) :
  ay (model prog w) A (getAttr (.ref x) name expr) Q E s:=by
 obtain⟨od,J,hl⟩:=I.look;exact PySem.W.get_value X J (fE hg).1 (PySem.W.findObj_own hh ha rfl (by rw[hl,hv])) hv' h
def get_meth{pl:Sem Bool}{Q:ae × List ae->ah->Prop}(X:K.In s.heap)(I:ObjM s.heap x dx C mA)(hg:du K C name=true)
  (hf:bq K (.ref C) name=aa (aa (.ref f))) (ht:dh K (.ref f)=true) (hv:mA name=ab) (h:Q (.ref f,[.ref x]) s) :
  ay (model prog w) A (getMethod (.ref x) name pl) Q E s:=by
 obtain⟨od,J,hl⟩:=I.look;exact PySem.W.method_fn X J (fE hg).1 (fE hg).2 hf (beq_iff_eq.mp ht) (by show(fI name od).map (·.isSome)=aa false;rw[hl,hv];rfl) h
def set_map{ns:List Str}{Q:Unit->ah->Prop}(X:K.In s.heap)(I:ObjM s.heap x dx C mA)
  (hs:bq K (.ref C) "__setattr__" = aa (aa (.builtin "object.__setattr__"))) (hp:eE K C=true) (ht:gQ K C name=aa ab) (hh:dL K C=true)
  (hw:iK mA ns) (hsz:ns.length<=aZ)
  (h:∀ h',ObjM h' x dx C (fun y=>if y=name then aa v else mA y)->d4 dx s.heap h'->Q () { s with heap:=h',toks:=s.toks+2}) :
  ay (model prog w) A (setAttr (.ref x) name v) Q E s:=by
 obtain⟨od,J,hl⟩:=I.look;refine PySem.W.set_plain X J hs (PySem.W.osa_open (s:={ s with toks:=s.toks+1}) (r:=ab) X J hp ht fun b=>?_);obtain⟨cd,hc,hd'⟩:=PySem.W.any_some hh;have hx:s.heap.get? x=aa ⟨.ref C,aa dx,.plain,#[]⟩:=I.obj;refine ai (aq (ai (ai (wpAny_loadPart hx (ai (kX (s:={ s with toks:=s.toks+1}) (PySem.W.looks_clsIn X hc) ?_))))));rw[hd'];refine aq (a:=aa dx) (ai (aq (ai ?_)));refine wpAny_nsSet1 (s:={ s with toks:=s.toks+1}) I.ns fun h' hn2 hs2=>?_;obtain⟨oD,esD,epD,hoD,hdD,hcD⟩:=hn2.count (k7 name v hw);refine ai (wpAny_lookBehind hoD (by rw[hdD];exact pastItsLine_dict (bp hcD (by rw[aw];lia))) ?_);exact aq (h _ ⟨(hs2.2 _ (ce I.ne)).trans I.obj,hn2,I.ne⟩ hs2)
def make_map{R:Result->ah->Prop}{vs:List ae}{kw:List (Str × ae)}(X:K.In s.heap)(hm:eV K C=true)
  (hi:bq K (.ref C) "__init__" = aa (aa (.ref f))) (hf:PySem.W.typeIn K (.ref f)=aa (.type "function"))
  (h:codeAny (model prog w) (A.under (.builtin "type.__call__" ⟨.ref C :: vs,kw⟩)) (.call (.ref f) ⟨.ref (s.heap.objs.size+1) :: vs,kw⟩) (PySem.W.InitBack (s.heap.objs.size+1) R)
   { s with heap:=(s.heap.push cC).push (cZ C s.heap.objs.size)}) :
  codeAny (model prog w) A (.call (.ref C) ⟨vs,kw⟩) R s:=by
 obtain⟨hh,g,d,t,os⟩:=s;exact PySem.W.make_core (PySem.W.makes_of X hm) (PySem.W.looks_findIn X hi) (fun self=>PySem.W.bind_fn X self hf) (.inl rfl) h
end
def zfc(f:Str)(v:V):List (Str × V)->List (Str × V)
 | []=>[(f,v)]
 | (g,x) :: r=>if g=f then (g,v) :: r else (g,x) :: zfc f v r
def zeP(f g:Str)(v:V):∀ fs:List (Str × V),(zfc f v fs).lookup g=if g=f then aa v else fs.lookup g
 | []=>by
  show cf g [(f,v)]=_;by_cases h:g=f
  ·have hb:(g == f)=true:=beq_iff_eq.mpr h;simp only[cf,hb,if_pos h]
  ·have hb:(g == f)=false:=beq_eq_false_iff_ne.mpr h;simp only[cf,hb,if_neg h]
 | (k,x) :: r=>by
  have ih:=zeP f g v r;rw[show zfc f v ((k,x) :: r)=(if k=f then (k,v) :: r else (k,x) :: zfc f v r) from rfl];by_cases hk:k=f
  ·rw[if_pos hk];by_cases h:g=k
   ·have hb:(g == k)=true:=beq_iff_eq.mpr h;simp only[cf,hb,if_pos (h.trans hk)]
   ·have hb:(g == k)=false:=beq_eq_false_iff_ne.mpr h;simp only[cf,hb,if_neg (fun e:g=f=>h (e.trans hk.symm))]
  ·rw[if_neg hk];by_cases h:g=k
   ·have hb:(g == k)=true:=beq_iff_eq.mpr h;simp only[cf,hb,if_neg (fun e:g=f=>hk (h.symm.trans e))]
   ·have hb:(g == k)=false:=beq_eq_false_iff_ne.mpr h;simp only[cf,hb];exact ih
def zeN(f:Str)(v:V):∀ fs:List (Str × V),f ∈ (zfc f v fs).map (·.1)/\∀ g,g ∈ fs.map (·.1)->g ∈ (zfc f v fs).map (·.1)
 | []=>⟨by simp[zfc],fun g h=>by simp at h⟩
 | (k,x) :: r=>by
  obtain⟨i1,i2⟩:=zeN f v r;rw[show zfc f v ((k,x) :: r)=(if k=f then (k,v) :: r else (k,x) :: zfc f v r) from rfl];by_cases hk:k=f
  ·rw[if_pos hk];subst hk;exact⟨by simp,fun g h=>by simpa using h⟩
  ·rw[if_neg hk];refine⟨?_,fun g h=>?_⟩
   ·rw[aF];exact aj _ i1
   ·rw[aF] at h ⊢;rcases az.mp h with e | e
    ·exact az.mpr (.inl e)
    ·exact aj _ (i2 g e)
def zeW(f:Str)(v:V):∀ fs:List (Str × V),(zfc f v fs).length<=fs.length+1
 | []=>by simp[zfc]
 | (k,x) :: r=>by
  have ih:=zeW f v r;rw[show zfc f v ((k,x) :: r)=(if k=f then (k,v) :: r else (k,x) :: zfc f v r) from rfl];by_cases hk:k=f
  ·rw[if_pos hk,aw,aw];lia
  ·rw[if_neg hk,aw,aw];lia
def RelO.some_of{v:V}{o:Option ae}(r:RelO (aa v) o):∃ u,o=aa u/\RelV v u:=by
 cases o with
 | none=>exact(show False from r).elim
 | some u=>exact⟨u,rfl,r⟩
def RelO.none_of{o:Option ae}(r:RelO ab o):o=ab:=by
 cases o with
 | none=>rfl
 | some u=>exact(show False from r).elim
def handed_of{v:V}{u:ae}(r:RelV v u):i8 u=true:=by
 cases v with
 | non=>cases (show u=ei from r);rfl
 | bl b=>cases (show u=gq b from r);rfl
 | int i=>obtain⟨t,e⟩:=(show ∃ t,u=dm i t from r);cases e;rfl
 | str x=>obtain⟨t,e⟩:=(show ∃ t,u=cw x t from r);cases e;rfl
 | byt b=>obtain⟨t,e⟩:=(show ∃ t,u=ku b t from r);cases e;rfl
 | flt b=>obtain⟨t,e⟩:=(show ∃ t,u=i5 b t from r);cases e;rfl
 | ref a=>cases (show u=br a from r);rfl
 | ty n=>cases (show u=cU n from r);rfl
section
variable {P:aN}{w:aV}{H H':Hp}{h h':bd}{a C dx:af}{fs fs':List (Str × V)}
def zfQ(hok:HOk P w H h)(e:H a=aa (.ins C dx fs)):∃ mA,ObjM h a dx C mA/\(∀ f,RelO (fs.lookup f) (mA f))/\iK mA (fs.map (·.1))/\fs.length<=1000/\H dx=aa (.own a):=by
 obtain⟨d,z,ne,ob,mA,n,r,q⟩:=(show ObjOk P w H h a (.ins C dx fs) from hok a _ e);exact⟨mA,⟨ob,n,ne⟩,r,q,z,d⟩
end
structure Cls(K:ag)(C:af):Prop where
 pg:du K C jA=true
 hd:dL K C=true
 po:eE K C=true
 sa:bq K (.ref C) "__setattr__" = aa (aa (.builtin "object.__setattr__"))
def Cls.get{K:ag}{C:af}(c:Cls K C)(f:Str):du K C f=true:=c.pg
def NoAttr(K:ag)(C:af)(f:Str):Prop:=bq K (.ref C) f=aa ab
def NoAttr.taker{K:ag}{C:af}{f:Str}(n:NoAttr K C f):gQ K C f=aa ab:=by
 unfold gQ;rw[show bq K (.ref C) f=aa ab from n];rfl
structure Con(K:ag)(C:af)(f:Str)(v:V)(u:ae):Prop where
 at_:bq K (.ref C) f=aa (aa u)
 rel:RelV v u
 get:iU K u "__get__" = aa ab
 cp:PySem.W.copiedNames.contains f=false
structure Meth(K:ag)(C:af)(m:Str)(f:af):Prop where
 at_:bq K (.ref C) m=aa (aa (.ref f))
 fn:dh K (.ref f)=true
 kp:aP K (.ref f)=true
section
variable {X:Cx}{pins:List (af × Obj)}{σ:St}{H:Hp}{s:ah}{a C dx:af}{fs:List (Str × V)}{f:Str}{v:V}{A:aX}{E:ae->ah->Prop}
def ziO{b:Bool}{Q:ae->ah->Prop}(I:Inv X pins σ H s)(e:H a=aa (.ins C dx fs))(c:Cls X.K C)(n:NoAttr X.K C f)(l:fs.lookup f=aa v)
  (h:∀ u s',Inv X pins σ H s'->RelV v u->Q u s'):ay (model X.prog X.w) A (getAttr (.ref a) f b) Q E s:=by
 obtain⟨mA,O,r,_,_,_⟩:=zfQ I.hok e;obtain⟨u,hu,ru⟩:=RelO.some_of (v:=v) (o:=mA f) (by rw[<- l];exact r f);exact get_map I.kIn O (c.get f) c.hd n hu (handed_of ru) (h u _ (I.tok _) ru)
def zfv{m:Str}{g:af}{pl:Sem Bool}{Q:ae × List ae->ah->Prop}(I:Inv X pins σ H s)(e:H a=aa (.ins C dx fs))(c:Cls X.K C)(k:Meth X.K C m g)(l:fs.lookup m=ab)
  (h:Q (.ref g,[.ref a]) s):ay (model X.prog X.w) A (getMethod (.ref a) m pl) Q E s:=by
 obtain⟨mA,O,r,_,_,_⟩:=zfQ I.hok e;have hn:mA m=ab:=RelO.none_of (by rw[<- l];exact r m);exact get_meth I.kIn O (c.get m) k.at_ k.fn hn h
def ziR{y:V}{u:ae}{Q:Unit->ah->Prop}(I:Inv X pins σ H s)(e:H a=aa (.ins C dx fs))(c:Cls X.K C)(n:NoAttr X.K C f)(hl:fs.length<1000)(ry:RelV y u)
  (h:∀ s',Inv X pins σ (upd H a (.ins C dx (zfc f y fs))) s'->Q () s'):ay (model X.prog X.w) A (setAttr (.ref a) f u) Q E s:=by
 obtain⟨mA,O,r,wi,_,ho⟩:=zfQ I.hok e;have hz:(fs.map (·.1)).length<=aZ:=by rw[al,bC];lia
 refine set_map I.kIn O c.sa c.po n.taker c.hd wi hz fun h' O' sb=>h _ ?_;have hd:∃ o,h'.get? dx=aa o:=let⟨o,_,_,e',_⟩:=O'.ns;⟨o,e'⟩;refine I.write (x:=a) (e:=dx) (by rw[e];exact dB) (.inr ho) (fun b q hb z=>(sb.2 b hb).trans z) hd ?_;refine⟨by rw[zam O.ne];exact ho,?_,O.ne,O'.obj,_,O'.ns,fun g=>?_,fun g hg=>?_⟩
 ·have:=zeW f y fs;lia
 ·show RelO ((zfc f y fs).lookup g) (if g=f then aa u else mA g);rw[zeP];by_cases q:g=f
  ·rw[if_pos q,if_pos q];exact ry
  ·rw[if_neg q,if_neg q];exact r g
 ·by_cases q:g=f
  ·rw[q];exact(zeN f y fs).1
  ·refine(zeN f y fs).2 g (wi g fun z=>hg ?_);show(if g=f then aa u else mA g)=ab;rw[if_neg q];exact z
def Inv.made(I:Inv X pins σ H s):Inv X pins σ (upd (upd H s.heap.objs.size (.own (s.heap.objs.size+1))) (s.heap.objs.size+1) (.ins C s.heap.objs.size []))
  { s with heap:=(s.heap.push cC).push (cZ C s.heap.objs.size)}:=by
 have e1:(s.heap.push cC).get? s.heap.objs.size=aa cC:=aB s.heap rfl;have e2:((s.heap.push cC).push (cZ C s.heap.objs.size)).get? (s.heap.objs.size+1)=aa (cZ C s.heap.objs.size):=by
  have:=aB (s.heap.push cC) (o:=cZ C s.heap.objs.size) rfl;rwa [bL] at this
 have e3:(s.heap.push cC).Ns s.heap.objs.size (fun _=>ab):=⟨cC,#[],_,e1,rfl,(fun e he=>absurd he (by simp)),fun _=>rfl⟩
 have I1:=I.laid (a:=s.heap.objs.size) (o:=.own (s.heap.objs.size+1)) (h':=s.heap.push cC) (t':=s.toks) (fun b u q=>ak _ q) (au _) ⟨_,e1⟩;refine I1.laid (a:=s.heap.objs.size+1) (o:=.ins C s.heap.objs.size []) (t':=s.toks) (fun b u q=>ak _ q) (dv (bL _ _)) ?_;have ne:s.heap.objs.size ≠ s.heap.objs.size+1:=aR (cy _);refine⟨by rw[zam ne,zai],cm _,ne,e2,fun _=>ab,(Heap.Ns1.of_empty e3).at fun o q=>ak _ q,fun _=>dB,fun y hy=>absurd rfl hy⟩
def attr_of{prog:aN}{w:aV}{env:Env}{e:Expr}{f:Str}{pos:Pos}{s:ah}{Q:ae->ah->Prop}(hb:b9 e f env (eval e env)=eval e env)
  (h:ay (model prog w) A (eval e env) (fun o s₁=>ay (model prog w) A (getAttr o f true) Q E s₁) E s):ay (model prog w) A (eval (.Attribute e f pos) env) Q E s:=
 Attribute_any_ h (by rw[arm_eval_Attribute,hb])
end
def zio(K:ag)(ta:TE)(f:Str):TE:=fun σ H Q=>ta σ H fun x H1=>∃ a C dx fs v,x=.ref a/\H1 a=aa (.ins C dx fs)/\Cls K C/\NoAttr K C f/\fs.lookup f=aa v/\Q v H1
def sFld(K:ag)(ta tv:TE)(f:Str):TS:=fun D σ H=>tv σ H fun y H1=>ta σ H1 fun x H2=>∃ a C dx fs,x=.ref a/\H2 a=aa (.ins C dx fs)/\Cls K C/\NoAttr K C f/\fs.length<1000 /\
 D.nx σ (upd H2 a (.ins C dx (zfc f y fs)))
section
variable {X:Cx}{o e value:Expr}{f:Str}{pos pos' tpos:Pos}{ta tv:TE}
def zet(he:PE X e ta)(hb:b9 e f X.env (eval e X.env)=eval e X.env):PE X (.Attribute e f pos) (zio X.K ta f):=by
 intro pins s σ H Q I h;refine attr_of hb (thn (he pins s σ H _ I h) ?_);rintro u s1 ⟨x,H1,I1,rx,a,C,dx,fs,v,ex,ea,c,n,l,q⟩;subst ex;obtain rfl:u=br a:=rx;exact ziO I1 ea c n l fun u' s2 I2 ru=>⟨v,H1,I2,ru,q⟩
def ps_fld(ha:PE X o ta)(hv:PE X value tv)(hs:swapsWith value (aa (.Attribute o f pos')) pos.line X.env=pure false):PS X (.Assign [.Attribute o f pos'] value pos) (sFld X.K ta tv f):=by
 intro pins s σ H D I h;refine plainObj_wpAny_Assign_Attribute (thn (hv pins s σ H _ I h) fun u s1 ⟨y,H1,I1,ry,q⟩=>thn (ha pins s1 σ H1 _ I1 q) ?_) hs;rintro ov s2 ⟨x,H2,I2,rx,a,C,dx,fs,ex,ea,c,n,l,q2⟩;subst ex;obtain rfl:ov=br a:=rx;exact ziR I2 ea c n l ry fun s3 I3=>⟨σ,_,I3,q2⟩
end
section
variable {X:Cx}{pins:List (af × Obj)}{σ:St}{H:Hp}{s:ah}{A:aX}{E:ae->ah->Prop}{Q:ae->ah->Prop}{c:ae}{b:Bool}
inductive TyOf(K:ag)(H:Hp):V->ae->Prop where
 | non:TyOf K H .non (.type "NoneType")
 | bl (x:Bool):TyOf K H (.bl x) (.type "bool")
 | int (i:Int):TyOf K H (.int i) (.type "int")
 | str (x:Str):TyOf K H (.str x) (.type "str")
 | flt (x:UInt64):TyOf K H (.flt x) (.type "float")
 | lst {a:af} {xs:List V} (e:H a=aa (.lst xs)):TyOf K H (.ref a) (.type "list")
 | frz {a:af} {o:Obj} {xs:List V} (e:H a=aa (.frz o (.lst xs))):TyOf K H (.ref a) (.type "list")
 | tup {a:af} {xs:List V} (e:H a=aa (.tup xs)):TyOf K H (.ref a) (.type "tuple")
 | dK {a:af} {kvs:List (Key × V)} (e:Rd H a (.dK kvs)):TyOf K H (.ref a) (.type "dict")
 | dT {a:af} {kvs:List (List Key × V)} (e:H a=aa (.dT kvs)):TyOf K H (.ref a) (.type "dict")
 | ins {a C dx:af} {fs:List (Str × V)} (e:H a=aa (.ins C dx fs)) (cl:Cls K C) (ha:bq K (.ref C) "__class__" = aa (aa (.builtin "object.__class__")))
   (hn:iU K (.builtin "object.__class__") "__get__" = aa (aa (.builtin "getset_descriptor.__get__"))) (htk:PySem.W.takesIn K (.builtin "object.__class__")=aa true)
   (hm:PySem.W.mroIn K C (.type "object")=aa true):TyOf K H (.ref a) (.ref C)
def isinst_ok{x:V}{u t:ae}(I:Inv X pins σ H s)(rx:RelV x u)(ty:TyOf X.K H x t)(e:hW X.K t c=aa b)(h:∀ tk,Q (.bool b) { s with toks:=tk}) :
  ay (model X.prog X.w) A (call (.builtin "isinstance") [u,c]) Q E s:=by
 cases ty with
 | non=>cases (show u=ei from rx);exact cu PySem.W.kitx_none I.kIn dB e (fun z=>nomatch z) h
 | bl y=>cases (show u=gq y from rx);exact cu PySem.W.kitx_bool I.kIn dB e (fun z=>nomatch z) h
 | int i=>obtain⟨t,q⟩:=(show ∃ t,u=dm i t from rx);cases q;exact cu PySem.W.kitx_int I.kIn dB e (fun z=>nomatch z) h
 | str y=>obtain⟨t,q⟩:=(show ∃ t,u=cw y t from rx);cases q;exact cu PySem.W.kitx_str I.kIn dB e (fun z=>nomatch z) h
 | flt y=>obtain⟨t,q⟩:=(show ∃ t,u=i5 y t from rx);cases q;exact cu PySem.W.kitx_float I.kIn dB e (fun z=>nomatch z) h
 | @lst a xs ea=>
  cases (show u=br a from rx);obtain⟨_,_,n,_,h1⟩:=(show ObjOk X.prog X.w H s.heap a (.lst xs) from I.hok a _ ea);exact cu iV I.kIn ⟨_,h1,rfl⟩ e (fun z=>nomatch z) h
 | @frz a ob xs ea=>
  cases (show u=br a from rx);obtain⟨_,_,_,n,_,h1⟩:=(show ObjOk X.prog X.w H s.heap a (.frz ob (.lst xs)) from I.hok a _ ea);exact cu iV I.kIn ⟨_,h1,rfl⟩ e (fun z=>nomatch z) h
 | @tup a xs ea=>
  cases (show u=br a from rx);obtain⟨_,_,_,p⟩:=(show ObjOk X.prog X.w H s.heap a (.tup xs) from I.hok a _ ea);obtain⟨o,h1,h2,_⟩:=p;exact cu PySem.W.kitx_tuple I.kIn ⟨o,h1,h2⟩ e (fun z=>nomatch z) h
 | @dK a kvs ea=>
  cases (show u=br a from rx);obtain⟨_,_,vs,_,p⟩:=(show ObjOk X.prog X.w H s.heap a (.dK kvs) from ea.ok I.hok);obtain⟨o,es,ep,h1,h2,_⟩:=p;exact cu iW I.kIn ⟨o,h1,h2.1⟩ e (fun z=>nomatch z) h
 | @dT a kvs ea=>
  cases (show u=br a from rx);obtain⟨_,_,xs,_,o,es,ep,h1,h2,_⟩:=(show ObjOk X.prog X.w H s.heap a (.dT kvs) from I.hok a _ ea);exact cu iW I.kIn ⟨o,h1,h2.1⟩ e (fun z=>nomatch z) h
 | @ins a C dx fs ea cl ha hn htk hm=>
  cases (show u=br a from rx);obtain⟨mA,O,_⟩:=zfQ I.hok ea;obtain⟨od,J,_⟩:=O.look;exact cu (PySem.W.kitx_own (cl.get _) cl.hd ha hn htk hm) I.kIn J e (fun z=>nomatch z) h
end
end L2
namespace L2
open PySem PySem.Spec PyProof.Rows
structure Room(k:Nat)(A:aX):Prop where
 hd:A.handled=ab
 dp:A.depth+3 * k+5<recursionLimit
 un:A.units+16 * k+200<cLine
def Room.mono{j k:Nat}{A:aX}(r:Room k A)(h:j<=k):Room j A:=⟨r.hd,by have:=r.dp;lia,by have:=r.un;lia⟩
def Room.deeper{k:Nat}{A:aX}(r:Room (k+1) A)(env:Env):Room k (A.deeper env):=
 ⟨r.hd,by have:=r.dp;show A.depth+1+3 * k+5<_;lia,by have:=r.un;show A.units+3+16 * k+200<_;lia⟩
def ziU{A:aX}{C:af}{us:List ae}{kw:List (Str × ae)}:(A.under (.builtin "type.__call__" ⟨.ref C :: us,kw⟩)).depth=A.depth+1:=by
 first | rfl | simp[iM,Code.weight,Code.isCreation,Code.isGuard,Code.isCaller,ky,iN,guardIds]
def ziH{A:aX}{C:af}{us:List ae}{kw:List (Str × ae)}:(A.under (.builtin "type.__call__" ⟨.ref C :: us,kw⟩)).units=A.units+1:=by
 first | rfl | simp[iM,Code.cUnits,ky,iN]
def Room.make{k:Nat}{A:aX}(r:Room (k+1) A)(C:af)(us:List ae)(kw:List (Str × ae)):Room k (A.under (.builtin "type.__call__" ⟨.ref C :: us,kw⟩)):=
 ⟨r.hd,by have:=r.dp;rw[ziU];lia,by have:=r.un;rw[ziH];lia⟩
def Room.depth{k:Nat}{A:aX}(r:Room k A):A.depth<recursionLimit:=by have:=r.dp;lia
def Room.units{k:Nat}{A:aX}(r:Room k A):A.units+64<cLine:=by have:=r.un;lia
def tNil:TA:=fun _ H Q=>Q [] H
def tCons(ta:TE)(tr:TA):TA:=fun σ H Q=>ta σ H fun x H1=>tr σ H1 fun xs H2=>Q (x :: xs) H2
section
variable {X:Cx}{e:Expr}{es:List Expr}{te:TE}{t:TA}{pos:Pos}
def zhU:PA X [] tNil:=fun _ _ _ _ H Q I h=>eF ⟨[],H,I,.nil,h⟩
def zgg(ha:PE X e te)(hr:PA X es t)(hs:ba (e :: es) X.env=(false,eval e X.env) :: ba es X.env:=by rfl):PA X (e :: es) (tCons te t):=by
 intro pos pins s σ H Q I h;rw[hs];show ay _ _ (spliced ((false,eval e X.env) :: backTo pos (ba es X.env))) _ _ s;refine d6 (thn (ha pins s σ H _ I h) ?_);rintro u s1 ⟨x,H1,I1,r1,q1⟩;refine thn (hr pos pins s1 σ H1 _ I1 q1) ?_;rintro us s2 ⟨xs,H2,I2,r2,q2⟩;exact⟨x :: xs,H2,I2,.cons r1 r2,q2⟩
def tTup(t:TA):TE:=fun σ H Q=>t σ H fun xs H1=>xs.length<=aZ/\∀ p,H1 p=ab->Q (.ref p) (upd H1 p (.tup xs))
def tLst(t:TA):TE:=fun σ H Q=>t σ H fun xs H1=>xs.length<=aZ/\∀ p,H1 p=ab->Q (.ref p) (upd H1 p (.lst xs))
def pe_tup{x1}(h:PA X es t):PE X (.Tuple es x1 pos) (tTup t):=by
 intro pins s σ H Q I hq;refine wpAny_Tuple_spliced (thn (h pos pins s σ H _ I hq) fun us s1 ⟨xs,H1,I1,r,z,q⟩=>⟨by rw[<- r.length];exact z,?_⟩);have hf:H1 s1.heap.objs.size=ab:=I1.hok.fresh (au _);refine⟨.ref s1.heap.objs.size,upd H1 s1.heap.objs.size (.tup xs),I1.laid (t':=s1.toks) (fun b u e=>ak _ e) (au _) ?_,rfl,q _ hf⟩;exact⟨z,us,r,⟨_,aB _ rfl,rfl,_,rfl⟩⟩
def pe_lst(h:PA X es t):PE X (.List es pos) (tLst t):=by
 intro pins s σ H Q I hq;refine wpAny_List_spliced (thn (h pos pins s σ H _ I hq) fun us s1 ⟨xs,H1,I1,r,z,q⟩=>⟨by rw[<- r.length];exact z,?_⟩);have hf:H1 s1.heap.objs.size=ab:=I1.hok.fresh (au _);refine⟨.ref s1.heap.objs.size,upd H1 s1.heap.objs.size (.lst xs),I1.laid (t':=s1.toks) (fun b u e=>ak _ e) (au _) ?_,rfl,q _ hf⟩;exact⟨z,us,0,r,aB _ rfl⟩
end
abbrev Sp:=List V->Hp->VK->XK->Prop
abbrev CXT:=List Env->Hp->ah->XK->ae->ah->Prop
structure Env0(P:aN)(w:aV)(K:ag)(mg:Str->Option ae)(base:bd)(A:aX)(outer:List Env)(s:ah)(H:Hp):Prop where
 frames:A.frames=aa outer
 mod:Mod K mg base
 bs:∀ b o,base.get? b=aa o->s.heap.get? b=aa o/\H b=ab
 bsz:base.objs.size<=s.heap.objs.size
 funs:s.heap.FunFrames base outer
 frf:∀ b ∈ frs outer,H b=ab
 hok:HOk P w H s.heap
 bare:AllBare s.gens
def CE(outer:List Env)(P:aN)(w:aV)(H:Hp)(s:ah)(Q:VK)(u:ae)(s':ah):Prop:=
 ∃ v H',s'.os=s.os/\AllBare s'.gens/\Un (frs outer) [] H H' s.heap s'.heap/\HOk P w H' s'.heap/\RelV v u/\Q v H'
def CR(CX:CXT)(outer:List Env)(P:aN)(w:aV)(H:Hp)(s:ah)(Q:VK)(E:XK)(r:Result)(s':ah):Prop:=
 match r with
 | .ok (.ret u)=>CE outer P w H s Q u s'
 | .ok _=>False
 | .error e=>CX outer H s E e s'
structure FnOk(P:aN)(w:aV)(K:ag)(mg:Str->Option ae)(base:bd)(CX:CXT)(k:Nat)(f:af)(fd:bw)(ps:List Str)(sp:Sp):Prop where
 len:∀ vs H Q E,sp vs H Q E->vs.length=ps.length
 run:∀ (A:aX) (outer:List Env) (s:ah) (H:Hp) (args:Args) (us:List ae) (vs:List V) (Q:VK) (E:XK),Room k A->Env0 P w K mg base A outer s H->BindsTo s fd args (ps.zip us)->Vals vs us->sp vs H Q E ->
  codeAny (model P w) A (.call (.ref f) args) (CR CX outer P w H s Q E) s
def FnOk.imp{P:aN}{w:aV}{K:ag}{mg:Str->Option ae}{base:bd}{CX:CXT}{k:Nat}{f:af}{fd:bw}{ps:List Str}{sp sp':Sp}(F:FnOk P w K mg base CX k f fd ps sp)
  (h:∀ vs H Q E,sp' vs H Q E->sp vs H Q E):FnOk P w K mg base CX k f fd ps sp':=
 ⟨fun vs H Q E q=>F.len vs H Q E (h _ _ _ _ q),fun A outer s H args us vs Q E hr he hb hv hs=>F.run A outer s H args us vs Q E hr he hb hv (h _ _ _ _ hs)⟩
def Env0.make{P:aN}{w:aV}{K:ag}{mg:Str->Option ae}{base:bd}{A:aX}{outer:List Env}{s:ah}{H:Hp}(e:Env0 P w K mg base A outer s H)(C:af)(us:List ae)(kw:List (Str × ae)) :
  Env0 P w K mg base (A.under (.builtin "type.__call__" ⟨.ref C :: us,kw⟩)) outer s H:=⟨by first | exact e.frames | (simpa [iM,Code.envs,iN,pushEnvs] using e.frames),e.mod,e.bs,e.bsz,e.funs,e.frf,e.hok,e.bare⟩
section
variable {X:Cx}{pins:List (af × Obj)}{σ:St}{H:Hp}{s s':ah}
def Inv.env0(I:Inv X pins σ H s):Env0 X.prog X.w X.K X.mg X.base X.A X.stack s H:=
 ⟨I.ok.frames,I.ok.mod,I.bs,bp I.ok.bsz I.sz,I.stack,I.stkFree,I.hok,I.bare⟩
def Inv.after{Q:VK}{u:ae}(I:Inv X pins σ H s)(h:CE X.stack X.prog X.w H s Q u s'):EP X pins σ Q u s':=by
 obtain⟨v,H',os,bare,un,hok,r,q⟩:=h;obtain⟨hh,g,d,t,os'⟩:=s';obtain rfl:os'=s.os:=os;exact⟨v,H',I.call (h':=hh) (g':=g) (d':=d) (t':=t) (ch:=[]) un hok bare (fun b z=>absurd z (by simp)),r,q⟩
end
def tCall(sp:Sp)(dvs:List V)(E:XK)(t:TA):TE:=fun σ H Q=>t σ H fun vs H1=>sp (vs ++ dvs) H1 Q E
def tMeth(C:af)(m:Str)(sp:Sp)(dvs:List V)(E:XK)(ta:TE)(t:TA):TE:=fun σ H Q=>ta σ H fun x H1=>∃ a dx fs,x=.ref a/\H1 a=aa (.ins C dx fs)/\fs.lookup m=ab /\
 t σ H1 fun vs H2=>sp (x :: (vs ++ dvs)) H2 Q E
def tMake(C:af)(sp:Sp)(dvs:List V)(E:XK)(t:TA):TE:=fun σ H Q=>t σ H fun vs H1=>∀ x dx,H1 x=ab->H1 dx=ab->dx ≠ x ->
 sp (.ref x :: (vs ++ dvs)) (upd (upd H1 dx (.own x)) x (.ins C dx [])) (fun v H2=>v=.non/\Q (.ref x) H2) E
def Binds(K:ag)(fd:bw)(ps:List Str)(ds:List ae):Prop:=
 ∀ (s:ah) (us:List ae),K.In s.heap->(us ++ ds).length=ps.length->BindsTo s fd ⟨us,[]⟩ (ps.zip (us ++ ds))
def Binds.all{K:ag}{fd:bw}{ps:List Str}(h:∀ us:List ae,us.length=ps.length->bindArgs fd ⟨us,[]⟩=pure (ps.zip us)):Binds K fd ps []:=fun s us _ hl=>by
 rw[aY] at hl ⊢;exact .of_eq (h us hl)
def zbX(CX:CXT)(X:Cx)(E:XK):Prop:=∀ (pins:List (af × Obj)) (σ:St) (H:Hp) (s:ah) (e:ae) (s':ah),Inv X pins σ H s->CX X.stack H s E e s'->X.xe e s'
section
variable {X:Cx}{CX:CXT}{k:Nat}{f C:af}{fd:bw}{ps:List Str}{sp:Sp}{dvs:List V}{ds:List ae}{E:XK}{x m:Str}{p pos apos:Pos}{e o:Expr}{es:List Expr}{ta:TE}{t:TA}
def run_fn{pins:List (af × Obj)}{σ:St}{H:Hp}{s:ah}{Q:VK}{us:List ae}{vs:List V}(F:FnOk X.prog X.w X.K X.mg X.base CX k f fd ps sp)(hr:Room k X.A)(hb:Binds X.K fd ps ds)(hd:Vals dvs ds)(hx:zbX CX X E)
  (I:Inv X pins σ H s) (r:Vals vs us) (h:sp (vs ++ dvs) H Q E):ay (model X.prog X.w) X.A (call (.ref f) us) (EP X pins σ Q) X.xe s:=by
 have r2:Vals (vs ++ dvs) (us ++ ds):=r.append hd;have hl:(us ++ ds).length=ps.length:=by rw[<- r2.length];exact F.len _ _ _ _ h
 refine wpAny_call (codeAny_mono (F.run X.A X.stack s H ⟨us,[]⟩ (us ++ ds) (vs ++ dvs) Q E hr I.env0 (hb s us I.kIn hl) r2 h) fun r s' hq=>?_);cases r with
 | error e=>exact hx pins σ H s e s' I hq
 | ok fl=>
  cases fl with
  | ret u=>exact I.after hq
  | next=>exact cc hq
  | brk=>exact cc hq
  | cont=>exact cc hq
def pe_call(F:FnOk X.prog X.w X.K X.mg X.base CX k f fd ps sp)(hr:Room k X.A)(hg:Gl X x)(hm:X.mg x=aa (.ref f))(hk:aP X.K (.ref f)=true)(hb:Binds X.K fd ps ds)(hd:Vals dvs ds)(hx:zbX CX X E)
  (ha:PA X (e :: es) t) (hdb:(x == ("__debug__" : Str))=false:=by decide) (he:ba (e :: es) X.env=(false,eval e X.env) :: ba es X.env:=by rfl) (hpl:(backTo pos (ba es X.env)).any (·.1)=false:=by rfl) :
  PE X (.Call (.Name x p) (e :: es) [] pos) (tCall sp dvs E t):=by
 intro pins s σ H Q I h;refine bQ (zfY I hg hm ?_ hdb);refine fO (h₀:=X.base) I.ok.mod.kin hk (thn (ha pos pins s σ H _ I h) fun us s1 ⟨vs,H1,I1,r,q⟩=>⟨I1.kIn,?_⟩) he hpl;exact run_fn F hr hb hd hx I1 r q
def pe_meth{pl:Sem Bool}(he:PE X o ta)(c:Cls X.K C)(hm:Meth X.K C m f)(F:FnOk X.prog X.w X.K X.mg X.base CX k f fd ps sp)(hr:Room k X.A)(hb:Binds X.K fd ps ds)(hd:Vals dvs ds)(hx:zbX CX X E)(ha:PA X (e :: es) t)
  (hst:ba (e :: es) X.env=(false,eval e X.env) :: ba es X.env:=by rfl) (hpl:(backTo pos (ba es X.env)).any (·.1)=false:=by rfl)
  (ht:eval (.Call (.Attribute o m apos) (e :: es) [] pos) X.env=(do
   let ov <- eval o X.env
   standAt apos.atName
   let (f,first) <- holding [ov] (getMethod ov m pl)
   callWith pos f first (backTo pos (ba (e :: es) X.env)) (backToKw pos (keywordEach [] X.env))):=by rfl) :
  PE X (.Call (.Attribute o m apos) (e :: es) [] pos) (tMeth C m sp dvs E ta t):=by
 intro pins s σ H Q I h;refine ia (pl:=pl) (thn (he pins s σ H _ I h) ?_) ht;rintro u s1 ⟨x,H1,I1,rx,a,dx,fs,ex,ea,l,q⟩;subst ex;obtain rfl:u=br a:=rx;refine zfv I1 ea c hm l ?_;refine fO (first:=[.ref a]) (h₀:=X.base) I.ok.mod.kin hm.kp (thn (ha pos pins s1 σ H1 _ I1 q) fun us s2 ⟨vs,H2,I2,r,q2⟩=>⟨I2.kIn,?_⟩) hst hpl;exact run_fn (us:=.ref a :: us) (vs:=.ref a :: vs) F hr hb hd hx I2 (.cons rfl r) q2
def pe_meth0{pl:Sem Bool}(he:PE X o ta)(c:Cls X.K C)(hm:Meth X.K C m f)(F:FnOk X.prog X.w X.K X.mg X.base CX k f fd ps sp)(hr:Room k X.A)(hb:Binds X.K fd ps ds)(hd:Vals dvs ds)(hx:zbX CX X E)
  (ht:eval (.Call (.Attribute o m apos) [] [] pos) X.env=(do
   let ov <- eval o X.env
   standAt apos.atName
   let (f,first) <- holding [ov] (getMethod ov m pl)
   callWith pos f first (backTo pos (ba [] X.env)) (backToKw pos (keywordEach [] X.env))):=by rfl) :
  PE X (.Call (.Attribute o m apos) [] [] pos) (tMeth C m sp dvs E ta tNil):=by
 intro pins s σ H Q I h;refine ia (pl:=pl) (thn (he pins s σ H _ I h) ?_) ht;rintro u s1 ⟨x,H1,I1,rx,a,dx,fs,ex,ea,l,q⟩;subst ex;obtain rfl:u=br a:=rx;refine zfv I1 ea c hm l ?_;exact iy (first:=[.ref a]) I1.kIn hm.kp (run_fn (us:=[.ref a]) (vs:=[.ref a]) F hr hb hd hx I1 (.cons rfl .nil) q)
structure Mk(K:ag)(C f:af):Prop where
 makes:eV K C=true
 init:bq K (.ref C) "__init__" = aa (aa (.ref f))
 fn:dh K (.ref f)=true
 kp:aP K (.ref C)=true
def zh7{pins:List (af × Obj)}{σ:St}{H:Hp}{s:ah}{Q:VK}{us:List ae}{vs:List V}(M:Mk X.K C f)(F:FnOk X.prog X.w X.K X.mg X.base CX k f fd ps sp)(hr:Room (k+1) X.A)(hb:Binds X.K fd ps ds)(hd:Vals dvs ds)
  (hx:zbX CX X E) (I:Inv X pins σ H s) (r:Vals vs us)
  (h:∀ x dx,H x=ab->H dx=ab->dx ≠ x->sp (.ref x :: (vs ++ dvs)) (upd (upd H dx (.own x)) x (.ins C dx [])) (fun v H2=>v=.non/\Q (.ref x) H2) E) :
  ay (model X.prog X.w) X.A (call (.ref C) us) (EP X pins σ Q) X.xe s:=by
 have hq:=h (s.heap.objs.size+1) s.heap.objs.size (I.hok.fresh (cg _)) (I.hok.fresh (au _)) (aR (cy _));have I2:=Inv.made (C:=C) I;have r2:Vals (V.ref (s.heap.objs.size+1) :: (vs ++ dvs)) (br (s.heap.objs.size+1) :: (us ++ ds)):=.cons rfl (r.append hd);have hl:(br (s.heap.objs.size+1) :: us ++ ds).length=ps.length:=by
  have e:=r2.length;rw[F.len _ _ _ _ hq] at e;exact e.symm
 refine wpAny_call (make_map (f:=f) I.kIn M.makes M.init (beq_iff_eq.mp M.fn) (codeAny_mono (F.run _ X.stack _ _ ⟨br (s.heap.objs.size+1) :: us,[]⟩ (br (s.heap.objs.size+1) :: (us ++ ds)) _ _ E (hr.make C us [])
  (I2.env0.make C us []) (hb _ (br (s.heap.objs.size+1) :: us) I2.kIn hl) r2 hq) fun r s' hq'=>?_))
 cases r with
 | error e=>exact hx pins σ _ _ e s' I2 hq'
 | ok fl=>
  cases fl with
  | ret u=>
   obtain⟨v,H',I3,rv,ev,q3⟩:=I2.after hq';subst ev;exact⟨rv,⟨V.ref (s.heap.objs.size+1),H',I3,rfl,q3⟩⟩
  | next=>exact cc hq'
  | brk=>exact cc hq'
  | cont=>exact cc hq'
def pe_make(M:Mk X.K C f)(F:FnOk X.prog X.w X.K X.mg X.base CX k f fd ps sp)(hr:Room (k+1) X.A)(hg:Gl X x)(hm:X.mg x=aa (.ref C))(hb:Binds X.K fd ps ds)(hd:Vals dvs ds)(hx:zbX CX X E)
  (ha:PA X (e :: es) t) (hdb:(x == ("__debug__" : Str))=false:=by decide) (he:ba (e :: es) X.env=(false,eval e X.env) :: ba es X.env:=by rfl) (hpl:(backTo pos (ba es X.env)).any (·.1)=false:=by rfl) :
  PE X (.Call (.Name x p) (e :: es) [] pos) (tMake C sp dvs E t):=by
 intro pins s σ H Q I h;refine bQ (zfY I hg hm ?_ hdb);refine fO (h₀:=X.base) I.ok.mod.kin M.kp (thn (ha pos pins s σ H _ I h) fun us s1 ⟨vs,H1,I1,r,q⟩=>⟨I1.kIn,?_⟩) he hpl;exact zh7 M F hr hb hd hx I1 r q
def pe_make0(M:Mk X.K C f)(F:FnOk X.prog X.w X.K X.mg X.base CX k f fd ps sp)(hr:Room (k+1) X.A)(hg:Gl X x)(hm:X.mg x=aa (.ref C))(hb:Binds X.K fd ps ds)(hd:Vals dvs ds)(hx:zbX CX X E)
  (hdb:(x == ("__debug__" : Str))=false:=by decide):PE X (.Call (.Name x p) [] [] pos) (tMake C sp dvs E tNil):=by
 intro pins s σ H Q I h;refine bQ (zfY I hg hm ?_ hdb);exact iy I.kIn M.kp (zh7 (us:=[]) M F hr hb hd hx I .nil h)
end
def PK(X:Cx)(kws:List Keyword)(t:TA):Prop:=
 ∀ (pos:Pos) (pins:List (af × Obj)) (s:ah) (σ:St) (H:Hp) (Q:List V->Hp->Prop),Inv X pins σ H s->t σ H Q->ay (model X.prog X.w) X.A (evalAll ((backToKw pos (keywordEach kws X.env)).map (·.2))) (AP X pins σ Q) X.xe s
section
variable {X:Cx}{CX:CXT}{k:Nat}{f C:af}{fd:bw}{ps ks:List Str}{sp:Sp}{E:XK}{x m:Str}{p pos apos kpos:Pos}{e o:Expr}{es:List Expr}{kws:List Keyword}{te ta:TE}{t tk:TA}{nm:Option Str}
def pk_nil:PK X [] tNil:=fun _ _ _ _ H Q I h=>wpAny_evalAll_nil ⟨[],H,I,.nil,h⟩
def pk_cons(ha:PE X e te)(hr:PK X kws t):PK X (⟨nm,e,kpos⟩ :: kws) (tCons te t):=by
 intro pos pins s σ H Q I h;show ay _ _ (evalAll ((do let v <- eval e X.env;standAt pos;pure v) :: (backToKw pos (keywordEach kws X.env)).map (·.2))) _ _ s;refine wpAny_evalAll_cons (ai (thn (ha pins s σ H _ I h) fun u s1 ⟨x,H1,I1,r1,q1⟩=>ai (wpAny_standAt (aq ?_))));refine thn (hr pos pins s1 σ H1 _ I1 q1) ?_;rintro us s2 ⟨xs,H2,I2,r2,q2⟩;exact⟨x :: xs,H2,I2,.cons r1 r2,q2⟩
structure KBinds(K:ag)(fd:bw)(ps ks:List Str)(g:List ae->List ae->List ae)(gV:List V->List V->List V):Prop where
 to:∀ (s:ah) (us ws:List ae),K.In s.heap->(g us ws).length=ps.length->BindsTo s fd ⟨us,ks.zip ws⟩ (ps.zip (g us ws))
 rel:∀ {vs:List V} {us:List ae} {zs:List V} {ws:List ae},Vals vs us->Vals zs ws->Vals (gV vs zs) (g us ws)
variable {g:List ae->List ae->List ae}{gV:List V->List V->List V}
end
structure FnScope(N P:List Str)(sc:Scope):Prop where
 kind:sc.kind=.function
 co:sc.isCoroutine=false
 gen:sc.isGenerator=false
 nd:N.Nodup
 pre:N.take P.length=P
 par:∀ x ∈ P,sc.names.lookup x=aa .local \/ sc.names.lookup x=aa .cell
 nofree:∀ y ∈ sc.names,y.2 ≠ .free
def zgo{kindOf:Str->Option NameKind}{x:Str}:∀ {binds:List (Str × ae)} {m:Str->Option ae},(∀ v,(x,v) ∉ binds)->bindL kindOf binds m x=m x
 | [],_,_=>rfl
 | (n,v) :: r,m,h=>by
  unfold bindL;rw[zgo fun w hw=>h w (aj _ hw)];split
  ·have:x ≠ n:=by rintro rfl;exact h v am
   simp[this]
  ·rfl
def zgG{kindOf:Str->Option NameKind}{x:Str}:∀ {binds:List (Str × ae)} {m:Str->Option ae},(∀ v,(x,v) ∉ binds)->bindC kindOf binds m x=m x
 | [],_,_=>rfl
 | (n,v) :: r,m,h=>by
  unfold bindC;rw[zgG fun w hw=>h w (aj _ hw)];split
  ·rfl
  ·have:x ≠ n:=by rintro rfl;exact h v am
   simp[this]
def zgI{kindOf:Str->Option NameKind}{x:Str}{v:ae}:∀ {P:List Str} {vs:List ae} {i:Nat} {m:Str->Option ae},P.Nodup->P[i]? = aa x->vs[i]? = aa v->kindOf x=aa .local ->
  bindL kindOf (P.zip vs) m x=aa v
 | [],_,_,_,_,h,_,_=>by simp at h
 | _ :: _,[],_,_,_,_,h,_=>by simp at h
 | p :: P,w :: vs,0,m,nd,h1,h2,hk=>by
  simp at h1 h2;subst h1;subst h2;show bindL kindOf ((p,w) :: P.zip vs) m p=_;unfold bindL;rw[zgo fun v hv=>(aG.mp nd).1 (gR hv).1,if_pos hk];simp
 | p :: P,w :: vs,i+1,m,nd,h1,h2,hk=>by
  show bindL kindOf ((p,w) :: P.zip vs) m x=_;unfold bindL;exact zgI (i:=i) (aG.mp nd).2 (by simpa using h1) (by simpa using h2) hk
def zgS{kindOf:Str->Option NameKind}{x:Str}{v:ae}:∀ {P:List Str} {vs:List ae} {i:Nat} {m:Str->Option ae},P.Nodup->P[i]? = aa x->vs[i]? = aa v->kindOf x ≠ aa .local ->
  bindC kindOf (P.zip vs) m x=aa v
 | [],_,_,_,_,h,_,_=>by simp at h
 | _ :: _,[],_,_,_,_,h,_=>by simp at h
 | p :: P,w :: vs,0,m,nd,h1,h2,hk=>by
  simp at h1 h2;subst h1;subst h2;show bindC kindOf ((p,w) :: P.zip vs) m p=_;unfold bindC;rw[zgG fun v hv=>(aG.mp nd).1 (gR hv).1,if_neg hk];simp
 | p :: P,w :: vs,i+1,m,nd,h1,h2,hk=>by
  show bindC kindOf ((p,w) :: P.zip vs) m x=_;unfold bindC;exact zgS (i:=i) (aG.mp nd).2 (by simpa using h1) (by simpa using h2) hk
def start(N:List Str)(vs:List V):St:=vs.map aa ++ aJ (N.length - vs.length) ab
def cxOf(CX:CXT)(P:aN)(w:aV)(K:ag)(mg:Str->Option ae)(base:bd)(N:List Str)(qual:Str)(scope:Scope)(f:af)(cd:ae)(A:aX)(outer:List Env)(s:ah)(H:Hp)(E:XK):Cx where
 prog:=P
 w:=w
 K:=K
 mg:=mg
 base:=base
 A:=A.deeper (envOfC qual scope s.heap.objs.size f cd)
 N:=N
 s₀:=s
 H₀:=H
 env:=envOfC qual scope s.heap.objs.size f cd
 outer:=outer
 stack:=envOfC qual scope s.heap.objs.size f cd :: outer
 ex:=[]
 calm:=true
 fn:=fun _=>true
 pn:=[]
 xe:=fun e s'=>ay (model P w) (A.deeper (envOfC qual scope s.heap.objs.size f cd)) (leaving (envOfC qual scope s.heap.objs.size f cd) e) (fun _ s''=>CX outer H s E e s'') (fun e' s''=>CX outer H s E e' s'') s'
def zhJ{sc:Scope}{n:Nat}{x:Str}(h:sc.names.lookup x=aa .cell):∃ c,(cellsFrom n sc.names []).lookup x=aa c:=by
 have q:=gZ sc.names n [] (.inl h);exact Option.isSome_iff_exists.mp q
def inv_start{CX:CXT}{P:aN}{w:aV}{K:ag}{mg:Str->Option ae}{base:bd}{N ps:List Str}{qual:Str}{scope:Scope}{f:af}{cd:ae}{A:aX}{outer:List Env}{s s1:ah}{H:Hp}{E:XK}{us:List ae}{vs:List V}
  (S:FnScope N ps scope) (hd:A.handled=ab) (e0:Env0 P w K mg base A outer s H) (hl:vs.length=ps.length) (r:Vals vs us)
  (x:InCallC s s.heap.objs.size (bindL (envOfC qual scope s.heap.objs.size f cd).kindOf (ps.zip us) fun _=>ab) (cellsFrom (s.heap.objs.size+1) scope.names []) (bindC (envOfC qual scope s.heap.objs.size f cd).kindOf (ps.zip us) fun _=>ab) s1) :
  Inv (cxOf CX P w K mg base N qual scope f cd A outer s H E) [] (start N vs) H s1:=by
 have hpl:ps.length<=N.length:=by have:=congrArg cY S.pre;rw[cz] at this;lia
 obtain⟨h1,tk,rfl,hk⟩:=x.done;have noA:∀ b:af,b ∉ (cxOf CX P w K mg base N qual scope f cd A outer s H E).ex:=fun b z=>absurd (show b ∈ ([]:List af) from z) (by simp);refine⟨⟨e0.mod,S.kind,rfl,rfl,au _,fun y z c h1 h2=>?_,fun y hy=>?_,fun y c _ h=>?_,fun _=>hd,Around.frames_deeper e0.frames,.inr ⟨rfl,rfl⟩,fun b z=>absurd z (noA b),e0.bs,e0.bsz,fun b _ _=>noA b,fun b z=>absurd z (noA b),e0.funs,e0.frf⟩,
  rfl,e0.bare,Un.kept hk,⟨_,x.toInCall.ns,fun i y v h1 h2 h3=>?_⟩,fun y c h=>⟨_,x.cell y c h⟩,e0.hok.fresh (au _),fun y c h=>?_,fun p hp=>absurd (show p ∈ ([]:List (af × Obj)) from hp) (by simp),e0.hok.kept hk,?_⟩
 ·exact name_of_addr x.apart (bT h1) (bT h2)
 ·have hy:scope.names.lookup y=aa .cell \/ scope.names.lookup y=aa .free:=hy;rcases hy with hy | hy
  ·exact zhJ hy
  ·exact absurd rfl (S.nofree _ (bT hy))
 ·exact dq (x.above y c (bT h))
 ·have hi:i<vs.length:=by
   unfold start at h2;by_cases hi:i<vs.length
   ·exact hi
   ·rw[cA (by simpa using hi)] at h2;rw[dc] at h2;split at h2 <;> cases h2
  have ha:vs[i]? = aa v:=by
   unfold start at h2;rw[cE (by simpa using hi),aD] at h2;cases e:vs[i]? with
   | none=>rw[e] at h2;cases h2
   | some a=>rw[e] at h2;cases h2;rfl
  obtain⟨u,hu,rv⟩:=r.get ha;have hp:ps[i]? = aa y:=by
   rw[<- S.pre,d7 (by lia)];exact h1
  have ndP:ps.Nodup:=by rw[<- S.pre];exact S.nd.sublist (List.take_sublist _ _)
  refine⟨u,rv,?_⟩;rcases S.par y (cL hp) with k | k
  ·exact .inl ⟨k,zgI ndP hp hu k⟩
  ·obtain⟨c,e⟩:=zhJ (n:=s.heap.objs.size+1) k;refine .inr ⟨.inl k,c,e,?_⟩;have q:=x.cell y c e;rw[zgS ndP hp hu (by show scope.names.lookup y ≠ _;rw[k];decide)] at q;exact q
 ·exact e0.hok.fresh (dq (x.above y c (bT h)))
 ·unfold start;show _=N.length;rw[aC,al,cH];lia
def fn_of{CX:CXT}{P:aN}{w:aV}{K:ag}{mg:Str->Option ae}{base:bd}{k:Nat}{f:af}{name qual:Str}{params:Arguments}{body:List Stmt}{scope:Scope}{dV kV doc pm cdv ct oc:ae}{an od:Option af}
  {osl:Array (Option ae)} {N ps:List Str} {sp:Sp} (lk:K.lookup f=aa ⟨oc,od,.func (aW name qual params body scope dV kV doc pm an cdv ct),osl⟩) (hcd:aT K cdv qual=true) (S:FnScope N ps scope)
  (len:∀ vs H Q E,sp vs H Q E->vs.length=ps.length)
  (hbody:∀ (A:aX) (outer:List Env) (s:ah) (H:Hp) (vs:List V) (Q:VK) (E:XK),Room k (A.deeper (envOfC qual scope s.heap.objs.size f cdv))->sp vs H Q E ->
   ∃ t,PSs (cxOf CX P w K mg base N qual scope f cdv A outer s H E) body t/\t { nx:=fun _ H'=>Q .non H',rt:=Q} (start N vs) H) :
  FnOk P w K mg base CX (k+1) f (aW name qual params body scope dV kV doc pm an cdv ct) ps sp:=by
 refine⟨len,fun A outer s H args us vs Q E hr e0 hb r hsp=>?_⟩;have hl:=len _ _ _ _ hsp;have KX:K.In s.heap:=e0.mod.kin.keeps fun b o e=>(e0.bs b o e).1;have lim:s.heap.NoLimit:=e0.mod.nolimit.keeps fun b o e=>(e0.bs b o e).1;have hkind:∀ y ∈ ps.zip us,scope.names.lookup y.1=aa .local \/ (scope.names.lookup y.1=aa .cell/\((cellsFrom (s.heap.objs.size+1) scope.names []).lookup y.1).isSome=true):=fun⟨n,v⟩ hy=>by
  rcases S.par n (gR hy).1 with q | q
  ·exact .inl q
  ·exact .inr ⟨q,gZ _ _ _ (.inl q)⟩
 refine codeAny_call_function hr.depth (KX _ _ lk) rfl S.co S.gen rfl (PySem.W.codeRec_of KX hcd) (hb _ _ _ _ ?_);refine wpAny_newFunctionEnv_cells S.kind hkind fun env he s1 x=>?_;subst he;refine⟨lim.keeps x.toInCall.keep,codeAny_func ?_⟩;obtain⟨t,ht,hq⟩:=hbody A outer s H vs Q E (hr.deeper _) hsp;have I:Inv (cxOf CX P w K mg base N qual scope f cdv A outer s H E) [] (start N vs) H s1:=inv_start S hr.hd e0 hl r x;refine bR (ht [] s1 (start N vs) H _ I hq) (fun fl s' hs=>?_) fun e s' hs=>hs;have fin:∀ {σ':St} {H':Hp} {v:V} {u:ae},Inv (cxOf CX P w K mg base N qual scope f cdv A outer s H E) [] σ' H' s'->RelV v u->Q v H'->CE outer P w H s Q u s':=
  fun {σ' H' v u} J rv q=>⟨v,H',J.os,J.bare,J.base,J.hok,rv,q⟩
 cases fl with
 | ret u=>
  obtain⟨v,σ',H',J,rv,q⟩:=hs;exact fin J rv q
 | next=>
  obtain⟨σ',H',J,q⟩:=hs;exact fin (v:=V.non) (u:=ei) J rfl q
 | brk=>
  obtain⟨_,_,_,q⟩:=hs;exact cc q
 | cont=>
  obtain⟨_,_,_,q⟩:=hs;exact cc q
end L2
namespace L2
open PySem PySem.Spec PyProof.Rows
section
variable {X:Cx}{x:Str}{p pos:Pos}{e:Expr}{es:List Expr}{t:TA}{id T:String}{r:List V->Hp->VK->Prop}
def tCB(r:List V->Hp->VK->Prop)(t:TA):TE:=fun σ H Q=>t σ H fun vs H1=>r vs H1 Q
def pe_callB(hc:zde X (.builtin id) r)(hg:Gl X x)(hm:X.mg x=ab)(hv:aS x=aa (.builtin id))(ha:PA X (e :: es) t)(hn:x ≠ "__name__" :=by decide)(hdb:(x == ("__debug__" : Str))=false:=by decide)
  (he:ba (e :: es) X.env=(false,eval e X.env) :: ba es X.env:=by rfl) (hpl:(backTo pos (ba es X.env)).any (·.1)=false:=by rfl):PE X (.Call (.Name x p) (e :: es) [] pos) (tCB r t):=by
 intro pins s σ H Q I h;refine bQ (zdd I hg hm hv ?_ hn hdb);exact eW (thn (ha pos pins s σ H _ I h) fun us s1 ⟨vs,H1,I1,r1,q1⟩=>hc pins s1 σ H1 vs us Q I1 r1 q1) he hpl
def pe_callTy(hc:zde X (.type T) r)(hg:Gl X x)(hm:X.mg x=ab)(hv:aS x=aa (.type T))(ha:PA X (e :: es) t)(hn:x ≠ "__name__" :=by decide)(hdb:(x == ("__debug__" : Str))=false:=by decide)
  (he:ba (e :: es) X.env=(false,eval e X.env) :: ba es X.env:=by rfl) (hpl:(backTo pos (ba es X.env)).any (·.1)=false:=by rfl):PE X (.Call (.Name x p) (e :: es) [] pos) (tCB r t):=by
 intro pins s σ H Q I h;refine bQ (zdd I hg hm hv ?_ hn hdb);exact bP (thn (ha pos pins s σ H _ I h) fun us s1 ⟨vs,H1,I1,r1,q1⟩=>hc pins s1 σ H1 vs us Q I1 r1 q1) he hpl
end
end L2
namespace HT
open PySem PyProof.Rows
section
open PySem.SeqAt
open PySem.AutoSeq1 (wpAny_loadPart')
open PySem.MeetsSeq PySem.MeetsSeq2 PySem.MeetsSeq3
end
section
variable {prog:aN}{w:aV}{A:aX}{E:ae->ah->Prop}{s:ah}
def sIx(n d:Nat):Option Int->Nat
 | none=>d
 | some v=>if v<0 then (v+(n:Int)).toNat else min v.toNat n
def sIx_none(n d:Nat):sIx n d ab=d:=rfl
def sIx_nat(n d k:Nat):sIx n d (aa (k:Int))=min k n:=by
 show(if (k:Int)<0 then ((k:Int)+(n:Int)).toNat else min (k:Int).toNat n)=min k n;rw[if_neg (by lia),cO]
def sIx_le(n d:Nat)(hd:d<=n)(o:Option Int):sIx n d o<=n:=by
 cases o with
 | none=>exact hd
 | some v=>
  show(if v<0 then (v+(n:Int)).toNat else min v.toNat n)<=n;by_cases hv:v<0
  ·rw[if_pos hv];lia
  ·rw[if_neg hv];exact Nat.min_le_right _ _
end
end HT
namespace L2
open PySem PySem.Spec PyProof.Rows
abbrev TO:=St->Hp->(Option Int->Hp->Prop)->Prop
def PO(X:Cx)(e:Option Expr)(t:TO):Prop:=
 ∀ (pins:List (af × Obj)) (s:ah) (σ:St) (H:Hp) (Q:Option Int->Hp->Prop),Inv X pins σ H s->t σ H Q ->
  ay (model X.prog X.w) X.A (evalPart e X.env) (fun u s'=>∃ o H',Inv X pins σ H' s'/\IsPart u o/\Q o H') X.xe s
def tNoPart:TO:=fun _ H Q=>Q ab H
def tPart(t:TE):TO:=fun σ H Q=>t σ H fun x H1=>∃ i,x=.int i/\Q (aa i) H1
section
variable {X:Cx}{e:Expr}{te:TE}{lo hi:Option Expr}{tl th:TO}{pos p2:Pos}
def po_none:PO X ab tNoPart:=by
 intro pins s σ H Q I h;rw[evalPart_none];exact aq ⟨ab,H,I,.none,h⟩
def po_some(h:PE X e te):PO X (aa e) (tPart te):=by
 intro pins s σ H Q I hw;rw[evalPart_some];refine thn (h pins s σ H _ I hw) ?_;rintro u s1 ⟨x,H1,I1,r1,q1⟩;obtain⟨i,rfl,q⟩:=q1;obtain⟨t,rfl⟩:=r1;exact⟨aa i,H1,I1,.int i t,q⟩
def SlR(X:Cx)(r:V->Option Int->Option Int->Hp->VK->Prop):Prop:=
 ∀ (pins:List (af × Obj)) (s:ah) (σ:St) (H:Hp) (x:V) (v vl vu:ae) (lo hi:Option Int) (sl:af) (Q:VK),Inv X pins σ H s->RelV x v->s.heap.IsSliceOf sl vl vu .none->IsPart vl lo->IsPart vu hi->r x lo hi H Q ->
  ∃ T id,typeLookup (.type T) "__getitem__" = pure (aa (.builtin id))/\s.TypeIs v T/\ay (model X.prog X.w) X.A (getItem v (.ref sl)) (EP X pins σ Q) X.xe s
def tSl(r:V->Option Int->Option Int->Hp->VK->Prop)(te:TE)(tl th:TO):TE:=fun σ H Q=>te σ H fun x H1=>tl σ H1 fun l H2=>th σ H2 fun u H3=>r x l u H3 Q
def pe_slice{r:V->Option Int->Option Int->Hp->VK->Prop}(hr:SlR X r)(he:PE X e te)(hl:PO X lo tl)(hu:PO X hi th):PE X (.Subscript e (.Slice lo hi ab p2) pos) (tSl r te tl th):=by
 intro pins s σ H Q I h;refine Subscript_ (thn (he pins s σ H _ I h) ?_);rintro v s1 ⟨x,H1,I1,r1,q1⟩;refine wpAny_Slice (thn (hl pins s1 σ H1 _ I1 q1) fun vl s2 ⟨l,H2,I2,pl,q2⟩=>thn (hu pins s2 σ H2 _ I2 q2) ?_);rintro vu s3 ⟨u,H3,I3,pu,q3⟩;rw[evalPart_none];refine aq ?_;have I4:Inv X pins σ H3 { s3 with heap:=s3.heap.push { cls:=.type "slice",data:=.fields #[vl,vu,.none]}}:=I3.kept (t':=s3.toks) fun b ob q=>ak _ q;obtain⟨T,id,hT,ht,hg⟩:=hr pins { s3 with heap:=s3.heap.push { cls:=.type "slice",data:=.fields #[vl,vu,.none]}} σ H3 x v vl vu l u s3.heap.objs.size Q I4 r1 (kY ..) pl pu q3;show ay (model X.prog X.w) X.A (subscriptTail e (.Slice lo hi ab p2) v (.ref s3.heap.objs.size)) (EP X pins σ Q) X.xe { s3 with heap:=s3.heap.push { cls:=.type "slice",data:=.fields #[vl,vu,.none]}};exact tail_any (ops:=[.ref s3.heap.objs.size,v]) ht hT hg (by with_unfolding_all rfl)
def cutV(xs:List V)(lo hi:Option Int):List V:=(xs.drop (HT.sIx xs.length 0 lo)).take (HT.sIx xs.length xs.length hi - HT.sIx xs.length 0 lo)
def zg8(xs:List V)(lo hi:Option Int):(cutV xs lo hi).length<=xs.length:=by
 unfold cutV;rw[cz,i9];lia
end
end L2
namespace L2
open PySem PySem.Spec PyProof.Rows
def ixN(n:Nat)(i:Int):Option Nat:=if 0<=i then (if i<n then aa i.toNat else ab) else if -(n:Int)<=i then aa (i+n).toNat else ab
def atI{α:Type}(xs:List α)(i:Int):Option α:=(ixN xs.length i).bind fun j=>xs[j]?
def ixN_seq{n:Nat}{i:Int}{j:Nat}(h:ixN n i=aa j):seqIndex? i n=aa j/\j<n /\ -(n:Int)<=i/\i<n:=by
 unfold ixN at h;by_cases h0:0<=i
 ·rw[if_pos h0] at h;by_cases h1:i<n
  ·rw[if_pos h1] at h;have e:i.toNat=j:=aM h;exact⟨by rw[seqIndex_of h0 h1,e],by lia,by lia,h1⟩
  ·rw[if_neg h1] at h;cases h
 ·rw[if_neg h0] at h;by_cases h1:-(n:Int)<=i
  ·rw[if_pos h1] at h;have e:(i+n).toNat=j:=aM h;exact⟨by rw[seqIndex_neg (by lia) h1,e],by lia,h1,by lia⟩
  ·rw[if_neg h1] at h;cases h
def zhq{α:Type}{xs:List α}{i:Int}{v:α}(h:atI xs i=aa v):∃ j,seqIndex? i xs.length=aa j/\xs[j]? = aa v/\j<xs.length /\ -(xs.length:Int)<=i/\i<xs.length:=by
 unfold atI at h;cases e:ixN xs.length i with
 | none=>rw[e] at h;cases h
 | some j=>
  rw[e] at h;obtain⟨h1,h2,h3,h4⟩:=ixN_seq e;exact⟨j,h1,h,h2,h3,h4⟩
def zhr(b:Expr):Prop:=∀ o i,subscripted b false o i=operate [o,i] (getItem o i)
def IxR(X:Cx)(r:R2):Prop:=
 ∀ (value slice:Expr) (pins:List (af × Obj)) (s:ah) (σ:St) (H:Hp) (x y:V) (v u:ae) (Q:VK),Inv X pins σ H s->RelV x v->RelV y u->r x y H Q ->
  subscripted slice false v u=operate [v,u] (getItem v u)->ay (model X.prog X.w) X.A (subscriptTail value slice v u) (EP X pins σ Q) X.xe s
def MtR(X:Cx)(id:String)(r:V->List V->Hp->VK->Prop):Prop:=
 ∀ (pins:List (af × Obj)) (s:ah) (σ:St) (H:Hp) (x:V) (xs:List V) (v:ae) (us:List ae) (Q:VK),Inv X pins σ H s->RelV x v->Vals xs us->r x xs H Q ->
  ay (model X.prog X.w) X.A (call (.builtin id) (v :: us)) (EP X pins σ Q) X.xe s
section
variable {X:Cx}{a b:Expr}{ta tb:TE}{pos:Pos}
def pe_ix{r:R2}(hr:IxR X r)(ha:PE X a ta)(hb:PE X b tb)(hs:zhr b):PE X (.Subscript a b pos) (tOp r ta tb):=by
 intro pins s σ H Q I h;exact Subscript_ (binT ha hb I h fun v u s2 x y H2 I2 rx ry q=>hr a b pins s2 σ H2 x y v u Q I2 rx ry q (hs _ _))
def rIxL(K:ag):R2:=fun x y H Q=>∃ p xs i v,x=.ref p/\y=.int i/\SqL K H p xs/\atI xs i=aa v/\Q v H
def rIxT(K:ag):R2:=fun x y H Q=>∃ p xs i v,x=.ref p/\y=.int i/\SqT K H p xs/\atI xs i=aa v/\Q v H
def rIxS:R2:=fun x y H Q=>∃ z i c,x=.str z/\y=.int i/\z.length<=aZ/\atI z.cps.toList i=aa c/\Q (.str ⟨#[c]⟩) H
def ix_list:IxR X (rIxL X.K):=by
 intro value slice pins s σ H x y v u Q I rx ry h hs;obtain⟨p,xs,i,z,rfl,rfl,hq,he,q⟩:=h;cases rx;obtain⟨t,rfl⟩:=ry;obtain⟨its,r,pl,hz⟩:=I.list hq;obtain⟨j,h1,h2,h3,h4,h5⟩:=zhq he;obtain⟨w,ew,rw'⟩:=r.get h2;have hl:=r.length;have hn:=zft;have fin:EP X pins σ Q w s:=⟨z,H,I,rw',q⟩
 by_cases h0:0<=i
 ·have hj:i.toNat=j:=by
   rw[seqIndex_of h0 h5] at h1;exact aM h1
  exact item_listR pl.isList h0 (by lia) (by rw[hj];simpa using ew) fin hs
 ·have hj:(i+(its.toArray.size:Int)).toNat=j:=by
   rw[seqIndex_neg (by lia) h4] at h1;rw[aU,<- hl];exact aM h1
  exact subscriptTail_builtinR (x:=w) pl.isList.typeIs slot_list_getitem.lookup
   (wpAny_getItem_list_neg (Q:=fun r s'=>r=w/\EP X pins σ Q r s') pl.isList (by lia) (by rw[aU] <;> lia) (by lia) (by rw[hj];simpa using ew) ⟨rfl,fin⟩) hs
def ix_tup:IxR X (rIxT X.K):=by
 intro value slice pins s σ H x y v u Q I rx ry h hs;obtain⟨p,xs,i,z,rfl,rfl,hq,he,q⟩:=h;cases rx;obtain⟨t,rfl⟩:=ry;obtain⟨its,r,pl,hz⟩:=I.tuple hq;obtain⟨j,h1,h2,h3,h4,h5⟩:=zhq he;obtain⟨w,ew,rw'⟩:=r.get h2;have hl:=r.length;have hn:=zft;have fin:EP X pins σ Q w s:=⟨z,H,I,rw',q⟩
 exact subscriptTail_builtinR (x:=w) pl.typeIs slot_tuple_getitem.lookup
  (getItem_tuple (j:=j) (Q:=fun r s'=>r=w/\EP X pins σ Q r s') pl (by lia) (by lia) (by rw[aU,<- hl];exact h1) (by simpa using ew) ⟨rfl,fin⟩) hs
def ix_str:IxR X rIxS:=by
 intro value slice pins s σ H x y v u Q I rx ry h hs;obtain⟨z,i,c,rfl,rfl,hz,he,q⟩:=h;obtain⟨t,rfl⟩:=rx;obtain⟨t',rfl⟩:=ry;obtain⟨j,h1,h2,h3,h4,h5⟩:=zhq he;have hl:z.cps.toList.length=z.length:=by simp[jj]
 rw[hl] at h1 h4 h5;have hn:=zft;exact tail_any (typeIs_str s z t) slot_str_getitem.lookup (getItem_str (c:=c) (by
  have e1:decide (i < -(2 ^ 63:Int))=false:=decide_eq_false (by lia);have e2:decide (i ≥ 2 ^ 63)=false:=decide_eq_false (by lia);rw[e1,e2,jD]) (by rw[h1];simpa using h2) ⟨.str ⟨#[c]⟩,H,I.tok _,⟨_,rfl⟩,q⟩) hs
def zi7(its:List ae)(n j:Nat)(u:ae):bJ (·.setIfInBounds j u) { cls:=.type "list",data:=.seq its.toArray n}={ cls:=.type "list",data:=.seq (its.set j u).toArray n}:=by
 simp[bJ]
def Inv.lst{pins:List (af × Obj)}{σ:St}{H:Hp}{s:ah}{p:af}{xs:List V}(I:Inv X pins σ H s)(h:H p=aa (.lst xs)) :
  ∃ (its:List ae) (n:Nat),Vals xs its/\s.heap.get? p=aa { cls:=.type "list",data:=.seq its.toArray n}/\xs.length<=aZ:=by
 obtain⟨z,its,n,r,e⟩:=I.hok p _ h;exact⟨its,n,r,e,z⟩
def Inv.lstUpd{pins:List (af × Obj)}{σ:St}{H:Hp}{s:ah}{p:af}{xs ys:List V}{its its':List ae}{n n':Nat}{f:Obj->Obj}(I:Inv X pins σ H s)(h:H p=aa (.lst xs))
  (ho:s.heap.get? p=aa { cls:=.type "list",data:=.seq its.toArray n}) (hf:f { cls:=.type "list",data:=.seq its.toArray n}={ cls:=.type "list",data:=.seq its'.toArray n'}) (r:Vals ys its') (hz:ys.length<=aZ) (t:Nat) :
  Inv X pins σ (upd H p (.lst ys)) { s with heap:=s.heap.update p f,toks:=t}:=by
 have e:(s.heap.update p f).get? p=aa { cls:=.type "list",data:=.seq its'.toArray n'}:=by
  rw[cI f ho (by rw[hf] <;> rfl),hf]
 refine I.write (x:=p) (e:=p) (by rw[h];trivial) (.inl rfl) (fun b u hb q=>(bN _ _ (ce hb)).trans q) ⟨_,e⟩ ?_;exact⟨hz,its',n',r,e⟩
def rSetL:V->V->V->Hp->(Hp->Prop)->Prop:=fun o i v H Q=>∃ p xs k j,o=.ref p/\i=.int k/\H p=aa (.lst xs)/\ixN xs.length k=aa j/\Q (upd H p (.lst (xs.set j v)))
def set_list:PSet X rSetL:=by
 intro pins s σ H o i v ov iv u Q I ro ri rv h;obtain⟨p,xs,k,j,rfl,rfl,hp,hj,q⟩:=h;cases ro;obtain⟨t,rfl⟩:=ri;obtain⟨its,n,r,ho,hz⟩:=I.lst hp;obtain⟨h1,h2,h3,h4⟩:=ixN_seq hj;have hl:=r.length;have hn:=zft;have I':Inv X pins σ (upd H p (.lst (xs.set j v))) { s with heap:=s.heap.update p (bJ (·.setIfInBounds j u))}:=
  I.lstUpd hp ho (zi7 its n j u) (r.set rv j) (by rw[dC];exact hz) s.toks
 by_cases h0:0<=k
 ·have hk:k.toNat=j:=by
   rw[seqIndex_of h0 h4] at h1;exact aM h1
  exact PySem.W.ki_setAt ho h0 (by lia) (by rw[aU,<- hl];exact h4) (by rw[hk];exact⟨_,I',q⟩)
 ·have hk:(k+(its.toArray.size:Int)).toNat=j:=by
   rw[seqIndex_neg (by lia) h3] at h1;rw[aU,<- hl];exact aM h1
  exact PySem.W.ki_setBack ho (by lia) (by rw[aU,<- hl];exact h3) (by lia) (by rw[hk];exact⟨_,I',q⟩)
def zgm(lo hi:Option Int)(n:Nat):(sliceBounds lo hi ab n).1=((HT.sIx n 0 lo:Nat):Int)/\(sliceBounds lo hi ab n).2.1=((HT.sIx n n hi:Nat):Int)/\(sliceBounds lo hi ab n).2.2=1:=by
 refine⟨?_,?_,rfl⟩
 ·cases lo with
  | none=>simp[sliceBounds,HT.sIx]
  | some i=>
   simp only[sliceBounds,HT.sIx,ja,show(1:Int) > 0 by decide,if_true];by_cases h:i<0
   ·simp only[h,if_true] <;> lia
   ·simp only[h,if_false] <;> lia
 ·cases hi with
  | none=>simp[sliceBounds,HT.sIx]
  | some i=>
   simp only[sliceBounds,HT.sIx,ja,show(1:Int) > 0 by decide,if_true];by_cases h:i<0
   ·simp only[h,if_true] <;> lia
   ·simp only[h,if_false] <;> lia
def zfL(its:List ae)(lo hi:Option Int):slicePick its.toArray lo hi ab=((its.drop (HT.sIx its.length 0 lo)).take (HT.sIx its.length its.length hi - HT.sIx its.length 0 lo)).toArray:=by
 obtain⟨h1,h2,h3⟩:=zgm lo hi its.toArray.size;unfold slicePick;rw[h1,h2,h3];simp only[sliceRange_one,pick_run,aU] <;> rfl
def rSlL(K:ag):V->Option Int->Option Int->Hp->VK->Prop:=fun x lo hi H Q=>∃ a xs,x=.ref a/\SqL K H a xs/\∀ p,H p=ab->Q (.ref p) (upd H p (.lst (cutV xs lo hi)))
def sl_list:SlR X (rSlL X.K):=by
 intro pins s σ H x v vl vu lo hi sl Q I rx hs pl pu h;obtain⟨a,xs,rfl,hx,q⟩:=h;cases rx;obtain⟨its,r,ht,hz⟩:=I.list hx;have hlen:=r.length;refine⟨"list",_,slot_list_getitem.lookup,ht.isList.typeIs,?_⟩;refine wpAny_getItem_list_slice ht.isList hs pl pu .none (by simp) ?_ (by rw[aU] <;> lia);rw[zfL,<- hlen];refine⟨.ref s.heap.objs.size,_,I.laid (t':=s.toks) (o:=.lst (cutV xs lo hi)) (fun b ob q=>ak _ q) (au _) ?_,rfl,q _ (I.hok.fresh (au _))⟩;exact⟨bp (zg8 xs lo hi) hz,_,0,(r.drop (HT.sIx xs.length 0 lo)).take (HT.sIx xs.length xs.length hi - HT.sIx xs.length 0 lo),aB _ rfl⟩
def flatV:V->Bool
 | .non=>true
 | .bl _=>true
 | .int _=>true
 | .str _=>true
 | _=>false
def eqV:V->V->Bool
 | .non,.non=>true
 | .bl a,.bl b=>a == b
 | .bl a,.int b=>(if a then 1 else 0) == b
 | .int a,.bl b=>a == (if b then 1 else 0)
 | .int a,.int b=>a == b
 | .str a,.str b=>a == b
 | _,_=>false
def eqAt_V{A:aX}{s:ah}{y x:V}{u v:ae}(ry:RelV y u)(rx:RelV x v)(fy:flatV y=true)(fx:flatV x=true):gu A s u v (eqV y x):=by
 cases y with
 | non=>
  cases ry;cases x with
  | non=>cases rx;exact gT _
  | bl b=>cases rx;exact kG b
  | int b=>obtain⟨t,rfl⟩:=rx;exact kN b t
  | str b=>obtain⟨t,rfl⟩:=rx;exact kO b t
  | _=>exact absurd (show false=true from fx) aQ
 | bl a=>
  cases ry;cases x with
  | non=>cases rx;exact kH a
  | bl b=>cases rx;exact kI a b
  | int b=>obtain⟨t,rfl⟩:=rx;exact kP a b t
  | str b=>obtain⟨t,rfl⟩:=rx;exact kQ a b t
  | _=>exact absurd (show false=true from fx) aQ
 | int a=>
  obtain⟨t',rfl⟩:=ry;cases x with
  | non=>cases rx;exact kR a t'
  | bl b=>cases rx;exact kS a t' b
  | int b=>obtain⟨t,rfl⟩:=rx;exact kZ a t' b t
  | str b=>obtain⟨t,rfl⟩:=rx;exact iI a t' b t
  | _=>exact absurd (show false=true from fx) aQ
 | str a=>
  obtain⟨t',rfl⟩:=ry;cases x with
  | non=>cases rx;exact kT a t'
  | bl b=>cases rx;exact kU a t' b
  | int b=>obtain⟨t,rfl⟩:=rx;exact iJ a t' b t
  | str b=>obtain⟨t,rfl⟩:=rx;exact k4 a t' b t
  | _=>exact absurd (show false=true from fx) aQ
 | _=>exact absurd (show false=true from fy) aQ
def zgJ:zde X (.builtin "len") (fun xs H Q=>∃ p ys,xs=[.ref p]/\(SqL X.K H p ys \/ SqT X.K H p ys)/\Q (.int ys.length) H):=by
 intro pins s σ H xs us Q I r h;obtain⟨p,ys,rfl,hq,q⟩:=h;obtain⟨u,rfl,rx⟩:=zeA r;cases rx;have hn:=zft;rcases hq with hq | hq
 ·obtain⟨its,r',pl,hz⟩:=I.list hq;have hlen:=r'.length;exact Calls.call_len_list pl.isList (by simp only[aU] <;> lia) ⟨.int ys.length,H,I.tok _,⟨s.toks+1,by rw[aU,hlen]⟩,q⟩
 ·obtain⟨its,r',pl,hz⟩:=I.tuple hq;have hlen:=r'.length;exact len_tuple pl (by simp only[aU] <;> lia) ⟨.int ys.length,H,I.tok _,⟨s.toks+1,by rw[aU,hlen]⟩,q⟩
def zgH:zde X (.builtin "len") (fun xs H Q=>∃ z,xs=[.str z]/\z.length<=aZ/\Q (.int z.length) H):=by
 intro pins s σ H xs us Q I r h;obtain⟨z,rfl,hz,q⟩:=h;obtain⟨u,rfl,t,rfl⟩:=zeA r;have hn:=zft;exact len_str (by lia) ⟨.int z.length,H,I.tok _,⟨_,rfl⟩,q⟩
def zgq:zde X (.type "list") (fun xs H Q=>∃ p ys,xs=[.ref p]/\(SqL X.K H p ys \/ SqT X.K H p ys)/\∀ l,H l=ab->Q (.ref l) (upd H l (.lst ys))):=by
 intro pins s σ H xs us Q I r h;obtain⟨p,ys,rfl,hq,q⟩:=h;obtain⟨u,rfl,rx⟩:=zeA r;cases rx;have fin:∀ (its:List ae),Vals ys its->ys.length<=aZ->∀ (h':bd) (c':Nat),(∀ b o',s.heap.get? b=aa o'->h'.get? b=aa o') ->
   h'.get? s.heap.objs.size=aa { cls:=.type "list",dict:=ab,data:=.seq its.toArray c',slots:=#[]}->EP X pins σ Q (.ref s.heap.objs.size) { s with heap:=h'}:=fun its r' hz h' c' kp e=>
  ⟨.ref s.heap.objs.size,_,I.laid (t':=s.toks) kp (au _) (show ObjOk X.prog X.w _ h' _ (.lst ys) from ⟨hz,its,c',r',e⟩),rfl,q _ (I.hok.fresh (au _))⟩
 rcases hq with hq | hq
 ·obtain⟨its,r',pl,hz⟩:=I.list hq;have hlen:=r'.length;obtain⟨o,ho,hc,n,hd⟩:=pl.isList;exact call_list_seq p (.inl rfl) ho hc hd (fun h' c' kp e=>fin its r' hz h' c' kp e) (by simp only[aU] <;> lia)
 ·obtain⟨its,r',pl,hz⟩:=I.tuple hq;have hlen:=r'.length;obtain⟨o,ho,hc,n,hd⟩:=pl;exact call_list_seq p (.inr rfl) ho hc hd (fun h' c' kp e=>fin its r' hz h' c' kp e) (by simp only[aU] <;> lia)
def zfK:zde X (.type "tuple") (fun xs H Q=>∃ p ys,xs=[.ref p]/\((SqL X.K H p ys/\∀ l,H l=ab->Q (.ref l) (upd H l (.tup ys))) \/ (SqT X.K H p ys/\Q (.ref p) H))):=by
 intro pins s σ H xs us Q I r h;obtain⟨p,ys,rfl,h⟩:=h;obtain⟨u,rfl,rx⟩:=zeA r;cases rx;rcases h with ⟨hq,q⟩ | ⟨hq,q⟩
 ·obtain⟨its,r',pl,hz⟩:=I.list hq;have hlen:=r'.length;refine call_tuple_list pl.isList (fun h' kp=>?_) (by simp only[aU] <;> lia);have I1:Inv X pins σ H { s with heap:=h'}:=I.kept (t':=s.toks) kp;have I2:Inv X pins σ (upd H h'.objs.size (.tup ys)) { s with heap:=h'.push { cls:=.type "tuple",data:=.seq its.toArray}}:=
   I1.laid (t':=s.toks) (fun b o e=>ak _ e) (au _) (show ObjOk X.prog X.w _ _ _ (.tup ys) from ⟨hz,its,r',TupN.new _ _⟩)
  exact⟨.ref h'.objs.size,_,I2,rfl,q _ (I1.hok.fresh (au _))⟩
 ·obtain⟨its,r',pl,hz⟩:=I.tuple hq;exact call_tuple_same pl ⟨.ref p,H,I,rfl,q⟩
def tyV(K:ag)(T:String)(x:V)(H:Hp):Prop:=match x with
 | .str _=>T = "str"
 | .int _=>T = "int"
 | .ref p=>(T = "list" /\ ∃ xs,SqL K H p xs) \/ (T = "tuple" /\ ∃ o,K.lookup p=aa o/\o.cls=.type "tuple" /\ o.dict=ab) \/
   (T = "dict" /\ ((∃ kvs,Rd H p (.dK kvs)) \/ ∃ kvs,H p=aa (.dT kvs))) \/ (T = "set" /\ ∃ S n,H p=aa (.set S n))
 | _=>False
def tyV_is{pins:List (af × Obj)}{σ:St}{H:Hp}{s:ah}{T:String}{x:V}{v:ae}(I:Inv X pins σ H s)(r:RelV x v)(ty:tyV X.K T x H) :
  s.TypeIs v T/\∀ a,v=.ref a->∃ ob,s.heap.get? a=aa ob/\ob.dict=ab:=by
 cases x with
 | str z=>
  obtain⟨t,rfl⟩:=r;cases (show T = "str" from ty);exact⟨typeIs_str s z t,fun _ e=>nomatch e⟩
 | int i=>
  obtain⟨t,rfl⟩:=r;cases (show T = "int" from ty);exact⟨typeIs_int s i t,fun _ e=>nomatch e⟩
 | ref p=>
  cases r;rcases ty with ⟨rfl,xs,hq⟩ | ⟨rfl,o,hk,hc,hd⟩ | ⟨rfl,hk⟩ | ⟨rfl,S,n,hk⟩
  ·obtain⟨its,_,pl,_⟩:=I.list hq;refine⟨pl.isList.typeIs,fun a e=>?_⟩;cases e;obtain⟨o,n,e,c,hd,_⟩:=pl;exact⟨o,e,hd⟩
  ·refine⟨⟨o,I.kIn p o hk,hc⟩,fun a e=>?_⟩;cases e;exact⟨o,I.kIn _ o hk,hd⟩
  ·have z:∃ o,s.heap.get? p=aa o/\o.ExactDict:=by
    rcases hk with ⟨kvs,hk⟩ | ⟨kvs,hk⟩
    ·obtain⟨_,_,_,_,o,_,_,e,ex,_⟩:=hk.ok I.hok;exact⟨o,e,ex⟩
    ·obtain⟨_,_,_,_,o,_,_,e,ex,_⟩:=I.hok p _ hk;exact⟨o,e,ex⟩
   obtain⟨o,e,ex⟩:=z;refine⟨⟨o,e,ex.1⟩,fun a e2=>?_⟩;cases e2;exact⟨o,e,ex.2.1⟩
  ·obtain⟨o,_,_,_,e,ex,_⟩:=I.hok p _ hk;refine⟨⟨o,e,ex.1⟩,fun a e2=>?_⟩;cases e2;exact⟨o,e,ex.2.1⟩
 | _=>exact cc ty
def tBM0(K:ag)(T:String)(r:V->List V->Hp->VK->Prop)(to:TE):TE:=fun σ H Q=>to σ H fun x H1=>tyV K T x H1/\r x [] H1 Q
def tBM(K:ag)(T:String)(r:V->List V->Hp->VK->Prop)(to:TE)(t:TA):TE:=fun σ H Q=>to σ H fun x H1=>tyV K T x H1/\t σ H1 fun xs H2=>r x xs H2 Q
variable {o e:Expr}{es:List Expr}{to:TE}{t:TA}{name:Str}{apos cpos:Pos}{T id:String}{r:V->List V->Hp->VK->Prop}
def pe_bm0(pa:PlainAttrs T)(slot:Slot T name id)(hty:typeOf (.builtin id)=pure (.type "method_descriptor"))(hm:MtR X id r)(ho:PE X o to)
  (hbase:b9 o name X.env (eval o X.env)=eval o X.env:=by rfl) (hline:(apos.endLine == cpos.line)=true:=by rfl):PE X (.Call (.Attribute o name apos) [] [] cpos) (tBM0 X.K T r to):=by
 intro pins s σ H Q I h;refine wpAny_Call_method0_late hbase hline (thn (ho pins s σ H _ I h) ?_);rintro v s1 ⟨x,H1,I1,r1,ty,q1⟩;obtain⟨h1,h2⟩:=tyV_is I1 r1 ty;exact⟨T,id,pa,slot,hty,h1,h2,g7 rfl (PySem.evalArgs_none (hm pins s1 σ H1 x [] v [] Q I1 r1 .nil q1))⟩
def pe_bm(pa:PlainAttrs T)(slot:Slot T name id)(hty:typeOf (.builtin id)=pure (.type "method_descriptor"))(hm:MtR X id r)(ho:PE X o to)(ha:PA X (e :: es) t)
  (hbase:b9 o name X.env (eval o X.env)=eval o X.env:=by rfl)
  (hfew:((backTo cpos (ba (e :: es) X.env)).all (fun x=>!x.1) && (backToKw cpos (keywordEach [] X.env)).all (fun x=>x.1.isSome)
   && decide ((e :: es).length+([]:List Keyword).length+(if ([]:List Keyword).isEmpty then 0 else 1)<30))=true:=by rfl)
  (hline:(apos.endLine == cpos.line)=true:=by rfl) (hs:ba (e :: es) X.env=(false,eval e X.env) :: ba es X.env:=by rfl) (hplain:(backTo cpos (ba es X.env)).any (·.1)=false:=by rfl) :
  PE X (.Call (.Attribute o name apos) (e :: es) [] cpos) (tBM X.K T r to t):=by
 intro pins s σ H Q I h;refine wpAny_Call_method_late hbase hfew hline rfl (thn (ho pins s σ H _ I h) ?_);rintro v s1 ⟨x,H1,I1,r1,ty,q1⟩;obtain⟨h1,h2⟩:=tyV_is I1 r1 ty;refine⟨T,id,pa,slot,hty,h1,h2,?_⟩;have hA:=ha cpos pins s1 σ H1 _ I1 q1;rw[hs] at hA ⊢;refine g7 (by show(false || (backTo cpos (ba es X.env)).any (·.1))=false;rw[hplain] <;> rfl) (Calls.evalArgs_plain ?_);refine thn hA ?_;rintro us s2 ⟨vs,H2,I2,r2,q2⟩;exact hm pins s2 σ H2 x vs v us Q I2 r1 r2 q2
end
end L2
namespace L2
open PySem PySem.Spec PyProof.Rows
def MtM(X:Cx)(id:String)(r:V->List V->Hp->VK->Prop):Prop:=
 ∀ (pins:List (af × Obj)) (s:ah) (σ:St) (H:Hp) (x:V) (xs:List V) (v:ae) (us:List ae) (Q:VK),Inv X pins σ H s->RelV x v->Vals xs us->r x xs H Q ->
  ay (model X.prog X.w) X.A (call (.builtin id) (v :: us)) (EP X pins σ Q) X.xe s
def Vals.one:∀ {x:V} {us:List ae},Vals [x] us->∃ u,us=[u]/\RelV x u
 | _,_,.cons r .nil=>⟨_,rfl,r⟩
def Vals.zero:∀ {us:List ae},Vals [] us->us=[]
 | _,.nil=>rfl
def Vals.dropLast{xs:List V}{us:List ae}(h:Vals xs us):Vals xs.dropLast us.dropLast:=by
 induction h with
 | nil=>exact .nil
 | cons r t ih=>
  cases t with
  | nil=>exact .nil
  | cons q t'=>exact .cons r ih
def Vals.eraseIdx:∀ {xs:List V} {us:List ae} (i:Nat),Vals xs us->Vals (xs.eraseIdx i) (us.eraseIdx i)
 | _,_,_,.nil=>.nil
 | _,_,0,.cons _ t=>t
 | _,_,i+1,.cons r t=>.cons r (Vals.eraseIdx i t)
def Vals.rep{xs:List V}{us:List ae}(h:Vals xs us):∀ k:Nat,Vals (aJ k xs).flatten (aJ k us).flatten
 | 0=>.nil
 | k+1=>by
  rw[cR,cR,dj,dj];exact Vals.append h (Vals.rep h k)
def ziQ{α:Type}(l:List α):l.eraseIdx (l.length - 1)=l.dropLast:=by
 induction l with
 | nil=>rfl
 | cons a r ih=>
  cases r with
  | nil=>rfl
  | cons b r=>
   have e:(a :: b :: r).length - 1=((b :: r).length - 1)+1:=by
    have h1:(a :: b :: r).length=r.length+2:=rfl;have h2:(b :: r).length=r.length+1:=rfl;lia
   rw[e,List.eraseIdx_cons_succ,ih]
   all_goals rfl
def zgC{α:Type}:∀ (l:List α) (i:Nat),(l.eraseIdx i).length<=l.length
 | [],_=>au _
 | _ :: _,0=>cg _
 | _ :: r,i+1=>Nat.succ_le_succ (zgC r i)
def zgp(its:List ae):∀ (k:Nat) (acc:List ae),
  jk (fun x1 x2=>x1 ++ x2) acc.toArray (aJ k its.toArray)=(acc ++ (aJ k its).flatten).toArray
 | 0,acc=>by simp
 | k+1,acc=>by
  have e:acc.toArray ++ its.toArray=(acc ++ its).toArray:=by simp
  have e2:(acc ++ its) ++ (aJ k its).flatten=acc ++ (aJ (k+1) its).flatten:=by
   rw[cR,dj,bF]
  rw[<- e2,<- zgp its k (acc ++ its),<- e,cR,c9]
section
variable {X:Cx}{pins:List (af × Obj)}{σ:St}{H:Hp}{s:ah}{l b:af}{xs ys zs:List V}
def Inv.lset{its its':List ae}{n:Nat}{f:Array ae->Array ae}{t':Nat}(I:Inv X pins σ H s)(hH:H l=aa (.lst xs))
  (e:s.heap.get? l=aa { cls:=.type "list",data:=.seq its.toArray n}) (hf:f its.toArray=its'.toArray) (hv:Vals ys its') (hz:ys.length<=aZ) :
  Inv X pins σ (upd H l (.lst ys)) { s with heap:=s.heap.update l (bJ f),toks:=t'}:=by
 have q:=lh e f;rw[hf] at q;refine I.write (x:=l) (e:=l) (by rw[hH];exact trivial) (.inl rfl) (fun b' u hb hu=>(bN s.heap (bJ f) (ce hb)).trans hu) ⟨_,q⟩ ?_;exact⟨hz,its',_,hv,q⟩
def Inv.lnew{its:List ae}{t':Nat}(I:Inv X pins σ H s)(hv:Vals ys its)(hz:ys.length<=aZ) :
  Inv X pins σ (upd H s.heap.objs.size (.lst ys)) { s with heap:=s.heap.push { cls:=.type "list",data:=.seq its.toArray},toks:=t'}:=
 I.laid (fun _ _ q=>ak _ q) (au _) ⟨hz,its,0,hv,aB _ rfl⟩
def Inv.fresh(I:Inv X pins σ H s):H s.heap.objs.size=ab:=I.hok.fresh (au _)
def Inv.lstM(I:Inv X pins σ H s)(hH:H l=aa (.lst xs)):xs.length<=aZ/\∃ (its:List ae) (n:Nat),Vals xs its/\xs.length=its.length/\s.heap.get? l=aa { cls:=.type "list",data:=.seq its.toArray n}:=by
 obtain⟨z,its,n,r,e⟩:=I.hok l _ hH;exact⟨z,its,n,r,r.length,e⟩
def zhW{n:Nat}(h:n<=aZ):dw n=false:=by
 unfold dw;exact decide_eq_false (by lia)
end
section
variable {X:Cx}
def rAppend:V->List V->Hp->VK->Prop:=fun x vs H Q=>∃ l xs y,x=.ref l/\vs=[y]/\H l=aa (.lst xs)/\xs.length<aZ/\Q .non (upd H l (.lst (xs ++ [y])))
def zd3:MtM X "list.append" rAppend:=by
 intro pins s σ H x vs v us Q I rx rv h;obtain⟨l,xs,y,rfl,rfl,hH,hz,q⟩:=h;cases rx;obtain⟨u,rfl,ru⟩:=rv.one;obtain⟨z,its,n,r,hl,e⟩:=I.lstM hH;refine call_meets F.slot_list_append ⟨_,e,rfl⟩ F.entry_list_append (F.args_list_append_2 _ _) (PySem.list_append l its.toArray n u (by rw[aU];lia)) ⟨e,?_⟩;refine⟨.non,_,I.lset (its':=its ++ [u]) hH e (by simp) (r.append (.cons ru .nil)) ?_,rfl,q⟩;rw[aC,eP];lia
def rExtend:V->List V->Hp->VK->Prop:=fun x vs H Q=>∃ l b xs zs,x=.ref l/\vs=[.ref b]/\H l=aa (.lst xs)/\H b=aa (.lst zs)/\xs.length+zs.length<=aZ/\Q .non (upd H l (.lst (xs ++ zs)))
def mt_extend:MtM X "list.extend" rExtend:=by
 intro pins s σ H x vs v us Q I rx rv h;obtain⟨l,b,xs,zs,rfl,rfl,hH,hB,hz,q⟩:=h;cases rx;obtain⟨u,rfl,ru⟩:=rv.one;cases ru;obtain⟨z,its,n,r,hl,e⟩:=I.lstM hH;obtain⟨z2,its2,n2,r2,hl2,e2⟩:=I.lstM hB;have hsz:its.toArray.size+its2.toArray.size<=aZ:=by rw[aU,aU];lia
 have hlong:¬ (!its.toArray.isEmpty && dw (its.toArray.size+its2.toArray.size))=true:=by
  rw[zhW hsz,fJ];exact aQ
 refine call_meets F.slot_list_extend ⟨_,e,rfl⟩ F.entry_list_extend (F.args_list_extend_2 _ _)
  (AutoSeq1.list_extend_list_list_0 l its.toArray n b its2.toArray n2 hlong (by rw[aU];lia) (by lia)) ⟨e,e2,?_⟩
 refine⟨.non,_,I.lset (its':=its ++ its2) hH e (by simp) (r.append r2) ?_,rfl,q⟩;rw[aC];lia
def rPop:V->List V->Hp->VK->Prop:=fun x vs H Q=>∃ l xs y,x=.ref l/\vs=[]/\H l=aa (.lst xs)/\xs[xs.length - 1]? = aa y/\Q y (upd H l (.lst xs.dropLast))
def mt_pop:MtM X "list.pop" rPop:=by
 intro pins s σ H x vs v us Q I rx rv h;obtain⟨l,xs,y,rfl,rfl,hH,hy,q⟩:=h;cases rx;have hus:=rv.zero;subst hus;obtain⟨z,its,n,r,hl,e⟩:=I.lstM hH;obtain⟨u,hu,ru⟩:=r.get hy;have hy':its.toArray[its.toArray.size - 1]? = aa u:=by
  show its.toArray[its.length - 1]? = aa u;rw[<- dM,<- hl];exact hu
 refine call_meets F.slot_list_pop ⟨_,e,rfl⟩ F.entry_list_pop (F.args_list_pop_1 _) (MeetsSeq.list_pop_last l its.toArray n u hy' (by rw[aU];lia)) ⟨e,?_⟩;refine⟨y,_,I.lset (its':=its.dropLast) hH e ?_ r.dropLast ?_,ru,q⟩
 ·show its.toArray.eraseIdxIfInBounds (its.toArray.size - 1)=its.dropLast.toArray;rw[aU,eT,ziQ]
 ·rw[db];lia
def rPopAt:V->List V->Hp->VK->Prop:=fun x vs H Q=>∃ l xs i k y,x=.ref l/\vs=[.int i]/\H l=aa (.lst xs) /\ -(2 ^ 63)<=i/\i<2 ^ 63/\seqIndex? i xs.length=aa k/\xs[k]? = aa y/\Q y (upd H l (.lst (xs.eraseIdx k)))
def mt_popAt:MtM X "list.pop" rPopAt:=by
 intro pins s σ H x vs v us Q I rx rv h;obtain⟨l,xs,i,k,y,rfl,rfl,hH,h1,h2,hk,hy,q⟩:=h;cases rx;obtain⟨u,rfl,ru⟩:=rv.one;obtain⟨t,rfl⟩:=ru;obtain⟨z,its,n,r,hl,e⟩:=I.lstM hH;obtain⟨w,hw,rw'⟩:=r.get hy;refine call_meets F.slot_list_pop ⟨_,e,rfl⟩ F.entry_list_pop (F.args_list_pop_2 _ _)
  (MeetsSeq.list_pop_at l its.toArray n i t k w (fitsIndex_both h1 h2) (by rw[aU,<- hl];exact hk) (by rw[<- dM];exact hw) (by rw[aU];lia)) ⟨e,?_⟩
 refine⟨y,_,I.lset (its':=its.eraseIdx k) hH e ?_ (r.eraseIdx k) ?_,rw',q⟩
 ·show its.toArray.eraseIdxIfInBounds k=(its.eraseIdx k).toArray;rw[eT]
 ·have:=zgC xs k;lia
def rCat:R2:=fun x y H Q=>∃ l b xs zs,x=.ref l/\y=.ref b/\H l=aa (.lst xs)/\H b=aa (.lst zs)/\xs.length+zs.length<=aZ/\∀ p,H p=ab->Q (.ref p) (upd H p (.lst (xs ++ zs)))
def op_cat:OpR X (binaryOp .Add) rCat:=by
 intro pins s σ H x y v u Q I rx ry h;obtain⟨l,b,xs,zs,rfl,rfl,hH,hB,hz,q⟩:=h;cases rx;cases ry;obtain⟨z,its,n,r,hl,e⟩:=I.lstM hH;obtain⟨z2,its2,n2,r2,hl2,e2⟩:=I.lstM hB;refine PySem.P.add_list e e2 ?_ (by rw[aU,aU];lia);have ea:its.toArray ++ its2.toArray=(its ++ its2).toArray:=by simp
 rw[ea];exact⟨.ref _,_,I.lnew (t':=s.toks) (r.append r2) (by rw[aC];lia),rfl,q _ I.fresh⟩
def rRep:R2:=fun x y H Q=>∃ l k xs,x=.ref l/\y=.int k/\H l=aa (.lst xs) /\ -(2 ^ 63)<=k/\k<2 ^ 63/\xs.length * k.toNat<=aZ /\
 ∀ p,H p=ab->Q (.ref p) (upd H p (.lst (aJ k.toNat xs).flatten))
def len_rep{α:Type}(xs:List α)(k:Nat):(aJ k xs).flatten.length=k * xs.length:=by
 induction k with
 | zero=>simp
 | succ k ih=>rw[cR,dj,aC,ih,Nat.succ_mul,ka]
def op_rep:OpR X (binaryOp .Mult) rRep:=by
 intro pins s σ H x y v u Q I rx ry h;obtain⟨l,k,xs,rfl,rfl,hH,h1,h2,hz,q⟩:=h;cases rx;obtain⟨t,rfl⟩:=ry;obtain⟨z,its,n,r,hl,e⟩:=I.lstM hH;have hlen:its.toArray.size * k.toNat<=aZ:=by rw[aU,<- hl];exact hz
 have hcap:¬ its.toArray.size * k.toNat > (2 ^ 63 - 1) / 8:=by
  have:(aZ:Nat)<=(2 ^ 63 - 1) / 8:=by decide
  lia
 have hfit:¬ (!Builtin.List.listFitsIndex k)=true:=by
  rw[fitsIndex_both h1 h2];exact aQ
 have hlong:¬ dw (its.toArray.size * k.toNat)=true:=by
  rw[zhW hlen];exact aQ
 have hnew:jk (fun x1 x2=>x1 ++ x2) #[] (aJ (if its.toArray.isEmpty=true then 0 else k.toNat) its.toArray)=(aJ k.toNat its).flatten.toArray:=by
  have f0:∀ m:Nat,jk (fun x1 x2=>x1 ++ x2) #[] (aJ m its.toArray)=(aJ m its).flatten.toArray:=fun m=>by
   have:=zgp its m [];rw[cj] at this;exact this
  rw[f0];cases its with
  | nil=>simp
  | cons a r'=>rw[if_neg (by simp)]
 refine wpAny_binaryOp_repeat_ref (T:= "list") (U:= "int") (by decide) ⟨_,e,rfl⟩ (fun s'=>typeIs_int s' k t) noFill_list_mul F.fills_int_mul F.slot_int_rmul repeat_list F.slot_int_index.lookup
  (call_meets F.slot_int_rmul (typeIs_int s k t) F.entry_int_rmul (F.args_int_rmul_2 _ _) (int___rmul___int_list k t l its.toArray n)
   ⟨e,rfl,⟨_,e,rfl⟩,call_meets F.slot_list_mul ⟨_,e,rfl⟩ F.entry_list_mul (F.args_list_mul_2 _ _) (i6 l its.toArray n k t hfit hcap hlong) ⟨e,?_⟩⟩)
 rw[hnew];exact⟨.ref _,_,I.lnew (t':=s.toks) (r.rep k.toNat) (by rw[len_rep,Nat.mul_comm];exact hz),rfl,q _ I.fresh⟩
end
section
variable {prog:aN}{w:aV}{A:aX}{E:ae->ah->Prop}{s:ah}
end
section
variable {X:Cx}
end
end L2
namespace Att
open PySem PySem.W PySem.Calls PyProof.Rows
def ze2{P:Params}{h:bd}:∀ (ns:List Int) (vs:List ae),WellAll P h vs (ns.map k5)->IntsAre vs ns:=by
 intro ns
 induction ns with
 | nil=>
  intro vs w;rw[bK] at w;cases w;exact .nil
 | cons n ns ih=>
  intro vs w;rw[aF] at w;cases w with
  | cons a b=>
   cases a;exact .cons _ _ (ih _ b)
def script_of{l:OpenLaw}{n:Nat}(hn:l.most=aa n){P:Params}{h:bd}{args:List WData}{vals:List ae}
  (hpre:l.row.toRowW.claim.pre args=true) (hwl:WellAll P h vals args) :
  ∃ a vs ns,vals=[br a]/\args=[WData.list (ns.map k5)]/\h.get? a=aa { cls:=.type "list",data:=.seq vs.toArray}/\IntsAre vs ns/\ns.length<=n:=by
 have hsh:WShape.hasAll [] args [.list .int]=true:=(pre_splitW hpre).1;have hc:l.pre.holds [] { args:=args}=true:=(pre_splitW hpre).2;obtain⟨d,r,rfl,h1,h2⟩:=hasAllW_cons hsh;obtain rfl:=hasAllW_nil h2;obtain⟨xs,rfl,h3⟩:=hasW_list h1;obtain⟨ns,rfl⟩:=items_int h3;have hlen:ns.length<=n:=by
  unfold OpenLaw.pre at hc;have h4:(WTm.not (.lt (.lit (.int (n:Int))) (.len (.arg 0)))).holds [] { args:=[.list (ns.map .int)]}=true:=by
   have h4:=(holds_andW hc).1;rw[hn] at h4;exact h4
  have h5:=condW_of h4 (w_not (w_lt w_lit (w_len_list (w_arg rfl))));rw[al] at h5;refine Nat.le_of_not_lt fun q=>?_;have q':(n:Int)<((ns.length:Nat):Int):=by lia
  first
   | (rw[decide_eq_true q'] at h5;exact absurd h5 (by decide))
   | (simp at h5;lia)
 cases hwl with
 | cons w1 w2=>
  cases w2;cases w1 with
  | list ho hall=>exact⟨_,_,ns,rfl,rfl,ho,ze2 ns _ hall,hlen⟩
def post_true(l:OpenLaw)(args:List WData):l.row.toRowW.claim.post args (.bool true) args=true:=
 postW_of (r:=l.row.toRowW) (X:=(true == true))
  (show kJ [] (.bool true) .bool=true by first | rfl | decide | simp[kJ,WShape.arms,WShape.armsAll])
  (show(WTm.eq .res (.lit (.bool true))).value [] { args:=args,res:=aa (.bool true),after:=args}=aa (.bool (true == true)) from w_eq_bool (w_res rfl) w_lit) rfl
def attach_call{l:OpenLaw}{n:Nat}{q:aN}{loose:List Str}{XP:(Str->Option ae)->bd->Prop}{YP:aV->bd->Prop}{d:DefRec}
  (hn:l.most=aa n) (hdf:d.params.defaults=[])
  (call:∀ (w:aV) (s₀ s₁:ah) (mg mb:Str->Option ae) (fa:af) (o:Obj) (pm cd doc:ae) (a:af) (vs:List ae) (ns:List Int),
   Ground q loose [] XP w s₀ mg mb s₁.heap->YP w s₁.heap ->
   s₁.heap.get? fa=aa o->o.data=.func (docDef d.name d.params d.body d.scope pm cd doc)->s₁.heap.CodeRec cd d.name->mg d.name=aa (.ref fa) ->
   s₁.heap.get? a=aa { cls:=.type "list",data:=.seq vs.toArray}->IntsAre vs ns->ns.length<=n->s₁.gens=#[] ->
   codeAny (model l.prog w) callerA (.call (.ref fa) ⟨[.ref a],[]⟩) (fun r s'=>r=.ok (.ret (.bool true))/\OldK s₁.heap s'.heap/\s'.os=s₁.os/\AllBare s'.gens) s₁) :
  WalkO q loose XP YP l.row.toRowW d [] (fun f vs=>jl f vs):=by
 intro w s₀ s₁ mg mb G Y fa o pm cd doc dV kV ho hd hcd hD hmg hg args vals as hpre hlay hrd hwl hlo;obtain rfl:dV=.none:=Dflts.none hD hdf;obtain rfl:kV=.none:=Dflts.noKw hD;obtain⟨a,vs,ns,rfl,rfl,hobj,hints,hlen⟩:=script_of hn hpre hwl;refine enter_call (codeAny_mono (call w s₀ s₁ mg mb fa o pm cd doc a vs ns G Y ho (fd_plain hd) hcd hmg hobj hints hlen hg) fun r s' hq=>?_);obtain⟨rfl,h2,h3,h4⟩:=hq;exact⟨.inl ⟨.bool true,.bool true,[],rfl,fun _=>rfl,.bool true,post_true l _,fun _=>⟨k8,fun _ hm=>(nomatch hm)⟩⟩,h2,h3,h4⟩
section
variable {prog:aN}{w:aV}{A:aX}{E:ae->ah->Prop}{s:ah}{K:Frag}
end
end Att
namespace L2
open PySem PySem.Spec PyProof.Rows
def zeV:∀ {vs:List ae} {ns:List Int},IntsAre vs ns->Vals (ns.map V.int) vs
 | _,_,.nil=>.nil
 | _,_,.cons n t h=>.cons ⟨t,rfl⟩ (zeV h)
def Only(H:Hp):Prop:=∀ b,H b=ab \/ ∃ o xs,H b=aa (.frz o (.lst xs))
def law_call{P:aN}{w:aV}{K:ag}{mg mb:Str->Option ae}{CX:CXT}{k:Nat}{fa a:af}{fd:bw}{x:Str}{sp:Sp}{s₁:ah}{vs:List ae}{ns:List Int}
  (KX:K.In s₁.heap) (hns:s₁.heap.Ns aI mg) (hb:s₁.heap.Ns builtinsNs mb) (hbb:∀ x:Str,x ≠ "__name__" -> mb x=aS x) (hlim:s₁.heap.NoLimit) (hg:s₁.gens=#[])
  (ha:s₁.heap.get? a=aa { cls:=.type "list",data:=.seq vs.toArray}) (hi:IntsAre vs ns) (hl:ns.length<=aZ) (hr:Room k callerA)
  (F:∀ base:bd,K.In base->base.Ns aI mg->FnOk P w K mg base CX k fa fd [x] sp) (hbind:∀ (s:ah) (u:ae),BindsTo s fd ⟨[u],[]⟩ [(x,u)])
  (hsp:∀ H:Hp,Only H->SqL K H a (ns.map V.int)->sp [.ref a] H (fun v _=>v=.bl true) fun _ _ _=>False)
  (hCX:∀ H e s',CX [] H s₁ (fun _ _ _=>False) e s'->False) :
  codeAny (model P w) callerA (.call (.ref fa) ⟨[.ref a],[]⟩) (fun r s'=>r=.ok (.ret (.bool true))/\OldK s₁.heap s'.heap/\s'.os=s₁.os/\AllBare s'.gens) s₁:=by
 have rv:=zeV hi;have lenV:=hi.length;have core:∀ H:Hp,Only H->SqL K H a (ns.map V.int)->HOk P w H s₁.heap->(∀ b,H b ≠ ab->b=a)->(H a ≠ ab->K.lookup a=ab) ->
   codeAny (model P w) callerA (.call (.ref fa) ⟨[.ref a],[]⟩) (fun r s'=>r=.ok (.ret (.bool true))/\OldK s₁.heap s'.heap/\s'.os=s₁.os/\AllBare s'.gens) s₁:=by
  intro H hO hS hok hA hK;have base_of:∀ {b:af} {o:Obj},s₁.heap.get? b=aa o->H b=ab->(hidT s₁.heap H).get? b=aa o:=fun e n=>hidT_get e n;have noA:∀ {b:af} {o:Obj} {es:Array DictEntry} {ep:Nat},s₁.heap.get? b=aa o->o.data=.dict es ep->H b=ab:=fun {b o es ep} e d=>by
   cases q:H b with
   | none=>rfl
   | some u=>
    have e':b=a:=hA b (by rw[q];simp);subst e';rw[ha] at e;cases e;have d':ld vs.toArray _=Data.dict es ep:=d;cases d'
  have nsK:∀ {b:af} {m:Str->Option ae},s₁.heap.Ns b m->(hidT s₁.heap H).Ns b m:=fun {b m} ⟨o,es,ep,e,d,r⟩=>⟨o,es,ep,base_of e (noA e d),d,r⟩
  have hKb:K.In (hidT s₁.heap H):=fun b o e=>base_of (KX b o e) (by
   cases q:H b with
   | none=>rfl
   | some u=>
    have e':b=a:=hA b (by rw[q];simp);subst e';rw[hK (by rw[q];simp)] at e;cases e)
  have hM:Mod K mg (hidT s₁.heap H):=⟨hKb,nsK hns,⟨mb,nsK hb,hbb⟩,let⟨mc,h1,h2⟩:=hlim;⟨mc,nsK h1,h2⟩⟩
  have e0:Env0 P w K mg (hidT s₁.heap H) callerA [] s₁ H:=⟨rfl,hM,fun b o e=>of_hidT e,dv (hidT_size _ _),trivial,fun b hb=>absurd (show b ∈ ([]:List af) from hb) (by simp),hok,.of_eq hg⟩
  refine codeAny_mono ((F _ hKb (nsK hns)).run callerA [] s₁ H ⟨[.ref a],[]⟩ [.ref a] [.ref a] _ _ hr e0 (hbind s₁ (.ref a)) (.cons rfl .nil) (hsp H hO hS)) fun r s' h=>?_;cases r with
  | error e=>exact(hCX H e s' h).elim
  | ok fl=>
   cases fl with
   | next=>exact cc h
   | brk=>exact cc h
   | cont=>exact cc h
   | ret u=>
    obtain⟨v,H',os,bare,un,hok',r',q⟩:=h;have q':v=.bl true:=q;subst q';obtain rfl:u=gq true:=r';refine⟨rfl,OldK.of_keep fun b o e=>?_,os,bare⟩;cases q:H b with
    | none=>exact un.keep b o e q (by intro z;exact absurd (show b ∈ ([]:List af) from z) (by simp)) (by simp)
    | some u=>
     rcases hO b with z | ⟨ob,xs,z⟩
     ·rw[q] at z;cases z
     ·have z2:=un.frzs b ob _ z;obtain⟨e1,_⟩:=hok b _ z;obtain⟨e2,_⟩:=hok' b _ z2;rw[e] at e1;cases e1;exact e2
 cases hk:K.lookup a with
 | some o=>
  have e:=KX a o hk;rw[ha] at e;cases e;refine core (fun _=>ab) (fun _=>.inl rfl) (.inr ⟨_,vs.toArray,_,hk,rfl,rfl,rfl,by rw[aU,lenV];exact hl,by simpa using rv⟩) (fun b u z=>by have z':(ab:Option HO)=aa u:=z;cases z') (fun b z=>absurd rfl z) fun z=>absurd rfl z
 | none=>
  refine core (fun b=>if b=a then aa (.frz { cls:=.type "list",data:=.seq vs.toArray} (.lst (ns.map V.int))) else ab) (fun b=>?_) (.inl (.inr ⟨{ cls:=.type "list",data:=.seq vs.toArray},if_pos rfl⟩)) (fun b u z=>?_) (fun b z=>?_) fun _=>hk
  ·by_cases hb:b=a
   ·exact .inr ⟨_,_,if_pos hb⟩
   ·exact .inl (if_neg hb)
  ·by_cases hb:b=a
   ·have z':=(if_pos hb).symm.trans z;cases z';subst hb;exact⟨ha,by rw[al];exact hl,vs,_,rv,ha⟩
   ·have z':=(if_neg hb).symm.trans z;cases z'
  ·by_cases hb:b=a
   ·exact hb
   ·exact absurd (if_neg hb) z
end L2
namespace L2
open PySem PySem.Spec PyProof.Rows
def walk_of{l:gU}{n k:Nat}{q:aN}{loose:List Str}{XP:(Str->Option ae)->bd->Prop}{YP:aV->bd->Prop}{d:DefRec}{K:Params->ag}{CX:aV->CXT}{sp:aV->Sp}{x:Str}
  (hn:l.most=aa n) (hn2:n<=aZ) (hdf:d.params.defaults=[]) (hr:Room k callerA)
  (hY:∀ (w:aV) (h:bd),YP w h->(K w.params).In h)
  (F:∀ (w:aV) (mg:Str->Option ae) (fa:af) (h:bd),(K w.params).In h->h.Ns aI mg->mg d.name=aa (.ref fa) ->
   ∃ fd:bw,(∀ (s:ah) (u:ae),BindsTo s fd ⟨[u],[]⟩ [(x,u)]) /\
    ∀ base:bd,(K w.params).In base->base.Ns aI mg->FnOk l.prog w (K w.params) mg base (CX w) k fa fd [x] (sp w))
  (hsp:∀ (w:aV) (H:Hp) (a:af) (ns:List Int),ns.length<=n->Only H->SqL (K w.params) H a (ns.map V.int)->sp w [.ref a] H (fun v _=>v=.bl true) fun _ _ _=>False)
  (hCX:∀ (w:aV) (H:Hp) (s:ah) (e:ae) (s':ah),CX w [] H s (fun _ _ _=>False) e s'->False) :
  jE q loose XP YP l.row.toRowW d [] (fun f vs=>jl f vs):=by
 refine Att.attach_call hn hdf fun w s₀ s₁ mg mb fa o pm cd doc a vs ns G Y ho hd hcd hmg hobj hints hlen hg=>?_;have KX:=hY w _ Y;obtain⟨fd,hb,hF⟩:=F w mg fa _ KX G.T.g hmg;exact law_call KX G.T.g G.T.b G.T.builtins G.T.nolimit hg hobj hints (bp hlen hn2) hr hF hb (fun H hO hS=>hsp w H a ns hlen hO hS) fun H e s'=>hCX w H s₁ e s'
end L2
namespace L2
open PySem PySem.Spec PyProof.Rows
def zao(s:Stmt):Arguments:=match s with
 | .FunctionDef _ a _ _ _ _ _ _ _ _=>a
 | _=>{ posonlyargs:=[],args:=[],vararg:=ab,kwonlyargs:=[],kw_defaults:=[],kwarg:=ab,defaults:=[]}
def zan(s:Stmt):List Stmt:=match s with
 | .FunctionDef _ _ b _ _ _ _ _ _ _=>b
 | _=>[]
def zac(s:Stmt):Scope:=match s with
 | .FunctionDef _ _ _ _ _ _ sc _ _ _=>sc
 | _=>{ kind:=.function,names:=[],isGenerator:=false,isCoroutine:=false}
abbrev CX0:CXT:=fun _ _ _ _ _ _=>False
abbrev E0:XK:=fun _ _ _=>False
def zaE{X:Cx}:zbX CX0 X E0:=fun _ _ _ _ _ _ _ h=>h.elim
structure Fun(K:ag)(x qual:Str)(st:Stmt)(f:af)(fd:bw):Prop where
 ex:∃ (oc:ae) (od:Option af) (kV doc pm:ae) (an:Option af) (cdv ct:ae) (osl:Array (Option ae)),
  fd=aW x qual (zao st) (zan st) (zac st) .none kV doc pm an cdv ct/\K.lookup f=aa ⟨oc,od,.func fd,osl⟩/\aT K cdv qual=true
 kp:aP K (.ref f)=true
section
variable {P:aN}{w:aV}{K:ag}{mg:Str->Option ae}{base:bd}
def Fun.binds{x qual:Str}{st:Stmt}{f:af}{fd:bw}{ps:List Str}(F:Fun K x qual st f fd)
  (h:∀ (kV doc pm:ae) (an:Option af) (cdv ct:ae) (us:List ae),us.length=ps.length->bindArgs (aW x qual (zao st) (zan st) (zac st) .none kV doc pm an cdv ct) ⟨us,[]⟩=pure (ps.zip us)):Binds K fd ps []:=by
 obtain⟨oc,od,kV,doc,pm,an,cdv,ct,osl,rfl,lk,hcd⟩:=F.ex;exact .all (h kV doc pm an cdv ct)
def za1{x qual:Str}{st:Stmt}{f:af}{oc:ae}{od an:Option af}{osl:Array (Option ae)}{kV doc pm cdv ct:ae}(l:K.lookup f=aa ⟨oc,od,.func (aW x qual (zao st) (zan st) (zac st) .none kV doc pm an cdv ct),osl⟩)
  (c:aT K cdv qual=true) (k:aP K (.ref f)=true):Fun K x qual st f (aW x qual (zao st) (zan st) (zac st) .none kV doc pm an cdv ct):=⟨⟨oc,od,kV,doc,pm,an,cdv,ct,osl,rfl,l,c⟩,k⟩
end
def zbY{A:aX}{k:Nat}(hr:Room k A):A.units+1<cLine:=fP (iz (by decide:1<=64) _) hr.units
def small1000{n:Nat}(h:n<=1000):n<aZ:=fP h (by decide)
section
variable {X:Cx}
end
def iteF{A B:Prop}(h:B):if false=true then A else B:=by
 rw[if_neg aQ];exact h
def iteT{A B:Prop}(h:A):if true=true then A else B:=by
 rw[if_pos rfl];exact h
def Same(H H':Hp):Prop:=∀ b o,H b=aa o->H' b=aa o
def Same.refl(H:Hp):Same H H:=fun _ _ h=>h
def Same.trans{H H1 H2:Hp}(a:Same H H1)(b:Same H1 H2):Same H H2:=fun c o h=>b c o (a c o h)
def Same.free{H H':Hp}(e:Same H H'){l:af}(h:H' l=kz):H l=kz:=by
 cases q:H l with
 | none=>rfl
 | some o=>
  rw[e l o q] at h;cases h
def Same.seq{K:ag}{H H':Hp}{a:af}{xs:List V}(e:Same H H')(h:SqL K H a xs):SqL K H' a xs:=by
 rcases h with (h | ⟨o,h⟩) | h
 ·exact .inl (.inl (e _ _ h))
 ·exact .inl (.inr ⟨o,e _ _ h⟩)
 ·exact .inr h
end L2

namespace L2
open PySem PySem.Spec PyProof.Rows
def ziM{α β:Type}{l:List α}{f:α->β->Sem (ForInStep β)}(g:β->α->β)(h:∀ x ∈ l,∀ c,f x c=pure (.yield (g c x)))(c:β):forIn l c f=pure (l.foldl g c):=by
 induction l generalizing c with
 | nil=>rfl
 | cons x l ih=>
  rw[jm,h x am,pure_bind];exact ih (fun y hy=>h y (aj _ hy)) _
def clG(env:Env)(cs:List (Str × af))(x:Str × NameKind):List (Str × af):=
 if (x.2 == bD)=true then (match env.cells.lookup x.1 with | some c=>(x.1,c) :: cs | none=>cs) else cs
def zhX(env:Env)(names:List (Str × NameKind)):List (Str × af):=names.foldl (clG env) []
def zfe{scope:Scope}{env:Env}(h:∀ y ∈ scope.names,y.2=.free->∃ c,env.cells.lookup y.1=aa c):closureFor scope env=pure (zhX env scope.names):=by
 simp only[closureFor];rw[ziM (clG env) (fun x hx c=>by
  obtain⟨n,k⟩:=x;cases hk:(k == bD) with
  | false=>simp only[clG,hk,bx,if_false]
  | true=>
   have e:k=.free:=by cases k <;> first | rfl | (exact absurd hk (by decide))
   obtain⟨c0,hc⟩:=h _ hx e;simp only[clG,hk,if_true,cellOf,hc,pure_bind])]
 rfl
def zgn{env:Env}:∀ (names:List (Str × NameKind)) (cs:List (Str × af)),(∀ y c,cs.lookup y=aa c->env.cells.lookup y=aa c) ->
  ∀ y c,(names.foldl (clG env) cs).lookup y=aa c->env.cells.lookup y=aa c
 | [],_,h,y,c,e=>h y c e
 | (n,k) :: r,cs,h,y,c,e=>by
  refine zgn r (clG env cs (n,k)) (fun z d hz=>?_) y c e;unfold clG at hz;split at hz
  ·cases q:env.cells.lookup n with
   | none=>simp only[q] at hz;exact h z d hz
   | some c0=>
    simp only[q,bV] at hz;cases hb:z == n with
    | true=>
     simp only[hb] at hz;cases hz;have:z=n:=by simpa using hb
     rw[this];exact q
    | false=>simp only[hb] at hz;exact h z d hz
  ·exact h z d hz
def cl_has{env:Env}:∀ (names:List (Str × NameKind)) (cs:List (Str × af)) (y:Str),(∃ c,env.cells.lookup y=aa c)->((∃ c,cs.lookup y=aa c) \/ (y,bD) ∈ names) ->
  ∃ c,(names.foldl (clG env) cs).lookup y=aa c
 | [],_,_,_,h=>by
  rcases h with h | h
  ·exact h
  ·cases h
 | (n,k) :: r,cs,y,hc,h=>by
  refine cl_has r (clG env cs (n,k)) y hc ?_;have keep:(∃ c,cs.lookup y=aa c)->∃ c,(clG env cs (n,k)).lookup y=aa c:=fun⟨c,e⟩=>by
   unfold clG;split
   ·cases q:env.cells.lookup n with
    | none=>exact⟨c,e⟩
    | some c0=>
     show ∃ c,cf y ((n,c0) :: cs)=aa c;rw[bV];cases y == n with
     | true=>exact⟨c0,rfl⟩
     | false=>exact⟨c,e⟩
   ·exact⟨c,e⟩
  rcases h with h | h
  ·exact .inl (keep h)
  ·rcases az.mp h with h | h
   ·cases h;left;obtain⟨c0,q⟩:=hc;unfold clG;rw[if_pos (by rfl)];show ∃ c,cf n (match env.cells.lookup n with | some c=>(n,c) :: cs | none=>cs)=aa c;rw[q];refine⟨c0,?_⟩;show cf n ((n,c0) :: cs)=aa c0;rw[bV];simp
   ·exact .inr h
def zdm{env:Env}:∀ {names:List (Str × NameKind)} {x:Str},names.lookup x=aa .free ->
  (names.map fun(n,k)=>if (k == bD && env.scope.kind == .function && env.kindOf n == aa .cell) then (n,cV) else (n,k)).lookup x=aa .cell \/
  (names.map fun(n,k)=>if (k == bD && env.scope.kind == .function && env.kindOf n == aa .cell) then (n,cV) else (n,k)).lookup x=aa .free
 | [],_,h=>by simp at h
 | (n,k) :: r,x,h=>by
  have ih:=@zdm env r x;show cf x ((if (k == bD && env.scope.kind == .function && env.kindOf n == aa .cell)=true then (n,cV) else (n,k)) :: _)=_ \/ cf x ((if (k == bD && env.scope.kind == .function && env.kindOf n == aa .cell)=true then (n,cV) else (n,k)) :: _)=_;cases hx:x == n with
  | true=>
   simp only[bV,hx] at h;cases h;by_cases hc:(bD == bD && env.scope.kind == .function && env.kindOf n == aa .cell)=true
   ·rw[if_pos hc];left;simp only[bV,hx]
   ·rw[if_neg hc];right;simp only[bV,hx]
  | false=>
   simp only[bV,hx] at h;by_cases hc:(k == bD && env.scope.kind == .function && env.kindOf n == aa .cell)=true
   ·rw[if_pos hc];simp only[bV,hx];exact ih h
   ·rw[if_neg hc];simp only[bV,hx];exact ih h
def zdq{env:Env}:∀ {names:List (Str × NameKind)} {x:Str},(∀ y ∈ names,y.2 ≠ .cell) ->
  ((names.map fun(n,k)=>if (k == bD && env.scope.kind == .function && env.kindOf n == aa .cell) then (n,cV) else (n,k)).lookup x=aa .cell \/
  (names.map fun(n,k)=>if (k == bD && env.scope.kind == .function && env.kindOf n == aa .cell) then (n,cV) else (n,k)).lookup x=aa .free)->names.lookup x=aa .free
 | [],_,_,h=>by rcases h with h | h <;> simp at h
 | (n,k) :: r,x,hnc,h=>by
  have ih:=@zdq env r x fun y hy=>hnc y (aj _ hy);have h':cf x ((if (k == bD && env.scope.kind == .function && env.kindOf n == aa .cell)=true then (n,cV) else (n,k)) :: (r.map fun(n,k)=>if (k == bD && env.scope.kind == .function && env.kindOf n == aa .cell) then (n,cV) else (n,k)))=aa .cell \/ cf x ((if (k == bD && env.scope.kind == .function && env.kindOf n == aa .cell)=true then (n,cV) else (n,k)) :: (r.map fun(n,k)=>if (k == bD && env.scope.kind == .function && env.kindOf n == aa .cell) then (n,cV) else (n,k)))=aa .free:=h;rw[bV];cases hx:x == n with
  | true=>
   have hk:k=.free:=by
    by_cases hc:(k == bD && env.scope.kind == .function && env.kindOf n == aa .cell)=true
    ·cases k <;> first | rfl | (simp at hc)
    ·rw[if_neg hc] at h';simp only[bV,hx] at h';rcases h' with h' | h'
     ·exact absurd (aM h') (hnc (n,k) am)
     ·exact aM h'
   rw[hk]
  | false=>
   by_cases hc:(k == bD && env.scope.kind == .function && env.kindOf n == aa .cell)=true
   ·rw[if_pos hc] at h';simp only[bV,hx] at h';exact ih h'
   ·rw[if_neg hc] at h';simp only[bV,hx] at h';exact ih h'
structure CompSc(X:Cx)(N:List Str)(fr:List Nat)(x:Str)(scope:Scope):Prop where
 kind:scope.kind=.function
 chk:(scope.names.all fun y=>match y.2 with
  | .cell=>false
  | .local=>scope.names.lookup y.1 == aa .local
  | .free=>X.env.scope.names.lookup y.1 == aa .cell || X.env.scope.names.lookup y.1 == aa .free
  | _=>true)=true
 tg:scope.names.lookup x=aa .local
 nd:N.Nodup
 nm:N.map aa=aa x :: fr.map (fun i=>X.N[i]?)
 nf:(N.tail.all fun y=>scope.names.lookup y == aa .free)=true
def za6{o:Option NameKind}{k:NameKind}(h:(o == aa k)=true):o=aa k:=by
 cases o with
 | none=>cases h
 | some j=>
  have:(j == k)=true:=h;cases j <;> cases k <;> first | rfl | (exact absurd this (by decide))
section
variable {X:Cx}{N:List Str}{fr:List Nat}{x:Str}{scope:Scope}
def CompSc.ncell(S:CompSc X N fr x scope):∀ y ∈ scope.names,y.2 ≠ .cell:=fun y hy e=>by
 have h:=cW.mp S.chk y hy;obtain⟨n,k⟩:=y;cases (show k=.cell from e);exact absurd h (by simp)
def CompSc.loc(S:CompSc X N fr x scope):∀ y ∈ scope.names,y.2=.local->scope.names.lookup y.1=aa .local:=fun y hy e=>by
 have h:=cW.mp S.chk y hy;obtain⟨n,k⟩:=y;cases (show k=.local from e);exact za6 h
def CompSc.free(S:CompSc X N fr x scope):∀ y ∈ scope.names,y.2=.free->X.env.kindOf y.1=aa .cell \/ X.env.kindOf y.1=aa .free:=fun y hy e=>by
 have h:=cW.mp S.chk y hy;obtain⟨n,k⟩:=y;cases (show k=.free from e);have h':(X.env.scope.names.lookup n == aa .cell || X.env.scope.names.lookup n == aa .free)=true:=h;rcases iA.mp h' with h' | h'
 ·exact .inl (za6 h')
 ·exact .inr (za6 h')
end
def zdL(fr:List Nat)(σ:St):St:=fr.map fun i=>(σ[i]?).join
def cxC(X:Cx)(N:List Str)(scope:Scope)(C:af)(s₀:ah)(H₀:Hp)(fp:List af):Cx:=
 { X with N:=N,s₀:=s₀,H₀:=H₀,env:=compEnvC scope (zhX X.env scope.names) C X.env,outer:=X.stack,ex:=fp,fn:=fun _=>false,pn:=[],xe:=fun _ _=>False}
def PTs(X:Cx)(ifs:List Expr)(t:TT):Prop:=
 ∀ (pins:List (af × Obj)) (s:ah) (σ:St) (H:Hp) (Q:Bool->Hp->Prop),Inv X pins σ H s->t σ H Q ->
  ay (model X.prog X.w) X.A (forIn ifs true fun c r=>if r=true then do let ok <- isTrue c X.env (eval c X.env);pure (eX ok) else pure (eX r)) (TP X pins σ Q) X.xe s
def tNoIf:TT:=fun _ H Q=>Q true H
def pts_nil{X:Cx}:PTs X [] tNoIf:=fun _ _ _ H _ I h=>by
 rw[jv];exact aq ⟨H,I,h⟩
def pts_one{X:Cx}{c:Expr}{t:TT}(h:PT X c t):PTs X [c] t:=fun pins s σ H Q I hw=>by
 rw[jm,if_pos rfl];refine ai (ai (thn (h pins s σ H Q I hw) fun ok s1 q=>aq ?_));show ay _ _ (forIn ([]:List Expr) ok _) _ _ _;rw[jv];exact aq q
def lcW(fr:List Nat)(tt:TT)(te:TE)(J:It)(σ:St)(H1:Hp)(R:af->Hp->Prop):Prop:=
 ∀ a,H1 a=ab->∃ W:Nat->Nat->List V->Hp->Prop,(∃ m,W 0 m [] (upd H1 a (.lst [])))/\∀ i m ys H,W i m ys H ->
  (J.stop i H/\R a H) \/ (J.go i H/\∀ x H',J.yld i H x H'->tt (aa x :: zdL fr σ) H' fun b H2=>
   if b=true then te (aa x :: zdL fr σ) H2 fun y H3=>H3 a=aa (.lst ys)/\ys.length<aZ/\∃ m',m'<m/\W (i+1) m' (ys ++ [y]) (upd H3 a (.lst (ys ++ [y])))
   else ∃ m',m'<m/\W (i+1) m' ys H2)
def tLC(fr:List Nat)(wi:TI)(tt:TT)(te:TE):TE:=fun σ H Q=>wi σ H fun J H1=>lcW fr tt te J σ H1 fun a H2=>Q (.ref a) H2
section
variable {X:Cx}{N:List Str}{fr:List Nat}{x:Str}{scope:Scope}{pins:List (af × Obj)}{σ:St}{H:Hp}{s:ah}
def comp_inv(S:CompSc X N fr x scope){fp:List af}{h₁:bd}{tk:Nat}(I:Inv X pins σ H s)(hf:∀ b ∈ fp,zg1 X pins H b)(hfo:∀ b ∈ fp,b<s.heap.objs.size)
  (hns:h₁.Ns s.heap.objs.size fun y=>([]:List (Str × ae)).reverse.lookup y) (old:∀ b o,s.heap.get? b=aa o->h₁.get? b=aa o) :
  Inv (cxC X N scope s.heap.objs.size s H fp) [] (ab :: zdL fr σ) H { s with heap:=h₁,toks:=tk}:=by
 have sub:∀ y c,(zhX X.env scope.names).lookup y=aa c->X.env.cells.lookup y=aa c:=zgn scope.names [] (fun _ _ z=>by cases z);have has:∀ y,(y,bD) ∈ scope.names->∃ c,(zhX X.env scope.names).lookup y=aa c:=fun y hy=>cl_has scope.names [] y (I.ok.has y (S.free _ hy rfl)) (.inr hy);have celK:∀ c v,s.heap.IsCell c v->h₁.IsCell c v:=fun c v ⟨o,ho,hd⟩=>⟨o,old c o ho,hd⟩
 have hlen:N.length=fr.length+1:=by
  have:=congrArg cY S.nm;simpa using this
 refine⟨⟨I.ok.mod,S.kind,I.ok.glob,I.ok.blt,au _,fun y z c h1 h2=>I.ok.inj y z c (sub y c h1) (sub z c h2),fun y hy=>?_,fun y c hy _=>(by cases hy),I.ok.hd,I.ok.frames,.inl rfl,fun b hb=>⟨aR (hfo b hb),fun y c e=>(hf b hb).2.2.2.2.1 y c (sub y c e)⟩,
  I.bs,bp I.ok.bsz I.sz,fun b o e hb=>?_,fun b hb hfs=>?_,I.stack,I.stkFree⟩,rfl,I.bare,Un.kept old,⟨_,hns,fun i y v e1 e2 e3=>?_⟩,fun y c e=>?_,I.hok.fresh (au _),fun y c e=>I.freeC y c (sub y c e),fun p hp=>absurd (show p ∈ ([]:List (af × Obj)) from hp) (by simp),I.hok.kept old,?_⟩
 ·exact has y (bT (zdq S.ncell hy))
 ·rcases (hf b hb).2.2.2.1 with z | z
  ·exact I.ok.noex b o e z
  ·exact absurd (bn (aH e) (bp I.ok.bsz z)) (b8 _)
 ·rcases az.mp (I.stkSub b hfs) with z | z
  ·exact(hf b hb).2.1 z
  ·exact(hf b hb).2.2.1 z
 ·cases i with
  | zero=>simp at e2
  | succ j=>
   have e1':N[j+1]? = aa y:=e1;have q1:(N.map aa)[j+1]? = aa (aa y):=by rw[aD,e1'];rfl
   rw[S.nm,bA,aD] at q1;have e2':(zdL fr σ)[j]? = aa (aa v):=by simpa using e2
   unfold zdL at e2';rw[aD] at e2';cases q:fr[j]? with
   | none=>rw[q] at q1;cases q1
   | some i'=>
    rw[q] at q1 e2';have n1:X.N[i']? = aa y:=aM q1;have n2:(σ[i']?).join=aa v:=aM e2';have n3:σ[i']? = aa (aa v):=by
     cases q':σ[i']? with
     | none=>rw[q'] at n2;cases n2
     | some o=>rw[q'] at n2;rw[show o=aa v from n2]
    have hy:y ∈ N.tail:=by
     have:N.tail[j]? = aa y:=by rw[List.getElem?_tail];exact e1'
     exact cL this
    have hfree:scope.names.lookup y=aa .free:=za6 (cW.mp S.nf y hy);have hk:=S.free _ (bT hfree) rfl;obtain⟨m,hn,hl⟩:=I.loc;obtain⟨u,r,l⟩:=hl i' y v n1 n3 (hk.elim (fun z=>.inr (.inl z)) fun z=>.inr (.inr z));refine⟨u,r,.inr ⟨zdm hfree,?_⟩⟩;rcases l with ⟨k,_⟩ | ⟨k,c,ec,hc⟩
    ·rcases hk with z | z <;> (rw[show X.env.kindOf y=aa .local from k] at z;cases z)
    ·obtain⟨c',ec'⟩:=has y (bT hfree);have:c'=c:=aM ((sub y c' ec').symm.trans ec);rw[this] at ec';exact⟨c,ec',celK c _ hc⟩
 ·obtain⟨v,z⟩:=I.cell y c (sub y c e);exact⟨v,celK c v z⟩
 ·show(ab :: zdL fr σ).length=N.length;rw[hlen];simp[zdL]
def zfm{fp:List af}{σ':St}{pins':List (af × Obj)}{H':Hp}{s':ah}{C:af}(I:Inv X pins σ H s)(hf:∀ b ∈ fp,zg1 X pins H b)(J:Inv (cxC X N scope C s H fp) pins' σ' H' s'):Inv X pins σ H' s':=
 Inv.call' (ch:=fp) I J.os J.base J.hok J.bare fun b hb=>⟨(hf b hb).2.2.2.1,(hf b hb).2.1,(hf b hb).2.2.2.2.1,(hf b hb).2.2.2.2.2⟩
end
section
variable {X:Cx}{N:List Str}{fr:List Nat}{x:Str}{scope:Scope}{iter elt:Expr}{ifs:List Expr}{px pos:Pos}{wi:TI}{te:TE}{tt:TT}
def comp_core(S:CompSc X N fr x scope)(hc:X.calm=true)
  (ht:∀ (C:af) (s₀:ah) (H₀:Hp) (fp:List af),PTs (cxC X N scope C s₀ H₀ fp) ifs tt) (he:∀ (C:af) (s₀:ah) (H₀:Hp) (fp:List af),PE (cxC X N scope C s₀ H₀ fp) elt te)
  {pins:List (af × Obj)} {σ:St} {H3:Hp} {s3:ah} {R:af->Hp->Prop} {RR:ae->af->Result->ah->Prop} {it D:af} {fp:List af} {tn:Nat->bd->Prop} {J:It} {h₁:bd} {o₁:Obj} {tk:Nat} {W:Nat->Nat->List V->Hp->Prop}
  (I3:Inv X pins σ H3 s3) (T:Turn X.prog X.w X.K (.Name x px) J fp it tn) (st3:tn 0 s3.heap) (hf3:∀ b ∈ fp,zg1 X pins H3 b) (hns₁:h₁.Ns s3.heap.objs.size fun y=>([]:List (Str × ae)).reverse.lookup y) (hsb₁:d4 s3.heap.objs.size (s3.heap.push o₁) h₁)
  (w0:∃ m,W 0 m [] H3) (turn:∀ i m ys H,W i m ys H ->
   (J.stop i H/\R D H) \/ (J.go i H/\∀ x H',J.yld i H x H'->tt (aa x :: zdL fr σ) H' fun b H2=>
    if b=true then te (aa x :: zdL fr σ) H2 fun y H3=>H3 D=aa (.lst ys)/\ys.length<aZ/\∃ m',m'<m/\W (i+1) m' (ys ++ [y]) (upd H3 D (.lst (ys ++ [y])))
    else ∃ m',m'<m/\W (i+1) m' ys H2))
  (hRR:∀ (D C:af) (H':Hp) (s':ah) (m:Str->Option ae),s'.heap.Ns C m->C ≠ X.env.locals->H' C=ab->X.s₀.heap.objs.size<=C->(∀ y c,X.env.cells.lookup y=aa c->c ≠ C)->(∀ p ∈ X.pn ++ pins,p.1 ≠ C)->Inv X pins σ H' s'->R D H'->RR (.ref D) C (.ok .next) s') :
  codeAny (model X.prog X.w) X.A (.compStart (.ListComp elt [⟨.Name x px,iter,ifs,0⟩] scope pos) 0 (.ref it) (.ref D) (compEnvC scope (zhX X.env scope.names) s3.heap.objs.size X.env)) (RR (.ref D) s3.heap.objs.size) { s3 with heap:=h₁,toks:=tk}:=by
 obtain⟨m0,w0⟩:=w0;have hfo3:∀ b ∈ fp,b<s3.heap.objs.size:=fun b hb=>by
  obtain⟨o,e,_⟩:=T.obj 0 _ st3 b hb;exact aH e
 have old:∀ b o,s3.heap.get? b=aa o->h₁.get? b=aa o:=fun b o e=>hsb₁.extBut b o (aR (aH e)) (ak _ e);have st1:tn 0 h₁:=T.keep 0 s3.heap h₁ st3 fun b hb o e=>old b o e;have stat:∀ {pins':List (af × Obj)} {H':Hp},(∀ b ∈ fp,H' b=ab)->(∀ b ∈ fp,∀ p ∈ pins',p.1 ≠ b)->∀ b ∈ fp,zg1 (cxC X N scope s3.heap.objs.size s3 H3 fp) pins' H' b:=fun {pins' H'} hn hp b hb=>by
  refine⟨hn b hb,aR (hfo3 b hb),fun z=>?_,.inl hb,fun y c e=>(hf3 b hb).2.2.2.2.1 y c (zgn scope.names [] (fun _ _ z=>by cases z) y c e),fun p hp'=>hp b hb p (by simpa [cxC] using hp')⟩;rcases az.mp (I3.stkSub b z) with z | z
  ·exact(hf3 b hb).2.1 z
  ·exact(hf3 b hb).2.2.1 z
 have loop:∀ s4:ah,Inv (cxC X N scope s3.heap.objs.size s3 H3 fp) [] (ab :: zdL fr σ) H3 s4->tn 0 s4.heap ->
   codeAny (model X.prog X.w) X.A (.compLoop (.ListComp elt [⟨.Name x px,iter,ifs,0⟩] scope pos) 0 (.ref it) (.ref D) (compEnvC scope (zhX X.env scope.names) s3.heap.objs.size X.env)) (RR (.ref D) s3.heap.objs.size) s4:=by
  intro s4 I4 st4;refine codeAny_compLoop_tests (fun n s'=>∃ i ys H' v0,Inv (cxC X N scope s3.heap.objs.size s3 H3 fp) [] (v0 :: zdL fr σ) H' s'/\tn i s'.heap/\(∀ b ∈ fp,H' b=ab)/\W i n ys H') ?_ m0
   ⟨0,[],_,ab,I4,st4,fun b hb=>(hf3 b hb).1,w0⟩
  rintro n s5 ⟨i,ys,H5,v0,I5,st5,fr5,w5⟩;rcases turn i n ys H5 w5 with ⟨stop,qn⟩ | ⟨go,step⟩
  ·refine bR (T.done (cxC X N scope s3.heap.objs.size s3 H3 fp) rfl rfl rfl hc i [] s5 _ H5 (fun _ _=>False) I5 (stat fr5 (by simp)) st5 stop) (fun r s6 hr6=>?_) fun _ _ z=>z.elim;obtain⟨hr,I6⟩:=hr6;subst hr;obtain⟨m,hn,_⟩:=id I6.loc;refine hRR _ _ H5 s6 m hn ?_ I6.free ?_ ?_ ?_ (zfm I3 hf3 I6) qn
   ·exact dr I3.lt
   ·exact I3.sz
   ·intro y c e z;obtain⟨v,q⟩:=I3.cell y c e;exact absurd q.lt (by rw[z];exact b8 _)
   ·intro p hp z;exact absurd (aH (I3.pin p hp).1) (by rw[z];exact b8 _)
  ·refine bR (T.item (cxC X N scope s3.heap.objs.size s3 H3 fp) rfl rfl rfl hc i [] s5 _ H5 (fun _ _=>False) I5 (stat fr5 (by simp)) st5 go) (fun r s6 hr6=>?_) fun _ _ z=>z.elim;obtain⟨u,hr,h6⟩:=hr6;subst hr;show ay _ _ (assign (.Name x px) _ u) _ _ s6;have el:∀ env:Env,(assign (.Name x px) env u)=(letOwnedTupleGo (.Name x px) (.ref it) u >>= fun _=>assign (.Name x px) env u):=fun env=>by
    rw[show letOwnedTupleGo (.Name x px) (.ref it) u=pure () from rfl,pure_bind]
   rw[el];refine ai (bR h6 (fun _ s7 h7=>?_) fun _ _ z=>z.elim);obtain⟨y,H7,I7,r7,y7,st7,fr7⟩:=h7;have I7':=I7.pinned (stat fr7 (by simp)) (T.obj _ _ st7);have lx:(relabel scope X.env).names.lookup x=aa .local:=lookup_relabel_local S.tg;have hN0:N[0]? = aa x:=by
    have:=congrArg (fun l=>l[0]?) S.nm;simp only[aD,cM] at this;cases q:N[0]? with
    | none=>rw[q] at this;cases this
    | some z=>rw[q] at this;exact aM this
   refine wpAny_assign_Name (zfN (i:=0) (v:=y) I7' S.nd hN0 (.inl lx) r7 (fun s8 I8=>?_) (.inr lx));have I8':Inv (cxC X N scope s3.heap.objs.size s3 H3 fp) ([] ++ zeK fp s7.heap) (aa y :: zdL fr σ) H7 s8:=I8;refine bR (ht _ _ _ _ _ s8 _ H7 _ I8' (step y H7 y7)) (fun ok s9 h9=>?_) fun _ _ z=>z.elim;obtain⟨H9,I9,q9⟩:=h9;have again:∀ {s':ah} {H':Hp},Inv (cxC X N scope s3.heap.objs.size s3 H3 fp) ([] ++ zeK fp s7.heap) (aa y :: zdL fr σ) H' s' ->
     Inv (cxC X N scope s3.heap.objs.size s3 H3 fp) [] (aa y :: zdL fr σ) H' s'/\tn (i+1) s'.heap/\∀ b ∈ fp,H' b=ab:=fun {s' H'} I'=>by
    refine⟨I'.unpinned,T.keep _ _ _ st7 fun b hb o e=>(I'.pin (b,o) (aA _ (aA _ (zcv hb e)))).1,fun b hb=>?_⟩;obtain⟨o,e,d⟩:=T.obj _ _ st7 b hb;exact(I'.pin (b,o) (aA _ (aA _ (zcv hb e)))).2.1
   cases ok with
   | false=>
    rw[if_neg aQ] at q9 ⊢;obtain⟨m',hm,w9⟩:=q9;obtain⟨a1,a2,a3⟩:=again I9;exact⟨m',hm,i+1,ys,H9,aa y,a1,a2,a3,w9⟩
   | true=>
    rw[if_pos rfl] at q9 ⊢;refine bR (he _ _ _ _ _ s9 _ H9 _ I9 q9) (fun zv s10 h10=>?_) fun _ _ z=>z.elim;obtain⟨z,H10,I10,rz,hz,hlt,m',hm,w10⟩:=h10;refine bR (zd3 (X:=cxC X N scope s3.heap.objs.size s3 H3 fp) _ s10 _ H10 (.ref D) [z] (.ref D) [zv] (fun _ H'=>H'=upd H10 D (.lst (ys ++ [z]))) I10 rfl (.cons rz .nil)
     ⟨_,ys,z,rfl,rfl,hz,hlt,rfl⟩) (fun _ s11 h11=>?_) fun _ _ z=>z.elim
    obtain⟨_,H11,I11,_,e11⟩:=h11;subst e11;obtain⟨a1,a2,a3⟩:=again I11;exact⟨m',hm,i+1,ys ++ [z],_,aa y,a1,a2,a3,w10⟩
 have I4:=comp_inv S (tk:=tk) I3 hf3 hfo3 hns₁ old;exact codeAny_compStart_list (loop _ I4 st1) (T.self _ 0 _ _ _ st1 (loop _ I4 st1))
def zib(S:CompSc X N fr x scope)(hc:X.calm=true)
  (ht:∀ (C:af) (s₀:ah) (H₀:Hp) (fp:List af),PTs (cxC X N scope C s₀ H₀ fp) ifs tt) (he:∀ (C:af) (s₀:ah) (H₀:Hp) (fp:List af),PE (cxC X N scope C s₀ H₀ fp) elt te)
  {pins:List (af × Obj)} {σ:St} {H:Hp} {s:ah} {R:af->Hp->Prop} {RR:ae->af->Result->ah->Prop} {it:af} {fp:List af} {tn:Nat->bd->Prop} {J:It} {E:ae->ah->Prop}
  (I:Inv X pins σ H s) (T:Turn X.prog X.w X.K (.Name x px) J fp it tn) (st:tn 0 s.heap) (hf:∀ b ∈ fp,zg1 X pins H b) (h:lcW fr tt te J σ H R)
  (hRR:∀ (D C:af) (H':Hp) (s':ah) (m:Str->Option ae),s'.heap.Ns C m->C ≠ X.env.locals->H' C=ab->X.s₀.heap.objs.size<=C->(∀ y c,X.env.cells.lookup y=aa c->c ≠ C)->(∀ p ∈ X.pn ++ pins,p.1 ≠ C)->Inv X pins σ H' s'->R D H'->RR (.ref D) C (.ok .next) s') :
  ay (model X.prog X.w) X.A (newList []) (fun acc s₃=>ay (model X.prog X.w) X.A (newFunctionEnv scope X.env.globals (zhX X.env scope.names) [] X.env.qual ab .none (aa X.env)) (fun cenv s₄=>
   codeAny (model X.prog X.w) X.A (.compStart (.ListComp elt [⟨.Name x px,iter,ifs,0⟩] scope pos) 0 (.ref it) acc { cenv with scope:=relabel scope X.env}) (RR acc cenv.locals) s₄) E s₃) E s:=by
 refine wpAny_newObj_type (wpAny_newFunctionEnv S.ncell (by intro y hy;simp at hy) (fun h₁ hns₁ hsb₁=>?_) S.kind);have hD:H s.heap.objs.size=ab:=I.hok.fresh (au _);obtain⟨W,w0,turn⟩:=h _ hD;have I3:Inv X pins σ (upd H s.heap.objs.size (.lst [])) { s with heap:=s.heap.push { cls:=.type "list",dict:=ab,data:=.seq ([]:List ae).toArray}}:=
  I.laid (t':=s.toks) (fun b o e=>ak _ e) (au _) ⟨cm _,[],_,.nil,aB _ rfl⟩
 have hfo:∀ b ∈ fp,b<s.heap.objs.size:=fun b hb=>by
  obtain⟨o,e,_⟩:=T.obj 0 _ st b hb;exact aH e
 have hf3:∀ b ∈ fp,zg1 X pins (upd H s.heap.objs.size (.lst [])) b:=fun b hb=>by
  obtain⟨f0,f1⟩:=hf b hb;exact⟨by rw[zam (aR (hfo b hb))];exact f0,f1⟩
 exact comp_core S hc ht he I3 T (T.keep 0 s.heap _ st fun b hb o e=>ak _ e) hf3 hns₁ hsb₁ w0 turn hRR
def CompSc.clos(S:CompSc X N fr x scope){pins:List (af × Obj)}{σ:St}{H:Hp}{s:ah}(I:Inv X pins σ H s):closureFor scope X.env=pure (zhX X.env scope.names):=
 zfe fun y hy e=>I.ok.has y.1 (S.free y hy e)
def pe_lc(S:CompSc X N fr x scope)(hc:X.calm=true)(hi:PI X (.Name x px) iter wi)
  (ht:∀ (C:af) (s₀:ah) (H₀:Hp) (fp:List af),PTs (cxC X N scope C s₀ H₀ fp) ifs tt) (he:∀ (C:af) (s₀:ah) (H₀:Hp) (fp:List af),PE (cxC X N scope C s₀ H₀ fp) elt te)
  (hs:∀ z,bX iter X.env z=pure z:=by intro _;rfl):PE X (.ListComp elt [⟨.Name x px,iter,ifs,0⟩] scope pos) (tLC fr wi tt te):=by
 intro pins s σ H Q I h;rw[eval_ListComp];refine wpAny_comprehension_free (use:=ab) (cl:=zhX X.env scope.names) rfl hs (S.clos I) S.kind S.loc (thn (hi pins s σ H _ I h) fun xv s1 h1=>thn h1 fun itv s2 h2=>?_);obtain⟨it,fp,tn,J,H2,e,I2,T,st2,f2,q⟩:=h2;subst e;refine zib (RR:=fun acc C=>compPost (model X.prog X.w) X.A X.xe ab (EP X pins σ Q) acc C) S hc ht he I2 T st2 f2 q ?_;intro D C H' s' m hn c1 c2 c3 c4 c5 I' r;refine⟨m,hn,fun h' hsb=>⟨.ref D,H',?_,rfl,r⟩⟩;exact I'.turned (t':=s'.toks) (fun b o hb e=>(hsb.2 b hb).trans e) c2 c1 (.inr c3) c4 c5
def ps_setlc{i:Nat}{y:Str}{py spos:Pos}(hN:X.N.Nodup)(hi':X.N[i]? = aa y)(hy:Loc X.env.scope y)(S:CompSc X N fr x scope)(hc:X.calm=true)(hi:PI X (.Name x px) iter wi)
  (ht:∀ (C:af) (s₀:ah) (H₀:Hp) (fp:List af),PTs (cxC X N scope C s₀ H₀ fp) ifs tt) (he:∀ (C:af) (s₀:ah) (H₀:Hp) (fp:List af),PE (cxC X N scope C s₀ H₀ fp) elt te)
  (hsw:swapsWith (.ListComp elt [⟨.Name x px,iter,ifs,0⟩] scope pos) (aa (.Name y py)) spos.line X.env=pure true:=by rfl)
  (hs:∀ z,bX iter X.env z=pure z:=by intro _;rfl)
  (hf:X.fn y=true \/ X.env.scope.names.lookup y=aa .local:=by first | exact .inl rfl | exact .inr rfl | assumption) :
  PS X (.Assign [.Name y py] (.ListComp elt [⟨.Name x px,iter,ifs,0⟩] scope pos) spos) (zfH (tLC fr wi tt te) (zdh i)):=by
 intro pins s σ H D I h;rw[exec_Assign_Name_used _ _ _ _ hsw];refine ai (wpAny_standAt (ai ?_));show ay _ X.A (do let _ <- comprehension (.ListComp elt [⟨.Name x px,iter,ifs,0⟩] scope pos) scope X.env _ (newList []) false (eval iter X.env) (aa (assign (.Name y py) X.env))) _ _ s;refine ai (bR (wpAny_comprehension_free (use:=aa (assign (.Name y py) X.env)) (cl:=zhX X.env scope.names) (Q:=fun _ s'=>SP X pins D .next s') rfl hs (S.clos I) S.kind S.loc
  (thn (hi pins s σ H _ I h) fun xv s1 h1=>thn h1 fun itv s2 h2=>?_)) (fun _ s' hq=>aq (aq hq)) fun _ _ e=>e)
 obtain⟨it,fp,tn,J,H2,e,I2,T,st2,f2,q⟩:=h2;subst e;refine zib (RR:=fun acc C=>compPost (model X.prog X.w) X.A X.xe (aa (assign (.Name y py) X.env)) (fun _ s'=>SP X pins D .next s') acc C) S hc ht he I2 T st2 f2 q ?_;intro D' C H' s' m hn c1 c2 c3 c4 c5 I' r;show ay _ _ (assign (.Name y py) X.env (.ref D')) _ _ s';refine wpAny_assign_Name (zgM (v:=.ref D') I' hN hi' hy rfl (fun s'' I'' hc'=>?_) hf);obtain⟨c,hsb,hcc⟩:=hc';have hne:C ≠ c:=by
  rcases hcc with z | z
  ·rw[z];exact c1
  ·exact fun e=>c4 y c z e.symm
 refine⟨m,hn.sameBut hsb hne,fun h' hsb'=>⟨_,H',?_,r⟩⟩;exact I''.turned (t':=s''.toks) (fun b o hb e=>(hsb'.2 b hb).trans e) c2 c1 (.inr c3) c4 c5
end
end L2

namespace L2
open PySem PySem.Spec PyProof.Rows
def Same.alloc{H:Hp}{p:af}{o:HO}(h:H p=ab):Same H (upd H p o):=fun b u e=>by rw[zam (zaD e h)];exact e
section
variable {X:Cx}
def rIsi(K:ag):List V->Hp->VK->Prop:=fun xs H Q=>∃ x n t b,xs=[x,.ty n]/\TyOf K H x t/\hW K t (.type n)=aa b/\Q (.bl b) H
def call_isi:zde X (.builtin "isinstance") (rIsi X.K):=by
 intro pins s σ H xs us Q I r h;obtain⟨x,n,t,b,rfl,ty,e,q⟩:=h;obtain⟨u,w',rfl,rx,ry⟩:=vals2 r;cases (show w'=cU n from ry);exact isinst_ok I rx ty e fun tk=>⟨.bl b,H,I.tok tk,rfl,q⟩
end
def pe_gl{X:Cx}{x:Str}{v:V}{pos:Pos}(hg:Gl X x)(h:∃ u,X.mg x=aa u/\RelV v u)(hd:(x == ("__debug__" : Str))=false:=by decide):PE X (.Name x pos) (tC v):=by
 obtain⟨u,hm,r⟩:=h;exact pe_glob hg hm r hd
end L2
namespace HT
open PySem PyProof.Rows
section
variable {prog:aN}{w:aV}{A:aX}{E:ae->ah->Prop}{s:ah}
end
end HT
namespace L2
open PySem PySem.Spec PyProof.Rows
section
variable {X:Cx}
end
end L2
namespace L2
open PySem PySem.Spec PyProof.Rows
section
variable {X:Cx}{pins:List (af × Obj)}{σ:St}{H:Hp}{s:ah}{pos:Pos}
def Inv.big(I:Inv X pins σ H s):sysModules<s.heap.objs.size:=by
 have h:aI<s.heap.objs.size:=(I.mod.glob.keeps I.bk).lt;exact gz (by decide) h
def dk_empty{P:aN}{w:aV}{H:Hp}(h:bd)(hb:sysModules<h.objs.size):ObjOk P w H (h.push { cls:=.type "dict",data:=.dict #[]}) h.objs.size (.dK []):=
 ⟨cm _,beq_eq_false_iff_ne.mpr (ce (aR hb)),[],.nil,jn h⟩
def tDNewK:TE:=fun _ H Q=>∀ p,H p=ab->Q (.ref p) (upd H p (.dK []))
def pe_dnewK:PE X (.Dict [] [] pos) tDNewK:=fun pins s σ H Q I h=>
 wpAny_Dict_empty ⟨.ref s.heap.objs.size,_,I.laid (a:=s.heap.objs.size) (o:=.dK []) (t':=s.toks) (fun _ _ q=>ak _ q) (au _) (dk_empty s.heap I.big),rfl,h _ (I.hok.fresh (au _))⟩
end
end L2

namespace L2
open PySem PySem.Spec PyProof.Rows
def zak:Expr->Bool
 | .Starred _ _=>false
 | _=>true
def zaq{e:Expr}{es:List Expr}{env:Env}(h:zak e=true):ba (e :: es) env=(false,eval e env) :: ba es env:=by
 cases e <;> first | rfl | (exact absurd h (by decide)) | (cases h)
def zcs{env:Env}{pos:Pos}:∀ {es:List Expr},es.all zak=true->(backTo pos (ba es env)).any (·.1)=false
 | [],_=>rfl
 | e :: es,h=>by
  rw[fZ,de] at h;rw[zaq h.1];show(false || (backTo pos (ba es env)).any (·.1))=false;rw[zcs h.2];rfl
def zhK{env:Env}{pos:Pos}:∀ {es:List Expr},es.all zak=true->(backTo pos (ba es env)).all (fun x=>!x.1)=true
 | [],_=>rfl
 | e :: es,h=>by
  rw[fZ,de] at h;rw[zaq h.1];show(true && (backTo pos (ba es env)).all (fun x=>!x.1))=true;rw[zhK h.2];rfl
section
variable {X:Cx}{e o:Expr}{es:List Expr}{te to:TE}{t:TA}{x:Str}{p pos:Pos}
structure Def(K:ag)(mg:Str->Option ae)(x:Str)(st:Stmt)(ps:List Str)(f:af)(fd:bw):Prop where
 fn:Fun K x x st f fd
 mg:mg x=aa (.ref f)
 b:Binds K fd ps []
def pbm{T id:String}{name:Str}{apos cpos:Pos}{r:V->List V->Hp->VK->Prop}(pa:PlainAttrs T)(slot:Slot T name id)(hty:typeOf (.builtin id)=pure (.type "method_descriptor"))(hm:MtR X id r)(ho:PE X o to)(ha:PA X (e :: es) t)
  (hbase:b9 o name X.env (eval o X.env)=eval o X.env:=by rfl) (hl:decide ((e :: es).length+0+0<30)=true:=by rfl) (hline:(apos.endLine == cpos.line)=true:=by rfl)
  (h1:zak e=true:=by rfl) (h2:es.all zak=true:=by rfl):PE X (.Call (.Attribute o name apos) (e :: es) [] cpos) (tBM X.K T r to t):=by
 refine pe_bm pa slot hty hm ho ha hbase ?_ hline (zaq h1) (zcs h2);rw[zhK (es:=e :: es) (by rw[fZ,h1,h2];rfl)];exact hl
end
end L2

namespace L2
open PySem PySem.Spec PyProof.Rows
structure WE(X:Cx)(e:Expr)(t:TE):Prop where
 h:PE X e t
structure WT(X:Cx)(e:Expr)(t:TT):Prop where
 h:PT X e t
structure WW(X:Cx)(e:Expr)(t:TT):Prop where
 h:PW X e t
structure WA(X:Cx)(es:List Expr)(t:TA):Prop where
 h:PA X es t
structure WS(X:Cx)(s:Stmt)(t:TS):Prop where
 h:PS X s t
structure WSs(X:Cx)(s:List Stmt)(t:TS):Prop where
 h:PSs X s t
structure WI(X:Cx)(tg e:Expr)(t:TI):Prop where
 h:PI X tg e t
structure WG(X:Cx)(e:Expr)(t:TG):Prop where
 h:PG X e t
structure WGs(X:Cx)(es:List Expr)(t:TGs):Prop where
 h:PGs X es t
structure WO(X:Cx)(e:Option Expr)(t:TO):Prop where
 h:PO X e t
structure WTs(X:Cx)(es:List Expr)(t:TT):Prop where
 h:PTs X es t
section
variable {X:Cx}{a b c e o:Expr}{es rest:List Expr}{pos pos' p p2:Pos}{ta tb tc te to:TE}{tA tB':TT}{t:TA}{x:Str}{r r':R2}
def wv(i:Nat)(hN:X.N[i]? = aa x:=by rfl)(hv:Vis X.env.scope x:=by first | exact aK rfl | exact be (aK rfl) | exact be (be rfl))(hd:(x == ("__debug__" : Str))=false:=by decide)
  (hcd:(x == ("__classdict__" : Str))=false:=by decide):WE X (.Name x pos) (zdC i):=⟨pe_var hN hv hd hcd⟩
def wint{i:Int}{j:Nat}:WE X (.Constant (.int i) j pos) (tC (.int i)):=⟨pe_int⟩
def wbl{i:Bool}{j:Nat}:WE X (.Constant (.bool i) j pos) (tC (.bl i)):=⟨pe_bl⟩
def wnon{j:Nat}:WE X (.Constant .none j pos) (tC .non):=⟨pe_non⟩
def wstr{i:Str}{j:Nat}:WE X (.Constant (.str i) j pos) (tC (.str i)):=⟨pe_str⟩
def wgl{v:V}(hg:Gl X x)(h:∃ u,X.mg x=aa u/\RelV v u)(hd:(x == ("__debug__" : Str))=false:=by decide):WE X (.Name x pos) (tC v):=⟨pe_gl hg h hd⟩
def wbt{n:String}(hg:Gl X x)(hm:X.mg x=ab)(hv:aS x=aa (.type n))(hn:x ≠ "__name__" :=by decide)(hd:(x == ("__debug__" : Str))=false:=by decide):WE X (.Name x pos) (tC (.ty n)):=⟨pe_bltn (v:=.ty n) hg hm hv rfl hn hd⟩
def wop{op:Operator}(ho:OpR X (binaryOp op) r)(ha:WE X a ta)(hb:WE X b tb):WE X (.BinOp a op b pos) (tOp r ta tb):=⟨pe_op ho ha.h hb.h⟩
def wun{op:UnaryOp}{q:V->Hp->VK->Prop}(ho:UnR X (unaryOp op) q)(ha:WE X a ta):WE X (.UnaryOp op a pos) (tUn q ta):=⟨pe_un ho ha.h⟩
def wcmp{op:CmpOp}(ho:OpR X (bu op) r)(ha:WE X a ta)(hb:WE X b tb)(hm:behindInMarks op b=false):WE X (.Compare a [op] [b] pos) (tOp r ta tb):=⟨pe_cmpR ho ha.h hb.h hm⟩
def wone{op:BoolOp}(h:WE X a ta):WE X (.BoolOp op [a] pos) ta:=⟨pe_one h.h⟩
def wand(ha:WE X a ta)(hb:WE X (.BoolOp .And (b :: rest) pos) tb):WE X (.BoolOp .And (a :: b :: rest) pos) (tAndV ta tb):=⟨pe_and ha.h hb.h⟩
def wif(hc:WT X c tA)(ha:WE X a ta)(hb:WE X b tb):WE X (.IfExp c a b pos) (tIf tA ta tb):=⟨pe_ifExp hc.h ha.h hb.h⟩
def wtup{x1:Nat}(h:WA X es t):WE X (.Tuple es x1 pos) (tTup t):=⟨pe_tup h.h⟩
def wlst(h:WA X es t):WE X (.List es pos) (tLst t):=⟨pe_lst h.h⟩
def wix{r:R2}(hr:IxR X r)(ha:WE X a ta)(hb:WE X b tb)(hs:zhr b):WE X (.Subscript a b pos) (tOp r ta tb):=⟨pe_ix hr ha.h hb.h hs⟩
def wslice{lo hi:Option Expr}{tl th:TO}{r:V->Option Int->Option Int->Hp->VK->Prop}(hr:SlR X r)(he:WE X e te)(hl:WO X lo tl)(hu:WO X hi th):WE X (.Subscript e (.Slice lo hi ab p2) pos) (tSl r te tl th):=⟨pe_slice hr he.h hl.h hu.h⟩
def wnil:WA X [] tNil:=⟨zhU⟩
def wac(ha:WE X e te)(hr:WA X es t)(h:zak e=true:=by rfl):WA X (e :: es) (tCons te t):=⟨zgg ha.h hr.h (zaq h)⟩
def won:WO X ab tNoPart:=⟨po_none⟩
def wos(h:WE X e te):WO X (aa e) (tPart te):=⟨po_some h.h⟩
def wcb{id:String}{r:List V->Hp->VK->Prop}(hc:zde X (.builtin id) r)(hg:Gl X x)(hm:X.mg x=ab)(hv:aS x=aa (.builtin id))(ha:WA X (e :: es) t)(hn:x ≠ "__name__" :=by decide)(hdb:(x == ("__debug__" : Str))=false:=by decide)
  (h1:zak e=true:=by rfl) (h2:es.all zak=true:=by rfl):WE X (.Call (.Name x p) (e :: es) [] pos) (tCB r t):=⟨pe_callB hc hg hm hv ha.h hn hdb (zaq h1) (zcs h2)⟩
def wct{T:String}{r:List V->Hp->VK->Prop}(hc:zde X (.type T) r)(hg:Gl X x)(hm:X.mg x=ab)(hv:aS x=aa (.type T))(ha:WA X (e :: es) t)(hn:x ≠ "__name__" :=by decide)(hdb:(x == ("__debug__" : Str))=false:=by decide)
  (h1:zak e=true:=by rfl) (h2:es.all zak=true:=by rfl):WE X (.Call (.Name x p) (e :: es) [] pos) (tCB r t):=⟨pe_callTy hc hg hm hv ha.h hn hdb (zaq h1) (zcs h2)⟩
def wcl{CX:CXT}{k j:Nat}{f:af}{fd:bw}{ps:List Str}{sp:Sp}{st:Stmt}{E:XK}(F:FnOk X.prog X.w X.K X.mg X.base CX k f fd ps sp)(D:Def X.K X.mg x st ps f fd)(hr:Room j X.A)(hg:Gl X x)(hx:zbX CX X E)
  (ha:WA X (e :: es) t) (hjk:k<=j:=by decide) (hdb:(x == ("__debug__" : Str))=false:=by decide) (h1:zak e=true:=by rfl) (h2:es.all zak=true:=by rfl) :
  WE X (.Call (.Name x p) (e :: es) [] pos) (tCall sp [] E t):=⟨pe_call F (hr.mono hjk) hg D.mg D.fn.kp D.b .nil hx ha.h hdb (zaq h1) (zcs h2)⟩
def wbm{T id:String}{name:Str}{apos cpos:Pos}{r:V->List V->Hp->VK->Prop}(pa:PlainAttrs T)(slot:Slot T name id)(hty:typeOf (.builtin id)=pure (.type "method_descriptor"))(hm:MtR X id r)(ho:WE X o to)(ha:WA X (e :: es) t)
  (hbase:b9 o name X.env (eval o X.env)=eval o X.env:=by rfl) (hl:decide ((e :: es).length+0+0<30)=true:=by rfl) (hline:(apos.endLine == cpos.line)=true:=by rfl)
  (h1:zak e=true:=by rfl) (h2:es.all zak=true:=by rfl):WE X (.Call (.Attribute o name apos) (e :: es) [] cpos) (tBM X.K T r to t):=⟨pbm pa slot hty hm ho.h ha.h hbase hl hline h1 h2⟩
def tcmp{op:CmpOp}(ho:OpR X (bu op) r)(ha:WE X a ta)(hb:WE X b tb)(hm:behindInMarks op b=false):WT X (.Compare a [op] [b] pos) (ze7 (tOp r ta tb)):=⟨pt_cmpR ho ha.h hb.h hm⟩
def tand1(ha:WT X a tA):WW X (.BoolOp .And [a] pos) tA:=⟨pw_and1 ha.h⟩
def tor1(ha:WT X a tA):WW X (.BoolOp .Or [a] pos) tA:=⟨pw_or1 ha.h⟩
def tand(ha:WT X a tA)(hb:WW X (.BoolOp .And (b :: rest) pos) tB'):WW X (.BoolOp .And (a :: b :: rest) pos) (tAnd tA tB'):=⟨pw_and ha.h hb.h⟩
def tor(ha:WT X a tA)(hb:WW X (.BoolOp .Or (b :: rest) pos) tB'):WW X (.BoolOp .Or (a :: b :: rest) pos) (tOr tA tB'):=⟨pw_or ha.h hb.h⟩
def tw(h:WW X a tA):WT X a tA:=⟨h.h.pt⟩
def tnot(ha:WT X a tA):WT X (.UnaryOp .Not a pos) (tNot tA):=⟨pt_not ha.h⟩
def tval(h:WE X e te)(he:∀ whole,isTrue e X.env whole=(do let v <- whole;standAt e.pos;holding [v] (truthy v)):=by intro _;rfl):WT X e (tB te):=⟨pt_val h.h he⟩
def ifs0:WTs X [] tNoIf:=⟨pts_nil⟩
def ifs1(h:WT X c tA):WTs X [c] tA:=⟨pts_one h.h⟩
end
section
variable {X:Cx}{e c tg iter:Expr}{es:List Expr}{pos pos' p:Pos}{te:TE}{tc:TT}{ta:TA}{x:Str}{st:Stmt}{sr body els:List Stmt}{t u tb:TS}{wi:TI}{g:TG}{gs:TGs}
def il(h:WE X e te):WI X tg e (iList X.K te):=⟨pi_list h.h⟩
def it(h:WE X e te):WI X tg e (iTup X.K te):=⟨pi_tup h.h⟩
def ir1(hg:Gl X "range")(hm:X.mg "range" = ab)(ha:WA X [e] ta)(h1:zak e=true:=by rfl):WI X tg (.Call (.Name "range" p) [e] [] pos) (iRng1 ta):=⟨pi_range1 hg hm ha.h (zaq h1)⟩
def ir2{b:Expr}(hg:Gl X "range")(hm:X.mg "range" = ab)(ha:WA X [e,b] ta)(h1:zak e=true:=by rfl)(h2:zak b=true:=by rfl):WI X tg (.Call (.Name "range" p) [e,b] [] pos) (iRng2 ta):=⟨pi_range2 hg hm ha.h (by rw[zaq h1,zaq h2];rfl) (by rw[zaq h2];rfl)⟩
def gn{i:Nat}(hN:X.N.Nodup)(hi:X.N[i]? = aa x)(hx:Loc X.env.scope x)(hf:X.fn x=true \/ X.env.scope.names.lookup x=aa .local:=by first | exact .inl rfl | exact .inr rfl | assumption):WG X (.Name x pos) (zdh i):=⟨zhm hN hi hx hf⟩
def gs1(h1:WG X e g)(h2:WGs X es gs)(hs:(dg (e :: es) X.env).map (·.2)=assign e X.env :: (dg es X.env).map (·.2):=by rfl):WGs X (e :: es) (gCons g gs):=⟨zfI h1.h h2.h hs⟩
def s0:WSs X [] tNext:=⟨pss_nil⟩
def sc(h1:WS X st t)(h2:WSs X sr u):WSs X (st :: sr) (tSeq t u):=⟨pss_cons h1.h h2.h⟩
def s1(h1:WS X st t):WSs X [st] t:=⟨pss_one h1.h⟩
def ssn:WSs X sr tNever:=⟨pss_never⟩
def sex(he:WE X e te)(hs:swapsWith e ab pos.line X.env=pure false:=by rfl):WS X (.Expr e pos) (tDrop te):=⟨ps_expr he.h hs⟩
def sret(he:WE X e te):WS X (.Return (aa e) pos) (tRet te):=⟨ps_ret he.h⟩
def sif(hc:WT X c tc)(ha:WSs X body t)(hb:WSs X els u):WS X (.If c body els pos) (tIfS tc t u):=⟨ps_if hc.h ha.h hb.h⟩
def sset{i:Nat}(hN:X.N.Nodup)(hi:X.N[i]? = aa x)(hx:Loc X.env.scope x)(he:WE X e te)(hs:swapsWith e (aa (.Name x pos')) pos.line X.env=pure false:=by rfl)(hf:X.fn x=true \/ X.env.scope.names.lookup x=aa .local:=by first | exact .inl rfl | exact .inr rfl | assumption) :
  WS X (.Assign [.Name x pos'] e pos) (zfH te (zdh i)):=⟨ps_set hN hi hx he.h hs hf⟩
def sasg(he:WE X e te)(hg:WG X tg g)(hs:swapsWithSole [tg] e pos.line X.env=pure false:=by rfl)(hw:swappedStores [tg] e X.env=pure ab:=by rfl)(h1:(dg [tg] X.env).map (·.2)=[assign tg X.env]:=by rfl):WS X (.Assign [tg] e pos) (zfH te g):=⟨ps_asg he.h hg.h hs hw h1⟩
def sfor(hp:PassesOwn (model X.prog X.w) X.A X.env X.xe)(hc:X.calm=true)(hi:WI X tg iter wi)(hg:WG X tg g)(hb:WSs X body tb)(hs:∀ z,bX iter X.env z=pure z:=by intro _;rfl):WS X (.For tg iter body [] pos) (tFor wi g tb):=⟨ps_for hp hc hi.h hg.h hb.h hs⟩
def swhile(hp:PassesOwn (model X.prog X.w) X.A X.env X.xe)(hc:WT X c tc)(hb:WSs X body tb):WS X (.While c body [] pos) (zid tc tb):=⟨ps_while hp hc.h hb.h⟩
end
section
variable {X:Cx}{N:List Str}{fr:List Nat}{x:Str}{scope:Scope}{iter elt:Expr}{ifs:List Expr}{px pos:Pos}{wi:TI}{te:TE}{tt:TT}
def wlc(S:CompSc X N fr x scope)(hc:X.calm=true)(hi:WI X (.Name x px) iter wi)
  (ht:∀ (C:af) (s₀:ah) (H₀:Hp) (fp:List af),WTs (cxC X N scope C s₀ H₀ fp) ifs tt) (he:∀ (C:af) (s₀:ah) (H₀:Hp) (fp:List af),WE (cxC X N scope C s₀ H₀ fp) elt te)
  (hs:∀ z,bX iter X.env z=pure z:=by intro _;rfl):WE X (.ListComp elt [⟨.Name x px,iter,ifs,0⟩] scope pos) (tLC fr wi tt te):=⟨pe_lc S hc hi.h (fun C s₀ H₀ fp=>(ht C s₀ H₀ fp).h) (fun C s₀ H₀ fp=>(he C s₀ H₀ fp).h) hs⟩
def ssetlc{i:Nat}{y:Str}{py spos:Pos}(hN:X.N.Nodup)(hi':X.N[i]? = aa y)(hy:Loc X.env.scope y)(S:CompSc X N fr x scope)(hc:X.calm=true)(hi:WI X (.Name x px) iter wi)
  (ht:∀ (C:af) (s₀:ah) (H₀:Hp) (fp:List af),WTs (cxC X N scope C s₀ H₀ fp) ifs tt) (he:∀ (C:af) (s₀:ah) (H₀:Hp) (fp:List af),WE (cxC X N scope C s₀ H₀ fp) elt te)
  (hsw:swapsWith (.ListComp elt [⟨.Name x px,iter,ifs,0⟩] scope pos) (aa (.Name y py)) spos.line X.env=pure true:=by rfl)
  (hs:∀ z,bX iter X.env z=pure z:=by intro _;rfl)
  (hf:X.fn y=true \/ X.env.scope.names.lookup y=aa .local:=by first | exact .inl rfl | exact .inr rfl | assumption) :
  WS X (.Assign [.Name y py] (.ListComp elt [⟨.Name x px,iter,ifs,0⟩] scope pos) spos) (zfH (tLC fr wi tt te) (zdh i)):=
 ⟨ps_setlc hN hi' hy S hc hi.h (fun C s₀ H₀ fp=>(ht C s₀ H₀ fp).h) (fun C s₀ H₀ fp=>(he C s₀ H₀ fp).h) hsw hs hf⟩
end
end L2

set_option maxRecDepth 100000
set_option maxHeartbeats 4000000
namespace L2
open PySem PySem.Spec PyProof.Rows
def knO(l:af)(o:Obj):HO:=.ext fun h=>h.get? l=aa o
def kBk:ae->Key
 | .int i _=>.inl i
 | .str x _=>.inr x
 | _=>.inl 0
def kBk_is{k:Key}{v:ae}(h:zgW k v=true):kBk v=k:=by
 rcases zaF h with ⟨i,t,rfl,rfl⟩ | ⟨x,t,rfl,rfl⟩ <;> rfl
def vBk:ae->V
 | .bool b=>.bl b
 | .int i _=>.int i
 | .str x _=>.str x
 | .bytes b _=>.byt b
 | .float b _=>.flt b
 | .ref a=>.ref a
 | .type n=>.ty n
 | _=>.non
def vBk_rel{v:V}{u:ae}(h:RelV v u):vBk u=v:=by
 cases v <;> first | (cases h;rfl) | (obtain⟨_,rfl⟩:=h;rfl)
def DiD(l:af)(o:Obj)(kvs:List (Key × V)):Prop:=(l == sysModules)=false/\kvs.length<=aZ /\
 ∃ (P:aN) (w:aV) (es:Array DictEntry) (ep:Nat) (us:List (Key × ae)),o.ExactDict/\o.data=.dict es ep/\PySem.KeysOf (zbd P w) es/\Pairs (zbd P w) es.toList us/\(us.map (·.1)).Nodup/\KV kvs us
def zhB{kvs:List (Key × V)}{us:List (Key × ae)}(r:KV kvs us):kvs=us.map fun p=>(p.1,vBk p.2):=by
 unfold KV at r
 induction r with
 | nil=>rfl
 | cons h _ ih=>rw[aF,<- ih,<- h.1,vBk_rel h.2]
def zeq{P:aN}{w:aV}{es:List DictEntry}{us:List (Key × ae)}(r:Pairs (zbd P w) es us):us=es.map fun e=>(kBk e.key,e.val):=by
 induction r with
 | nil=>rfl
 | cons h1 h2 _ ih=>rw[aF,<- ih,kBk_is h1,h2]
def DiD.inj{l:af}{o:Obj}{kvs kvs':List (Key × V)}(h:DiD l o kvs)(h':DiD l o kvs'):kvs=kvs':=by
 obtain⟨_,_,P,w,es,ep,us,_,h1,_,h2,_,h3⟩:=h;obtain⟨_,_,P',w',es',ep',us',_,h1',_,h2',_,h3'⟩:=h';rw[h1] at h1';cases h1';rw[zhB h3,zhB h3',zeq h2,zeq h2']
def knO_inj{l:af}{o o':Obj}{kvs:List (Key × V)}(h:knO l o=knO l o')(d:DiD l o kvs):o=o':=by
 obtain⟨_,_,_,_,es,ep,_,_,h1,_⟩:=d;have g:=aB ⟨gW l o,{}⟩ (o:=o) (by cases o;cases h1;rfl);rw[show(⟨gW l o,{}⟩:bd).objs.size=l from Array.size_replicate] at g;have z:=congrFun (HO.ext.inj h) ((⟨gW l o,{}⟩:bd).push o);exact aM (g.symm.trans (z.mp g))
end L2

namespace L3
open PySem PySem.Spec PyProof.Rows L2
inductive D where
 | non | bl (b:Bool) | int (i:Int) | str (x:Str) | tup (l:List D) | lst (l:List D) | dic (ks:List Str) (l:List D) | ins (C:af) (ns:List Str) (l:List D) | dcI (ks:List Int) (l:List D) | dcS (ks:List Str) (l:List D)
inductive OT where
 | val (d:D) | lst (l:List D) | ins (c:Str) (ns:List Str) (l:List OT) | dcI (ks:List Int) (l:List OT) | dcS (ks:List Str) (l:List OT) | los (l:List OT)
inductive Ent where
 | val (d:D) | own (l:List D) | bor (l:List D) | vw (l:List D) | obj (o:OT) | bt (l:List D)
abbrev En:=List (Option Ent)
abbrev Sg:=L2.St
mutual
inductive Rep(F:Hp):V->D->Prop
 | non:Rep F .non .non
 | bl (b:Bool):Rep F (.bl b) (.bl b)
 | int (i:Int):Rep F (.int i) (.int i)
 | str (x:Str):Rep F (.str x) (.str x)
 | tup {a:af} {vs:List V} {ds:List D}:F a=aa (.tup vs)->Reps F vs ds->Rep F (.ref a) (.tup ds)
 | lst {a:af} {vs:List V} {ds:List D}:F a=aa (.lst vs)->Reps F vs ds->Rep F (.ref a) (.lst ds)
 | dic {a:af} {o:Obj} {ks:List Str} {vs:List V} {ds:List D}:F a=aa (.frz o (.dK ((ks.map bB).zip vs)))->ks.length=vs.length->Reps F vs ds->Rep F (.ref a) (.dic ks ds)
 | ins {a C dx:af} {ns:List Str} {vs:List V} {ds:List D}:F a=aa (.ins C dx (ns.zip vs))->ns.length=vs.length->Reps F vs ds->Rep F (.ref a) (.ins C ns ds)
 | dcI {a:af} {o:Obj} {ks:List Int} {vs:List V} {ds:List D}:F a=aa (knO a o)->DiD a o ((ks.map bE).zip vs)->ks.length=vs.length->Reps F vs ds->Rep F (.ref a) (.dcI ks ds)
 | dcS {a:af} {ks:List Str} {vs:List V} {ds:List D}:F a=aa (.dK ((ks.map bB).zip vs))->ks.length=vs.length->Reps F vs ds->Rep F (.ref a) (.dcS ks ds)
inductive Reps(F:Hp):List V->List D->Prop
 | nil:Reps F [] []
 | cons {v:V} {d:D} {vs:List V} {ds:List D}:Rep F v d->Reps F vs ds->Reps F (v :: vs) (d :: ds)
end
section
variable {F F':Hp}{v:V}{d:D}{vs ws:List V}{ds es:List D}
def Rep.mono(s:Same F F'){v:V}{d:D}(h:Rep F v d):Rep F' v d:=
 Rep.rec (motive_1:=fun v d _=>Rep F' v d) (motive_2:=fun vs ds _=>Reps F' vs ds) .non .bl .int .str (fun e _ ih=>.tup (s _ _ e) ih) (fun e _ ih=>.lst (s _ _ e) ih) (fun e l _ ih=>.dic (s _ _ e) l ih) (fun e l _ ih=>.ins (s _ _ e) l ih) (fun e d l _ ih=>.dcI (s _ _ e) d l ih) (fun e l _ ih=>.dcS (s _ _ e) l ih) .nil (fun _ _ h t=>.cons h t) h
def Reps.mono(s:Same F F'){vs:List V}{ds:List D}(h:Reps F vs ds):Reps F' vs ds:=
 Reps.rec (motive_1:=fun v d _=>Rep F' v d) (motive_2:=fun vs ds _=>Reps F' vs ds) .non .bl .int .str (fun e _ ih=>.tup (s _ _ e) ih) (fun e _ ih=>.lst (s _ _ e) ih) (fun e l _ ih=>.dic (s _ _ e) l ih) (fun e l _ ih=>.ins (s _ _ e) l ih) (fun e d l _ ih=>.dcI (s _ _ e) d l ih) (fun e l _ ih=>.dcS (s _ _ e) l ih) .nil (fun _ _ h t=>.cons h t) h
def Reps.ind{P:List V->List D->Prop}(h0:P [] [])(h1:∀ {v d vs ds},Rep F v d->Reps F vs ds->P vs ds->P (v :: vs) (d :: ds)){vs:List V}{ds:List D}(h:Reps F vs ds):P vs ds:=
 Reps.rec (motive_1:=fun _ _ _=>True) (motive_2:=fun vs ds _=>P vs ds) trivial (fun _=>trivial) (fun _=>trivial) (fun _=>trivial) (fun _ _ _=>trivial) (fun _ _ _=>trivial) (fun _ _ _ _=>trivial) (fun _ _ _ _=>trivial) (fun _ _ _ _ _=>trivial) (fun _ _ _ _=>trivial) h0 (fun a b _ t=>h1 a b t) h
def Reps.length{vs:List V}{ds:List D}(h:Reps F vs ds):vs.length=ds.length:=h.ind (P:=fun vs ds=>vs.length=ds.length) rfl fun _ _ t=>congrArg (· + 1) t
def Reps.get{vs:List V}{ds:List D}{i:Nat}{d:D}(h:Reps F vs ds):ds[i]? = aa d->∃ v,vs[i]? = aa v/\Rep F v d:=
 h.ind (P:=fun vs ds=>∀ i,ds[i]? = aa d->∃ v,vs[i]? = aa v/\Rep F v d) (fun _ e=>nomatch (show ab=aa _ from e)) (fun {v _ _ _} r _ t i e=>by
  cases i with
  | zero=>cases e;exact⟨v,rfl,r⟩
  | succ i=>exact t i e) i
def Reps.append{vs ws:List V}{ds es:List D}(h:Reps F vs ds)(s:Reps F ws es):Reps F (vs ++ ws) (ds ++ es):=h.ind (P:=fun vs ds=>Reps F (vs ++ ws) (ds ++ es)) s fun r _ t=>.cons r t
def Reps.take{vs:List V}{ds:List D}(n:Nat)(h:Reps F vs ds):Reps F (vs.take n) (ds.take n):=
 h.ind (P:=fun vs ds=>∀ n,Reps F (vs.take n) (ds.take n)) (fun n=>by rw[jF,jF];exact .nil) (fun r _ t n=>by
  cases n with
  | zero=>exact .nil
  | succ n=>exact .cons r (t n)) n
def Reps.drop{vs:List V}{ds:List D}(n:Nat)(h:Reps F vs ds):Reps F (vs.drop n) (ds.drop n):=
 h.ind (P:=fun vs ds=>∀ n,Reps F (vs.drop n) (ds.drop n)) (fun n=>by rw[jG,jG];exact .nil) (fun r h t n=>by
  cases n with
  | zero=>exact .cons r h
  | succ n=>exact t n) n
def Reps.set(r:Rep F v d){vs:List V}{ds:List D}(i:Nat)(h:Reps F vs ds):Reps F (vs.set i v) (ds.set i d):=
 h.ind (P:=fun vs ds=>∀ i,Reps F (vs.set i v) (ds.set i d)) (fun _=>.nil) (fun q h t i=>by
  cases i with
  | zero=>exact .cons r h
  | succ i=>exact .cons q (t i)) i
def Reps.one(h:Rep F v d):Reps F [v] [d]:=.cons h .nil
def Reps.rev{vs:List V}{ds:List D}(h:Reps F vs ds):Reps F vs.reverse ds.reverse:=h.ind (P:=fun vs ds=>Reps F vs.reverse ds.reverse) .nil fun h _ t=>by rw[eG,eG];exact t.append (.one h)
def Reps.ints(ns:List Int):Reps F (ns.map V.int) (ns.map D.int):=by
 induction ns with
 | nil=>exact .nil
 | cons n r ih=>exact .cons (.int n) ih
def Reps.dropLast(r:Reps F vs ds):Reps F vs.dropLast ds.dropLast:=by
 rw[ib,ib,r.length];exact r.take _
end
def isT:HO->Bool
 | .tup _=>true
 | _=>false
def zbw(K:ag)(c:Str)(C:af):Prop:=aO K aI c=aa (aa (.ref C))
mutual
inductive TR(K:ag)(F H:Hp):V->OT->List af->Prop
 | val {v:V} {d:D}:Rep F v d->TR K F H v (.val d) []
 | lst {l:af} {vs:List V} {ds:List D}:H l=aa (.lst vs)->Reps F vs ds->TR K F H (.ref l) (.lst ds) [l]
 | ins {a dx C:af} {c:Str} {ns:List Str} {vs:List V} {os:List OT} {A:List af}:zbw K c C->H a=aa (.ins C dx (ns.zip vs))->H dx=aa (.own a)->ns.length=vs.length->TRs K F H vs os A->TR K F H (.ref a) (.ins c ns os) (a :: dx :: A)
 | dcI {l:af} {o:Obj} {ks:List Int} {vs:List V} {os:List OT} {A:List af}:H l=aa (knO l o)->DiD l o ((ks.map bE).zip vs)->ks.length=vs.length->TRs K F H vs os A->TR K F H (.ref l) (.dcI ks os) (l :: A)
 | dcS {l:af} {ks:List Str} {vs:List V} {os:List OT} {A:List af}:H l=aa (.dK ((ks.map bB).zip vs))->ks.length=vs.length->TRs K F H vs os A->TR K F H (.ref l) (.dcS ks os) (l :: A)
 | los {l:af} {vs:List V} {os:List OT} {A:List af}:H l=aa (.lst vs)->TRs K F H vs os A->TR K F H (.ref l) (.los os) (l :: A)
inductive TRs(K:ag)(F H:Hp):List V->List OT->List af->Prop
 | nil:TRs K F H [] [] []
 | cons {v:V} {o:OT} {vs:List V} {os:List OT} {A A':List af}:TR K F H v o A->TRs K F H vs os A'->TRs K F H (v :: vs) (o :: os) (A ++ A')
end
section
variable {K:ag}{F H F' H':Hp}
def TR.move(s:Same F F'){v:V}{o:OT}{A:List af}(t:TR K F H v o A):(∀ a ∈ A,H' a=H a)->TR K F' H' v o A:=
 TR.rec (motive_1:=fun v o A _=>(∀ a ∈ A,H' a=H a)->TR K F' H' v o A) (motive_2:=fun vs os A _=>(∀ a ∈ A,H' a=H a)->TRs K F' H' vs os A) (fun r _=>.val (Rep.mono s r)) (fun e r h=>.lst ((h _ am).trans e) (r.mono s))
  (fun hc e1 e2 hl _ ih h=>.ins hc ((h _ am).trans e1) ((h _ (aj _ am)).trans e2) hl (ih fun a ha=>h a (aj _ (aj _ ha))))
  (fun e d l _ ih h=>.dcI ((h _ am).trans e) d l (ih fun a ha=>h a (aj _ ha))) (fun e l _ ih h=>.dcS ((h _ am).trans e) l (ih fun a ha=>h a (aj _ ha))) (fun e _ ih h=>.los ((h _ am).trans e) (ih fun a ha=>h a (aj _ ha))) (fun _=>.nil)
  (fun _ _ i1 i2 h=>.cons (i1 fun a ha=>h a (bg _ ha)) (i2 fun a ha=>h a (aA _ ha))) t
def TRs.nil_{os:List OT}{A:List af}(h:TRs K F H [] os A):os=[]/\A=[]:=by cases h;exact⟨rfl,rfl⟩
def TRs.cons_{v:V}{vs:List V}{os:List OT}{A:List af}(h:TRs K F H (v :: vs) os A):∃ o os' A1 A2,os=o :: os'/\A=A1 ++ A2/\TR K F H v o A1/\TRs K F H vs os' A2:=by cases h with | cons t ts=>exact⟨_,_,_,_,rfl,rfl,t,ts⟩
def TRs.move(s:Same F F'):∀ {vs:List V} {os:List OT} {A:List af},TRs K F H vs os A->(∀ a ∈ A,H' a=H a)->TRs K F' H' vs os A:=by
 intro vs
 induction vs with
 | nil=>intro os A t h;obtain⟨rfl,rfl⟩:=t.nil_;exact .nil
 | cons v vs ih=>
  intro os A t h;obtain⟨o,os',A1,A2,rfl,rfl,t1,t2⟩:=t.cons_;exact .cons (t1.move s fun a ha=>h a (bg _ ha)) (ih t2 fun a ha=>h a (aA _ ha))
def lies1{l:af}{u:HO}(e:H l=aa u)(hu:isT u=false):∀ a ∈ [l],∃ u,H a=aa u/\isT u=false:=fun a h=>by
 cases bo.mp h;exact⟨u,e,hu⟩
def liesC{l:af}{u:HO}{A:List af}(e:H l=aa u)(hu:isT u=false)(h:∀ a ∈ A,∃ u,H a=aa u/\isT u=false):∀ a ∈ l :: A,∃ u,H a=aa u/\isT u=false:=fun a ha=>
 (az.mp ha).elim (fun z=>⟨u,z ▸ e,hu⟩) (h a)
def TR.lies{v:V}{o:OT}{A:List af}(t:TR K F H v o A):∀ a ∈ A,∃ u,H a=aa u/\isT u=false:=
 TR.rec (motive_1:=fun _ _ A _=>∀ a ∈ A,∃ u,H a=aa u/\isT u=false) (motive_2:=fun _ _ A _=>∀ a ∈ A,∃ u,H a=aa u/\isT u=false) (fun _ a h=>nomatch h) (fun e _=>lies1 e rfl) (fun _ e1 e2 _ _ ih=>liesC e1 rfl (liesC e2 rfl ih)) (fun e _ _ _ ih=>liesC e rfl ih) (fun e _ _ ih=>liesC e rfl ih) (fun e _ ih=>liesC e rfl ih) (fun a h=>nomatch h)
  (fun _ _ i1 i2 a h=>(bj.mp h).elim (i1 a) (i2 a)) t
def TRs.lies:∀ {vs:List V} {os:List OT} {A:List af},TRs K F H vs os A->∀ a ∈ A,∃ u,H a=aa u/\isT u=false:=by
 intro vs
 induction vs with
 | nil=>intro os A t a h;obtain⟨rfl,rfl⟩:=t.nil_;cases h
 | cons v vs ih=>
  intro os A t a h;obtain⟨o,os',A1,A2,rfl,rfl,t1,t2⟩:=t.cons_;exact(bj.mp h).elim (t1.lies a) (ih t2 a)
def zfE{α:Type}{ns:List α}:∀ {vs ws:List V},ns.length=vs.length->ns.length=ws.length->ns.zip vs=ns.zip ws->vs=ws:=by
 intro vs ws h1 h2 h;have a:=congrArg (fun l=>l.map Prod.snd) h;simp only[gA (dv h1.symm),gA (dv h2.symm)] at a;exact a
def TR.det{v:V}{o:OT}{A:List af}(t:TR K F H v o A):∀ {A':List af},TR K F H v o A'->A=A':=by
 refine TR.rec (motive_1:=fun v o A _=>∀ {A':List af},TR K F H v o A'->A=A') (motive_2:=fun vs os A _=>∀ {A':List af},TRs K F H vs os A'->A=A') ?_ ?_ ?_ ?_ ?_ ?_ ?_ ?_ t
 ·intro _ _ _ _ h;cases h;rfl
 ·intro _ _ _ _ _ _ h;cases h;rfl
 ·intro _ _ _ _ _ _ _ _ _ e1 _ hl _ ih _ h;cases h with
  | ins _ e1' _ hl' t'=>
   have z:=aM (e1.symm.trans e1');injection z with _ z2 z3;subst z2;cases zfE hl hl' z3;rw[ih t']
 ·intro _ _ _ _ _ _ e d l _ ih _ h;cases h with
  | dcI e' d' l' t'=>
   cases knO_inj (aM (e.symm.trans e')) d;cases zfE (by rw[al];exact l) (by rw[al];exact l') (d.inj d');rw[ih t']
 ·intro _ _ _ _ _ e l _ ih _ h;cases h with
  | dcS e' l' t'=>
   cases zfE (by rw[al];exact l) (by rw[al];exact l') (HO.dK.inj (aM (e.symm.trans e')));rw[ih t']
 ·intro _ _ _ _ e _ ih _ h;cases h with
  | los e' t'=>
   cases HO.lst.inj (aM (e.symm.trans e'));rw[ih t']
 ·intro _ h;exact h.nil_.2.symm
 ·intro _ _ _ _ _ _ _ _ i1 i2 _ h;obtain⟨_,_,_,_,e,rfl,t1,t2⟩:=h.cons_;cases e;rw[i1 t1,i2 t2]
end
structure Bd where
 hp:Hp
 pin:Option V
instance:Coe Bd Hp:=⟨Bd.hp⟩
structure Ex(F H F' H':Hp):Prop where
 ff:Same F F'
 fh:Same F' H'
 hh:Same H H'
 nw:∀ a o,H a=aa o->isT o=false->F' a=F a
section
variable {K:ag}{B:Bd}{F H F' H' F2 H2 H0:Hp}{v:V}{p:af}{o:HO}{e:Ent}{σ:Sg}{δ:En}
def Ex.refl(h:Same F H):Ex F H F H:=⟨Same.refl F,h,Same.refl H,fun _ _ _ _=>rfl⟩
def Ex.trans(a:Ex F H F' H')(b:Ex F' H' F2 H2):Ex F H F2 H2:=⟨a.ff.trans b.ff,b.fh,a.hh.trans b.hh,fun x o e t=>(b.nw x o (a.hh x o e) t).trans (a.nw x o e t)⟩
def same_upd2(h:Same F H)(hp:H p=ab):Same (upd F p o) (upd H p o):=fun b u e=>by
 by_cases hb:b=p
 ·subst hb;rw[zai] at e ⊢;exact e
 ·rw[zam hb] at e ⊢;exact h b u e
def Ex.alloc(h:Same F H)(hp:H p=ab):Ex F H (upd F p o) (upd H p o):=
 ⟨Same.alloc (h.free hp),same_upd2 h hp,Same.alloc hp,fun a u e _=>zam (zaD e hp)⟩
def Ex.lay(h:Same F H)(hp:H p=ab):Ex F H F (upd H p o):=⟨Same.refl F,h.trans (Same.alloc hp),Same.alloc hp,fun _ _ _ _=>rfl⟩
def Ex.freeze(x:Ex F H F' H')(h0:H p=ab)(h1:H' p=aa o)(h2:F' p=ab):Ex F H (upd F' p o) H':=by
 refine⟨x.ff.trans (Same.alloc h2),fun b u e=>?_,x.hh,fun a u e t=>?_⟩
 ·by_cases hb:b=p
  ·subst hb;rw[zai] at e;cases e;exact h1
  ·rw[zam hb] at e;exact x.fh b u e
 ·rw[zam (zaD e h0)];exact x.nw a u e t
inductive ROwn(H0 F H:Hp)(v:V)(ds:List D):Prop
 | mk (l:af) (vs:List V):v=.ref l->H0 l=ab->H l=aa (.lst vs)->Reps F vs ds->F l=ab->ROwn H0 F H v ds
inductive NOwn(B F H:Hp)(v:V)(ds:List D):Prop
 | mk (l:af) (vs:List V):v=.ref l->H l=aa (.lst vs)->Reps F vs ds->F l=ab->B l=ab->NOwn B F H v ds
inductive RBor(K:ag)(F H:Hp)(v:V)(ds:List D):Prop
 | mk (l:af) (vs:List V):v=.ref l->SqL K H l vs->Reps F vs ds->RBor K F H v ds
inductive RVw(F H:Hp)(v:V)(ds:List D):Prop
 | mk (l:af) (vs:List V):v=.ref l->H l=aa (.lst vs)->Reps F vs ds->RVw F H v ds
inductive RBt(K:ag)(F H:Hp)(v:V)(ds:List D):Prop
 | mk (l:af) (vs:List V):v=.ref l->SqT K H l vs->Reps F vs ds->RBt K F H v ds
inductive RObj(K:ag)(H0 F H:Hp)(v:V)(o:OT):Prop
 | mk (z:∃ l,v=.ref l) (A:List af):TR K F H v o A->A.Nodup->(∀ a ∈ A,F a=ab/\H0 a=ab)->RObj K H0 F H v o
inductive NObj(K:ag)(B F H:Hp)(v:V)(o:OT):Prop
 | mk (A:List af):TR K F H v o A->A.Nodup->(∀ a ∈ A,F a=ab/\B a=ab)->NObj K B F H v o
def RepR(K:ag)(H0 F H:Hp)(v:V):Ent->Prop
 | .val d=>Rep F v d
 | .own ds=>ROwn H0 F H v ds
 | .bor ds=>RBor K F H v ds
 | .vw ds=>RVw F H v ds
 | .obj o=>RObj K H0 F H v o
 | .bt ds=>RBt K F H v ds
def _root_.L2.Same.seqT{K:ag}{H H':Hp}{l:af}{vs:List V}(s:Same H H')(h:SqT K H l vs):SqT K H' l vs:=by
 rcases h with (h | ⟨o,h⟩) | h
 ·exact .inl (.inl (s _ _ h))
 ·exact .inl (.inr ⟨o,s _ _ h⟩)
 ·exact .inr h
def TR.ext{o:OT}{A:List af}(r:TR K F H v o A)(x:Ex F H F' H'):TR K F' H' v o A/\∀ a ∈ A,F' a=F a:=
 ⟨r.move x.ff fun a ha=>let⟨_,h1,_⟩:=r.lies a ha;(x.hh _ _ h1).trans h1.symm,fun a ha=>let⟨_,h1,h2⟩:=r.lies a ha;x.nw _ _ h1 h2⟩
def RepR.ext(r:RepR K H0 F H v e)(x:Ex F H F' H'):RepR K H0 F' H' v e:=by
 cases e with
 | val d=>exact Rep.mono x.ff r
 | own ds=>
  obtain⟨l,vs,e,h0,h1,rs,h2⟩:=r;exact⟨l,vs,e,h0,x.hh _ _ h1,rs.mono x.ff,(x.nw _ _ h1 rfl).trans h2⟩
 | bor ds=>obtain⟨l,vs,e,h,rs⟩:=r;exact⟨l,vs,e,x.hh.seq h,rs.mono x.ff⟩
 | vw ds=>obtain⟨l,vs,e,h,rs⟩:=r;exact⟨l,vs,e,x.hh _ _ h,rs.mono x.ff⟩
 | obj o=>obtain⟨z,A,t,n,h⟩:=r;exact⟨z,A,(t.ext x).1,n,fun a ha=>⟨((t.ext x).2 a ha).trans (h a ha).1,(h a ha).2⟩⟩
 | bt ds=>obtain⟨l,vs,e,h,rs⟩:=r;exact⟨l,vs,e,x.hh.seqT h,rs.mono x.ff⟩
def RepR.earlier(r:RepR K H F' H' v e)(s:Same H0 H):RepR K H0 F' H' v e:=by
 cases e with
 | own ds=>obtain⟨l,vs,e,h0,h1,h2,h3⟩:=r;exact⟨l,vs,e,s.free h0,h1,h2,h3⟩
 | obj o=>obtain⟨z,A,t,n,h⟩:=r;exact⟨z,A,t,n,fun a ha=>⟨(h a ha).1,s.free (h a ha).2⟩⟩
 | _=>exact r
def RepN(K:ag)(B F H:Hp)(v:V):Ent->Prop
 | .val d=>Rep F v d
 | .own ds=>NOwn B F H v ds
 | .bor ds=>RBor K F B v ds
 | .vw ds=>RVw F H v ds
 | .obj o=>NObj K B F H v o
 | .bt ds=>RBt K F B v ds
def Ent.lk:Ent->Bool
 | .own _=>true
 | .vw _=>true
 | _=>false
def Occ(K:ag)(F H:Hp)(v:V):Ent->af->Prop
 | .own _,a=>v=.ref a
 | .vw _,a=>v=.ref a
 | .obj o,a=>∃ A,TR K F H v o A/\a ∈ A
 | _,_=>False
def Ent.isO:Ent->Bool
 | .obj _=>true
 | _=>false
structure RS(K:ag)(B:Bd)(F H:Hp)(σ:Sg)(δ:En):Prop where
 fh:Same F H
 bh:Same B H
 len:σ.length=δ.length
 ent:∀ (i:Nat) (e:Ent),δ[i]? = aa (aa e)->∃ v,σ[i]? = aa (aa v)/\RepN K B F H v e
 ap:∀ (i j:Nat) (l:af) (ds:List D) (e:Ent),i ≠ j->δ[i]? = aa (aa (.own ds))->σ[i]? = aa (aa (.ref l))->δ[j]? = aa (aa e)->e.lk=true->σ[j]? ≠ aa (aa (.ref l))
 ao:∀ (i j:Nat) (e e':Ent) (v w:V) (a:af),i ≠ j->δ[i]? = aa (aa e)->σ[i]? = aa (aa v)->δ[j]? = aa (aa e')->σ[j]? = aa (aa w)->e.isO=true->Occ K F H v e a->Occ K F H w e' a->False
 pn:∀ (v:V) (o:OT),B.pin=aa v->δ[0]? = aa (aa (.obj o))->σ[0]? = aa (aa v)
def RepN.ext(r:RepN K B F H v e)(x:Ex F H F' H'):RepN K B F' H' v e:=by
 cases e with
 | val d=>exact Rep.mono x.ff r
 | own ds=>obtain⟨l,vs,e,h1,rs,h2,h3⟩:=r;exact⟨l,vs,e,x.hh _ _ h1,rs.mono x.ff,(x.nw _ _ h1 rfl).trans h2,h3⟩
 | bor ds=>obtain⟨l,vs,e,h,rs⟩:=r;exact⟨l,vs,e,h,rs.mono x.ff⟩
 | vw ds=>obtain⟨l,vs,e,h,rs⟩:=r;exact⟨l,vs,e,x.hh _ _ h,rs.mono x.ff⟩
 | obj o=>obtain⟨A,t,n,h⟩:=r;exact⟨A,(t.ext x).1,n,fun a ha=>⟨((t.ext x).2 a ha).trans (h a ha).1,(h a ha).2⟩⟩
 | bt ds=>obtain⟨l,vs,e,h,rs⟩:=r;exact⟨l,vs,e,h,rs.mono x.ff⟩
def Occ.back{a:af}(r:RepN K B F H v e)(m:∀ o A,e=.obj o->TR K F H v o A->TR K F' H' v o A)(h:Occ K F' H' v e a):Occ K F H v e a:=by
 cases e with
 | obj o=>
  obtain⟨A,t,_⟩:=r;obtain⟨A',t',h'⟩:=h;rw[t'.det (m o A rfl t)] at h';exact⟨A,t,h'⟩
 | _=>exact h
def Occ.backX{a:af}(r:RepN K B F H v e)(x:Ex F H F' H')(h:Occ K F' H' v e a):Occ K F H v e a:=h.back r fun _ _ _ t=>(t.ext x).1
def RepN.lies{a:af}(r:RepN K B F H v e)(h:Occ K F H v e a):∃ u,H a=aa u:=by
 cases e with
 | own ds=>obtain⟨l,vs,e,h1,_⟩:=r;cases e;cases (show V.ref l=.ref a from h);exact⟨_,h1⟩
 | vw ds=>obtain⟨l,vs,e,h1,_⟩:=r;cases e;cases (show V.ref l=.ref a from h);exact⟨_,h1⟩
 | obj o=>obtain⟨A,t,h'⟩:=h;obtain⟨u,h1,_⟩:=t.lies a h';exact⟨u,h1⟩
 | _=>exact h.elim
def RS.occ{i:Nat}{a:af}(s:RS K B F H σ δ)(h:δ[i]? = aa (aa e))(q:σ[i]? = aa (aa v))(o:Occ K F H v e a):∃ u,H a=aa u:=by
 obtain⟨w,h1,h2⟩:=s.ent i e h;rw[q] at h1;cases h1;exact h2.lies o
def RS.at{i:Nat}(s:RS K B F H σ δ)(h:δ[i]? = aa (aa e))(q:σ[i]? = aa (aa v)):RepN K B F H v e:=by
 obtain⟨w,h1,h2⟩:=s.ent i e h;rw[q] at h1;cases h1;exact h2
def RS.ext(s:RS K B F H σ δ)(x:Ex F H F' H'):RS K B F' H' σ δ:=
 ⟨x.fh,s.bh.trans x.hh,s.len,fun i e h=>let⟨v,h1,h2⟩:=s.ent i e h;⟨v,h1,h2.ext x⟩,s.ap,
  fun i j e e' v w a hij h1 h2 h3 h4 h5 h6 h7=>s.ao i j e e' v w a hij h1 h2 h3 h4 h5 (h6.backX (s.at h1 h2) x) (h7.backX (s.at h3 h4) x),s.pn⟩
def asV:Ent->Option D
 | .val d=>aa d
 | .own ds=>aa (.lst ds)
 | _=>ab
def asL:Ent->Option (List D)
 | .val (.lst ds)=>aa ds
 | .own ds=>aa ds
 | .bor ds=>aa ds
 | .vw ds=>aa ds
 | _=>ab
def RepR.toL{ds:List D}(r:RepR K H0 F H v e)(h:Same F H)(q:asL e=aa ds):RBor K F H v ds:=by
 cases e with
 | val d=>
  cases d with
  | lst es=>
   cases q;cases (show Rep F v (.lst _) from r) with
   | lst e rs=>exact⟨_,_,rfl,SqL.of (h _ _ e),rs⟩
  | _=>cases q
 | own es=>cases q;obtain⟨l,vs,e,_,h1,rs,_⟩:=r;exact⟨l,vs,e,SqL.of h1,rs⟩
 | bor es=>cases q;exact r
 | vw es=>cases q;obtain⟨l,vs,e,h1,rs⟩:=r;exact⟨l,vs,e,SqL.of h1,rs⟩
 | obj o=>cases q
 | bt ds=>cases q
def asLt:Ent->Option (List D)
 | .val (.lst ds)=>aa ds
 | .own ds=>aa ds
 | .vw ds=>aa ds
 | _=>ab
def RepR.toLt{ds:List D}(r:RepR K H0 F H v e)(h:Same F H)(q:asLt e=aa ds):RVw F H v ds:=by
 cases e with
 | val d=>
  cases d with
  | lst es=>
   cases q;cases (show Rep F v (.lst _) from r) with
   | lst e rs=>exact⟨_,_,rfl,h _ _ e,rs⟩
  | _=>cases q
 | own es=>cases q;obtain⟨l,vs,e,_,h1,rs,_⟩:=r;exact⟨l,vs,e,h1,rs⟩
 | bor es=>cases q
 | vw es=>cases q;exact r
 | obj o=>cases q
 | bt ds=>cases q
end
end L3

namespace L3
open PySem PySem.Spec PyProof.Rows L2
abbrev FE:=En->Option Ent
abbrev FT:=En->Option Bool
abbrev FA:=En->Option (List Ent)
inductive RepRs(K:ag)(H0 F H:Hp):List V->List Ent->Prop
 | nil:RepRs K H0 F H [] []
 | cons {v:V} {e:Ent} {vs:List V} {es:List Ent}:RepR K H0 F H v e->RepRs K H0 F H vs es->RepRs K H0 F H (v :: vs) (e :: es)
section
variable {K:ag}{B:Bd}{F H F' H' F2 H2 H0:Hp}
def RepRs.earlier(s:Same H0 H){vs:List V}{es:List Ent}(h:RepRs K H F' H' vs es):RepRs K H0 F' H' vs es:=h.rec .nil fun r _ t=>.cons (r.earlier s) t
def RepRs.length{vs:List V}{es:List Ent}(h:RepRs K H0 F H vs es):vs.length=es.length:=h.rec (motive:=fun vs es _=>vs.length=es.length) rfl fun _ _ t=>congrArg (· + 1) t
def ze5:List Ent->Option (List D)
 | []=>aa []
 | e :: es=>(asV e).bind fun d=>(ze5 es).map fun ds=>d :: ds
def RepR.frz{v:V}{e:Ent}{d:D}(x:Ex F H F' H')(s:Same F2 F')(r:RepR K H F2 H' v e)(q:asV e=aa d):∃ F3,Ex F H F3 H'/\Same F' F3/\Rep F3 v d:=by
 cases e with
 | val d'=>cases q;exact⟨F',x,Same.refl _,Rep.mono s r⟩
 | own ds=>
  cases q;obtain⟨l,vs,e,h0,h1,rs,h2⟩:=r;subst e;cases z:F' l with
  | none=>exact⟨upd F' l (.lst vs),x.freeze h0 h1 z,Same.alloc z,.lst zai (rs.mono (s.trans (Same.alloc z)))⟩
  | some o=>
   have:=x.fh _ _ z;rw[h1] at this;cases this;exact⟨F',x,Same.refl _,.lst z (rs.mono s)⟩
 | _=>cases q
def RepRs.frz{vs:List V}{es:List Ent}{ds:List D}{F':Hp}(x:Ex F H F' H')(s:Same F2 F')(h:RepRs K H F2 H' vs es)(q:ze5 es=aa ds):∃ F3,Ex F H F3 H'/\Same F' F3/\Reps F3 vs ds:=by
 induction h generalizing ds F' with
 | nil=>cases q;exact⟨F',x,Same.refl _,.nil⟩
 | @cons _ e _ es r t ih=>
  simp only[ze5] at q;cases h1:asV e with
  | none=>rw[h1] at q;cases q
  | some d=>
   cases h2:ze5 es with
   | none=>rw[h1,h2] at q;cases q
   | some ds'=>
    rw[h1,h2] at q;cases q;obtain⟨F3,x3,s3,r3⟩:=r.frz x s h1;obtain⟨F4,x4,s4,r4⟩:=ih x3 (s.trans s3) h2;exact⟨F4,x4,s3.trans s4,.cons (Rep.mono s4 r3) r4⟩
end
def SemE(K:ag)(t:TE)(f:FE):Prop:=∀ (B:Bd) (F H:Hp) (σ:Sg) (δ:En) (r:Ent) (Q:VK),RS K B F H σ δ->f δ=aa r->(∀ v F' H',Ex F H F' H'->RepR K H F' H' v r->Q v H')->t σ H Q
def SemT(K:ag)(t:TT)(f:FT):Prop:=∀ (B:Bd) (F H:Hp) (σ:Sg) (δ:En) (b:Bool) (Q:Bool->Hp->Prop),RS K B F H σ δ->f δ=aa b->(∀ F' H',Ex F H F' H'->Q b H')->t σ H Q
def SemA(K:ag)(t:TA)(f:FA):Prop:=∀ (B:Bd) (F H:Hp) (σ:Sg) (δ:En) (rs:List Ent) (Q:List V->Hp->Prop),RS K B F H σ δ->f δ=aa rs->(∀ vs F' H',Ex F H F' H'->RepRs K H F' H' vs rs->Q vs H')->t σ H Q
structure VE(X:Cx)(e:Expr)(f:FE):Prop where
 h:∃ t,WE X e t/\SemE X.K t f
structure VT(X:Cx)(e:Expr)(f:FT):Prop where
 h:∃ t,WT X e t/\SemT X.K t f
structure VW(X:Cx)(e:Expr)(f:FT):Prop where
 h:∃ t,WW X e t/\SemT X.K t f
structure VA(X:Cx)(es:List Expr)(f:FA):Prop where
 h:∃ t,WA X es t/\SemA X.K t f
structure VTs(X:Cx)(es:List Expr)(f:FT):Prop where
 h:∃ t,WTs X es t/\SemT X.K t f
def zab(i:Nat):FE:=fun δ=>match δ[i]? with
 | some (aa (.own ds))=>aa (.vw ds)
 | some (aa (.obj _))=>ab
 | some (aa e)=>aa e
 | _=>ab
def eC(d:D):FE:=fun _=>aa (.val d)
def ex1(g:Ent->Option Ent)(fa:FE):FE:=fun δ=>(fa δ).bind g
def ex2(g:Ent->Ent->Option Ent)(fa fb:FE):FE:=fun δ=>(fa δ).bind fun x=>(fb δ).bind fun y=>g x y
def bOf:Ent->Option Bool
 | .val (.bl b)=>aa b
 | _=>ab
def eAnd(fa fb:FE):FE:=fun δ=>((fa δ).bind bOf).bind fun b=>if b=true then fb δ else aa (.val (.bl false))
def tOf(fe:FE):FT:=fun δ=>(fe δ).bind bOf
def fOr(ft fu:FT):FT:=fun δ=>(ft δ).bind fun b=>if b=true then aa true else fu δ
def fNot(ft:FT):FT:=fun δ=>(ft δ).map fun b=>!b
def zc8:FT:=fun _=>aa true
def eIf(ft:FT)(fa fb:FE):FE:=fun δ=>(ft δ).bind fun b=>if b=true then fa δ else fb δ
def zae:FA:=fun _=>aa []
def zaa(fe:FE)(fa:FA):FA:=fun δ=>(fe δ).bind fun x=>(fa δ).map fun xs=>x :: xs
def ze3(fa:FA):FE:=fun δ=>(fa δ).bind fun rs=>if rs.length<=1000 then (ze5 rs).map fun ds=>.val (.tup ds) else ab
def zcN(fa:FA):FE:=fun δ=>(fa δ).bind fun rs=>if rs.length<=1000 then (ze5 rs).map fun ds=>.own ds else ab
def SemR1(K:ag)(r:V->Hp->VK->Prop)(g:Ent->Option Ent):Prop:=∀ (H0 F H:Hp) (x:V) (e res:Ent) (Q:VK),Same F H->Same H0 H->RepR K H0 F H x e->g e=aa res ->
 (∀ v F' H',Ex F H F' H'->RepR K H0 F' H' v res->Q v H')->r x H Q
def ziV(K:ag)(r:R2)(g:Ent->Ent->Option Ent):Prop:=∀ (H0 F H:Hp) (x y:V) (e e' res:Ent) (Q:VK),Same F H->Same H0 H->RepR K H0 F H x e->RepR K H0 F H y e'->g e e'=aa res ->
 (∀ v F' H',Ex F H F' H'->RepR K H0 F' H' v res->Q v H')->r x y H Q
def SemC(K:ag)(r:List V->Hp->VK->Prop)(g:List Ent->Option Ent):Prop:=∀ (H0 F H:Hp) (vs:List V) (es:List Ent) (res:Ent) (Q:VK),Same F H->Same H0 H->RepRs K H0 F H vs es->g es=aa res ->
 (∀ v F' H',Ex F H F' H'->RepR K H0 F' H' v res->Q v H')->r vs H Q
def bind_some{α β:Type}{o:Option α}{f:α->Option β}{b:β}(h:o.bind f=aa b):∃ a,o=aa a/\f a=aa b:=by
 cases o with
 | none=>cases h
 | some a=>exact⟨a,rfl,h⟩
def map_some{α β:Type}{o:Option α}{f:α->β}{b:β}(h:o.map f=aa b):∃ a,o=aa a/\f a=b:=by
 cases o with
 | none=>cases h
 | some a=>exact⟨a,rfl,aM h⟩
def zeJ{α:Type}{c:Prop}[Decidable c]{o:Option α}{b:α}(h:(if c then o else ab)=aa b):c/\o=aa b:=by
 by_cases hc:c
 ·rw[if_pos hc] at h;exact⟨hc,h⟩
 ·rw[if_neg hc] at h;cases h
noncomputable def gif{α:Type}(c:Prop)(a:Option α):Option α:=@ite _ c (km c) a ab
def zah{α:Type}(a:Option α):gif True a=a:=by unfold gif;exact if_pos trivial
def zhE{α:Type}{c:Prop}{a:Option α}(h:c):gif c a=a:=by unfold gif;exact if_pos h
def zba{α:Type}{c:Prop}{o:Option α}{b:α}(h:gif c o=aa b):c/\o=aa b:=by
 unfold gif at h;by_cases hc:c
 ·rw[if_pos hc] at h;exact⟨hc,h⟩
 ·rw[if_neg hc] at h;cases h
def sz(n:Nat):Prop:=n<=1000000
def zbr{n:Nat}(h:n<=1000000):sz n=True:=eq_true h
def OpD(X:Cx)(f:ae->ae->Sem ae)(g:Ent->Ent->Option Ent):Prop:=∃ r,OpR X f r/\ziV X.K r g
def UnD(X:Cx)(f:ae->Sem ae)(g:Ent->Option Ent):Prop:=∃ r,UnR X f r/\SemR1 X.K r g
def zea(X:Cx)(f:ae)(g:List Ent->Option Ent):Prop:=∃ r,zde X f r/\SemC X.K r g
def IxD(X:Cx)(g:Ent->Ent->Option Ent):Prop:=∃ r,IxR X r/\ziV X.K r g
def ziu{e:Ent}{b:Bool}(h:bOf e=aa b):e=.val (.bl b):=by
 cases e with
 | val d=>cases d <;> first | (cases h;rfl) | (cases h)
 | _=>cases h
def zhO{F:Hp}{v:V}{b:Bool}(h:Rep F v (.bl b)):v=.bl b:=by cases h;rfl
def zaO{F:Hp}{v:V}{i:Int}(h:Rep F v (.int i)):v=.int i:=by cases h;rfl
def zb0{F:Hp}{v:V}{i:Str}(h:Rep F v (.str i)):v=.str i:=by cases h;rfl
def zhn{F:Hp}{v:V}(h:Rep F v .non):v=.non:=by cases h;rfl
section
variable {X:Cx}{a b c e:Expr}{es rest:List Expr}{pos p:Pos}{fa fb fc:FE}{ft fu:FT}{fs:FA}{x:Str}
def vv(i:Nat)(hN:X.N[i]? = aa x:=by rfl)(hv:Vis X.env.scope x:=by first | exact aK rfl | exact be (aK rfl) | exact be (be rfl))(hd:(x == ("__debug__" : Str))=false:=by decide)
  (hcd:(x == ("__classdict__" : Str))=false:=by decide):VE X (.Name x pos) (zab i):=by
 refine⟨_,wv i hN hv hd hcd,fun B F H σ δ r Q s q k=>?_⟩;unfold zab at q;split at q
 ·rename_i ds e;cases q;obtain⟨v,h1,l,vs,e,h2,h3,_⟩:=s.ent i _ e;exact⟨v,h1,k v F H (Ex.refl s.fh) ⟨l,vs,e,h2,h3⟩⟩
 ·cases q
 ·rename_i ee hne hno e;cases q;obtain⟨v,h1,h2⟩:=s.ent i _ e;refine⟨v,h1,k v F H (Ex.refl s.fh) ?_⟩;cases r with
  | val d=>exact h2
  | own ds=>exact(hne ds rfl).elim
  | bor ds=>obtain⟨l,vs,e,h,rs⟩:=h2;exact⟨l,vs,e,s.bh.seq h,rs⟩
  | vw ds=>exact h2
  | obj o=>exact(hno o rfl).elim
  | bt ds=>obtain⟨l,vs,e,h,rs⟩:=h2;exact⟨l,vs,e,s.bh.seqT h,rs⟩
 ·cases q
def SemE.cst{K:ag}{v:V}{d:D}(h:∀ F,Rep F v d):SemE K (tC v) (eC d):=fun B F H σ δ r Q s q k=>by
 cases q;exact k v F H (Ex.refl s.fh) (h F)
def zaH{i:Int}{j:Nat}:VE X (.Constant (.int i) j pos) (eC (.int i)):=⟨_,wint,.cst fun _=>.int i⟩
def vbl{i:Bool}{j:Nat}:VE X (.Constant (.bool i) j pos) (eC (.bl i)):=⟨_,wbl,.cst fun _=>.bl i⟩
def vnon{j:Nat}:VE X (.Constant .none j pos) (eC .non):=⟨_,wnon,.cst fun _=>.non⟩
def vstr{i:Str}{j:Nat}:VE X (.Constant (.str i) j pos) (eC (.str i)):=⟨_,wstr,.cst fun _=>.str i⟩
def vglI{i:Int}(hg:Gl X x)(h:∃ u,X.mg x=aa u/\RelV (.int i) u)(hd:(x == ("__debug__" : Str))=false:=by decide):VE X (.Name x pos) (eC (.int i)):=⟨_,wgl hg h hd,.cst fun _=>.int i⟩
def SemE.op{K:ag}{r:R2}{ta tb:TE}{g:Ent->Ent->Option Ent}(hr:ziV K r g)(ha:SemE K ta fa)(hb:SemE K tb fb):SemE K (tOp r ta tb) (ex2 g fa fb):=fun B F H σ δ res Q s q k=>by
 obtain⟨ex1,q1,q⟩:=bind_some q;obtain⟨ex2,q2,q⟩:=bind_some q;refine ha B F H σ δ ex1 _ s q1 fun v F1 H1 x1 r1=>?_;refine hb B F1 H1 σ δ ex2 _ (s.ext x1) q2 fun w F2 H2 x2 r2=>?_;exact hr H F2 H2 v w ex1 ex2 res Q x2.fh (x1.trans x2).hh (r1.ext x2) (r2.earlier x1.hh) q fun v' F' H' x3 r3=>k v' F' H' ((x1.trans x2).trans x3) r3
def vop{op:Operator}{g:Ent->Ent->Option Ent}(ho:OpD X (binaryOp op) g)(ha:VE X a fa)(hb:VE X b fb):VE X (.BinOp a op b pos) (ex2 g fa fb):=
 let⟨_,wa,sa⟩:=ha.h;let⟨_,wb,sb⟩:=hb.h;let⟨_,h1,h2⟩:=ho;⟨_,wop h1 wa wb,.op h2 sa sb⟩
def zje{op:CmpOp}{g:Ent->Ent->Option Ent}(ho:OpD X (bu op) g)(ha:VE X a fa)(hb:VE X b fb)(hm:behindInMarks op b=false):VE X (.Compare a [op] [b] pos) (ex2 g fa fb):=
 let⟨_,wa,sa⟩:=ha.h;let⟨_,wb,sb⟩:=hb.h;let⟨_,h1,h2⟩:=ho;⟨_,wcmp h1 wa wb hm,.op h2 sa sb⟩
def SemE.test{K:ag}{ta:TE}(ha:SemE K ta fa):SemT K (tB ta) (tOf fa):=fun B F H σ δ b Q s q k=>by
 obtain⟨e,q1,q⟩:=bind_some q;cases ziu q;refine ha B F H σ δ _ _ s q1 fun v F1 H1 x1 r1=>?_;exact⟨b,zhO r1,k F1 H1 x1⟩
def tcm{op:CmpOp}{g:Ent->Ent->Option Ent}(ho:OpD X (bu op) g)(ha:VE X a fa)(hb:VE X b fb)(hm:behindInMarks op b=false):VT X (.Compare a [op] [b] pos) (tOf (ex2 g fa fb)):=
 let⟨_,wa,sa⟩:=ha.h;let⟨_,wb,sb⟩:=hb.h;let⟨_,h1,h2⟩:=ho;⟨_,tcmp h1 wa wb hm,SemE.test (.op h2 sa sb)⟩
def tva(h:VE X e fa)(he:∀ whole,isTrue e X.env whole=(do let v <- whole;standAt e.pos;holding [v] (truthy v)):=by intro _;rfl):VT X e (tOf fa):=
 let⟨_,wa,sa⟩:=h.h;⟨_,tval wa he,SemE.test sa⟩
def vun{op:UnaryOp}{g:Ent->Option Ent}(ho:UnD X (unaryOp op) g)(ha:VE X a fa):VE X (.UnaryOp op a pos) (ex1 g fa):=by
 obtain⟨ta,wa,sa⟩:=ha.h;obtain⟨rr,ho1,ho2⟩:=ho;refine⟨_,wun ho1 wa,fun B F H σ δ res Q s q k=>?_⟩;obtain⟨ex1,q1,q⟩:=bind_some q;exact sa B F H σ δ ex1 _ s q1 fun v F1 H1 x1 r1=>ho2 H F1 H1 v ex1 res Q x1.fh x1.hh r1 q fun v' F' H' x2 r2=>k v' F' H' (x1.trans x2) r2
def vone{op:BoolOp}(h:VE X a fa):VE X (.BoolOp op [a] pos) fa:=let⟨_,wa,sa⟩:=h.h;⟨_,wone wa,sa⟩
def vand(ha:VE X a fa)(hb:VE X (.BoolOp .And (b :: rest) pos) fb):VE X (.BoolOp .And (a :: b :: rest) pos) (eAnd fa fb):=by
 obtain⟨ta,wa,sa⟩:=ha.h;obtain⟨tb,wb,sb⟩:=hb.h;refine⟨_,wand wa wb,fun B F H σ δ res Q s q k=>?_⟩;obtain⟨bb,q1,q⟩:=bind_some q;obtain⟨eb,q1,q2⟩:=bind_some q1;cases ziu q2;refine sa B F H σ δ _ _ s q1 fun v F1 H1 x1 r1=>⟨bb,zhO r1,?_⟩
 cases bb with
 | true=>exact iteT (sb B F1 H1 σ δ res Q (s.ext x1) q fun v' F' H' x2 r2=>k v' F' H' (x1.trans x2) (r2.earlier x1.hh))
 | false=>cases q;exact iteF (k _ F1 H1 x1 (.bl false))
def ziP(ha:VT X a ft):VW X (.BoolOp .Or [a] pos) ft:=let⟨_,wa,sa⟩:=ha.h;⟨_,tor1 wa,sa⟩
def tor'(ha:VT X a ft)(hb:VW X (.BoolOp .Or (b :: rest) pos) fu):VW X (.BoolOp .Or (a :: b :: rest) pos) (fOr ft fu):=by
 obtain⟨ta,wa,sa⟩:=ha.h;obtain⟨tb,wb,sb⟩:=hb.h;refine⟨_,tor wa wb,fun B F H σ δ res Q s q k=>?_⟩;obtain⟨bb,q1,q⟩:=bind_some q;refine sa B F H σ δ bb _ s q1 fun F1 H1 x1=>?_;cases bb with
 | false=>exact iteF (sb B F1 H1 σ δ res Q (s.ext x1) q fun F' H' x2=>k F' H' (x1.trans x2))
 | true=>cases q;exact iteT (k F1 H1 x1)
def tww(h:VW X a ft):VT X a ft:=let⟨_,wa,sa⟩:=h.h;⟨_,tw wa,sa⟩
def tnt(ha:VT X a ft):VT X (.UnaryOp .Not a pos) (fNot ft):=by
 obtain⟨ta,wa,sa⟩:=ha.h;refine⟨_,tnot wa,fun B F H σ δ res Q s q k=>?_⟩;obtain⟨bb,q1,q⟩:=map_some q;cases q;exact sa B F H σ δ bb _ s q1 fun F1 H1 x1=>k F1 H1 x1
def vif(hc:VT X c ft)(ha:VE X a fa)(hb:VE X b fb):VE X (.IfExp c a b pos) (eIf ft fa fb):=by
 obtain⟨tc,wc,sc⟩:=hc.h;obtain⟨ta,wa,sa⟩:=ha.h;obtain⟨tb,wb,sb⟩:=hb.h;refine⟨_,wif wc wa wb,fun B F H σ δ res Q s q k=>?_⟩;obtain⟨bb,q1,q⟩:=bind_some q;refine sc B F H σ δ bb _ s q1 fun F1 H1 x1=>?_;cases bb with
 | true=>exact iteT (sa B F1 H1 σ δ res Q (s.ext x1) q fun v' F' H' x2 r2=>k v' F' H' (x1.trans x2) (r2.earlier x1.hh))
 | false=>exact iteF (sb B F1 H1 σ δ res Q (s.ext x1) q fun v' F' H' x2 r2=>k v' F' H' (x1.trans x2) (r2.earlier x1.hh))
def if0:VTs X [] zc8:=⟨_,ifs0,fun B F H σ δ b Q s q k=>by cases q;exact k F H (Ex.refl s.fh)⟩
def if1(h:VT X c ft):VTs X [c] ft:=let⟨_,wc,sc⟩:=h.h;⟨_,ifs1 wc,sc⟩
def zax:VA X [] zae:=⟨_,wnil,fun B F H σ δ rs Q s q k=>by cases q;exact k [] F H (Ex.refl s.fh) .nil⟩
def zad(ha:VE X e fa)(hr:VA X es fs)(h:zak e=true:=by rfl):VA X (e :: es) (zaa fa fs):=by
 obtain⟨ta,wa,sa⟩:=ha.h;obtain⟨tb,wb,sb⟩:=hr.h;refine⟨_,wac wa wb h,fun B F H σ δ rs Q s q k=>?_⟩;obtain⟨ex1,q1,q⟩:=bind_some q;obtain⟨es',q2,q⟩:=map_some q;cases q;refine sa B F H σ δ ex1 _ s q1 fun v F1 H1 x1 r1=>?_;exact sb B F1 H1 σ δ es' _ (s.ext x1) q2 fun vs F2 H2 x2 r2=>k _ F2 H2 (x1.trans x2) (.cons (r1.ext x2) (r2.earlier x1.hh))
def zim{n:Nat}(h:n<=1000):n<=aZ:=dq (small1000 h)
def vtup{x1:Nat}(h:VA X es fs):VE X (.Tuple es x1 pos) (ze3 fs):=by
 obtain⟨t,w,sm⟩:=h.h;refine⟨_,wtup w,fun B F H σ δ res Q s q k=>?_⟩;obtain⟨rs,q1,q⟩:=bind_some q;split at q
 ·rename_i hl;obtain⟨ds,q2,q⟩:=map_some q;cases q;refine sm B F H σ δ rs _ s q1 fun vs F1 H1 x1 r1=>⟨by rw[r1.length];exact zim hl,fun p hp=>?_⟩
  obtain⟨F2,x2,_,r2⟩:=RepRs.frz x1 (Same.refl _) r1 q2;exact k _ _ _ (x2.trans (Ex.alloc x2.fh hp)) (.tup zai (r2.mono (Same.alloc (x2.fh.free hp))))
 ·cases q
def zgc(h:VA X es fs):VE X (.List es pos) (zcN fs):=by
 obtain⟨t,w,sm⟩:=h.h;refine⟨_,wlst w,fun B F H σ δ res Q s q k=>?_⟩;obtain⟨rs,q1,q⟩:=bind_some q;split at q
 ·rename_i hl;obtain⟨ds,q2,q⟩:=map_some q;cases q;refine sm B F H σ δ rs _ s q1 fun vs F1 H1 x1 r1=>⟨by rw[r1.length];exact zim hl,fun p hp=>?_⟩
  obtain⟨F2,x2,_,r2⟩:=RepRs.frz x1 (Same.refl _) r1 q2;exact k _ _ _ (x2.trans (Ex.lay x2.fh hp)) ⟨p,vs,rfl,x2.hh.free hp,zai,r2,x2.fh.free hp⟩
 ·cases q
def vix{g:Ent->Ent->Option Ent}(hr:IxD X g)(ha:VE X a fa)(hb:VE X b fb)(hs:zhr b):VE X (.Subscript a b pos) (ex2 g fa fb):=
 let⟨_,wa,sa⟩:=ha.h;let⟨_,wb,sb⟩:=hb.h;let⟨_,h1,h2⟩:=hr;⟨_,wix h1 wa wb hs,.op h2 sa sb⟩
def eCB(g:List Ent->Option Ent)(fs:FA):FE:=fun δ=>(fs δ).bind g
def SemE.cb{K:ag}{t:TA}{q:List V->Hp->VK->Prop}{g:List Ent->Option Ent}(hc:SemC K q g)(ha:SemA K t fs):SemE K (tCB q t) (eCB g fs):=fun B F H σ δ res Q s q k=>by
 obtain⟨rs,q1,q⟩:=bind_some q;exact ha B F H σ δ rs _ s q1 fun vs F1 H1 x1 r1=>hc H F1 H1 vs rs res Q x1.fh x1.hh r1 q fun v' F' H' x2 r2=>k v' F' H' (x1.trans x2) r2
def vcb{id:String}{g:List Ent->Option Ent}(hc:zea X (.builtin id) g)(hg:Gl X x)(hm:X.mg x=ab)(hv:aS x=aa (.builtin id))(ha:VA X (e :: es) fs)(hn:x ≠ "__name__" :=by decide)(hdb:(x == ("__debug__" : Str))=false:=by decide)
  (h1:zak e=true:=by rfl) (h2:es.all zak=true:=by rfl):VE X (.Call (.Name x p) (e :: es) [] pos) (eCB g fs):=
 let⟨_,wa,sa⟩:=ha.h;let⟨_,h3,h4⟩:=hc;⟨_,wcb h3 hg hm hv wa hn hdb h1 h2,.cb h4 sa⟩
def vct{T:String}{g:List Ent->Option Ent}(hc:zea X (.type T) g)(hg:Gl X x)(hm:X.mg x=ab)(hv:aS x=aa (.type T))(ha:VA X (e :: es) fs)(hn:x ≠ "__name__" :=by decide)(hdb:(x == ("__debug__" : Str))=false:=by decide)
  (h1:zak e=true:=by rfl) (h2:es.all zak=true:=by rfl):VE X (.Call (.Name x p) (e :: es) [] pos) (eCB g fs):=
 let⟨_,wa,sa⟩:=ha.h;let⟨_,h3,h4⟩:=hc;⟨_,wct h3 hg hm hv wa hn hdb h1 h2,.cb h4 sa⟩
end
end L3

namespace L3
open PySem PySem.Spec PyProof.Rows L2
inductive Out where
 | nx (δ:En) | rt (r:Ent) (δ:En) | bk (δ:En) | ct (δ:En)
abbrev FS:=En->Option Out
structure FX(B F F':Hp):Prop where
 ff:Same F F'
 nw:∀ a o,B a=aa o->isT o=false->F' a=F a
section
variable {K:ag}{B:Bd}{F H F' H' F2 H2 H0:Hp}{σ:Sg}{δ:En}{v:V}{d:D}{e:Ent}{l:af}{vs:List V}{ds:List D}{DD:Ends}{out:Out}
def FX.refl:FX B F F:=⟨Same.refl F,fun _ _ _ _=>rfl⟩
def FX.trans(a:FX B F F')(b:FX B F' F2):FX B F F2:=⟨a.ff.trans b.ff,fun x o e t=>(b.nw x o e t).trans (a.nw x o e t)⟩
def FX.of(x:Ex F H F' H')(s:Same B H):FX B F F':=⟨x.ff,fun a o e t=>x.nw a o (s _ _ e) t⟩
def EndOk(K:ag)(B:Bd)(F:Hp)(DD:Ends):Out->Prop
 | .nx δ'=>∀ σ' F' H',RS K B F' H' σ' δ'->FX B F F'->DD.nx σ' H'
 | .rt r δ'=>∀ v σ' F' H',RS K B F' H' σ' δ'->FX B F F'->RepR K B F' H' v r->DD.rt v H'
 | .bk δ'=>∀ σ' F' H',RS K B F' H' σ' δ'->FX B F F'->DD.bk σ' H'
 | .ct δ'=>∀ σ' F' H',RS K B F' H' σ' δ'->FX B F F'->DD.ct σ' H'
def EndOk.mono(h:EndOk K B F DD out)(x:FX B F F'):EndOk K B F' DD out:=by
 cases out with
 | nx δ'=>exact fun σ' F2 H2 s y=>h σ' F2 H2 s (x.trans y)
 | rt r δ'=>exact fun v σ' F2 H2 s y z=>h v σ' F2 H2 s (x.trans y) z
 | bk δ'=>exact fun σ' F2 H2 s y=>h σ' F2 H2 s (x.trans y)
 | ct δ'=>exact fun σ' F2 H2 s y=>h σ' F2 H2 s (x.trans y)
def RS.put(s:RS K B F H σ δ)(i:Nat)(r:RepN K B F H v e)(hne:e.lk=true->∀ j e',j ≠ i->δ[j]? = aa (aa e')->e'.lk=true->∀ l,v=.ref l->σ[j]? ≠ aa (aa (.ref l)))
  (hpn:e.isO=true->0<i \/ (∀ p,B.pin ≠ aa p) \/ B.pin=aa v) (hno:∀ j e' w a,j ≠ i->δ[j]? = aa (aa e')->σ[j]? = aa (aa w)->(e.isO=true \/ e'.isO=true)->Occ K F H v e a->Occ K F H w e' a->False) :
  RS K B F H (σ.set i (aa v)) (δ.set i (aa e)):=by
 have hl:=s.len;refine⟨s.fh,s.bh,by simp[hl],fun j e' h=>?_,fun a b l ds e' hab h1 h2 h3 h4 h5=>?_,fun a b e1 e2 v1 v2 ad hab h1 h2 h3 h4 h5 h6 h7=>?_,fun w o hw ho=>?_⟩
 ·rw[bf] at h ⊢;by_cases hij:i=j
  ·subst hij;rw[if_pos rfl] at h ⊢;by_cases hi:i<δ.length
   ·rw[if_pos hi] at h;cases h;exact⟨v,by rw[if_pos (by lia)],r⟩
   ·rw[if_neg hi] at h;cases h
  ·rw[if_neg hij] at h ⊢;exact s.ent j e' h
 ·rw[bf] at h1 h2 h3 h5;by_cases hia:i=a
  ·subst hia;rw[if_pos rfl] at h1 h2;rw[if_neg hab] at h3 h5;by_cases hi:i<δ.length
   ·rw[if_pos hi] at h1;rw[if_pos (by lia)] at h2;cases h1;cases h2;exact hne rfl b e' (ce hab) h3 h4 l rfl h5
   ·rw[if_neg hi] at h1;cases h1
  ·rw[if_neg hia] at h1 h2;by_cases hib:i=b
   ·subst hib;rw[if_pos rfl] at h3 h5;by_cases hi:i<δ.length
    ·rw[if_pos hi] at h3;rw[if_pos (by lia)] at h5;cases h3;cases h5;exact hne h4 a _ hab h1 rfl l rfl h2
    ·rw[if_neg hi] at h3;cases h3
   ·rw[if_neg hib] at h3 h5;exact s.ap a b l ds e' hab h1 h2 h3 h4 h5
 ·rw[bf] at h1 h2 h3 h4;by_cases hia:i=a
  ·subst hia;rw[if_pos rfl] at h1 h2;rw[if_neg hab] at h3 h4;by_cases hi:i<δ.length
   ·rw[if_pos hi] at h1;rw[if_pos (by lia)] at h2;cases h1;cases h2;exact hno b _ _ ad (ce hab) h3 h4 (.inl h5) h6 h7
   ·rw[if_neg hi] at h1;cases h1
  ·rw[if_neg hia] at h1 h2;by_cases hib:i=b
   ·subst hib;rw[if_pos rfl] at h3 h4;by_cases hi:i<δ.length
    ·rw[if_pos hi] at h3;rw[if_pos (by lia)] at h4;cases h3;cases h4;exact hno a _ _ ad hab h1 h2 (.inr h5) h7 h6
    ·rw[if_neg hi] at h3;cases h3
   ·rw[if_neg hib] at h3 h4;exact s.ao a b e1 e2 v1 v2 ad hab h1 h2 h3 h4 h5 h6 h7
 ·rw[bf] at ho ⊢;by_cases hi:i=0
  ·subst hi;rw[if_pos rfl] at ho ⊢;split at ho
   ·cases ho;rw[if_pos (by lia)];rcases hpn rfl with z | z | z
    ·lia
    ·exact absurd hw (z w)
    ·rw[hw] at z;exact congrArg (fun x=>aa x) z.symm
   ·cases ho
  ·rw[if_neg hi] at ho ⊢;exact s.pn w o hw ho
def RS.putV(s:RS K B F H σ δ)(i:Nat)(r:Rep F v d):RS K B F H (σ.set i (aa v)) (δ.set i (aa (.val d))):=s.put i r (fun h=>by cases h) (fun h=>by cases h) fun _ _ _ _ _ _ _ _ h _=>h
def RS.drop(s:RS K B F H σ δ)(i:Nat):RS K B F H σ (δ.set i ab):=by
 refine⟨s.fh,s.bh,by simp[s.len],fun j e h=>?_,fun a b l ds e hab h1 h2 h3 h4=>?_,fun a b e1 e2 v1 v2 ad hab h1 h2 h3 h4 h5 h6 h7=>?_,fun w o hw ho=>?_⟩
 ·rw[bf] at h;split at h
  ·split at h <;> cases h
  ·exact s.ent j e h
 ·rw[bf] at h1 h3;split at h1
  ·split at h1 <;> cases h1
  ·split at h3
   ·split at h3 <;> cases h3
   ·exact s.ap a b l ds e hab h1 h2 h3 h4
 ·rw[bf] at h1 h3;split at h1
  ·split at h1 <;> cases h1
  ·split at h3
   ·split at h3 <;> cases h3
   ·exact s.ao a b e1 e2 v1 v2 ad hab h1 h2 h3 h4 h5 h6 h7
 ·rw[bf] at ho;split at ho
  ·split at ho <;> cases ho
  ·exact s.pn w o hw ho
def RS.lies{i:Nat}(s:RS K B F H σ δ)(h:δ[i]? = aa (aa e))(k:e.lk=true)(q:σ[i]? = aa (aa (.ref l))):∃ o,H l=aa o:=by
 obtain⟨v,h1,h2⟩:=s.ent i e h;rw[q] at h1;cases h1;cases e with
 | own ds=>obtain⟨l',vs,e,h3,_⟩:=h2;cases e;exact⟨_,h3⟩
 | vw ds=>obtain⟨l',vs,e,h3,_⟩:=h2;cases e;exact⟨_,h3⟩
 | _=>cases k
def toN:Ent->Option Ent
 | .val d=>aa (.val d)
 | .own ds=>aa (.own ds)
 | _=>ab
def RS.putR{e':Ent}(s:RS K B F H σ δ)(x:Ex F H F' H')(i:Nat)(r:RepR K H F' H' v e)(q:toN e=aa e'):RS K B F' H' (σ.set i (aa v)) (δ.set i (aa e')):=by
 cases e with
 | val d=>cases q;exact(s.ext x).putV i r
 | own ds=>
  cases q;obtain⟨l,vs,e,h0,h1,rs,h2⟩:=r;refine(s.ext x).put i ⟨l,vs,e,h1,rs,h2,s.bh.free h0⟩ (fun _ j e' _ h3 h4 l' ex2 h5=>?_) (fun z=>by cases z) fun j e' w a _ h3 h4 _ h5 h6=>?_
  ·rw[e] at ex2;cases ex2;obtain⟨o,h6⟩:=s.lies h3 h4 h5;rw[h0] at h6;cases h6
  ·obtain⟨u,h7⟩:=s.occ h3 h4 (h6.backX (s.at h3 h4) x);rw[e] at h5;cases (show V.ref l=.ref a from h5);rw[h0] at h7;cases h7
 | _=>cases q
def RS.putO{o:OT}(s:RS K B F H σ δ)(x:Ex F H F' H')(i:Nat)(h0:0<i)(r:RepR K H F' H' v (.obj o)):RS K B F' H' (σ.set i (aa v)) (δ.set i (aa (.obj o))):=by
 obtain⟨_,A,t,n,h⟩:=r;refine(s.ext x).put i ⟨A,t,n,fun a ha=>⟨(h a ha).1,s.bh.free (h a ha).2⟩⟩ (fun z=>by cases z) (fun _=>.inl h0) fun j e' w a _ h3 h4 _ h5 h6=>?_;obtain⟨u,h7⟩:=s.occ h3 h4 (h6.backX (s.at h3 h4) x);obtain⟨A',t',h5⟩:=h5;rw[t'.det t] at h5;rw[(h a h5).2] at h7;cases h7
def RS.mut{i:Nat}{ds':List D}{vs':List V}(s:RS K B F H σ δ)(hi:δ[i]? = aa (aa (.own ds)))(hs:σ[i]? = aa (aa (.ref l)))(r:Reps F vs' ds'):RS K B F (upd H l (.lst vs')) σ (δ.set i (aa (.own ds'))):=by
 obtain⟨v,h1,l',vs,e,h2,h3,h4,h5⟩:=s.ent i _ hi;rw[hs] at h1;cases h1;cases e;have mv:∀ (j:Nat) (w:V) (o:OT) (A:List af),i ≠ j->δ[j]? = aa (aa (.obj o))->σ[j]? = aa (aa w)->TR K F H w o A->TR K F (upd H l (.lst vs')) w o A:=fun j w o A hij q q' t=>
  t.move (Same.refl F) fun a ha=>zam fun z=>by subst z;exact s.ao j i _ _ _ _ a (ce hij) q q' hi hs rfl ⟨A,t,ha⟩ rfl
 refine⟨fun b o q=>?_,fun b o q=>?_,by simp[s.len],fun j e q=>?_,fun a b l2 es e' hab q1 q2 q3 q4=>?_,fun a b e1 e2 v1 v2 ad hab q1 q2 q3 q4 q5 q6 q7=>?_,fun w o hw ho=>?_⟩
 ·rw[zam (zaD q h4)];exact s.fh b o q
 ·rw[zam (zaD q h5)];exact s.bh b o q
 ·rw[bf] at q;by_cases hij:i=j
  ·subst hij;rw[if_pos rfl] at q;split at q
   ·cases q;exact⟨_,hs,l,vs',rfl,zai,r,h4,h5⟩
   ·cases q
  ·rw[if_neg hij] at q;obtain⟨w,p1,p2⟩:=s.ent j e q;refine⟨w,p1,?_⟩;cases e with
   | val d=>exact p2
   | bor ds=>exact p2
   | own es=>
    obtain⟨l2,ws,ex2,p3,p4,p5,p6⟩:=p2;refine⟨l2,ws,ex2,?_,p4,p5,p6⟩;rw[zam (fun z=>s.ap i j l ds _ hij hi hs q rfl (by rw[p1,ex2,z]))];exact p3
   | vw es=>
    obtain⟨l2,ws,ex2,p3,p4⟩:=p2;refine⟨l2,ws,ex2,?_,p4⟩;rw[zam (fun z=>s.ap i j l ds _ hij hi hs q rfl (by rw[p1,ex2,z]))];exact p3
   | obj o=>
    obtain⟨A,t,n,h⟩:=p2;exact⟨A,mv j w o A hij q p1 t,n,h⟩
   | bt ds=>exact p2
 ·rw[bf] at q1 q3;by_cases hia:i=a
  ·subst hia;rw[if_neg hab] at q3;exact s.ap i b l2 ds e' hab hi q2 q3 q4
  ·rw[if_neg hia] at q1;by_cases hib:i=b
   ·subst hib;exact s.ap a i l2 es _ hab q1 q2 hi rfl
   ·rw[if_neg hib] at q3;exact s.ap a b l2 es e' hab q1 q2 q3 q4
 ·rw[bf] at q1 q3;have bk:∀ (j:Nat) (e:Ent) (w:V),i ≠ j->δ[j]? = aa (aa e)->σ[j]? = aa (aa w)->Occ K F (upd H l (.lst vs')) w e ad->Occ K F H w e ad:=fun j e w hij z1 z2 z3=>z3.back (s.at z1 z2) fun o A he t=>by
   subst he;exact mv j w o A hij z1 z2 t
  by_cases hia:i=a
  ·subst hia;rw[if_pos rfl] at q1;split at q1
   ·cases q1;cases q5
   ·cases q1
  ·rw[if_neg hia] at q1;by_cases hib:i=b
   ·subst hib;rw[if_pos rfl] at q3;split at q3
    ·cases q3;rw[hs] at q4;cases q4;exact s.ao a i e1 _ v1 _ ad hab q1 q2 hi hs q5 (bk a e1 v1 hia q1 q2 q6) q7
    ·cases q3
   ·rw[if_neg hib] at q3;exact s.ao a b e1 e2 v1 v2 ad hab q1 q2 q3 q4 q5 (bk a e1 v1 hia q1 q2 q6) (bk b e2 v2 hib q3 q4 q7)
 ·rw[bf] at ho;split at ho
  ·split at ho <;> cases ho
  ·exact s.pn w o hw ho
def RS.frz{i:Nat}(s:RS K B F H σ δ)(hi:δ[i]? = aa (aa (.own ds))):∃ F',FX B F F'/\RS K B F' H σ (δ.set i (aa (.val (.lst ds)))):=by
 obtain⟨v,h1,l,vs,e,h2,h3,h4,h5⟩:=s.ent i _ hi;subst e;refine⟨upd F l (.lst vs),⟨Same.alloc h4,fun a o e _=>zam (zaD e h5)⟩,?_⟩;have sm:Same F (upd F l (.lst vs)):=Same.alloc h4;refine⟨fun b o q=>?_,s.bh,by simp[s.len],fun j e q=>?_,fun a b l2 es e' hab q1 q2 q3 q4=>?_,fun a b e1 e2 v1 v2 ad hab q1 q2 q3 q4 q5 q6 q7=>?_,fun w o hw ho=>?_⟩
 ·by_cases hb:b=l
  ·subst hb;rw[zai] at q;cases q;exact h2
  ·rw[zam hb] at q;exact s.fh b o q
 ·rw[bf] at q;by_cases hij:i=j
  ·subst hij;rw[if_pos rfl] at q;split at q
   ·cases q;exact⟨_,h1,.lst zai (h3.mono sm)⟩
   ·cases q
  ·rw[if_neg hij] at q;obtain⟨w,p1,p2⟩:=s.ent j e q;refine⟨w,p1,?_⟩;cases e with
   | val d=>exact Rep.mono sm p2
   | bor es=>obtain⟨l2,ws,ex2,p3,p4⟩:=p2;exact⟨l2,ws,ex2,p3,p4.mono sm⟩
   | own es=>
    obtain⟨l2,ws,ex2,p3,p4,p5,p6⟩:=p2;refine⟨l2,ws,ex2,p3,p4.mono sm,?_,p6⟩;rw[zam (fun z=>s.ap i j l ds _ hij hi h1 q rfl (by rw[p1,ex2,z]))];exact p5
   | vw es=>obtain⟨l2,ws,ex2,p3,p4⟩:=p2;exact⟨l2,ws,ex2,p3,p4.mono sm⟩
   | obj o=>
    obtain⟨A,t,n,h⟩:=p2;refine⟨A,t.move sm fun _ _=>rfl,n,fun a ha=>⟨?_,(h a ha).2⟩⟩;rw[zam (fun z=>by subst z;exact s.ao j i _ _ _ _ a (ce hij) q p1 hi h1 rfl ⟨A,t,ha⟩ rfl)];exact(h a ha).1
   | bt es=>obtain⟨l2,ws,ex2,p3,p4⟩:=p2;exact⟨l2,ws,ex2,p3,p4.mono sm⟩
 ·rw[bf] at q1 q3;by_cases hia:i=a
  ·subst hia;rw[if_pos rfl] at q1;split at q1 <;> cases q1
  ·rw[if_neg hia] at q1;by_cases hib:i=b
   ·subst hib;rw[if_pos rfl] at q3;split at q3
    ·cases q3;cases q4
    ·cases q3
   ·rw[if_neg hib] at q3;exact s.ap a b l2 es e' hab q1 q2 q3 q4
 ·rw[bf] at q1 q3;by_cases hia:i=a
  ·subst hia;rw[if_pos rfl] at q1;split at q1
   ·cases q1;cases q5
   ·cases q1
  ·rw[if_neg hia] at q1;have b1:=q6.back (s.at q1 q2) fun o A _ t=>t.move sm fun _ _=>rfl;by_cases hib:i=b
   ·subst hib;rw[if_pos rfl] at q3;split at q3
    ·cases q3;exact q7
    ·cases q3
   ·rw[if_neg hib] at q3;exact s.ao a b e1 e2 v1 v2 ad hab q1 q2 q3 q4 q5 b1 (q7.back (s.at q3 q4) fun o A _ t=>t.move sm fun _ _=>rfl)
 ·rw[bf] at ho;split at ho
  ·split at ho <;> cases ho
  ·exact s.pn w o hw ho
end
def SemS(K:ag)(t:TS)(f:FS):Prop:=∀ (B:Bd) (F H:Hp) (σ:Sg) (δ:En) (out:Out) (DD:Ends),RS K B F H σ δ->f δ=aa out->EndOk K B F DD out->t DD σ H
structure VS(X:Cx)(s:Stmt)(f:FS):Prop where
 h:∃ t,WS X s t/\SemS X.K t f
structure VSs(X:Cx)(s:List Stmt)(f:FS):Prop where
 h:∃ t,WSs X s t/\SemS X.K t f
def fNx:FS:=fun δ=>aa (.nx δ)
def fNev:FS:=fun _=>ab
def sqO(g:FS):Out->Option Out
 | .nx δ=>g δ
 | o=>aa o
def zaX(f g:FS):FS:=fun δ=>(f δ).bind (sqO g)
def zcr(i:Nat)(fe:FE):FS:=fun δ=>(fe δ).bind fun r=>(toN r).map fun e=>.nx (δ.set i (aa e))
def fIf(ft:FT)(f g:FS):FS:=fun δ=>(ft δ).bind fun b=>if b=true then f δ else g δ
def zb2(fe:FE):FS:=fun δ=>(fe δ).bind fun r=>(toN r).map fun e=>.rt e δ
def fRetV(i:Nat):FS:=fun δ=>match δ[i]? with
 | some (aa (.own ds))=>aa (.rt (.own ds) (δ.set i ab))
 | some (aa (.val d))=>aa (.rt (.val d) δ)
 | _=>ab
def fFrz(i:Nat)(g:FS):FS:=fun δ=>match δ[i]? with
 | some (aa (.own ds))=>g (δ.set i (aa (.val (.lst ds))))
 | _=>ab
noncomputable def zhb(i:Nat)(fe:FE):FS:=fun δ=>match δ[i]? with
 | some (aa (.own ds))=>((fe δ).bind asV).bind fun d=>gif (sz (ds.length+1)) (aa (.nx (δ.set i (aa (.own (ds ++ [d]))))))
 | _=>ab
def iOf:Ent->Option Int
 | .val (.int i)=>aa i
 | _=>ab
def zaw{e:Ent}{i:Int}(h:iOf e=aa i):e=.val (.int i):=by
 cases e with
 | val d=>cases d <;> first | (cases h;rfl) | (cases h)
 | _=>cases h
def fSIx(i:Nat)(fi fe:FE):FS:=fun δ=>match δ[i]? with
 | some (aa (.own ds))=>((fe δ).bind asV).bind fun d=>((fi δ).bind iOf).bind fun k=>(ixN ds.length k).map fun j=>.nx (δ.set i (aa (.own (ds.set j d))))
 | _=>ab
abbrev FG:=D->En->Option En
def lpO(lp:En->Option Out):Out->Option Out
 | .nx δ=>lp δ
 | .ct δ=>lp δ
 | .bk δ=>aa (.nx δ)
 | o=>aa o
def loop(tg:FG)(f:FS):List D->En->Option Out
 | [],δ=>aa (.nx δ)
 | d :: ds,δ=>(tg d δ).bind fun δ1=>(f δ1).bind (lpO (loop tg f ds))
abbrev FI:=En->Option (List D)
def zfW(fi:FI)(tg:FG)(f:FS):FS:=fun δ=>(fi δ).bind fun ds=>loop tg f ds δ
def whl(c:FT)(f:FS):Nat->En->Option Out
 | 0,_=>ab
 | n+1,δ=>(c δ).bind fun b=>if b=true then (f δ).bind (lpO (whl c f n)) else aa (.nx δ)
def gNm(i:Nat):FG:=fun d δ=>aa (δ.set i (aa (.val d)))
abbrev FGs:=List D->En->Option En
def SemG(K:ag)(g:TG)(tg:FG):Prop:=∀ (B:Bd) (F H:Hp) (σ:Sg) (δ δ':En) (v:V) (d:D) (Q:L2.St->Hp->Prop),RS K B F H σ δ->Rep F v d->tg d δ=aa δ'->(∀ σ',RS K B F H σ' δ'->Q σ' H)->g v σ H Q
def SemGs(K:ag)(g:TGs)(tg:FGs):Prop:=∀ (B:Bd) (F H:Hp) (σ:Sg) (δ δ':En) (vs:List V) (ds:List D) (Q:L2.St->Hp->Prop),RS K B F H σ δ->Reps F vs ds->tg ds δ=aa δ'->(∀ σ',RS K B F H σ' δ'->Q σ' H)->g vs σ H Q
structure VG(X:Cx)(e:Expr)(f:FG):Prop where
 h:∃ t,WG X e t/\SemG X.K t f
structure VGs(X:Cx)(es:List Expr)(f:FGs):Prop where
 h:∃ t,WGs X es t/\SemGs X.K t f
def ItOk(B F0:Hp)(J:It)(ds:List D):Prop:=∀ F H,Same F0 F->Same F H->Same B H->J.stop ds.length H/\∀ (i:Nat) (d:D),ds[i]? = aa d->J.go i H/\∀ x H',J.yld i H x H'->∃ F',Ex F H F' H'/\Rep F' x d
def SemI(K:ag)(t:TI)(fi:FI):Prop:=∀ (B:Bd) (F H:Hp) (σ:Sg) (δ:En) (ds:List D) (R:It->Hp->Prop),RS K B F H σ δ->fi δ=aa ds->(∀ J F' H',Ex F H F' H'->ItOk B F' J ds->R J H')->t σ H R
structure VI(X:Cx)(tg e:Expr)(f:FI):Prop where
 h:∃ t,WI X tg e t/\SemI X.K t f
section
variable {X:Cx}{e c tg iter:Expr}{es:List Expr}{pos pos' p:Pos}{fe fa:FE}{ft:FT}{x:Str}{st:Stmt}{sr body els:List Stmt}{f g:FS}{fi:FI}{tgf:FG}{tgs:FGs}
def ss0:VSs X [] fNx:=⟨_,s0,fun B F H σ δ out DD s q k=>by cases q;exact k σ F H s FX.refl⟩
def ss1(h:VS X st f):VSs X [st] f:=let⟨_,w,s⟩:=h.h;⟨_,s1 w,s⟩
def ssc(h1:VS X st f)(h2:VSs X sr g):VSs X (st :: sr) (zaX f g):=by
 obtain⟨t,w1,m1⟩:=h1.h;obtain⟨u,w2,m2⟩:=h2.h;refine⟨_,sc w1 w2,fun B F H σ δ out DD s q k=>?_⟩;obtain⟨o,q1,q⟩:=bind_some q;refine m1 B F H σ δ o _ s q1 ?_;cases o with
 | nx δ'=>exact fun σ' F' H' s' y=>m2 B F' H' σ' δ' out DD s' q (k.mono y)
 | rt r δ'=>cases q;exact k
 | bk δ'=>cases q;exact k
 | ct δ'=>cases q;exact k
def ssNev:VSs X sr fNev:=⟨_,ssn,fun B F H σ δ out DD s q k=>by cases q⟩
def sFrz(i:Nat)(h:VSs X sr g):VSs X sr (fFrz i g):=by
 obtain⟨u,w2,m2⟩:=h.h;refine⟨_,w2,fun B F H σ δ out DD s q k=>?_⟩;unfold fFrz at q;split at q
 ·rename_i ds hi;obtain⟨F',x,s'⟩:=s.frz hi;exact m2 B F' H σ _ out DD s' q (k.mono x)
 ·cases q
def SemE.ret{K:ag}{t:TE}(m:SemE K t fe):SemS K (tRet t) (zb2 fe):=fun B F H σ δ out DD s q k=>by
 obtain⟨r,q1,q⟩:=bind_some q;obtain⟨e,q2,q⟩:=map_some q;cases q;refine m B F H σ δ r _ s q1 fun v F' H' x z=>k v σ F' H' (s.ext x) (.of x s.bh) ?_;cases r with
 | val d=>cases q2;exact z
 | own ds=>cases q2;exact RepR.earlier z s.bh
 | _=>cases q2
def zdi(he:VE X e fe):VS X (.Return (aa e) pos) (zb2 fe):=let⟨_,w,m⟩:=he.h;⟨_,sret w,m.ret⟩
def sRetV(i:Nat)(hN:X.N[i]? = aa x:=by rfl)(hv:Vis X.env.scope x:=by first | exact aK rfl | exact be (aK rfl) | exact be (be rfl))(hd:(x == ("__debug__" : Str))=false:=by decide)
  (hcd:(x == ("__classdict__" : Str))=false:=by decide):VS X (.Return (aa (.Name x p)) pos) (fRetV i):=by
 refine⟨_,sret (wv i hN hv hd hcd),fun B F H σ δ out DD s q k=>?_⟩;unfold fRetV at q;split at q
 ·rename_i ds e;cases q;obtain⟨v,h1,h2⟩:=s.ent i _ e;refine⟨v,h1,k v σ F H (s.drop i) .refl ?_⟩;obtain⟨l,vs,e,h3,h4,h5,h6⟩:=h2;exact⟨l,vs,e,h6,h3,h4,h5⟩
 ·rename_i d e;cases q;obtain⟨v,h1,h2⟩:=s.ent i _ e;exact⟨v,h1,k v σ F H s .refl h2⟩
 ·cases q
def sIf(hc:VT X c ft)(ha:VSs X body f)(hb:VSs X els g):VS X (.If c body els pos) (fIf ft f g):=by
 obtain⟨t,w,m⟩:=hc.h;obtain⟨t1,w1,m1⟩:=ha.h;obtain⟨t2,w2,m2⟩:=hb.h;refine⟨_,sif w w1 w2,fun B F H σ δ out DD s q k=>?_⟩;obtain⟨b,q1,q⟩:=bind_some q;refine m B F H σ δ b _ s q1 fun F' H' x=>?_;cases b with
 | true=>exact iteT (m1 B F' H' σ δ out DD (s.ext x) q (k.mono (.of x s.bh)))
 | false=>exact iteF (m2 B F' H' σ δ out DD (s.ext x) q (k.mono (.of x s.bh)))
def SemE.set{K:ag}{t:TE}(i:Nat)(m:SemE K t fe):SemS K (zfH t (zdh i)) (zcr i fe):=fun B F H σ δ out DD s q k=>by
 obtain⟨r,q1,q⟩:=bind_some q;obtain⟨e,q2,q⟩:=map_some q;cases q;exact m B F H σ δ r _ s q1 fun v F' H' x z=>k _ F' H' (s.putR x i z q2) (.of x s.bh)
def zdj{i:Nat}(hN:X.N.Nodup)(hi:X.N[i]? = aa x)(hx:Loc X.env.scope x)(he:VE X e fe)(hs:swapsWith e (aa (.Name x pos')) pos.line X.env=pure false:=by rfl)(hf:X.fn x=true \/ X.env.scope.names.lookup x=aa .local:=by first | exact .inl rfl | exact .inr rfl | assumption) :
  VS X (.Assign [.Name x pos'] e pos) (zcr i fe):=let⟨_,w,m⟩:=he.h;⟨_,sset hN hi hx w hs hf,m.set i⟩
def gnm{i:Nat}(hN:X.N.Nodup)(hi:X.N[i]? = aa x)(hx:Loc X.env.scope x)(hf:X.fn x=true \/ X.env.scope.names.lookup x=aa .local:=by first | exact .inl rfl | exact .inr rfl | assumption):VG X (.Name x pos) (gNm i):=
 ⟨_,gn hN hi hx hf,fun B F H σ δ δ' v d Q s r q k=>by cases q;exact k _ (s.putV i r)⟩
def SemS.for{K:ag}{wi:TI}{g:TG}{tb:TS}(mi:SemI K wi fi)(mg:SemG K g tgf)(mb:SemS K tb f):SemS K (tFor wi g tb) (zfW fi tgf f):=fun B F H σ δ out DD s q k=>by
 obtain⟨ds,q1,q⟩:=bind_some q;refine mi B F H σ δ ds _ s q1 fun J F1 H1 x1 io=>?_;have k1:EndOk K B F1 DD out:=k.mono (.of x1 s.bh);refine⟨fun i m σ' H'=>m=ds.length - i/\i<=ds.length/\∃ F' δ',RS K B F' H' σ' δ'/\FX B F1 F'/\loop tgf f (ds.drop i) δ'=aa out,⟨_,rfl,cm _,F1,δ,s.ext x1,.refl,q⟩,?_⟩;rintro i m σ' H' ⟨rfl,hi,F',δ',s',y',q'⟩;obtain⟨hstop,hgo⟩:=io F' H' y'.ff s'.fh s'.bh;by_cases hlt:i<ds.length
 ·right;have hd:ds[i]? = aa ds[i]:=by simp[hlt]
  obtain⟨g1,g2⟩:=hgo i _ hd;rw[cF hlt] at q';obtain⟨δ1,q2,q'⟩:=bind_some q';obtain⟨o,q3,q'⟩:=bind_some q';refine⟨g1,fun σ2 H2=>ds.length - (i+1)=ds.length - (i+1)/\i+1<=ds.length/\∃ F' δ',RS K B F' H2 σ2 δ'/\FX B F1 F'/\loop tgf f (ds.drop (i+1)) δ'=aa out,fun σ2 H2 hN=>⟨_,by lia,hN⟩,fun v H2 yl=>?_⟩;obtain⟨F2,x2,r2⟩:=g2 v H2 yl;refine mg B F2 H2 σ' δ' δ1 v _ _ (s'.ext x2) r2 q2 fun σ3 s3=>?_;have y2:FX B F1 F2:=y'.trans (.of x2 s'.bh)
  refine mb B F2 H2 σ3 δ1 o _ s3 q3 ?_;cases o with
  | nx δ2=>exact fun σ4 F4 H4 s4 y4=>⟨rfl,hlt,F4,δ2,s4,y2.trans y4,q'⟩
  | ct δ2=>exact fun σ4 F4 H4 s4 y4=>⟨rfl,hlt,F4,δ2,s4,y2.trans y4,q'⟩
  | bk δ2=>cases q';exact fun σ4 F4 H4 s4 y4=>k1 σ4 F4 H4 s4 (y2.trans y4)
  | rt r δ2=>cases q';exact fun v σ4 F4 H4 s4 y4 z=>k1 v σ4 F4 H4 s4 (y2.trans y4) z
 ·left;have e:i=ds.length:=by lia
  subst e;rw[dR] at q';cases q';exact⟨hstop,k1 σ' F' H' s' y'⟩
def zi6(hi:VI X tg iter fi)(hg:VG X tg tgf)(hb:VSs X body f)(hp:PassesOwn (model X.prog X.w) X.A X.env X.xe:=by exact gX)(hc:X.calm=true:=by rfl)(hs:∀ z,bX iter X.env z=pure z:=by intro _;rfl):VS X (.For tg iter body [] pos) (zfW fi tgf f):=
 let⟨_,wi,mi⟩:=hi.h;let⟨_,wg,mg⟩:=hg.h;let⟨_,wb,mb⟩:=hb.h;⟨_,sfor hp hc wi wg wb hs,.for mi mg mb⟩
def sWhl(n:Nat)(hc:VT X c ft)(hb:VSs X body f)(hp:PassesOwn (model X.prog X.w) X.A X.env X.xe:=by exact gX):VS X (.While c body [] pos) (whl ft f n):=by
 obtain⟨tc,wc,mc⟩:=hc.h;obtain⟨tb,wb,mb⟩:=hb.h;refine⟨_,swhile hp wc wb,fun B F H σ δ out DD s q k=>?_⟩;refine⟨fun m σ' H'=>∃ F' δ',RS X.K B F' H' σ' δ'/\FX B F F'/\whl ft f m δ'=aa out,⟨n,F,δ,s,.refl,q⟩,?_⟩;rintro m σ' H' ⟨F',δ',s',y',q'⟩;cases m with
 | zero=>cases q'
 | succ m=>
  obtain⟨b,q1,q'⟩:=bind_some q';refine mc B F' H' σ' δ' b _ s' q1 fun F1 H1 x1=>?_;have y1:FX B F F1:=y'.trans (.of x1 s'.bh)
  cases b with
  | false=>cases q';exact iteF (k σ' F1 H1 (s'.ext x1) y1)
  | true=>
   refine iteT ?_;obtain⟨o,q3,q'⟩:=bind_some q';refine⟨fun σ2 H2=>∃ F' δ',RS X.K B F' H2 σ2 δ'/\FX B F F'/\whl ft f m δ'=aa out,fun σ2 H2 hN=>⟨m,cy m,hN⟩,?_⟩;refine mb B F1 H1 σ' δ' o _ (s'.ext x1) q3 ?_;cases o with
   | nx δ2=>exact fun σ4 F4 H4 s4 y4=>⟨F4,δ2,s4,y1.trans y4,q'⟩
   | ct δ2=>exact fun σ4 F4 H4 s4 y4=>⟨F4,δ2,s4,y1.trans y4,q'⟩
   | bk δ2=>cases q';exact fun σ4 F4 H4 s4 y4=>k σ4 F4 H4 s4 (y1.trans y4)
   | rt r δ2=>cases q';exact fun v σ4 F4 H4 s4 y4 z=>k v σ4 F4 H4 s4 (y1.trans y4) z
def sApp(i:Nat){apos cpos:Pos}(he:VE X e fe)(hN:X.N[i]? = aa x:=by rfl)(hv:Vis X.env.scope x:=by first | exact aK rfl | exact be (aK rfl) | exact be (be rfl))(hd:(x == ("__debug__" : Str))=false:=by decide)(hcd:(x == ("__classdict__" : Str))=false:=by decide)
  (hbase:b9 (.Name x p) "append" X.env (eval (.Name x p) X.env)=eval (.Name x p) X.env:=by rfl) (hline:(apos.endLine == cpos.line)=true:=by rfl) (h1:zak e=true:=by rfl)
  (hs:swapsWith (.Call (.Attribute (.Name x p) "append" apos) [e] [] cpos) ab pos.line X.env=pure false:=by rfl) :
  VS X (.Expr (.Call (.Attribute (.Name x p) "append" apos) [e] [] cpos) pos) (zhb i fe):=by
 obtain⟨t,w,m⟩:=he.h;refine⟨_,sex (wbm cN gB gC zd3 (wv i hN hv hd hcd) (wac w wnil h1) hbase rfl hline h1 rfl) hs,fun B F H σ δ out DD s q k=>?_⟩;unfold zhb at q;split at q
 ·rename_i ds hi;obtain⟨d,q1,q⟩:=bind_some q;obtain⟨r,q2,q3⟩:=bind_some q1;obtain⟨hl,qz⟩:=zba q;cases qz;obtain⟨v,h1,l,vs,e,h2,h3,h4,h5⟩:=s.ent i _ hi;subst e;refine⟨_,h1,.inl ⟨rfl,vs,SqL.of h2⟩,?_⟩;refine m B F H σ δ r _ s q2 fun y F1 H1 x1 z=>?_;obtain⟨F2,x2,sm,r2⟩:=RepR.frz x1 (Same.refl _) z q3;refine⟨l,vs,y,rfl,rfl,x2.hh _ _ h2,?_,?_⟩
  ·rw[h3.length,bC];unfold sz at hl;lia
  ·exact k σ F2 _ ((s.ext x2).mut hi h1 ((h3.mono x2.ff).append (.one r2))) (.of x2 s.bh)
 ·cases q
def sSIx(i:Nat){ix:Expr}{fx:FE}{tpos:Pos}(he:VE X e fe)(hx:VE X ix fx)(hN:X.N[i]? = aa x:=by rfl)(hv:Vis X.env.scope x:=by first | exact aK rfl | exact be (aK rfl) | exact be (be rfl))(hd:(x == ("__debug__" : Str))=false:=by decide)(hcd:(x == ("__classdict__" : Str))=false:=by decide)
  (hg:∀ {to ti:TE},WE X (.Name x p) to->WE X ix ti->WG X (.Subscript (.Name x p) ix tpos) (gSub to ti rSetL))
  (hs:swapsWithSole [.Subscript (.Name x p) ix tpos] e pos.line X.env=pure false:=by rfl) (hw:swappedStores [.Subscript (.Name x p) ix tpos] e X.env=pure ab:=by rfl) (h1:(dg [.Subscript (.Name x p) ix tpos] X.env).map (·.2)=[assign (.Subscript (.Name x p) ix tpos) X.env]:=by rfl) :
  VS X (.Assign [.Subscript (.Name x p) ix tpos] e pos) (fSIx i fx fe):=by
 obtain⟨t,w,m⟩:=he.h;obtain⟨t2,w2,m2⟩:=hx.h;refine⟨_,sasg w (hg (wv i hN hv hd hcd) w2) hs hw h1,fun B F H σ δ out DD s q k=>?_⟩;unfold fSIx at q;split at q
 ·rename_i ds hi;obtain⟨d,q1,q⟩:=bind_some q;obtain⟨r,q2,q3⟩:=bind_some q1;obtain⟨kk,q4,q⟩:=bind_some q;obtain⟨rk,q5,q6⟩:=bind_some q4;obtain⟨j,q7,q⟩:=map_some q;cases q;cases zaw q6;obtain⟨v,h1,l,vs,e,h2,h3,h4,h5⟩:=s.ent i _ hi;subst e;refine m B F H σ δ r _ s q2 fun y F1 H1 x1 z=>?_;obtain⟨F2,x2,sm,r2⟩:=RepR.frz x1 (Same.refl _) z q3;refine⟨_,h1,m2 B F2 H1 σ δ _ _ (s.ext x2) q5 fun yk F3 H3 x3 z3=>?_⟩;cases zaO z3;refine⟨l,vs,kk,j,rfl,rfl,x3.hh _ _ (x2.hh _ _ h2),by rw[h3.length];exact q7,?_⟩;exact k σ F3 _ (((s.ext x2).ext x3).mut hi h1 (((h3.mono x2.ff).mono x3.ff).set (Rep.mono x3.ff r2) j)) (.of (x2.trans x3) s.bh)
 ·cases q
end
def capt:Ent->Option Ent
 | .own ds=>aa (.vw ds)
 | .obj _=>ab
 | e=>aa e
def cEn(fr:List Nat)(δ:En)(d:D):En:=aa (.val d) :: fr.map fun i=>((δ[i]?).join).bind capt
def zcO(ft:D->Option Bool)(fe:D->Option Ent):List D->Option (List D)
 | []=>aa []
 | d :: ds=>(ft d).bind fun b=>if b=true then ((fe d).bind asV).bind fun y=>(zcO ft fe ds).map fun ys=>y :: ys else zcO ft fe ds
def eLC(fr:List Nat)(fi:FI)(ft:FT)(fe:FE):FE:=fun δ=>(fi δ).bind fun ds=>(zcO (fun d=>ft (cEn fr δ d)) (fun d=>fe (cEn fr δ d)) ds).bind fun out=>if out.length<=1000000 then aa (.own out) else ab
def RS.cap{K:ag}{B:Bd}{F H:Hp}{σ:Sg}{δ:En}{v:V}{d:D}(s:RS K B F H σ δ)(fr:List Nat)(r:Rep F v d):RS K B F H (aa v :: zdL fr σ) (cEn fr δ d):=by
 have key:∀ (j:Nat) (e:Ent),(cEn fr δ d)[j+1]? = aa (aa e)->∃ i e',fr[j]? = aa i/\δ[i]? = aa (aa e')/\capt e'=aa e:=fun j e h=>by
  unfold cEn at h;rw[bA,aD] at h;cases q:fr[j]? with
  | none=>rw[q] at h;cases h
  | some i=>
   rw[q] at h;have h':((δ[i]?).join).bind capt=aa e:=aM h;obtain⟨e',h1,h2⟩:=bind_some h';refine⟨i,e',rfl,?_,h2⟩;cases z:δ[i]? with
   | none=>rw[z] at h1;cases h1
   | some o=>rw[z] at h1;rw[show o=aa e' from h1]
 refine⟨s.fh,s.bh,by simp[cEn,zdL],fun j e h=>?_,fun a b l ds e hab h1=>?_,fun a b e1 e2 v1 v2 ad hab q1 _ _ _ q5=>?_,fun w o _ ho=>by cases ho⟩
 ·cases j with
  | zero=>cases h;exact⟨v,rfl,r⟩
  | succ j=>
   obtain⟨i,e',h1,h2,h0⟩:=key j e h;obtain⟨w,h3,h4⟩:=s.ent i e' h2;refine⟨w,?_,?_⟩
   ·show(zdL fr σ)[j]? = aa (aa w);unfold zdL;rw[aD,h1];show aa ((σ[i]?).join)=_;rw[h3];rfl
   ·cases e' with
    | own ds=>cases h0;obtain⟨l,vs,e,h5,h6,_⟩:=h4;exact⟨l,vs,e,h5,h6⟩
    | obj o=>cases o <;> first | (cases h0;obtain⟨A,t,_⟩:=h4;exact⟨A,t⟩) | cases h0
    | _=>cases h0;exact h4
 ·cases a with
  | zero=>cases h1
  | succ a=>
   obtain⟨i,e',_,_,z⟩:=key a _ h1;cases e' with
   | obj o=>cases o <;> cases z
   | _=>cases z
 ·cases a with
  | zero=>cases q1;cases q5
  | succ a=>
   obtain⟨i,e',_,_,z⟩:=key a _ q1;cases e' with
   | obj o=>cases o <;> first | (cases z;cases q5) | cases z
   | _=>cases z <;> cases q5
def SemE.lc{K:ag}{fr:List Nat}{wi:TI}{tt:TT}{te:TE}{fi:FI}{ft:FT}{fe:FE}(mi:SemI K wi fi)(mt:SemT K tt ft)(me:SemE K te fe):SemE K (tLC fr wi tt te) (eLC fr fi ft fe):=fun B F H σ δ res Q s q k=>by
 obtain⟨ds,q1,q⟩:=bind_some q;obtain⟨out,q2,q⟩:=bind_some q;split at q
 ·rename_i hlen;cases q;refine mi B F H σ δ ds _ s q1 fun J F1 H1 x1 io=>?_;intro a ha;refine⟨fun i m ys H'=>m=ds.length - i/\i<=ds.length/\∃ F' done rest,Ex F1 H1 F' H'/\F' a=ab/\H' a=aa (.lst ys)/\Reps F' ys done/\zcO (fun d=>ft (cEn fr δ d)) (fun d=>fe (cEn fr δ d)) (ds.drop i)=aa rest/\out=done ++ rest,
   ⟨_,rfl,cm _,F1,[],out,Ex.lay x1.fh ha,x1.fh.free ha,zai,.nil,q2,rfl⟩,?_⟩
  rintro i m ys H' ⟨rfl,hi,F',dn,rest,x',fa,hH,rs,q',eo⟩;have s':=(s.ext x1).ext x';obtain⟨hstop,hgo⟩:=io F' H' x'.ff x'.fh s'.bh;by_cases hlt:i<ds.length
  ·right;have hd:ds[i]? = aa ds[i]:=by simp[hlt]
   obtain⟨g1,g2⟩:=hgo i _ hd;rw[cF hlt] at q';obtain⟨b,q3,q'⟩:=bind_some q';refine⟨g1,fun v H2 yl=>?_⟩;obtain⟨F2,x2,r2⟩:=g2 v H2 yl;have sc:=(s'.ext x2).cap fr r2;refine mt B F2 H2 _ _ b _ sc q3 fun F3 H3 x3=>?_;have nn:∀ {Fz Hz:Hp},Ex F' H' Fz Hz->Fz a=ab:=fun x=>(x.nw _ _ hH rfl).trans fa;cases b with
   | false=>
    refine iteF ⟨ds.length - (i+1),by lia,rfl,hlt,F3,dn,rest,(x'.trans x2).trans x3,nn (x2.trans x3),(x2.trans x3).hh _ _ hH,rs.mono (x2.trans x3).ff,q',eo⟩
   | true=>
    refine iteT ?_;obtain⟨y,q4,q'⟩:=bind_some q';obtain⟨r,q5,q6⟩:=bind_some q4;obtain⟨rest',q7,q'⟩:=map_some q';cases q';refine me B F3 H3 _ _ r _ (sc.ext x3) q5 fun w F4 H4 x4 z4=>?_;obtain⟨F5,x5,_,r5⟩:=RepR.frz x4 (Same.refl _) z4 q6;have xx:Ex F' H' F5 H4:=(x2.trans x3).trans x5;have hy:ys.length<aZ:=by
     rw[rs.length,bC];have:out.length=dn.length+(rest'.length+1):=by rw[eo];simp
     lia
    refine⟨xx.hh _ _ hH,hy,ds.length - (i+1),by lia,rfl,hlt,F5,dn ++ [y],rest',?_,nn xx,zai,(rs.mono xx.ff).append (.one r5),q7,by rw[eo];simp⟩;have xo:=x'.trans xx;exact⟨xo.ff,fun b o e=>by rw[zam (zaD e (nn xx))];exact xo.fh b o e,fun b o e=>by rw[zam (zaD e ha)];exact xo.hh b o e,xo.nw⟩
  ·left;have e:i=ds.length:=by lia
   subst e;rw[dR] at q';cases q';rw[aY] at eo;subst eo;refine⟨hstop,k _ F' H' (x1.trans x') ⟨a,ys,rfl,x1.hh.free ha,hH,rs,fa⟩⟩
 ·cases q
def tD(K:ag)(f:FE):TE:=fun σ H Q=>∃ B F δ r,RS K B F H σ δ/\f δ=aa r/\∀ v F' H',Ex F H F' H'->RepR K H F' H' v r->Q v H'
def tDT(K:ag)(f:FT):TT:=fun σ H Q=>∃ B F δ b,RS K B F H σ δ/\f δ=aa b/\∀ F' H',Ex F H F' H'->Q b H'
def zhz{K:ag}{f:FE}:SemE K (tD K f) f:=fun B F _ _ δ r _ s q k=>⟨B,F,δ,r,s,q,k⟩
def zhv{K:ag}{f:FT}:SemT K (tDT K f) f:=fun B F _ _ δ r _ s q k=>⟨B,F,δ,r,s,q,k⟩
def VE.uni{X:Cx}{e:Expr}{f:FE}(h:VE X e f):WE X e (tD X.K f):=
 let⟨_,w,m⟩:=h.h;⟨fun pins s σ H Q I z=>let⟨B,F,δ,r,s',q,k⟩:=z;w.h pins s σ H Q I (m B F H σ δ r Q s' q k)⟩
def VTs.uni{X:Cx}{es:List Expr}{f:FT}(h:VTs X es f):WTs X es (tDT X.K f):=
 let⟨_,w,m⟩:=h.h;⟨fun pins s σ H Q I z=>let⟨B,F,δ,r,s',q,k⟩:=z;w.h pins s σ H Q I (m B F H σ δ r Q s' q k)⟩
section
variable {X:Cx}{N:List Str}{fr:List Nat}{x:Str}{scope:Scope}{iter elt:Expr}{ifs:List Expr}{px pos:Pos}{fi:FI}{fe:FE}{ft:FT}
def vlc(S:CompSc X N fr x scope)(hi:VI X (.Name x px) iter fi)
  (ht:∀ (C:af) (s₀:ah) (H₀:Hp) (fp:List af),VTs (cxC X N scope C s₀ H₀ fp) ifs ft) (he:∀ (C:af) (s₀:ah) (H₀:Hp) (fp:List af),VE (cxC X N scope C s₀ H₀ fp) elt fe)
  (hc:X.calm=true:=by rfl) (hs:∀ z,bX iter X.env z=pure z:=by intro _;rfl):VE X (.ListComp elt [⟨.Name x px,iter,ifs,0⟩] scope pos) (eLC fr fi ft fe):=
 let⟨_,w1,m1⟩:=hi.h;⟨_,wlc S hc w1 (fun C s₀ H₀ fp=>(ht C s₀ H₀ fp).uni) (fun C s₀ H₀ fp=>(he C s₀ H₀ fp).uni) hs,.lc m1 zhv zhz⟩
def sSetLC{i:Nat}{y:Str}{py spos:Pos}(hN:X.N.Nodup)(hi':X.N[i]? = aa y)(hy:Loc X.env.scope y)(S:CompSc X N fr x scope)(hi:VI X (.Name x px) iter fi)
  (ht:∀ (C:af) (s₀:ah) (H₀:Hp) (fp:List af),VTs (cxC X N scope C s₀ H₀ fp) ifs ft) (he:∀ (C:af) (s₀:ah) (H₀:Hp) (fp:List af),VE (cxC X N scope C s₀ H₀ fp) elt fe)
  (hc:X.calm=true:=by rfl) (hsw:swapsWith (.ListComp elt [⟨.Name x px,iter,ifs,0⟩] scope pos) (aa (.Name y py)) spos.line X.env=pure true:=by rfl)
  (hs:∀ z,bX iter X.env z=pure z:=by intro _;rfl)
  (hf:X.fn y=true \/ X.env.scope.names.lookup y=aa .local:=by first | exact .inl rfl | exact .inr rfl | assumption) :
  VS X (.Assign [.Name y py] (.ListComp elt [⟨.Name x px,iter,ifs,0⟩] scope pos) spos) (zcr i (eLC fr fi ft fe)):=
 let⟨_,w1,m1⟩:=hi.h;⟨_,ssetlc hN hi' hy S hc w1 (fun C s₀ H₀ fp=>(ht C s₀ H₀ fp).uni) (fun C s₀ H₀ fp=>(he C s₀ H₀ fp).uni) hsw hs hf,SemE.set i (.lc m1 zhv zhz)⟩
end
inductive Kd where
 | v | b | t
def ArgOk(K:ag)(F H:Hp)(v:V):Kd->D->Prop
 | .v,d=>Rep F v d
 | .b,.lst ds=>RBor K F H v ds
 | .b,_=>False
 | .t,.tup ds=>RBt K F H v ds
 | .t,_=>False
inductive ArgsOk(K:ag)(F H:Hp):List Kd->List V->List D->Prop
 | nil:ArgsOk K F H [] [] []
 | cons {k:Kd} {v:V} {d:D} {ks:List Kd} {vs:List V} {ds:List D}:ArgOk K F H v k d->ArgsOk K F H ks vs ds->ArgsOk K F H (k :: ks) (v :: vs) (d :: ds)
inductive SpD(K:ag)(ks:List Kd)(g:List D->Option Ent)(vs:List V)(H:Hp)(Q:VK):Prop
 | mk (F:Hp) (ds:List D) (r:Ent):Same F H->ArgsOk K F H ks vs ds->g ds=aa r->(∀ v F' H',Ex F H F' H'->RepR K H F' H' v r->Q v H')->SpD K ks g vs H Q
def spD(K:ag)(ks:List Kd)(g:List D->Option Ent):Sp:=fun vs H Q _=>SpD K ks g vs H Q
def asT:Ent->Option (List D)
 | .val (.tup ds)=>aa ds
 | .bt ds=>aa ds
 | _=>ab
def RepR.toT{K:ag}{H0 F H:Hp}{v:V}{e:Ent}{ds:List D}(r:RepR K H0 F H v e)(h:Same F H)(q:asT e=aa ds):RBt K F H v ds:=by
 cases e with
 | val d=>
  cases d with
  | tup es=>
   cases q;cases (show Rep F v (.tup _) from r) with
   | tup e rs=>exact⟨_,_,rfl,SqT.of (h _ _ e),rs⟩
  | _=>cases q
 | bt es=>cases q;exact r
 | _=>cases q
def ze9:Kd->Ent->Option D
 | .v,e=>asV e
 | .b,e=>(asL e).map .lst
 | .t,e=>(asT e).map .tup
def zbF:List Kd->List Ent->Option (List D)
 | [],[]=>aa []
 | k :: ks,e :: es=>(ze9 k e).bind fun d=>(zbF ks es).map fun ds=>d :: ds
 | _,_=>ab
section
variable {K:ag}{F H F' H' F2 H2:Hp}
def ArgOk.mono{v:V}{k:Kd}{d:D}(s:Same F F')(h:ArgOk K F H v k d):ArgOk K F' H v k d:=by
 cases k with
 | v=>exact Rep.mono s h
 | b=>cases d <;> first | exact h.elim | (obtain⟨l,vs,e,h1,h2⟩:=h;exact⟨l,vs,e,h1,h2.mono s⟩)
 | t=>cases d <;> first | exact h.elim | (obtain⟨l,vs,e,h1,h2⟩:=h;exact⟨l,vs,e,h1,h2.mono s⟩)
def RepRs.args{ks:List Kd}{vs:List V}{es:List Ent}{ds:List D}{F':Hp}(x:Ex F H F' H')(s:Same F2 F')(h:RepRs K H F2 H' vs es)(q:zbF ks es=aa ds):∃ F3,Ex F H F3 H'/\Same F' F3/\ArgsOk K F3 H' ks vs ds:=by
  induction h generalizing ks ds F' with
  | nil=>
    cases ks with
    | nil=>cases q;exact⟨F',x,Same.refl _,.nil⟩
    | cons _ _=>cases q
  | @cons _ e _ es r t ih=>
   cases ks with
   | nil=>cases q
   | cons k ks=>
    simp only[zbF] at q;obtain⟨d,q1,q⟩:=bind_some q;obtain⟨ds',q2,q⟩:=map_some q;cases q;cases k with
    | v=>
      obtain⟨F3,x3,s3,r3⟩:=r.frz x s q1;obtain⟨F4,x4,s4,r4⟩:=ih x3 (s.trans s3) q2;exact⟨F4,x4,s3.trans s4,.cons (Rep.mono s4 r3) r4⟩
    | b=>
      obtain⟨ls,q3,q4⟩:=map_some q1;cases q4;obtain⟨F4,x4,s4,r4⟩:=ih x s q2;refine⟨F4,x4,s4,.cons (k:=.b) ?_ r4⟩;obtain⟨l,vs,e,h1,h2⟩:=RepR.toL r (s.trans x.fh) q3;exact⟨l,vs,e,h1,h2.mono (s.trans s4)⟩
    | t=>
      obtain⟨ls,q3,q4⟩:=map_some q1;cases q4;obtain⟨F4,x4,s4,r4⟩:=ih x s q2;refine⟨F4,x4,s4,.cons (k:=.t) ?_ r4⟩;obtain⟨l,vs,e,h1,h2⟩:=RepR.toT r (s.trans x.fh) q3;exact⟨l,vs,e,h1,h2.mono (s.trans s4)⟩
end
def zaM(ks:List Kd)(g:List D->Option Ent)(fs:FA):FE:=fun δ=>((fs δ).bind (zbF ks)).bind g
section
variable {X:Cx}{es:List Expr}{e:Expr}{fs:FA}{x:Str}{p pos:Pos}{ks:List Kd}{g:List D->Option Ent}
def SemE.call{K:ag}{t:TA}{dvs:List V}{E:XK}(m:SemA K t fs)(hd:dvs=[]):SemE K (tCall (spD K ks g) dvs E t) (zaM ks g fs):=fun B F H σ δ res Q s q k=>by
 subst hd;obtain⟨ds,q1,q⟩:=bind_some q;obtain⟨rs,q2,q3⟩:=bind_some q1;refine m B F H σ δ rs _ s q2 fun vs F1 H1 x1 r1=>?_;obtain⟨F2,x2,_,a2⟩:=RepRs.args x1 (Same.refl _) r1 q3;rw[aY];exact⟨F2,ds,res,x2.fh,a2,q,fun v F' H' x3 r3=>k v F' H' (x2.trans x3) (r3.earlier x2.hh)⟩
def vcl{CX:CXT}{k j:Nat}{f:af}{fd:bw}{ps:List Str}{st:Stmt}{E:XK}(F:FnOk X.prog X.w X.K X.mg X.base CX k f fd ps (spD X.K ks g))(D:Def X.K X.mg x st ps f fd)(hr:Room j X.A)(hg:Gl X x)(hx:zbX CX X E)
  (ha:VA X (e :: es) fs) (hjk:k<=j:=by decide) (hdb:(x == ("__debug__" : Str))=false:=by decide) (h1:zak e=true:=by rfl) (h2:es.all zak=true:=by rfl) :
  VE X (.Call (.Name x p) (e :: es) [] pos) (zaM ks g fs):=let⟨_,w,m⟩:=ha.h;⟨_,wcl F D hr hg hx w hjk hdb h1 h2,.call m rfl⟩
end
def stN:Kd->D->Option Ent
 | .v,d=>aa (.val d)
 | .b,.lst ds=>aa (.bor ds)
 | .b,_=>ab
 | .t,.tup ds=>aa (.bt ds)
 | .t,_=>ab
def stE:List Kd->List D->Option En
 | [],[]=>aa []
 | k :: ks,d :: ds=>(stN k d).bind fun e=>(stE ks ds).map fun es=>aa e :: es
 | _,_=>ab
def zf4:Out->Option Ent
 | .rt r _=>aa r
 | .nx _=>aa (.val .non)
 | _=>ab
def zcS(ks:List Kd)(m:Nat)(f:FS)(ds:List D):Option Ent:=(stE ks ds).bind fun es=>(f (es ++ aJ m ab)).bind zf4
def ArgsOk.start{K:ag}{F H:Hp}{ks:List Kd}{vs:List V}{ds:List D}{es:En}(h0:ArgsOk K F H ks vs ds)(q:stE ks ds=aa es):vs.length=es.length/\∀ (i:Nat) (e:Ent),es[i]? = aa (aa e)->(∃ v,vs[i]? = aa v/\RepN K H F H v e)/\e.lk=false/\e.isO=false:=by
 induction h0 generalizing es with
 | nil=>cases q;exact⟨rfl,fun i e h=>by simp at h⟩
 | @cons k v d ks vs ds a t ih0=>
  simp only[stE] at q;obtain⟨e0,q1,q⟩:=bind_some q;obtain⟨es',q2,q⟩:=map_some q;cases q;obtain⟨hl,ih⟩:=ih0 q2;refine⟨by simp[hl],fun i e h=>?_⟩;cases i with
  | succ i=>simpa using ih i e (by simpa using h)
  | zero=>
   have h':e0=e:=by simpa using h
   subst h';cases k with
   | v=>cases q1;exact⟨⟨v,rfl,a⟩,rfl,rfl⟩
   | b=>
    cases d with
    | lst ls=>
     cases q1;obtain⟨l,ws,e,h1,h2⟩:=a;exact⟨⟨v,rfl,l,ws,e,h1,h2⟩,rfl,rfl⟩
    | _=>cases q1
   | t=>
    cases d with
    | tup ls=>
     cases q1;obtain⟨l,ws,e,h1,h2⟩:=a;exact⟨⟨v,rfl,l,ws,e,h1,h2⟩,rfl,rfl⟩
    | _=>cases q1
def ArgsOk.length{K:ag}{F H:Hp}{ks:List Kd}{vs:List V}{ds:List D}(h:ArgsOk K F H ks vs ds):vs.length=ks.length:=h.rec (motive:=fun ks vs _ _=>vs.length=ks.length) rfl fun _ _ t=>congrArg (· + 1) t
section
variable {P:aN}{w:aV}{K:ag}{mg:Str->Option ae}{base:bd}{x qual:Str}{st:Stmt}{f:af}{fd:bw}{N ps:List Str}{k:Nat}{ks:List Kd}{g:List D->Option Ent}
end
end L3

namespace L3
open PySem PySem.Spec PyProof.Rows L2
def pI0(g:Int->Int->D):Ent->Ent->Option Ent:=fun x y=>(iOf x).bind fun i=>(iOf y).map fun j=>.val (g i j)
noncomputable def pI(c:Int->Int->Prop)(g:Int->Int->D):Ent->Ent->Option Ent:=fun x y=>(iOf x).bind fun i=>(iOf y).bind fun j=>gif (c i j) (aa (.val (g i j)))
def b64(i:Int):Prop:=-18446744073709551616<i/\i<18446744073709551616
def zd1{i:Int}(h:-18446744073709551616<i/\i<18446744073709551616):b64 i=True:=eq_true h
def psI(j:Int):Prop:=0<j
def zc6{j:Int}(h:0<j):psI j=True:=eq_true h
def dvI(j:Int):Prop:=0<j/\j<1073741824
def zfC{j:Int}(h:0<j/\j<1073741824):dvI j=True:=eq_true h
def zfn{i:Int}(h:-18446744073709551616<i/\i<18446744073709551616):b64 i:=h
section
variable {K:ag}
def ziW{g':Int->Int->V}{g:Int->Int->D}(h:∀ i j F,Rep F (g' i j) (g i j)):ziV K (rI0 g') (pI0 g):=fun H0 F H x y e e' res Q fh hh rx ry q k=>by
 obtain⟨i,q1,q⟩:=bind_some q;obtain⟨j,q2,q⟩:=map_some q;cases zaw q1;cases zaw q2;cases q;cases zaO rx;cases zaO ry;exact⟨i,j,rfl,rfl,k _ F H (Ex.refl fh) (h i j F)⟩
def semI{C c:Int->Int->Prop}{g':Int->Int->V}{g:Int->Int->D}(hc:∀ i j,c i j->C i j)(h:∀ i j F,Rep F (g' i j) (g i j)):ziV K (rI C g') (pI c g):=fun H0 F H x y e e' res Q fh hh rx ry q k=>by
 obtain⟨i,q1,q⟩:=bind_some q;obtain⟨j,q2,q⟩:=bind_some q;obtain⟨hij,qz⟩:=zba q;cases zaw q1;cases zaw q2;cases qz;cases zaO rx;cases zaO ry;exact⟨i,j,rfl,rfl,hc i j hij,k _ F H (Ex.refl fh) (h i j F)⟩
end
def zcw:=pI0 fun i j=>.int (i+j)
def ziz:=pI0 fun i j=>.int (i - j)
noncomputable def zfb:=pI (fun i j=>b64 i \/ b64 j) fun i j=>.int (i * j)
noncomputable def zcl:=pI (fun _ j=>psI j) fun i j=>.int (i % j)
noncomputable def zgi:=pI (fun _ j=>dvI j) fun i j=>.int (i / j)
noncomputable def gPow:=pI (fun i j=>(0<=j/\j<=1000000)/\i.natAbs<18446744073709551616) fun i j=>.int (i ^ j.toNat)
def gLt:=pI0 fun i j=>.bl (decide (i<j))
def gLe:=pI0 fun i j=>.bl (decide (i<=j))
def gGt:=pI0 fun i j=>.bl (decide (j<i))
def gGe:=pI0 fun i j=>.bl (decide (j<=i))
def zhw:Ent->Option Ent:=fun x=>(iOf x).map fun i=>.val (.int (-i))
section
variable {X:Cx}
def zcQ:OpD X (binaryOp .Add) zcw:=⟨_,op_add,ziW fun _ _ _=>.int _⟩
def zfR:OpD X (binaryOp .Sub) ziz:=⟨_,op_sub,ziW fun _ _ _=>.int _⟩
def zgz:OpD X (binaryOp .Mult) zfb:=⟨_,op_mul,semI (fun _ _ h=>h) fun _ _ _=>.int _⟩
def zcR:OpD X (binaryOp .Mod) zcl:=⟨_,op_mod,semI (fun _ _ h=>h) fun _ _ _=>.int _⟩
def zgv:OpD X (binaryOp .FloorDiv) zgi:=⟨_,op_fdiv,semI (fun _ _ h=>h) fun _ _ _=>.int _⟩
def o_pow:OpD X (binaryOp .Pow) gPow:=⟨_,op_pow,semI (fun _ _ h=>⟨h.1.1,h.1.2,h.2⟩) fun _ _ _=>.int _⟩
def o_lt:OpD X (bu .Lt) gLt:=⟨_,op_lt,ziW fun _ _ _=>.bl _⟩
def o_le:OpD X (bu .LtE) gLe:=⟨_,op_le,ziW fun _ _ _=>.bl _⟩
def o_gt:OpD X (bu .Gt) gGt:=⟨_,op_gt,ziW fun _ _ _=>.bl _⟩
def o_ge:OpD X (bu .GtE) gGe:=⟨_,op_ge,ziW fun _ _ _=>.bl _⟩
def zgE:UnD X (unaryOp .USub) zhw:=⟨_,un_neg,fun H0 F H x e res Q fh hh r q k=>by
 obtain⟨i,q1,q⟩:=map_some q;cases zaw q1;cases q;cases zaO r;exact⟨i,rfl,k _ F H (Ex.refl fh) (.int _)⟩⟩
end
def dvD:D->Option V
 | .non=>aa .non
 | .bl b=>aa (.bl b)
 | .int i=>aa (.int i)
 | .str z=>aa (.str z)
 | _=>ab
def scEq(d d':D):Option Bool:=(dvD d).bind fun x=>(dvD d').bind fun y=>if scal x y=true then aa (decide (x=y)) else ab
def dec_iff{p q:Prop}[Decidable p][Decidable q](h:p ↔ q):aa (decide p)=aa (decide q):=congrArg aa (decide_eq_decide.mpr h)
def zc3(i j:Int):scEq (.int i) (.int j)=aa (decide (i=j)):=dec_iff ⟨V.int.inj,congrArg _⟩
def scEq_ss(i j:Str):scEq (.str i) (.str j)=aa (decide (i=j)):=dec_iff ⟨V.str.inj,congrArg _⟩
def dvD_ok{F:Hp}{x z:V}{d:D}(r:Rep F x d)(q:dvD d=aa z):x=z:=by
 cases r <;> first | (cases q;rfl) | cases q
def gEq:Ent->Ent->Option Ent
 | .val d,.val d'=>(scEq d d').map fun b=>.val (.bl b)
 | _,_=>ab
def gNe:Ent->Ent->Option Ent
 | .val d,.val d'=>(scEq d d').map fun b=>.val (.bl (!b))
 | _,_=>ab
def scEq_ok{F:Hp}{x y:V}{d d':D}{b:Bool}(rx:Rep F x d)(ry:Rep F y d')(q:scEq d d'=aa b):scal x y=true/\decide (x=y)=b:=by
 obtain⟨x',q1,q⟩:=bind_some q;obtain⟨y',q2,q⟩:=bind_some q;cases dvD_ok rx q1;cases dvD_ok ry q2;obtain⟨h,q⟩:=zeJ q;exact⟨h,aM q⟩
def isN:Ent->Bool
 | .val .non=>true
 | _=>false
def ziC:Ent->Ent->Option Ent
 | x,.val .non=>aa (.val (.bl (isN x)))
 | _,_=>ab
def gNoN:Ent->Ent->Option Ent
 | x,.val .non=>aa (.val (.bl (!isN x)))
 | _,_=>ab
def isN_ok{K:ag}{H0 F H:Hp}{x:V}{e:Ent}(r:RepR K H0 F H x e):decide (x=.non)=isN e:=by
 cases e with
 | val d=>cases r <;> simp[isN]
 | own ds=>obtain⟨l,vs,e,_⟩:=r;subst e;simp[isN]
 | bor ds=>obtain⟨l,vs,e,_⟩:=r;subst e;simp[isN]
 | vw ds=>obtain⟨l,vs,e,_⟩:=r;subst e;simp[isN]
 | bt ds=>obtain⟨l,vs,e,_⟩:=r;subst e;simp[isN]
 | obj o=>obtain⟨⟨l,e⟩,_⟩:=r;subst e;simp[isN]
def sOf:Ent->Option Str
 | .val (.str i)=>aa i
 | _=>ab
def zbB{e:Ent}{i:Str}(h:sOf e=aa i):e=.val (.str i):=by
 cases e with
 | val d=>cases d <;> first | (cases h;rfl) | (cases h)
 | _=>cases h
def inS(i j:Str):Bool:=!(ek j i 0 j.length 1).isEmpty
def gInS:Ent->Ent->Option Ent:=fun x y=>(sOf x).bind fun i=>(sOf y).map fun j=>.val (.bl (inS i j))
def gNiS:Ent->Ent->Option Ent:=fun x y=>(sOf x).bind fun i=>(sOf y).map fun j=>.val (.bl (!inS i j))
noncomputable def gAddS:Ent->Ent->Option Ent:=fun x y=>(sOf x).bind fun i=>(sOf y).bind fun j=>gif (sz (i.length+j.length)) (aa (.val (.str (i ++ j))))
def zdS{n:Nat}(h:n<=1000000):n<=aZ:=by rw[bC];lia
section
variable {X:Cx}
def o_eq:OpD X (bu .Eq) gEq:=⟨_,op_eq,fun H0 F H x y e e' res Q fh hh rx ry q k=>by
 cases e with
 | val d=>
  cases e' with
  | val d'=>
   obtain⟨b,q1,q⟩:=map_some q;cases q;obtain⟨h1,h2⟩:=scEq_ok rx ry q1;exact⟨h1,by rw[h2];exact k _ F H (Ex.refl fh) (.bl _)⟩
  | _=>cases q
 | _=>cases q⟩
def o_ne:OpD X (bu .NotEq) gNe:=⟨_,op_ne,fun H0 F H x y e e' res Q fh hh rx ry q k=>by
 cases e with
 | val d=>
  cases e' with
  | val d'=>
   obtain⟨b,q1,q⟩:=map_some q;cases q;obtain⟨h1,h2⟩:=scEq_ok rx ry q1;exact⟨h1,by rw[h2];exact k _ F H (Ex.refl fh) (.bl _)⟩
  | _=>cases q
 | _=>cases q⟩
def o_isN:OpD X (bu .Is) ziC:=⟨_,op_isN,fun H0 F H x y e e' res Q fh hh rx ry q k=>by
 unfold ziC at q;split at q
 ·cases q;exact⟨zhn ry,by rw[isN_ok rx];exact k _ F H (Ex.refl fh) (.bl _)⟩
 ·cases q⟩
def o_noN:OpD X (bu .IsNot) gNoN:=⟨_,op_notN,fun H0 F H x y e e' res Q fh hh rx ry q k=>by
 unfold gNoN at q;split at q
 ·cases q;exact⟨zhn ry,by rw[isN_ok rx];exact k _ F H (Ex.refl fh) (.bl _)⟩
 ·cases q⟩
def o_inS:OpD X (bu .In) gInS:=⟨_,op_in_str,fun H0 F H x y e e' res Q fh hh rx ry q k=>by
 obtain⟨i,q1,q⟩:=bind_some q;obtain⟨j,q2,q⟩:=map_some q;cases zbB q1;cases zbB q2;cases q;exact⟨i,j,zb0 rx,zb0 ry,k _ F H (Ex.refl fh) (.bl _)⟩⟩
def o_niS:OpD X (bu .NotIn) gNiS:=⟨_,zgU,fun H0 F H x y e e' res Q fh hh rx ry q k=>by
 obtain⟨i,q1,q⟩:=bind_some q;obtain⟨j,q2,q⟩:=map_some q;cases zbB q1;cases zbB q2;cases q;exact⟨i,j,zb0 rx,zb0 ry,k _ F H (Ex.refl fh) (.bl _)⟩⟩
def o_addS:OpD X (binaryOp .Add) gAddS:=⟨_,zi4,fun H0 F H x y e e' res Q fh hh rx ry q k=>by
 obtain⟨i,q1,q⟩:=bind_some q;obtain⟨j,q2,q⟩:=bind_some q;obtain⟨hl,qz⟩:=zba q;cases zbB q1;cases zbB q2;cases qz;exact⟨i,j,zb0 rx,zb0 ry,zdS hl,k _ F H (Ex.refl fh) (.str _)⟩⟩
end
def zca:Ent->Ent->Option Ent:=fun x y=>(asL x).bind fun ds=>(iOf y).bind fun i=>(atI ds i).map .val
def ze4:Ent->Option (List D)
 | .val (.tup ds)=>aa ds
 | _=>ab
def zdw{e:Ent}{ds:List D}(h:ze4 e=aa ds):e=.val (.tup ds):=by
 cases e with
 | val d=>cases d <;> first | (cases h;rfl) | (cases h)
 | _=>cases h
def zc9:Ent->Ent->Option Ent:=fun x y=>(ze4 x).bind fun ds=>(iOf y).bind fun i=>(atI ds i).map .val
def btOf:Ent->Option (List D)
 | .bt ds=>aa ds
 | _=>ab
def btOf_some{e:Ent}{ds:List D}(h:btOf e=aa ds):e=.bt ds:=by
 cases e with
 | bt d=>cases h;rfl
 | _=>cases h
def ziZ:Ent->Ent->Option Ent:=fun x y=>(btOf x).bind fun ds=>(iOf y).bind fun i=>(atI ds i).map .val
def mkS(l:List Nat):Str:=⟨l.toArray⟩
noncomputable def zjd:Ent->Ent->Option Ent:=fun x y=>(sOf x).bind fun z=>(iOf y).bind fun i=>gif (sz z.length) ((atI z.cps.toList i).map fun c=>.val (.str (mkS [c])))
def zhd{F:Hp}{vs:List V}{ds:List D}{i:Int}{d:D}(r:Reps F vs ds)(q:atI ds i=aa d):∃ v,atI vs i=aa v/\Rep F v d:=by
 unfold atI at q ⊢;obtain⟨j,q1,q⟩:=bind_some q;obtain⟨v,h1,h2⟩:=r.get q;exact⟨v,by rw[r.length,q1];exact h1,h2⟩
section
variable {X:Cx}
def zbH:IxD X zca:=⟨_,ix_list,fun H0 F H x y e e' res Q fh hh rx ry q k=>by
 obtain⟨ds,q1,q⟩:=bind_some q;obtain⟨i,q2,q⟩:=bind_some q;obtain⟨d,q3,q⟩:=map_some q;cases q;cases zaw q2;obtain⟨l,vs,e,h1,h2⟩:=RepR.toL rx fh q1;obtain⟨v,h3,h4⟩:=zhd h2 q3;exact⟨l,vs,i,v,e,zaO ry,h1,h3,k v F H (Ex.refl fh) h4⟩⟩
def zcG:IxD X zc9:=⟨_,ix_tup,fun H0 F H x y e e' res Q fh hh rx ry q k=>by
 obtain⟨ds,q1,q⟩:=bind_some q;obtain⟨i,q2,q⟩:=bind_some q;obtain⟨d,q3,q⟩:=map_some q;cases q;cases zaw q2;cases zdw q1;cases (show Rep F x (.tup ds) from rx) with
 | tup e rs=>
  obtain⟨v,h3,h4⟩:=zhd rs q3;exact⟨_,_,i,v,rfl,zaO ry,SqT.of (fh _ _ e),h3,k v F H (Ex.refl fh) h4⟩⟩
def x_bt:IxD X ziZ:=⟨_,ix_tup,fun H0 F H x y e e' res Q fh hh rx ry q k=>by
 obtain⟨ds,q1,q⟩:=bind_some q;obtain⟨i,q2,q⟩:=bind_some q;obtain⟨d,q3,q⟩:=map_some q;cases q;cases zaw q2;cases btOf_some q1;obtain⟨l,vs,e,h1,h2⟩:=rx;obtain⟨v,h3,h4⟩:=zhd h2 q3;exact⟨l,vs,i,v,e,zaO ry,h1,h3,k v F H (Ex.refl fh) h4⟩⟩
def zi3:IxD X zjd:=⟨_,ix_str,fun H0 F H x y e e' res Q fh hh rx ry q k=>by
 obtain⟨z,q1,q⟩:=bind_some q;obtain⟨i,q2,q⟩:=bind_some q;obtain⟨hl,qz⟩:=zba q;obtain⟨c,q3,qz⟩:=map_some qz;cases qz;cases zaw q2;cases zbB q1;exact⟨z,i,c,zb0 rx,zaO ry,zdS hl,q3,k _ F H (Ex.refl fh) (.str _)⟩⟩
end
noncomputable def gCat:Ent->Ent->Option Ent:=fun x y=>(asLt x).bind fun ds=>(asLt y).bind fun es=>gif (sz (ds.length+es.length)) (aa (.own (ds ++ es)))
section
variable {X:Cx}
def o_cat:OpD X (binaryOp .Add) gCat:=⟨_,op_cat,fun H0 F H x y e e' res Q fh hh rx ry q k=>by
 obtain⟨ds,q1,q⟩:=bind_some q;obtain⟨es,q2,q⟩:=bind_some q;obtain⟨hl,qz⟩:=zba q;cases qz;obtain⟨l,vs,e,h1,h2⟩:=RepR.toLt rx fh q1;obtain⟨l',ws,e',h1',h2'⟩:=RepR.toLt ry fh q2;refine⟨l,l',vs,ws,e,e',h1,h1',by rw[h2.length,h2'.length];exact zdS hl,fun p hp=>?_⟩;exact k _ _ _ (Ex.lay fh hp) ⟨p,_,rfl,hh.free hp,zai,h2.append h2',fh.free hp⟩⟩
end
abbrev FO:=En->Option (Option Int)
def oNo:FO:=fun _=>aa ab
def oSo(fe:FE):FO:=fun δ=>((fe δ).bind iOf).map aa
def SemO(K:ag)(t:TO)(f:FO):Prop:=∀ (B:Bd) (F H:Hp) (σ:Sg) (δ:En) (o:Option Int) (Q:Option Int->Hp->Prop),RS K B F H σ δ->f δ=aa o->(∀ F' H',Ex F H F' H'->Q o H')->t σ H Q
structure VO(X:Cx)(e:Option Expr)(f:FO):Prop where
 h:∃ t,WO X e t/\SemO X.K t f
def SemL(K:ag)(r:V->Option Int->Option Int->Hp->VK->Prop)(g:Ent->Option Int->Option Int->Option Ent):Prop:=∀ (H0 F H:Hp) (x:V) (lo hi:Option Int) (e res:Ent) (Q:VK),Same F H->Same H0 H->RepR K H0 F H x e->g e lo hi=aa res ->
 (∀ v F' H',Ex F H F' H'->RepR K H0 F' H' v res->Q v H')->r x lo hi H Q
def SlD(X:Cx)(g:Ent->Option Int->Option Int->Option Ent):Prop:=∃ r,SlR X r/\SemL X.K r g
def eSl(g:Ent->Option Int->Option Int->Option Ent)(fe:FE)(fl fu:FO):FE:=fun δ=>(fe δ).bind fun x=>(fl δ).bind fun l=>(fu δ).bind fun u=>g x l u
def zfw{α:Type}(xs:List α)(lo hi:Option Int):List α:=(xs.drop (HT.sIx xs.length 0 lo)).take (HT.sIx xs.length xs.length hi - HT.sIx xs.length 0 lo)
def zh1:Ent->Option Int->Option Int->Option Ent:=fun x lo hi=>(asL x).map fun ds=>.own (zfw ds lo hi)
def Reps.cut{F:Hp}{vs:List V}{ds:List D}(r:Reps F vs ds)(lo hi:Option Int):Reps F (cutV vs lo hi) (zfw ds lo hi):=by
 unfold cutV zfw;rw[r.length];exact(r.drop _).take _
section
variable {X:Cx}{e:Expr}{lo hi:Option Expr}{fe:FE}{fl fu:FO}{pos p2:Pos}
def von:VO X ab oNo:=⟨_,won,fun B F H σ δ o Q s q k=>by cases q;exact k F H (Ex.refl s.fh)⟩
def vos(h:VE X e fe):VO X (aa e) (oSo fe):=by
 obtain⟨t,w,m⟩:=h.h;refine⟨_,wos w,fun B F H σ δ o Q s q k=>?_⟩;obtain⟨i,q1,q⟩:=map_some q;cases q;obtain⟨r,q2,q3⟩:=bind_some q1;cases zaw q3;exact m B F H σ δ _ _ s q2 fun v F1 H1 x1 r1=>⟨i,zaO r1,k F1 H1 x1⟩
def vsl{g:Ent->Option Int->Option Int->Option Ent}(hr:SlD X g)(he:VE X e fe)(hl:VO X lo fl)(hu:VO X hi fu):VE X (.Subscript e (.Slice lo hi ab p2) pos) (eSl g fe fl fu):=by
 obtain⟨t,w,m⟩:=he.h;obtain⟨t1,w1,m1⟩:=hl.h;obtain⟨t2,w2,m2⟩:=hu.h;obtain⟨rr,hr1,hr2⟩:=hr;refine⟨_,wslice hr1 w w1 w2,fun B F H σ δ res Q s q k=>?_⟩;obtain⟨x,q1,q⟩:=bind_some q;obtain⟨l,q2,q⟩:=bind_some q;obtain⟨u,q3,q⟩:=bind_some q;refine m B F H σ δ x _ s q1 fun v F1 H1 x1 r1=>?_;refine m1 B F1 H1 σ δ l _ (s.ext x1) q2 fun F2 H2 x2=>?_;refine m2 B F2 H2 σ δ u _ ((s.ext x1).ext x2) q3 fun F3 H3 x3=>?_;have xx:=(x1.trans x2).trans x3;exact hr2 H F3 H3 v l u x res Q xx.fh xx.hh ((r1.ext x2).ext x3) q fun v' F' H' x4 r4=>k v' F' H' (xx.trans x4) r4
def zik:SlD X zh1:=⟨_,sl_list,fun H0 F H x lo hi e res Q fh hh rx q k=>by
 obtain⟨ds,q1,q⟩:=map_some q;cases q;obtain⟨l,vs,e,h1,h2⟩:=RepR.toL rx fh q1;exact⟨l,vs,e,h1,fun p hp=>k _ _ _ (Ex.lay fh hp) ⟨p,_,rfl,hh.free hp,zai,h2.cut lo hi,fh.free hp⟩⟩⟩
end
def zbJ:List Ent->Option Ent
 | [x]=>match ze4 x with
  | some ds=>aa (.val (.int ds.length))
  | none=>(asL x).map fun ds=>.val (.int ds.length)
 | _=>ab
noncomputable def zdM:List Ent->Option Ent
 | [x]=>(sOf x).bind fun z=>gif (sz z.length) (aa (.val (.int z.length)))
 | _=>ab
def zdb:List Ent->Option Ent
 | [x]=>match ze4 x with
  | some ds=>aa (.own ds)
  | none=>(asL x).map fun ds=>.own ds
 | _=>ab
def zep:List Ent->Option Ent
 | [x]=>(asL x).map fun ds=>.val (.tup ds)
 | _=>ab
def zdf:List Ent->Option Ent
 | [.val (.int i)]=>aa (.val (.int i))
 | [.val (.bl b)]=>aa (.val (.int (if b then 1 else 0)))
 | _=>ab
def zcK{K:ag}{H0 F H:Hp}{vs:List V}{x:Ent}(r:RepRs K H0 F H vs [x]):∃ v,vs=[v]/\RepR K H0 F H v x:=by
 cases r with
 | cons h t=>cases t;exact⟨_,rfl,h⟩
def zes{g:List Ent->Option Ent}{es:List Ent}{res:Ent}(h0:g []=ab)(h2:∀ a b r,g (a :: b :: r)=ab)(q:g es=aa res):∃ x,es=[x]:=by
 match es,q with
 | [],q=>rw[h0] at q;cases q
 | [x],_=>exact⟨x,rfl⟩
 | a :: b :: r,q=>rw[h2] at q;cases q
def RepR.seq{K:ag}{H0 F H:Hp}{v:V}{x:Ent}{ds:List D}(r:RepR K H0 F H v x)(fh:Same F H)(q:ze4 x=aa ds \/ asL x=aa ds):∃ l vs,v=.ref l/\(SqL K H l vs \/ SqT K H l vs)/\Reps F vs ds:=by
 rcases q with q | q
 ·cases zdw q;cases (show Rep F v (.tup ds) from r) with
  | tup e rs=>exact⟨_,_,rfl,.inr (SqT.of (fh _ _ e)),rs⟩
 ·obtain⟨l,vs,e,h1,h2⟩:=RepR.toL r fh q;exact⟨l,vs,e,.inl h1,h2⟩
section
variable {X:Cx}
def zd2:zea X (.builtin "len") zbJ:=⟨_,zgJ,fun H0 F H vs es res Q fh hh r q k=>by
 obtain⟨x,rfl⟩:=zes rfl (fun _ _ _=>rfl) q;obtain⟨v,rfl,rz⟩:=zcK r;have go:∀ ds,(ze4 x=aa ds \/ asL x=aa ds)->res=.val (.int ds.length)->∃ p ys,[v]=[V.ref p]/\(SqL X.K H p ys \/ SqT X.K H p ys)/\Q (.int ys.length) H:=fun ds h e=>by
  obtain⟨l,ws,e',h1,h2⟩:=RepR.seq rz fh h;subst e e';exact⟨l,ws,rfl,h1,by rw[h2.length];exact k _ F H (Ex.refl fh) (.int _)⟩
 simp only[zbJ] at q;split at q
 ·rename_i ds h;exact go ds (.inl h) (aM q).symm
 ·obtain⟨ds,h,q⟩:=map_some q;exact go ds (.inr h) q.symm⟩
def zg0:zea X (.builtin "len") zdM:=⟨_,zgH,fun H0 F H vs es res Q fh hh r q k=>by
 obtain⟨x,rfl⟩:=zes rfl (fun _ _ _=>rfl) q;obtain⟨v,rfl,rz⟩:=zcK r;obtain⟨z,q1,q⟩:=bind_some q;obtain⟨hl,qz⟩:=zba q;cases qz;cases zbB q1;cases zb0 rz;exact⟨z,rfl,zdS hl,k _ F H (Ex.refl fh) (.int _)⟩⟩
def zeS:zea X (.type "list") zdb:=⟨_,zgq,fun H0 F H vs es res Q fh hh r q k=>by
 obtain⟨x,rfl⟩:=zes rfl (fun _ _ _=>rfl) q;obtain⟨v,rfl,rz⟩:=zcK r;have go:∀ ds,(ze4 x=aa ds \/ asL x=aa ds)->res=.own ds->∃ p ys,[v]=[V.ref p]/\(SqL X.K H p ys \/ SqT X.K H p ys)/\∀ l,H l=ab->Q (.ref l) (upd H l (.lst ys)):=fun ds h e=>by
  obtain⟨l,ws,e',h1,h2⟩:=RepR.seq rz fh h;subst e e';exact⟨l,ws,rfl,h1,fun p hp=>k _ _ _ (Ex.lay fh hp) ⟨p,_,rfl,hh.free hp,zai,h2,fh.free hp⟩⟩
 simp only[zdb] at q;split at q
 ·rename_i ds h;exact go ds (.inl h) (aM q).symm
 ·obtain⟨ds,h,q⟩:=map_some q;exact go ds (.inr h) q.symm⟩
def zeM:zea X (.type "tuple") zep:=⟨_,zfK,fun H0 F H vs es res Q fh hh r q k=>by
 obtain⟨x,rfl⟩:=zes rfl (fun _ _ _=>rfl) q;obtain⟨v,rfl,rz⟩:=zcK r;obtain⟨ds,q1,q⟩:=map_some q;cases q;obtain⟨l,ws,e',h1,h2⟩:=RepR.toL rz fh q1;subst e';exact⟨l,ws,rfl,.inl ⟨h1,fun p hp=>k _ _ _ (Ex.alloc fh hp) (.tup zai (h2.mono (Same.alloc (fh.free hp))))⟩⟩⟩
def zhT:zea X (.type "int") zdf:=⟨_,call_int1,fun H0 F H vs es res Q fh hh r q k=>by
 unfold zdf at q;split at q
 ·cases q;obtain⟨v,rfl,rz⟩:=zcK r;cases zaO rz;exact .inl ⟨_,rfl,k _ F H (Ex.refl fh) (.int _)⟩
 ·cases q;obtain⟨v,rfl,rz⟩:=zcK r;cases zhO rz;exact .inr ⟨_,rfl,k _ F H (Ex.refl fh) (.int _)⟩
 ·cases q⟩
end
def tyN:D->String
 | .non=> "NoneType" | .bl _=> "bool" | .int _=> "int" | .str _=> "str" | .tup _=> "tuple" | .lst _=> "list" | .dic _ _=> "dict" | .ins _ _ _=> "" | .dcI _ _=> "" | .dcS _ _=> ""
def obD:D->Bool
 | .ins _ _ _=>true | .dcI _ _=>true | .dcS _ _=>true | .non=>false | .bl _=>false | .int _=>false | .str _=>false | .tup _=>false | .lst _=>false | .dic _ _=>false
def isiD(T:String)(d:D):Bool:=tyN d == T || (T == "int" && tyN d == "bool")
def gIsi(T:String):Ent->Option Ent
 | .val d=>if obD d=true then ab else aa (.val (.bl (isiD T d)))
 | _=>ab
def kit_all{K:ag}{T:String}(hT:T = "bool" \/ T = "int" \/ T = "str" \/ T = "tuple" \/ T = "list")(d:D)(h:obD d=false):hW K (.type (tyN d)) (.type T)=aa (isiD T d):=by
 rcases hT with rfl | rfl | rfl | rfl | rfl <;> cases d <;> first | (cases h;done) | kernel_rfl
def rep_ty{K:ag}{F H:Hp}{v:V}{d:D}(fh:Same F H)(r:Rep F v d)(h:obD d=false):TyOf K H v (.type (tyN d)):=by
 cases r with
 | non=>exact .non
 | bl b=>exact .bl b
 | int i=>exact .int i
 | str z=>exact .str z
 | tup e _=>exact .tup (fh _ _ e)
 | lst e _=>exact .lst (fh _ _ e)
 | dic e _ _=>exact .dK (.inr ⟨_,fh _ _ e⟩)
 | ins _ _ _=>cases h
 | dcI _ _ _ _=>cases h
 | dcS _ _ _=>cases h
section
variable {X:Cx}{a:Expr}{fa:FE}{x:Str}{p p1 pos:Pos}{T:String}{Tn:Str}
def visi(ha:VE X a fa)(hg:Gl X "isinstance")(hm:X.mg "isinstance" = ab)(hb:aS "isinstance" = aa (.builtin "isinstance"))(hgT:Gl X Tn)(hmT:X.mg Tn=ab)(hbT:aS Tn=aa (.type T))(hT:T = "bool" \/ T = "int" \/ T = "str" \/ T = "tuple" \/ T = "list" :=by decide)
  (h1:zak a=true:=by rfl) (hn:Tn ≠ "__name__" :=by decide) (hd:(Tn == ("__debug__" : Str))=false:=by decide):VE X (.Call (.Name "isinstance" p) [a,.Name Tn p1] [] pos) (ex1 (gIsi T) fa):=by
 obtain⟨t,w,m⟩:=ha.h;refine⟨_,wcb call_isi hg hm hb (wac w (wac (wbt hgT hmT hbT hn hd) wnil) h1) (h1:=h1),fun B F H σ δ res Q s q k=>?_⟩;obtain⟨e,q1,q⟩:=bind_some q;cases e with
 | val d=>
  have q':(if obD d=true then ab else aa (Ent.val (.bl (isiD T d))))=aa res:=q;cases ho:obD d with
  | true=>rw[if_pos ho] at q';cases q'
  | false=>
   rw[if_neg (by rw[ho];exact aQ)] at q';cases q';exact m B F H σ δ _ _ s q1 fun v F1 H1 x1 r1=>⟨v,T,_,_,rfl,rep_ty x1.fh r1 ho,kit_all hT d ho,k _ F1 H1 x1 (.bl _)⟩
 | _=>cases q
end
def iL(fe:FE):FI:=fun δ=>(fe δ).bind fun x=>match x with
 | .val (.lst ds)=>aa ds
 | .own ds=>aa ds
 | _=>ab
def iB(i:Nat):FI:=fun δ=>match δ[i]? with
 | some (aa (.bor ds))=>aa ds
 | _=>ab
def iT(fe:FE):FI:=fun δ=>(fe δ).bind ze4
def b62(j:Int):Prop:=-(2 ^ 62)<=j/\j<2 ^ 62
def zcM{j:Int}(h:-1000000000<j/\j<1000000000):b62 j:=by unfold b62;lia
def zdG{j:Int}(h:-1000000000<j/\j<1000000000):b62 j=True:=eq_true (zcM h)
noncomputable def iR1(fa:FA):FI:=fun δ=>(fa δ).bind fun es=>match es with
 | [e]=>(iOf e).bind fun j=>gif (b62 j) (aa ((ax j.toNat).map fun(i:Nat)=>D.int (0+i)))
 | _=>ab
noncomputable def iR2(fa:FA):FI:=fun δ=>(fa δ).bind fun es=>match es with
 | [e,e']=>(iOf e).bind fun i=>(iOf e').bind fun j=>gif (b62 i/\b62 j) (aa ((ax (j - i).toNat).map fun(k:Nat)=>D.int (i+k)))
 | _=>ab
def zd7{K:ag}{B F0:Hp}{a:af}{vs:List V}{ds:List D}(h:∀ F H,Same F0 F->Same F H->Same B H->SqL K H a vs)(r:Reps F0 vs ds):ItOk B F0 (Itl K a) ds:=fun F H s1 s2 s3=>by
 have hq:=h F H s1 s2 s3;refine⟨⟨vs,hq,by rw[r.length];exact au _⟩,fun i d e=>?_⟩;obtain⟨v,h1,h2⟩:=r.get e;refine⟨⟨vs,v,hq,h1⟩,fun x H' y=>?_⟩;obtain⟨e',y⟩:=y;subst e';have:=y vs hq;rw[h1] at this;cases this;exact⟨F,Ex.refl s2,Rep.mono s1 h2⟩
def itOk_tup{K:ag}{B F0:Hp}{a:af}{vs:List V}{ds:List D}(h:F0 a=aa (.tup vs))(r:Reps F0 vs ds):ItOk B F0 (Itt K a) ds:=fun F H s1 s2 s3=>by
 have hq:SqT K H a vs:=SqT.of (s2 _ _ (s1 _ _ h));refine⟨⟨vs,hq,by rw[r.length];exact au _⟩,fun i d e=>?_⟩;obtain⟨v,h1,h2⟩:=r.get e;refine⟨⟨vs,v,hq,h1⟩,fun x H' y=>?_⟩;obtain⟨e',y⟩:=y;subst e';have:=y vs hq;rw[h1] at this;cases this;exact⟨F,Ex.refl s2,Rep.mono s1 h2⟩
def zhQ{B F0:Hp}{lo:Int}{n:Nat}:ItOk B F0 (Itr lo n) ((ax n).map fun(i:Nat)=>D.int (lo+i)):=fun F H s1 s2 s3=>by
 refine⟨by simp[Itr],fun i d e=>?_⟩;rw[aD] at e;by_cases hi:i<n
 ·rw[cr hi] at e;cases e;refine⟨hi,fun x H' y=>?_⟩;obtain⟨e',y⟩:=y;subst e' y;exact⟨F,Ex.refl s2,.int _⟩
 ·rw[cJ (by simp;lia)] at e;cases e
section
variable {X:Cx}{tg e b:Expr}{es:List Expr}{fe:FE}{fa:FA}{p pos:Pos}{x:Str}
def iil(h:VE X e fe):VI X tg e (iL fe):=by
 obtain⟨t,w,m⟩:=h.h;refine⟨_,il w,fun B F H σ δ ds R s q k=>?_⟩;obtain⟨r,q1,q⟩:=bind_some q;refine m B F H σ δ r _ s q1 fun v F1 H1 x1 r1=>?_;split at q
 ·cases q;cases (show Rep F1 v (.lst ds) from r1) with
  | lst e rs=>exact⟨_,rfl,⟨_,SqL.of (x1.fh _ _ e)⟩,k _ F1 H1 x1 (zd7 (fun F H s1 s2 _=>SqL.of (s2 _ _ (s1 _ _ e))) rs)⟩
 ·cases q;obtain⟨F2,x2,_,r2⟩:=RepR.frz x1 (Same.refl _) r1 rfl;cases r2 with
  | lst e rs=>exact⟨_,rfl,⟨_,SqL.of (x2.fh _ _ e)⟩,k _ F2 H1 x2 (zd7 (fun F H s1 s2 _=>SqL.of (s2 _ _ (s1 _ _ e))) rs)⟩
 ·cases q
def iib(i:Nat)(hN:X.N[i]? = aa x:=by rfl)(hv:Vis X.env.scope x:=by first | exact aK rfl | exact be (aK rfl) | exact be (be rfl))(hd:(x == ("__debug__" : Str))=false:=by decide)
  (hcd:(x == ("__classdict__" : Str))=false:=by decide):VI X tg (.Name x pos) (iB i):=by
 refine⟨_,il (wv i hN hv hd hcd),fun B F H σ δ ds R s q k=>?_⟩;unfold iB at q;split at q
 ·rename_i es e;cases q;obtain⟨v,h1,l,vs,e,h2,h3⟩:=s.ent i _ e;exact⟨v,h1,l,e,⟨vs,s.bh.seq h2⟩,k _ F H (Ex.refl s.fh) (zd7 (fun F H _ _ s3=>s3.seq h2) h3)⟩
 ·cases q
def iit(h:VE X e fe):VI X tg e (iT fe):=by
 obtain⟨t,w,m⟩:=h.h;refine⟨_,it w,fun B F H σ δ ds R s q k=>?_⟩;obtain⟨r,q1,q⟩:=bind_some q;refine m B F H σ δ r _ s q1 fun v F1 H1 x1 r1=>?_;cases zdw q;cases (show Rep F1 v (.tup ds) from r1) with
 | tup e rs=>exact⟨_,rfl,⟨_,SqT.of (x1.fh _ _ e)⟩,k _ F1 H1 x1 (itOk_tup e rs)⟩
def iir1(hg:Gl X "range")(hm:X.mg "range" = ab)(ha:VA X [e] fa)(h1:zak e=true:=by rfl):VI X tg (.Call (.Name "range" p) [e] [] pos) (iR1 fa):=by
 obtain⟨t,w,m⟩:=ha.h;refine⟨_,ir1 hg hm w h1,fun B F H σ δ ds R s q k=>?_⟩;obtain⟨es,q1,q⟩:=bind_some q;refine m B F H σ δ es _ s q1 fun vs F1 H1 x1 r1=>?_;split at q
 ·obtain⟨j,q2,q⟩:=bind_some q;obtain⟨hj,qz⟩:=zba q;cases qz;cases zaw q2;obtain⟨v,rfl,rz⟩:=zcK r1;cases zaO rz;exact⟨j,rfl,hj.1,hj.2,k _ F1 H1 x1 zhQ⟩
 ·cases q
def iir2(hg:Gl X "range")(hm:X.mg "range" = ab)(ha:VA X [e,b] fa)(h1:zak e=true:=by rfl)(h2:zak b=true:=by rfl):VI X tg (.Call (.Name "range" p) [e,b] [] pos) (iR2 fa):=by
 obtain⟨t,w,m⟩:=ha.h;refine⟨_,ir2 hg hm w h1 h2,fun B F H σ δ ds R s q k=>?_⟩;obtain⟨es,q1,q⟩:=bind_some q;refine m B F H σ δ es _ s q1 fun vs F1 H1 x1 r1=>?_;split at q
 ·obtain⟨i,q2,q⟩:=bind_some q;obtain⟨j,q3,q⟩:=bind_some q;obtain⟨hj,qz⟩:=zba q;cases qz;cases zaw q2;cases zaw q3;cases r1 with
  | cons ra rt=>
   obtain⟨w',rfl,rb⟩:=zcK rt;cases zaO ra;cases zaO rb;exact⟨i,j,rfl,⟨hj.1.1,hj.1.2,hj.2.1,hj.2.2⟩,k _ F1 H1 x1 zhQ⟩
 ·cases q
end
end L3

namespace L3
open PySem PySem.Spec PyProof.Rows L2
section
variable {prog:aN}{w:aV}{A:aX}{R:Result->ah->Prop}{I:af}{fp wr:List af}{n:Nat}{P:Nat->ae->Prop}{St:Nat->bd->Prop}{kw:List (Str × ae)}
def mloop(W:Walks prog w A.in1 I fp wr n P St)(bt:Nat->Nat->Bool)(hc:CmpOf prog w A.in1 .Lt P bt)(S:af)(hSf:S ∉ fp) :
  ∀ (k j:Nat) (s:ah) (vb:ae) (c:Nat),n - (j+1)=k->j+1<=n->St (j+1) s.heap->P (argBest bt j) vb ->
  s.heap.get? S=aa { cls:=.type "list",dict:=ab,data:=.seq #[vb,vb] c,slots:=#[]} ->
  (∀ v h' tk,P (argBest bt (n - 1)) v->(∀ b o,b ∉ wr->b ≠ S->s.heap.get? b=aa o->h'.get? b=aa o)->R (.ok (.ret v)) { s with heap:=h',toks:=tk}) ->
  codeAny (model prog w) A (.builtin "min.loop" ⟨[.ref I,.none,.ref S],kw⟩) R s:=by
 have hSw:S ∉ wr:=fun h=>hSf (W.sub _ h);have hnm:(toString "min" ++ toString ".loop" : String) = "min.loop" :=by decide
 intro k
 induction k with
 | zero=>
  intro j s vb c hk hj hst hPb hS hR;have hin:j+1=n:=by lia
  refine codeAny_builtin dF ?_;rw[bO b7 _];show ay _ A.in1 (seqItems? (.ref S) >>= _) _ _ s;refine ai (wpAny_seqItems hS rfl ?_);show ay _ A.in1 (tryCatch (pyNext (.ref I)) _ >>= _) _ _ s;refine ai (wpAny_tryCatch (W.done s _ _ (hin ▸ hst) fun h' tk hk'=>?_));have hS':=hk' S _ hSw hS;show ay _ A.in1 (updateSeq S (fun _=>#[]) >>= _) _ _ _;refine ai ?_;refine wpAny_updateSeq hS' rfl (ai (wpAny_letGo (aq ?_)));exact hR vb _ tk (by rw[<- hin];exact hPb) fun b o hbw hbS e=>(bN _ _ (ce hbS)).trans (hk' b o hbw e)
 | succ k ih=>
  intro j s vb c hk hj hst hPb hS hR;have hlt:j+1<n:=by lia
  refine codeAny_builtin dF ?_;rw[bO b7 _];show ay _ A.in1 (seqItems? (.ref S) >>= _) _ _ s;refine ai (wpAny_seqItems hS rfl ?_);show ay _ A.in1 (tryCatch (pyNext (.ref I)) _ >>= _) _ _ s;refine ai (wpAny_tryCatch (W.item (j+1) s _ _ hlt hst fun v h' tk hP hst' hk'=>?_));have hS':=hk' S _ hSw hS;show ay _ A.in1 (tryCatch (holding [v,v] (richCompare .Lt v vb >>= _)) _ >>= _) _ _ _;refine ai (wpAny_tryCatch (bU (ai (hc (j+1) (argBest bt j) v vb _ _ _ hP hPb ?_))));refine ai (bU (wpAny_truthy_bool ?_));refine ai (wpAny_letGo (aq ?_));cases hb:bt (j+1) (argBest bt j) with
  | true=>
   simp only[if_true];refine ai ?_;refine wpAny_updateSeq hS' rfl (ai (wpAny_letGo ?_));rw[hnm];refine aq ⟨plainId_quiet b7 _,ih (j+1) _ v _ (by lia) hlt (W.frame _ _ _ hst' fun b hbf o e=>?_) (by simp only[argBest,hb,if_true];exact hP) (cI _ hS' rfl) fun v' h'' tk'' hP' hk''=>?_⟩
   ·exact(bN _ _ (fun h:S=b=>hSf (by rw[h];exact hbf))).trans e
   ·exact hR v' h'' tk'' hP' fun b o hbw hbS e=>hk'' b o hbw hbS ((bN _ _ (ce hbS)).trans (hk' b o hbw e))
  | false=>
   simp only[bx,if_false];refine ai (wpAny_letGo ?_);rw[hnm];refine aq ⟨plainId_quiet b7 _,ih (j+1) _ vb c (by lia) hlt hst' (by simp only[argBest,hb,bx,if_false];exact hPb) hS' fun v' h'' tk'' hP' hk''=>?_⟩;exact hR v' h'' tk'' hP' fun b o hbw hbS e=>hk'' b o hbw hbS (hk' b o hbw e)
def mloop1(W:Walks prog w A.in1 I fp wr n P St)(bt:Nat->Nat->Bool)(hc:CmpOf prog w A.in1 .Lt P bt)(S:af)(hSf:S ∉ fp)(hn:0<n){s:ah}{c:Nat}(hst:St 0 s.heap)
  (hS:s.heap.get? S=aa { cls:=.type "list",dict:=ab,data:=.seq #[] c,slots:=#[]})
  (hR:∀ v h' tk,P (argBest bt (n - 1)) v->(∀ b o,b ∉ wr->b ≠ S->s.heap.get? b=aa o->h'.get? b=aa o)->R (.ok (.ret v)) { s with heap:=h',toks:=tk}) :
  codeAny (model prog w) A (.builtin "min.loop" ⟨[.ref I,.none,.ref S],kw⟩) R s:=by
 have hSw:S ∉ wr:=fun h=>hSf (W.sub _ h);have hnm:(toString "min" ++ toString ".loop" : String) = "min.loop" :=by decide
 refine codeAny_builtin dF ?_;rw[bO b7 _];show ay _ A.in1 (seqItems? (.ref S) >>= _) _ _ s;refine ai (wpAny_seqItems hS rfl ?_);show ay _ A.in1 (tryCatch (pyNext (.ref I)) _ >>= _) _ _ s;refine ai (wpAny_tryCatch (W.item 0 s _ _ hn hst fun v h' tk hP hst' hk'=>?_));have hS':=hk' S _ hSw hS;show ay _ A.in1 (updateSeq S (fun _=>#[v,v]) >>= _) _ _ _;refine ai ?_;refine wpAny_updateSeq hS' rfl ?_;rw[hnm];refine aq ⟨plainId_quiet b7 _,mloop W bt hc S hSf _ 0 _ v _ rfl hn (W.frame _ _ _ hst' fun b hbf o e=>?_) hP (cI _ hS' rfl) fun v' h'' tk'' hP' hk''=>?_⟩
 ·exact(bN _ _ (fun h:S=b=>hSf (by rw[h];exact hbf))).trans e
 ·exact hR v' h'' tk'' hP' fun b o hbw hbS e=>hk'' b o hbw hbS ((bN _ _ (ce hbS)).trans (hk' b o hbw e))
def mloop0{d:ae}{kn:Str}(W:Walks prog w A.in1 I fp wr n P St)(S:af)(hSf:S ∉ fp)(hn:n=0){s:ah}{c:Nat}(hst:St 0 s.heap)
  (hS:s.heap.get? S=aa { cls:=.type "list",dict:=ab,data:=.seq #[] c,slots:=#[]})
  (hR:∀ h' tk,(∀ b o,b ∉ wr->b ≠ S->s.heap.get? b=aa o->h'.get? b=aa o)->R (.ok (.ret d)) { s with heap:=h',toks:=tk}) :
  codeAny (model prog w) A (.builtin "min.loop" ⟨[.ref I,.none,.ref S],[(kn,d)]⟩) R s:=by
 refine codeAny_builtin dF ?_;rw[bO b7 _];show ay _ A.in1 (seqItems? (.ref S) >>= _) _ _ s;refine ai (wpAny_seqItems hS rfl ?_);show ay _ A.in1 (tryCatch (pyNext (.ref I)) _ >>= _) _ _ s;refine ai (wpAny_tryCatch (W.done s _ _ (hn ▸ hst) fun h' tk hk'=>?_));show ay _ A.in1 (rule _ >>= _) _ _ _;refine ai (wpAny_rule ?_);exact aq (hR h' tk fun b o hbw _ e=>hk' b o hbw e)
end
section
variable {prog:aN}{w:aV}{A:aX}{E:ae->ah->Prop}{s:ah}{l:af}{xs:Array (Int × Tok)}{d:ae}
def argsMinD(a d:ae):argsOk "min" ⟨[a],[(cS "default",d)]⟩:=by unfold argsOk;kernel_rfl
def call_minD{Q:ae->ah->Prop}(hh:A.handled=ab)(hl:s.heap.IsList l (intItems xs))
  (h1:∀ v h' tk,0<xs.size->(intItems xs)[argBest (fun i j=>decide (numAt xs i<numAt xs j)) (xs.size - 1)]? = aa v->(∀ b o,s.heap.get? b=aa o->h'.get? b=aa o)->Q v { s with heap:=h',toks:=tk})
  (h2:∀ h' tk,xs.size=0->(∀ b o,s.heap.get? b=aa o->h'.get? b=aa o)->Q d { s with heap:=h',toks:=tk}) :
  ay (model prog w) A (call (.builtin "min") [.ref l] [(cS "default",d)]) Q E s:=by
 have hnm:(toString "min" ++ toString ".loop" : String) = "min.loop" :=by decide
 refine kmb_tree PySem.F.kind_min PySem.F.plain_min PySem.F.entry_min (argsMinD _ _) ?_;show ay _ A.in1 (fQ "min" ["key","default"] 0 ⟨[],[(cS "default",d)]⟩ >>= _) _ _ s;refine ai (wpAny_of_eq (show fQ "min" ["key","default"] 0 ⟨[],[(cS "default",d)]⟩=pure [ab,aa d] from rfl) ?_);refine ai (aq ?_);refine ai (iter_intList hl fun s₂ e st hfp hlI=>?_);subst e;refine ai (wpAny_newObj_type ?_);rw[hnm];have W:=jo (prog:=prog) (w:=w) (A:=A.in1) hh s.heap.objs.size l hlI (intItems xs);have hsz:(intItems xs).size=xs.size:=by simp[intItems]
 have hSf:(s.heap.push { cls:=.type "list_iterator",data:=.fields #[.ref l,.int 0 0]}).objs.size ∉ [s.heap.objs.size,l]:=fun hm=>b8 _ (hfp _ hm);have keep:∀ h':bd,(∀ b o,b ∉ [s.heap.objs.size]->b ≠ (s.heap.push { cls:=.type "list_iterator",data:=.fields #[.ref l,.int 0 0]}).objs.size->((s.heap.push { cls:=.type "list_iterator",data:=.fields #[.ref l,.int 0 0]}).push { cls:=.type "list",data:=.seq ([]:List ae).toArray}).get? b=aa o->h'.get? b=aa o)->∀ b o,s.heap.get? b=aa o->h'.get? b=aa o:=fun h' hk b o e=>by
  refine hk b o (fun hm=>?_) (fun hb=>?_) (ak _ (ak _ e))
  ·exact absurd (aH e) (by rw[bo.mp hm];exact b8 _)
  ·have h1:=aH e;rw[bL] at hb;exact absurd h1 (by rw[hb];exact gw.mpr (cg _))
 by_cases hx:xs.size=0
 ·refine aq ⟨plainId_quiet b7 _,mloop0 W _ hSf (by rw[hsz];exact hx) (W.frame _ _ _ st fun b _ o e=>ak _ e) (aB _ rfl) fun h' tk hk=>?_⟩;exact h2 h' tk hx (keep h' hk)
 ·refine aq ⟨plainId_quiet b7 _,mloop1 W _ (CmpOf.ints_lt (numAt xs) (fun _ _=>intItems_at)) _ hSf (by lia) (W.frame _ _ _ st fun b _ o e=>ak _ e) (aB _ rfl) fun v h' tk hP hk=>?_⟩;exact h1 v h' tk (by lia) (by simpa [intItems] using hP) (keep h' hk)
end
def isI:D->Option Int
 | .int i=>aa i
 | _=>ab
def zg3:List D->Option (List Int)
 | []=>aa []
 | d :: ds=>(isI d).bind fun i=>(zg3 ds).map fun is=>i :: is
def minI:List Int->Option Int
 | []=>ab
 | i :: is=>aa (is.foldl (fun a b=>if b<a then b else a) i)
def intsD_ok{F:Hp}{vs:List V}{ds:List D}{ns:List Int}(h:Reps F vs ds)(q:zg3 ds=aa ns):vs=ns.map V.int:=by
 refine h.ind (P:=fun vs ds=>∀ ns,zg3 ds=aa ns->vs=ns.map V.int) (fun ns q=>?_) (fun {v d vs ds} r t ih ns q=>?_) ns q
 ·cases q;rfl
 ·simp only[zg3] at q;obtain⟨i,q1,q⟩:=bind_some q;obtain⟨is,q2,q⟩:=map_some q;cases q;cases d <;> cases q1;cases r;rw[aF,ih _ q2]
def zdV:∀ {ns:List Int} {us:List ae},Vals (ns.map V.int) us->∃ l:List (Int × Tok),us=l.map (fun p=>dm p.1 p.2)/\l.map (·.1)=ns
 | [],us,r=>by
  rw[bK] at r;cases r;exact⟨[],rfl,rfl⟩
 | n :: ns,us,r=>by
  rw[aF] at r;cases r with
  | cons h t=>
   obtain⟨tk,e⟩:=h;subst e;obtain⟨l,ex1,ex2⟩:=zdV t;exact⟨(n,tk) :: l,by rw[ex1];rfl,by rw[aF,ex2]⟩
def zfl(val:Nat->Int):∀ k,val (argBest (fun i j=>decide (val i<val j)) k)=((ax k).map fun i=>val (i+1)).foldl (fun a b=>if b<a then b else a) (val 0)
 | 0=>rfl
 | k+1=>by
  rw[cG,bz,List.foldl_append,<- zfl val k];have e:argBest (fun i j=>decide (val i<val j)) (k+1)=if decide (val (k+1)<val (argBest (fun i j=>decide (val i<val j)) k))=true then k+1 else argBest (fun i j=>decide (val i<val j)) k:=rfl
  rw[e];generalize argBest (fun i j=>decide (val i<val j)) k=z;simp only[decide_eq_true_eq,aF,bK,c9,List.foldl_nil];split <;> rfl
def minI_best{l:List (Int × Tok)}(hn:0<l.length):minI (l.map (·.1))=aa (numAt l.toArray (argBest (fun i j=>decide (numAt l.toArray i<numAt l.toArray j)) (l.length - 1))):=by
 cases l with
 | nil=>simp at hn
 | cons p l=>
  rw[zfl (numAt (p :: l).toArray)];show aa _=aa _;congr 1;rw[show(p :: l).length - 1=l.length by simp];have e0:numAt (p :: l).toArray 0=p.1:=by simp[numAt]
  have ex1:(ax l.length).map (fun i=>numAt (p :: l).toArray (i+1))=l.map (·.1):=by
   apply dy
   ·simp
   ·intro i h1 h2;simp at h1;simp[numAt,h1]
  rw[e0,ex1]
section
variable {X:Cx}
def zhe{pins:List (af × Obj)}{σ:L2.St}{H:Hp}{s:ah}{p:af}{ns:List Int}(I:Inv X pins σ H s)(h:SqL X.K H p (ns.map V.int)):∃ l:List (Int × Tok),s.heap.IsList p (intItems l.toArray)/\l.map (·.1)=ns:=by
 obtain⟨its,r,pl,_⟩:=I.list h;obtain⟨l,ex1,ex2⟩:=zdV r;refine⟨l,?_,ex2⟩;have:=pl.isList;rw[ex1] at this;simpa [intItems] using this
def gMinD:Ent->Ent->Option Ent:=fun x y=>(asL x).bind fun ds=>(zg3 ds).bind fun ns=>match minI ns with
 | some m=>aa (.val (.int m))
 | none=>match y with
  | .val d=>aa (.val d)
  | _=>ab
def rMinD(K:ag):R2:=fun x y H Q=>∃ (q:af) (ns:List Int),x=.ref q/\SqL K H q (ns.map V.int)/\Q (match minI ns with | some m=>.int m | none=>y) H
def vminD{a d:Expr}{fa fd:FE}{p pos kpos:Pos}(ha:VE X a fa)(hd:VE X d fd)(hg:Gl X "min")(hm:X.mg "min" = ab)(hb:aS "min" = aa (.builtin "min"))(hc:X.calm=true:=by rfl)(hs:zak a=true:=by rfl) :
  VE X (.Call (.Name "min" p) [a] [⟨aa "default",d,kpos⟩] pos) (ex2 gMinD fa fd):=by
 obtain⟨ta,wa,ma⟩:=ha.h;obtain⟨td,wd,md⟩:=hd.h;refine⟨tOp (rMinD X.K) ta td,⟨?_⟩,.op ?_ ma md⟩
 ·intro pins s σ H Q I h;refine bQ (zdd I hg hm hb ?_ (by decide) (by decide));have hA:=(wac wa wnil hs).h pos pins s σ H (fun xs H1=>match xs with | [x]=>td σ H1 fun y H2=>rMinD X.K x y H2 Q | _=>False) I h;refine kc (thn hA fun us s1 h1=>?_) (by rw[zaq hs];rfl) (by rw[zaq hs];rfl);obtain⟨vs,H1,I1,r1,q1⟩:=h1;cases r1 with
  | nil=>exact cc q1
  | cons rx rt=>
   cases rt with
   | cons _ _=>exact cc q1
   | nil=>
    have hK:=pk_cons (nm:=aa (cS "default")) (kpos:=kpos) wd.h pk_nil pos pins s1 σ H1 (fun ys H2=>match ys with | [y]=>rMinD X.K _ y H2 Q | _=>False) I1 q1;refine thn hK fun ws s2 h2=>?_;obtain⟨zs,H2,I2,r2,q2⟩:=h2;cases r2 with
    | nil=>exact cc q2
    | cons ry rt2=>
     cases rt2 with
     | cons _ _=>exact cc q2
     | nil=>
      obtain⟨q,ns,rfl,hq,q2⟩:=q2;cases rx;obtain⟨l,hl,e⟩:=zhe I2 hq;subst e;refine call_minD (I2.ok.hd hc) hl (fun v h' tk hn hv kp=>?_) fun h' tk hn kp=>?_
      ·obtain⟨t,e⟩:=intItems_at hv;subst e;rw[minI_best (by simpa using hn)] at q2;exact⟨.int _,H2,I2.kept (t':=tk) kp,⟨t,by simp⟩,q2⟩
      ·have e:l=[]:=dJ (by simpa using hn);subst e;exact⟨_,H2,I2.kept (t':=tk) kp,ry,q2⟩
 ·intro H0 F H x y e e' res Q fh hh rx ry q k;obtain⟨ds,q1,q⟩:=bind_some q;obtain⟨ns,q2,q⟩:=bind_some q;obtain⟨l,ws,el,h1,h2⟩:=RepR.toL rx fh q1;rw[intsD_ok h2 q2] at h1;refine⟨l,ns,el,h1,?_⟩;cases hm:minI ns with
  | some m=>simp only[hm] at q ⊢;cases q;exact k _ F H (Ex.refl fh) (.int _)
  | none=>
   simp only[hm] at q ⊢;cases e' with
   | val d=>cases q;exact k _ F H (Ex.refl fh) ry
   | _=>cases q
end
end L3

namespace L3
open PySem PySem.Spec PyProof.Rows L2
def sgn(z:Str):List Str:=z.cps.toList.map fun c=>⟨#[c]⟩
def zej(l:List Nat):(mkS l).cps.toList=l:=by simp[mkS]
def mkS_cps(z:Str):mkS z.cps.toList=z:=by cases z;simp[mkS]
def zb9(l:List Nat):(mkS l).length=l.length:=by simp[mkS,jj]
def clp(n:Int)(v:Option Int)(d:Int):Int:=match v with
 | none=>d
 | some i=>max 0 (min (if i<0 then i+n else i) n)
def clp_ok(n:Nat)(v:Option Int)(d:Nat):clp n v d=((HT.sIx n d v:Nat):Int):=by
 cases v with
 | none=>rfl
 | some i=>
  show max 0 (min (if i<0 then i+(n:Int) else i) n)=(((if i<0 then (i+(n:Int)).toNat else min i.toNat n:Nat)):Int)
  by_cases h:i<0
  ·rw[if_pos h,if_pos h];lia
  ·rw[if_neg h,if_neg h];lia
def strIx(lo hi:Option Int)(n:Nat):cP lo hi 1 n=cP (aa ((HT.sIx n 0 lo:Nat):Int)) (aa ((HT.sIx n n hi:Nat):Int)) 1 n:=by
 have ex1:∀ a:Nat,a<=n->max (0:Int) (min (if (a:Int)<0 then (a:Int)+n else a) n)=a:=fun a h=>by
  rw[if_neg (by lia)];lia
 unfold cP;simp only[show((1:Int) > 0)=True from by simp,if_true];rw[ex1 _ (HT.sIx_le n 0 (cm n) lo),ex1 _ (HT.sIx_le n n (au n) hi)];show sliceRange (clp n lo ((0:Nat):Int)) (clp n hi (n:Int)) 1=_;rw[clp_ok,clp_ok]
def slice_cut(x:Str)(lo hi:Option Int):jB x lo hi=mkS (zfw x.cps.toList lo hi):=by
 have hl:x.cps.toList.length=x.length:=by simp[jj]
 unfold jB zfw;rw[strIx,hl];have h1:=HT.sIx_le x.length 0 (cm _) lo;have h2:=HT.sIx_le x.length x.length (au _) hi;generalize HT.sIx x.length 0 lo=a at h1;generalize HT.sIx x.length x.length hi=b at h2;by_cases hab:a<=b
 ·rw[fC hab h2];split
  ·rename_i h;have hz:b - a=x.length:=by simpa using h
   have ha:a=0:=by lia
   subst ha;rw[ie,hz,<- hl,gD,mkS_cps]
  ·rw[<- fC hab h2,StrLaws.sliced_plain x hab h2];rfl
 ·have e:cP (aa (a:Int)) (aa (b:Int)) 1 x.length=[]:=by
   have n1:¬ ((a:Int)<0):=by lia
   have n2:¬ ((b:Int)<0):=by lia
   have ex1:max (0:Int) (min (a:Int) (x.length:Int))=a:=by lia
   have ex2:max (0:Int) (min (b:Int) (x.length:Int))=b:=by lia
   simp only[cP,n1,n2,if_false,ex1,ex2,show((1:Int) > 0)=True from by simp,if_true,sliceRange];rw[if_neg (by lia)];simp
  rw[e];split
  ·rename_i h;have hz:0=x.length:=by simpa using h
   lia
  ·rw[show b - a=0 by lia,jw];rfl
section
variable {X:Cx}
def sl_str:SlR X (fun x lo hi H Q=>∃ z,x=.str z/\z.length<=aZ/\Q (.str (mkS (zfw z.cps.toList lo hi))) H):=by
 intro pins s σ H x v vl vu lo hi sl Q I rx hs pl pu h;obtain⟨z,rfl,hz,q⟩:=h;obtain⟨t,rfl⟩:=rx;obtain⟨o,ho,hc,hd⟩:=hs;refine⟨"str",_,PySem.F.slot_str_getitem.lookup,typeIs_str _ _ _,?_⟩;have fin:∀ t' k,EP X pins σ Q (.str (jB z lo hi) t') { s with toks:=k}:=fun t' k=>⟨.str _,H,I.tok k,⟨t',rfl⟩,by rw[slice_cut];exact q⟩
 cases pl with
 | none=>
  cases pu with
  | none=>exact wpAny_getItem_str_slice (l:=ab) (u:=ab) (st:=ab) ⟨o,ho,hc,hd⟩ rfl (post_val_or_str ⟨bp (gF z _ _) hz,fin⟩)
  | int j u=>exact wpAny_getItem_str_slice (l:=ab) (u:=aa (j,u)) (st:=ab) ⟨o,ho,hc,hd⟩ rfl (post_val_or_str ⟨bp (gF z _ _) hz,fin⟩)
 | int i u=>
  cases pu with
  | none=>exact wpAny_getItem_str_slice (l:=aa (i,u)) (u:=ab) (st:=ab) ⟨o,ho,hc,hd⟩ rfl (post_val_or_str ⟨bp (gF z _ _) hz,fin⟩)
  | int j u'=>exact wpAny_getItem_str_slice (l:=aa (i,u)) (u:=aa (j,u')) (st:=ab) ⟨o,ho,hc,hd⟩ rfl (post_val_or_str ⟨bp (gF z _ _) hz,fin⟩)
noncomputable def gSlS:Ent->Option Int->Option Int->Option Ent:=fun x lo hi=>(sOf x).bind fun z=>gif (sz z.length) (aa (.val (.str (mkS (zfw z.cps.toList lo hi)))))
def l_str:SlD X gSlS:=⟨_,sl_str,fun H0 F H x lo hi e res Q fh hh rx q k=>by
 obtain⟨z,q1,q⟩:=bind_some q;obtain⟨hl,qz⟩:=zba q;cases qz;cases zbB q1;exact⟨z,zb0 rx,zdS hl,k _ F H (Ex.refl fh) (.str _)⟩⟩
def zfq{z:Str}:∀ {acc:List ae} {k:Nat},(∀ j v,acc[j]? = aa v->SignAt z (k+j) v)->Vals (((z.cps.toList.drop k).take acc.length).map fun c=>V.str ⟨#[c]⟩) acc
 | [],k,_=>by simp;exact .nil
 | v :: r,k,h=>by
  obtain⟨c,u,hc,rfl⟩:=h 0 v rfl;have hk:k<z.cps.toList.length:=by
   have:=(f6.mp hc).1;simpa using this
  rw[cF hk,aw,iC,aF];have e:z.cps.toList[k]=c:=by
   have:=f6.mp hc;simpa using this.2
  rw[e];refine .cons ⟨u,rfl⟩ (zfq (k:=k+1) fun j v hv=>?_);have:=h (j+1) v (by simpa using hv);rwa [show k+(j+1)=k+1+j by lia] at this
def vals_all{z:Str}{acc:Array ae}(h:ItemsOf (SignAt z) acc z.cps.size):Vals ((sgn z).map V.str) acc.toList:=by
 obtain⟨h1,h2⟩:=h;have:=zfq (z:=z) (acc:=acc.toList) (k:=0) (fun j v e=>by rw[ck];exact h2 j v (by simpa using e));rw[ie,show acc.toList.length=z.cps.toList.length by simpa using h1,gD] at this;unfold sgn;rw[bY];exact this
def call_tupS(hc:X.calm=true):zde X (.type "tuple") (fun xs H Q=>∃ z,xs=[.str z]/\z.length<=1000000/\∀ p,H p=ab->Q (.ref p) (upd H p (.tup ((sgn z).map V.str)))):=by
 intro pins s σ H xs us Q I r h;obtain⟨z,rfl,hz,q⟩:=h;obtain⟨u,rfl,t,rfl⟩:=zeA r;refine call_tuple_str (I.ok.hd hc) z t (fun h' tk acc kp ha=>?_) (zdS hz);have I1:=I.kept (t':=tk) kp;refine⟨.ref h'.objs.size,_,I1.laid (t':=tk) (o:=.tup ((sgn z).map V.str)) (fun b o e=>ak _ e) (au _) ⟨?_,acc.toList,vals_all ha,⟨_,aB _ rfl,rfl,0,by simp⟩⟩,rfl,q _ (I1.hok.fresh (au _))⟩;rw[al];unfold sgn;rw[al];exact zdS hz
def zeU{F:Hp}:∀ (zs:List Str),Reps F (zs.map V.str) (zs.map D.str)
 | []=>.nil
 | z :: zs=>.cons (.str z) (zeU zs)
noncomputable def gTupS:List Ent->Option Ent
 | [x]=>(sOf x).bind fun z=>gif (sz z.length) (aa (.val (.tup ((sgn z).map .str))))
 | _=>ab
def c_tupS(hc:X.calm=true:=by rfl):zea X (.type "tuple") gTupS:=⟨_,call_tupS hc,fun H0 F H vs es res Q fh hh r q k=>by
 obtain⟨x,rfl⟩:=zes rfl (fun _ _ _=>rfl) q;obtain⟨v,rfl,rz⟩:=zcK r;obtain⟨z,q1,q⟩:=bind_some q;obtain⟨hl,qz⟩:=zba q;cases qz;cases zbB q1;cases zb0 rz;exact⟨z,rfl,hl,fun p hp=>k _ _ _ (Ex.alloc fh hp) (.tup zai (zeU _))⟩⟩
end
structure MtD(X:Cx)(T:String)(name:Str)(g:Ent->List Ent->Option Ent):Prop where
 h:∃ id r,PlainAttrs T/\Slot T name id/\typeOf (.builtin id)=pure (.type "method_descriptor")/\MtR X id r /\
  (∀ (H0 F H:Hp) (x:V) (e:Ent) (es:List Ent) (res:Ent),Same F H->RepR X.K H0 F H x e->g e es=aa res->tyV X.K T x H) /\
  ∀ (H0 F H:Hp) (x:V) (vs:List V) (e:Ent) (es:List Ent) (res:Ent) (Q:VK),Same F H->Same H0 H->RepR X.K H0 F H x e->RepRs X.K H0 F H vs es->g e es=aa res->(∀ v F' H',Ex F H F' H'->RepR X.K H0 F' H' v res->Q v H')->r x vs H Q
section
variable {X:Cx}{T:String}{name:Str}{g:Ent->List Ent->Option Ent}{o e:Expr}{es:List Expr}{fo:FE}{fs:FA}{apos cpos:Pos}
end
def isS:D->Option Str
 | .str i=>aa i
 | _=>ab
def zgA:List D->Option (List Str)
 | []=>aa []
 | d :: ds=>(isS d).bind fun i=>(zgA ds).map fun is=>i :: is
def strsD_ok{F:Hp}{vs:List V}{ds:List D}{ns:List Str}(h:Reps F vs ds)(q:zgA ds=aa ns):vs=ns.map V.str:=by
 refine h.ind (P:=fun vs ds=>∀ ns,zgA ds=aa ns->vs=ns.map V.str) (fun ns q=>?_) (fun {v d vs ds} r t ih ns q=>?_) ns q
 ·cases q;rfl
 ·simp only[zgA] at q;obtain⟨i,q1,q⟩:=bind_some q;obtain⟨is,q2,q⟩:=map_some q;cases q;cases d <;> cases q1;cases r;rw[aF,ih _ q2]
def zd9:∀ {ns:List Str} {us:List ae},Vals (ns.map V.str) us->StrsAre us ns
 | [],us,r=>by rw[bK] at r;cases r;exact .nil
 | n :: ns,us,r=>by
  rw[aF] at r;cases r with
  | cons h t=>
   obtain⟨tk,e⟩:=h;subst e;exact .cons n tk (zd9 t)
section
variable {X:Cx}
end
end L3

namespace L3
open PySem PySem.Spec PyProof.Rows L2
def lenS{α:Type}{us:List α}{n:Nat}(h:us.length=n+1):∃ a t,us=a :: t/\t.length=n:=by
 cases us with
 | nil=>cases h
 | cons a t=>exact⟨a,t,rfl,iO h⟩
def len1{α:Type}{us:List α}(h:us.length=1):∃ a0,us=[a0]:=by
 obtain⟨a,t,rfl,h2⟩:=lenS h;cases dJ h2;exact⟨a,rfl⟩
def zhy{α:Type}{us:List α}(h:us.length=2):∃ a0 a1,us=[a0,a1]:=by
 obtain⟨a0,t,rfl,h2⟩:=lenS h;obtain⟨a1,rfl⟩:=len1 h2;exact⟨a0,a1,rfl⟩
def len3{α:Type}{us:List α}(h:us.length=3):∃ a0 a1 a2,us=[a0,a1,a2]:=by
 obtain⟨a0,t,rfl,h2⟩:=lenS h;obtain⟨a1,a2,rfl⟩:=zhy h2;exact⟨a0,a1,a2,rfl⟩
def len4{α:Type}{us:List α}(h:us.length=4):∃ a0 a1 a2 a3,us=[a0,a1,a2,a3]:=by
 obtain⟨a0,t,rfl,h2⟩:=lenS h;obtain⟨a1,a2,a3,rfl⟩:=len3 h2;exact⟨a0,a1,a2,a3,rfl⟩
def len5{α:Type}{us:List α}(h:us.length=5):∃ a0 a1 a2 a3 a4,us=[a0,a1,a2,a3,a4]:=by
 obtain⟨a0,t,rfl,h2⟩:=lenS h;obtain⟨a1,a2,a3,a4,rfl⟩:=len4 h2;exact⟨a0,a1,a2,a3,a4,rfl⟩
inductive FunE(K:ag)(x qual:Str)(st:Stmt)(f:af)(fd:bw):Prop
 | mk (oc:ae) (od:Option af) (dV kV doc pm:ae) (an:Option af) (cdv ct:ae) (osl:Array (Option ae)):fd=aW x qual (zao st) (zan st) (zac st) dV kV doc pm an cdv ct->K.lookup f=aa ⟨oc,od,.func fd,osl⟩->aT K cdv qual=true->FunE K x qual st f fd
structure FunA(K:ag)(x qual:Str)(st:Stmt)(f:af)(fd:bw):Prop where
 ex:FunE K x qual st f fd
 kp:aP K (.ref f)=true
def FunA.of{K:ag}{x qual:Str}{st:Stmt}{f:af}{fd:bw}(F:Fun K x qual st f fd):FunA K x qual st f fd:=by
 obtain⟨oc,od,kV,doc,pm,an,cdv,ct,osl,e,l,c⟩:=F.ex;exact⟨⟨oc,od,.none,kV,doc,pm,an,cdv,ct,osl,e,l,c⟩,F.kp⟩
section
variable {P:aN}{w:aV}{K:ag}{mg:Str->Option ae}{base:bd}{x qual:Str}{st:Stmt}{f:af}{fd:bw}{N ps:List Str}{k:Nat}{ks:List Kd}{g:List D->Option Ent}
def zbe(F:FunA K x qual st f fd)(S:FnScope N ps (zac st))(fb:FS)(hk:ks.length=ps.length)(hg:∀ ds r,g ds=aa r->zcS ks (N.length - ps.length) fb ds=aa r)
  (hbody:∀ (cdv:ae) (A:aX) (outer:List Env) (s:ah) (H:Hp) (E:XK),Room k (A.deeper (envOfC qual (zac st) s.heap.objs.size f cdv))->VSs (cxOf CX0 P w K mg base N qual (zac st) f cdv A outer s H E).nox (zan st) fb) :
  FnOk P w K mg base CX0 (k+1) f fd ps (spD K ks g):=by
 obtain⟨oc,od,dV,kV,doc,pm,an,cdv,ct,osl,rfl,lk,hcd⟩:=F.ex;refine fn_of lk hcd S (fun vs H Q E h=>?_) fun A outer s H vs Q E hr h=>?_
 ·obtain⟨F,ds,r,_,a,_⟩:=h;rw[a.length,hk]
 ·obtain⟨F,ds,r,fh,a,q,kk⟩:=h;obtain⟨t,wt,m⟩:=(hbody cdv A outer s H E hr).h;refine⟨t,wt.h.nox,?_⟩;obtain⟨es,q1,q2⟩:=bind_some (hg ds r q);obtain⟨out,q3,q4⟩:=bind_some q2;obtain⟨hl,he⟩:=a.start q1;have hvs:=a.length;have hap:∀ (i:Nat) (e:Ent),(es ++ aJ (N.length - ps.length) ab)[i]? = aa (aa e)->es[i]? = aa (aa e):=fun i e h=>by
   by_cases hi:i<es.length
   ·rwa [cE hi] at h
   ·rw[cA (by lia),dc] at h;split at h <;> cases h
  have s0:RS K ⟨H,ab⟩ F H (L2.start N vs) (es ++ aJ (N.length - ps.length) ab):=by
   refine⟨fh,Same.refl H,?_,fun i e h=>?_,fun a b l ds e hab h1=>?_,fun a b e1 e2 v1 v2 ad hab q1 _ _ _ q5 _ _=>?_,fun w o hw _=>by cases hw⟩
   ·unfold L2.start;simp only[aC,al,cH];lia
   ·obtain⟨⟨v,h1,h2⟩,_⟩:=he i e (hap i e h);refine⟨v,?_,h2⟩;unfold L2.start;rw[cE (by rw[al];exact(a9.mp h1).1),aD,h1];rfl
   ·have:=(he a _ (hap a _ h1)).2.1;cases this
   ·obtain⟨_,_,ho⟩:=he a _ (hap a _ q1);rw[ho] at q5;cases q5
  refine m ⟨H,ab⟩ F H (L2.start N vs) _ out _ s0 q3 ?_;cases out with
  | nx δ'=>cases q4;exact fun σ' F' H' s' y=>kk .non F' H' ⟨y.ff,s'.fh,s'.bh,y.nw⟩ .non
  | rt r' δ'=>cases q4;exact fun v σ' F' H' s' y z=>kk v F' H' ⟨y.ff,s'.fh,s'.bh,y.nw⟩ z
  | bk δ'=>cases q4
  | ct δ'=>cases q4
end
def gK{α:Type}(n:Nat)(us ws:List α):List α:=if us.length=n/\ws.length=1 then us ++ ws else []
def gK_shape{α:Type}{n m:Nat}{us ws:List α}(h:(gK n us ws).length=m+1):us.length=n/\ws.length=1/\gK n us ws=us ++ ws:=by
 unfold gK at h ⊢;split at h
 ·rename_i hc;rw[if_pos hc];exact⟨hc.1,hc.2,rfl⟩
 ·cases h
def gK_rel{n:Nat}{vs:List V}{us:List ae}{zs:List V}{ws:List ae}(r:Vals vs us)(rz:Vals zs ws):Vals (gK n vs zs) (gK n us ws):=by
 unfold gK;rw[r.length,rz.length];split
 ·exact r.append rz
 ·exact .nil
structure DefD(K:ag)(mg:Str->Option ae)(x:Str)(st:Stmt)(ps:List Str)(f:af)(fd:bw):Prop where
 fn:FunA K x x st f fd
 mg:mg x=aa (.ref f)
 b:Binds K fd ps []
 b1:Binds K fd ps [.bool false]
 kb:KBinds K fd ps [ps.getLastD ""] (gK (ps.length - 1)) (gK (ps.length - 1))
def DfOk(K:ag)(df:ae):Prop:=∃ (T:af) (o:Obj) (n:Nat),df=.ref T/\K.lookup T=aa o/\o.data=.seq #[.bool false] n
section
variable {X:Cx}{es:List Expr}{e d:Expr}{fs:FA}{fk:FE}{x:Str}{p pos kpos:Pos}{ks:List Kd}{g:List D->Option Ent}
def eCallD(ks:List Kd)(g:List D->Option Ent)(fs:FA)(d:D):FE:=fun δ=>((fs δ).bind fun rs=>zbF ks (rs ++ [.val d])).bind g
def RepRs.snoc{K:ag}{H0 F H:Hp}{v:V}{e:Ent}(r:RepR K H0 F H v e):∀ {vs:List V} {es:List Ent},RepRs K H0 F H vs es->RepRs K H0 F H (vs ++ [v]) (es ++ [e])
 | _,_,.nil=>.cons r .nil
 | _,_,.cons h t=>.cons h (RepRs.snoc r t)
def vclD{CX:CXT}{k j:Nat}{f:af}{fd:bw}{ps:List Str}{st:Stmt}{E:XK}(F:FnOk X.prog X.w X.K X.mg X.base CX k f fd ps (spD X.K ks g))(D:DefD X.K X.mg x st ps f fd)(hr:Room j X.A)(hg:Gl X x)(hx:zbX CX X E)
  (ha:VA X (e :: es) fs) (hjk:k<=j:=by decide) (hdb:(x == ("__debug__" : Str))=false:=by decide) (h1:zak e=true:=by rfl) (h2:es.all zak=true:=by rfl) :
  VE X (.Call (.Name x p) (e :: es) [] pos) (eCallD ks g fs (.bl false)):=by
 obtain⟨t,w,m⟩:=ha.h;refine⟨_,⟨pe_call F (hr.mono hjk) hg D.mg D.fn.kp D.b1 (dvs:=[.bl false]) (.cons rfl .nil) hx w.h hdb (zaq h1) (zcs h2)⟩,fun B F H σ δ res Q s q k=>?_⟩;obtain⟨ds,q1,q⟩:=bind_some q;obtain⟨rs,q2,q3⟩:=bind_some q1;refine m B F H σ δ rs _ s q2 fun vs F1 H1 x1 r1=>?_;have r2:=RepRs.snoc (K:=X.K) (H0:=H) (F:=F1) (H:=H1) (v:=.bl false) (e:=.val (.bl false)) (.bl false) r1;obtain⟨F2,x2,_,a2⟩:=RepRs.args x1 (Same.refl _) r2 q3;exact⟨F2,ds,res,x2.fh,a2,q,fun v F' H' x3 r3=>k v F' H' (x2.trans x3) (r3.earlier x2.hh)⟩
end
end L3

namespace L3
open PySem L2
def zaI{f g:FS}{δ δ':En}(h:f δ=aa (.nx δ')):zaX f g δ=g δ':=by
 unfold zaX;rw[h];rfl
def fIfT{ft:FT}{f g:FS}{δ:En}(h:ft δ=aa true):fIf ft f g δ=f δ:=by unfold fIf;rw[h];rfl
def zhN{ft:FT}{f g:FS}{δ:En}(h:ft δ=aa false):fIf ft f g δ=g δ:=by unfold fIf;rw[h];rfl
def zcW{tg:FG}{f:FS}{d:D}{ds:List D}{δ δ1 δ2:En}(h1:tg d δ=aa δ1)(h2:f δ1=aa (.nx δ2)):loop tg f (d :: ds) δ=loop tg f ds δ2:=by
 show((tg d δ).bind fun δ1=>(f δ1).bind (lpO (loop tg f ds)))=_;rw[h1];show(f δ1).bind (lpO (loop tg f ds))=_;rw[h2];rfl
def zcg(I:Nat->En->Prop){tg:FG}{f:FS}:∀ (ds:List D) (k:Nat) (δ:En),
  (∀ i d δ,ds[i]? = aa d->I (k+i) δ->∃ δ1 δ2,tg d δ=aa δ1/\(f δ1=aa (.nx δ2) \/ f δ1=aa (.ct δ2))/\I (k+i+1) δ2)->I k δ ->
  ∃ δ',loop tg f ds δ=aa (.nx δ')/\I (k+ds.length) δ'
 | [],k,δ,_,h0=>⟨δ,rfl,h0⟩
 | d :: ds,k,δ,h,h0=>by
  obtain⟨δ1,δ2,h1,h2,h3⟩:=h 0 d δ rfl h0;obtain⟨s',h4,h5⟩:=zcg I ds (k+1) δ2 (fun i d' s hd hi=>by
   have:=h (i+1) d' s (by simpa using hd) (by rw[show k+(i+1)=k+1+i by lia];exact hi);rwa [show k+(i+1)=k+1+i by lia] at this) h3
  refine⟨s',?_,by rw[aw,show k+(ds.length+1)=k+1+ds.length by lia];exact h5⟩;show((tg d δ).bind fun δ1=>(f δ1).bind (lpO (loop tg f ds)))=_;rw[h1];show(f δ1).bind (lpO (loop tg f ds))=_;rcases h2 with h2 | h2
  ·rw[h2];exact h4
  ·rw[h2];exact h4
def zgQ{ft:D->Option Bool}{fe:D->Option Ent}(ds out:List D)(hl:out.length=ds.length)(h1:∀ d ∈ ds,ft d=aa true)(h2:∀ (i:Nat) (d:D),ds[i]? = aa d->∃ y,(fe d).bind asV=aa y/\out[i]? = aa y):zcO ft fe ds=aa out:=by
 induction ds generalizing out with
 | nil=>cases out with
  | nil=>rfl
  | cons _ _=>simp at hl
 | cons d ds ih=>
  cases out with
  | nil=>simp at hl
  | cons y out=>
   obtain⟨y',ex1,ex2⟩:=h2 0 d rfl;cases ex2;simp only[zcO];rw[h1 d am,ex1,ih out (by simpa using hl) (fun x hx=>h1 x (aj _ hx)) fun i x hx=>by simpa using h2 (i+1) x (by simpa using hx)];rfl
def zev{fr:List Nat}{fi:FI}{ft:FT}{fe:FE}{δ:En}{ds out:List D}(hi:fi δ=aa ds)(hc:zcO (fun d=>ft (cEn fr δ d)) (fun d=>fe (cEn fr δ d)) ds=aa out)(hl:out.length<=1000000):eLC fr fi ft fe δ=aa (.own out):=by
 unfold eLC;rw[hi];show(zcO _ _ ds).bind _=_;rw[hc];show(if out.length<=1000000 then aa (Ent.own out) else ab)=_;rw[if_pos hl]
def ixN_nat{n i:Nat}(h:i<n):ixN n (i:Int)=aa i:=by
 unfold ixN;rw[if_pos (by lia),if_pos (by lia)];simp
def atI_of{α:Type}{xs:List α}{i:Nat}{x:α}(h:xs[i]? = aa x):atI xs (i:Int)=aa x:=by
 unfold atI;rw[ixN_nat (a9.mp h).1];exact h
def zcm{α:Type}{xs:List α}{i:Int}{x:α}(h0:0<=i)(h:xs[i.toNat]? = aa x):atI xs i=aa x:=by
 obtain⟨n,rfl⟩:=em h0;exact atI_of (by simpa using h)
def zeh{α β:Type}(f:α->β)(d:α){xs:List α}{i:Int}(h0:0<=i)(h:i.toNat<xs.length):atI (xs.map f) i=aa (f (xs.getD i.toNat d)):=by
 refine zcm h0 ?_;rw[aD,aE h];simp[h]
def atI_m1{α:Type}{xs:List α}{x:α}(h:xs.getLast? = aa x):atI xs (-1)=aa x:=by
 have hne:xs ≠ []:=by rintro rfl;simp at h
 have hl:0<xs.length:=List.length_pos_iff.mpr hne;unfold atI ixN;rw[if_neg (by lia),if_pos (by lia)];show xs[(-1+(xs.length:Int)).toNat]? = _;rw[show(-1+(xs.length:Int)).toNat=xs.length - 1 by lia,<- gy];exact h
def cutG_to{α:Type}(xs:List α)(j:Nat):zfw xs ab (aa (j:Int))=xs.take j:=by
 unfold zfw;rw[HT.sIx_none,HT.sIx_nat,ie,Nat.sub_zero];by_cases h:j<=xs.length
 ·rw[jp h]
 ·rw[jb (by lia),gD,g8 (by lia)]
def cutG_from{α:Type}(xs:List α)(j:Nat):zfw xs (aa (j:Int)) ab=xs.drop j:=by
 unfold zfw;rw[HT.sIx_none,HT.sIx_nat];by_cases h:j<=xs.length
 ·rw[jp h,g8 (by rw[i9];lia)]
 ·rw[jb (by lia),dR,List.drop_eq_nil_of_le (by lia)];simp
def zdB{α:Type}(xs:List α){j:Int}(h:0<=j):zfw xs ab (aa j)=xs.take j.toNat:=by
 obtain⟨n,rfl⟩:=em h;rw[cutG_to];simp
def zja{α:Type}(xs:List α){j:Int}(h:0<=j):zfw xs (aa j) ab=xs.drop j.toNat:=by
 obtain⟨n,rfl⟩:=em h;rw[cutG_from];simp
def mkS_app(a b:List Nat):mkS a ++ mkS b=mkS (a ++ b):=by
 show(⟨a.toArray ++ b.toArray⟩:Str)=⟨(a ++ b).toArray⟩
 simp
def mkS_inj{a b:List Nat}(h:mkS a=mkS b):a=b:=by
 have:=congrArg (fun z:Str=>z.cps.toList) h;simpa [mkS] using this
def sgn_mkS(l:List Nat):sgn (mkS l)=l.map fun c=>mkS [c]:=by simp[sgn,mkS]
def strsD_map(zs:List Str):zgA (zs.map .str)=aa zs:=by
 induction zs with
 | nil=>rfl
 | cons z zs ih=>simp[zgA,isS,ih]
def intsD_map(zs:List Int):zg3 (zs.map .int)=aa zs:=by
 induction zs with
 | nil=>rfl
 | cons z zs ih=>simp[zg3,isI,ih]
end L3

namespace L3
open PySem PySem.Spec PyProof.Rows L2
def flD:D->Bool
 | .non=>true
 | .bl _=>true
 | .int _=>true
 | .str _=>true
 | _=>false
def eqF:D->D->Bool
 | .non,.non=>true
 | .bl a,.bl b=>a == b
 | .bl a,.int b=>(if a then 1 else 0) == b
 | .int a,.bl b=>a == (if b then 1 else 0)
 | .int a,.int b=>a == b
 | .str a,.str b=>a == b
 | _,_=>false
def zef(f:D->D->Option Bool):List D->List D->Option Bool
 | [],[]=>aa true
 | d :: ds,e :: es=>(f d e).bind fun b=>(zef f ds es).map fun c=>b && c
 | _,_=>aa false
def eqD:Nat->D->D->Option Bool
 | n+1,.tup a,.tup b=>zef (eqD n) a b
 | n+1,.lst a,.lst b=>zef (eqD n) a b
 | _,d,d'=>if (flD d && flD d')=true then aa (eqF d d') else ab
def zhD{F:Hp}{x y:V}{d d':D}(rx:Rep F x d)(ry:Rep F y d')(h:(flD d && flD d')=true):flatV x=true/\flatV y=true/\eqV x y=eqF d d':=by
 rw[de] at h;obtain⟨h1,h2⟩:=h;cases rx <;> first | (cases h1;done) | (cases ry <;> first | (cases h2;done) | exact⟨rfl,rfl,rfl⟩)
def zdX{f:D->D->Option Bool}:∀ {ds es:List D} {b:Bool},zef f ds es=aa b->∀ j (h1:j<ds.length) (h2:j<es.length),∃ c,f ds[j] es[j]=aa c
 | [],_,_,_,j,h1,_=>by simp at h1
 | _ :: _,[],_,_,j,_,h2=>by simp at h2
 | d :: ds,e :: es,b,q,j,h1,h2=>by
  simp only[zef] at q;obtain⟨c,q1,q⟩:=bind_some q;obtain⟨c',q2,q⟩:=map_some q;cases j with
  | zero=>exact⟨c,q1⟩
  | succ j=>
   simp only[aw] at h1 h2;exact zdX q2 j (by lia) (by lia)
def eAt(f:D->D->Option Bool)(ds es:List D)(j:Nat):Bool:=(f (ds.getD j .non) (es.getD j .non)).getD false
def zd4{f:D->D->Option Bool}:∀ {ds es:List D} {b:Bool},zef f ds es=aa b->b=((ax (min ds.length es.length)).all (eAt f ds es) && ds.length == es.length)
 | [],[],b,q=>by cases q;rfl
 | [],_ :: _,b,q=>by cases q;simp
 | _ :: _,[],b,q=>by cases q;simp
 | d :: ds,e :: es,b,q=>by
  simp only[zef] at q;obtain⟨c,q1,q⟩:=bind_some q;obtain⟨c',q2,q⟩:=map_some q;subst q;have ih:=zd4 q2;have e1:min (d :: ds).length (e :: es).length=min ds.length es.length+1:=by simp only[aw];lia
  have e2:((d :: ds).length == (e :: es).length)=(ds.length == es.length):=by simp
  have e3:eAt f (d :: ds) (e :: es) 0=c:=by unfold eAt;simp[q1]
  have e4:(eAt f (d :: ds) (e :: es)) ∘ Nat.succ=eAt f ds es:=by funext j;unfold eAt;simp
  rw[e1,e2,g9,fZ,List.all_map,e3,e4,ih,Bool.and_assoc]
def Reps.getE{F:Hp}{vs:List V}{ds:List D}(h:Reps F vs ds)(j:Nat)(h1:j<vs.length)(h2:j<ds.length):Rep F vs[j] ds[j]:=by
 obtain⟨v,e,r⟩:=h.get (aE h2);rw[aE h1] at e;cases e;exact r
def Vals.getE{vs:List V}{us:List ae}(h:Vals vs us):∀ j (h1:j<vs.length) (h2:j<us.length),RelV vs[j] us[j]:=by
 induction h with
 | nil=>intro j h;cases h
 | cons r t ih=>
  intro j h1 h2;cases j with
  | zero=>exact r
  | succ j=>exact ih j (hG h1) (hG h2)
def Reps.nil_{F:Hp}{ds:List D}(h:Reps F [] ds):ds=[]:=by cases h;rfl
def Reps.cons_{F:Hp}{v:V}{vs:List V}{ds:List D}(h:Reps F (v :: vs) ds):∃ d ds',ds=d :: ds'/\Rep F v d/\Reps F vs ds':=by cases h with | cons r t=>exact⟨_,_,rfl,r,t⟩
def zd5{F:Hp}{v:V}{d d':D}{b:Bool}(rx:Rep F v d)(ry:Rep F v d')(q:(if (flD d && flD d')=true then aa (eqF d d') else ab)=aa b):b=true:=by
 obtain⟨h,q⟩:=zeJ q;cases q;obtain⟨h1,_,h3⟩:=zhD rx ry h;rw[<- h3];cases v <;> first | (cases h1;done) | simp[eqV]
def zh5{f:D->D->Option Bool}{F:Hp}(ih:∀ {v:V} {d d':D} {b:Bool},Rep F v d->Rep F v d'->f d d'=aa b->b=true){vs:List V}{ds es:List D}{b:Bool}(h:Reps F vs ds)(h':Reps F vs es)(q:zef f ds es=aa b):b=true:=by
 refine h.ind (P:=fun vs ds=>∀ es b,Reps F vs es->zef f ds es=aa b->b=true) (fun es b h' q=>?_) (fun {v d vs ds} r _ t es b h' q=>?_) es b h' q
 ·cases h'.nil_;cases q;rfl
 ·obtain⟨d',es',rfl,r',t'⟩:=h'.cons_;simp only[zef] at q;obtain⟨c,q1,q⟩:=bind_some q;obtain⟨c',q2,q⟩:=map_some q;subst q;rw[ih r r' q1,t es' c' t' q2];rfl
def eqD_rep{F:Hp}(n:Nat):∀ {v:V} {d d':D} {b:Bool},Rep F v d->Rep F v d'->eqD n d d'=aa b->b=true:=by
 induction n with
 | zero=>intro v d d' b rx ry q;exact zd5 rx ry q
 | succ n ih=>
  intro v d d' b rx ry q;cases d with
  | tup a=>
   cases d' with
   | tup a'=>
    cases rx with
    | tup e r=>
     cases ry with
     | tup e' r'=>
      cases HO.tup.inj (aM (e.symm.trans e'));exact zh5 ih r r' q
   | _=>exact zd5 rx ry q
  | lst a=>
   cases d' with
   | lst a'=>
    cases rx with
    | lst e r=>
     cases ry with
     | lst e' r'=>
      cases HO.lst.inj (aM (e.symm.trans e'));exact zh5 ih r r' q
   | _=>exact zd5 rx ry q
  | _=>exact zd5 rx ry q
section
variable {X:Cx}{pins:List (af × Obj)}{s:ah}{σ:L2.St}{H F:Hp}
def zij(I:Inv X pins σ H s)(fh:Same F H):∀ (n:Nat) (A:aX),A.units+n<cLine->∀ {x y:V} {u v:ae} {d d':D} {b:Bool},Rep F x d->Rep F y d'->RelV x u->RelV y v->eqD n d d'=aa b->gu A s u v b
 | 0,A,hu,x,y,u,v,d,d',b,rx,ry,ru,rv,q=>by
  have q':(if (flD d && flD d')=true then aa (eqF d d') else ab)=aa b:=q;split at q'
  ·rename_i h;cases q';obtain⟨h1,h2,h3⟩:=zhD rx ry h;rw[<- h3];exact eqAt_V ru rv h1 h2
  ·cases q'
 | n+1,A,hu,x,y,u,v,d,d',b,rx,ry,ru,rv,q=>by
  have hin:A.in1.units+n<cLine:=by show A.units+1+n<cLine;lia
  have hA:A.units<cLine:=by lia
  have flat:(if (flD d && flD d')=true then aa (eqF d d') else ab)=aa b->gu A s u v b:=fun q'=>by
   split at q'
   ·rename_i h;cases q';obtain⟨h1,h2,h3⟩:=zhD rx ry h;rw[<- h3];exact eqAt_V ru rv h1 h2
   ·cases q'
  cases rx with
  | @tup a xs ds e r=>
   cases ry with
   | @tup a' ys es e' r'=>
    cases ru;cases rv;by_cases hne:a=a'
    ·subst hne;rw[eqD_rep (n+1) (.tup e r) (.tup e' r') q];exact gT _
    ·obtain⟨its,rr,ht,_⟩:=I.tuple (SqT.of (fh _ _ e));obtain⟨its',rr',ht',_⟩:=I.tuple (SqT.of (fh _ _ e'));have q':zef (eqD n) ds es=aa b:=q;have l1:=r.length;have l2:=r'.length;have l3:=rr.length;have l4:=rr'.length;have:=k9 (A:=A) (e:=eAt (eqD n) ds es) ht ht' hA fun j h1 h2=>by
      have g1:j<its.length:=by simpa using h1
      have g2:j<its'.length:=by simpa using h2
      obtain⟨c,hc⟩:=zdX q' j (by lia) (by lia);have:eAt (eqD n) ds es j=c:=by unfold eAt;simp[show j<ds.length by lia,show j<es.length by lia,hc]
      rw[this];exact zij I fh n A.in1 hin (r.getE j (by lia) (by lia)) (r'.getE j (by lia) (by lia)) (Vals.getE rr j (by lia) g1) (Vals.getE rr' j (by lia) g2) hc
     rw[zd4 q'];have e1:its.toArray.size=ds.length:=by simp;lia
     have e2:its'.toArray.size=es.length:=by simp;lia
     rw[e1,e2] at this;exact fR hne this
   | _=>exact flat q
  | @lst a xs ds e r=>
   cases ry with
   | @lst a' ys es e' r'=>
    cases ru;cases rv;by_cases hne:a=a'
    ·subst hne;rw[eqD_rep (n+1) (.lst e r) (.lst e' r') q];exact gT _
    ·obtain⟨its,rr,ht,_⟩:=I.list (SqL.of (fh _ _ e));obtain⟨its',rr',ht',_⟩:=I.list (SqL.of (fh _ _ e'));have q':zef (eqD n) ds es=aa b:=q;have l1:=r.length;have l2:=r'.length;have l3:=rr.length;have l4:=rr'.length;have e1:its.toArray.size=ds.length:=by simp;lia
     have e2:its'.toArray.size=es.length:=by simp;lia
     rw[zd4 q'];by_cases hs:ds.length=es.length
     ·have:=lj (A:=A) (e:=eAt (eqD n) ds es) ht.isList ht'.isList (by rw[e1,e2,hs]) hA fun j h1 h2=>by
       have g1:j<its.length:=by simpa using h1
       have g2:j<its'.length:=by simpa using h2
       obtain⟨c,hc⟩:=zdX q' j (by lia) (by lia);have:eAt (eqD n) ds es j=c:=by unfold eAt;simp[show j<ds.length by lia,show j<es.length by lia,hc]
       rw[this];exact zij I fh n A.in1 hin (r.getE j (by lia) (by lia)) (r'.getE j (by lia) (by lia)) (Vals.getE rr j (by lia) g1) (Vals.getE rr' j (by lia) g2) hc
      rw[e1] at this;rw[<- hs,gG,beq_self_eq_true,f7];exact fR hne this
     ·rw[beq_eq_false_iff_ne.mpr hs,fJ];exact fR hne (kf ht.isList ht'.isList (by rw[e1,e2];simpa using hs) hA)
   | _=>exact flat q
  | _=>cases ry <;> exact flat q
def rEqD(K:ag)(neg:Bool):R2:=fun x y H Q=>∃ (F:Hp) (a a':af) (xs ys:List V) (ds es:List D) (b:Bool),Same F H/\x=.ref a/\y=.ref a'/\((SqL K H a xs/\SqL K H a' ys) \/ (SqT K H a xs/\SqT K H a' ys)) /\
 Reps F xs ds/\Reps F ys es/\zef (eqD 60) ds es=aa b/\Q (.bl (if neg=true then !b else b)) H
def op_eqD{k:Nat}(hr:Room k X.A):OpR X (bu .Eq) (rEqD X.K false):=by
 intro pins s σ H x y v u Q I rx ry h;obtain⟨F,a,a',xs,ys,ds,es,b,fh,rfl,rfl,hq,r,r',q,k⟩:=h;cases rx;cases ry;have hA:X.A.units+61<cLine:=by have:=hr.un;lia
 have hin:X.A.in1.units+60<cLine:=by show X.A.units+1+60<cLine;lia
 have l1:=r.length;have l2:=r'.length;have he:∀ {its its':List ae},Vals xs its->Vals ys its'->∀ j (h1:j<its.toArray.size) (h2:j<its'.toArray.size),gu X.A.in1 s its.toArray[j] its'.toArray[j] (eAt (eqD 60) ds es j):=fun {its its'} rr rr' j h1 h2=>by
  have l3:=rr.length;have l4:=rr'.length;have g1:j<its.length:=by simpa using h1
  have g2:j<its'.length:=by simpa using h2
  obtain⟨c,hc⟩:=zdX q j (by lia) (by lia);have:eAt (eqD 60) ds es j=c:=by unfold eAt;simp[show j<ds.length by lia,show j<es.length by lia,hc]
  rw[this];exact zij I fh 60 X.A.in1 hin (r.getE j (by lia) (by lia)) (r'.getE j (by lia) (by lia)) (Vals.getE rr j (by lia) g1) (Vals.getE rr' j (by lia) g2) hc
 rw[zd4 q] at k;rcases hq with ⟨h1,h2⟩ | ⟨h1,h2⟩
 ·obtain⟨its,rr,ht,_⟩:=I.list h1;obtain⟨its',rr',ht',_⟩:=I.list h2;have l3:=rr.length;have l4:=rr'.length;have e1:its.toArray.size=ds.length:=by simp;lia
  have e2:its'.toArray.size=es.length:=by simp;lia
  by_cases hs:ds.length=es.length
  ·refine SeqAt.eq_listAt (e:=eAt (eqD 60) ds es) ht.isList ht'.isList (by rw[e1,e2,hs]) (by lia) (he rr rr') ⟨.bl _,H,I,rfl,?_⟩;rw[e1];rw[<- hs,gG,beq_self_eq_true,f7] at k;exact k
  ·refine SeqAt.eq_list_lengthsAt ht.isList ht'.isList (by rw[e1,e2];simpa using hs) (by lia) ⟨.bl _,H,I,rfl,?_⟩;rw[beq_eq_false_iff_ne.mpr hs,fJ] at k;exact k
 ·obtain⟨its,rr,ht,_⟩:=I.tuple h1;obtain⟨its',rr',ht',_⟩:=I.tuple h2;have l3:=rr.length;have l4:=rr'.length;have e1:its.toArray.size=ds.length:=by simp;lia
  have e2:its'.toArray.size=es.length:=by simp;lia
  refine SeqAt.eq_tupleAt (e:=eAt (eqD 60) ds es) ht ht' (by lia) (he rr rr') ⟨.bl _,H,I,rfl,?_⟩;rw[e1,e2];exact k
def op_neD{k:Nat}(hr:Room k X.A):OpR X (bu .NotEq) (rEqD X.K true):=by
 intro pins s σ H x y v u Q I rx ry h;obtain⟨F,a,a',xs,ys,ds,es,b,fh,rfl,rfl,hq,r,r',q,k⟩:=h;cases rx;cases ry;have hA:X.A.units+61<cLine:=by have:=hr.un;lia
 have hin:X.A.in1.units+60<cLine:=by show X.A.units+1+60<cLine;lia
 have l1:=r.length;have l2:=r'.length;have he:∀ {its its':List ae},Vals xs its->Vals ys its'->∀ j (h1:j<its.toArray.size) (h2:j<its'.toArray.size),gu X.A.in1 s its.toArray[j] its'.toArray[j] (eAt (eqD 60) ds es j):=fun {its its'} rr rr' j h1 h2=>by
  have l3:=rr.length;have l4:=rr'.length;have g1:j<its.length:=by simpa using h1
  have g2:j<its'.length:=by simpa using h2
  obtain⟨c,hc⟩:=zdX q j (by lia) (by lia);have:eAt (eqD 60) ds es j=c:=by unfold eAt;simp[show j<ds.length by lia,show j<es.length by lia,hc]
  rw[this];exact zij I fh 60 X.A.in1 hin (r.getE j (by lia) (by lia)) (r'.getE j (by lia) (by lia)) (Vals.getE rr j (by lia) g1) (Vals.getE rr' j (by lia) g2) hc
 rw[zd4 q] at k;rcases hq with ⟨h1,h2⟩ | ⟨h1,h2⟩
 ·obtain⟨its,rr,ht,_⟩:=I.list h1;obtain⟨its',rr',ht',_⟩:=I.list h2;have l3:=rr.length;have l4:=rr'.length;have e1:its.toArray.size=ds.length:=by simp;lia
  have e2:its'.toArray.size=es.length:=by simp;lia
  by_cases hs:ds.length=es.length
  ·refine k6 (e:=eAt (eqD 60) ds es) ht.isList ht'.isList (by rw[e1,e2,hs]) (by lia) (he rr rr') _ _ _ _ ⟨.bl _,H,I,rfl,?_⟩;rw[e1];rw[<- hs,gG,beq_self_eq_true,f7] at k;exact k
  ·refine jH ht.isList ht'.isList (by rw[e1,e2];simpa using hs) (by lia) _ _ _ _ ⟨.bl _,H,I,rfl,?_⟩;rw[beq_eq_false_iff_ne.mpr hs,fJ] at k;exact k
 ·obtain⟨its,rr,ht,_⟩:=I.tuple h1;obtain⟨its',rr',ht',_⟩:=I.tuple h2;have l3:=rr.length;have l4:=rr'.length;have e1:its.toArray.size=ds.length:=by simp;lia
  have e2:its'.toArray.size=es.length:=by simp;lia
  refine kW (e:=eAt (eqD 60) ds es) ht ht' (by lia) (he rr rr') _ _ _ _ ⟨.bl _,H,I,rfl,?_⟩;rw[e1,e2];exact k
def sqOf(x y:Ent):Option (List D × List D):=match asL x,asL y with
 | some ds,aa es=>aa (ds,es)
 | _,_=>match ze4 x,ze4 y with
  | some ds,aa es=>aa (ds,es)
  | _,_=>ab
def zgD:Ent->Ent->Option Ent:=fun x y=>(sqOf x y).bind fun p=>(zef (eqD 60) p.1 p.2).map fun b=>.val (.bl b)
def gNeD:Ent->Ent->Option Ent:=fun x y=>(sqOf x y).bind fun p=>(zef (eqD 60) p.1 p.2).map fun b=>.val (.bl (!b))
def sqOf_ok{K:ag}{H0 F H:Hp}{x y:V}{e e':Ent}{p:List D × List D}(fh:Same F H)(rx:RepR K H0 F H x e)(ry:RepR K H0 F H y e')(q:sqOf e e'=aa p) :
  ∃ (a a':af) (xs ys:List V),x=.ref a/\y=.ref a'/\((SqL K H a xs/\SqL K H a' ys) \/ (SqT K H a xs/\SqT K H a' ys))/\Reps F xs p.1/\Reps F ys p.2:=by
 unfold sqOf at q;split at q
 ·rename_i ds es h1 h2;cases q;obtain⟨l,vs,e1,s1,r1⟩:=rx.toL fh h1;obtain⟨l',vs',e2,s2,r2⟩:=ry.toL fh h2;exact⟨l,l',vs,vs',e1,e2,.inl ⟨s1,s2⟩,r1,r2⟩
 ·split at q
  ·rename_i ds es h1 h2;cases q;cases zdw h1;cases zdw h2;cases (show Rep F x (.tup _) from rx) with
   | tup e r=>
    cases (show Rep F y (.tup _) from ry) with
    | tup e' r'=>exact⟨_,_,_,_,rfl,rfl,.inr ⟨SqT.of (fh _ _ e),SqT.of (fh _ _ e')⟩,r,r'⟩
  ·cases q
def zhc{k:Nat}(hr:Room k X.A):OpD X (bu .Eq) zgD:=⟨_,op_eqD hr,fun H0 F H x y e e' res Q fh hh rx ry q k=>by
 obtain⟨p,q1,q⟩:=bind_some q;obtain⟨b,q2,q⟩:=map_some q;cases q;obtain⟨a,a',xs,ys,e1,e2,h,r,r'⟩:=sqOf_ok fh rx ry q1;exact⟨F,a,a',xs,ys,_,_,b,fh,e1,e2,h,r,r',q2,k _ F H (Ex.refl fh) (.bl _)⟩⟩
def o_neD{k:Nat}(hr:Room k X.A):OpD X (bu .NotEq) gNeD:=⟨_,op_neD hr,fun H0 F H x y e e' res Q fh hh rx ry q k=>by
 obtain⟨p,q1,q⟩:=bind_some q;obtain⟨b,q2,q⟩:=map_some q;cases q;obtain⟨a,a',xs,ys,e1,e2,h,r,r'⟩:=sqOf_ok fh rx ry q1;exact⟨F,a,a',xs,ys,_,_,b,fh,e1,e2,h,r,r',q2,k _ F H (Ex.refl fh) (.bl _)⟩⟩
end
end L3

namespace L2
open PySem PySem.Spec PyProof.Rows
end L2
namespace L3
open PySem PySem.Spec PyProof.Rows L2
end L3
namespace L2
open PySem PySem.Spec PyProof.Rows
section
variable {prog:aN}{w:aV}{A:aX}{E:ae->ah->Prop}
end
end L2
namespace L3
open PySem PySem.Spec PyProof.Rows L2
end L3

namespace TS
open PySem
def lay_led(t:SetTable)(es:Array (Int × ae))(h:Int)(x:ae):(layNew t es h x).2.1.led=t.led/\((layNew t es h x).2.1.plain=true->t.plain=true):=by
 unfold layNew;split
 ·rename_i q;dsimp only;unfold SetTable.orStandIn;split
  ·exact⟨rfl,id⟩
  ·exact⟨rfl,fun z=>by cases z⟩
 ·exact⟨rfl,fun z=>by cases z⟩
def relay_led(t:SetTable)(es:Array (Int × ae))(n:Nat):(relayAll t es n).2.1.led=t.led/\((relayAll t es n).2.1.plain=true->t.plain=true):=by
 unfold relayAll;split
 ·rename_i t' order q;have:t'.led=t.led/\t'.plain=t.plain:=by
   unfold SetTable.relaid SetTable.laid at q;simp only[Option.bind_eq_bind,Option.bind_eq_some_iff] at q;obtain⟨o,_,q⟩:=q;cases q;exact⟨rfl,rfl⟩
  dsimp only;split
  ·exact⟨this.1,fun z=>by rw[<- this.2];exact z⟩
  ·exact⟨rfl,fun z=>by cases z⟩
 ·exact⟨rfl,fun z=>by cases z⟩
end TS
namespace TS
open PySem
def bt(w:aV):Bool:=w.params.followText "set-order"
def txt:ae->Str
 | .str z _=>z
 | _=> ""
structure IsS(w:aV)(h:bd)(a:af)(zs:List Str):Prop where
 ex:∃ (o:Obj) (es:Array (Int × ae)) (ep:Nat) (t:SetTable),h.get? a=aa o/\o.ExactSet/\o.data=.set es ep t/\(∀ e ∈ es.toList,∃ z u,e=(hashStr w z,cw z u))/\t.fits es.size=true/\t.led=!bt w/\(es.size ≠ 0->t.plain=false)/\(es.toList.map fun e=>txt e.2).Perm zs
 nd:zs.Nodup
variable {prog:aN}{w:aV}{A:aX}{E:ae->ah->Prop}{s:ah}{a:af}{zs:List Str}
def elemsS{es:List (Int × ae)}(h:∀ e ∈ es,∃ z u,e=(hashStr w z,cw z u)):ElemsOf (strKind prog w) es:=fun e he=>by
 obtain⟨z,u,rfl⟩:=h e he;exact⟨⟨z,by simp[strKind,dU],rfl⟩,rfl⟩
def freshS:IsS w (s.heap.push { cls:=.type "set",dict:=ab,data:=.set #[] 0 (.fresh 0 0 (!bt w))}) s.heap.objs.size []:=
 ⟨⟨_,#[],0,_,aB _ rfl,⟨rfl,rfl,rfl⟩,rfl,(fun e he=>by simp at he),rfl,rfl,(fun z=>absurd rfl z),.nil⟩,.nil⟩
def IsS.mono{h h':bd}(i:IsS w h a zs)(k:∀ o,h.get? a=aa o->h'.get? a=aa o):IsS w h' a zs:=
 let⟨o,es,ep,t,go,r⟩:=i.ex;⟨⟨o,es,ep,t,k o go,r⟩,i.nd⟩
def put(zs:List Str)(z:Str):List Str:=if z ∈ zs then zs else zs ++ [z]
def put_lenS(zs:List Str)(z:Str):(put zs z).length<=zs.length+1:=by unfold put;split <;> simp
def relaidS{o:Obj}{es:Array (Int × ae)}{ep:Nat}{t:SetTable}{h:bd}(go:h.get? a=aa o)(gx:o.ExactSet)(gd:o.data=.set es ep t){es':Array (Int × ae)}{t':SetTable}
  (ge:∀ e ∈ es'.toList,∃ z u,e=(hashStr w z,cw z u)) (gf:t'.fits es'.size=true) (gl:t'.led=!bt w) (gp:t'.plain=false) (gm:(es'.toList.map fun e=>txt e.2).Perm zs) (nd:zs.Nodup) :
  (h.update a (im es' t')).get? a=aa { o with data:=.set es' (ep+1) t'}/\IsS w (h.update a (im es' t')) a zs:=by
 have g:=cI (im es' t') go (by rw[putSet_of es' t' gd];rfl);rw[putSet_of es' t' gd] at g;exact⟨g,⟨_,es',ep+1,t',g,gx,rfl,ge,gf,gl,fun _=>gp,gm⟩,nd⟩
def tailS{g:Bool->Sem Unit}(hg:∀ (b:Bool) (s₁:ah) (R:Unit->ah->Prop),R () s₁->ay (model prog w) A (g b) R E s₁){o:Obj}{es es1:Array (Int × ae)}{ep n:Nat}{t t2:SetTable}{c x:Bool}{R:Option Bool->ah->Prop}
  (go:s.heap.get? a=aa o) (gx:o.ExactSet) (gd:o.data=.set es ep t) (ge:∀ e ∈ es1.toList,∃ z u,e=(hashStr w z,cw z u)) (gf:t2.fits es1.size=true) (gl:t2.led=!bt w) (gp:t2.plain=false)
  (gm:(es1.toList.map fun e=>txt e.2).Perm zs) (nd:zs.Nodup) (hz:es1.size<scanBound) (k:∀ h',d4 a s.heap h'->IsS w h' a zs->R (aa true) { s with heap:=h'}) :
  ay (model prog w) A (do
   storeSet a es1 t2
   if c=true then do
    g x
    storeSet a (relayAll t2 es1 n).1 (relayAll t2 es1 n).2.1
    pure (aa true)
   else pure (aa true)) R E s:=by
 have up:=iE s.heap a (im es1 t2);refine ai (wpAny_storeSet_of go gd ?_ (fits_of_scanBound hz));obtain⟨g1,i1⟩:=relaidS (w:=w) go gx gd ge gf gl gp gm nd;split
 ·refine ai (hg _ _ _ ?_);have r1:=relayAll_perm t2 es1 n;have r2:=relayAll_fits t2 es1 n;have r3:=relay_led t2 es1 n;generalize relayAll t2 es1 n=L at r1 r2 r3 ⊢;obtain⟨es2,t3,gv⟩:=L;dsimp only at r1 r2 r3 ⊢;have rs:es2.size=es1.size:=by have:=r1.length_eq;simpa using this
  refine ai (wpAny_storeSet_of g1 rfl ?_ (fits_of_scanBound (by lia)));obtain⟨_,i2⟩:=relaidS (w:=w) (zs:=zs) g1 gx rfl (es':=es2) (t':=t3) (fun e he=>ge e (r1.mem_iff.mp he)) r2 (r3.1.trans gl) (by
   cases hp:t3.plain with
   | false=>rfl
   | true=>rw[r3.2 hp] at gp;cases gp) ((r1.map _).trans gm) nd
  exact aq (k _ (up.trans (iE ..)) i2)
 ·exact aq (k _ up i1)
def addSS{z:Str}{u:Tok}{Q:Bool->ah->Prop}(i:IsS w s.heap a zs)(hz:zs.length+1<scanBound)
  (k:∀ b h',d4 a s.heap h'->IsS w h' a (put zs z)->Q b { s with heap:=h'}):ay (model prog w) A (setAddHashed a (.str z u) (hashStr w z)) Q E s:=by
 obtain⟨o,es,ep,t,go,gx,gd,ge,gf,gl,gp,gm⟩:=i.ex;have gE:=elemsS (prog:=prog) ge;have hk:(strKind prog w).is z (.str z u)=true:=by simp[strKind,dU]
 have sc:(cw z u).scannable=true:=rfl;have gn:es.size=zs.length:=by rw[<- gm.length_eq,al,cq]
 unfold setAddHashed setAddHashedIn;refine bU (ai (wpAny_setState_of go gd gf ?_));dsimp only;rw[byScan_of (knd:=strKind prog w) sc (by lia) gE];simp only[↓reduceIte];unfold setAddByScan;refine ai (ai (wpAny_rule (ai ?_)));refine wpAny_setScan_of (knd:=strKind prog w) hk go gd gf gE ?_;cases hr:List.findIdx? (fun e=>(strKind prog w).is z e.2) es.toList with
 | some j=>
  dsimp only;obtain⟨hj,hp,_⟩:=List.findIdx?_eq_some_iff_getElem.mp hr;have hin:z ∈ zs:=by
   refine gm.mem_iff.mp (bH.mpr ⟨es.toList[j],gH hj,?_⟩);obtain⟨v,e'⟩:=iw hp;rw[e'];rfl
  refine aq (aq ?_);have:=k false s.heap (.refl ..) (by unfold put;rw[if_pos hin];exact i);exact this
 | none=>
  dsimp only;have hnot:z ∉ zs:=fun hin=>by
   obtain⟨e,he,hq⟩:=bH.mp (gm.mem_iff.mpr hin);obtain⟨y,v,rfl⟩:=ge e he;have q:=List.findIdx?_eq_none_iff.mp hr _ he;have:y=z:=hq;subst this;simp[strKind,dU] at q
  have hput:put zs z=zs ++ [z]:=if_neg hnot;rw[hput] at k;have nd:(zs ++ [z]).Nodup:=bG.mpr ⟨i.nd,by simp,fun x hx y hy=>by simp at hy;subst hy;exact fun e=>hnot (e ▸ hx)⟩;have way:∀ (b:Bool) {s₁:ah} {R:Unit->ah->Prop},R () s₁->ay (model prog w) A (match b with | true=>rule "set.scan.the-table-gave-way" | false=>pure ()) R E s₁:=fun b _ _ q=>by cases b <;> first | exact aq q | exact wpAny_rule q
  have l1:=layNew_perm t es (hashStr w z) (.str z u);have l2:=layNew_fits t es (hashStr w z) (.str z u);have l3:=lay_led t es (hashStr w z) (.str z u);show ay _ _ (match layNew t es (hashStr w z) (.str z u) with | (es,t,wasDummy,gave)=>_) _ _ _;generalize layNew t es (hashStr w z) (.str z u)=L at l1 l2 l3;obtain⟨es1,t1,wd,gv⟩:=L;dsimp only at l1 l2 l3 ⊢;have m1:∀ e ∈ es1.toList,∃ z u,e=(hashStr w z,cw z u):=fun e he=>by
   rcases bj.mp ((gg ▸ l1).mem_iff.mp he) with q | q
   ·exact ge e q
   ·rw[bo.mp q];exact⟨z,u,rfl⟩
  have m2:(es1.toList.map fun e=>txt e.2).Perm (zs ++ [z]):=by
   refine(l1.map _).trans ?_;rw[gg,bz];exact gm.append_right _
  have m3:es1.size<scanBound:=by
   have:=l1.length_eq;simp only[cq,Array.size_push] at this;lia
  refine ai ?_;refine way _ ?_;split
  ·refine ai ?_;rw[hashByValue_scannable 8 sc];refine aq ?_;refine tailS (fun b s₁ R q=>by cases b <;> first | exact aq q | exact wpAny_rule q) go gx gd m1 (SetTable.fits_plain_off l2) (l3.1.trans gl) rfl m2 nd m3 fun h' sb i'=>?_;exact aq (k true h' sb i')
  ·rename_i hpl;refine ai (aq ?_);simp only[↓reduceIte];refine tailS (fun b s₁ R q=>by cases b <;> first | exact aq q | exact wpAny_rule q) go gx gd m1 l2 (l3.1.trans gl) (by simpa using hpl) m2 nd m3 fun h' sb i'=>?_;exact aq (k true h' sb i')
end TS
namespace TS
open PySem PyProof.Rows
section
variable {prog:aN}{w:aV}{A:aX}{R:Result->ah->Prop}{I:af}{fp wr:List af}{G:Array GenState->Array GenState->Prop}{n:Nat}{P:Nat->ae->Prop}{St:Nat->ah->Prop}
def updS(W:WalksS prog w A.in1 I fp wr G n P St)(S:af)(hS:S ∉ fp)(val:Nat->Str)(hv:∀ i v,P i v->∃ t,v=.str (val i) t)(k:Nat) :
  ∀ (i:Nat) (s:ah) (zs:List Str),i+k=n->St i s->IsS w s.heap S zs->zs.length+k+1<scanBound ->
   (∀ s',Moved (S :: wr) G s s'->IsS w s'.heap S (((dG i k).map val).foldl put zs)->R (.ok (.ret .none)) s')->codeAny (model prog w) A (.builtin "set.update.loop" ⟨[.ref S,.ref I],[]⟩) R s:=by
 have nw:S ∉ wr:=fun h=>hS (W.sub _ h);have sb:∀ b ∈ wr,b ∈ S :: wr:=fun b hb=>.tail _ hb
 induction k with
 | zero=>
  intro i s zs hi st is hz kk;have e:i=n:=by lia
  subst e;refine codeAny_builtin F.entry_set_update_loop ?_;rw[bO F.plain_set_update_loop _];refine ai (m:=pyNext (.ref I)) (W.done s _ _ st fun s' mv=>?_);exact aq (kk s' (mv.mono sb) (is.mono fun o e=>mv.heap S o nw e))
 | succ k ih=>
  intro i s zs hi st is hz kk;refine codeAny_builtin F.entry_set_update_loop ?_;rw[bO F.plain_set_update_loop _];refine ai (m:=pyNext (.ref I)) (W.item i s _ _ (by lia) st fun v s' hp st' mv=>?_);obtain⟨t,rfl⟩:=hv i v hp;refine ai (m:=holding [cw (val i) t] (setAdd S (.str (val i) t))) (bU ?_);unfold setAdd;refine bU (ai (wpAny_pyHash_str ?_));refine addSS (s:={ s' with toks:=s'.toks+1}) (zs:=zs) (is.mono fun o e=>mv.heap S o nw e) (by lia) fun b h' same is'=>?_;have old:∀ b o,b ≠ S->s'.heap.get? b=aa o->h'.get? b=aa o:=fun b o hb e=>(same.2 b hb).trans e;refine aq ⟨plainId_quiet F.plain_set_update_loop _,ih (i+1) _ (put zs (val i)) (by lia) ?_ is' (by have:=put_lenS zs (val i);lia) fun s2 mv2 is2=>?_⟩
  ·exact W.frame _ s' h' _ st' (cg _) fun b hb o e=>old b o (fun q=>hS (q ▸ hb)) e
  ·refine kk s2 (kB W.gtrans ((mv.mono sb).then_heap (cg _) fun b o hb e=>old b o (fun q=>hb (q ▸ .head _)) e) mv2) ?_;rw[jc,aF,c9];exact is2
end
end TS
namespace TS
open PySem PyProof.Rows
section
variable {prog:aN}{w:aV}{A:aX}{E:ae->ah->Prop}{s:ah}
def new(w:aV):Obj:={ cls:=.type "set",dict:=ab,data:=.set #[] 0 (.fresh 0 0 (!bt w))}
def code_new(v:ae){R:ae->ah->Prop}(k:R (.ref s.heap.objs.size) { s with heap:=s.heap.push (new w)}):codeAny (model prog w) A (.call (.builtin "set.__new__") ⟨[.type "set",v],[]⟩) (wants R E) s:=by
 refine codeAny_of_tree ?_;show ay _ A.in1 (checkBuiltinCall "set.__new__" ⟨[.type "set",v],[]⟩ >>= fun _=>again (.builtin "set.__new__" ⟨[.type "set",v],[]⟩)) _ _ s;refine ai (wpAny_of_eq (F.newCall_set_1 v) (aq ⟨plainId_quiet F.plain_set_new _,?_⟩));refine codeAny_builtin F.entry_set_new ?_;rw[bO F.plain_set_new _];unfold Builtin.«set.__new__» jI;have sub:=sub_set_self;obtain⟨hp,g,d,tk,os⟩:=s;dsimp only
 wp_walk
 refine wpAny_askSetting (aq ?_);dsimp only;simp only[newObj];refine ai (wpAny_alloc (aq ?_));exact aq k
set_option maxRecDepth 100000 in
def zic{v:ae}{Q:ae->ah->Prop}{P:ah->Prop}(hh:A.handled=ab)
  (ini:∀ (B:aX),B.handled=ab->ay (model prog w) B (Builtin.«set.__init__» ⟨[.ref s.heap.objs.size,v],[]⟩) (fun f s2=>f=.done (.ret .none)/\P s2) E { s with heap:=s.heap.push (new w)})
  (k:∀ s2,P s2->Q (.ref s.heap.objs.size) s2):ay (model prog w) A (call (.type "set") [v]) Q E s:=by
 obtain⟨c,tl,mro⟩:=F.called_set.mro;have made:=F.called_set.made;have sub:=F.called_set.sub;refine wpAny_call (codeAny_of_tree ?_);show ay _ _ (callAny (.type "set") _) _ _ _;refine aq ⟨Code.quiet_builtin _ (by decide +kernel),?_⟩;refine codeAny_builtin F.entry_type_call ?_;rw[Around.under_plain (weight_type_call_type "set" [v] []) rfl];have n1:=F.called_set.notType;have n2:=F.called_set.canCreate;have n3:=F.typeCall_set_1 v
 repeat any_goals first | assumption | wp_step
 refine codeAny_mono (code_new v (E:=E) (R:=fun x s1=>x=.ref s.heap.objs.size/\s1={ s with heap:=s.heap.push (new w)}) ⟨rfl,rfl⟩) fun r s1 hr=>?_
 match r,hr with
 | .error e,hr=>exact hr
 | .ok (.ret x),hr=>
  obtain⟨rfl,rfl⟩:=hr;have g0:(s.heap.push (new w)).get? s.heap.objs.size=aa (new w):=aB _ rfl;have ty:eJ { s with heap:=s.heap.push (new w)} (.ref s.heap.objs.size) "set" :=⟨_,g0,rfl⟩
  have li:=F.called_set.init.lookup;have bi:=F.called_set.init.bind (.ref s.heap.objs.size)
  repeat any_goals first | assumption | wp_step
  refine codeAny_mono (codeAny_call_builtin (R:=wants (fun r s2=>r=.none/\P s2) E) F.called_set.init.plain F.entry_set_init (check_set_init_1 ty ?_)) fun r2 s2 hr2=>?_
  ·exact bR (ini A.in1.in1 hh) (fun f s2 q=>by obtain⟨rfl,p⟩:=q;exact⟨rfl,p⟩) fun _ _ q=>q
  ·match r2,hr2 with
   | .error e,hr2=>exact hr2
   | .ok (.ret x),hr2=>
    obtain⟨rfl,hq⟩:=hr2
    repeat any_goals first | assumption | wp_step
    exact k _ hq
end
end TS
namespace TS
open PySem PyProof.Rows
namespace Fx
def str_set:isSubtype (.type "str") (.type "set")=pure false:=by rw[isSubtype_type];kernel_rfl
def str_fro:isSubtype (.type "str") (.type "frozenset")=pure false:=by rw[isSubtype_type];kernel_rfl
end Fx
section
variable {prog:aN}{w:aV}{A:aX}{E:ae->ah->Prop}{s:ah}
structure LeftS(w:aV)(s:ah)(zs:List Str)(s2:ah):Prop where
 is:IsS w s2.heap s.heap.objs.size zs
 old:∀ b o,b<s.heap.objs.size->s.heap.get? b=aa o->s2.heap.get? b=aa o
 sh:∃ h' tk,s2={ s with heap:=h',toks:=tk}
def zhV{fp:List af}{it:Obj}{s':ah}{zs:List Str}(hf:∀ b ∈ fp,b=(s.heap.push (new w)).objs.size)(mv:Moved (s.heap.objs.size :: fp) (fun a b=>b=a) { s with heap:=(s.heap.push (new w)).push it} s')(is:IsS w s'.heap s.heap.objs.size zs):LeftS w s zs s':=by
 refine⟨is,fun b o hb e=>mv.heap b o (fun q=>?_) (ak _ (ak _ e)),?_⟩
 ·rcases az.mp q with q | q
  ·exact absurd hb (q ▸ b8 _)
  ·have:=hf b q;rw[bL] at this;exact absurd hb (gw.mpr (this ▸ cg _))
 ·obtain⟨h',g',d',tk',os'⟩:=s';have eg:g'=s.gens:=mv.gens;have ed:d'=s.drawn:=mv.drawn;have eo:os'=s.os:=mv.os;subst eg ed eo;exact⟨h',tk',rfl⟩
set_option maxRecDepth 100000 in
def ziS{l:af}{items:Array ae}{zs:List Str}(hh:A.handled=ab)(hl:s.heap.IsList l items)(hi:∀ (i:Nat) (v:ae),items[i]? = aa v->∃ t,v=cw (zs.getD i "") t)(hz:items.size+1<scanBound) :
  ay (model prog w) A (Builtin.«set.__init__» ⟨[.ref s.heap.objs.size,.ref l],[]⟩) (fun f s2=>f=.done (.ret .none)/\LeftS w s (((dG 0 items.size).map fun i=>zs.getD i "").foldl put []) s2) E { s with heap:=s.heap.push (new w)}:=by
 obtain⟨o,go,oc,m,od⟩:=id hl;obtain⟨ocls,odict,odata,oslots⟩:=o;simp only at oc od;subst oc od;have g1:(s.heap.push (new w)).get? s.heap.objs.size=aa (new w):=aB _ rfl;have g2:(s.heap.push (new w)).get? l=aa { cls:=.type "list",dict:=odict,data:=.seq items m,slots:=oslots}:=ak _ go;have b1:=F.sub_list_set;have b2:=F.sub_list_frozenset;have b3:(cU "list" == cU "dict")=false:=by decide
 have hl1:(s.heap.push (new w)).IsList l items:=⟨_,g2,rfl,m,rfl⟩
 unfold new at g1 g2 ⊢;unfold Builtin.«set.__init__» noKeywords fL;generalize hPI:pyIter=PI
 wp_walk
 subst hPI;refine wpAny_pyIter_list hl1 (ai (wpAny_runValue ?_));have ll:l<s.heap.objs.size:=aH go;have ne:l ≠ (s.heap.push (new w)).objs.size:=by rw[bL];exact aR (cD ll)
 refine updS ((jo (by simp[hh]) _ l ne items).toS) s.heap.objs.size ?_ (fun i=>zs.getD i "") hi items.size 0 _ [] (by lia) ⟨⟨_,aB _ rfl,rfl,rfl⟩,hl1.push _⟩ ?_ (by simpa using hz) fun s' mv is=>?_
 ·rw[bL];simp only[az,bW,or_false,not_or];exact⟨aR (cy _),dr ll⟩
 ·exact(freshS (w:=w) (s:=s)).mono fun o e=>ak _ e
 ·refine aq ?_;exact aq ⟨rfl,zhV (fp:=[(s.heap.push (new w)).objs.size]) (fun b hb=>bo.mp hb) mv is⟩
set_option maxRecDepth 100000 in
def init_strS{x:Str}{t:Tok}(hh:A.handled=ab)(hz:x.cps.size+1<scanBound) :
  ay (model prog w) A (Builtin.«set.__init__» ⟨[.ref s.heap.objs.size,.str x t],[]⟩) (fun f s2=>f=.done (.ret .none)/\LeftS w s (((dG 0 x.cps.size).map fun i=>(⟨#[x.cps.getD i 0]⟩:Str)).foldl put []) s2) E { s with heap:=s.heap.push (new w)}:=by
 have g1:(s.heap.push (new w)).get? s.heap.objs.size=aa (new w):=aB _ rfl;have b1:=Fx.str_set;have b2:=Fx.str_fro;have b3:(cU "str" == cU "dict")=false:=by decide
 unfold new at g1 ⊢;unfold Builtin.«set.__init__» noKeywords fL;generalize hPI:pyIter=PI
 wp_walk
 subst hPI;refine wpAny_pyIter_str fun o St W st=>ai (wpAny_runValue ?_);refine updS ((W _ (by simp[hh])).toS) s.heap.objs.size ?_ (fun i=>(⟨#[x.cps.getD i 0]⟩:Str)) ?_ x.cps.size 0 _ [] (by lia) st ?_ (by simpa using hz) fun s' mv is=>?_
 ·exact fun q=>absurd (bo.mp q) (by show s.heap.objs.size ≠ (s.heap.push (new w)).objs.size;rw[bL];exact aR (cy _))
 ·intro i v hv;obtain⟨c,u,hc,rfl⟩:=hv;exact⟨u,by simp[hc]⟩
 ·exact(freshS (w:=w) (s:=s)).mono fun o e=>ak _ e
 ·refine aq ?_;exact aq ⟨rfl,zhV (fp:=[(s.heap.push (new w)).objs.size]) (fun b hb=>bo.mp hb) mv is⟩
end
end TS
namespace TS
open PySem PyProof.Rows
def zh4{α:Type}{l:List α}{i:Nat}(h:i<l.length):(l[i] :: l.eraseIdx i).Perm l:=by
 rw[cB];refine gI.symm.trans ?_;rw[<- cF h,List.take_append_drop]
section
variable {prog:aN}{w:aV}{A:aX}{E:ae->ah->Prop}
def ch{src:Source}{n:Nat}{s:ah}{Q:Nat->ah->Prop}(hn:n ≠ 0)(k:∀ i d,i<n->Q i { s with drawn:=d}):ay (model prog w) A (choose src n) Q E s:=fun Γ p _=>by
 unfold choose;rw[Sem.wp_choose];exact⟨hn,by rw[Sem.wp_pure];exact k _ _ (kK _ (Nat.pos_of_ne_zero hn))⟩
def draw_perm{α:Type}(n:Nat):∀ (xs:List α) (s:ah) (Q:List α->ah->Prop),xs.length=n->(∀ ys d,ys.Perm xs->Q ys { s with drawn:=d})->ay (model prog w) A (drawOrder n xs) Q E s:=by
 induction n with
 | zero=>
  intro xs s Q hl k;have e:xs=[]:=ez.mp hl;subst e;exact aq (k [] s.drawn .nil)
 | succ n ih=>
  intro xs s Q hl k
  match xs,hl with
  | x :: xs,hl=>
   refine ai (m:=choose .order (x :: xs).length) (ch (by simp) fun i d hi=>?_);have e:(x :: xs)[i]? = aa (x :: xs)[i]:=aE hi;simp only[e];refine ai (ih _ _ _ (by rw[dW hi];lia) fun ys d' hp=>aq ?_);exact k _ _ ((hp.cons _).trans (zh4 hi))
end
def pick_go{α:Type}(nx:Nat->Nat)(f:Nat):∀ (k:Nat) (left:List α) (out:Array α),left.length=f->(pickOrder.go nx f k left out).toList.Perm (out.toList ++ left):=by
 induction f with
 | zero=>
  intro k left out hl;have e:left=[]:=ez.mp hl;subst e;simp[pickOrder.go]
 | succ f ih=>
  intro k left out hl;have hi:nx k % left.length<left.length:=kK _ (by lia);have e:left[nx k % left.length]? = aa left[nx k % left.length]:=aE hi;unfold pickOrder.go;simp only[e];refine(ih _ _ _ (by rw[dW hi];lia)).trans ?_;rw[gg,bF];exact(zh4 hi).append_left _
def pick_perm{α:Type}(nx:Nat->Nat)(xs:Array α):(pickOrder nx xs).toList.Perm xs.toList:=by
 have:=pick_go nx xs.size 0 xs.toList #[] (by simp);simpa [pickOrder] using this
namespace Fx
def iter_of:entryFor table "set.__iter__" = aa Builtin.«frozenset.__iter__» :=entryFor_alias (id':= "frozenset.__iter__") (by kernel_rfl) rfl (by decide +kernel) (by kernel_rfl)
def next_of:entryFor table "set_iterator.__next__" = aa Builtin.«set_iterator.__next__» :=entryFor_of_tree (by kernel_rfl)
def next_slot:Slot "set_iterator" "__next__" "set_iterator.__next__" :=.of (owner:= "set_iterator") (n:= "__next__") (by rw[typeLookup_type,builtinLookup_eq_fast];kernel_rfl) (by decide +kernel) (by decide +kernel) (by decide +kernel) (by first | exact .inl (by decide +kernel) | exact .inr (by decide +kernel)) (by rw[isSubtype_type];kernel_rfl)
def next_args(v:ae):argsOk "set_iterator.__next__" ⟨[v],[]⟩:=by unfold argsOk;kernel_rfl
end Fx
end TS
namespace TS
open PySem PyProof.Rows
def itO(f0:ae)(i:Nat)(a:af)(n ep:Nat):Obj:={ cls:=.type "set_iterator",data:=.fields #[f0,rawInt i,.ref a,rawInt n,rawInt ep]}
section
variable {prog:aN}{w:aV}{A:aX}{E:ae->ah->Prop}{s:ah}{I a:af}{o:Obj}{es:Array (Int × ae)}{ep:Nat}{t:SetTable}
def next1{i slot slot':Nat}{v:ae}{Q:Option ae->ah->Prop}(hI:s.heap.get? I=aa (itO (rawInt slot) i a es.size ep))(ho:s.heap.get? a=aa o)(hd:o.data=.set es ep t)(hf:t.fits es.size=true)
  (nx':∀ (A:aX) (E:ae->ah->Prop) (R:Option (ae × Nat)->ah->Prop),R (aa (v,slot')) s->ay (model prog w) A (setNext a slot i ep) R E s)
  (k:∀ h',h'.get? I=aa (itO (rawInt slot') (i+1) a es.size ep)->(∀ b o,b ≠ I->s.heap.get? b=aa o->h'.get? b=aa o)->Q (aa v) { s with heap:=h'}):ay (model prog w) A (pyNext (.ref I)) Q E s:=by
 have ty:s.TypeIs (.ref I) "set_iterator" :=⟨_,hI,rfl⟩
 unfold pyNext;refine ai (wpAny_attempt (wpAny_callSpecial?_slot (name:=cS "__next__") ty Fx.next_slot (wpAny_call_entry Fx.next_slot ty Fx.next_of ?_ (Fx.next_args _))));unfold Builtin.«set_iterator.__next__» slotArgs;simp only[dS,eM,bx,↓reduceIte,bind_assoc,bm,bne_self_eq_false];refine ai (aq (ai (wpAny_fieldsOf hI rfl ?_)));show ay _ _ (setEntries a >>= _) _ _ _;refine ai (wpAny_setEntries_of ho hd hf ?_);rw[if_neg (by simp)];show ay _ _ (setNext a slot i ep >>= _) _ _ _;refine ai (nx' _ _ _ ?_);refine ai (wpAny_setField_rec hI (by simp) fun h1 g1 b1=>?_);refine ai (wpAny_setField_rec (s:={ s with heap:=h1}) g1 (by simp) fun h2 g2 b2=>?_);refine aq ⟨v,rfl,aq (k h2 ?_ fun b o hb e=>?_)⟩
 ·rw[g2];rfl
 ·exact(b2.2 b hb).trans ((b1.2 b hb).trans e)
def stop{B:aX}{α:Type}(hh:B.handled=ab){R:α->ah->Prop}{E':ae->ah->Prop}(k:∀ e h',(∀ b o,s.heap.get? b=aa o->h'.get? b=aa o)->eJ { s with heap:=h'} e "StopIteration" -> E' e { s with heap:=h'}) :
  ay (model prog w) B (newExc (.type "StopIteration") [] >>= fun e=>raiseNew e) R E' s:=by
 refine ai ?_;simp only[newExc,newTuple];refine ai (wpAny_newObj_type ?_ (by size_fits));refine ai (m:=firstArgMember _ _) (wpAny_of_eq (a:=ei) (by first | rfl | (simp only[firstArgMember];rfl)) (wpAny_newObj_type ?_ (by size_fits)));simp only[raiseNew];refine ai (wpAny_handled ?_);rw[hh];refine ai (aq (wpAny_throw ?_));exact k _ _ (fun b o e=>ak _ (ak _ e)) ⟨_,aB _ rfl,rfl⟩
def end1{i slot:Nat}{Q:Option ae->ah->Prop}(hh:A.handled=ab)(hI:s.heap.get? I=aa (itO (rawInt slot) i a es.size ep))(ho:s.heap.get? a=aa o)(hd:o.data=.set es ep t)(hf:t.fits es.size=true)
  (nx:∀ (A:aX) (E:ae->ah->Prop) (R:Option (ae × Nat)->ah->Prop),R ab s->ay (model prog w) A (setNext a slot i ep) R E s)
  (k:∀ h',(∀ b o,b ≠ I->s.heap.get? b=aa o->h'.get? b=aa o)->Q ab { s with heap:=h'}):ay (model prog w) A (pyNext (.ref I)) Q E s:=by
 have ty:s.TypeIs (.ref I) "set_iterator" :=⟨_,hI,rfl⟩
 unfold pyNext;refine ai (wpAny_attempt (wpAny_callSpecial?_slot (name:=cS "__next__") ty Fx.next_slot (wpAny_call_entry Fx.next_slot ty Fx.next_of ?_ (Fx.next_args _))));unfold Builtin.«set_iterator.__next__» slotArgs;simp only[dS,eM,bx,↓reduceIte,bind_assoc,bm,bne_self_eq_false];refine ai (aq (ai (wpAny_fieldsOf hI rfl ?_)));show ay _ _ (setEntries a >>= _) _ _ _;refine ai (wpAny_setEntries_of ho hd hf ?_);rw[if_neg (by simp)];show ay _ _ (setNext a slot i ep >>= _) _ _ _;refine ai (nx _ _ _ ?_);refine ai (wpAny_setField_rec hI (by simp) fun h1 g1 b1=>?_);refine stop (B:=A.in1) (s:={ s with heap:=h1}) hh fun e h' old te=>?_;refine ai (wpAny_isInstance (b:=true) te isSubtype_stop ?_);exact aq (k h' fun b o hb e=>old b o ((b1.2 b hb).trans e))
def next2{i p:Nat}{T:af}{ps:Array ae}{hv:Int × ae}{Q:Option ae->ah->Prop}(hI:s.heap.get? I=aa (itO (.ref T) i a es.size ep))(ho:s.heap.get? a=aa o)(hd:o.data=.set es ep t)(hf:t.fits es.size=true)(hT:IsTup s.heap T ps)
  (hp:ps[i]? = aa (rawInt p)) (he:es[p]? = aa hv)
  (k:∀ h',h'.get? I=aa (itO (.ref T) (i+1) a es.size ep)->(∀ b o,b ≠ I->s.heap.get? b=aa o->h'.get? b=aa o)->Q (aa hv.2) { s with heap:=h'}):ay (model prog w) A (pyNext (.ref I)) Q E s:=by
 have ty:s.TypeIs (.ref I) "set_iterator" :=⟨_,hI,rfl⟩
 obtain⟨ot,got,_,nt,dt⟩:=hT;unfold pyNext;refine ai (wpAny_attempt (wpAny_callSpecial?_slot (name:=cS "__next__") ty Fx.next_slot (wpAny_call_entry Fx.next_slot ty Fx.next_of ?_ (Fx.next_args _))));unfold Builtin.«set_iterator.__next__» slotArgs;simp only[dS,eM,bx,↓reduceIte,bind_assoc,bm,bne_self_eq_false];refine ai (aq (ai (wpAny_fieldsOf hI rfl ?_)));show ay _ _ (setEntries a >>= _) _ _ _;refine ai (wpAny_setEntries_of ho hd hf ?_);rw[if_neg (by simp)];show ay _ _ (seqItems? (.ref T) >>= _) _ _ _;refine ai (wpAny_seqItems got dt ?_);simp only[cO,hp,rawInt];unfold setNextDrawn;refine ai (ai (wpAny_setState_of ho hd hf ?_));simp only[bne_self_eq_false,bx,↓reduceIte,he];refine aq ?_;refine ai (wpAny_setField_rec hI (by simp) fun h1 g1 b1=>?_);refine aq ⟨_,rfl,aq (k h1 ?_ fun b o hb e=>(b1.2 b hb).trans e)⟩;rw[g1];rfl
def end2{i:Nat}{T:af}{ps:Array ae}{Q:Option ae->ah->Prop}(hh:A.handled=ab)(hI:s.heap.get? I=aa (itO (.ref T) i a es.size ep))(ho:s.heap.get? a=aa o)(hd:o.data=.set es ep t)(hf:t.fits es.size=true)(hT:IsTup s.heap T ps)
  (hp:ps[i]? = ab) (k:∀ h',(∀ b o,b ≠ I->s.heap.get? b=aa o->h'.get? b=aa o)->Q ab { s with heap:=h'}):ay (model prog w) A (pyNext (.ref I)) Q E s:=by
 have ty:s.TypeIs (.ref I) "set_iterator" :=⟨_,hI,rfl⟩
 obtain⟨ot,got,_,nt,dt⟩:=hT;unfold pyNext;refine ai (wpAny_attempt (wpAny_callSpecial?_slot (name:=cS "__next__") ty Fx.next_slot (wpAny_call_entry Fx.next_slot ty Fx.next_of ?_ (Fx.next_args _))));unfold Builtin.«set_iterator.__next__» slotArgs;simp only[dS,eM,bx,↓reduceIte,bind_assoc,bm,bne_self_eq_false];refine ai (aq (ai (wpAny_fieldsOf hI rfl ?_)));show ay _ _ (setEntries a >>= _) _ _ _;refine ai (wpAny_setEntries_of ho hd hf ?_);rw[if_neg (by simp)];show ay _ _ (seqItems? (.ref T) >>= _) _ _ _;refine ai (wpAny_seqItems got dt ?_);simp only[cO,hp];refine ai (wpAny_setField_rec hI (by simp) fun h1 g1 b1=>?_);refine ai (wpAny_setField_rec (s:={ s with heap:=h1}) g1 (by simp) fun h2 g2 b2=>?_);refine stop (B:=A.in1) (s:={ s with heap:=h2}) hh fun e h' old te=>?_;refine ai (wpAny_isInstance (b:=true) te isSubtype_stop ?_);exact aq (k h' fun b o hb e=>old b o ((b2.2 b hb).trans ((b1.2 b hb).trans e)))
end
end TS
namespace TS
open PySem PyProof.Rows
namespace Fx
def self_slot:Slot "set_iterator" "__iter__" "set_iterator.__iter__" :=.of (owner:= "set_iterator") (n:= "__iter__") (by rw[typeLookup_type,builtinLookup_eq_fast];kernel_rfl) (by decide +kernel) (by decide +kernel) (by decide +kernel) (by first | exact .inl (by decide +kernel) | exact .inr (by decide +kernel)) (by rw[isSubtype_type];kernel_rfl)
def self_of:entryFor table "set_iterator.__iter__" = aa Builtin.«dict_keyiterator.__iter__» :=entryFor_alias (id':= "dict_keyiterator.__iter__") (by kernel_rfl) rfl (by decide +kernel) (by kernel_rfl)
def self_args(v:ae):argsOk "set_iterator.__iter__" ⟨[v],[]⟩:=by unfold argsOk;kernel_rfl
end Fx
section
variable {prog:aN}{w:aV}{A:aX}{E:ae->ah->Prop}{s:ah}{I a:af}{o:Obj}{es:Array (Int × ae)}{ep:Nat}{t:SetTable}
def self{f0:ae}{i n:Nat}{Q:ae->ah->Prop}(hI:s.heap.get? I=aa (itO f0 i a n ep))(k:Q (.ref I) s):ay (model prog w) A (pyIter (.ref I)) Q E s:=by
 have ty:s.TypeIs (.ref I) "set_iterator" :=⟨_,hI,rfl⟩
 refine wpAny_pyIter_slot ty Fx.self_slot (wpAny_call_entry Fx.self_slot ty Fx.self_of ?_ (Fx.self_args _));show ay _ _ (ret (.ref I)) _ _ s;exact aq ⟨_,rfl,"set_iterator",_,ty,Fx.next_slot.lookup,k⟩
def walk1(hh:A.handled=ab)(hne:a ≠ I)(hd:o.data=.set es ep t)(hf:t.fits es.size=true)(val:Nat->ae)(slots:Nat->Nat)
  (nx:∀ (i:Nat) (s:ah) (A:aX) (E:ae->ah->Prop) (R:Option (ae × Nat)->ah->Prop),i<es.size->s.heap.get? a=aa o->R (aa (val i,slots (i+1))) s->ay (model prog w) A (setNext a (slots i) i ep) R E s)
  (en:∀ (s:ah) (A:aX) (E:ae->ah->Prop) (R:Option (ae × Nat)->ah->Prop),s.heap.get? a=aa o->R ab s->ay (model prog w) A (setNext a (slots es.size) es.size ep) R E s) :
  Walks prog w A I [I,a] [I] es.size (fun i v=>v=val i) (fun i h=>h.get? I=aa (itO (rawInt (slots i)) i a es.size ep)/\h.get? a=aa o) where
 sub:=fun b hb=>by simp at hb;simp[hb]
 frame:=fun _ _ _ st kk=>⟨kk I (by simp) _ st.1,kk a (by simp) _ st.2⟩
 item:=fun i s Q E hi st k=>by
  refine next1 st.1 st.2 hd hf (fun A E R r=>nx i s A E R hi st.2 r) fun h' g old=>?_;exact k _ h' s.toks rfl ⟨g,old a o hne st.2⟩ fun b o hb e=>old b o (by simpa using hb) e
 done:=fun s Q E st k=>end1 hh st.1 st.2 hd hf (fun A E R r=>en s A E R st.2 r) fun h' old=>k h' s.toks fun b o hb e=>old b o (by simpa using hb) e
 self:=fun i s Q E st k=>self st.1 k
def walk2{T:af}{ps:Array ae}(hh:A.handled=ab)(hne:a ≠ I)(hnt:T ≠ I)(hd:o.data=.set es ep t)(hf:t.fits es.size=true)(val:Nat->ae)(pl:Nat->Nat)(hl:ps.size=es.size)
  (hp:∀ i,i<es.size->ps[i]? = aa (rawInt (pl i))/\∃ h,es[pl i]? = aa (h,val i)) :
  Walks prog w A I [I,a,T] [I] es.size (fun i v=>v=val i) (fun i h=>h.get? I=aa (itO (.ref T) i a es.size ep)/\h.get? a=aa o/\IsTup h T ps) where
 sub:=fun b hb=>by simp at hb;simp[hb]
 frame:=fun _ _ _ st kk=>⟨kk I (by simp) _ st.1,kk a (by simp) _ st.2.1,let⟨o,ho,r⟩:=st.2.2;⟨o,kk T (by simp) _ ho,r⟩⟩
 item:=fun i s Q E hi st k=>by
  obtain⟨h1,h,h2⟩:=hp i hi;refine next2 st.1 st.2.1 hd hf st.2.2 h1 h2 fun h' g old=>?_;obtain⟨ot,got,r⟩:=st.2.2;exact k _ h' s.toks rfl ⟨g,old a o hne st.2.1,ot,old T _ hnt got,r⟩ fun b o hb e=>old b o (by simpa using hb) e
 done:=fun s Q E st k=>end2 hh st.1 st.2.1 hd hf st.2.2 (by simp[hl]) fun h' old=>k h' s.toks fun b o hb e=>old b o (by simpa using hb) e
 self:=fun i s Q E st k=>self st.1 k
end
end TS
namespace TS
open PySem PyProof.Rows
section
variable {prog:aN}{w:aV}{A:aX}{E:ae->ah->Prop}{s:ah}{a:af}{o:Obj}{es:Array (Int × ae)}{ep:Nat}{t:SetTable}
def zie{Q:Bool->ah->Prop}(k:Q (bt w) s):ay (model prog w) A setsByText Q E s:=ai (wpAny_askSetting (aq k))
def nextA{i:Nat}{R:Option (ae × Nat)->ah->Prop}(ho:s.heap.get? a=aa o)(hd:o.data=.set es ep t)(hf:t.fits es.size=true)(hb:bt w=true)
  (k:R (((pickOrder (w.params.setOrder a ep) es)[i]?).map fun e=>(e.2,0)) s):ay (model prog w) A (setNext a 0 i ep) R E s:=by
 unfold setNext;refine ai (wpAny_setState_of ho hd hf ?_);refine ai (zie ?_);rw[hb];simp only[bne_self_eq_false,bx,↓reduceIte];unfold setWalk;refine ai (ai (wpAny_setState_of ho hd hf ?_));refine ai (zie ?_);rw[hb];simp only[↓reduceIte];exact ai (wpAny_askSetting (aq (aq k)))
def nextB{i slot:Nat}{R:Option (ae × Nat)->ah->Prop}(ho:s.heap.get? a=aa o)(hd:o.data=.set es ep t)(hf:t.fits es.size=true)(hb:bt w=false)(hl:t.led=true)(hz:es.size<=1)
  (k:R (match es[dN t.place slot]?,t.place[dN t.place slot]? with
   | some (_,x),aa j=>aa (x,j+1)
   | _,_=>ab) s):ay (model prog w) A (setNext a slot i ep) R E s:=by
 unfold setNext;refine ai (wpAny_setState_of ho hd hf ?_);refine ai (zie ?_);rw[hb];simp only[bx,↓reduceIte];rw[if_neg (by show ¬ ((!t.plain && decide (es.size > 1))=true);simp;lia)];refine ai (wpAny_of_eq (a:=()) ?_ (aq k));obtain⟨mask,place,dummies,finger,led,moves,plain⟩:=t;have hl':led=true:=hl;subst hl';rfl
end
def below0(p:Nat):dN #[p] 0=0:=by simp[dN,iX]
def below1(p:Nat):dN #[p] (p+1)=1:=by simp[dN,iX]
end TS
namespace TS
open PySem PyProof.Rows
section
variable {prog:aN}{w:aV}{A:aX}{E:ae->ah->Prop}{s:ah}{a:af}{o:Obj}{es:Array (Int × ae)}{ep:Nat}{t:SetTable}
def _root_.PySem.Walks.weak{I:af}{fp wr:List af}{n:Nat}{P P':Nat->ae->Prop}{St:Nat->bd->Prop}(W:Walks prog w A I fp wr n P St)(h:∀ i v,i<n->P i v->P' i v):Walks prog w A I fp wr n P' St:=
 ⟨W.sub,W.frame,fun i s Q E hi st k=>W.item i s Q E hi st fun v h' tk p=>k v h' tk (h i v hi p),W.done,W.self⟩
structure WkS(prog:aN)(w:aV)(a n0:Nat)(zs:List Str)(I:af)(h:bd):Prop where
 ex:∃ (ys:List Str) (fp:List af) (St:Nat->bd->Prop),ys.Perm zs/\I ∈ fp/\(∀ b ∈ fp,b<h.objs.size/\(b=a \/ n0<=b))/\St 0 h/\∀ B:aX,B.handled=ab->Walks prog w B I fp [I] ys.length (fun i v=>∃ u,v=cw (ys.getD i "") u) St
def WkS.of{n0:Nat}{zs:List Str}{I:af}{h:bd}{ord:Array (Int × ae)}{fp:List af}{St:Nat->bd->Prop}(hp:ord.toList.Perm es.toList)(ge:∀ e ∈ es.toList,∃ z u,e=(hashStr w z,cw z u))(gm:(es.toList.map fun e=>txt e.2).Perm zs)
  (hI:I ∈ fp) (hb:∀ b ∈ fp,b<h.objs.size/\(b=a \/ n0<=b)) (st:St 0 h) (W:∀ B:aX,B.handled=ab->Walks prog w B I fp [I] es.size (fun i v=>v=(ord.getD i (0,.none)).2) St):WkS prog w a n0 zs I h:=by
 have hl:ord.size=es.size:=by simpa using hp.length_eq
 refine⟨ord.toList.map fun e=>txt e.2,fp,St,(hp.map _).trans gm,hI,hb,st,fun B hB=>?_⟩;rw[al,cq,hl];refine(W B hB).weak fun i v hi e=>?_;have hi':i<ord.size:=by lia
 obtain⟨z,u,hz⟩:=ge ord[i] (hp.mem_iff.mp (by simp));subst e;refine⟨u,?_⟩;simp[hi',hz,txt]
def iterS{zs:List Str}{Q:ae->ah->Prop}(is:IsS w s.heap a zs)(hzs:zs.length<scanBound)
  (k:∀ I h' d,s.heap.objs.size<=I->WkS prog w a s.heap.objs.size zs I h'->(∀ b o,s.heap.get? b=aa o->h'.get? b=aa o)->Q (.ref I) { s with heap:=h',drawn:=d}):ay (model prog w) A (pyIter (.ref a)) Q E s:=by
 obtain⟨o,es,ep,t,ho,gx,hd,ge,hf,gl,gp,gm⟩:=is.ex;have hsb:es.size<scanBound:=by have:=gm.length_eq;simp at this;lia
 have ty:s.TypeIs (.ref a) "set" :=⟨o,ho,gx.1⟩
 have la:a<s.heap.objs.size:=aH ho;refine wpAny_pyIter_slot ty F.slot_set_iter (wpAny_call_entry F.slot_set_iter ty Fx.iter_of ?_ (F.args_set_iter_1 _));unfold Builtin.«frozenset.__iter__» ko slotArgs;simp only[dS,eM,bx,↓reduceIte,bind_assoc,bm,bne_self_eq_false];unfold kg kh;refine ai (aq (ai (aq ?_)));refine ai (ai (wpAny_setEntries_of ho hd hf (aq ?_)));unfold setDrawn;refine ai (ai (wpAny_setState_of ho hd hf ?_));refine ai (zie (aq ?_));show ay _ _ (if (!bt w && (!t.plain && decide (es.size > 1)))=true then _ else _) _ _ _;have plain:∀ (ord:Array (Int × ae)) (slots:Nat->Nat),slots 0=0->ord.toList.Perm es.toList ->
   (∀ (i:Nat) (s:ah) (A:aX) (E:ae->ah->Prop) (R:Option (ae × Nat)->ah->Prop),i<es.size->s.heap.get? a=aa o->R (aa ((ord.getD i (0,.none)).2,slots (i+1))) s->ay (model prog w) A (setNext a (slots i) i ep) R E s) ->
   (∀ (s:ah) (A:aX) (E:ae->ah->Prop) (R:Option (ae × Nat)->ah->Prop),s.heap.get? a=aa o->R ab s->ay (model prog w) A (setNext a (slots es.size) es.size ep) R E s) ->
   ay (model prog w) A.in1 (pure (rawInt 0) >>= fun first=>setEpoch a >>= fun e=>newFields "set_iterator" [first,rawInt 0,.ref a,rawInt es.size,rawInt e] >>= fun r=>ret r)
    (fun fin s'=>∃ v,fin=.done (.ret v)/\∃ T' r,s'.TypeIs v T'/\typeLookup (.type T') (cS "__next__")=pure (aa r)/\Q v s') E s:=by
  intro ord slots s0 hp nx en;refine ai (aq (ai (wpAny_setEpoch_of ho hd hf ?_)));refine ai (wpAny_newObj_type ?_);have g0:=aB s.heap (o:=itO (rawInt 0) 0 a es.size ep) rfl;refine aq ⟨_,rfl,"set_iterator",_,⟨_,g0,rfl⟩,Fx.next_slot.lookup,?_⟩;have hne:a ≠ s.heap.objs.size:=aR la;refine k _ _ s.drawn (au _) (WkS.of hp ge gm (fp:=[s.heap.objs.size,a]) (by simp) (fun b hb=>?_) ?_ fun B hB=>walk1 hB hne hd hf _ slots nx en) fun b o e=>ak _ e
  ·rw[bL];rcases az.mp hb with rfl | hb
   ·exact⟨cy _,.inr (au _)⟩
   ·rw[bo.mp hb];exact⟨cD la,.inl rfl⟩
  ·rw[s0];exact⟨g0,ak _ ho⟩
 cases hb:bt w with
 | true=>
  have hp:=pick_perm (w.params.setOrder a ep) es;have hl:(pickOrder (w.params.setOrder a ep) es).size=es.size:=by simpa using hp.length_eq
  refine plain (pickOrder (w.params.setOrder a ep) es) (fun _=>0) rfl hp (fun i s A E R hi g r=>nextA g hd hf hb ?_) fun s A E R g r=>nextA g hd hf hb ?_
  ·have:i<(pickOrder (w.params.setOrder a ep) es).size:=by lia
   simpa [this] using r
  ·simpa [hl] using r
 | false=>
  have led:t.led=true:=by rw[gl,hb];rfl
  by_cases hz:es.size<=1
  ·rw[if_neg (by simp;lia)];have hpl:t.place.size=es.size:=by
    unfold SetTable.fits at hf;simp at hf;exact hf.1
   refine plain es (fun i=>if i=0 then 0 else t.place.getD 0 0+1) rfl .rfl (fun i s A E R hi g r=>nextB g hd hf hb led hz ?_) fun s A E R g r=>nextB g hd hf hb led hz ?_
   ·have h0:i=0:=by lia
    subst h0;obtain⟨p,hp⟩:∃ p,t.place=#[p]:=by
     match hq:t.place,hpl with
     | ⟨[p]⟩,_=>exact⟨p,rfl⟩
     | ⟨[]⟩,hpl=>simp at hpl;lia
     | ⟨_ :: _ :: _⟩,hpl=>simp at hpl;lia
    obtain⟨e,he⟩:∃ e,es[0]? = aa e:=⟨es[0],by simp[hi]⟩;simp only[hp] at r ⊢;simp only[↓reduceIte,below0,he] at r ⊢;simpa [fS,he] using r
   ·by_cases h0:es.size=0
    ·have hp:t.place=#[]:=eY (by lia);have he:es=#[]:=eY h0;simp only[hp,he];simpa using r
    ·obtain⟨p,hp⟩:∃ p,t.place=#[p]:=by
      match hq:t.place,hpl with
      | ⟨[p]⟩,_=>exact⟨p,rfl⟩
      | ⟨[]⟩,hpl=>simp at hpl;lia
      | ⟨_ :: _ :: _⟩,hpl=>simp at hpl;lia
     have h1:es.size=1:=by lia
     have he:es[1]? = ab:=by simp[h1]
     simp only[hp,h1,he,below1,fS];simpa [below1,he] using r
  ·have pl:t.plain=false:=gp (by lia);rw[if_pos (by simp[pl];lia)];refine ai (draw_perm es.size _ _ _ (by simp) fun ys d hp=>?_);have yl:ys.length=es.size:=by simpa using hp.length_eq
   have yb:∀ p ∈ ys,p<es.size:=fun p hm=>by simpa using hp.mem_iff.mp hm
   refine ai (wpAny_newTuple ?_ (by rw[al,yl];exact fits_of_scanBound hsb));refine ai (wpAny_setEpoch_of (ak _ ho) hd hf ?_);refine ai (wpAny_newObj_type ?_);generalize hth:s.heap.push (seqObj "tuple" (ys.map fun(i:Nat)=>rawInt i).toArray 0)=th;have tt:IsTup th s.heap.objs.size (ys.map fun(i:Nat)=>rawInt i).toArray:=by rw[<- hth];exact⟨_,aB _ rfl,rfl,0,rfl⟩
   have ts:th.objs.size=s.heap.objs.size+1:=by rw[<- hth,bL]
   have oo:th.get? a=aa o:=by rw[<- hth];exact ak _ ho
   have g0:=aB th (o:=itO (.ref s.heap.objs.size) 0 a es.size ep) rfl;have hne:a ≠ th.objs.size:=by rw[ts];exact aR (cD la)
   have hnt:s.heap.objs.size ≠ th.objs.size:=by rw[ts];exact aR (cy _)
   show ay _ _ _ _ _ { s with heap:=th.push (itO (.ref s.heap.objs.size) 0 a es.size ep),drawn:=d};refine aq ⟨_,rfl,"set_iterator",_,⟨_,g0,rfl⟩,Fx.next_slot.lookup,?_⟩;refine k _ _ d (by rw[ts];exact cg _) (WkS.of (ord:=(ys.map fun p=>es.getD p (0,.none)).toArray) ?_ ge gm (fp:=[th.objs.size,a,s.heap.objs.size]) am (fun b hb=>?_) ⟨g0,ak _ oo,?_⟩ fun B hB=>walk2 (ps:=(ys.map fun(i:Nat)=>rawInt i).toArray) hB hne hnt hd hf _ (fun i=>ys.getD i 0) (by simp[yl]) fun i hi=>?_) fun b o e=>ak _ (by rw[<- hth];exact ak _ e)
   ·have:(ax es.size).map (fun p=>es.getD p (0,.none))=es.toList:=by
     apply dy
     ·simp
     ·intro i h1 h2;simp at h1;simp[h1]
    rw[<- this];exact hp.map _
   ·rw[bL,ts];simp only[az,bW,or_false] at hb;rcases hb with rfl | rfl | rfl
    ·rw[ts];exact⟨cy _,.inr (cg _)⟩
    ·exact⟨cD (cD la),.inl rfl⟩
    ·exact⟨cD (cy _),.inr (au _)⟩
   ·have hi':i<ys.length:=by lia
    have hq:ys[i]<es.size:=yb _ (gH hi');refine⟨by simp[hi'],es[ys[i]].1,?_⟩;simp[hi',hq]
   ·obtain⟨ot,got,r⟩:=tt;exact⟨ot,ak _ got,r⟩
end
end TS
namespace TS
open PySem PyProof.Rows
namespace Fx
def len_of:typeLookup (.type "set") "__len__" = pure (aa (.builtin "set.__len__")):=by rw[typeLookup_type,builtinLookup_eq_fast];kernel_rfl
end Fx
section
variable {prog:aN}{w:aV}{A:aX}{E:ae->ah->Prop}{s:ah}{a:af}{zs:List Str}
set_option maxRecDepth 100000 in
def collS{Q:List ae->ah->Prop}(hh:A.handled=ab)(is:IsS w s.heap a zs)(hz:zs.length<scanBound)
  (k:∀ (vs:Array ae) (ys:List Str) s',ItemsOf (fun i v=>∃ u,v=cw (ys.getD i "") u) vs ys.length->ys.Perm zs->(∀ b o,s.heap.get? b=aa o->s'.heap.get? b=aa o)->s'.gens=s.gens->s'.os=s.os->Q vs.toList s') :
  ay (model prog w) A (collect (.ref a)) Q E s:=by
 have la:a<s.heap.objs.size:=let⟨_,_,_,_,g,_⟩:=is.ex;aH g;unfold collect;refine ai (wpAny_runValue (codeAny_builtin F.entry_proto_collect ?_));rw[bO F.plain_proto_collect _];refine ai (m:=newList []) (wpAny_newObj_type ?_);refine aq ⟨plainId_quiet F.plain_list_iadd _,?_⟩;refine codeAny_builtin F.entry_list_iadd ?_;rw[bO F.plain_list_iadd _];generalize hL:s.heap.push { cls:=.type "list",data:=.seq ([]:List ae).toArray}=L;have gl:L.get? s.heap.objs.size=aa { cls:=.type "list",data:=.seq ([]:List ae).toArray}:=by rw[<- hL];exact aB _ rfl
 have ls:L.objs.size=s.heap.objs.size+1:=by rw[<- hL,bL]
 have il:IsS w L a zs:=is.mono fun o e=>by rw[<- hL];exact ak _ e
 have ty:eJ { s with heap:=L} (.ref a) "set" :=let⟨o,_,_,_,g,x,_⟩:=il.ex;⟨o,g,x.1⟩;show ay _ A.in1 (cQ (.ref s.heap.objs.size) (.ref a) (.ref s.heap.objs.size)) _ _ { s with heap:=L};have ns:dz (.ref s.heap.objs.size) (.ref a)=false:=by simp[dz];exact dr la
 unfold cQ;refine ai (wpAny_typeOf ty ?_);rw[if_neg (by rw[ns];decide)];refine ai (iterS (s:={ s with heap:=L}) il hz fun I h' d hI wk old=>?_);have ty':eJ { s with heap:=h',drawn:=d} (.ref a) "set" :=let⟨o,_,_,_,g,x,_⟩:=il.ex;⟨o,old a o g,x.1⟩;refine ai (bU ?_);unfold dQ;refine ai (wpAny_specialOf ty' Fx.len_of ?_)
 wp_delta
 refine ai (wpAny_isInstance (b:=true) ty' (by rw[isSubtype_type];kernel_rfl) ?_);show ay _ A.in1 (typeOf (br a) >>= _) _ _ _;refine ai (wpAny_typeOf ty' (aq ?_));rw[if_pos (by decide)];refine ai (wpAny_rule ?_);unfold kD gO;have gs:h'.get? s.heap.objs.size=aa { cls:=.type "list",data:=.seq ([]:List ae).toArray}:=old _ _ gl;refine ai (ai (wpAny_updateSeq gs rfl ?_));have gs1:=cI (bJ (·.push ei)) gs rfl;refine wpAny_updateSeq gs1 rfl ?_;have gs2:=cI (bJ (·.pop)) gs1 rfl;obtain⟨ys,fp,St,yp,If,fb,st,W⟩:=wk.ex;have nf:s.heap.objs.size ∉ fp:=fun q=>by
  rcases (fb _ q).2 with e | e
  ·exact absurd la (e ▸ b8 _)
  ·have e':L.objs.size<=s.heap.objs.size:=e;rw[ls] at e';exact absurd e' (Nat.not_succ_le_self _)
 have W1:=W A.in1 hh;have same:∀ b o,b ≠ s.heap.objs.size->h'.get? b=aa o->((h'.update s.heap.objs.size (bJ (·.push ei))).update s.heap.objs.size (bJ (·.pop))).get? b=aa o:=fun b o hb e=>
  (bN _ _ (ce hb)).trans ((bN _ _ (ce hb)).trans e)
 have st':=W1.frame 0 h' _ st fun b hb o e=>same b o (fun q=>nf (q ▸ hb)) e;have yl:ys.length<=aZ:=fits_of_scanBound (by rw[yp.length_eq];exact hz);refine aq ⟨plainId_quiet F.plain_extend_loop _,?_⟩;refine codeAny_extend_loopS W1.toS yl _ nf _ ys.length 0 _ _ _ rfl (cm _) st' gs2 (kE _) fun s' acc c mv gS it=>?_;show ay _ A (load s.heap.objs.size >>= _) _ _ s';refine ai (wpAny_load gS ?_);refine aq (k acc ys s' it yp (fun b o e=>?_) mv.gens mv.os);have lt:=aH e;have hb:b ≠ s.heap.objs.size:=aR lt;refine mv.heap b o (fun q=>?_) (same b o hb (old b o (by show L.get? b=_;rw[<- hL];exact ak _ e)));rcases az.mp q with q | q
 ·exact hb q
 ·rw[bo.mp q] at lt;have e':L.objs.size<=I:=hI;rw[ls] at e';exact absurd lt (gw.mpr (Nat.le_of_succ_le e'))
end
end TS
namespace TS
open PySem PyProof.Rows
def strs_of{ys:List Str}{vs:Array ae}(h:ItemsOf (fun i v=>∃ u,v=cw (ys.getD i "") u) vs ys.length):StrsAre vs.toList ys:=by
 obtain⟨hl,hv⟩:=h;have key:∀ (l:List ae) (y:List Str),l.length=y.length->(∀ (j:Nat) (v:ae),l[j]? = aa v->∃ u,v=cw (y.getD j "") u)->StrsAre l y:=by
  intro l
  induction l with
  | nil=>
   intro y hl _
   match y,hl with
   | [],_=>exact .nil
  | cons v l ih=>
   intro y hl h
   match y,hl with
   | z :: y,hl=>
    obtain⟨u,rfl⟩:=h 0 v rfl;exact .cons _ _ (ih y (by simpa using hl) fun j v hv=>by simpa using h (j+1) v (by simpa using hv))
 exact key vs.toList ys (by simpa using hl) fun j v e=>hv j v (by rw[dM] at e;exact e)
section
variable {prog:aN}{w:aV}{A:aX}{E:ae->ah->Prop}{s:ah}{a:af}{zs:List Str}
def srtdS{Q:ae->ah->Prop}(hh:A.handled=ab)(is:IsS w s.heap a zs)(hz:zs.length<64)
  (k:∀ (out:List ae) (ss:List Str) (e:Nat) (s1:ah) (h':bd),StrsAre out ss->ss.Perm zs->sortedS ss=true->(∀ b o,s.heap.get? b=aa o->s1.heap.get? b=aa o)->s1.gens=s.gens->s1.os=s.os ->
   h'.get? s1.heap.objs.size=aa (seqObj "list" out.toArray e)->(∀ b o,s1.heap.get? b=aa o->h'.get? b=aa o)->Q (.ref s1.heap.objs.size) { s1 with heap:=h'}) :
  ay (model prog w) A (call (.builtin "sorted") [.ref a]) Q E s:=by
 refine dY kind_sorted plain_sorted entry_sorted (args_sorted1 _) ?_;unfold Builtin.«sorted»;refine ai (m:=checkCount "sorted" 1 1 _) (aq ?_);refine ai (collS hh is (by have:scanBound=4096:=rfl;lia) fun vs ys s1 it yp old eg eo=>?_);have sv:=strs_of it;have vl:vs.toList.length<64:=by have:=it.1;have:=yp.length_eq;simp;lia
 have g0:(s1.heap.push (seqObj "list" vs.toList.toArray 0)).get? s1.heap.objs.size=aa (seqObj "list" vs.toList.toArray 0):=aB _ rfl;refine ai (wpAny_newList ?_ (fits_of_scanBound (by have:scanBound=4096:=rfl;lia)));show ay _ _ _ _ _ { s1 with heap:=s1.heap.push (seqObj "list" vs.toList.toArray 0)};have sz:(s1.heap.push (seqObj "list" vs.toList.toArray 0)).objs.size=s1.heap.objs.size+1:=by rw[bL]
 refine ai (bU (wpAny_call_entry slot_list_sort ⟨_,g0,rfl⟩ entry_list_sort (list_sort_treeK strKind_oneLt g0 sv.keysOf (fun v1 v2 rest e=>keyKind_strs (by rw[<- e];exact sv)) vl fun st a1 a2=>⟨_,rfl,?_⟩) (args_list_sort _)));obtain⟨ss,h1,h2,h3⟩:=sorted_out_str sv a1 a2;obtain⟨e,he⟩:=sortedHeap_at (out:=(arrOf st).map (·.2)) g0;refine aq ⟨_,rfl,?_⟩;refine k ((arrOf st).map (·.2)).toList ss e s1 _ h1 (h2.trans yp) h3 old eg eo (by rw[ip];exact he) fun b o eb=>?_;have lt:=aH eb;rw[sortedHeap_old (aR lt) (by rw[sz];exact cD lt)];exact ak _ eb
end
end TS
namespace TS
open PySem PySem.Spec PyProof.Rows
def lt_anti:∀ (a b:List Nat),ltCps a b=false->ltCps b a=false->a=b
 | [],[],_,_=>rfl
 | [],_ :: _,h,_=>by cases h
 | _ :: _,[],_,h=>by cases h
 | a :: r,b :: t,h1,h2=>by
  simp only[ltCps,eZ,decide_eq_false_iff_not,eQ,beq_iff_eq] at h1 h2;have e:a=b:=by lia
  subst e;rw[lt_anti r t (h1.2 rfl) (h2.2 rfl)]
def lt_trans:∀ (a b c:List Nat),ltCps b a=false->ltCps c b=false->ltCps c a=false
 | [],_,[],_,_=>rfl
 | [],[],_ :: _,_,_=>by simp[ltCps]
 | [],_ :: _,_ :: _,_,_=>by simp[ltCps]
 | _ :: _,[],_,h,_=>by cases h
 | _ :: _,_ :: _,[],_,h=>by cases h
 | a :: r,b :: t,c :: u,h1,h2=>by
  simp only[ltCps,eZ,decide_eq_false_iff_not,eQ,beq_iff_eq] at h1 h2 ⊢;refine⟨by lia,fun e=>?_⟩;have e1:b=a:=by lia
  have e2:c=b:=by lia
  exact lt_trans r t u (h1.2 e1) (h2.2 e2)
def le(a b:Str):Prop:=ltCps b.cps.toList a.cps.toList=false
def le_anti{a b:Str}(h1:le a b)(h2:le b a):a=b:=by
 have:=lt_anti b.cps.toList a.cps.toList h1 h2;cases a;cases b;simp only[Str.mk.injEq] at this ⊢;exact(jd.mp this).symm
def rise:∀ (x:Str) (l:List Str),risingS x l=true->(x :: l).Pairwise le
 | x,[],_=>.cons (by simp) .nil
 | x,y :: l,h=>by
  simp only[risingS,de,gh] at h;have ih:=rise y l h.2;refine .cons (fun z hz=>?_) ih;rcases az.mp hz with rfl | hz
  ·exact h.1
  ·exact lt_trans _ _ _ h.1 (dZ ih hz)
def pair:∀ {l:List Str},sortedS l=true->l.Pairwise le
 | [],_=>.nil
 | x :: l,h=>rise x l h
def uniqS:∀ {l m:List Str},l.Pairwise le->m.Pairwise le->l.Perm m->l=m
 | [],m,_,_,p=>(List.nil_perm.mp p).symm
 | _ :: _,[],_,_,p=>absurd p.length_eq (by simp)
 | x :: l,y :: m,h1,h2,p=>by
  have hx:x ∈ y :: m:=p.mem_iff.mp am;have hy:y ∈ x :: l:=p.mem_iff.mpr am;have e:x=y:=by
   rcases az.mp hx with e | hx
   ·exact e
   ·rcases az.mp hy with e | hy
    ·exact e.symm
    ·exact le_anti (dZ h1 hy) (dZ h2 hx)
  subst e;rw[uniqS (ig h1) (ig h2) p.cons_inv]
open Classical in
noncomputable def srt(zs:List Str):List Str:=if h:∃ ss:List Str,ss.Pairwise le/\ss.Perm zs then h.choose else []
def srt_eq{zs ss:List Str}(h:ss.Pairwise le)(p:ss.Perm zs):srt zs=ss:=by
 have hx:∃ ss:List Str,ss.Pairwise le/\ss.Perm zs:=⟨ss,h,p⟩
 unfold srt;rw[dif_pos hx];exact uniqS hx.choose_spec.1 h (hx.choose_spec.2.trans p.symm)
def ddp(zs:List Str):List Str:=zs.foldl put []
end TS
namespace L2
open PySem PySem.Spec PyProof.Rows TS
def Inv.drawn{X:Cx}{pins:List (af × Obj)}{σ:List (Option V)}{H:Hp}{s s1:ah}(I:Inv X pins σ H s)(eh:∀ b o,s.heap.get? b=aa o->s1.heap.get? b=aa o)(eg:s1.gens=s.gens)(eo:s1.os=s.os):Inv X pins σ H s1:=by
 obtain⟨h,g,d,tk,os⟩:=s1;have eg':g=s.gens:=eg;have eo':os=s.os:=eo;subst eg' eo';have J:Inv X pins σ H { s with heap:=h,toks:=tk}:=I.kept (t':=tk) eh;exact⟨J.ok,J.os,J.bare,J.base,J.loc,J.cell,J.free,J.freeC,J.pin,J.hok,J.len⟩
def TxtIn(K:ag)(H:Hp)(x:V)(zs:List Str):Prop:=(∃ a xs,x=.ref a/\SqL K H a xs/\xs=zs.map V.str) \/ (∃ z,x=.str z/\zs=z.cps.toList.map fun c=>(⟨#[c]⟩:Str))
def tSS(K:ag)(t:TE):TE:=fun σ H Q=>t σ H fun x H1=>∃ zs,TxtIn K H1 x zs/\zs.length<4000/\(ddp zs).length<64/\∀ r,H1 r=ab->Q (.ref r) (upd H1 r (.lst ((srt (ddp zs)).map V.str)))
end L2
namespace L2
open PySem PySem.Spec PyProof.Rows TS
section
variable {X:Cx}{e:Expr}{t:TE}{p p1 pos pos1:Pos}
def all_at(zs:List Str)(n:Nat)(h:n=zs.length):(dG 0 n).map (fun i=>zs.getD i "")=zs:=by
 subst h;apply dy
 ·simp
 ·intro i h1 h2;simp[h2]
def all_cp(z:Str):(dG 0 z.cps.size).map (fun i=>(⟨#[z.cps.getD i 0]⟩:Str))=z.cps.toList.map fun c=>(⟨#[c]⟩:Str):=by
 apply dy
 ·simp
 ·intro i h1 h2;simp at h2;simp[h2]
def set_of{pins:List (af × Obj)}{σ:St}{H:Hp}{s:ah}{x:V}{u:ae}{zs:List Str}{Q:ae->ah->Prop}(hc:X.calm=true)(I:Inv X pins σ H s)(r:RelV x u)(ht:TxtIn X.K H x zs)(hz:zs.length<4000)
  (k:∀ s2,LeftS X.w s (ddp zs) s2->Q (.ref s.heap.objs.size) s2):ay (model X.prog X.w) X.A (call (.type "set") [u]) Q X.xe s:=by
 have hh:=I.ok.hd hc;have sb:scanBound=4096:=rfl;rcases ht with ⟨a,xs,rfl,hq,rfl⟩ | ⟨z,rfl,rfl⟩
 ·cases r;obtain⟨its,rv,pl,_⟩:=I.list hq;have hl:its.toArray.size=zs.length:=by have:=rv.length;simp at this;simp;lia
  have hi:∀ (i:Nat) (v:ae),its.toArray[i]? = aa v->∃ t,v=cw (zs.getD i "") t:=fun i v hv=>by
   have hv':its[i]? = aa v:=by simpa using hv
   obtain⟨hi,e⟩:=a9.mp hv';have hz':i<zs.length:=by simp at hl;lia
   have:=L3.Vals.getE rv i (by simpa using hz') hi;rw[e] at this;simp only[List.getElem_map] at this;obtain⟨t,e'⟩:=this;exact⟨t,by rw[e'];simp[hz']⟩
  refine zic (P:=LeftS X.w s (ddp zs)) hh (fun B hB=>?_) k;have:=ziS (prog:=X.prog) (w:=X.w) (E:=X.xe) hB pl.isList hi (by lia);rw[all_at zs _ hl] at this;exact this
 ·obtain⟨tk,rfl⟩:=r;refine zic (P:=LeftS X.w s (ddp _)) hh (fun B hB=>?_) k;have:=init_strS (prog:=X.prog) (w:=X.w) (E:=X.xe) (s:=s) (x:=z) (t:=tk) hB (by simp at hz;lia);rw[all_cp] at this;exact this
def one(R:V->Hp->Prop):List V->Hp->Prop:=fun xs H=>match xs with
 | [x]=>R x H
 | _=>False
def zfM{R:V->Hp->Prop}{xs:List V}{H:Hp}(h:one R xs H):∃ x,xs=[x]/\R x H:=by
 match xs,h with
 | [x],h=>exact⟨x,rfl,h⟩
def zd9:∀ {out:List ae} {ss:List Str},StrsAre out ss->Vals (ss.map V.str) out
 | _,_,.nil=>.nil
 | _,_,.cons _ _ h=>.cons ⟨_,rfl⟩ (zd9 h)
def zi8(hc:X.calm=true)(he:PE X e t)(hg:Gl X "sorted")(hm:X.mg "sorted" = ab)(hv:aS "sorted" = aa (.builtin "sorted"))(hg1:Gl X "set")(hm1:X.mg "set" = ab)(hv1:aS "set" = aa (.type "set"))
  (h1:ba [e] X.env=(false,eval e X.env) :: ba [] X.env) (h2:ba [jC (.Name "set" p1) [e] [] pos1] X.env=(false,eval (.Call (.Name "set" p1) [e] [] pos1) X.env) :: ba [] X.env) :
  PE X (.Call (.Name "sorted" p) [.Call (.Name "set" p1) [e] [] pos1] [] pos) (tSS X.K t):=by
 intro pins s σ H Q I h;refine bQ (zdd I hg hm hv ?_ (by decide) (by decide));refine eW ?_ h2 rfl;rw[h2];refine d6 (rest:=backTo pos (ba [] X.env)) ?_;refine bQ (zdd I hg1 hm1 hv1 ?_ (by decide) (by decide));refine bP ?_ h1 rfl;refine thn (zgg he zhU h1 pos1 pins s σ H (one fun x H1=>∃ zs,TxtIn X.K H1 x zs/\zs.length<4000/\(ddp zs).length<64/\∀ r,H1 r=ab->Q (.ref r) (upd H1 r (.lst ((srt (ddp zs)).map V.str)))) I ?_) ?_
 ·exact(show t σ H _ from h)
 ·rintro us s1 ⟨xs,H1,I1,r1,qx⟩;obtain⟨x,rfl,zs,ht,hz,hd,kk⟩:=zfM qx;cases r1 with
  | cons r1 rn=>
   cases rn;refine set_of hc I1 r1 ht hz fun s2 lf=>?_;refine eF ?_;have I2:Inv X pins σ H1 s2:=by
    obtain⟨h',tk,rfl⟩:=lf.sh;exact I1.kept (t':=tk) fun b o e=>lf.old b o (aH e) e
   refine srtdS (I.ok.hd hc) lf.is hd fun out ss ep s3 h' so sp srt' old eg eo gr old2=>?_;have I3:Inv X pins σ H1 s3:=I2.drawn old eg eo;have hf:H1 s3.heap.objs.size=ab:=I3.hok.fresh (au _);have e:srt (ddp zs)=ss:=srt_eq (pair srt') sp;have kq:=kk s3.heap.objs.size hf;rw[e] at kq;refine⟨.ref s3.heap.objs.size,_,I3.laid (t':=s3.toks) (o:=.lst (ss.map V.str)) old2 (au _) ?_,rfl,kq⟩;have sl:ss.length<64:=by rw[sp.length_eq];exact hd
   exact⟨by rw[al,bC];lia,out,ep,zd9 so,gr⟩
end
end L2
namespace L3
open PySem PySem.Spec PyProof.Rows L2 TS
noncomputable def ssO(zs:List Str):Option Ent:=gif (zs.length<4000/\(ddp zs).length<64) (aa (.own ((srt (ddp zs)).map D.str)))
noncomputable def zdl:Ent->Option Ent:=fun x=>(asL x).bind fun ds=>(zgA ds).bind ssO
section
variable {X:Cx}{e:Expr}{fe:FE}{p p1 pos pos1:Pos}
def vSS{g:Ent->Option Ent}(hx:∀ {H0 F H:Hp} {v:V} {en:Ent} {res:Ent},Same F H->RepR X.K H0 F H v en->g en=aa res->∃ zs,TxtIn X.K H v zs/\ssO zs=aa res)(he:VE X e fe)(hg:Gl X "sorted")(hm:X.mg "sorted" = ab)(hv:aS "sorted" = aa (.builtin "sorted"))
  (hg1:Gl X "set") (hm1:X.mg "set" = ab) (hv1:aS "set" = aa (.type "set")) (hc:X.calm=true) (h1:zak e=true):VE X (.Call (.Name "sorted" p) [.Call (.Name "set" p1) [e] [] pos1] [] pos) (ex1 g fe):=by
 obtain⟨t,w,m⟩:=he.h;refine⟨_,⟨zi8 hc w.h hg hm hv hg1 hm1 hv1 (zaq h1) (zaq rfl)⟩,fun B F H σ δ res Q s q k=>?_⟩;obtain⟨en,q1,q⟩:=bind_some q;refine m B F H σ δ en _ s q1 fun v F1 H1 x1 r1=>?_;obtain⟨zs,ht,q2⟩:=hx x1.fh r1 q;obtain⟨hz,q3⟩:=zba q2;cases q3;refine⟨zs,ht,hz.1,hz.2,fun r hr=>?_⟩;exact k _ _ _ (x1.trans (Ex.lay x1.fh hr)) ⟨r,_,rfl,x1.hh.free hr,zai,zeU _,x1.fh.free hr⟩
def vSortSetL(he:VE X e fe)(hg:Gl X "sorted")(hm:X.mg "sorted" = ab)(hv:aS "sorted" = aa (.builtin "sorted"))(hg1:Gl X "set")(hm1:X.mg "set" = ab)(hv1:aS "set" = aa (.type "set"))(hc:X.calm=true:=by rfl)(h1:zak e=true:=by rfl) :
  VE X (.Call (.Name "sorted" p) [.Call (.Name "set" p1) [e] [] pos1] [] pos) (ex1 zdl fe):=
 vSS (fun {H0 F H v en res} fh r q=>by
  obtain⟨ds,q1,q⟩:=bind_some q;obtain⟨zs,q2,q⟩:=bind_some q;obtain⟨l,vs,e1,h1,h2⟩:=r.toL fh q1;exact⟨zs,.inl ⟨l,vs,e1,h1,strsD_ok h2 q2⟩,q⟩) he hg hm hv hg1 hm1 hv1 hc h1
end
end L3

namespace L2
open PySem PySem.Spec PyProof.Rows
def SqQ(K:ag):Bool->Hp->af->List V->Prop
 | true=>SqT K
 | false=>SqL K
def SIt:Bool->bd->af->af->Nat->Prop
 | true,h,it,a,i=>h.IsTupleIter it a i
 | false,h,it,a,i=>h.IsListIter it a i
def QAt:Bool->bd->af->Array ae->Prop
 | true,h,a,xs=>h.IsTuple a xs
 | false,h,a,xs=>h.IsList a xs
def itN:Bool->String
 | true=> "tuple_iterator"
 | false=> "list_iterator"
def SIt.out{k:Bool}{h:bd}{it a:af}{i:Nat}(st:SIt k h it a i):∃ o,h.get? it=aa o/\o.cls=.type (itN k)/\o.data=.fields #[.ref a,.int i 0]:=by cases k <;> exact st
def SIt.mk{k:Bool}{h:bd}{it a:af}{i:Nat}(st:∃ o,h.get? it=aa o/\o.cls=.type (itN k)/\o.data=.fields #[.ref a,.int i 0]):SIt k h it a i:=by cases k <;> exact st
def SIt.at{k:Bool}{h h':bd}{it a:af}{i:Nat}(st:SIt k h it a i)(e:∀ o,h.get? it=aa o->h'.get? it=aa o):SIt k h' it a i:=by
 obtain⟨o,h1,h2⟩:=st.out;exact .mk ⟨o,e o h1,h2⟩
def Inv.seqQ{X:Cx}{pins:List (af × Obj)}{σ:St}{H:Hp}{s:ah}{k:Bool}{a:af}{xs:List V}(I:Inv X pins σ H s)(h:SqQ X.K k H a xs):∃ its:List ae,Vals xs its/\QAt k s.heap a its.toArray:=by
 cases k with
 | true=>obtain⟨its,r,p,_⟩:=I.tuple h;exact⟨its,r,p⟩
 | false=>obtain⟨its,r,p,_⟩:=I.list h;exact⟨its,r,p.isList⟩
section
variable {prog:aN}{w:aV}{A:aX}{E:ae->ah->Prop}{s:ah}
end
section
variable {X:Cx}{A:aX}{pins:List (af × Obj)}{σ:St}{H:Hp}{s:ah}{E:ae->ah->Prop}{k k1 k2:Bool}{it a b z TI TO i1 i2:af}{i:Nat}{xs ys:List V}{x y:V}
structure ZSt(k1 k2:Bool)(z TI TO i1 i2 a b:af)(i:Nat)(f0:ae)(h:bd):Prop where
 hz:IsZip h z TI TO f0
 hi:IsPair h TI (.ref i1) (.ref i2)
 ho:∃ x y,IsPair h TO x y
 s1:SIt k1 h i1 a i
 s2:SIt k2 h i2 b i
structure ZNe(z TI TO i1 i2:af):Prop where
 n1:TI ≠ z
 n2:TO ≠ z
 n3:i1 ≠ z
 n4:i2 ≠ z
 n5:TI ≠ TO
 n6:TI ≠ i1
 n7:TI ≠ i2
 n8:TO ≠ i1
 n9:TO ≠ i2
 n10:i1 ≠ i2
def ZSt.keep{f0:ae}{h h':bd}(st:ZSt k1 k2 z TI TO i1 i2 a b i f0 h)(kk:∀ c ∈ [z,TI,TO,i1,i2],∀ o,h.get? c=aa o->h'.get? c=aa o):ZSt k1 k2 z TI TO i1 i2 a b i f0 h':=
 ⟨kk z (by simp) _ st.hz,kk TI (by simp) _ st.hi,let⟨x,y,e⟩:=st.ho;⟨x,y,kk TO (by simp) _ e⟩,st.s1.at fun o e=>kk i1 (by simp) o e,st.s2.at fun o e=>kk i2 (by simp) o e⟩
end
def QAt.push{k:Bool}{h:bd}{a:af}{xs:Array ae}(p:QAt k h a xs)(o:Obj):QAt k (h.push o) a xs:=by
 cases k with
 | true=>exact lb p o
 | false=>exact lm p o
end L2
namespace L3
open PySem PySem.Spec PyProof.Rows L2
def qOf:Ent->Option (List D)
 | .val (.lst ds)=>aa ds
 | .val (.tup ds)=>aa ds
 | .own ds=>aa ds
 | _=>ab
def qV(fe:FE):FI:=fun δ=>(fe δ).bind qOf
def Stays(K:ag)(B F:Hp)(v:V)(ds:List D):Prop:=∃ k a vs,v=.ref a/\(∀ F2 H2,Same F F2->Same F2 H2->Same B H2->SqQ K k H2 a vs)/\Reps F vs ds
def SemQ(K:ag)(t:TE)(f:FI):Prop:=∀ (B:Bd) (F H:Hp) (σ:Sg) (δ:En) (ds:List D) (Q:VK),RS K B F H σ δ->f δ=aa ds->(∀ v F' H',Ex F H F' H'->Stays K B F' v ds->Q v H')->t σ H Q
structure VQ(X:Cx)(e:Expr)(f:FI):Prop where
 h:∃ t,WE X e t/\SemQ X.K t f
section
variable {X:Cx}{e e':Expr}{fe:FE}{fa fb:FI}{p pos tpos:Pos}{x:Str}{es:List Expr}{n:Nat}
def zqv(h:VE X e fe):VQ X e (qV fe):=by
 obtain⟨t,w,m⟩:=h.h;refine⟨_,w,fun B F H σ δ ds Q s q k=>?_⟩;obtain⟨r,q1,q⟩:=bind_some q;refine m B F H σ δ r _ s q1 fun v F1 H1 x1 r1=>?_;unfold qOf at q;split at q
 ·cases q;cases (show Rep F1 v (.lst ds) from r1) with
  | lst e rs=>exact k _ F1 H1 x1 ⟨false,_,_,rfl,fun F2 H2 a b _=>SqL.of (b _ _ (a _ _ e)),rs⟩
 ·cases q;cases (show Rep F1 v (.tup ds) from r1) with
  | tup e rs=>exact k _ F1 H1 x1 ⟨true,_,_,rfl,fun F2 H2 a b _=>SqT.of (b _ _ (a _ _ e)),rs⟩
 ·cases q;obtain⟨F2,x2,_,r2⟩:=RepR.frz x1 (Same.refl _) r1 rfl;cases r2 with
  | lst e rs=>exact k _ F2 H1 x2 ⟨false,_,_,rfl,fun F3 H3 a b _=>SqL.of (b _ _ (a _ _ e)),rs⟩
 ·cases q
end
end L3

namespace L2
open PySem PySem.Spec PyProof.Rows
def Itq(K:ag):Bool->af->It
 | true=>Itt K
 | false=>Itl K
def iSq(K:ag)(tl:TE):TI:=fun σ H R=>tl σ H fun x H1=>∃ k a,x=.ref a/\(∃ xs,SqQ K k H1 a xs)/\R (Itq K k a) H1
def pi_seq{X:Cx}{tg l:Expr}{tl:TE}(hl:PE X l tl):PI X tg l (iSq X.K tl):=by
 intro pins s σ H R I h;refine thn (hl pins s σ H _ I h) ?_;rintro v s1 ⟨x,H1,I1,r1,q1⟩;obtain⟨k,a,e,⟨xs,hq⟩,q⟩:=q1;subst e;cases r1;have fp:∀ b ∈ [s1.heap.objs.size],zg1 X pins H1 b:=fun b hb=>by
  cases bo.mp hb;exact I1.fpOk (au _) (I1.hok.fresh (au _))
 obtain⟨its,rv,p⟩:=I1.seqQ hq;cases k with
 | true=>exact wpAny_pyIter_tuple p ⟨s1.heap.objs.size,[s1.heap.objs.size],_,_,H1,rfl,I1.kept (t':=s1.toks) fun b o e=>ak _ e,zfh a _,⟨_,aB _ rfl,rfl,rfl⟩,fp,q⟩
 | false=>exact wpAny_pyIter_list p ⟨s1.heap.objs.size,[s1.heap.objs.size],_,_,H1,rfl,I1.kept (t':=s1.toks) fun b o e=>ak _ e,zgO a _,⟨_,aB _ rfl,rfl,rfl⟩,fp,q⟩
end L2
namespace L3
open PySem PySem.Spec PyProof.Rows L2
def itOk_seq{K:ag}{B F0:Hp}{k:Bool}{a:af}{vs:List V}{ds:List D}(h:∀ F H,Same F0 F->Same F H->Same B H->SqQ K k H a vs)(r:Reps F0 vs ds):ItOk B F0 (Itq K k a) ds:=by
 cases k with
 | false=>exact zd7 h r
 | true=>
  intro F H s1 s2 s3;have hq:SqT K H a vs:=h F H s1 s2 s3;refine⟨⟨vs,hq,by rw[r.length];exact au _⟩,fun i d e=>?_⟩;obtain⟨v,h1,h2⟩:=r.get e;refine⟨⟨vs,v,hq,h1⟩,fun x H' y=>?_⟩;obtain⟨e',y⟩:=y;subst e';have z:=y vs hq;rw[h1] at z;cases z;exact⟨F,Ex.refl s2,Rep.mono s1 h2⟩
def iiq{X:Cx}{tg e:Expr}{fe:FE}(h:VE X e fe):VI X tg e (qV fe):=by
 obtain⟨t,w,m⟩:=(zqv h).h;exact⟨_,⟨pi_seq w.h⟩,fun B F H σ δ ds R s q k=>m B F H σ δ ds _ s q fun v F1 H1 x1 ⟨kk,a,vs,e,p,r⟩=>⟨kk,a,e,⟨vs,p F1 H1 (Same.refl _) x1.fh (s.bh.trans x1.hh)⟩,k _ F1 H1 x1 (itOk_seq p r)⟩⟩
end L3
namespace L2
open PySem PySem.Spec PyProof.Rows
section
variable {X:Cx}
end
end L2
namespace L3
open PySem PySem.Spec PyProof.Rows L2
end L3
namespace L2
open PySem PySem.Spec PyProof.Rows
open PySem.AutoSeq1 (wpAny_loadPart')
open PySem.MeetsSeq PySem.MeetsSeq2 PySem.MeetsSeq3
section
variable {X:Cx}
end
end L2
namespace L3
open PySem PySem.Spec PyProof.Rows L2
section
variable {X:Cx}
end
structure MtT(X:Cx)(name:Str)(g:Ent->List Ent->Option Ent):Prop where
 h:∃ id r,Slot "tuple" name id/\typeOf (.builtin id)=pure (.type "method_descriptor")/\MtR X id r /\
  (∀ (F:Hp) (v:V) (e:Ent) (es:List Ent) (res:Ent),g e es=aa res->∃ ds,e=.val (.tup ds)) /\
  ∀ (H0 F H:Hp) (x:V) (vs:List V) (e:Ent) (es:List Ent) (res:Ent) (Q:VK),Same F H->Same H0 H->RepR X.K H0 F H x e->RepRs X.K H0 F H vs es->g e es=aa res->(∀ v F' H',Ex F H F' H'->RepR X.K H0 F' H' v res->Q v H')->r x vs H Q
section
variable {X:Cx}{name:Str}{g:Ent->List Ent->Option Ent}{o e:Expr}{es:List Expr}{fo:FE}{fs:FA}{apos cpos:Pos}
end
end L3

namespace L2
open PySem PySem.Spec PyProof.Rows PyProof.Rows.KTD
section
variable {X:Cx}{a:af}{D:List (Str × Int)}
end
def kisS{P:aN}{w:aV}{z:Str}{u:ae}(r:RelV (.str z) u):(zbd P w).is (bB z) u=true:=by
 obtain⟨t,rfl⟩:=r;show dU z (.str z t)=true;simp[dU]
def atK(kvs:List (Key × V))(k:Key):Option V:=(kvs.find? fun p=>decide (p.1=k)).map (·.2)
def zf7{kvs:List (Key × V)}{vs:List (Key × ae)}(r:KV kvs vs)(k:Key):(∃ v w,atK kvs k=aa v/\valueAt vs k=aa w/\RelV v w) \/ (atK kvs k=ab/\valueAt vs k=ab):=by
 unfold KV at r
 induction r with
 | nil=>exact .inr ⟨rfl,rfl⟩
 | @cons p q ps qs h t ih=>
  obtain⟨h1,h2⟩:=h;unfold atK valueAt at ih ⊢;by_cases e:p.1=k
  ·refine .inl ⟨p.2,q.2,?_,?_,h2⟩
   ·rw[dH (by simpa using e)];rfl
   ·rw[dH (by simpa using (h1 ▸ e:q.1=k))];rfl
  ·rw[dI (by simpa using e),dI (by simpa using (fun z=>e (h1.trans z):¬ q.1=k))];exact ih
section
variable {X:Cx}
def ix_dic:IxR X (fun x y H Q=>∃ a kvs z v,x=.ref a/\y=.str z/\Rd H a (.dK kvs)/\atK kvs (bB z)=aa v/\Q v H):=by
 intro value slice pins s σ H x y v u Q I rx ry h hs;obtain⟨a,kvs,z,v',rfl,rfl,e,hv,q⟩:=h;cases rx;obtain⟨_,hd,vs,rel,dd⟩:=e.ok I.hok;rcases zf7 rel (bB z) with ⟨v2,w,e1,e2,e3⟩ | ⟨e1,_⟩
 ·rw[hv] at e1;cases e1;exact subscriptTail_builtinR (x:=w) dd.typeIs slot_dict_getitem.lookup (wpAny_getItem_of (kisS ry) dd.mapOf e2 ⟨rfl,v',H,I.tok _,e3,q⟩) hs
 ·rw[hv] at e1;cases e1
def op_niD:OpR X (bu .NotIn) (fun x y H Q=>∃ a kvs z,x=.str z/\y=.ref a/\Rd H a (.dK kvs)/\Q (.bl (!(atK kvs (bB z)).isSome)) H):=by
 intro pins s σ H x y v u Q I rx ry h;obtain⟨a,kvs,z,rfl,rfl,e,q⟩:=h;cases ry;obtain⟨_,hd,vs,rel,dd⟩:=e.ok I.hok;refine wpAny_notIn_of (kisS rx) hd dd.mapOf ⟨.bl _,H,I.tok _,?_,q⟩;rcases zf7 rel (bB z) with ⟨v2,w,e1,e2,e3⟩ | ⟨e1,e2⟩ <;> (rw[e1,e2];rfl)
end
inductive PrsOf:List Str->List V->List (ae × ae)->Prop
 | nil:PrsOf [] [] []
 | cons {z:Str} {t:Tok} {v:V} {u:ae} {ks:List Str} {vs:List V} {ws:List (ae × ae)}:RelV v u->PrsOf ks vs ws->PrsOf (z :: ks) (v :: vs) ((.str z t,u) :: ws)
def PrsOf.len{ks:List Str}{vs:List V}{ws:List (ae × ae)}(h:PrsOf ks vs ws):ks.length=vs.length:=by
 induction h with
 | nil=>rfl
 | cons _ _ ih=>rw[aw,aw,ih]
def PDs(X:Cx)(pos:Pos)(keys:List (Option Expr))(values:List Expr)(ks:List Str)(t:TA):Prop:=
 ∀ (pins:List (af × Obj)) (s:ah) (σ:St) (H:Hp) (Q:List V->Hp->Prop),Inv X pins σ H s->t σ H Q ->
  ay (model X.prog X.w) X.A (evalPairs (pairTrees keys values X.env pos)) (fun ws s'=>∃ vs H',Inv X pins σ H' s'/\PrsOf ks vs ws/\Q vs H') X.xe s
end L2
namespace L3
open PySem PySem.Spec PyProof.Rows L2
def lkD:List Str->List D->Str->Option D
 | k :: ks,d :: ds,z=>if k=z then aa d else lkD ks ds z
 | _,_,_=>ab
def lkD_ok{F:Hp}(z:Str){ks:List Str}{vs:List V}{ds:List D}(hl:ks.length=vs.length)(h:Reps F vs ds) :
  (∃ d v,lkD ks ds z=aa d/\atK ((ks.map bB).zip vs) (bB z)=aa v/\Rep F v d) \/ (lkD ks ds z=ab/\atK ((ks.map bB).zip vs) (bB z)=ab):=by
 refine h.ind (P:=fun vs ds=>∀ ks:List Str,ks.length=vs.length->(∃ d v,lkD ks ds z=aa d/\atK ((ks.map bB).zip vs) (bB z)=aa v/\Rep F v d) \/ (lkD ks ds z=ab/\atK ((ks.map bB).zip vs) (bB z)=ab)) (fun ks hl=>?_) (fun {v d vs ds} r rs ih ks hl=>?_) ks hl
 ·rw[dJ hl];exact .inr ⟨rfl,rfl⟩
 ·obtain⟨k,ks,rfl,hl2⟩:=lenS hl;simp only[lkD];unfold atK;rw[aF,cx];by_cases e:k=z
  ·rw[if_pos e,dH (by simpa using e)];exact .inl ⟨d,v,rfl,rfl,r⟩
  ·rw[if_neg e,dI (by simpa using e)];exact ih ks hl2
def dOf:Ent->Option (List Str × List D)
 | .val (.dic ks ds)=>aa (ks,ds)
 | _=>ab
def zgb{e:Ent}{p:List Str × List D}(h:dOf e=aa p):e=.val (.dic p.1 p.2):=by
 cases e with
 | val d=>cases d <;> first | (cases h;rfl) | (cases h)
 | _=>cases h
def gDx:Ent->Ent->Option Ent:=fun x y=>(dOf x).bind fun p=>(sOf y).bind fun z=>(lkD p.1 p.2 z).map .val
def gNiD:Ent->Ent->Option Ent:=fun x y=>(sOf x).bind fun z=>(dOf y).map fun p=>.val (.bl (!(lkD p.1 p.2 z).isSome))
section
variable {X:Cx}
def x_dic:IxD X gDx:=⟨_,ix_dic,fun H0 F H x y e e' res Q fh hh rx ry q k=>by
 obtain⟨p,q1,q⟩:=bind_some q;obtain⟨z,q2,q⟩:=bind_some q;obtain⟨d,q3,q⟩:=map_some q;cases q;cases zgb q1;cases zbB q2;cases zb0 ry;cases (show Rep F x (.dic p.1 p.2) from rx) with
 | dic e l rs=>
  rcases lkD_ok z l rs with ⟨d',v,e1,e2,e3⟩ | ⟨e1,_⟩
  ·rw[q3] at e1;cases e1;exact⟨_,_,z,v,rfl,rfl,.inr ⟨_,fh _ _ e⟩,e2,k _ F H (Ex.refl fh) e3⟩
  ·rw[q3] at e1;cases e1⟩
def o_niD:OpD X (bu .NotIn) gNiD:=⟨_,op_niD,fun H0 F H x y e e' res Q fh hh rx ry q k=>by
 obtain⟨z,q1,q⟩:=bind_some q;obtain⟨p,q2,q⟩:=map_some q;cases q;cases zgb q2;cases zbB q1;cases zb0 rx;cases (show Rep F y (.dic p.1 p.2) from ry) with
 | dic e l rs=>
  refine⟨_,_,z,rfl,rfl,.inr ⟨_,fh _ _ e⟩,?_⟩;rcases lkD_ok z l rs with ⟨d',v,e1,e2,e3⟩ | ⟨e1,e2⟩
  ·rw[e2];rw[e1] at k;exact k _ F H (Ex.refl fh) (.bl _)
  ·rw[e2];rw[e1] at k;exact k _ F H (Ex.refl fh) (.bl _)⟩
structure VD(X:Cx)(pos:Pos)(keys:List (Option Expr))(values:List Expr)(ks:List Str)(fs:FA):Prop where
 h:∃ t,PDs X pos keys values ks t/\SemA X.K t fs
variable {pos kp p:Pos}{z x:Str}{j:Nat}{v sl:Expr}{keys:List (Option Expr)}{values:List Expr}{ks:List Str}{fv fe:FE}{fs:FA}
end
end L3

namespace L2
open PySem PySem.Spec PyProof.Rows
end L2
namespace L3
open PySem PySem.Spec PyProof.Rows L2
noncomputable def fExt(i:Nat)(fe:FE):FS:=fun δ=>match δ[i]? with
 | some (aa (.own ds))=>(fe δ).bind fun r=>match r with
  | .own es=>gif (sz (ds.length+es.length)) (aa (.nx (δ.set i (aa (.own (ds ++ es))))))
  | _=>ab
 | _=>ab
section
variable {X:Cx}{e:Expr}{fe:FE}{x:Str}{p pos:Pos}
def sExt(i:Nat){apos cpos:Pos}(he:VE X e fe)(hN:X.N[i]? = aa x:=by rfl)(hv:Vis X.env.scope x:=by first | exact aK rfl | exact be (aK rfl) | exact be (be rfl))(hd:(x == ("__debug__" : Str))=false:=by decide)
  (hcd:(x == ("__classdict__" : Str))=false:=by decide)
  (hbase:b9 (.Name x p) "extend" X.env (eval (.Name x p) X.env)=eval (.Name x p) X.env:=by rfl) (hline:(apos.endLine == cpos.line)=true:=by rfl) (h1:zak e=true:=by rfl)
  (hs:swapsWith (.Call (.Attribute (.Name x p) "extend" apos) [e] [] cpos) ab pos.line X.env=pure false:=by rfl) :
  VS X (.Expr (.Call (.Attribute (.Name x p) "extend" apos) [e] [] cpos) pos) (fExt i fe):=by
 obtain⟨t,w,m⟩:=he.h;refine⟨_,sex (wbm cN PySem.F.slot_list_extend PySem.F.type_list_extend mt_extend (wv i hN hv hd hcd) (wac w wnil h1) hbase rfl hline h1 rfl) hs,fun B F H σ δ out DD s q k=>?_⟩;unfold fExt at q;split at q
 ·rename_i ds hi;obtain⟨r,q2,q⟩:=bind_some q;cases r with
  | own es=>
   obtain⟨hl,qz⟩:=zba q;cases qz;obtain⟨v,h1,l,vs,e,h2,h3,h4,h5⟩:=s.ent i _ hi;subst e;refine⟨_,h1,.inl ⟨rfl,vs,SqL.of h2⟩,?_⟩;refine m B F H σ δ _ _ s q2 fun y F1 H1 x1 z=>?_;obtain⟨l2,ws,ey,z0,z1,z2,z3⟩:=z;subst ey;refine⟨l,l2,vs,ws,rfl,rfl,x1.hh _ _ h2,z1,?_,?_⟩
   ·rw[h3.length,z2.length,bC];unfold sz at hl;lia
   ·exact k σ F1 _ ((s.ext x1).mut hi h1 ((h3.mono x1.ff).append z2)) (.of x1 s.bh)
  | _=>cases q
 ·cases q
end
end L3

namespace L2
open PySem PySem.Spec PyProof.Rows
namespace RV
def lri_len:typeLookup (.type "list_reverseiterator") "__len__" = pure ab:=by rw[typeLookup_type,builtinLookup_eq_fast];kernel_rfl
def lri_hint:typeLookup (.type "list_reverseiterator") "__length_hint__" = pure (aa (.builtin "list_reverseiterator.__length_hint__")):=by rw[typeLookup_type,builtinLookup_eq_fast];kernel_rfl
end RV
section
variable {prog:aN}{w:aV}{A:aX}{E:ae->ah->Prop}{s:ah}
set_option maxRecDepth 100000
def hint_rev{I l:af}{i:Int}{Q:Bool->ah->Prop}(hit:s.heap.IsRevIter I l i)(q:Q false s):ay (model prog w) A (dQ (.ref I)) Q E s:=by
 unfold dQ;refine ai (wpAny_specialOf hit.typeIs RV.lri_len ?_)
 wp_delta
 refine ai (wpAny_specialOf hit.typeIs RV.lri_hint ?_)
 wp_delta
 refine ai (wpAny_isInstance (T:= "list_reverseiterator") (b:=true) hit.typeIs (by rw[isSubtype_type];kernel_rfl) ?_);show ay _ A (pure false) Q E s;exact aq q
end
end L2
namespace L2
open PySem PySem.Spec PyProof.Rows
section
variable {X:Cx}{e:Expr}{t:TE}{p p1 pos pos1:Pos}
def rev_vals{xs:List V}{its:List ae}(r:Vals xs its){acc:Array ae}(h:ItemsOf (fun i v=>its.toArray[its.toArray.size - 1 - i]? = aa v) acc its.toArray.size):Vals xs.reverse acc.toList:=by
 obtain⟨h1,h2⟩:=h;have e:acc.toList=its.reverse:=by
  apply List.ext_getElem?;intro j;by_cases hj:j<its.length
  ·have hs:acc.size=its.length:=by simpa using h1
   have:=h2 j acc[j] (by simp[hs,hj]);rw[List.getElem?_reverse hj];simp only[aU,List.getElem?_toArray] at this;rw[this];simp[hs,hj]
  ·have hs:acc.size=its.length:=by simpa using h1
   rw[cJ (by simp[hs];lia),cJ (by simp;lia)]
 rw[e];clear h1 h2 e
 induction r with
 | nil=>exact .nil
 | cons h t ih=>
  rw[eG,eG];exact ih.append (.cons h .nil)
end
end L2
namespace L3
open PySem PySem.Spec PyProof.Rows L2
section
variable {X:Cx}{e:Expr}{fe:FE}{p p1 pos pos1:Pos}
end
end L3

namespace L3
open PySem PySem.Spec PyProof.Rows L2
section
variable {X:Cx}
end
end L3

namespace L3
open PySem PySem.Spec PyProof.Rows L2
def zee(H:Hp)(A:List af):Hp:=fun a=>if a ∈ A then ab else H a
section
variable {K:ag}{B:Bd}{F H F' H' H0:Hp}{σ:Sg}{δ:En}{v:V}{A A':List af}{a:af}{u:HO}{i:Nat}{o o':OT}
def zbQ(h:a ∈ A):zee H A a=ab:=if_pos h
def zdJ(h:a ∉ A):zee H A a=H a:=if_neg h
def zaC(h:zee H A a=aa u):a ∉ A/\H a=aa u:=by
 by_cases q:a ∈ A
 ·rw[zbQ q] at h;cases h
 ·rw[zdJ q] at h;exact⟨q,h⟩
def zaY(h:a ∉ A)(e:H a=aa u):zee H A a=aa u:=(zdJ h).trans e
structure Chg(H F F' H':Hp)(A:List af):Prop where
 ff:Same F F'
 fh:Same F' H'
 st:Same (zee H A) H'
 nw:∀ a u,zee H A a=aa u->isT u=false->F' a=F a
def TR.far{Aj:List af}{w:V}{p:OT}(t:TR K F H w p Aj)(c:Chg H F F' H' A)(h:∀ a ∈ Aj,a ∉ A):TR K F' H' w p Aj/\∀ a ∈ Aj,F' a=F a:=
 ⟨t.move c.ff fun a ha=>let⟨_,h1,_⟩:=t.lies a ha;(c.st _ _ (zaY (h a ha) h1)).trans h1.symm,fun a ha=>let⟨_,h1,h2⟩:=t.lies a ha;c.nw _ _ (zaY (h a ha) h1) h2⟩
def RS.chg(s:RS K B F H σ δ)(hi:δ[i]? = aa (aa (.obj o)))(hs:σ[i]? = aa (aa v))(t:TR K F H v o A)(c:Chg H F F' H' A)(t':TR K F' H' v o' A')(n':A'.Nodup)(f':∀ a ∈ A',F' a=ab/\zee H A a=ab) :
  RS K B F' H' σ (δ.set i (aa (.obj o')))/\FX B F F':=by
 obtain⟨A0,t0,n0,f0⟩:=s.at hi hs;cases t0.det t;have hB:∀ a u,(B:Hp) a=aa u->zee H A a=aa u:=fun a u h=>zaY (fun ha=>by rw[(f0 a ha).2] at h;cases h) (s.bh _ _ h);have far:∀ (j:Nat) (e:Ent) (w:V) (a:af),i ≠ j->δ[j]? = aa (aa e)->σ[j]? = aa (aa w)->Occ K F H w e a->a ∉ A:=fun j e w a hij h1 h2 h3 ha=>s.ao i j _ e v w a hij hi hs h1 h2 rfl ⟨A,t,ha⟩ h3;have mv:∀ (j:Nat) (w:V) (p:OT) (Aj:List af),i ≠ j->δ[j]? = aa (aa (.obj p))->σ[j]? = aa (aa w)->TR K F H w p Aj->TR K F' H' w p Aj/\∀ a ∈ Aj,F' a=F a:=fun j w p Aj hij h1 h2 tj=>
  tj.far c fun a ha=>far j _ w a hij h1 h2 ⟨Aj,tj,ha⟩
 have bk:∀ (j:Nat) (e:Ent) (w:V) (a:af),i ≠ j->δ[j]? = aa (aa e)->σ[j]? = aa (aa w)->Occ K F' H' w e a->Occ K F H w e a:=fun j e w a hij z1 z2 z3=>z3.back (s.at z1 z2) fun p Aj he tj=>by
  subst he;exact(mv j w p Aj hij z1 z2 tj).1
 refine⟨⟨c.fh,fun a u h=>c.st a u (hB a u h),by simp[s.len],fun j e q=>?_,fun a b l2 es e' hab q1 q2 q3 q4=>?_,fun a b e1 e2 v1 v2 ad hab q1 q2 q3 q4 q5 q6 q7=>?_,fun w p hw hp=>?_⟩,⟨c.ff,fun a u h ht=>c.nw a u (hB a u h) ht⟩⟩
 ·rw[bf] at q;by_cases hij:i=j
  ·subst hij;rw[if_pos rfl] at q;split at q
   ·cases q;exact⟨v,hs,A',t',n',fun a ha=>⟨(f' a ha).1,by
     cases z:(B:Hp) a with
     | none=>rfl
     | some u=>have:=hB a u z;rw[(f' a ha).2] at this;cases this⟩⟩
   ·cases q
  ·rw[if_neg hij] at q;obtain⟨w,p1,p2⟩:=s.ent j e q;refine⟨w,p1,?_⟩;cases e with
   | val d=>exact Rep.mono c.ff p2
   | bor ds=>obtain⟨l,vs,e,p3,p4⟩:=p2;exact⟨l,vs,e,p3,p4.mono c.ff⟩
   | own es=>
    obtain⟨l,vs,e,p3,p4,p5,p6⟩:=p2;have hl:=far j _ w l hij q p1 e;exact⟨l,vs,e,c.st _ _ (zaY hl p3),p4.mono c.ff,(c.nw _ _ (zaY hl p3) rfl).trans p5,p6⟩
   | vw es=>
    obtain⟨l,vs,e,p3,p4⟩:=p2;have hl:=far j _ w l hij q p1 e;exact⟨l,vs,e,c.st _ _ (zaY hl p3),p4.mono c.ff⟩
   | obj p=>
    obtain⟨Aj,tj,nj,fj⟩:=p2;obtain⟨m1,m2⟩:=mv j w p Aj hij q p1 tj;exact⟨Aj,m1,nj,fun a ha=>⟨(m2 a ha).trans (fj a ha).1,(fj a ha).2⟩⟩
   | bt ds=>obtain⟨l,vs,e,p3,p4⟩:=p2;exact⟨l,vs,e,p3,p4.mono c.ff⟩
 ·rw[bf] at q1 q3;by_cases hia:i=a
  ·subst hia;rw[if_pos rfl] at q1;split at q1 <;> cases q1
  ·rw[if_neg hia] at q1;by_cases hib:i=b
   ·subst hib;rw[if_pos rfl] at q3;split at q3
    ·cases q3;cases q4
    ·cases q3
   ·rw[if_neg hib] at q3;exact s.ap a b l2 es e' hab q1 q2 q3 q4
 ·have key:∀ (j:Nat) (e:Ent) (w:V),i ≠ j->δ[j]? = aa (aa e)->σ[j]? = aa (aa w)->Occ K F' H' w e ad->Occ K F' H' v (.obj o') ad->False:=fun j e w hij z1 z2 z3 z4=>by
   have z5:=bk j e w ad hij z1 z2 z3;obtain⟨u,hu⟩:=s.occ z1 z2 z5;obtain⟨A2,t2,h2⟩:=z4;rw[t2.det t'] at h2;have:=(f' ad h2).2;rw[zaY (far j e w ad hij z1 z2 z5) hu] at this;cases this
  rw[bf] at q1 q3;by_cases hia:i=a
  ·subst hia;rw[if_pos rfl] at q1;rw[if_neg hab] at q3;split at q1
   ·cases q1;rw[hs] at q2;cases q2;exact key b e2 v2 hab q3 q4 q7 q6
   ·cases q1
  ·rw[if_neg hia] at q1;by_cases hib:i=b
   ·subst hib;rw[if_pos rfl] at q3;split at q3
    ·cases q3;rw[hs] at q4;cases q4;exact key a e1 v1 hia q1 q2 q6 q7
    ·cases q3
   ·rw[if_neg hib] at q3;exact s.ao a b e1 e2 v1 v2 ad hab q1 q2 q3 q4 q5 (bk a e1 v1 ad hia q1 q2 q6) (bk b e2 v2 ad hib q3 q4 q7)
 ·rw[bf] at hp;by_cases hi0:i=0
  ·subst hi0;exact s.pn w o hw hi
  ·rw[if_neg hi0] at hp;exact s.pn w p hw hp
def TRs.focus:∀ {vs:List V} {os:List OT} {A:List af} {k:Nat} {x:OT},TRs K F H vs os A->os[k]? = aa x->∃ v A1,vs[k]? = aa v/\TR K F H v x A1/\(∀ a ∈ A1,a ∈ A)/\(A.Nodup->A1.Nodup) /\
  ∀ (F' H':Hp) (x':OT) (A1':List af),A.Nodup->Same F F'->(∀ a ∈ A,a ∉ A1->H' a=H a)->TR K F' H' v x' A1'->A1'.Nodup->(∀ a ∈ A1',a ∈ A1 \/ a ∉ A)->∃ A',TRs K F' H' vs (os.set k x') A'/\A'.Nodup/\∀ a ∈ A',(a ∈ A/\a ∉ A1) \/ a ∈ A1'
 | _,_,_,k,x,.nil,h=>by simp at h
 | _,_,_,0,x,.cons (A:=A0) (A':=A2) t ts,h=>by
  simp at h;subst h;refine⟨_,A0,rfl,t,fun a ha=>bg _ ha,fun n=>(bG.mp n).1,fun F' H' x' A1' n sf hh t' n' hd=>?_⟩;obtain⟨n0,n2,nd⟩:=bG.mp n;refine⟨A1' ++ A2,.cons t' (ts.move sf fun a ha=>hh a (aA _ ha) fun h0=>nd a h0 a ha rfl),bG.mpr ⟨n',n2,fun a ha b hb e=>?_⟩,fun a ha=>?_⟩
  ·subst e;rcases hd a ha with h | h
   ·exact nd a h a hb rfl
   ·exact h (aA _ hb)
  ·rcases bj.mp ha with h | h
   ·exact .inr h
   ·exact .inl ⟨aA _ h,fun h0=>nd a h0 a h rfl⟩
 | _,_,_,k+1,x,.cons (A:=A0) (A':=A2) t ts,h=>by
  obtain⟨v,A1,h1,h2,h3,h3n,h4⟩:=TRs.focus (k:=k) (x:=x) ts (by simpa using h)
  refine⟨v,A1,by simpa using h1,h2,fun a ha=>aA _ (h3 a ha),fun n=>h3n (bG.mp n).2.1,fun F' H' x' A1' n sf hh t' n' hd=>?_⟩;obtain⟨n0,n2,nd⟩:=bG.mp n;obtain⟨A',m1,m2,m3⟩:=h4 F' H' x' A1' n2 sf (fun a ha hn=>hh a (aA _ ha) hn) t' n' fun a ha=>(hd a ha).imp id fun z q=>z (aA _ q);refine⟨A0 ++ A',.cons (t.move sf fun a ha=>hh a (bg _ ha) fun z=>nd a ha a (h3 a z) rfl) m1,bG.mpr ⟨n0,m2,fun a ha b hb e=>?_⟩,fun a ha=>?_⟩
  ·subst e;rcases m3 a hb with h | h
   ·exact nd a ha a h.1 rfl
   ·rcases hd a h with h | h
    ·exact nd a ha a (h3 a h) rfl
    ·exact h (bg _ ha)
  ·rcases bj.mp ha with h | h
   ·exact .inl ⟨bg _ h,fun z=>nd a h a (h3 a z) rfl⟩
   ·exact(m3 a h).imp (fun z=>⟨aA _ z.1,z.2⟩) id
def TRs.put{y:V}{x:OT}{A1:List af}(ty:TR K F H y x A1):∀ {vs:List V} {os:List OT} {A:List af} {k:Nat},TRs K F H vs os A->k<os.length->A.Nodup->A1.Nodup->(∀ a ∈ A1,a ∉ A)->∃ A',TRs K F H (vs.set k y) (os.set k x) A'/\A'.Nodup/\∀ a ∈ A',a ∈ A \/ a ∈ A1
 | _,_,_,k,.nil,h,_,_,_=>by simp at h
 | _,_,_,0,.cons (A:=A0) (A':=A2) t ts,_,n,n1,hd=>by
  obtain⟨n0,n2,nd⟩:=bG.mp n;refine⟨A1 ++ A2,.cons ty ts,bG.mpr ⟨n1,n2,fun a ha b hb e=>?_⟩,fun a ha=>?_⟩
  ·subst e;exact hd a ha (aA _ hb)
  ·exact(bj.mp ha).elim .inr fun z=>.inl (aA _ z)
 | _,_,_,k+1,.cons (A:=A0) (A':=A2) t ts,h,n,n1,hd=>by
  obtain⟨n0,n2,nd⟩:=bG.mp n;obtain⟨A',m1,m2,m3⟩:=TRs.put ty (k:=k) ts (by simpa using h) n2 n1 fun a ha z=>hd a ha (aA _ z);refine⟨A0 ++ A',.cons t m1,bG.mpr ⟨n0,m2,fun a ha b hb e=>?_⟩,fun a ha=>?_⟩
  ·subst e;rcases m3 a hb with z | z
   ·exact nd a ha a z rfl
   ·exact hd a z (bg _ ha)
  ·rcases bj.mp ha with z | z
   ·exact .inl (bg _ z)
   ·exact(m3 a z).imp (aA _) id
def TRs.add{y:V}{x:OT}{A1:List af}(ty:TR K F H y x A1):∀ {vs:List V} {os:List OT} {A:List af},TRs K F H vs os A->∃ A',TRs K F H (vs ++ [y]) (os ++ [x]) A'/\A'=A ++ A1
 | _,_,_,.nil=>⟨A1,by simpa using TRs.cons ty .nil,by simp⟩
 | _,_,_,.cons (A:=A0) t ts=>by
  obtain⟨A',m1,m2⟩:=TRs.add ty ts;exact⟨A0 ++ A',.cons t m1,by rw[m2,bF]⟩
def zcY:∀ {ns:List Str} {vs:List V} {k:Nat} {f:Str} {v:V},ns.Nodup->ns[k]? = aa f->vs[k]? = aa v->(ns.zip vs).lookup f=aa v
 | [],_,_,_,_,_,h,_=>by simp at h
 | _ :: _,[],_,_,_,_,_,h=>by simp at h
 | n :: ns,w :: vs,0,f,v,_,h1,h2=>by
  simp at h1 h2;subst h1;subst h2;simp[cf]
 | n :: ns,w :: vs,k+1,f,v,nd,h1,h2=>by
  have h1':ns[k]? = aa f:=by simpa using h1
  have hne:(f == n)=false:=by
   rw[beq_eq_false_iff_ne];intro e;subst e;exact(aG.mp nd).1 (cL h1')
  rw[cx,cf,hne];exact zcY (aG.mp nd).2 h1' (by simpa using h2)
def zdu:∀ {ns:List Str} {vs:List V} {f:Str},f ∉ ns->(ns.zip vs).lookup f=ab
 | [],_,_,_=>rfl
 | _ :: _,[],_,_=>rfl
 | n :: ns,w :: vs,f,h=>by
  have hne:(f == n)=false:=by
   rw[beq_eq_false_iff_ne];intro e;exact h (by simp[e])
  rw[cx,cf,hne];exact zdu fun z=>h (aj _ z)
def zig:∀ {ns:List Str} {vs:List V} {k:Nat} {f:Str} {y:V},ns.Nodup->ns[k]? = aa f->ns.length=vs.length->zfc f y (ns.zip vs)=ns.zip (vs.set k y)
 | [],_,_,_,_,_,h,_=>by simp at h
 | _ :: _,[],_,_,_,_,_,h=>by simp at h
 | n :: ns,w :: vs,0,f,y,_,h,_=>by
  simp at h;subst h;simp[zfc]
 | n :: ns,w :: vs,k+1,f,y,nd,h,hl=>by
  have h':ns[k]? = aa f:=by simpa using h
  have hne:¬ n=f:=fun e=>by subst e;exact(aG.mp nd).1 (cL h')
  rw[cx,zfc,if_neg hne,zig (aG.mp nd).2 h' (by simpa using hl)];rfl
def putF_new{ns:List Str}{vs:List V}{f:Str}{y:V}(h:f ∉ ns)(hl:ns.length=vs.length):zfc f y (ns.zip vs)=(ns ++ [f]).zip (vs ++ [y]):=by
 induction ns generalizing vs with
 | nil=>
  cases vs with
  | nil=>rfl
  | cons w vs=>simp at hl
 | cons n ns ih=>
  cases vs with
  | nil=>simp at hl
  | cons w vs=>
   have hne:¬ n=f:=fun e=>h (by simp[e]);rw[cx,zfc,if_neg hne,ih (fun z=>h (aj _ z)) (by simpa using hl)];rfl
def toO:Ent->Option OT
 | .val d=>aa (.val d)
 | .own ds=>aa (.lst ds)
 | .obj o=>aa o
 | _=>ab
def RepR.toO{e:Ent}{x:OT}(r:RepR K H0 F H v e)(q:toO e=aa x):NObj K H0 F H v x:=by
 cases e with
 | val d=>cases q;exact⟨[],.val r,.nil,fun a h=>by cases h⟩
 | own ds=>cases q;obtain⟨l,vs,e,h0,h1,rs,h2⟩:=r;subst e;exact⟨[l],.lst h1 rs,by simp,fun a h=>by simp at h;subst h;exact⟨h2,h0⟩⟩
 | obj o=>cases q;obtain⟨_,A,t,n,h⟩:=r;exact⟨A,t,n,h⟩
 | _=>cases q
end
noncomputable def isC(c:Str)(ns:List Str):OT->Option (List OT)
 | .ins c' ns' l=>gif (c'=c/\ns'=ns) (aa l)
 | _=>ab
def zdz{c:Str}{ns:List Str}{l:List OT}:isC c ns (.ins c ns l)=aa l:=zhE ⟨rfl,rfl⟩
def zcH{c:Str}{ns:List Str}{o:OT}{l:List OT}(h:isC c ns o=aa l):o=.ins c ns l:=by
 cases o with
 | ins c' ns' l'=>
  obtain⟨⟨h1,h2⟩,h3⟩:=zba h;cases h3;rw[h1,h2]
 | _=>cases h
def oAt(i:Nat):En->Option OT:=fun δ=>match δ[i]? with
 | some (aa (.obj o))=>aa o
 | _=>ab
def zav{i:Nat}{δ:En}{o:OT}(h:oAt i δ=aa o):δ[i]? = aa (aa (.obj o)):=by
 unfold oAt at h;split at h
 ·rename_i o' e;cases h;exact e
 ·cases h
structure ClsF(K:ag)(c:Str)(ns:List Str):Prop where
 h:∀ C,zbw K c C->Cls K C/\∀ f ∈ ns,NoAttr K C f
def zbt{K:ag}{c:Str}{C C':af}(h:zbw K c C)(h':zbw K c C'):C=C':=by
 have:=h.symm.trans h';simp at this;exact this
section
variable {X:Cx}{e:Expr}{pos pos' p:Pos}{fe:FE}{x f c:Str}{i k:Nat}{ns nsF:List Str}
end
section
variable {K:ag}{B:Bd}{F H F1 H1 F' H' H0:Hp}{σ:Sg}{δ:En}{v w:V}{A A' A1 A1':List af}{a dx C:af}{i k:Nat}{o x' x1:OT}{c:Str}{ns ns':List Str}{vs vs':List V}{l l':List OT}
def RS.fld(s:RS K B F H σ δ)(x:Ex F H F1 H1)(hi:δ[i]? = aa (aa (.obj (.ins c ns l))))(hs:σ[i]? = aa (aa (.ref a)))(hcl:zbw K c C)(e1:H a=aa (.ins C dx (ns.zip vs)))(e2:H dx=aa (.own a))(hl:ns.length=vs.length)(ts:TRs K F H vs l A)(n:(a :: dx :: A).Nodup)
  (hl':ns'.length=vs'.length) (ts':TRs K F1 H1 vs' l' A') (n':A'.Nodup) (hA:∀ b ∈ A',b ∈ A \/ (F1 b=ab/\H b=ab)) :
  RS K B F1 (upd H1 a (.ins C dx (ns'.zip vs'))) σ (δ.set i (aa (.obj (.ins c ns' l'))))/\FX B F F1:=by
 have t:TR K F H (.ref a) (.ins c ns l) (a :: dx :: A):=.ins hcl e1 e2 hl ts;obtain⟨A0,t0,n0,f0⟩:=s.at hi hs;cases t0.det t;have fA:∀ b ∈ a :: dx :: A,F1 b=ab:=fun b hb=>((t.ext x).2 b hb).trans (f0 b hb).1;have hadx:a ≠ dx:=fun e=>(aG.mp n).1 (by rw[e];exact am);have haA:a ∉ A:=fun e=>(aG.mp n).1 (aj _ e);have hdA:dx ∉ A:=(aG.mp (aG.mp n).2).1;have ha':a ∉ A':=fun e=>(hA a e).elim haA fun z=>by rw[e1] at z;cases z.2
 have hd':dx ∉ A':=fun e=>(hA dx e).elim hdA fun z=>by rw[e2] at z;cases z.2
 refine s.chg hi hs t ⟨x.ff,fun b u h=>?_,fun b u h=>?_,fun b u h ht=>?_⟩ (.ins hcl zai (by rw[zam (ce hadx)];exact x.hh _ _ e2) hl' (ts'.move (Same.refl _) fun b hb=>zam fun e=>ha' (e ▸ hb))) ?_ fun b hb=>?_
 ·rw[zam fun e=>by subst e;rw[fA b am] at h;cases h];exact x.fh _ _ h
 ·obtain⟨h1,h2⟩:=zaC h;rw[zam fun e=>h1 (by rw[e];exact am)];exact x.hh _ _ h2
 ·exact x.nw _ _ (zaC h).2 ht
 ·refine aG.mpr ⟨fun h=>?_,aG.mpr ⟨hd',n'⟩⟩;rcases az.mp h with e | e
  ·exact hadx e
  ·exact ha' e
 ·rcases az.mp hb with e | hb
  ·subst e;exact⟨fA b am,zbQ am⟩
  ·rcases az.mp hb with e | hb
   ·subst e;exact⟨fA b (aj _ am),zbQ (aj _ am)⟩
   ·rcases hA b hb with z | z
    ·exact⟨fA b (aj _ (aj _ z)),zbQ (aj _ (aj _ z))⟩
    ·refine⟨z.1,?_⟩;unfold zee;split
     ·rfl
     ·exact z.2
def RS.sub(s:RS K B F H σ δ)(hi:δ[i]? = aa (aa (.obj (.ins c ns l))))(hs:σ[i]? = aa (aa (.ref a)))(hcl:zbw K c C)(e1:H a=aa (.ins C dx (ns.zip vs)))(e2:H dx=aa (.own a))(hl:ns.length=vs.length)(ts:TRs K F H vs l A)
  (hk:l[k]? = aa x1) (hv:vs[k]? = aa w) (t1:TR K F H w x1 A1) (ch:Chg H F F' H' A1) (t':TR K F' H' w x' A1') (n':A1'.Nodup) (f':∀ b ∈ A1',F' b=ab/\zee H A1 b=ab) :
  RS K B F' H' σ (δ.set i (aa (.obj (.ins c ns (l.set k x')))))/\FX B F F':=by
 have t:TR K F H (.ref a) (.ins c ns l) (a :: dx :: A):=.ins hcl e1 e2 hl ts;obtain⟨A0,t0,n,f0⟩:=s.at hi hs;cases t0.det t;obtain⟨w',B1,hw,tb,sb,_,go⟩:=ts.focus hk
 rw[hv] at hw;cases hw;cases tb.det t1;have haA:a ∉ A:=fun e=>(aG.mp n).1 (aj _ e);have hadx:a ≠ dx:=fun e=>(aG.mp n).1 (by rw[e];exact am);have hdA:dx ∉ A:=(aG.mp (aG.mp n).2).1;have nA:A.Nodup:=(aG.mp (aG.mp n).2).2;have stay:∀ b u,b ∉ A1->H b=aa u->H' b=aa u:=fun b u hb hu=>ch.st _ _ (zaY hb hu);have new:∀ b ∈ A1',∀ u,b ∉ A1->H b ≠ aa u:=fun b hb u h1 h2=>by have:=(f' b hb).2;rw[zaY h1 h2] at this;cases this
 obtain⟨A2,m1,m2,m3⟩:=go F' H' x' A1' nA ch.ff (fun b hb hn=>by
  obtain⟨u,hu,_⟩:=ts.lies b hb;rw[stay b u hn hu,hu]) t' n' fun b hb=>by
   by_cases h1:b ∈ A1
   ·exact .inl h1
   ·exact .inr fun h2=>by obtain⟨u,hu,_⟩:=ts.lies b h2;exact new b hb u h1 hu
 have ha1:a ∉ A1:=fun e=>haA (sb a e);have hd1:dx ∉ A1:=fun e=>hdA (sb dx e);have ha2:a ∉ A2:=fun e=>(m3 a e).elim (fun z=>haA z.1) fun z=>new a z _ ha1 e1;have hd2:dx ∉ A2:=fun e=>(m3 dx e).elim (fun z=>hdA z.1) fun z=>new dx z _ hd1 e2;refine s.chg hi hs t ⟨ch.ff,ch.fh,fun b u h=>?_,fun b u h ht=>?_⟩ (.ins hcl (stay _ _ ha1 e1) (stay _ _ hd1 e2) hl m1) ?_ fun b hb=>?_
 ·obtain⟨h1,h2⟩:=zaC h;exact stay b u (fun e=>h1 (aj _ (aj _ (sb b e)))) h2
 ·obtain⟨h1,h2⟩:=zaC h;exact ch.nw b u (zaY (fun e=>h1 (aj _ (aj _ (sb b e)))) h2) ht
 ·refine aG.mpr ⟨fun h=>?_,aG.mpr ⟨hd2,m2⟩⟩;rcases az.mp h with e | e
  ·exact hadx e
  ·exact ha2 e
 ·have old:∀ b u,b ∈ a :: dx :: A->b ∉ A1->H b=aa u->isT u=false->F' b=ab/\zee H (a :: dx :: A) b=ab:=fun b u h1 h2 h3 h4=>⟨(ch.nw b u (zaY h2 h3) h4).trans (f0 b h1).1,zbQ h1⟩
  rcases az.mp hb with e | hb
  ·subst e;exact old b _ am ha1 e1 rfl
  ·rcases az.mp hb with e | hb
   ·subst e;exact old b _ (aj _ am) hd1 e2 rfl
   ·rcases m3 b hb with z | z
    ·obtain⟨u,hu,hu'⟩:=ts.lies b z.1;exact old b u (aj _ (aj _ z.1)) z.2 hu hu'
    ·refine⟨(f' b z).1,?_⟩;by_cases h1:b ∈ A1
     ·exact zbQ (aj _ (aj _ (sb b h1)))
     ·have:=(f' b z).2;rw[zdJ h1] at this;unfold zee;split
      ·rfl
      ·exact this
end
noncomputable def fFSet(i:Nat)(c:Str)(ns:List Str)(k:Nat)(fe:FE):FS:=fun δ=>((fe δ).bind toO).bind fun y=>((oAt i δ).bind (isC c ns)).bind fun l=>if k<l.length then aa (.nx (δ.set i (aa (.obj (.ins c ns (l.set k y)))))) else ab
noncomputable def ziY(i:Nat)(c:Str)(ns:List Str)(f:Str)(fe:FE):FS:=fun δ=>((fe δ).bind toO).bind fun y=>((oAt i δ).bind (isC c ns)).bind fun l=>aa (.nx (δ.set i (aa (.obj (.ins c (ns ++ [f]) (l ++ [y]))))))
def lOf:OT->Option (List D)
 | .lst ds=>aa ds
 | _=>ab
section
variable {X:Cx}{e:Expr}{pos pos' p:Pos}{fe:FE}{x f c:Str}{i k:Nat}{ns nsF:List Str}
def sFSet(i k:Nat)(hc:ClsF X.K c nsF)(he:VE X e fe)(hf:f ∈ nsF:=by decide +kernel)(hk:ns[k]? = aa f:=by rfl)(hn:ns.Nodup:=by decide +kernel)(hfew:ns.length<1000:=by decide)(hN:X.N[i]? = aa x:=by rfl)(hv:Vis X.env.scope x:=by first | exact aK rfl | exact be (aK rfl) | exact be (be rfl))(hd:(x == ("__debug__" : Str))=false:=by decide)
  (hcd:(x == ("__classdict__" : Str))=false:=by decide) (hs:swapsWith e (aa (.Attribute (.Name x p) f pos')) pos.line X.env=pure false:=by rfl):VS X (.Assign [.Attribute (.Name x p) f pos'] e pos) (fFSet i c ns k fe):=by
 obtain⟨t,w,m⟩:=he.h;refine⟨_,⟨ps_fld (wv i hN hv hd hcd).h w.h hs⟩,fun B F H σ δ out DD s q kk=>?_⟩;obtain⟨y,q1,q⟩:=bind_some q;obtain⟨r,q1,q2⟩:=bind_some q1;obtain⟨l,q3,q⟩:=bind_some q;obtain⟨o,q3,q4⟩:=bind_some q3;split at q
 ·rename_i hlt;cases q;cases zcH q4;refine m B F H σ δ r _ s q1 fun yv F1 H1 x1 z=>?_;obtain⟨v,h1,A,t,n,h⟩:=s.ent i _ (zav q3);cases t with
  | ins hcl e1 e2 hl ts=>
   obtain⟨g1,g2⟩:=hc.h _ hcl;obtain⟨A1,ty,n1,f1⟩:=z.toO q2;have nA:=(aG.mp (aG.mp n).2).2;obtain⟨A',m1,m2,m3⟩:=TRs.put ty (ts.move x1.ff fun b hb=>let⟨u,hu,_⟩:=ts.lies b hb;(x1.hh _ _ hu).trans hu.symm) hlt nA n1 fun b hb hb'=>by
    obtain⟨u,hu,_⟩:=ts.lies b hb';rw[(f1 b hb).2] at hu;cases hu
   obtain⟨r1,r2⟩:=s.fld (ns':=ns) x1 (zav q3) h1 hcl e1 e2 hl ts n (by rw[dC];exact hl) m1 m2 fun b hb=>(m3 b hb).imp id fun z=>f1 b z;refine⟨_,h1,_,_,_,_,rfl,x1.hh _ _ e1,g1,g2 f hf,?_,?_⟩
   ·rw[fg];lia
   ·rw[zig hn hk hl];exact kk σ F1 _ r1 r2
 ·cases q
def sFNew(i:Nat)(hc:ClsF X.K c nsF)(he:VE X e fe)(hf:f ∈ nsF:=by decide +kernel)(hn:f ∉ ns:=by decide +kernel)(hfew:ns.length<1000:=by decide)(hN:X.N[i]? = aa x:=by rfl)(hv:Vis X.env.scope x:=by first | exact aK rfl | exact be (aK rfl) | exact be (be rfl))(hd:(x == ("__debug__" : Str))=false:=by decide)
  (hcd:(x == ("__classdict__" : Str))=false:=by decide) (hs:swapsWith e (aa (.Attribute (.Name x p) f pos')) pos.line X.env=pure false:=by rfl):VS X (.Assign [.Attribute (.Name x p) f pos'] e pos) (ziY i c ns f fe):=by
 obtain⟨t,w,m⟩:=he.h;refine⟨_,⟨ps_fld (wv i hN hv hd hcd).h w.h hs⟩,fun B F H σ δ out DD s q kk=>?_⟩;obtain⟨y,q1,q⟩:=bind_some q;obtain⟨r,q1,q2⟩:=bind_some q1;obtain⟨l,q3,q⟩:=bind_some q;obtain⟨o,q3,q4⟩:=bind_some q3;cases q;cases zcH q4;refine m B F H σ δ r _ s q1 fun yv F1 H1 x1 z=>?_;obtain⟨v,h1,A,t,n,h⟩:=s.ent i _ (zav q3);cases t with
 | ins hcl e1 e2 hl ts=>
  obtain⟨g1,g2⟩:=hc.h _ hcl;obtain⟨A1,ty,n1,f1⟩:=z.toO q2;have nA:=(aG.mp (aG.mp n).2).2;obtain⟨A',m1,m2⟩:=TRs.add ty (ts.move x1.ff fun b hb=>let⟨u,hu,_⟩:=ts.lies b hb;(x1.hh _ _ hu).trans hu.symm);subst m2;obtain⟨r1,r2⟩:=s.fld (ns':=ns ++ [f]) x1 (zav q3) h1 hcl e1 e2 hl ts n (by simp[hl]) m1 (bG.mpr ⟨nA,n1,fun b hb b' hb' e=>by
   subst e;obtain⟨u,hu,_⟩:=ts.lies b hb;rw[(f1 b hb').2] at hu;cases hu⟩) fun b hb=>(bj.mp hb).imp id fun z=>f1 b z
  refine⟨_,h1,_,_,_,_,rfl,x1.hh _ _ e1,g1,g2 f hf,?_,?_⟩
  ·rw[fg];lia
  ·rw[putF_new hn hl];exact kk σ F1 _ r1 r2
end
end L3

namespace L3
open PySem PySem.Spec PyProof.Rows L2
abbrev FXE:=En->Option (D × En)
abbrev FXT:=En->Option (Bool × En)
abbrev FXA:=En->Option (List D × En)
abbrev GM:=OT->List D->Option (D × OT)
def SemX(K:ag)(t:TE)(f:FXE):Prop:=∀ (B:Bd) (F H:Hp) (σ:Sg) (δ:En) (d:D) (δ':En) (Q:VK),RS K B F H σ δ->f δ=aa (d,δ')->(∀ v F' H',RS K B F' H' σ δ'->FX B F F'->Rep F' v d->Q v H')->t σ H Q
def SemXT(K:ag)(t:TT)(f:FXT):Prop:=∀ (B:Bd) (F H:Hp) (σ:Sg) (δ:En) (b:Bool) (δ':En) (Q:Bool->Hp->Prop),RS K B F H σ δ->f δ=aa (b,δ')->(∀ F' H',RS K B F' H' σ δ'->FX B F F'->Q b H')->t σ H Q
def SemXA(K:ag)(t:TA)(f:FXA):Prop:=∀ (B:Bd) (F H:Hp) (σ:Sg) (δ:En) (ds:List D) (δ':En) (Q:List V->Hp->Prop),RS K B F H σ δ->f δ=aa (ds,δ')->(∀ vs F' H',RS K B F' H' σ δ'->FX B F F'->Reps F' vs ds->Q vs H')->t σ H Q
structure VX(X:Cx)(e:Expr)(f:FXE):Prop where
 h:∃ t,WE X e t/\SemX X.K t f
structure VXT(X:Cx)(e:Expr)(f:FXT):Prop where
 h:∃ t,WT X e t/\SemXT X.K t f
structure VXA(X:Cx)(es:List Expr)(f:FXA):Prop where
 h:∃ t,WA X es t/\SemXA X.K t f
def xP(fe:FE):FXE:=fun δ=>((fe δ).bind asV).map fun d=>(d,δ)
def xNil:FXA:=fun δ=>aa ([],δ)
def zdP(fe:FXE)(fa:FXA):FXA:=fun δ=>(fe δ).bind fun p=>(fa p.2).map fun q=>(p.1 :: q.1,q.2)
def xC(ks:List Kd)(g:List D->Option Ent)(fa:FXA):FXE:=fun δ=>(fa δ).bind fun p=>(((zbF ks (p.1.map .val)).bind g).bind asV).map fun d=>(d,p.2)
def x2(g:Ent->Ent->Option Ent)(fa fb:FXE):FXE:=fun δ=>(fa δ).bind fun p=>(fb p.2).bind fun q=>((g (.val p.1) (.val q.1)).bind asV).map fun d=>(d,q.2)
section
variable {X:Cx}{a b c e:Expr}{es rest:List Expr}{pos p:Pos}{fa fb:FXE}{fs:FXA}{ft:FXT}{fe:FE}{x:Str}
def zi1(he:VE X e fe):VX X e (xP fe):=by
 obtain⟨t,w,m⟩:=he.h;refine⟨t,w,fun B F H σ δ d δ' Q s q k=>?_⟩;obtain⟨d',q1,q⟩:=map_some q;cases q;obtain⟨r,q1,q2⟩:=bind_some q1;refine m B F H σ δ r _ s q1 fun v F1 H1 x1 z=>?_;obtain⟨F2,x2,_,r2⟩:=RepR.frz x1 (Same.refl _) z q2;exact k v F2 H1 (s.ext x2) (.of x2 s.bh) r2
def xnil:VXA X [] xNil:=⟨_,wnil,fun B F H σ δ ds δ' Q s q k=>by cases q;exact k [] F H s .refl .nil⟩
def zg4(ha:VX X e fa)(hr:VXA X es fs)(h:zak e=true:=by rfl):VXA X (e :: es) (zdP fa fs):=by
 obtain⟨ta,wa,sa⟩:=ha.h;obtain⟨tb,wb,sb⟩:=hr.h;refine⟨_,wac wa wb h,fun B F H σ δ ds δ' Q s q k=>?_⟩;obtain⟨p1,q1,q⟩:=bind_some q;obtain⟨p2,q2,q⟩:=map_some q;cases q;refine sa B F H σ δ p1.1 p1.2 _ s q1 fun v F1 H1 s1 y1 r1=>?_;exact sb B F1 H1 σ p1.2 p2.1 p2.2 _ s1 q2 fun vs F2 H2 s2 y2 r2=>k _ F2 H2 s2 (y1.trans y2) (.cons (Rep.mono y2.ff r1) r2)
def zgt{K:ag}{H0 F H:Hp}:∀ {vs:List V} {ds:List D},Reps F vs ds->RepRs K H0 F H vs (ds.map .val)
 | _,_,.nil=>.nil
 | _,_,.cons h t=>.cons h (zgt t)
def xcl{CX:CXT}{k j:Nat}{f:af}{fd:bw}{ps:List Str}{st:Stmt}{E:XK}{ks:List Kd}{g:List D->Option Ent}(F:FnOk X.prog X.w X.K X.mg X.base CX k f fd ps (spD X.K ks g))(D:Def X.K X.mg x st ps f fd)(hr:Room j X.A)(hg:Gl X x)(hx:zbX CX X E)
  (ha:VXA X (e :: es) fs) (hjk:k<=j:=by decide) (hdb:(x == ("__debug__" : Str))=false:=by decide) (h1:zak e=true:=by rfl) (h2:es.all zak=true:=by rfl) :
  VX X (.Call (.Name x p) (e :: es) [] pos) (xC ks g fs):=by
 obtain⟨t,w,m⟩:=ha.h;refine⟨_,wcl F D hr hg hx w hjk hdb h1 h2,fun B F H σ δ d δ' Q s q k=>?_⟩;obtain⟨p1,q1,q⟩:=bind_some q;obtain⟨d',q2,q⟩:=map_some q;cases q;obtain⟨r,q2,q3⟩:=bind_some q2;obtain⟨ds,q2,q4⟩:=bind_some q2;refine m B F H σ δ p1.1 p1.2 _ s q1 fun vs F1 H1 s1 y1 r1=>?_;obtain⟨F2,x2,_,a2⟩:=RepRs.args (K:=X.K) (Ex.refl s1.fh) (Same.refl _) (zgt r1) q2;rw[aY];refine⟨F2,ds,r,x2.fh,a2,q4,fun v F' H' x3 r3=>?_⟩;obtain⟨F4,x4,_,r4⟩:=RepR.frz x3 (Same.refl _) r3 q3;exact k v F4 H' ((s1.ext x2).ext x4) (y1.trans ((FX.of x2 s1.bh).trans (.of x4 (s1.ext x2).bh))) r4
def SemX.op{K:ag}{r:R2}{ta tb:TE}{g:Ent->Ent->Option Ent}(hr:ziV K r g)(ha:SemX K ta fa)(hb:SemX K tb fb):SemX K (tOp r ta tb) (x2 g fa fb):=fun B F H σ δ d δ' Q s q k=>by
 obtain⟨p1,q1,q⟩:=bind_some q;obtain⟨p2,q2,q⟩:=bind_some q;obtain⟨d',q3,q⟩:=map_some q;cases q;obtain⟨res,q3,q4⟩:=bind_some q3;refine ha B F H σ δ p1.1 p1.2 _ s q1 fun v F1 H1 s1 y1 r1=>?_;refine hb B F1 H1 σ p1.2 p2.1 p2.2 _ s1 q2 fun w F2 H2 s2 y2 r2=>?_;refine hr H2 F2 H2 v w (.val p1.1) (.val p2.1) res Q s2.fh (Same.refl _) (Rep.mono y2.ff r1) r2 q3 fun v' F' H' x3 r3=>?_;obtain⟨F4,x4,_,r4⟩:=RepR.frz x3 (Same.refl _) r3 q4;exact k v' F4 H' (s2.ext x4) ((y1.trans y2).trans (.of x4 s2.bh)) r4
def xop{op:Operator}{g:Ent->Ent->Option Ent}(ho:OpD X (binaryOp op) g)(ha:VX X a fa)(hb:VX X b fb):VX X (.BinOp a op b pos) (x2 g fa fb):=
 let⟨_,wa,sa⟩:=ha.h;let⟨_,wb,sb⟩:=hb.h;let⟨_,h1,h2⟩:=ho;⟨_,wop h1 wa wb,.op h2 sa sb⟩
end
def fX(fx:FXE):FS:=fun δ=>(fx δ).map fun p=>.nx p.2
def zf1(i:Nat)(fx:FXE):FS:=fun δ=>(fx δ).map fun p=>.nx (p.2.set i (aa (.val p.1)))
def fXRet(fx:FXE):FS:=fun δ=>(fx δ).map fun p=>.rt (.val p.1) p.2
def zhp(i:Nat)(fe:FE):FS:=fun δ=>(fe δ).bind fun r=>match r with
 | .obj o=>aa (.nx (δ.set i (aa (.obj o))))
 | _=>ab
section
variable {X:Cx}{e c:Expr}{pos pos' p:Pos}{fx:FXE}{ft:FXT}{fe:FE}{x:Str}{body els:List Stmt}{f g:FS}
def sX(h:VX X e fx)(hs:swapsWith e ab pos.line X.env=pure false:=by rfl):VS X (.Expr e pos) (fX fx):=by
 obtain⟨t,w,m⟩:=h.h;refine⟨_,sex w hs,fun B F H σ δ out DD s q k=>?_⟩;obtain⟨p1,q1,q⟩:=map_some q;cases q;exact m B F H σ δ p1.1 p1.2 _ s q1 fun v F1 H1 s1 y1 _=>k σ F1 H1 s1 y1
def sXSet{i:Nat}(hN:X.N.Nodup)(hi:X.N[i]? = aa x)(hx:Loc X.env.scope x)(h:VX X e fx)(hs:swapsWith e (aa (.Name x pos')) pos.line X.env=pure false:=by rfl)(hf:X.fn x=true \/ X.env.scope.names.lookup x=aa .local:=by first | exact .inl rfl | exact .inr rfl | assumption) :
  VS X (.Assign [.Name x pos'] e pos) (zf1 i fx):=by
 obtain⟨t,w,m⟩:=h.h;refine⟨_,sset hN hi hx w hs hf,fun B F H σ δ out DD s q k=>?_⟩;obtain⟨p1,q1,q⟩:=map_some q;cases q;exact m B F H σ δ p1.1 p1.2 _ s q1 fun v F1 H1 s1 y1 r1=>k _ F1 H1 (s1.putV i r1) y1
def sXRet(h:VX X e fx):VS X (.Return (aa e) pos) (fXRet fx):=by
 obtain⟨t,w,m⟩:=h.h;refine⟨_,sret w,fun B F H σ δ out DD s q k=>?_⟩;obtain⟨p1,q1,q⟩:=map_some q;cases q;exact m B F H σ δ p1.1 p1.2 _ s q1 fun v F1 H1 s1 y1 r1=>k v σ F1 H1 s1 y1 r1
def sSetO{i:Nat}(h0:0<i)(hN:X.N.Nodup)(hi:X.N[i]? = aa x)(hx:Loc X.env.scope x)(he:VE X e fe)(hs:swapsWith e (aa (.Name x pos')) pos.line X.env=pure false:=by rfl)(hf:X.fn x=true \/ X.env.scope.names.lookup x=aa .local:=by first | exact .inl rfl | exact .inr rfl | assumption) :
  VS X (.Assign [.Name x pos'] e pos) (zhp i fe):=by
 obtain⟨t,w,m⟩:=he.h;refine⟨_,sset hN hi hx w hs hf,fun B F H σ δ out DD s q k=>?_⟩;obtain⟨r,q1,q⟩:=bind_some q;cases r with
 | obj o=>cases q;exact m B F H σ δ _ _ s q1 fun v F' H' x z=>k _ F' H' (s.putO x i h0 z) (.of x s.bh)
 | _=>cases q
end
inductive SpM(K:ag)(g:GM)(vs:List V)(H:Hp)(Q:VK):Prop
 | mk (v:V) (ws:List V) (F:Hp) (o:OT) (A:List af) (ds:List D) (d:D) (o':OT):vs=v :: ws->Same F H->TR K F H v o A->A.Nodup->(∀ a ∈ A,F a=ab)->Reps F ws ds->g o ds=aa (d,o') ->
 (∀ x F' H' A',Chg H F F' H' A->TR K F' H' v o' A'->A'.Nodup->(∀ a ∈ A',F' a=ab/\zee H A a=ab)->Rep F' x d->Q x H')->SpM K g vs H Q
def spM(K:ag)(g:GM):Sp:=fun vs H Q _=>SpM K g vs H Q
def endM:Out->Option (D × OT)
 | .rt (.val d) δ=>(oAt 0 δ).map fun o=>(d,o)
 | .nx δ=>(oAt 0 δ).map fun o=>(.non,o)
 | _=>ab
def zjb(n m:Nat)(f:FS)(o:OT)(ds:List D):Option (D × OT):=if ds.length=n then (f (aa (.obj o) :: (ds.map fun d=>aa (.val d)) ++ aJ m ab)).bind endM else ab
section
variable {P:aN}{w:aV}{K:ag}{mg:Str->Option ae}{base:bd}{x qual:Str}{st:Stmt}{f:af}{fd:bw}{N ps:List Str}{k n:Nat}{g:GM}
def zgy(F:FunA K x qual st f fd)(S:FnScope N ps (zac st))(fb:FS)(hk:ps.length=n+1)(hg:∀ o ds r,g o ds=aa r->zjb n (N.length - ps.length) fb o ds=aa r)
  (hbody:∀ (cdv:ae) (A:aX) (outer:List Env) (s:ah) (H:Hp) (E:XK),Room k (A.deeper (envOfC qual (zac st) s.heap.objs.size f cdv))->VSs (cxOf CX0 P w K mg base N qual (zac st) f cdv A outer s H E).nox (zan st) fb) :
  FnOk P w K mg base CX0 (k+1) f fd ps (spM K g):=by
 obtain⟨oc,od,dV,kV,doc,pm,an,cdv,ct,osl,rfl,lk,hcd⟩:=F.ex;refine fn_of lk hcd S (fun vs H Q E h=>?_) fun A outer s H vs Q E hr h=>?_
 ·obtain⟨v,ws,F,o,A,ds,d,o',rfl,_,_,_,_,rs,q,_⟩:=h;have:=hg _ _ _ q;unfold zjb at this;split at this
  ·rename_i hl;rw[aw,rs.length,hl,hk]
  ·cases this
 ·obtain⟨v,ws,F,o,A,ds,d,o',rfl,fh,t,nd,fA,rs,q,kk⟩:=h;obtain⟨tt,wt,m⟩:=(hbody cdv _ outer s H E hr).h;refine⟨tt,wt.h.nox,?_⟩;have q2:=hg _ _ _ q;unfold zjb at q2;split at q2
  ·rename_i hl;obtain⟨out,q3,q4⟩:=bind_some q2;have hws:=rs.length;have ent:∀ (i:Nat) (e:Ent),(aa (Ent.obj o) :: (ds.map fun d=>aa (Ent.val d)) ++ aJ (N.length - ps.length) ab)[i]? = aa (aa e)->(i=0/\e=.obj o) \/ ∃ j d,i=j+1/\ds[j]? = aa d/\e=.val d:=fun i e h=>by
    cases i with
    | zero=>simp at h;exact .inl ⟨rfl,h.symm⟩
    | succ j=>
     rw[gJ,bA] at h;by_cases hj:j<(ds.map fun d=>aa (Ent.val d)).length
     ·rw[cE hj,aD] at h;cases z:ds[j]? with
      | none=>rw[z] at h;cases h
      | some d=>rw[z] at h;cases h;exact .inr ⟨j,d,rfl,z,rfl⟩
     ·rw[cA (by lia),dc] at h;split at h <;> cases h
   have sv:∀ (i:Nat) (y:V),(v :: ws)[i]? = aa y->(L2.start N (v :: ws))[i]? = aa (aa y):=fun i y h=>by
    unfold L2.start;rw[cE (by rw[al];exact(a9.mp h).1),aD,h];rfl
   have s0:RS K ⟨zee H A,aa v⟩ F H (L2.start N (v :: ws)) (aa (.obj o) :: (ds.map fun d=>aa (.val d)) ++ aJ (N.length - ps.length) ab):=by
    refine⟨fh,fun a u h=>(zaC h).2,?_,fun i e h=>?_,fun a b l es e hab h1=>?_,fun a b e1 e2 v1 v2 ad hab q1 q2 q3 q4 q5 q6 q7=>?_,fun w p hw _=>?_⟩
    ·unfold L2.start;simp only[aC,al,cH,aw];lia
    ·rcases ent i e h with ⟨rfl,rfl⟩ | ⟨j,d,rfl,hd,rfl⟩
     ·exact⟨v,sv 0 v rfl,A,t,nd,fun a ha=>⟨fA a ha,zbQ ha⟩⟩
     ·obtain⟨y,hy,ry⟩:=rs.get hd;exact⟨y,sv (j+1) y (by simpa using hy),ry⟩
    ·rcases ent a _ h1 with ⟨_,z⟩ | ⟨j,d,_,_,z⟩ <;> cases z
    ·rcases ent a _ q1 with ⟨rfl,rfl⟩ | ⟨j,d,_,_,rfl⟩
     ·rcases ent b _ q3 with ⟨rfl,_⟩ | ⟨j,d,_,_,rfl⟩
      ·exact hab rfl
      ·exact q7
     ·cases q5
    ·cases hw;exact sv 0 v rfl
   have fin:∀ (δ':En) (σ':Sg) (F' H':Hp) (y:V),RS K ⟨zee H A,aa v⟩ F' H' σ' δ'->FX (zee H A) F F'->oAt 0 δ'=aa o'->Rep F' y d->Q y H':=fun δ' σ' F' H' y s' y' ho ry=>by
    have h0:=s'.pn v o' rfl (zav ho);obtain⟨A',t',n',f'⟩:=s'.at (zav ho) h0;exact kk y F' H' A' ⟨y'.ff,s'.fh,s'.bh,y'.nw⟩ t' n' f' ry
   refine m ⟨zee H A,aa v⟩ F H (L2.start N (v :: ws)) _ out _ s0 q3 ?_;cases out with
   | nx δ'=>
    obtain⟨o2,h1,h2⟩:=map_some q4;cases h2;exact fun σ' F' H' s' y=>fin δ' σ' F' H' .non s' y h1 .non
   | rt r' δ'=>
    cases r' with
    | val d'=>
     obtain⟨o2,h1,h2⟩:=map_some q4;cases h2;exact fun y σ' F' H' s' yy z=>fin δ' σ' F' H' y s' yy h1 z
    | _=>cases q4
   | bk δ'=>cases q4
   | ct δ'=>cases q4
  ·cases q2
end
structure MethD(K:ag)(c:Str)(m:Str)(st:Stmt)(qual:Str)(ps:List Str)(f:af)(fd:bw):Prop where
 fn:FunA K m qual st f fd
 at_:∀ C,zbw K c C->Meth K C m f
 b:Binds K fd ps []
noncomputable def xM(i:Nat)(c:Str)(ns:List Str)(g:GM)(fa:FA):FXE:=fun δ=>(oAt i δ).bind fun o=>(isC c ns o).bind fun _=>((fa δ).bind ze5).bind fun ds=>(g o ds).map fun p=>(p.1,δ.set i (aa (.obj p.2)))
noncomputable def xMF(i:Nat)(c:Str)(ns:List Str)(k:Nat)(c2:Str)(ns2:List Str)(g:GM)(fa:FA):FXE:=fun δ=>((oAt i δ).bind (isC c ns)).bind fun l=>(l[k]?).bind fun o=>(isC c2 ns2 o).bind fun _=>((fa δ).bind ze5).bind fun ds=>(g o ds).map fun p=>(p.1,δ.set i (aa (.obj (.ins c ns (l.set k p.2)))))
section
variable {X:Cx}{e:Expr}{es:List Expr}{pos pos' p apos:Pos}{fa:FA}{x f m c c2 qual:Str}{ns nsF ns2 nsF2 ps:List Str}{g:GM}{fd:bw}{fm:af}{st:Stmt}{kk j:Nat}{pl:Sem Bool}
def SemM.at{K:ag}{C:af}{t:TA}{E:XK}{i:Nat}(sm:SemA K t fa)(hcl:zbw K c C)(hm:m ∉ ns):SemX K (tMeth C m (spM K g) [] E (zdC i) t) (xM i c ns g fa):=fun B F H σ δ d δ' Q s q k=>by
 obtain⟨o,q0,q⟩:=bind_some q;obtain⟨l,q1,q⟩:=bind_some q;obtain⟨ds,q2,q⟩:=bind_some q;obtain⟨rs,q2,q3⟩:=bind_some q2;obtain⟨p1,q4,q⟩:=map_some q;cases q;cases zcH q1;obtain⟨v,h1,A,t0,n0,f0⟩:=s.ent i _ (zav q0);cases t0 with
 | ins hcl' e1 e2 hl ts=>
  cases zbt hcl hcl';refine⟨_,h1,_,_,_,rfl,e1,zdu hm,?_⟩;refine sm B F H σ δ rs _ s q2 fun vs F1 H1 x1 r1=>?_;obtain⟨F2,x2,_,r2⟩:=RepRs.frz x1 (Same.refl _) r1 q3;have s2:=s.ext x2;have tt:=((TR.ins hcl' e1 e2 hl ts).ext x2)
  rw[aY];refine⟨_,vs,F2,_,_,ds,p1.1,p1.2,rfl,s2.fh,tt.1,n0,fun a ha=>(tt.2 a ha).trans (f0 a ha).1,r2,q4,fun y F' H' A' ch t' n' f' ry=>?_⟩;obtain⟨z1,z2⟩:=s2.chg (zav q0) h1 tt.1 ch t' n' f';exact k y F' H' z1 ((FX.of x2 s.bh).trans z2) ry
def SemM.sub{K:ag}{C2:af}{t:TA}{E:XK}{i k:Nat}(sm:SemA K t fa)(hc:ClsF K c nsF)(hcl2:zbw K c2 C2)(hm:m ∉ ns2)(hf:f ∈ nsF)(hk:ns[k]? = aa f)(hn:ns.Nodup):SemX K (tMeth C2 m (spM K g) [] E (zio K (zdC i) f) t) (xMF i c ns k c2 ns2 g fa):=fun B F H σ δ d δ' Q s q kk=>by
 obtain⟨l,q0,q⟩:=bind_some q;obtain⟨o,q0,q1⟩:=bind_some q0;obtain⟨o1,q5,q⟩:=bind_some q;obtain⟨l2,q6,q⟩:=bind_some q;obtain⟨ds,q2,q⟩:=bind_some q;obtain⟨rs,q2,q3⟩:=bind_some q2;obtain⟨p1,q4,q⟩:=map_some q;cases q;cases zcH q1;cases zcH q6;obtain⟨v,h1,A,t0,n0,f0⟩:=s.ent i _ (zav q0);cases t0 with
 | ins hcl e1 e2 hl ts=>
  obtain⟨g1,g2⟩:=hc.h _ hcl;obtain⟨w,A1,h2,h3,h4,h4n,_⟩:=ts.focus q5
  have nA:=(aG.mp (aG.mp n0).2).2;refine⟨_,h1,_,_,_,_,w,rfl,e1,g1,g2 f hf,zcY hn hk h2,?_⟩;cases h3 with
  | ins hcl' d1 d2 dl us=>
   cases zbt hcl2 hcl';refine⟨_,_,_,rfl,d1,zdu hm,?_⟩;refine sm B F H σ δ rs _ s q2 fun vs F1 H1 x1 r1=>?_;obtain⟨F2,x2,_,r2⟩:=RepRs.frz x1 (Same.refl _) r1 q3;have s2:=s.ext x2;have tt:=((TR.ins hcl' d1 d2 dl us).ext x2)
   have ts2:=ts.move (H':=H1) x2.ff fun b hb=>let⟨u,hu,_⟩:=ts.lies b hb;(x2.hh _ _ hu).trans hu.symm;rw[aY];refine⟨_,vs,F2,_,_,ds,p1.1,p1.2,rfl,s2.fh,tt.1,h4n nA,fun a ha=>(tt.2 a ha).trans (f0 a (aj _ (aj _ (h4 a ha)))).1,r2,q4,fun y F' H' A' ch t' n' f' ry=>?_⟩;obtain⟨z1,z2⟩:=s2.sub (zav q0) h1 hcl (x2.hh _ _ e1) (x2.hh _ _ e2) hl ts2 q5 h2 tt.1 ch t' n' f';exact kk y F' H' z1 ((FX.of x2 s.bh).trans z2) ry
def semNil{K:ag}:SemA K tNil zae:=fun B F H σ δ rs Q s q k=>by cases q;exact k [] F H (Ex.refl s.fh) .nil
variable {CX:CXT}{E:XK}
structure ClsD(K:ag)(mg:Str->Option ae)(c:Str)(nsF:List Str)(C:af):Prop where
 at_:zbw K c C
 mg:mg c=aa (.ref C)
 cl:Cls K C
 no:∀ f ∈ nsF,NoAttr K C f
def ClsD.toF{K:ag}{mg:Str->Option ae}{C:af}(D:ClsD K mg c nsF C):ClsF K c nsF:=⟨fun C' h=>by cases zbt D.at_ h;exact⟨D.cl,D.no⟩⟩
def xmeth{C:af}(i:Nat)(DC:ClsD X.K X.mg c nsF C)(D:MethD X.K c m st qual ps fm fd)(F:FnOk X.prog X.w X.K X.mg X.base CX kk fm fd ps (spM X.K g))(hr:Room j X.A)(hx:zbX CX X E)(ha:VA X (e :: es) fa)(hm:m ∉ ns:=by decide +kernel)(hjk:kk<=j:=by decide)
  (hN:X.N[i]? = aa x:=by rfl) (hv:Vis X.env.scope x:=by first | exact aK rfl | exact be (aK rfl) | exact be (be rfl)) (hd:(x == ("__debug__" : Str))=false:=by decide) (hcd:(x == ("__classdict__" : Str))=false:=by decide)
  (h1:zak e=true:=by rfl) (h2:es.all zak=true:=by rfl)
  (ht:eval (.Call (.Attribute (.Name x p) m apos) (e :: es) [] pos) X.env=(do
   let ov <- eval (.Name x p) X.env
   standAt apos.atName
   let (f,first) <- holding [ov] (getMethod ov m pl)
   callWith pos f first (backTo pos (ba (e :: es) X.env)) (backToKw pos (keywordEach [] X.env))):=by rfl) :
  VX X (.Call (.Attribute (.Name x p) m apos) (e :: es) [] pos) (xM i c ns g fa):=
 let⟨_,w,sm⟩:=ha.h;⟨_,⟨pe_meth (wv i hN hv hd hcd).h DC.cl (D.at_ _ DC.at_) F (hr.mono hjk) D.b .nil hx w.h (zaq h1) (zcs h2) ht⟩,SemM.at sm DC.at_ hm⟩
end
def zd6(c:Str)(g:GM)(fa:FA):FE:=fun δ=>((fa δ).bind ze5).bind fun ds=>(g (.ins c [] []) ds).bind fun p=>match p.1 with
 | .non=>aa (.obj p.2)
 | _=>ab
structure MakeD(K:ag)(c:Str)(st:Stmt)(qual:Str)(ps:List Str)(f:af)(fd:bw):Prop where
 fn:FunA K "__init__" qual st f fd
 at_:∀ C,zbw K c C->Mk K C f
 b:Binds K fd ps []
section
variable {X:Cx}{e:Expr}{es:List Expr}{pos p:Pos}{fa:FA}{c qual:Str}{nsF ps:List Str}{g:GM}{fd:bw}{fm:af}{st:Stmt}{kk j:Nat}{CX:CXT}{E:XK}
def SemE.make{K:ag}{C:af}{t:TA}{E:XK}(sm:SemA K t fa)(hcl:zbw K c C):SemE K (tMake C (spM K g) [] E t) (zd6 c g fa):=fun B F H σ δ res Q s q k=>by
 obtain⟨ds,q1,q⟩:=bind_some q;obtain⟨rs,q1,q2⟩:=bind_some q1;obtain⟨p1,q3,q⟩:=bind_some q;refine sm B F H σ δ rs _ s q1 fun vs F1 H1 x1 r1=>?_;obtain⟨F2,x2,_,r2⟩:=RepRs.frz x1 (Same.refl _) r1 q2;intro a dx ha hdx hne;have fa0:F2 a=ab:=x2.fh.free ha;have fd0:F2 dx=ab:=x2.fh.free hdx;have sH:Same H1 (upd (upd H1 dx (.own a)) a (.ins C dx [])):=(Same.alloc hdx).trans (Same.alloc (by rw[zam (ce hne)];exact ha))
 rw[aY];refine⟨_,vs,F2,.ins c [] [],[a,dx],ds,p1.1,p1.2,rfl,x2.fh.trans sH,?_,by simp[ce hne],fun b hb=>?_,r2,q3,fun y F' H' A' ch t' n' f' ry=>?_⟩
 ·exact .ins (vs:=[]) (A:=[]) hcl zai (by rw[zam hne];exact zai) rfl .nil
 ·simp at hb;rcases hb with rfl | rfl
  ·exact fa0
  ·exact fd0
 ·obtain⟨d0,o0⟩:=p1;cases d0 with
  | non=>
   cases q;have st:∀ b u,H1 b=aa u->zee (upd (upd H1 dx (.own a)) a (.ins C dx [])) [a,dx] b=aa u:=fun b u hb=>zaY (fun z=>by
    simp at z;rcases z with rfl | rfl
    ·rw[ha] at hb;cases hb
    ·rw[hdx] at hb;cases hb) (sH _ _ hb)
   refine⟨zhn ry,k _ F' H' ⟨x2.ff.trans ch.ff,ch.fh,fun b u hb=>ch.st _ _ (st b u (x2.hh _ _ hb)),fun b u hb ht=>(ch.nw b u (st b u (x2.hh _ _ hb)) ht).trans (x2.nw b u hb ht)⟩ ⟨⟨a,rfl⟩,A',t',n',fun b hb=>⟨(f' b hb).1,?_⟩⟩⟩;cases z:H b with
   | none=>rfl
   | some u=>have:=st b u (x2.hh _ _ z);rw[(f' b hb).2] at this;cases this
  | _=>cases q
def vmake{C:af}(DC:ClsD X.K X.mg c nsF C)(D:MakeD X.K c st qual ps fm fd)(F:FnOk X.prog X.w X.K X.mg X.base CX kk fm fd ps (spM X.K g))(hr:Room j X.A)(hg:Gl X c)(hx:zbX CX X E)(ha:VA X (e :: es) fa)(hjk:kk+1<=j:=by decide)(hdb:(c == ("__debug__" : Str))=false:=by decide)
  (h1:zak e=true:=by rfl) (h2:es.all zak=true:=by rfl):VE X (.Call (.Name c p) (e :: es) [] pos) (zd6 c g fa):=
 let⟨_,w,sm⟩:=ha.h;⟨_,⟨pe_make (D.at_ _ DC.at_) F (hr.mono hjk) hg DC.mg D.b .nil hx w.h hdb (zaq h1) (zcs h2)⟩,.make sm DC.at_⟩
end
end L3

namespace L2
open PySem PySem.Spec PyProof.Rows
section
variable {prog:aN}{w:aV}{A:aX}{E:ae->ah->Prop}{s:ah}
structure Rises(st:SortSt):Prop where
 k:kindOf st=oneType'
 r:∀ i,1<=i->i<(arrOf st).size->∃ a t p b u q,(arrOf st)[i]? = aa (.int a t,p)/\(arrOf st)[i - 1]? = aa (.int b u,q)/\b<=a
end
end L2

namespace L2
open PySem PySem.Spec PyProof.Rows
end L2
namespace L3
open PySem PySem.Spec PyProof.Rows L2
noncomputable def gRep:Ent->Ent->Option Ent:=fun x y=>(asLt x).bind fun ds=>(iOf y).bind fun k=>gif (-1000000<=k/\k<=1000000/\ds.length * k.toNat<=1000000) (aa (.own (aJ k.toNat ds).flatten))
def ziB{F:Hp}{vs:List V}{ds:List D}(r:Reps F vs ds):∀ k:Nat,Reps F (aJ k vs).flatten (aJ k ds).flatten
 | 0=>.nil
 | k+1=>by
  rw[cR,cR,dj,dj];exact r.append (ziB r k)
section
variable {X:Cx}
def o_rep:OpD X (binaryOp .Mult) gRep:=⟨_,op_rep,fun H0 F H x y e e' res Q fh hh rx ry q k=>by
 obtain⟨ds,q1,q⟩:=bind_some q;obtain⟨n,q2,q⟩:=bind_some q;obtain⟨⟨h1,h2,h3⟩,qz⟩:=zba q;cases qz;cases zaw q2;obtain⟨l,vs,e1,h4,h5⟩:=RepR.toLt rx fh q1;subst e1;refine⟨l,n,vs,rfl,zaO ry,h4,by lia,by lia,by rw[h5.length,bC];exact bp h3 (by decide),fun p hp=>?_⟩;exact k _ _ _ (Ex.lay fh hp) ⟨p,_,rfl,hh.free hp,zai,ziB h5 _,fh.free hp⟩⟩
end
end L3

namespace L2
open PySem PySem.Spec PyProof.Rows
structure Rk(prog:aN)(w:aV)(A:aX)(s:ah)(kd:SortKind)(D:Keyed->Prop)(rk:Keyed->Nat):Prop where
 lt:∀ x y,D x->D y->∀ (E:ae->ah->Prop) (Q:Bool->ah->Prop),Q (decide (rk x<rk y)) s->ay (model prog w) A (keyLt' kd x.1 y.1) Q E s
section
variable {prog:aN}{w:aV}{A:aX}{E:ae->ah->Prop}{s:ah}{kd:SortKind}{D:Keyed->Prop}{rk:Keyed->Nat}{st:SortSt}
def wpS_q(R:Rk prog w A s kd D rk){x y:Keyed}{Q:Option Bool->SortSt->Prop}(hk:kindOf st=kd)(hx:D x)(hy:D y)(h:Q (aa (decide (rk x<rk y))) st):wpS (model prog w) A E s (lt' x y) Q st:=by
 rw[lt'_eq];refine bI (wpS_get ?_);rw[hk];refine bI (wpS_lift (wpAny_attempt (R.lt x y hx hy _ _ ⟨rfl,?_⟩)));exact cn h
def wpS_el{arr:Array Keyed}{i:Nat}{Q:Keyed->SortSt->Prop}(hi:i<arr.size)(h:Q arr[i] st):wpS (model prog w) A E s (elem' arr i) Q st:=by
 rw[elem'_eq,getElem?_pos arr i hi];exact cn h
def zh3{r:String}{Q:Unit->SortSt->Prop}(h:Q () st):wpS (model prog w) A E s (liftM (rule r):StateT SortSt Sem Unit) Q st:=wpS_lift (wpAny_rule ⟨rfl,h⟩)
end
end L2

namespace L2
open PySem PySem.Spec PyProof.Rows
section
variable {prog:aN}{w:aV}{A:aX}{E:ae->ah->Prop}{s:ah}{kd:SortKind}{D:Keyed->Prop}{rk:Keyed->Nat}{st:SortSt}
def kA(rk:Keyed->Nat)(xs:Array Keyed)(i:Nat):Nat:=(xs[i]?.map rk).getD 0
def kA_at{xs:Array Keyed}{i:Nat}(h:i<xs.size):kA rk xs i=rk xs[i]:=by
 unfold kA;rw[getElem?_pos xs i h];rfl
def Up(rk:Keyed->Nat)(xs:Array Keyed)(lo hi:Nat):Prop:=∀ i j,lo<=i->i<=j->j<hi->kA rk xs i<=kA rk xs j
structure MgR(r:Keyed->Keyed->Prop)(all:List Keyed)(out:Array Keyed)(rest:List Keyed):Prop where
 perm:(out.toList ++ rest).Perm all
 srt:out.toList.Pairwise r
 low:∀ x ∈ out.toList,∀ y ∈ rest,r x y
abbrev Mg(rk:Keyed->Nat):=MgR fun x y=>rk x<=rk y
def MgR.take{r:Keyed->Keyed->Prop}{all rest rest':List Keyed}{out c:Array Keyed}(M:MgR r all out rest)(p:rest.Perm (c.toList ++ rest'))(hs:c.toList.Pairwise r)(hl:∀ x ∈ c.toList,∀ y ∈ rest',r x y):MgR r all (out ++ c) rest':=by
 refine⟨?_,?_,?_⟩
 ·rw[fF,bF];exact(p.symm.append_left _).trans M.perm
 ·rw[fF,List.pairwise_append];exact⟨M.srt,hs,fun x hx y hy=>M.low x hx y (p.mem_iff.mpr (bg _ hy))⟩
 ·intro x hx y hy;rw[fF] at hx;rcases bj.mp hx with hx | hx
  ·exact M.low x hx y (p.mem_iff.mpr (aA _ hy))
  ·exact hl x hx y hy
def MgR.swap{r:Keyed->Keyed->Prop}{all ra rb:List Keyed}{out:Array Keyed}(M:MgR r all out (ra ++ rb)):MgR r all out (rb ++ ra):=by
 have h:=M.take (c:=#[]) (rest':=rb ++ ra) ii .nil (fun x hx=>by cases hx);rwa [Array.append_empty] at h
def Mg.swap{all ra rb:List Keyed}{out:Array Keyed}(M:Mg rk all out (ra ++ rb)):Mg rk all out (rb ++ ra):=MgR.swap M
def Up.mono{xs:Array Keyed}{lo hi lo' hi':Nat}(h:Up rk xs lo hi)(h1:lo<=lo')(h2:hi'<=hi):Up rk xs lo' hi':=fun i j a b c=>h i j (by lia) b (by lia)
section
variable {M:Model}{α σ β γ:Type}{Q:α->σ->Prop}{st:σ}{c:Prop}{_:Decidable c}{c1 c2:γ->Prop}{_:∀ x,Decidable (c1 x)}{_:∀ x,Decidable (c2 x)}{p2:γ->Prop}{p1:γ->β->Prop}{r r2 f:β->γ->StateT σ Sem α}{y1:β}{y2:γ}
end
end
end L2

namespace L2
open PySem PySem.Spec PyProof.Rows
section
variable {prog:aN}{w:aV}{A:aX}{E:ae->ah->Prop}{s:ah}{kd:SortKind}{D:Keyed->Prop}{rk:Keyed->Nat}{st:SortSt}{a₀:Array Keyed}
structure Sb(kd:SortKind)(a₀:Array Keyed)(st:SortSt):Prop where
 perm:(arrOf st).toList.Perm a₀.toList
 kind:kindOf st=kd
 failed:failedOf st=ab
def Sb.size(h:Sb kd a₀ st):(arrOf st).size=a₀.size:=by have:=h.perm.length_eq;simpa using this
def Sb.all(h:Sb kd a₀ st)(hD:∀ x ∈ a₀,D x):∀ x ∈ arrOf st,D x:=fun x hx=>hD x (c8.mp (h.perm.mem_iff.mp (c8.mpr hx)))
abbrev Run:=Nat × Nat × Nat
def Runs(rk:Keyed->Nat)(arr:Array Keyed):List Run->Nat->Nat->Prop
 | [],lo,hi=>lo=hi
 | (s,n,_) :: ps,lo,hi=>s=lo/\1<=n/\Up rk arr lo (lo+n)/\Runs rk arr ps (lo+n) hi
def Runs.le{arr:Array Keyed}:∀ {ps:List Run} {lo hi:Nat},Runs rk arr ps lo hi->lo+ps.length<=hi
 | [],_,_,h=>by cases h;exact au _
 | (_,n,_) :: ps,lo,hi,⟨_,h1,_,h⟩=>by have:=h.le;rw[aw];lia
def Up.congr{arr arr':Array Keyed}{lo hi:Nat}(h:Up rk arr lo hi)(e:∀ i,lo<=i->i<hi->kA rk arr' i=kA rk arr i):Up rk arr' lo hi:=fun i j h1 h2 h3=>by
 rw[e i h1 (by lia),e j (by lia) h3];exact h i j h1 h2 h3
def Runs.congr{arr arr':Array Keyed}:∀ {ps:List Run} {lo hi:Nat},Runs rk arr ps lo hi->(∀ i,lo<=i->i<hi->kA rk arr' i=kA rk arr i)->Runs rk arr' ps lo hi
 | [],_,_,h,_=>h
 | (_,n,_) :: ps,lo,hi,⟨h0,h1,h2,h⟩,e=>by
  have l:=h.le;exact⟨h0,h1,h2.congr fun i a b=>e i a (by lia),h.congr fun i a b=>e i (by lia) b⟩
def Runs.split{arr:Array Keyed}:∀ {ps qs:List Run} {lo hi:Nat},Runs rk arr (ps ++ qs) lo hi->∃ m,Runs rk arr ps lo m/\Runs rk arr qs m hi
 | [],_,lo,_,h=>⟨lo,rfl,h⟩
 | (_,_,_) :: ps,qs,_,_,⟨h0,h1,h2,h⟩=>by
  obtain⟨m,e1,e2⟩:=Runs.split (ps:=ps) h;exact⟨m,⟨h0,h1,h2,e1⟩,e2⟩
def Runs.join{arr:Array Keyed}:∀ {ps qs:List Run} {lo m hi:Nat},Runs rk arr ps lo m->Runs rk arr qs m hi->Runs rk arr (ps ++ qs) lo hi
 | [],_,_,_,_,h,h'=>by cases h;exact h'
 | (_,_,_) :: _,_,_,_,_,⟨h0,h1,h2,h⟩,h'=>⟨h0,h1,h2,h.join h'⟩
end
end L2

namespace L2
open PySem PySem.Spec PyProof.Rows
section
variable {prog:aN}{w:aV}{A:aX}{E:ae->ah->Prop}{s:ah}{kd:SortKind}{D:Keyed->Prop}{rk:Keyed->Nat}{st:SortSt}{a₀:Array Keyed}
def zeo(R:Rk prog w A s kd D rk){i j:Nat}{Q:Option Bool->SortSt->Prop}(B:Sb kd a₀ st)(hD:∀ x ∈ a₀,D x)(hi:i<a₀.size)(hj:j<a₀.size)(h:Q (aa (decide (kA rk (arrOf st) i<kA rk (arrOf st) j))) st):wpS (model prog w) A E s (ltAt' i j) Q st:=by
 rw[<- B.size] at hi hj;have hd:=B.all hD;refine bI (wpS_get ?_);refine bI (wpS_el hi ?_);refine bI (wpS_el hj ?_);refine wpS_q R B.kind (hd _ (gj hi)) (hd _ (gj hj)) ?_;rw[<- kA_at (rk:=rk) hi,<- kA_at (rk:=rk) hj];exact h
structure Kp(rk:Keyed->Nat)(kd:SortKind)(a₀:Array Keyed)(lo:Nat)(st st':SortSt):Prop where
 sb:Sb kd a₀ st'
 pend:fT st'=fT st
 left:∀ j,j<lo->kA rk (arrOf st') j=kA rk (arrOf st) j
def kA_of{xs ys:Array Keyed}{i j:Nat}(h:xs[i]? = ys[j]?):kA rk xs i=kA rk ys j:=by unfold kA;rw[h]
def zhM{xs:Array Keyed}{i j:Nat}(hj:j<=xs.size)(k:Nat):kA rk (mirror xs i j ((j - i) / 2)) k=if i<=k/\k<j then kA rk xs (i+j - 1 - k) else kA rk xs k:=by
 have e:=getElem?_mirror_all (i:=i) hj k;split at e
 ·rename_i c;rw[if_pos c];exact kA_of e
 ·rename_i c;rw[if_neg c];exact kA_of e
def kA_bub{xs:Array Keyed}{src d:Nat}(hs:src<xs.size)(hd:d<=src)(k:Nat):kA rk (bubble xs src d) k=if k=src - d then kA rk xs src else if src - d<k/\k<=src then kA rk xs (k - 1) else kA rk xs k:=by
 have e:=getElem?_bubble hs d hd k;split at e
 ·rename_i c;rw[if_pos c];exact kA_of e
 ·rename_i c;rw[if_neg c];split at e
  ·rename_i c;rw[if_pos c];exact kA_of e
  ·rename_i c;rw[if_neg c];exact kA_of e
def Kp.set{lo:Nat}{st':SortSt}(K:Kp rk kd a₀ lo st st'){xs:Array Keyed}(hp:xs.toList.Perm (arrOf st').toList)(hl:∀ j,j<lo->kA rk xs j=kA rk (arrOf st') j):Kp rk kd a₀ lo st (setArr st' xs):=
 ⟨⟨hp.trans K.sb.perm,K.sb.kind,K.sb.failed⟩,K.pend,fun j hj=>(hl j hj).trans (K.left j hj)⟩
def Kp.mir{lo i j:Nat}{st':SortSt}(K:Kp rk kd a₀ lo st st')(hi:lo<=i)(hj:j<=a₀.size):Kp rk kd a₀ lo st (setArr st' (mirror (arrOf st') i j ((j - i) / 2))):=
 K.set (f9.mp (mirror_perm _ _ _ _)) fun k hk=>by rw[zhM (by rw[K.sb.size];exact hj),if_neg (by lia)]
def Up.more{arr:Array Keyed}{lo n:Nat}(h:Up rk arr lo (lo+n))(hn:1<=n)(hx:kA rk arr (lo+n - 1)<=kA rk arr (lo+n)):Up rk arr lo (lo+(n+1)):=fun i j h1 h2 h3=>by
 by_cases c:j<lo+n
 ·exact h i j h1 h2 c
 ·have:j=lo+n:=by lia
  subst this;by_cases e:i=lo+n
  ·subst e;exact au _
  ·exact bp (h i (lo+n - 1) h1 (by lia) (by lia)) hx
def wpS_asc{lo a nrem:Nat}{f:Nat->Option (Option Nat) × Nat->StateT SortSt Sem (ForInStep (Option (Option Nat) × Nat))}{Q:Option (Option Nat) × Nat->SortSt->Prop}(ha:1<=a)(han:a<=nrem)(hu:Up rk (arrOf st) lo (lo+a))
  (hf:∀ x n (P:ForInStep (Option (Option Nat) × Nat)->SortSt->Prop),1<=n->n<nrem->(kA rk (arrOf st) (lo+n)<kA rk (arrOf st) (lo+n - 1)->P (.done (ab,n)) st)->(¬ kA rk (arrOf st) (lo+n)<kA rk (arrOf st) (lo+n - 1)->P (.yield (ab,n+1)) st)->wpS (model prog w) A E s (f x (ab,n)) P st)
  (h:∀ n,a<=n->n<=nrem->Up rk (arrOf st) lo (lo+n)->(n=nrem \/ kA rk (arrOf st) (lo+n)<kA rk (arrOf st) (lo+n - 1))->Q (ab,n) st):wpS (model prog w) A E s (forIn [a:nrem] (ab,a) f) Q st:=by
 refine d8 (I:=fun x c st'=>st'=st/\c=(ab,x)/\Up rk (arrOf st) lo (lo+x)) ?_ ?_ ⟨rfl,rfl,hu⟩
 ·rintro x c st' x1 x2 ⟨rfl,rfl,u⟩;exact hf x x _ (by lia) x2 (fun hl=>h x x1 (by lia) u (.inr hl)) fun hl=>⟨rfl,rfl,u.more (by lia) (by lia)⟩
 ·rintro c st' ⟨rfl,rfl,u⟩;rw[show max a nrem=nrem by lia] at u ⊢;exact h nrem han (au _) u (.inl rfl)
def Dn(rk:Keyed->Nat)(xs:Array Keyed)(lo hi:Nat):Prop:=∀ i j,lo<=i->i<=j->j<hi->kA rk xs j<=kA rk xs i
def Dn.more{arr:Array Keyed}{lo n:Nat}(h:Dn rk arr lo (lo+n))(hn:1<=n)(hx:kA rk arr (lo+n)<=kA rk arr (lo+n - 1)):Dn rk arr lo (lo+(n+1)):=fun i j h1 h2 h3=>by
 by_cases c:j<lo+n
 ·exact h i j h1 h2 c
 ·have:j=lo+n:=by lia
  subst this;by_cases e:i=lo+n
  ·subst e;exact au _
  ·exact bp hx (h i (lo+n - 1) h1 (by lia) (by lia))
def zdH{xs:Array Keyed}{i j:Nat}(hj:j<=xs.size)(he:∀ k,i<=k->k<j->kA rk xs k=kA rk xs (j - 1))(k:Nat):kA rk (mirror xs i j ((j - i) / 2)) k=kA rk xs k:=by
 rw[zhM hj];split
 ·rw[he _ (by lia) (by lia),he k (by lia) (by lia)]
 ·rfl
def Dn.turn{xs:Array Keyed}{lo m:Nat}(d:Dn rk xs lo (lo+m))(hz:lo+m<=xs.size):Up rk (mirror xs lo (lo+m) ((lo+m - lo) / 2)) lo (lo+m):=fun i j a b c=>by
 rw[zhM hz i,zhM hz j,if_pos ⟨a,by lia⟩,if_pos ⟨by lia,c⟩];exact d _ _ (by lia) (by lia) (by lia)
def zf0{i j:Nat}{Q:Unit->SortSt->Prop}(h:Q () (setArr st (mirror (arrOf st) i j ((j - i) / 2)))):wpS (model prog w) A E s (reverseSlice' i j) Q st:=wpS_modify h
def zhY{M:Model}{α:Type}{f:StateT SortSt Sem α}{Q:α->SortSt->Prop}{P:SortSt->Prop}{G:Prop}(main:(∀ st1,P st1->wpS M A E s f Q st1)->G)(tail:∀ st1,P st1->wpS M A E s f Q st1):G:=main tail
def wpS_run(R:Rk prog w A s kd D rk){lo nrem:Nat}{Q:Option Nat->SortSt->Prop}(B:Sb kd a₀ st)(hD:∀ x ∈ a₀,D x)(hn:lo+nrem<=a₀.size)(h1:1<=nrem)
  (h:∀ m st',Kp rk kd a₀ lo st st'->1<=m->m<=nrem->Up rk (arrOf st') lo (lo+m)->Q (aa m) st'):wpS (model prog w) A E s (countRun' lo nrem) Q st:=by
 have hK:Kp rk kd a₀ lo st st:=⟨B,rfl,fun _ _=>rfl⟩
 refine bI (wpS_asc (rk:=rk) (lo:=lo) (au 1) h1 (fun i j a b c=>(show i=j by lia) ▸ au _) ?_ fun n n1 n2 u hor=>?_)
 ·intro x n P n1 n2 p1 p2;refine bI (zeo R B hD (by lia) (by lia) ?_);dsimp only;split
  ·rename_i hl;exact cn (p1 (by simpa using hl))
  ·rename_i hl;exact cn (p2 (by simpa using hl))
 dsimp only;by_cases hnn:n=nrem
 ·rw[if_pos (by simpa using hnn)];exact cn (h n st hK n1 n2 u)
 rw[if_neg (by simpa using hnn)];have hlt:=hor.resolve_left hnn;have up1:∀ m,Dn rk (arrOf st) lo (lo+n)->m=n+1->Dn rk (arrOf st) lo (lo+m):=fun m d e=>by
  subst e;exact d.more n1 (dq hlt)
 refine' zhY (M:=model prog w) (A:=A) (E:=E) (s:=s) (Q:=Q) (P:=fun st1=>Kp rk kd a₀ lo st st1/\Dn rk (arrOf st1) lo (lo+(n+1))) (fun tail=>?_) ?_;rotate_left;by_cases hgt:n > 1;rw[if_pos hgt];refine bI (zeo R B hD (by lia) (by lia) ?_);dsimp only;by_cases hro:kA rk (arrOf st) lo<kA rk (arrOf st) (lo+n - 1);rw[decide_eq_true hro,if_pos rfl];exact cn (h n st hK n1 n2 u);rw[decide_eq_false hro,if_neg (by simp)];have hall:∀ k,lo<=k->k<lo+n->kA rk (arrOf st) k=kA rk (arrOf st) (lo+n - 1):=fun k k1 k2=>by
  have e1:=u lo k (au _) k1 k2;have e2:=u k (lo+n - 1) k1 (by lia) (by lia);lia
 refine bI (zf0 ?_);have hz:lo+n<=(arrOf st).size:=by rw[B.size];lia
 have K1:=hK.mir (i:=lo) (j:=lo+n) (au _) (by lia);have d1:Dn rk (mirror (arrOf st) lo (lo+n) ((lo+n - lo) / 2)) lo (lo+(n+1)):=by
  have:=up1 (n+1) (fun i j a b c=>by rw[hall i a (by lia),hall j (by lia) c];exact au _) rfl;intro i j a b c;rw[zdH hz hall,zdH hz hall];exact this i j a b c
 exact tail _ ⟨K1,d1⟩;rw[if_neg hgt];exact tail _ ⟨hK,up1 (n+1) (fun i j a b c=>by
  have:i=j:=by lia
  subst this;exact au _) rfl⟩
 rintro st1 ⟨K1,d1⟩
 ·skip
  refine bI (zh3 ?_);refine bI (wpS_mono (d8 (I:=fun x c st'=>∃ q,c=(ab,x,q)/\Kp rk kd a₀ lo st st'/\Dn rk (arrOf st') lo (lo+x)/\q+1<=x/\∀ i,lo+x - (q+1)<=i->i<lo+x->kA rk (arrOf st') i=kA rk (arrOf st') (lo+x - 1))
   (Q:=fun c st'=>∃ m q,c=(ab,m,q)/\n+1<=m/\m<=nrem/\Kp rk kd a₀ lo st st'/\Dn rk (arrOf st') lo (lo+m)/\q+1<=m/\∀ i,lo+m - (q+1)<=i->i<lo+m->kA rk (arrOf st') i=kA rk (arrOf st') (lo+m - 1)) ?step ?fin ⟨0,rfl,K1,d1,by lia,fun i i1 i2=>by congr 1;lia⟩) ?post)
  case fin=>
   rintro c st' ⟨q,rfl,K,d,q1,e⟩;rw[show max (n+1) nrem=nrem by lia] at d q1 e ⊢;exact⟨nrem,q,rfl,by lia,au _,K,d,q1,e⟩
  case step=>
   rintro x c st' x1 x2 ⟨q,rfl,K,d,q1,e⟩;dsimp only;have hz':lo+x<=(arrOf st').size:=by rw[K.sb.size];lia
   refine bI (zeo R K.sb hD (by lia) (by lia) ?_);dsimp only;by_cases hs:kA rk (arrOf st') (lo+x)<kA rk (arrOf st') (lo+x - 1)
   ·rw[decide_eq_true hs,if_pos rfl];have d2:=d.more (by lia) (dq hs);by_cases hq:q > 0
    ·rw[if_pos hq];refine bI (zf0 (cn ⟨0,rfl,K.mir (by lia) (by lia),fun i j a b c=>?_,by lia,fun i i1 i2=>by congr 1;lia⟩));show kA rk (mirror (arrOf st') _ _ _) j<=kA rk (mirror (arrOf st') _ _ _) i;rw[zdH hz' e,zdH hz' e];exact d2 i j a b c
    ·rw[if_neg hq];exact cn ⟨0,rfl,K,d2,by lia,fun i i1 i2=>by congr 1;lia⟩
   ·rw[decide_eq_false hs,if_neg (by simp)];refine bI (zeo R K.sb hD (by lia) (by lia) ?_);dsimp only;by_cases hl:kA rk (arrOf st') (lo+x - 1)<kA rk (arrOf st') (lo+x)
    ·rw[decide_eq_true hl,if_pos rfl];exact cn ⟨x,q,rfl,x1,by lia,K,d,q1,e⟩
    ·rw[decide_eq_false hl,if_neg (by simp)];refine cn ⟨q+1,rfl,K,d.more (by lia) (by lia),by lia,fun i i1 i2=>?_⟩;rw[show lo+(x+1) - 1=lo+x by lia];by_cases hi:i=lo+x
     ·subst hi;rfl
     ·rw[e i (by lia) (by lia)];lia
  case post=>
   rintro c st' ⟨m,q,rfl,m1,m2,K,d,q1,e⟩;dsimp only;have hz':lo+m<=(arrOf st').size:=by rw[K.sb.size];lia
   refine' zhY (M:=model prog w) (A:=A) (E:=E) (s:=s) (Q:=Q) (P:=fun st2=>Kp rk kd a₀ lo st st2/\Dn rk (arrOf st2) lo (lo+m)) (fun tail=>?_) ?_;rotate_left;by_cases hq:q > 0;rw[if_pos hq];refine bI (zf0 ?_);have K2:=K.mir (i:=lo+m - (q+1)) (j:=lo+m) (by lia) (by lia);have d2:Dn rk (mirror (arrOf st') (lo+m - (q+1)) (lo+m) ((lo+m - (lo+m - (q+1))) / 2)) lo (lo+m):=fun i j a b c=>by
    rw[zdH hz' e,zdH hz' e];exact d i j a b c
   exact tail _ ⟨K2,d2⟩;rw[if_neg hq];exact tail _ ⟨K,d⟩;rintro st2 ⟨K2,d2⟩
   ·skip
    refine bI (zf0 ?_);have K3:=K2.mir (i:=lo) (j:=lo+m) (au _) (by lia);refine bI (wpS_asc (rk:=rk) (lo:=lo) (by lia) m2 (d2.turn (bp (by lia) (dv K2.sb.size.symm))) ?_ fun m' m3 m4 u' _=>?_)
    ·intro x n P n1 n2 p1 p2;refine bI (zeo R K3.sb hD (by lia) (by lia) ?_);dsimp only;split
     ·rename_i hl;exact cn (p1 (by simpa using hl))
     ·rename_i hl;exact cn (p2 (by simpa using hl))
    ·exact cn (h m' _ K3 (by lia) m4 u')
def wpS_ins(R:Rk prog w A s kd D rk){lo n ok:Nat}{Q:Bool->SortSt->Prop}{st₀:SortSt}(K:Kp rk kd a₀ lo st₀ st)(hD:∀ x ∈ a₀,D x)(hn:lo+n<=a₀.size)(h1:1<=ok)(hok:ok<=n)(hu:Up rk (arrOf st) lo (lo+ok))
  (h:∀ st',Kp rk kd a₀ lo st₀ st'->Up rk (arrOf st') lo (lo+n)->Q true st'):wpS (model prog w) A E s (binarySort' lo n ok) Q st:=by
 refine bI (wpS_mono (d8 (I:=fun k c st'=>c=(ab,())/\Kp rk kd a₀ lo st₀ st'/\Up rk (arrOf st') lo (lo+k))
  (Q:=fun c st'=>c=(ab,())/\Kp rk kd a₀ lo st₀ st'/\Up rk (arrOf st') lo (lo+n)) ?step ?fin ⟨rfl,K,by rwa [show max ok 1=ok by lia]⟩) ?post)
 case post=>
  rintro c st' ⟨rfl,K,u⟩;exact cn (h st' K u)
 case fin=>
  rintro c st' ⟨rfl,K,u⟩;rw[show max (max ok 1) n=n by lia] at u;exact⟨rfl,K,u⟩
 case step=>
  rintro k c st' k1 k2 ⟨rfl,K,u⟩;refine bI (wpS_mono (d8 (I:=fun x c st''=>st''=st'/\∃ l r,c=(ab,l,r)/\l<=r/\r<=k/\r - l<=k - x/\(∀ i,lo<=i->i<lo+l->kA rk (arrOf st') i<=kA rk (arrOf st') (lo+k))/\∀ i,lo+r<=i->i<lo+k->kA rk (arrOf st') (lo+k)<kA rk (arrOf st') i)
   (Q:=fun c st''=>st''=st'/\∃ l r,c=(ab,l,r)/\l<=k/\(∀ i,lo<=i->i<lo+l->kA rk (arrOf st') i<=kA rk (arrOf st') (lo+k))/\∀ i,lo+l<=i->i<lo+k->kA rk (arrOf st') (lo+k)<kA rk (arrOf st') i) ?s2 ?f2 ⟨rfl,0,k,rfl,by lia,by lia,by lia,fun i _ _=>by lia,fun i _ _=>by lia⟩) ?p2)
  case f2=>
   rintro c st'' ⟨rfl,l,r,rfl,a1,a2,a3,a4,a5⟩;have:l=r:=by lia
   subst this;exact⟨rfl,l,l,rfl,a2,a4,a5⟩
  case s2=>
   rintro x c st'' _ hx ⟨rfl,l,r,rfl,a1,a2,a3,a4,a5⟩;dsimp only;by_cases hge:l ≥ r
   ·rw[if_pos hge];have:l=r:=by lia
    subst this;exact cn ⟨rfl,l,l,rfl,a2,a4,a5⟩
   ·rw[if_neg hge];have m1:l<=(l+r) / 2:=by lia
    have m2:(l+r) / 2<r:=by lia
    have m4:(l+r) / 2 - l<=k - (x+1):=by lia
    have m5:r - ((l+r) / 2+1)<=k - (x+1):=by lia
    clear a1 a3;generalize (l+r) / 2=m at *;refine bI (zeo R K.sb hD (by lia) (by lia) ?_);dsimp only;by_cases hl:kA rk (arrOf st'') (lo+k)<kA rk (arrOf st'') (lo+m)
    ·rw[decide_eq_true hl,if_pos rfl];exact cn ⟨rfl,l,_,rfl,m1,bp (dq m2) a2,m4,a4,fun i i1 i2=>bn hl (u _ i (Nat.le_add_right _ _) i1 i2)⟩
    ·rw[decide_eq_false hl,if_neg (by simp)];exact cn ⟨rfl,_,r,rfl,m2,a2,m5,fun i i1 i2=>bp (u i (lo+m) i1 (Nat.le_of_lt_succ i2) (Nat.add_lt_add_left (bn m2 a2) _)) (gw.mp hl),a5⟩
  case p2=>
   rintro c st'' ⟨rfl,l,r,rfl,a2,a4,a5⟩;have hz:=K.sb.size;have kb:=fun j=>kA_bub (rk:=rk) (xs:=arrOf st'') (src:=lo+k) (d:=lo+k - (lo+l)) (by lia) (by lia) j;rw[show lo+k - (lo+k - (lo+l))=lo+l by lia] at kb;refine bI (wpS_modify (cn ⟨rfl,K.set (f9.mp (bubble_perm _ _ _)) fun j hj=>?_,fun i j a b c=>?_⟩))
   ·refine(kb j).trans ?_;rw[if_neg (by lia),if_neg (by lia)]
   ·refine bp (dv (kb i)) (bp ?_ (dv (kb j).symm))
    repeat' split
    all_goals first
     | lia
     | exact au _
     | exact a4 _ (by lia) (by lia)
     | exact dq (a5 _ (by lia) (by lia))
     | exact u _ _ (by lia) (by lia) (by lia)
end
end L2

namespace L2
open PySem PySem.Spec PyProof.Rows
def zhA{prog:aN}{w:aV}{A:aX}{E:ae->ah->Prop}{s:ah}{kd:SortKind}{D:Keyed->Prop}{rk:Keyed->Nat}{st:SortSt}{a₀:Array Keyed}(R:Rk prog w A s kd D rk){Q:Unit->SortSt->Prop}(B:Sb kd a₀ st)(hD:∀ x ∈ a₀,D x)(h2:1<=a₀.size)(h64:a₀.size<64)(hp:fT st=#[])
  (h:∀ st',Sb kd a₀ st'->Up rk (arrOf st') 0 a₀.size->Q () st'):wpS (model prog w) A E s sortRuns' Q st:=by
 rw[sortRuns'_eq];refine bI (wpS_get ?_);dsimp only;rw[B.size];have hmr:minRun' a₀.size a₀.size 0=a₀.size:=by
  obtain⟨n,e⟩:∃ n,a₀.size=n+1:=⟨a₀.size - 1,(Nat.sub_add_cancel h2).symm⟩;rw[e] at h64 ⊢;rw[minRun'_succ,if_pos h64]
 rw[hmr];refine bI (wpS_mono (d8 (I:=fun x c st'=>(x=0/\c=(ab,0)/\st'=st) \/ (1<=x/\c=(ab,a₀.size)/\Sb kd a₀ st'/\(fT st').size<=1/\Up rk (arrOf st') 0 a₀.size))
  (Q:=fun c st'=>c=(ab,a₀.size)/\Sb kd a₀ st'/\(fT st').size<=1/\Up rk (arrOf st') 0 a₀.size) ?step ?fin (.inl ⟨rfl,rfl,rfl⟩)) ?post)
 case fin=>
  rintro c st' (⟨hx,_,_⟩ | ⟨_,q⟩)
  ·lia
  ·exact q
 case post=>
  rintro c st' ⟨rfl,B',hp',u'⟩;dsimp only;refine bI (wpS_mono (d8 (I:=fun _ c st''=>c=(ab,())/\st''=st') (Q:=fun c st''=>c=(ab,())/\st''=st') ?_ (fun _ _ hh=>hh) ⟨rfl,rfl⟩) ?_)
  ·rintro x c st'' _ _ ⟨rfl,rfl⟩;refine bI (wpS_get ?_);rw[if_pos hp'];exact cn ⟨rfl,rfl⟩
  ·rintro c st'' ⟨rfl,rfl⟩;exact cn (h st'' B' u')
 case step=>
  rintro x c st' _ hx (⟨rfl,rfl,rfl⟩ | ⟨h1,rfl,B',hp',u'⟩)
  ·dsimp only;rw[if_neg (Nat.not_le.mpr h2)];refine bI (wpS_run R B hD (by lia) (by lia) fun n st1 K1 n1 n2 u1=>?_);dsimp only;by_cases hm:n<a₀.size;rw[if_pos hm];refine bI (zh3 ?_);refine bI (wpS_ins R K1 hD (by lia) n1 (by lia) u1 fun st2 K2 u2=>?_);rw[if_neg (by simp)];have e:min (a₀.size - 0) a₀.size=a₀.size:=by lia
   generalize min (a₀.size - 0) a₀.size=N at u2 e ⊢;rotate_left;rw[if_neg hm];have e:n=a₀.size:=by lia
   have K2:=K1;have u2:=u1;generalize n=N at u2 e ⊢
   all_goals
    have hb:=(congrArg Array.back? (K2.pend.trans hp)).trans (rfl:(#[]:Array Run).back? = ab)
    refine bI (wpS_get ?_);rw[hb];refine bI (wpS_modify (cn (.inr ⟨au 1,by rw[e,ck],⟨K2.sb.perm,K2.sb.kind,K2.sb.failed⟩,?_,?_⟩)))
    ·show((fT _).push _).size<=1;rw[K2.pend,hp];exact au 1
    ·rw[ck,e] at u2;exact u2
  ·dsimp only;rw[if_pos (au _)];exact cn ⟨rfl,B',hp',u'⟩
end L2

namespace L2
open PySem PySem.Spec PyProof.Rows
abbrev RwI:=List Int
def rkR(rows:List RwI)(r:RwI):Nat:=rows.countP fun q=>decide (q<r)
def zeY{α:Type}{p q:α->Bool}:∀ {l:List α},(∀ x,p x=true->q x=true)->(∃ x ∈ l,p x=false/\q x=true)->l.countP p<l.countP q
 | [],_,h=>by obtain⟨x,hx,_⟩:=h;cases hx
 | a :: l,h,⟨x,hx,hp,hq⟩=>by
  rw[je,je];have m:l.countP p<=l.countP q:=ij fun x _ hx=>h x hx;rcases az.mp hx with e | hx
  ·subst e;rw[if_neg (by simp[hp]),if_pos hq];lia
  ·have:=zeY (l:=l) h ⟨x,hx,hp,hq⟩;by_cases ha:p a=true
   ·rw[if_pos ha,if_pos (h a ha)];lia
   ·rw[if_neg ha];lia
def rkR_lt{rows:List RwI}{r r':RwI}(hr:r ∈ rows):decide (rkR rows r<rkR rows r')=decide (r<r'):=by
 by_cases h:r<r'
 ·rw[decide_eq_true h];refine decide_eq_true (zeY (fun q hq=>?_) ⟨r,hr,?_,decide_eq_true h⟩)
  ·exact decide_eq_true (List.lt_trans (of_decide_eq_true hq) h)
  ·exact decide_eq_false (jx r)
 ·rw[decide_eq_false h];refine decide_eq_false (gw.mpr (ij fun q _ hq=>?_));refine decide_eq_true (jU fun hc=>h ?_);exact List.lt_of_le_of_lt (kF.mp hc) (of_decide_eq_true hq)
section
variable {prog:aN}{w:aV}{A:aX}{E:ae->ah->Prop}{s:ah}
structure SrtH(prog:aN)(w:aV)(HP:bd->Prop)(vs:List ae)(kd:SortKind)(row:ae->RwI):Prop where
 keep:∀ {h h':bd},HP h->(∀ b o,h.get? b=aa o->o.cls=.type "tuple" -> h'.get? b=aa o)->HP h'
 kind:∀ (A:aX) (s:ah) (E:ae->ah->Prop) (Q:SortKind->ah->Prop),HP s.heap->2<=vs.length->Q kd s->ay (model prog w) A (keyKind' vs.toArray) Q E s
 lt:∀ (A:aX) (s:ah),HP s.heap->∀ x ∈ vs,∀ y ∈ vs,∀ (E:ae->ah->Prop) (Q:Bool->ah->Prop),Q (decide (row x<row y)) s->ay (model prog w) A (keyLt' kd x y) Q E s
variable {HP:bd->Prop}{vs:List ae}{kd:SortKind}{row:ae->RwI}
def SrtH.rk(H:SrtH prog w HP vs kd row)(h:HP s.heap):Rk prog w A s kd (fun x=>x.1 ∈ vs) (fun x=>rkR (vs.map row) (row x.1)):=
 ⟨fun x y hx hy E Q q=>H.lt A s h _ hx _ hy E Q (by rw[rkR_lt (bH.mpr ⟨_,hx,rfl⟩)] at q;exact q)⟩
def zip_all{xs:Array Keyed}(hp:xs.toList.Perm (vs.toArray.zip vs.toArray).toList):∃ out:List ae,(xs.map (·.2)).toList=out/\out.Perm vs/\out=xs.toList.map (·.1):=by
 rw[eN] at hp;have h2:∀ p ∈ xs.toList,p.1=p.2:=fun p hx=>(mem_zip_self (hp.mem_iff.mp hx)).1;refine⟨xs.toList.map (·.2),Array.toList_map,?_,dA fun p hx=>(h2 p hx).symm⟩;have:=hp.map (·.2);rwa [gA (au _)] at this
def zfX{a:af}{n:Nat}{P:Fin->ah->Prop}(H:SrtH prog w HP vs kd row)(ho:s.heap.get? a=aa (seqObj "list" vs.toArray n))(hI:HP s.heap)(hl:vs.length<64)
  (h:∀ out:List ae,out.Perm vs->(out.map row).Pairwise (·<=·)->P (.done (.ret .none)) { s with heap:=sortedHeap s.heap a vs out.toArray}):ay (model prog w) A (Builtin.«list.sort» ⟨[.ref a],[]⟩) P E s:=by
 rw[list_sort_plain];have ha:a<s.heap.objs.size:=aH ho;refine ai (listItems_at ho rfl ?_);refine ai (listUpdate_at ho rfl ?_ (by rw[bC];simp;lia) (by simp));obtain⟨e1,ho1⟩:∃ e1,(s.heap.update a (bJ fun _=>#[])).get? a=aa (seqObj "list" #[] e1):=⟨_,get?_update_seq ho (fun _=>#[])⟩;refine ai (seqEpoch_at ho1 rfl ?_);refine ai (wpAny_newTuple ?_ (by show vs.length<=_;rw[bC];lia));refine ai (wpAny_newList ?_);refine bU ?_;have ho6:(((s.heap.update a (bJ fun _=>#[])).push (seqObj "tuple" vs.toArray 0)).push (seqObj "list" #[] 0)).get? a=aa (seqObj "list" #[] e1):=by
  rw[iY _ _ _ (by rw[size_push',eO];exact aR (cD ha)),iY _ _ _ (by rw[eO];exact aR ha)];exact ho1
 show ay (model prog w) A _ P E { s with heap:=((s.heap.update a (bJ fun _=>#[])).push (seqObj "tuple" vs.toArray 0)).push (seqObj "list" #[] 0)};dsimp only;have hI6:HP (((s.heap.update a (bJ fun _=>#[])).push (seqObj "tuple" vs.toArray 0)).push (seqObj "list" #[] 0)):=H.keep hI fun b o hb hc=>by
  have hne:b ≠ a:=fun e=>by subst e;rw[ho] at hb;cases hb;exact absurd (show cU "list" = cU "tuple" from hc) (fun z=>by injection z with z;exact absurd z (by decide))
  refine ak _ (ak _ ?_);rw[iF _ _ _ _ hne];exact hb
 have fin:∀ st':SortSt,(arrOf st').toList.Perm (vs.toArray.zip vs.toArray).toList->((arrOf st').toList.map fun p=>row p.1).Pairwise (·<=·)->P (.done (.ret .none)) { s with heap:=sortedHeap s.heap a vs ((arrOf st').map (·.2))}:=fun st' hp hs=>by
  obtain⟨out,e1,e2,e3⟩:=zip_all hp;have e4:(arrOf st').map (·.2)=out.toArray:=by apply Array.ext';rw[e1]
  rw[e4];refine h out e2 ?_;rw[e3,bY];exact hs
 have sz2:∀ st':SortSt,(arrOf st').toList.Perm (vs.toArray.zip vs.toArray).toList->((arrOf st').map (·.2)).size<=aZ+1:=fun st' hp=>by
  have:=hp.length_eq;rw[cq] at this;rw[Array.size_map,this,bC];simp;lia
 by_cases h2:vs.toArray.size<2
 ·rw[if_pos h2,if_pos h2];refine ai (aq ?_);rw[StateT.run_pure];refine ai (aq ?_);dsimp only;refine ai (seqEpoch_at ho6 rfl ?_);refine ai (listUpdate_at ho6 rfl ?_ (by simp) (sz2 (jq _ (vs.toArray.zip vs.toArray) #[] 7 ab) (.refl _)));simp only[bne_self_eq_false,bx,if_false];refine aq (fin (jq _ (vs.toArray.zip vs.toArray) #[] 7 ab) (.refl _) ?_);have hz:((vs.toArray.zip vs.toArray).toList.map fun p:Keyed=>row p.1).length<2:=by
   rw[al,eN];simpa using h2
  show((vs.toArray.zip vs.toArray).toList.map fun p:Keyed=>row p.1).Pairwise (·<=·)
  match hq:((vs.toArray.zip vs.toArray).toList.map fun p:Keyed=>row p.1) with
  | []=>exact .nil
  | [x]=>exact List.pairwise_singleton _ _
  | _ :: _ :: _=>rw[hq] at hz;simp at hz;lia
 ·rw[if_neg h2,if_neg h2];refine ai (H.kind _ { s with heap:=((s.heap.update a (bJ fun _=>#[])).push (seqObj "tuple" vs.toArray 0)).push (seqObj "list" #[] 0)} _ _ hI6 (by simpa using h2) ?_);refine ai (bR (zhA (a₀:=vs.toArray.zip vs.toArray) (st:=jq kd (vs.toArray.zip vs.toArray) #[] 7 ab) (Q:=fun _ st'=>Sb kd (vs.toArray.zip vs.toArray) st'/\((arrOf st').toList.map fun p=>row p.1).Pairwise (·<=·))
   (H.rk (s:={ s with heap:=((s.heap.update a (bJ fun _=>#[])).push (seqObj "tuple" vs.toArray 0)).push (seqObj "list" #[] 0)}) hI6) ⟨.refl _,rfl,rfl⟩ (fun x hx=>?_) (by simp at h2 ⊢;lia) (by simpa using hl) rfl fun st' B u=>⟨B,?_⟩) ?_ fun _ _ e=>e)
  ·have hx':x ∈ vs.zip vs:=by rw[<- c8,eN] at hx;exact hx
   exact(mem_zip_self hx').2
  ·rw[iZ,List.pairwise_iff_getElem];intro i j hi hj hij;have hz:=B.size;rw[cq] at hi hj;have:=u i j (cm _) (by lia) (by lia);rw[kA_at hi,kA_at hj] at this;rw[iq,iq];have hm:(arrOf st')[j] ∈ (vs.toArray.zip vs.toArray).toList:=B.perm.mem_iff.mp (c8.mpr (gj hj));rw[eN] at hm;refine kF.mp fun hc=>?_;have h3:=rkR_lt (rows:=vs.map row) (r':=row (arrOf st')[i].1) (bH.mpr ⟨_,(mem_zip_self hm).2,rfl⟩);rw[decide_eq_true hc] at h3;have:=of_decide_eq_true h3;lia
  ·rintro⟨⟨⟩,st'⟩ s' ⟨rfl,B,hs⟩;dsimp only at B hs ⊢;refine ai (seqEpoch_at ho6 rfl ?_);refine ai (listUpdate_at ho6 rfl ?_ (by simp) (sz2 st' B.perm));have hf:=B.failed;simp only[bne_self_eq_false,bx,if_false];rw[hf];exact aq (fin st' B.perm hs)
def ziI{l:af}{Q:ae->ah->Prop}(H:SrtH prog w HP vs kd row)(hl:s.heap.IsList l vs.toArray)(hI:HP s.heap)(hz:vs.length<64)
  (h:∀ out:List ae,out.Perm vs->(out.map row).Pairwise (·<=·)->Q (.ref (s.heap.objs.size+1)) { s with heap:=sortedAll s.heap vs out.toArray}):ay (model prog w) A (call (.builtin "sorted") [.ref l]) Q E s:=by
 refine dY kind_sorted plain_sorted entry_sorted (args_sorted1 _) ?_;unfold Builtin.«sorted»;have hz':vs.length<=aZ:=by rw[bC];lia
 refine ai (m:=checkCount "sorted" 1 1 _) (aq ?_);refine ai (collect_list hl ?_ hz');refine ai (wpAny_newList ?_ hz');have hsz:((s.heap.push (seqObj "list" #[] 0)).update s.heap.objs.size (bJ (· ++ vs.toArray))).objs.size=s.heap.objs.size+1:=by
  rw[eO,size_push']
 have hoL:(((s.heap.push (seqObj "list" #[] 0)).update s.heap.objs.size (bJ (· ++ vs.toArray))).push (seqObj "list" vs.toArray 0)).get? (s.heap.objs.size+1)=aa (seqObj "list" vs.toArray 0):=by
  rw[<- hsz];exact aB _ rfl
 have hI2:HP (((s.heap.push (seqObj "list" #[] 0)).update s.heap.objs.size (bJ (· ++ vs.toArray))).push (seqObj "list" vs.toArray 0)):=H.keep hI fun b o hb _=>by
  refine ak _ ?_;rw[iF _ _ _ _ (aR (aH hb))];exact ak _ hb
 show ay _ _ _ _ _ { s with heap:=((s.heap.push (seqObj "list" #[] 0)).update s.heap.objs.size (bJ (· ++ vs.toArray))).push (seqObj "list" vs.toArray 0)};rw[hsz];refine ai (bU (wpAny_call_entry slot_list_sort ⟨_,hoL,rfl⟩ entry_list_sort (zfX H hoL hI2 hz fun out p1 p2=>⟨_,rfl,?_⟩) (args_list_sort _)));exact aq ⟨_,rfl,h out p1 p2⟩
end
end L2

namespace L2
open PySem PySem.Spec PyProof.Rows
def zgL:∀ {as:List af} {us:List ae},Vals (as.map V.ref) us->us=as.map br
 | [],_,.nil=>rfl
 | a :: as,_,.cons h t=>by
  cases h;rw[aF,zgL t]
def zgY:∀ as:List af,Vals (as.map V.ref) (as.map br)
 | []=>.nil
 | a :: as=>.cons rfl (zgY as)
def unR:ae->af
 | .ref a=>a
 | _=>default
def perm_refs{as:List af}{out:List ae}(h:out.Perm (as.map br)):∃ as':List af,as'.Perm as/\out=as'.map br:=by
 refine⟨out.map unR,?_,?_⟩
 ·have:=h.map unR;rwa [bY,show(unR ∘ br)=id from rfl,i7] at this
 ·rw[bY];refine(i7 out).symm.trans (dA fun v hv=>?_)
  obtain⟨a,_,rfl⟩:=bH.mp (h.mem_iff.mp hv);rfl
end L2

namespace L3
open PySem PySem.Spec PyProof.Rows L2
def xPop(i:Nat):FXE:=fun δ=>((oAt i δ).bind lOf).bind fun ds=>(ds[ds.length - 1]?).map fun d=>(d,δ.set i (aa (.obj (.lst ds.dropLast))))
def xCO(i:Nat)(g:GM)(fs:FXA):FXE:=fun δ=>(oAt i δ).bind fun _=>(fs δ).bind fun p=>(oAt i p.2).bind fun o=>(g o p.1).map fun q=>(q.1,p.2.set i (aa (.obj q.2)))
def ziy(i:Nat)(fe:FE):FS:=fun δ=>(fe δ).bind fun r=>match r with
 | .own ds=>aa (.nx (δ.set i (aa (.obj (.lst ds)))))
 | _=>ab
def zgh{o:OT}{ds:List D}(h:lOf o=aa ds):o=.lst ds:=by
 cases o <;> first | (cases h;rfl) | (cases h)
section
variable {X:Cx}{e:Expr}{es:List Expr}{pos pos' p p0 apos cpos:Pos}{fa fb fx:FXE}{fs:FXA}{fe:FE}{x y:Str}{tg:Expr}{tgf:FG}
def xpop(i:Nat)(hN:X.N[i]? = aa x:=by rfl)(hv:Vis X.env.scope x:=by first | exact aK rfl | exact be (aK rfl) | exact be (be rfl))(hd:(x == ("__debug__" : Str))=false:=by decide)(hcd:(x == ("__classdict__" : Str))=false:=by decide)
  (hbase:b9 (.Name x p) "pop" X.env (eval (.Name x p) X.env)=eval (.Name x p) X.env:=by rfl) (hline:(apos.endLine == cpos.line)=true:=by rfl):VX X (.Call (.Attribute (.Name x p) "pop" apos) [] [] cpos) (xPop i):=by
 refine⟨_,⟨pe_bm0 cN eR eS mt_pop (wv i hN hv hd hcd).h hbase hline⟩,fun B F H σ δ d δ' Q s q k=>?_⟩;obtain⟨ds,q1,q⟩:=bind_some q;obtain⟨o,q0,q1⟩:=bind_some q1;obtain⟨d',q2,q⟩:=map_some q;cases q;cases zgh q1;obtain⟨v,h1,A,t,n,h⟩:=s.ent i _ (zav q0);cases t with
 | @lst l vs _ h2 h3=>
  have fl:=(h l (by simp)).1;obtain⟨z,hz,rz⟩:=h3.get q2;refine⟨_,h1,.inl ⟨rfl,vs,SqL.of h2⟩,l,vs,z,rfl,rfl,h2,by rw[h3.length];exact hz,?_⟩;obtain⟨z1,z2⟩:=s.chg (o':=.lst ds.dropLast) (H':=upd H l (.lst vs.dropLast)) (F':=F) (zav q0) h1 (.lst h2 h3) ⟨Same.refl _,fun b u hb=>by
    rw[zam fun z=>by subst z;rw[fl] at hb;cases hb];exact s.fh _ _ hb,fun b u hb=>by
    obtain⟨z1,z2⟩:=zaC hb;rw[zam fun z=>z1 (by simp[z])];exact z2,fun _ _ _ _=>rfl⟩
   (.lst zai h3.dropLast) (by simp) fun b hb=>by
    simp at hb;subst hb;exact⟨fl,zbQ (by simp)⟩
  exact k z F _ z1 z2 rz
def xco{CX:CXT}{k j:Nat}{f:af}{fd:bw}{ps:List Str}{st:Stmt}{E:XK}{g:GM}(i:Nat)(F:FnOk X.prog X.w X.K X.mg X.base CX k f fd ps (spM X.K g))(D:Def X.K X.mg y st ps f fd)(hr:Room j X.A)(hg:Gl X y)(hx:zbX CX X E)
  (ha:VXA X es fs) (hjk:k<=j:=by decide) (hdb:(y == ("__debug__" : Str))=false:=by decide) (h2:es.all zak=true:=by rfl)
  (hN:X.N[i]? = aa x:=by rfl) (hv:Vis X.env.scope x:=by first | exact aK rfl | exact be (aK rfl) | exact be (be rfl)) (hd:(x == ("__debug__" : Str))=false:=by decide) (hcd:(x == ("__classdict__" : Str))=false:=by decide) :
  VX X (.Call (.Name y p) (.Name x p0 :: es) [] pos) (xCO i g fs):=by
 obtain⟨t,w,m⟩:=ha.h;refine⟨_,wcl F D hr hg hx (wac (wv i hN hv hd hcd) w rfl) hjk hdb rfl h2,fun B F H σ δ d δ' Q s q kk=>?_⟩;obtain⟨o0,q0,q⟩:=bind_some q;obtain⟨p1,q1,q⟩:=bind_some q;obtain⟨o,q2,q⟩:=bind_some q;obtain⟨r,q3,q⟩:=map_some q;cases q;obtain⟨v,h1,_⟩:=s.ent i _ (zav q0);refine⟨v,h1,m B F H σ δ p1.1 p1.2 _ s q1 fun vs F1 H1 s1 y1 r1=>?_⟩;obtain⟨v',h1',A,t,n,h⟩:=s1.ent i _ (zav q2);rw[h1] at h1';cases h1';rw[aY];refine⟨v,vs,F1,o,A,p1.1,r.1,r.2,rfl,s1.fh,t,n,fun a ha=>(h a ha).1,r1,q3,fun z F' H' A' ch t' n' f' rz=>?_⟩;obtain⟨z1,z2⟩:=s1.chg (zav q2) h1 t ch t' n' f';exact kk z F' H' z1 (y1.trans z2) rz
def sSetL'{i:Nat}(h0:0<i)(hN:X.N.Nodup)(hi:X.N[i]? = aa x)(hx:Loc X.env.scope x)(he:VE X e fe)(hs:swapsWith e (aa (.Name x pos')) pos.line X.env=pure false:=by rfl)(hf:X.fn x=true \/ X.env.scope.names.lookup x=aa .local:=by first | exact .inl rfl | exact .inr rfl | assumption) :
  VS X (.Assign [.Name x pos'] e pos) (ziy i fe):=by
 obtain⟨t,w,m⟩:=he.h;refine⟨_,sset hN hi hx w hs hf,fun B F H σ δ out DD s q k=>?_⟩;obtain⟨r,q1,q⟩:=bind_some q;cases r with
 | own ds=>
  cases q;refine m B F H σ δ _ _ s q1 fun v F' H' x z=>k _ F' H' (s.putO x i h0 ?_) (.of x s.bh);obtain⟨l,vs,e,g0,g1,rs,g2⟩:=z;subst e;exact⟨⟨l,rfl⟩,[l],.lst g1 rs,by simp,fun a ha=>by simp at ha;subst ha;exact⟨g2,g0⟩⟩
 | _=>cases q
end
abbrev FXO:=En->Option (Option Int × En)
def SemXO(K:ag)(t:TO)(f:FXO):Prop:=∀ (B:Bd) (F H:Hp) (σ:Sg) (δ:En) (o:Option Int) (δ':En) (Q:Option Int->Hp->Prop),RS K B F H σ δ->f δ=aa (o,δ')->(∀ F' H',RS K B F' H' σ δ'->FX B F F'->Q o H')->t σ H Q
structure VXO(X:Cx)(e:Option Expr)(f:FXO):Prop where
 h:∃ t,WO X e t/\SemXO X.K t f
section
variable {X:Cx}{e tg iter:Expr}{lo hi:Option Expr}{fx:FXE}{fl fu:FXO}{pos p2:Pos}{tgf:FG}{f:FS}{body:List Stmt}
end
end L3

namespace L2
open PySem PySem.Spec PyProof.Rows
section
variable {prog:aN}{w:aV}{A:aX}{E:ae->ah->Prop}{s:ah}
set_option maxRecDepth 100000
def init_rev{R:Result->ah->Prop}{I l S:af}{items:Array ae}(hh:A.handled=ab)(hne:l ≠ I)(hit:s.heap.IsRevIter I l ((items.size:Int) - 1))(hl:s.heap.IsList l items)(hn:items.size<=aZ)
  (hS:s.heap.get? S=aa { cls:=.type "list",data:=.seq #[]}) (hSI:S ≠ I) (hSl:S ≠ l)
  (hR:∀ s' acc c',(∀ b o,b ≠ I->b ≠ S->s.heap.get? b=aa o->s'.heap.get? b=aa o)->s'.gens=s.gens->s'.drawn=s.drawn->s'.os=s.os->s'.heap.get? S=aa { cls:=.type "list",data:=.seq acc c'}->ItemsOf (fun i v=>items[items.size - 1 - i]? = aa v) acc items.size->R (.ok (.ret .none)) s') :
  ay (model prog w) A.in1 (Builtin.«list.__init__» ⟨[.ref S,.ref I],[]⟩)
   (fun fin s'=>match fin with | .done f=>R (.ok f) s' | .again c'=>c'.quiet=true/\codeAny (model prog w) A c' R s') (fun e s'=>R (.error e) s') s:=by
 show ay _ _ (do let old <- hJ (.ref S);gO (.ref S) (fun _=>#[]);letGo old.toList.reverse;cQ (.ref S) (.ref I) .none) _ _ s;refine ai ?_;unfold hJ;refine ai (wpAny_seqItems hS rfl (aq ?_));show ay _ _ (updateSeq S (fun _=>#[]) >>= fun _=>letGo (#[]:Array ae).toList.reverse >>= fun _=>cQ (.ref S) (.ref I) .none) _ _ s;refine ai (wpAny_updateSeq hS rfl ?_);have hS₂:=cI (bJ (fun _=>(#[]:Array ae))) hS rfl;have oth:∀ b o,b ≠ S->s.heap.get? b=aa o->(s.heap.update S (bJ (fun _=>(#[]:Array ae)))).get? b=aa o:=
  fun b o hb e=>(bN _ _ (ce hb)).trans e
 refine ai (wpAny_letGo ?_);generalize s.heap.update S (bJ (fun _=>(#[]:Array ae)))=H at hS₂ oth;have hit':H.IsRevIter I l ((items.size:Int) - 1):=hit.at fun o e=>oth _ o (ce hSI) e;have hl':H.IsList l items:=hl.at fun o e=>oth _ o (ce hSl) e;unfold cQ;refine ai (wpAny_typeOf (s:={ s with heap:=H}) hit'.typeIs ?_);have h1:dz (.ref S) (.ref I)=false:=by
  unfold dz;simp;exact hSI
 have h2:(cU "list_reverseiterator" == cU "list")=false:=by decide
 have h3:(cU "list_reverseiterator" == cU "tuple")=false:=by decide
 simp only[h1,h2,h3,jD,bx,if_false];refine ai (wpAny_pyIter_revIter hit' ?_);refine ai (bU ?_);refine hint_rev (s:={ s with heap:=H}) hit' ?_;rw[if_neg (by decide)];have hSf:S ∉ [I,l]:=by simp[hSI,hSl]
 have st0:0<=items.size/\H.IsRevIter I l ((items.size:Int) - 1 - ((0:Nat):Int))/\H.IsList l items:=⟨cm _,by simpa using hit',hl'⟩
 refine aq ⟨plainId_quiet F.plain_extend_loop _,codeAny_extend_loopS (Walks.listRev (A:=A.in1) hh I l hne items).toS hn _ hSf _ items.size 0 _ _ _ rfl (cm _) st0 hS₂ (kE _) fun s' acc' c' hm hS' hacc=>?_⟩;refine hR s' acc' c' (fun b ob hb hb2 e=>hm.heap b ob (fun hc=>?_) (oth b ob hb2 e)) hm.gens hm.drawn hm.os hS' hacc;rcases az.mp hc with h | h
 ·exact hb2 h
 ·exact hb (bo.mp h)
def zfS{Q:ae->ah->Prop}{I l:af}{items:Array ae}(hh:A.handled=ab)(hne:l ≠ I)(hit:s.heap.IsRevIter I l ((items.size:Int) - 1))(hl:s.heap.IsList l items)(hsz:items.size<=aZ)
  (h:∀ (h':bd) (tk c:Nat) (acc:Array ae),(∀ b o,b ≠ I->s.heap.get? b=aa o->h'.get? b=aa o)->h'.get? s.heap.objs.size=aa { cls:=.type "list",data:=.seq acc c}->ItemsOf (fun i v=>items[items.size - 1 - i]? = aa v) acc items.size->Q (.ref s.heap.objs.size) { s with heap:=h',toks:=tk}) :
  ay (model prog w) A (call (.type "list") [.ref I]) Q E s:=by
 have lt:∀ a o,s.heap.get? a=aa o->s.heap.objs.size ≠ a:=fun a o e=>dr (aH e);obtain⟨oI,eI,_⟩:=id hit;obtain⟨oL,eL,_⟩:=id hl;refine callType_codes (Q₁:=fun obj s₁=>obj=.ref s.heap.objs.size/\s₁={ s with heap:=s.heap.push { cls:=.type "list",data:=.seq #[]}}) F.called_list (F.typeCall_list_1 _) F.entry_list_init
  (code_list_new _ ⟨rfl,rfl⟩) fun obj s₁ h₁=>?_
 obtain⟨rfl,rfl⟩:=h₁;have hS:(s.heap.push { cls:=.type "list",data:=.seq #[]}).get? s.heap.objs.size=aa { cls:=.type "list",data:=.seq #[]}:=aB _ rfl;refine⟨⟨_,hS,rfl⟩,F.args_list_init_2 _ _,init_rev (A:=A.in1) (I:=I) (l:=l) (items:=items) (s:={ s with heap:=s.heap.push { cls:=.type "list",data:=.seq #[]}}) hh hne (hit.at fun o e=>ak _ e) (hl.at fun o e=>ak _ e) hsz hS (lt _ _ eI) (lt _ _ eL) fun s' acc c' hk hg hd hos hS' hacc=>⟨rfl,?_⟩⟩;obtain⟨h',g',d',tk',os'⟩:=s';cases (show g'=s.gens from hg);cases (show d'=s.drawn from hd);cases (show os'=s.os from hos);exact h h' tk' c' acc (fun b o hb e=>hk b o hb (ce (lt _ _ e)) (ak _ e)) hS' hacc
end
section
variable {X:Cx}{e tg:Expr}{t:TE}{p p1 pos pos1:Pos}
def tLRv(K:ag)(t:TE):TE:=fun σ H Q=>t σ H fun x H1=>∃ a xs,x=.ref a/\SqL K H1 a xs/\∀ q,H1 q=ab->Q (.ref q) (upd H1 q (.lst xs.reverse))
def pe_lrv(hc:X.calm=true)(he:PE X e t)(hg:Gl X "list")(hm:X.mg "list" = ab)(hv:aS "list" = aa (.type "list"))(hg1:Gl X "reversed")(hm1:X.mg "reversed" = ab)(hv1:aS "reversed" = aa (.type "reversed"))
  (h1:ba [e] X.env=(false,eval e X.env) :: ba [] X.env) (h2:ba [jC (.Name "reversed" p1) [e] [] pos1] X.env=(false,eval (.Call (.Name "reversed" p1) [e] [] pos1) X.env) :: ba [] X.env) :
  PE X (.Call (.Name "list" p) [.Call (.Name "reversed" p1) [e] [] pos1] [] pos) (tLRv X.K t):=by
 intro pins s σ H Q I h;refine bQ (zdd I hg hm hv ?_ (by decide) (by decide));refine bP ?_ h2 rfl;rw[h2];refine d6 (rest:=backTo pos (ba [] X.env)) ?_;refine bQ (zdd I hg1 hm1 hv1 ?_ (by decide) (by decide));refine bP ?_ h1 rfl;refine thn (zgg he zhU h1 pos1 pins s σ H (one fun x H1=>∃ a xs,x=.ref a/\SqL X.K H1 a xs/\∀ q,H1 q=ab->Q (.ref q) (upd H1 q (.lst xs.reverse))) I ?_) ?_
 ·exact(show t σ H _ from h)
 ·rintro us s1 ⟨xs,H1,I1,r1,qx⟩;obtain⟨x,rfl,a,vs,rfl,hq,kk⟩:=zfM qx;cases r1 with
  | cons r1 rn=>
   cases rn;cases r1;obtain⟨its,rv,pl,hz⟩:=I1.list hq;have hs:its.toArray.size<=aZ:=by have:=rv.length;simp;lia
   have hl:=pl.isList;have hlt:a<s1.heap.objs.size:=by obtain⟨o,e,_⟩:=hl;exact aH e
   refine call_reversed_list hl ?_;refine eF ?_;refine zfS (I:=s1.heap.objs.size) (l:=a) (items:=its.toArray) (I.ok.hd hc) (aR hlt) ⟨_,aB _ rfl,rfl,rfl⟩ (hl.at fun o e=>ak _ e) hs fun h' tk c acc old hS ha=>?_;have old':∀ b o,s1.heap.get? b=aa o->h'.get? b=aa o:=fun b o e=>old b o (aR (aH e)) (ak _ e);have hle:s1.heap.objs.size<=(s1.heap.push { cls:=.type "list_reverseiterator",data:=.fields #[.ref a,.int ((its.toArray.size:Int) - 1) 0]}).objs.size:=by rw[bL];exact cg _
   refine⟨.ref _,_,I1.laid (t':=tk) (o:=.lst vs.reverse) old' ?_ ⟨?_,acc.toList,c,rev_vals rv ha,?_⟩,rfl,kk _ (I1.hok.fresh ?_)⟩
   ·rw[bL];exact cg _
   ·rw[iG];exact hz
   ·simpa using hS
   ·rw[bL];exact cg _
def op_fdivB:OpR X (binaryOp .FloorDiv) (rI (fun _ j=>0<j/\j<18446744073709551616) fun i j=>.int (i / j)):=opI fun i j _ _ _ _ _ hc q=>by
 have h1:(0:Int)<j:=hc.1;have h2:j<18446744073709551616:=hc.2;refine floordiv_int (by lia) (by rw[fY i (by lia)];exact q) (.inl (PyProof.noPylong_of_log2 ?_));refine bn ((Nat.log2_lt (by lia)).mpr (show j.natAbs<2 ^ 64 by lia)) (by decide)
def Itd(a:af)(o:Obj)(ks:List Str)(vs:List V):It:=⟨fun i H=>H a=aa (.frz o (.dK ((ks.map bB).zip vs)))/\i<ks.length,fun i H x H'=>H'=H/\∃ z,ks[i]? = aa z/\x=.str z,fun i H=>H a=aa (.frz o (.dK ((ks.map bB).zip vs)))/\ks.length<=i⟩
def kv_keys:∀ {ks:List Str} {vs:List V} {us:List (Key × ae)},ks.length=vs.length->KV ((ks.map bB).zip vs) us->us.map (·.1)=ks.map bB
 | [],[],us,_,r=>by
  unfold KV at r;cases r;rfl
 | x :: ks,v :: vs,us,hl,r=>by
  unfold KV at r;rw[aF,cx] at r;cases r with
  | cons h t=>rw[aF,aF,kv_keys (by simpa using hl) t,<- h.1]
def Inv.frzD{pins:List (af × Obj)}{σ:St}{H:Hp}{s:ah}{a:af}{o:Obj}{ks:List Str}{vs:List V}(I:Inv X pins σ H s)(e:H a=aa (.frz o (.dK ((ks.map bB).zip vs))))(hl:ks.length=vs.length) :
  (a == sysModules)=false/\∃ (us:List (Key × ae)) (es:Array DictEntry) (ep:Nat),o.data=.dict es ep/\us.map (·.1)=ks.map bB/\s.heap.DictAt (zbd X.prog X.w) a us ep:=by
 obtain⟨h1,_,hd,us,r,o',es,ep,h2,h3,h4,h5⟩:=I.hok a _ e;rw[h1] at h2;cases h2;exact⟨hd,us,es,ep,h4,kv_keys hl r,_,es,h1,h3,h4,h5⟩
def turn_dic{P:aN}{w:aV}{K:ag}{a it:af}{o:Obj}{ks:List Str}{vs:List V}{es:Array DictEntry}{ep:Nat}(hl:ks.length=vs.length)(ho:o.data=.dict es ep) :
  Turn P w K tg (Itd a o ks vs) [it] it (fun i h=>h.IsKeyIter it a i ks.length ep) where
 mem:=by simp
 obj:=fun i h st b hb=>by
  have e:b=it:=by simpa using hb
  subst e;obtain⟨o,e,c,d⟩:=st;exact⟨o,e,fun v z=>by rw[d] at z;cases z⟩
 keep:=fun i h h' st k=>st.at fun o e=>k it (by simp) o e
 item:=by
  intro X hP hw hK hc i pins s σ H E I hf st hg;subst hP hw hK;obtain⟨f0,f1,f2,f3,f4,f5⟩:=hf it (by simp);obtain⟨hg1,hg2⟩:=(show _/\_ from hg);obtain⟨_,us,es',ep',h4,hk,hd⟩:=I.frzD hg1 hl;rw[ho] at h4;cases h4;have hu:us.length=ks.length:=by have:=congrArg cY hk;simpa using this
  have hlt:i<us.length:=by lia
  rw[<- hu] at st;refine wpAny_pyNext_dict_item (knd:=zbd X.prog X.w) (k:=us[i].1) (v:=us[i].2) st hd (by rw[aE hlt]) fun key h' hk' st' sb=>?_;have hz:us[i].1=bB ks[i]:=by
   have:=congrArg (fun l=>l[i]?) hk;simp only[aD,aE hlt,aE hg2,bS,eH] at this;exact this
  rw[hz] at hk';have hk2:zgW (bB ks[i]) key=true:=hk';rcases zaF hk2 with ⟨_,_,z,_⟩ | ⟨z,t,e1,e2⟩
  ·cases z
  ·cases e1;subst e2;have I1:Inv X pins σ H { s with heap:=h'}:=I.turned (t':=s.toks) (fun b o hb e=>(sb.2 b hb).trans e) f0 f1 f3 f4 f5;rw[hu] at st';exact⟨_,rfl,letGo_keyiter (s':={ s with heap:=h'}) st' ⟨.str ks[i],H,I1,⟨t,rfl⟩,⟨rfl,_,aE hg2,rfl⟩,st',fun b hb=>(hf b hb).1⟩⟩
 done:=by
  intro X hP hw hK hc i pins s σ H E I hf st hg;subst hP hw hK;obtain⟨f0,f1,f2,f3,f4,f5⟩:=hf it (by simp);obtain⟨hg1,hg2⟩:=(show _/\_ from hg);obtain⟨_,us,es',ep',h4,hk,hd⟩:=I.frzD hg1 hl;rw[ho] at h4;cases h4;have hu:us.length=ks.length:=by have:=congrArg cY hk;simpa using this
  rw[<- hu] at st;exact wpAny_pyNext_dict_end (knd:=zbd X.prog X.w) (I.ok.hd hc) st hd (cJ (by lia)) fun h' eb=>⟨rfl,I.turned (t':=s.toks) (fun b o hb e=>eb b o hb e) f0 f1 f3 f4 f5⟩
 self:=fun _ _ _ _ _ st h=>wpAny_pyIter_keyiter st h
def iDk(tl:TE):TI:=fun σ H R=>tl σ H fun x H1=>∃ a o ks vs,x=.ref a/\ks.length=vs.length/\H1 a=aa (.frz o (.dK ((ks.map bB).zip vs)))/\R (Itd a o ks vs) H1
def pi_dic{l:Expr}{tl:TE}(hl:PE X l tl):PI X tg l (iDk tl):=by
 intro pins s σ H R I h;refine thn (hl pins s σ H _ I h) ?_;rintro v s1 ⟨x,H1,I1,r1,q1⟩;obtain⟨a,o,ks,vs,e,hl',ha,q⟩:=q1;subst e;cases r1;obtain⟨hs,us,es,ep,h4,hk,hd⟩:=I1.frzD ha hl';have hu:us.length=ks.length:=by have:=congrArg cY hk;simpa using this
 refine wpAny_pyIter_dict (knd:=zbd X.prog X.w) hs hd ?_;refine⟨s1.heap.objs.size,[s1.heap.objs.size],_,_,H1,rfl,I1.kept (t':=s1.toks) fun b o e=>ak _ e,turn_dic hl' h4,⟨_,aB _ rfl,rfl,by rw[hu];rfl⟩,fun b hb=>?_,q⟩;have e:b=s1.heap.objs.size:=by simpa using hb
 subst e;exact I1.fpOk (au _) (I1.hok.fresh (au _))
end
end L2
namespace L3
open PySem PySem.Spec PyProof.Rows L2
def gLstRev:Ent->Option Ent:=fun x=>(asL x).bind fun ds=>aa (.own ds.reverse)
noncomputable def gDivB:=pI (fun _ j=>0<j/\j<18446744073709551616) fun i j=>.int (i / j)
def iD(fe:FE):FI:=fun δ=>(fe δ).bind fun x=>(dOf x).map fun p=>p.1.map D.str
section
variable {X:Cx}{e tg:Expr}{fe:FE}{p p1 pos pos1:Pos}
def vLstRev(he:VE X e fe)(hg:Gl X "list")(hm:X.mg "list" = ab)(hv:aS "list" = aa (.type "list"))(hg1:Gl X "reversed")(hm1:X.mg "reversed" = ab)(hv1:aS "reversed" = aa (.type "reversed"))(hc:X.calm=true:=by rfl)(h1:zak e=true:=by rfl) :
  VE X (.Call (.Name "list" p) [.Call (.Name "reversed" p1) [e] [] pos1] [] pos) (ex1 gLstRev fe):=by
 obtain⟨t,w,m⟩:=he.h;refine⟨_,⟨pe_lrv hc w.h hg hm hv hg1 hm1 hv1 (zaq h1) (zaq rfl)⟩,fun B F H σ δ res Q s q k=>?_⟩;obtain⟨en,q1,q⟩:=bind_some q;refine m B F H σ δ en _ s q1 fun v F1 H1 x1 r1=>?_;obtain⟨ds,q2,q3⟩:=bind_some q;cases q3;obtain⟨l,vs,rfl,hs,rs⟩:=r1.toL x1.fh q2;refine⟨l,vs,rfl,hs,fun r hr=>?_⟩;exact k _ F1 _ (x1.trans (Ex.lay x1.fh hr)) ⟨r,_,rfl,x1.hh.free hr,zai,rs.rev,x1.fh.free hr⟩
def o_divB:OpD X (binaryOp .FloorDiv) gDivB:=⟨_,op_fdivB,semI (fun _ _ h=>h) fun _ _ _=>.int _⟩
def itOk_dic{B F0:Hp}{a:af}{o:Obj}{ks:List Str}{vs:List V}(h:F0 a=aa (.frz o (.dK ((ks.map bB).zip vs)))):ItOk B F0 (Itd a o ks vs) (ks.map D.str):=fun F H s1 s2 s3=>by
 have h':=s2 _ _ (s1 _ _ h);refine⟨⟨h',by simp⟩,fun i d e=>?_⟩;rw[aD] at e;by_cases hi:i<ks.length
 ·rw[aE hi] at e;cases e;refine⟨⟨h',hi⟩,fun x H' y=>?_⟩;obtain⟨e',z,hz,y⟩:=y;rw[aE hi] at hz;cases hz;subst e' y;exact⟨F,Ex.refl s2,.str _⟩
 ·rw[cJ (by lia)] at e;cases e
def iid(he:VE X e fe):VI X tg e (iD fe):=by
 obtain⟨t,w,m⟩:=he.h;refine⟨_,⟨pi_dic w.h⟩,fun B F H σ δ ds R s q k=>?_⟩;obtain⟨x,q1,q⟩:=bind_some q;obtain⟨p,q2,q⟩:=map_some q;cases q;cases zgb q2;refine m B F H σ δ _ _ s q1 fun v F1 H1 x1 r1=>?_;cases (show Rep F1 v (.dic p.1 p.2) from r1) with
 | @dic a o ks vs ds e1 hl rs=>exact⟨a,o,p.1,vs,rfl,hl,x1.fh _ _ e1,k _ F1 H1 x1 (itOk_dic e1)⟩
end
end L3

namespace L2
open PySem PySem.Spec PyProof.Rows
section
variable {X:Cx}{e:Expr}{p p1 pos pos1:Pos}{t:TE}
def op_mulS:OpR X (binaryOp .Mult) (fun x y H Q=>∃ z n,x=.str z/\y=.int n/\MulOk z n/\Q (.str (fM z n)) H):=by
 intro pins s σ H x y v u Q I rx ry h;obtain⟨z,n,rfl,rfl,hok,q⟩:=h;obtain⟨t,rfl⟩:=rx;obtain⟨t',rfl⟩:=ry;exact SB.mul hok fun tk k=>⟨.str _,H,I.tok _,⟨tk,rfl⟩,q⟩
def zis:∀ (n:Nat) (acc:List ae) (i:Int),acc.length=n->(∀ (j:Nat) (v:ae),acc[j]? = aa v->∃ t,v=.int (i+j) t)->Vals ((ax n).map fun(k:Nat)=>V.int (i+k)) acc
 | 0,[],_,_,_=>.nil
 | 0,_ :: _,_,h,_=>by cases h
 | _+1,[],_,h,_=>by cases h
 | n+1,v :: acc,i,hl,h=>by
  rw[g9,aF,bY];refine .cons ?_ ?_
  ·obtain⟨t,e⟩:=h 0 v rfl;exact⟨t,e⟩
  ·have:=zis n acc (i+1) (by simpa using hl) fun j w hw=>by
    obtain⟨t,e⟩:=h (j+1) w (by simpa using hw);exact⟨t,by rw[e];congr 1;lia⟩
   have e2:((fun(k:Nat)=>V.int (i+k)) ∘ Nat.succ)=fun(k:Nat)=>V.int (i+1+k):=by
    funext k;show V.int (i+((k+1:Nat):Int))=V.int (i+1+k);congr 1;lia
   rw[e2];exact this
def tLR(t:TE):TE:=fun σ H Q=>t σ H fun x H1=>∃ n:Int,x=.int n/\0<=n/\n<=1000/\∀ q,H1 q=ab->Q (.ref q) (upd H1 q (.lst ((ax n.toNat).map fun(k:Nat)=>V.int (0+k))))
def pe_lr(hc:X.calm=true)(he:PE X e t)(hg:Gl X "list")(hm:X.mg "list" = ab)(hv:aS "list" = aa (.type "list"))(hg1:Gl X "range")(hm1:X.mg "range" = ab)
  (h1:ba [e] X.env=(false,eval e X.env) :: ba [] X.env) (h2:ba [jC (.Name "range" p1) [e] [] pos1] X.env=(false,eval (.Call (.Name "range" p1) [e] [] pos1) X.env) :: ba [] X.env) :
  PE X (.Call (.Name "list" p) [.Call (.Name "range" p1) [e] [] pos1] [] pos) (tLR t):=by
 intro pins s σ H Q I h;refine bQ (zdd I hg hm hv (bP ?_ h2 rfl) (by decide) (by decide));rw[h2];refine d6 (rest:=backTo pos (ba [] X.env)) (bQ (zdd I hg1 hm1 boot_range (bP ?_ h1 rfl) (by decide) (by decide)));refine thn (zgg he zhU h1 pos1 pins s σ H (one fun x H1=>∃ n:Int,x=.int n/\0<=n/\n<=1000/\∀ q,H1 q=ab->Q (.ref q) (upd H1 q (.lst ((ax n.toNat).map fun(k:Nat)=>V.int (0+k))))) I (show t σ H _ from h)) ?_;rintro us s1 ⟨xs,H1,I1,r1,qx⟩;obtain⟨x,rfl,n,rfl,n0,n1,kk⟩:=zfM qx;cases r1 with
 | cons r1 rn=>
  cases rn;obtain⟨tk,rfl⟩:=r1;refine call_range_1 (eF ?_);have sz:ej 0 n 1=((n.toNat:Nat):Int):=by unfold ej;simp;split <;> lia
  refine call_list_range (r:=s1.heap.objs.size) (n:=n.toNat) (I.ok.hd hc) (kx ..) (small_one (by decide) (by decide) (by lia) (by lia)) sz (by lia) fun h' tk2 acc c' old hS ha=>?_;have old':∀ b o,s1.heap.get? b=aa o->h'.get? b=aa o:=fun b o z=>old b o (ak _ z);have hle:s1.heap.objs.size<=(s1.heap.push { cls:=.type "range",data:=.fields #[.int 0 s1.toks,.int n tk,.int 1 (s1.toks+1)]}).objs.size:=by rw[bL];exact cg _
  refine⟨.ref _,_,I1.laid (t':=tk2) (o:=.lst ((ax n.toNat).map fun(k:Nat)=>V.int (0+k))) old' hle ⟨?_,acc.toList,c',zis n.toNat acc.toList 0 (by rw[<- ha.1];simp) fun j v hj=>?_,?_⟩,rfl,kk _ (I1.hok.fresh hle)⟩
  ·rw[al,bZ,bC];lia
  ·obtain⟨tt,z⟩:=ha.2 j v (by simpa using hj);exact⟨tt,by rw[z];simp⟩
  ·simpa using hS
end
end L2
namespace L3
open PySem PySem.Spec PyProof.Rows L2
noncomputable def zi5:Ent->Ent->Option Ent:=fun x y=>(sOf x).bind fun z=>(iOf y).bind fun n=>gif (MulOk z n) (aa (.val (.str (fM z n))))
def zir:Ent->Option Ent:=fun x=>(iOf x).bind fun n=>if 0<=n/\n<=1000 then aa (.own ((ax n.toNat).map fun(k:Nat)=>D.int (0+k))) else ab
section
variable {X:Cx}{e:Expr}{fe:FE}{p p1 pos pos1:Pos}
def o_mulS:OpD X (binaryOp .Mult) zi5:=⟨_,op_mulS,fun H0 F H x y e e' res Q fh hh rx ry q k=>by
 obtain⟨z,q1,q⟩:=bind_some q;obtain⟨n,q2,q⟩:=bind_some q;obtain⟨hok,qz⟩:=zba q;cases qz;cases zbB q1;cases zaw q2;exact⟨z,n,zb0 rx,zaO ry,hok,k _ F H (Ex.refl fh) (.str _)⟩⟩
def reps_rng{F:Hp}(n:Nat):Reps F ((ax n).map fun(k:Nat)=>V.int (0+k)) ((ax n).map fun(k:Nat)=>D.int (0+k)):=by
 have:=Reps.ints (F:=F) ((ax n).map fun(k:Nat)=>(0+k:Int));rw[bY,bY] at this;exact this
def vListR(he:VE X e fe)(hg:Gl X "list")(hm:X.mg "list" = ab)(hv:aS "list" = aa (.type "list"))(hg1:Gl X "range")(hm1:X.mg "range" = ab)(hv1:aS "range" = aa (.type "range"))(hc:X.calm=true:=by rfl)(h1:zak e=true:=by rfl) :
  VE X (.Call (.Name "list" p) [.Call (.Name "range" p1) [e] [] pos1] [] pos) (ex1 zir fe):=by
 obtain⟨t,w,m⟩:=he.h;refine⟨_,⟨pe_lr hc w.h hg hm hv hg1 hm1 (zaq h1) (zaq rfl)⟩,fun B F H σ δ res Q s q k=>?_⟩;obtain⟨en,q1,q⟩:=bind_some q;obtain⟨n,q2,q⟩:=bind_some q;split at q
 ·rename_i hn;cases q;cases zaw q2;refine m B F H σ δ _ _ s q1 fun v F1 H1 x1 r1=>⟨n,zaO r1,hn.1,hn.2,fun l hl=>?_⟩
  exact k _ F1 _ (x1.trans (Ex.lay x1.fh hl)) ⟨l,_,rfl,(x1.hh.free hl),zai,reps_rng _,x1.fh.free hl⟩
 ·cases q
end
end L3

namespace L3
open PySem PySem.Spec PyProof.Rows L2
def fPop(i:Nat)(tg:FG):FS:=fun δ=>match δ[i]? with
 | some (aa (.own ds))=>(ds[ds.length - 1]?).bind fun d=>(tg d (δ.set i (aa (.own ds.dropLast)))).map .nx
 | _=>ab
section
variable {X:Cx}{tg:Expr}{pos p:Pos}{x:Str}{tgf:FG}
def sPop(i:Nat){apos cpos:Pos}(hg:VG X tg tgf)(hN:X.N[i]? = aa x:=by rfl)(hv:Vis X.env.scope x:=by first | exact aK rfl | exact be (aK rfl) | exact be (be rfl))(hd:(x == ("__debug__" : Str))=false:=by decide)(hcd:(x == ("__classdict__" : Str))=false:=by decide)
  (hbase:b9 (.Name x p) "pop" X.env (eval (.Name x p) X.env)=eval (.Name x p) X.env:=by rfl) (hline:(apos.endLine == cpos.line)=true:=by rfl)
  (hs:swapsWithSole [tg] (.Call (.Attribute (.Name x p) "pop" apos) [] [] cpos) pos.line X.env=pure false:=by rfl) (hw:swappedStores [tg] (.Call (.Attribute (.Name x p) "pop" apos) [] [] cpos) X.env=pure ab:=by rfl) (h1:(dg [tg] X.env).map (·.2)=[assign tg X.env]:=by rfl) :
  VS X (.Assign [tg] (.Call (.Attribute (.Name x p) "pop" apos) [] [] cpos) pos) (fPop i tgf):=by
 obtain⟨t1,w1,m1⟩:=hg.h;refine⟨_,sasg ⟨pe_bm0 cN eR eS mt_pop (wv i hN hv hd hcd).h hbase hline⟩ w1 hs hw h1,fun B F H σ δ out DD s q k=>?_⟩;unfold fPop at q;split at q
 ·rename_i ds hi;obtain⟨d,q1,q⟩:=bind_some q;obtain⟨δ',q2,q⟩:=map_some q;cases q;obtain⟨v,h1,l,vs,e,h2,h3,h4,h5⟩:=s.ent i _ hi;subst e;obtain⟨y,hy,ry⟩:=h3.get q1;refine⟨_,h1,.inl ⟨rfl,vs,SqL.of h2⟩,l,vs,y,rfl,rfl,h2,?_,?_⟩
  ·rw[h3.length];exact hy
  ·exact m1 B F _ σ _ δ' y d _ (s.mut hi h1 h3.dropLast) ry q2 fun σ' s'=>k σ' F _ s' FX.refl
 ·cases q
end
end L3

namespace L3
open PySem PySem.Spec PyProof.Rows L2
def TupK(K:ag)(a:af)(is:List Int):Prop:=∃ (o:Obj) (its:Array ae) (n:Nat),K.lookup a=aa o/\o.cls=.type "tuple" /\ o.data=.seq its n/\its.size<=aZ/\Vals (is.map V.int) its.toList
def eB(ds:List D):FE:=fun _=>aa (.bt ds)
def vglB{X:Cx}{x:Str}{pos:Pos}{is:List Int}(hg:Gl X x)(h:∃ a,X.mg x=aa (.ref a)/\TupK X.K a is)(hd:(x == ("__debug__" : Str))=false:=by decide):VE X (.Name x pos) (eB (is.map .int)):=by
 obtain⟨a,hm,o,its,n,h1,h2,h3,h4,h5⟩:=h;refine⟨_,wgl (v:=.ref a) hg ⟨_,hm,rfl⟩ hd,fun B F H σ δ r Q s q k=>?_⟩;cases q;exact k _ F H (Ex.refl s.fh) ⟨a,is.map V.int,rfl,.inr ⟨o,its,n,h1,h2,h3,h4,h5⟩,Reps.ints is⟩
end L3

namespace L2
open PySem PySem.Spec PyProof.Rows
def pairs_any{P P':aN}{w w':aV}{es:List DictEntry}{us:List (Key × ae)}(r:Pairs (zbd P w) es us):Pairs (zbd P' w') es us:=by
 induction r with
 | nil=>exact .nil
 | cons h1 h2 _ ih=>exact .cons h1 h2 ih
def DiD.at{P:aN}{w:aV}{l:af}{o:Obj}{ks:List Int}{vs:List V}{h:bd}(d:DiD l o ((ks.map bE).zip vs))(hl:ks.length=vs.length)(e:h.get? l=aa o) :
  ∃ us es ep,KV ((ks.map bE).zip vs) us/\o.data=.dict es ep/\us.map (·.1)=ks.map bE/\h.DictAt (zbd P w) l us ep:=by
 obtain⟨_,_,P0,w0,es,ep,us,h1,h2,h3,h4,h5,h6⟩:=d;have hk:us.map (·.1)=ks.map bE:=by
  have z:=congrArg (lr ly) (zhB h6);rw[List.map_fst_zip (by rw[al];exact dv hl),bY] at z;exact z.symm
 refine⟨us,es,ep,h6,h2,hk,o,es,e,h1,h2,fun x hx=>?_,pairs_any h4,h5⟩;obtain⟨k,a,b⟩:=h3 x hx;refine⟨k,a,b.trans ?_⟩;have:k ∈ us.map (·.1):=by
  rw[zeq h4,bY];exact bH.mpr ⟨x,c8.mpr hx,kBk_is a⟩
 rw[hk] at this;obtain⟨i,_,rfl⟩:=bH.mp this;rfl
def kisI{P:aN}{w:aV}{i:Int}{u:ae}(r:RelV (.int i) u):(zbd P w).is (bE i) u=true:=by
 obtain⟨t,rfl⟩:=r;exact keyIs_int i t
section
variable {X:Cx}{pins:List (af × Obj)}{σ:St}{H:Hp}{s:ah}{l:af}{o:Obj}
def Inv.kn(I:Inv X pins σ H s)(e:H l=aa (knO l o)):s.heap.get? l=aa o:=(show ObjOk X.prog X.w H s.heap l (knO l o) from I.hok l _ e).1
def Inv.toK{kvs:List (Key × V)}(I:Inv X pins σ H s)(e:H l=aa (.dK kvs)):∃ o,DiD l o kvs/\Inv X pins σ (upd H l (knO l o)) s:=by
 obtain⟨h1,h2,us,h3,o,es,ep,h4,h5,h6,h7,h8,h9⟩:=(show ObjOk X.prog X.w H s.heap l (.dK kvs) from I.hok l _ e);exact⟨o,⟨h2,h1,X.prog,X.w,es,ep,us,h5,h6,h7,h8,h9,h3⟩,I.write (x:=l) (e:=l) (h':=s.heap) (t':=s.toks) (o:=knO l o) (by rw[e];exact dB) (.inl rfl) (fun _ _ _ z=>z) ⟨_,h4⟩ ⟨h4,⟨_,h4⟩,fun _ _ a b=>b _ a⟩⟩
def tDI0:TE:=fun _ H Q=>∀ p,H p=ab->∀ o,DiD p o []->Q (.ref p) (upd H p (knO p o))
def pe_di0{pos:Pos}:PE X (.Dict [] [] pos) tDI0:=by
 intro pins s σ H Q I h;refine thn ((pe_dnewK (X:=X) (pos:=pos)) pins s σ H (fun v H1=>∃ p,v=.ref p/\H p=ab/\H1=upd H p (.dK [])) I fun p hp=>⟨p,rfl,hp,rfl⟩) ?_;rintro u s1 ⟨v,H1,I1,r,p,e1,hp,e2⟩;subst e1 e2;obtain⟨o,d,I2⟩:=I1.toK (l:=p) zai;rw[upd_upd] at I2;exact⟨_,_,I2,r,h p hp o d⟩
def ixI:List Int->Int->Option Nat
 | [],_=>ab
 | k :: ks,i=>if k=i then aa 0 else (ixI ks i).map (· + 1)
def zfP(i:Int):∀ {ks:List Int} {vs:List V},ks.length=vs.length->atK ((ks.map bE).zip vs) (bE i)=(ixI ks i).bind fun j=>vs[j]?
 | [],[],_=>rfl
 | k :: ks,v :: vs,h=>by
  have ih:=zfP i (ks:=ks) (vs:=vs) (by simpa using h);unfold atK at ih ⊢;rw[aF,cx];unfold ixI;by_cases e:k=i
  ·rw[if_pos e,dH (by simpa using e)];rfl
  ·rw[if_neg e,dI (by simpa using e),ih];cases ixI ks i <;> rfl
def zhZ{i:Int}:∀ {ks:List Int} {j:Nat},ixI ks i=aa j->ks[j]? = aa i
 | [],_,h=>by cases h
 | k :: ks,j,h=>by
  unfold ixI at h;split at h
  ·rename_i e;cases h;rw[e];rfl
  ·cases q:ixI ks i with
   | none=>rw[q] at h;cases h
   | some j'=>rw[q] at h;cases h;rw[bA];exact zhZ q
def zf6{i:Int}:∀ {ks:List Int},ixI ks i=ab->i ∉ ks
 | [],_=>by simp
 | k :: ks,h=>by
  unfold ixI at h;split at h
  ·cases h
  ·rename_i e;cases q:ixI ks i with
   | none=>exact fun z=>(az.mp z).elim (fun z=>e z.symm) (zf6 q)
   | some j'=>rw[q] at h;cases h
def rIxI:R2:=fun x y H Q=>∃ (a:af) (o:Obj) (ks:List Int) (vs:List V) (i:Int) (v:V),x=.ref a/\y=.int i/\H a=aa (knO a o)/\DiD a o ((ks.map bE).zip vs)/\ks.length=vs.length/\atK ((ks.map bE).zip vs) (bE i)=aa v/\Q v H
def ix_di:IxR X rIxI:=by
 intro value slice pins s σ H x y v u Q I rx ry h hs;obtain⟨a,o,ks,vs,i,v',rfl,rfl,e,d,hl,hv,q⟩:=h;cases rx;obtain⟨us,es,ep,rel,h1,h2,da⟩:=d.at (P:=X.prog) (w:=X.w) hl (I.kn e);have dd:=da.dictOf;rcases zf7 rel (bE i) with ⟨v2,w,e1,e2,e3⟩ | ⟨e1,_⟩
 ·rw[hv] at e1;cases e1;exact subscriptTail_builtinR (x:=w) dd.typeIs slot_dict_getitem.lookup (wpAny_getItem_of (kisI ry) dd.mapOf e2 ⟨rfl,v',H,I.tok _,e3,q⟩) hs
 ·rw[hv] at e1;cases e1
def rInI:R2:=fun x y H Q=>∃ (a:af) (o:Obj) (ks:List Int) (vs:List V) (i:Int),x=.int i/\y=.ref a/\H a=aa (knO a o)/\DiD a o ((ks.map bE).zip vs)/\ks.length=vs.length/\Q (.bl (atK ((ks.map bE).zip vs) (bE i)).isSome) H
def op_inI:OpR X (bu .In) rInI:=by
 intro pins s σ H x y v u Q I rx ry h;obtain⟨a,o,ks,vs,i,rfl,rfl,e,d,hl,q⟩:=h;cases ry;obtain⟨us,es,ep,rel,h1,h2,da⟩:=d.at (P:=X.prog) (w:=X.w) hl (I.kn e);refine wpAny_in_of (kisI rx) d.1 da.dictOf.mapOf ⟨.bl _,H,I.tok _,?_,q⟩;rcases zf7 rel (bE i) with ⟨v2,w,e1,e2,e3⟩ | ⟨e1,e2⟩ <;> (rw[e1,e2];rfl)
def rSetI:V->V->V->Hp->(Hp->Prop)->Prop:=fun o i v H Q=>∃ (p:af) (ob:Obj) (ks:List Int) (vs:List V) (k:Int),o=.ref p/\i=.int k/\H p=aa (knO p ob)/\DiD p ob ((ks.map bE).zip vs)/\ks.length=vs.length/\ks.length<1000000/\k ∉ ks /\
 ∀ ob',DiD p ob' (((ks ++ [k]).map bE).zip (vs ++ [v]))->Q (upd H p (knO p ob'))
def set_di:PSet X rSetI:=by
 intro pins s σ H o i v ov iv u Q I ro ri rv h;obtain⟨p,ob,ks,vs,k,rfl,rfl,hp,d,hl,hz,hk,q⟩:=h;cases ro;obtain⟨us,es,ep,rel,h1,h2,da⟩:=d.at (P:=X.prog) (w:=X.w) hl (I.kn hp);have hu:us.length<=aZ:=by
  have:=congrArg cY h2;simp only[al] at this;rw[this,bC];lia
 have hst:stored us (bE k) u=us ++ [(bE k,u)]:=by
  unfold stored;rw[if_neg];intro z;obtain⟨x,hx,e⟩:=List.any_eq_true.mp z;have:x.1 ∈ us.map (·.1):=bH.mpr ⟨x,hx,rfl⟩;rw[h2,of_decide_eq_true e] at this;obtain⟨i,hi,e'⟩:=bH.mp this;cases e';exact hk hi
 refine wpAny_setItem_pairs (hsz:=hu) (kisI ri) da.dictOf fun h' dd' hs=>?_;rw[hst] at dd';obtain⟨o',es',ep',g1,g2,g3,g4,g5,g6⟩:=dd';refine⟨_,I.write (x:=p) (e:=p) (o:=knO p o') (by rw[hp];exact dB) (.inl rfl) (fun b q hb z=>(hs.2 b hb).trans z) ⟨_,g1⟩ ⟨g1,⟨_,g1⟩,fun _ _ a b=>b _ a⟩,q o' ⟨d.1,?_,X.prog,X.w,es',ep',_,g2,g3,g4,g5,g6,?_⟩⟩
 ·rw[fg,al,aC,aC,bC,<- hl];simp only[aw,bm];lia
 ·rw[bz,List.zip_append (by rw[al];exact hl)];exact Paired.snoc rel ⟨rfl,rv⟩
def Iti(a:af)(o:Obj)(ks:List Int):It:=⟨fun i H=>H a=aa (knO a o)/\i<ks.length,fun i H x H'=>H'=H/\∃ z,ks[i]? = aa z/\x=.int z,fun i H=>H a=aa (knO a o)/\ks.length<=i⟩
def turn_di{tg:Expr}{P:aN}{w:aV}{K:ag}{a it:af}{o:Obj}{ks:List Int}{vs:List V}{es:Array DictEntry}{ep:Nat}(d:DiD a o ((ks.map bE).zip vs))(hl:ks.length=vs.length)(ho:o.data=.dict es ep) :
  Turn P w K tg (Iti a o ks) [it] it (fun i h=>h.IsKeyIter it a i ks.length ep) where
 mem:=by simp
 obj:=fun i h st b hb=>by
  have e:b=it:=by simpa using hb
  subst e;obtain⟨o,e,c,d⟩:=st;exact⟨o,e,fun v z=>by rw[d] at z;cases z⟩
 keep:=fun i h h' st k=>st.at fun o e=>k it (by simp) o e
 item:=by
  intro X hP hw hK hc i pins s σ H E I hf st hg;subst hP hw hK;obtain⟨f0,f1,f2,f3,f4,f5⟩:=hf it (by simp);obtain⟨hg1,hg2⟩:=(show _/\_ from hg);obtain⟨us,es',ep',_,h4,hk,hd⟩:=d.at (P:=X.prog) (w:=X.w) hl (I.kn hg1);rw[ho] at h4;cases h4;have hu:us.length=ks.length:=by have:=congrArg cY hk;simpa using this
  have hlt:i<us.length:=by lia
  rw[<- hu] at st;refine wpAny_pyNext_dict_item (knd:=zbd X.prog X.w) (k:=us[i].1) (v:=us[i].2) st hd (by rw[aE hlt]) fun key h' hk' st' sb=>?_;have hz:us[i].1=bE ks[i]:=by
   have:=congrArg (fun l=>l[i]?) hk;simp only[aD,aE hlt,aE hg2,bS,eH] at this;exact this
  rw[hz] at hk';have hk2:zgW (bE ks[i]) key=true:=hk';rcases zaF hk2 with ⟨z,t,e1,e2⟩ | ⟨_,_,z,_⟩
  ·cases e1;subst e2;have I1:Inv X pins σ H { s with heap:=h'}:=I.turned (t':=s.toks) (fun b o hb e=>(sb.2 b hb).trans e) f0 f1 f3 f4 f5;rw[hu] at st';exact⟨_,rfl,letGo_keyiter (s':={ s with heap:=h'}) st' ⟨.int ks[i],H,I1,⟨t,rfl⟩,⟨rfl,_,aE hg2,rfl⟩,st',fun b hb=>(hf b hb).1⟩⟩
  ·cases z
 done:=by
  intro X hP hw hK hc i pins s σ H E I hf st hg;subst hP hw hK;obtain⟨f0,f1,f2,f3,f4,f5⟩:=hf it (by simp);obtain⟨hg1,hg2⟩:=(show _/\_ from hg);obtain⟨us,es',ep',_,h4,hk,hd⟩:=d.at (P:=X.prog) (w:=X.w) hl (I.kn hg1);rw[ho] at h4;cases h4;have hu:us.length=ks.length:=by have:=congrArg cY hk;simpa using this
  rw[<- hu] at st;exact wpAny_pyNext_dict_end (knd:=zbd X.prog X.w) (I.ok.hd hc) st hd (cJ (by lia)) fun h' eb=>⟨rfl,I.turned (t':=s.toks) (fun b o hb e=>eb b o hb e) f0 f1 f3 f4 f5⟩
 self:=fun _ _ _ _ _ st h=>wpAny_pyIter_keyiter st h
def iDiT(tl:TE):TI:=fun σ H R=>tl σ H fun x H1=>∃ (a:af) (o:Obj) (ks:List Int) (vs:List V),x=.ref a/\DiD a o ((ks.map bE).zip vs)/\ks.length=vs.length/\H1 a=aa (knO a o)/\R (Iti a o ks) H1
def pi_di{tg l:Expr}{tl:TE}(hl:PE X l tl):PI X tg l (iDiT tl):=by
 intro pins s σ H R I h;refine thn (hl pins s σ H _ I h) ?_;rintro v s1 ⟨x,H1,I1,r1,q1⟩;obtain⟨a,o,ks,vs,e,d,hl',ha,q⟩:=q1;subst e;cases r1;obtain⟨us,es,ep,_,h4,hk,hd⟩:=d.at (P:=X.prog) (w:=X.w) hl' (I1.kn ha);have hu:us.length=ks.length:=by have:=congrArg cY hk;simpa using this
 refine wpAny_pyIter_dict (knd:=zbd X.prog X.w) d.1 hd ?_;refine⟨s1.heap.objs.size,[s1.heap.objs.size],_,_,H1,rfl,I1.kept (t':=s1.toks) fun b o e=>ak _ e,turn_di d hl' h4,⟨_,aB _ rfl,rfl,by rw[hu];rfl⟩,fun b hb=>?_,q⟩;have e:b=s1.heap.objs.size:=by simpa using hb
 subst e;exact I1.fpOk (au _) (I1.hok.fresh (au _))
def call_min3(hc:X.calm=true):zde X (.builtin "min") (fun xs H Q=>∃ i j k,xs=[.int i,.int j,.int k]/\Q (.int (min (min i j) k)) H):=by
 intro pins s σ H xs us Q I r h;obtain⟨i,j,k,rfl,q⟩:=h;cases r with
 | cons r1 r=>
  obtain⟨u,w',rfl,r2,r3⟩:=vals2 r;obtain⟨t1,rfl⟩:=r1;obtain⟨t2,rfl⟩:=r2;obtain⟨t3,rfl⟩:=r3;refine min_three_ints (I.ok.hd hc) fun h' tk kk=>⟨_,H,I.kept kk,?_,q⟩
  by_cases h1:j<i
  ·rw[if_pos h1];by_cases h2:k<j
   ·rw[if_pos h2,show min (min i j) k=k by lia];exact⟨_,rfl⟩
   ·rw[if_neg h2,show min (min i j) k=j by lia];exact⟨_,rfl⟩
  ·rw[if_neg h1];by_cases h2:k<i
   ·rw[if_pos h2,show min (min i j) k=k by lia];exact⟨_,rfl⟩
   ·rw[if_neg h2,show min (min i j) k=i by lia];exact⟨_,rfl⟩
end
end L2
namespace L3
open PySem PySem.Spec PyProof.Rows L2
def gAbs:List Ent->Option Ent
 | [x]=>(iOf x).map fun i=>.val (.int (if i<0 then -i else i))
 | _=>ab
def gMin3:List Ent->Option Ent
 | [x,y,z]=>(iOf x).bind fun i=>(iOf y).bind fun j=>(iOf z).map fun k=>.val (.int (min (min i j) k))
 | _=>ab
def asDi:Ent->Option (List Int × List D)
 | .val (.dcI ks l)=>aa (ks,l)
 | _=>ab
def zeT{e:Ent}{p:List Int × List D}(h:asDi e=aa p):e=.val (.dcI p.1 p.2):=by
 cases e with
 | val d=>cases d <;> first | (cases h;rfl) | (cases h)
 | _=>cases h
def gDxI:Ent->Ent->Option Ent:=fun x y=>(asDi x).bind fun p=>(iOf y).bind fun i=>(ixI p.1 i).bind fun j=>(p.2[j]?).map .val
def iDi(fe:FE):FI:=fun δ=>(fe δ).bind fun x=>(asDi x).map fun p=>p.1.map D.int
def asIn(C:af)(ns:List Str):Ent->Option (List D)
 | .val (.ins C' ns' l)=>if C'=C/\ns'=ns then aa l else ab
 | _=>ab
def zgx{C:af}{ns:List Str}{e:Ent}{l:List D}(h:asIn C ns e=aa l):e=.val (.ins C ns l):=by
 cases e with
 | val d=>
  cases d with
  | ins C' ns' l'=>
   have h':(if C'=C/\ns'=ns then aa l' else ab)=aa l:=h;split at h'
   ·rename_i z;cases h';rw[z.1,z.2]
   ·cases h'
  | _=>cases h
 | _=>cases h
def zbR(C:af)(ns:List Str)(k:Nat):Ent->Option Ent:=fun x=>(asIn C ns x).bind fun l=>(l[k]?).map .val
def eDI0:FE:=fun _=>aa (.obj (.dcI [] []))
section
variable {X:Cx}{e tg:Expr}{fe:FE}{pos:Pos}{f c:Str}{ns nsF:List Str}
def c_abs:zea X (.builtin "abs") gAbs:=⟨_,call_abs,fun H0 F H vs es res Q fh hh r q k=>by
 match es,q with
 | [x],q=>
  obtain⟨i,q1,q⟩:=map_some q;cases zaw q1;cases q;obtain⟨v,rfl,r1⟩:=zcK r;cases zaO r1;exact⟨i,rfl,k _ F H (Ex.refl fh) (.int _)⟩⟩
def c_min3(hc:X.calm=true:=by rfl):zea X (.builtin "min") gMin3:=⟨_,call_min3 hc,fun H0 F H vs es res Q fh hh r q k=>by
 match es,q with
 | [x,y,z],q=>
  obtain⟨i,q1,q⟩:=bind_some q;obtain⟨j,q2,q⟩:=bind_some q;obtain⟨l,q3,q⟩:=map_some q;cases zaw q1;cases zaw q2;cases zaw q3;cases q;cases r with
  | cons r1 r=>
   cases r with
   | cons r2 r=>
    cases r with
    | cons r3 r=>
     cases r;cases zaO r1;cases zaO r2;cases zaO r3;exact⟨i,j,l,rfl,k _ F H (Ex.refl fh) (.int _)⟩⟩
def x_di:IxD X gDxI:=⟨_,ix_di,fun H0 F H x y e e' res Q fh hh rx ry q k=>by
 obtain⟨p,q1,q⟩:=bind_some q;obtain⟨z,q2,q⟩:=bind_some q;obtain⟨j,q3,q⟩:=bind_some q;obtain⟨d,q4,q⟩:=map_some q;cases q;cases zeT q1;cases zaw q2;cases zaO ry;cases (show Rep F x (.dcI p.1 p.2) from rx) with
 | dcI e d l rs=>
  obtain⟨v,hv,rv⟩:=rs.get q4;exact⟨_,_,_,_,z,v,rfl,rfl,fh _ _ e,d,l,by rw[zfP z l,q3];exact hv,k v F H (Ex.refl fh) rv⟩⟩
def itOk_di{B F0:Hp}{a:af}{o:Obj}{ks:List Int}(h:F0 a=aa (knO a o)):ItOk B F0 (Iti a o ks) (ks.map D.int):=fun F H s1 s2 s3=>by
 have h':=s2 _ _ (s1 _ _ h);refine⟨⟨h',by simp⟩,fun i d e=>?_⟩;rw[aD] at e;by_cases hi:i<ks.length
 ·rw[aE hi] at e;cases e;refine⟨⟨h',hi⟩,fun x H' y=>?_⟩;obtain⟨e',z,hz,y⟩:=y;rw[aE hi] at hz;cases hz;subst e' y;exact⟨F,Ex.refl s2,.int _⟩
 ·rw[cJ (by lia)] at e;cases e
def iidi(he:VE X e fe):VI X tg e (iDi fe):=by
 obtain⟨t,w,m⟩:=he.h;refine⟨_,⟨pi_di w.h⟩,fun B F H σ δ ds R s q k=>?_⟩;obtain⟨x,q1,q⟩:=bind_some q;obtain⟨p,q2,q⟩:=map_some q;cases q;cases zeT q2;refine m B F H σ δ _ _ s q1 fun v F1 H1 x1 r1=>?_;cases (show Rep F1 v (.dcI p.1 p.2) from r1) with
 | @dcI a o ks vs ds e1 d hl rs=>exact⟨a,o,p.1,vs,rfl,d,hl,x1.fh _ _ e1,k _ F1 H1 x1 (itOk_di e1)⟩
def zdW{C:af}{kC:Str->af}(k:Nat)(DC:ClsD X.K X.mg c nsF C)(hC:C=kC c)(he:VE X e fe)(hf:f ∈ nsF:=by decide +kernel)(hk:ns[k]? = aa f:=by rfl)(hn:ns.Nodup:=by decide +kernel)
  (hb:b9 e f X.env (eval e X.env)=eval e X.env:=by rfl):VE X (.Attribute e f pos) (ex1 (zbR (kC c) ns k) fe):=by
 obtain⟨t,w,m⟩:=he.h;refine⟨_,⟨zet w.h hb⟩,fun B F H σ δ res Q s q kk=>?_⟩;obtain⟨x,q1,q⟩:=bind_some q;obtain⟨l,q2,q⟩:=bind_some q;obtain⟨d,q3,q⟩:=map_some q;cases q;cases zgx q2;refine m B F H σ δ _ _ s q1 fun v F1 H1 x1 r1=>?_;cases (show Rep F1 v (.ins (kC c) ns l) from r1) with
 | ins e hl rs=>
  obtain⟨w,hw,rw'⟩:=rs.get q3;refine⟨_,_,_,_,w,rfl,x1.fh _ _ e,hC ▸ DC.cl,hC ▸ DC.no f hf,zcY hn hk hw,kk w F1 H1 x1 rw'⟩
def vDI0:VE X (.Dict [] [] pos) eDI0:=⟨_,⟨pe_di0⟩,fun B F H σ δ res Q s q k p hp o d=>by
 cases q;exact k _ F _ (Ex.lay s.fh hp) ⟨⟨p,rfl⟩,[p],.dcI (vs:=[]) (ks:=[]) zai d rfl .nil,by simp,fun a ha=>by
  simp at ha;subst ha;exact⟨s.fh.free hp,hp⟩⟩⟩
end
end L3

namespace L2
open PySem PySem.Spec PyProof.Rows PySem.W
def zfZ{ks:List Int}{vs:Array ae}{n:Nat}(hn:n=ks.length)(h:ItemsOf (fun i v=>∃ t,v=dm (ks.getD i 0) t) vs n):IntsAre vs.toList ks:=by
 obtain⟨hl,hv⟩:=h;have key:∀ (l:List ae) (y:List Int),l.length=y.length->(∀ (j:Nat) (v:ae),l[j]? = aa v->∃ t,v=dm (y.getD j 0) t)->IntsAre l y:=by
  intro l
  induction l with
  | nil=>
   intro y hl _
   match y,hl with
   | [],_=>exact .nil
  | cons v l ih=>
   intro y hl h
   match y,hl with
   | z :: y,hl=>
    obtain⟨u,rfl⟩:=h 0 v rfl;exact .cons _ _ (ih y (by simpa using hl) fun j v hv=>by simpa using h (j+1) v (by simpa using hv))
 exact key vs.toList ks (by rw[cq,hl,hn]) fun j v e=>hv j v (by rw[dM] at e;exact e)
def ziJ{X:Cx}(hc:X.calm=true):zde X (.builtin "sorted") (fun xs H Q=>∃ (a:af) (o:Obj) (ks:List Int) (vs:List V),xs=[.ref a]/\H a=aa (knO a o)/\DiD a o ((ks.map bE).zip vs)/\ks.length=vs.length/\ks.length<64/\∀ (ns:List Int) (l:af),ns.Perm ks->ns.Pairwise (·<=·)->H l=ab->Q (.ref l) (upd H l (.lst (ns.map V.int)))):=by
 intro pins s σ H xs us Q I r h;obtain⟨a,o,ks,vs,rfl,hH,d,hl,h64,q⟩:=h;obtain⟨u,rfl,rx⟩:=zeA r;cases rx;obtain⟨us,es,ep,rel,h4,hk,hd⟩:=d.at (P:=X.prog) (w:=X.w) hl (I.kn hH);have hu:us.length=ks.length:=by have:=congrArg cY hk;simpa using this
 refine dY kind_sorted plain_sorted entry_sorted (args_sorted1 _) ?_;unfold Builtin.«sorted»;refine ai (m:=checkCount "sorted" 1 1 _) (aq ?_);refine ai (kdu_collect (kdl_dict (knd:=zbd X.prog X.w) d.1) (I.ok.hd hc) hd (by rw[hu,bC];lia) fun h' tk acc old hacc=>?_);have it:IntsAre acc.toList ks:=zfZ hu ⟨hacc.1,fun i v e=>by
  obtain⟨k,x,e1,e2⟩:=hacc.2 i v e;have z:=congrArg (fun l=>l[i]?) hk;simp only[aD,e1,bS] at z;cases hz:ks[i]? with
  | none=>rw[hz] at z;cases z
  | some y=>
   rw[hz] at z;cases z;rcases zaF (show zgW (bE y) v=true from e2) with ⟨j,t,w1,w2⟩ | ⟨_,_,w1,_⟩
   ·cases w1;exact⟨t,by rw[w2,dX,hz];rfl⟩
   ·cases w1⟩
 have vl:acc.toList.length<64:=by rw[cq,hacc.1,hu];exact h64
 have I1:Inv X pins σ H { s with heap:=h',toks:=tk}:=I.kept old;have g0:(h'.push (seqObj "list" acc.toList.toArray 0)).get? h'.objs.size=aa (seqObj "list" acc.toList.toArray 0):=aB _ rfl;refine ai (wpAny_newList ?_ (by rw[bC];lia));show ay _ _ _ _ _ { s with heap:=h'.push (seqObj "list" acc.toList.toArray 0),toks:=tk};refine ai (bU (wpAny_call_entry slot_list_sort ⟨_,g0,rfl⟩ entry_list_sort (list_sort_tree g0 it vl fun out ns a1 a2 a3=>⟨_,rfl,?_⟩) (args_list_sort _)));obtain⟨e,he⟩:=sortedHeap_at (out:=out) g0;refine aq ⟨_,rfl,?_⟩;have sz:(h'.push (seqObj "list" acc.toList.toArray 0)).objs.size=h'.objs.size+1:=by rw[bL]
 refine⟨.ref h'.objs.size,_,I1.laid (a:=h'.objs.size) (o:=.lst (ns.map V.int)) (t':=tk) (fun b ob eb=>?_) (au _) ⟨?_,out.toList,e,zeV a1,by rw[ip];exact he⟩,rfl,q ns _ a2 a3 (I1.hok.fresh (au _))⟩
 ·have lt:=aH eb;rw[sortedHeap_old (aR lt) (by rw[sz];exact cD lt)];exact ak _ eb
 ·rw[al,a2.length_eq,bC];lia
end L2
namespace L3
open PySem PySem.Spec PyProof.Rows L2
def zjg(ks:List Int):List Int:=ks.mergeSort fun a b=>decide (a<=b)
def zdt(ks:List Int):(zjg ks).Perm ks:=fG _ _
def srtZ_up(ks:List Int):(zjg ks).Pairwise (·<=·):=by
 have:=eD (le:=fun a b:Int=>decide (a<=b)) (fun a b c h1 h2=>decide_eq_true (Int.le_trans (of_decide_eq_true h1) (of_decide_eq_true h2))) (fun a b=>by
  rcases Int.le_total a b with h | h
  ·rw[decide_eq_true h];rfl
  ·rw[decide_eq_true h,iP]) ks
 exact this.imp fun h=>of_decide_eq_true h
def srtZ_only{ks ns:List Int}(h:ns.Perm ks)(hs:ns.Pairwise (·<=·)):ns=zjg ks:=
 gL (fun _ _ _ _ h1 h2=>Int.le_antisymm h1 h2) hs (srtZ_up ks) (h.trans (zdt ks).symm)
def gSrtDi:List Ent->Option Ent
 | [x]=>(asDi x).bind fun p=>if p.1.length<64 then aa (.own ((zjg p.1).map .int)) else ab
 | _=>ab
def c_srtDi{X:Cx}(hc:X.calm=true:=by rfl):zea X (.builtin "sorted") gSrtDi:=⟨_,ziJ hc,fun H0 F H vs es res Q fh hh r q k=>by
 obtain⟨x,rfl⟩:=zes rfl (fun _ _ _=>rfl) q;obtain⟨v,rfl,rz⟩:=zcK r;obtain⟨p,q1,q2⟩:=bind_some q;cases zeT q1;split at q2
 ·rename_i hlt;cases q2;cases (show Rep F v (.dcI p.1 p.2) from rz) with
  | @dcI a o ks vs ds e d hl rs=>
   refine⟨a,o,p.1,vs,rfl,fh _ _ e,d,hl,hlt,fun ns l h1 h2 hp=>?_⟩;rw[srtZ_only h1 h2];exact k _ F _ (Ex.lay fh hp) ⟨l,_,rfl,hh.free hp,zai,Reps.ints _,fh.free hp⟩
 ·cases q2⟩
end L3

namespace L2
open PySem PySem.Spec PyProof.Rows
def ofNat_lt:∀ (a b:List Nat),(a.map fU<b.map fU) ↔ a<b
 | [],[]=>by simp
 | [],b :: bs=>by simp
 | a :: as,[]=>by simp
 | a :: as,b :: bs=>by
  rw[aF,aF,cX,cX,ofNat_lt as bs];exact⟨fun h=>h.imp ki.mp fun z=>⟨jJ z.1,z.2⟩,fun h=>h.imp ki.mpr fun z=>⟨congrArg fU z.1,z.2⟩⟩
def prW(i:Int)(x:Str):RwI:=i :: x.cps.toList.map fU
def zfB{i j:Int}{x y:Str}(h:prW i x=prW j y):i=j/\x=y:=by
 obtain⟨h1,h2⟩:=lA h;have h3:x.cps.toList=y.cps.toList:=(iQ (fun _ _ h=>jJ h)).mp h2;cases x;cases y;exact⟨h1,congrArg Str.mk (jd.mp h3)⟩
section
variable {prog:aN}{w:aV}{A:aX}{s:ah}
def lex_pair{i j:Int}{x y:Str}{t u t' u':Tok}{Q:Bool->ah->Prop}(h:Q (decide (prW i x<prW j y)) s):PySem.W.KatLex prog w A true (decide ([dm i t,.str x t'].length<[dm j u,.str y u'].length)) Q ([dm i t,.str x t'].zip [dm j u,.str y u']) 0 s:=by
 rw[cx];refine jf (wpAny_eqBool_int ?_);by_cases e:i=j
 ·subst e;rw[beq_self_eq_true];refine jr ?_;rw[cx];have e2:decide (prW i x<prW i y)=decide (x.cps.toList<y.cps.toList):=by
   unfold prW;by_cases c:x.cps.toList<y.cps.toList
   ·rw[decide_eq_true c,decide_eq_true (cX.mpr (.inr ⟨rfl,(ofNat_lt _ _).mpr c⟩))]
   ·rw[decide_eq_false c,decide_eq_false fun z=>(cX.mp z).elim (fun z=>by lia) fun z=>c ((ofNat_lt _ _).mp z.2)]
  rw[e2] at h;refine jf (wpAny_eqBool_str ?_);by_cases e:x=y
  ·subst e;rw[decide_eq_true rfl];refine jr (PySem.W.kat_nil ?_);rw[decide_eq_false (jx _)] at h;exact h
  ·rw[decide_eq_false e];exact jy (PySem.W.kat_one _ _ (lt_str h))
 ·rw[beq_eq_false_iff_ne.mpr e];have e2:decide (prW i x<prW j y)=decide (i<j):=by
   unfold prW;by_cases c:i<j
   ·rw[decide_eq_true c,decide_eq_true (cX.mpr (.inl c))]
   ·rw[decide_eq_false c,decide_eq_false fun z=>(cX.mp z).elim c fun z=>e z.1]
  rw[e2] at h;exact jy (oneLt_int h)
def PrsH(h:bd)(row:ae->RwI)(vs:List ae):Prop:=∀ v ∈ vs,∃ a o i x t t' n,v=.ref a/\h.get? a=aa o/\o.cls=.type "tuple" /\ o.data=.seq #[.int i t,.str x t'] n/\row v=prW i x
def zfs{h:bd}{row:ae->RwI}:∀ {vs:List ae},PrsH h row vs->∃ fs,PySem.W.KatTups h vs fs/\fs.length=vs.length/\∀ v ∈ fs,∃ i t,v=.int i t
 | [],_=>⟨[],trivial,rfl,fun v hv=>by cases hv⟩
 | v :: vs,t=>by
  obtain⟨fs,k1,k2,k3⟩:=zfs (vs:=vs) fun v hv=>t v (aj _ hv);obtain⟨a,o,i,x,t1,t2,n,rfl,e1,e2,e3,_⟩:=t v am;refine⟨.int i t1 :: fs,⟨⟨a,o,_,n,rfl,e1,e2,e3,rfl⟩,k1⟩,by rw[aw,aw,k2],fun v hv=>?_⟩;rcases az.mp hv with e | hv
  ·exact⟨i,t1,e⟩
  ·exact k3 v hv
def srtH_prs{row:ae->RwI}{vs:List ae}:SrtH prog w (fun h=>PrsH h row vs) vs (tuples' true) row:=by
 refine⟨fun t k v hv=>?_,fun A s E Q t h2 q=>?_,fun A s t x hx y hy E Q q=>?_⟩
 ·obtain⟨a,o,i,x,t1,t2,n,e0,e1,e2,e3⟩:=t v hv;exact⟨a,o,i,x,t1,t2,n,e0,k a o e1 e2,e2,e3⟩
 ·obtain⟨fs,k1,k2,k3⟩:=zfs t;refine PySem.W.kat_kind (T:=.type "int") k1 (by lia) (fun v hv=>?_) rfl q;obtain⟨i,t,rfl⟩:=k3 v hv;exact .now
 ·obtain⟨a,oa,i,x,t1,t2,n,rfl,a1,_,a3,a4⟩:=t _ hx;obtain⟨b,ob,j,y,u1,u2,m,rfl,b1,_,b3,b4⟩:=t _ hy;rw[a4,b4] at q;refine PySem.W.kat_lt a1 a3 b1 b3 ?_;exact lex_pair q
end
def zgP(H:Hp)(a:af):RwI:=match H a with
 | some (.tup [.int i,.str x])=>prW i x
 | _=>[]
def rowPv(H:Hp):ae->RwI
 | .ref a=>zgP H a
 | _=>[]
def PrsAt(H:Hp)(as:List af):Prop:=∀ a ∈ as,∃ i x,H a=aa (.tup [.int i,.str x])
def zdY{H:Hp}{a:af}{i:Int}{x:Str}(h:H a=aa (.tup [.int i,.str x])):zgP H a=prW i x:=by
 unfold zgP;rw[h]
def Inv.prs{X:Cx}{pins:List (af × Obj)}{σ:St}{H:Hp}{s:ah}(I:Inv X pins σ H s){as:List af}(h:PrsAt H as):PrsH s.heap (rowPv H) (as.map br):=by
 intro v hv;obtain⟨a,ha,rfl⟩:=bH.mp hv;obtain⟨i,x,hH⟩:=h a ha;obtain⟨_,its,ri,o,e,hcl,n,hd⟩:=I.hok a _ hH;obtain⟨u,w',rfl,⟨t1,rfl⟩,⟨t2,rfl⟩⟩:=vals2 ri;exact⟨a,o,i,x,t1,t2,n,rfl,e,hcl,congrArg ly hd,zdY hH⟩
def call_srtP{X:Cx}:zde X (.builtin "sorted") (fun xs H Q=>∃ (p:af) (as:List af),xs=[.ref p]/\SqL X.K H p (as.map V.ref)/\PrsAt H as/\as.length<64/\∀ (as':List af) (l:af),as'.Perm as->(as'.map (zgP H)).Pairwise (·<=·)->H l=ab->Q (.ref l) (upd H l (.lst (as'.map V.ref)))):=by
 intro pins s σ H xs us Q I r h;obtain⟨p,as,rfl,hq,hpr,hl,q⟩:=h;obtain⟨u,rfl,rx⟩:=zeA r;cases rx;obtain⟨its,r',pl,hz⟩:=I.list hq;cases zgL r';refine ziI srtH_prs pl.isList (I.prs hpr) (by rw[al];lia) fun out p1 p2=>?_;obtain⟨as',p3,rfl⟩:=perm_refs p1;rw[bY] at p2;have sz:((s.heap.push (seqObj "list" #[] 0)).update s.heap.objs.size (bJ (· ++ (as.map br).toArray))).objs.size=s.heap.objs.size+1:=by rw[eO,size_push']
 have g0:(((s.heap.push (seqObj "list" #[] 0)).update s.heap.objs.size (bJ (· ++ (as.map br).toArray))).push (seqObj "list" (as.map br).toArray 0)).get? (s.heap.objs.size+1)=aa (seqObj "list" (as.map br).toArray 0):=by
  rw[<- sz];exact aB _ rfl
 obtain⟨e,he⟩:=sortedHeap_at (out:=(as'.map br).toArray) g0;refine⟨.ref (s.heap.objs.size+1),_,I.laid (a:=s.heap.objs.size+1) (o:=.lst (as'.map V.ref)) (h':=sortedAll s.heap (as.map br) (as'.map br).toArray) (t':=s.toks) (fun b o eb=>?_) (cg _) ⟨?_,as'.map br,e,zgY as',he⟩,rfl,q as' _ p3 p2 (I.hok.fresh (cg _))⟩
 ·exact sortedAll_old eb
 ·rw[al,p3.length_eq,bC];lia
end L2
namespace L3
open PySem PySem.Spec PyProof.Rows L2
def prD(p:Int × Str):D:=.tup [.int p.1,.str p.2]
def prOf:D->Option (Int × Str)
 | .tup [.int i,.str x]=>aa (i,x)
 | _=>ab
def prOf_some{d:D}{p:Int × Str}(h:prOf d=aa p):d=prD p:=by
 unfold prOf at h;split at h
 ·cases h;rfl
 ·cases h
def prsO:List D->Option (List (Int × Str))
 | []=>aa []
 | d :: ds=>(prOf d).bind fun p=>(prsO ds).map fun ps=>p :: ps
def zf5:∀ ps:List (Int × Str),prsO (ps.map prD)=aa ps
 | []=>rfl
 | p :: ps=>by rw[aF,prsO,zf5 ps];rfl
def rwP(p:Int × Str):RwI:=prW p.1 p.2
def zg2(ps:List (Int × Str)):List (Int × Str):=ps.mergeSort fun a b=>decide (rwP a<=rwP b)
def zbm(ps:List (Int × Str)):(zg2 ps).Perm ps:=fG _ _
def ze1(ps:List (Int × Str)):(zg2 ps).Pairwise fun a b=>rwP a<=rwP b:=by
 have:=eD (le:=fun a b:Int × Str=>decide (rwP a<=rwP b)) (fun a b c h1 h2=>decide_eq_true (List.le_trans (of_decide_eq_true h1) (of_decide_eq_true h2))) (fun a b=>by
  rcases List.le_total (rwP a) (rwP b) with h | h
  ·rw[decide_eq_true h];rfl
  ·rw[decide_eq_true h,iP]) ps
 exact this.imp fun h=>of_decide_eq_true h
def zec{ps qs:List (Int × Str)}(h:qs.Perm ps)(hs:qs.Pairwise fun a b=>rwP a<=rwP b):qs=zg2 ps:=
 gL (fun a b _ _ h1 h2=>lz (zfB (jg h1 h2)).1 (zfB (jg h1 h2)).2) hs (ze1 ps) (h.trans (zbm ps).symm)
def prsO_ok{F:Hp}:∀ {vs:List V} {ds:List D} {ps:List (Int × Str)},Reps F vs ds->prsO ds=aa ps->∃ as:List af,vs=as.map V.ref/\(∀ a ∈ as,∃ p:Int × Str,F a=aa (.tup [.int p.1,.str p.2]))/\ps.length=as.length/\ps.map rwP=as.map (zgP F)
 | _,_,_,.nil,q=>by cases q;exact⟨[],rfl,(fun a ha=>by cases ha),rfl,rfl⟩
 | _,_,_,.cons r t,q=>by
  obtain⟨p,q1,q⟩:=bind_some q;obtain⟨ps,q2,q⟩:=map_some q;subst q;obtain⟨as,e1,e2,e3,e4⟩:=prsO_ok t q2;cases prOf_some q1;cases r with
  | @tup a _ _ e rs=>
   cases rs with
   | cons r1 rs=>
    cases rs with
    | cons r2 rs=>
     cases rs;cases r1;cases r2;refine⟨a :: as,by rw[e1];rfl,fun b hb=>?_,by rw[aw,aw,e3],?_⟩
     ·rcases az.mp hb with h | h
      ·subst h;exact⟨p,e⟩
      ·exact e2 b h
     ·rw[aF,aF,e4,zdY e];rfl
def unP(F:Hp)(a:af):Int × Str:=match F a with
 | some (.tup [.int i,.str x])=>(i,x)
 | _=>(0,"")
def zfD{F:Hp}:∀ {as:List af},(∀ a ∈ as,∃ p:Int × Str,F a=aa (.tup [.int p.1,.str p.2]))->Reps F (as.map V.ref) ((as.map (unP F)).map prD)/\(as.map (unP F)).map rwP=as.map (zgP F)
 | [],_=>⟨.nil,rfl⟩
 | a :: as,h=>by
  obtain⟨p,e⟩:=h a am;obtain⟨h1,h2⟩:=zfD fun b hb=>h b (aj _ hb);have eu:unP F a=p:=by unfold unP;rw[e]
  refine⟨.cons ?_ h1,?_⟩
  ·rw[eu];exact .tup e (.cons (.int _) (.cons (.str _) .nil))
  ·rw[aF,aF,aF,h2,eu,zdY e];rfl
noncomputable def zhi:List Ent->Option Ent
 | [x]=>(asL x).bind fun ds=>(prsO ds).bind fun ps=>gif (ps.length<64) (aa (.own ((zg2 ps).map prD)))
 | _=>ab
def rwP_inj{a b:Int × Str}(h:rwP a=rwP b):a=b:=lz (zfB h).1 (zfB h).2
def c_srtP{X:Cx}:zea X (.builtin "sorted") zhi:=⟨_,call_srtP,fun H0 F H vs es res Q fh hh r q k=>by
 obtain⟨x,rfl⟩:=zes rfl (fun _ _ _=>rfl) q;obtain⟨v,rfl,rz⟩:=zcK r;obtain⟨ds,q1,q⟩:=bind_some q;obtain⟨ps,q2,q⟩:=bind_some q;obtain⟨hl,qz⟩:=zba q;cases qz;obtain⟨l,ws,e',h1,h2⟩:=RepR.toL rz fh q1;subst e';obtain⟨as,e1,e2,e3,e4⟩:=prsO_ok h2 q2;rw[e1] at h1;refine⟨l,as,rfl,h1,fun a ha=>let⟨p,z⟩:=e2 a ha;⟨p.1,p.2,fh _ _ z⟩,by rw[<- e3];exact hl,fun as' p p1 p2 hp=>?_⟩;have e5:as'.map (zgP H)=as'.map (zgP F):=dA fun a ha=>by
  obtain⟨p,z⟩:=e2 a (p1.mem_iff.mp ha);rw[zdY z,zdY (fh _ _ z)]
 obtain⟨e6,e7⟩:=zfD (F:=F) (as:=as') fun a ha=>e2 a (p1.mem_iff.mp ha);have e8:as.map (unP F)=ps:=(iQ (fun _ _ h=>rwP_inj h)).mp ((zfD e2).2.trans e4.symm);have e9:as'.map (unP F)=zg2 ps:=zec (by rw[<- e8];exact p1.map _) (by
  rw[e5,<- e7,iZ] at p2;exact p2)
 rw[e9] at e6;exact k _ _ _ (Ex.lay fh hp) ⟨p,_,rfl,hh.free hp,zai,e6,fh.free hp⟩⟩
end L3

namespace L3
open PySem PySem.Spec PyProof.Rows L2
def capV:Ent->Option Ent
 | .val d=>aa (.val d)
 | _=>ab
def cEnX(fr:List Nat)(i:Nat)(δ:En)(d:D):En:=aa (.val d) :: fr.map fun a=>if a=i then (oAt i δ).map .obj else ((δ[a]?).join).bind capV
def lcX(fr:List Nat)(i j:Nat)(fx:FXE):List D->En->Option (List D × En)
 | [],δ=>aa ([],δ)
 | d :: ds,δ=>(fx (cEnX fr i δ d)).bind fun p=>((oAt (j+1) p.2).bind lOf).bind fun es=>(lcX fr i j fx ds (δ.set i (aa (.obj (.lst es))))).map fun q=>(p.1 :: q.1,q.2)
def xLC(fr:List Nat)(i j:Nat)(fi:FI)(fx:FXE):FXE:=fun δ=>((oAt i δ).bind lOf).bind fun _=>(fi δ).bind fun ds=>(lcX fr i j fx ds δ).bind fun p=>if p.1.length<=1000000 then aa (.lst p.1,p.2) else ab
section
variable {K:ag}{B:Bd}{F Hn H:Hp}{σ:Sg}{δ:En}{v:V}{d:D}{i j:Nat}{l:af}{es:List D}{fr:List Nat}
def zfA{n:Nat}{e:Ent}(h:(cEnX fr i δ d)[n+1]? = aa (aa e)):∃ b,fr[n]? = aa b/\((b=i/\∃ o,oAt i δ=aa o/\e=.obj o) \/ ∃ d',δ[b]? = aa (aa (.val d'))/\e=.val d'):=by
 unfold cEnX at h;rw[bA,aD] at h;cases q:fr[n]? with
 | none=>rw[q] at h;cases h
 | some b=>
  rw[q] at h;have h':(if b=i then (oAt i δ).map .obj else ((δ[b]?).join).bind capV)=aa e:=aM h;refine⟨b,rfl,?_⟩;split at h'
  ·rename_i hb;obtain⟨o,h1,h2⟩:=map_some h';exact .inl ⟨hb,o,h1,h2.symm⟩
  ·obtain⟨e',h1,h2⟩:=bind_some h';cases e' with
   | val d'=>
    cases h2;refine .inr ⟨d',?_,rfl⟩;cases z:δ[b]? with
    | none=>rw[z] at h1;cases h1
    | some o=>rw[z] at h1;rw[show o=aa (.val d') from h1]
   | _=>cases h2
def RS.capX(s:RS K B F Hn σ δ)(sh:Same Hn H)(fh:Same F H)(hi:δ[i]? = aa (aa (.obj (.lst es))))(hs:σ[i]? = aa (aa (.ref l)))(hnd:fr.Nodup)(r:Rep F v d):RS K ⟨zee H [l],ab⟩ F H (aa v :: zdL fr σ) (cEnX fr i δ d):=by
 have ho:oAt i δ=aa (.lst es):=by unfold oAt;rw[hi]
 have sg:∀ {n b:Nat} {w:V},fr[n]? = aa b->σ[b]? = aa (aa w)->(aa v :: zdL fr σ)[n+1]? = aa (aa w):=fun {n b w} h1 h2=>by
  rw[bA];unfold zdL;rw[aD,h1];show aa ((σ[b]?).join)=_;rw[h2];rfl
 refine⟨fh,fun a u h=>(zaC h).2,by simp[cEnX,zdL],fun n e h=>?_,fun a b l ds e hab h1=>?_,fun a b e1 e2 v1 v2 ad hab q1 q2 q3 q4 q5 q6 q7=>?_,fun w o hw _=>by cases hw⟩
 ·cases n with
  | zero=>cases h;exact⟨v,rfl,r⟩
  | succ n=>
   obtain⟨b,h1,h2⟩:=zfA h;rcases h2 with ⟨rfl,o,h3,rfl⟩ | ⟨d',h3,rfl⟩
   ·rw[ho] at h3;cases h3;refine⟨_,sg h1 hs,?_⟩;obtain⟨A,t,_,f⟩:=s.at hi hs;cases t with
    | lst e1 e2=>exact⟨[l],.lst (sh _ _ e1) e2,by simp,fun a ha=>⟨(f a ha).1,zbQ ha⟩⟩
   ·obtain⟨w,h4,h5⟩:=s.ent b _ h3;exact⟨w,sg h1 h4,h5⟩
 ·cases a with
  | zero=>cases h1
  | succ n=>
   obtain⟨b,_,h2⟩:=zfA h1;rcases h2 with ⟨_,o,_,z⟩ | ⟨d',_,z⟩ <;> cases z
 ·cases a with
  | zero=>cases q1;cases q5
  | succ n=>
   obtain⟨x,h1,h2⟩:=zfA q1;rcases h2 with ⟨hx,o,_,rfl⟩ | ⟨d',_,rfl⟩
   ·cases b with
    | zero=>cases q3;exact q7
    | succ n'=>
     obtain⟨y,h3,h4⟩:=zfA q3;rcases h4 with ⟨hy,o',_,rfl⟩ | ⟨d',_,rfl⟩
     ·subst hx hy;exact hab (by rw[(List.getElem?_inj (a9.mp h1).1 hnd).mp (h1.trans h3.symm)])
     ·exact q7
   ·cases q5
end
def tDX(K:ag)(f:FXE):TE:=fun σ H Q=>∃ B F δ d δ',RS K B F H σ δ/\f δ=aa (d,δ')/\∀ v F' H',RS K B F' H' σ δ'->FX B F F'->Rep F' v d->Q v H'
def semX_tDX{K:ag}{f:FXE}:SemX K (tDX K f) f:=fun B F _ _ δ d δ' _ s q k=>⟨B,F,δ,d,δ',s,q,k⟩
def VX.uni{X:Cx}{e:Expr}{f:FXE}(h:VX X e f):WE X e (tDX X.K f):=
 let⟨_,w,m⟩:=h.h;⟨fun pins s σ H Q I z=>let⟨B,F,δ,d,δ',s',q,k⟩:=z;w.h pins s σ H Q I (m B F H σ δ d δ' Q s' q k)⟩
def SemX.lc{K:ag}{fr:List Nat}{i j:Nat}{wi:TI}{te:TE}{fi:FI}{fx:FXE}(hj:fr[j]? = aa i)(hnd:fr.Nodup)(mi:SemI K wi fi)(me:SemX K te fx):SemX K (tLC fr wi tNoIf te) (xLC fr i j fi fx):=fun B F H σ δ d δ' Q s q k=>by
 obtain⟨es0,q0,q⟩:=bind_some q;obtain⟨o,q00,q01⟩:=bind_some q0;cases zgh q01;obtain⟨ds,q1,q⟩:=bind_some q;obtain⟨⟨out,δe⟩,q2,q⟩:=bind_some q;split at q
 ·rename_i hlen;have hlen:out.length<=1000000:=hlen;cases q;refine mi B F H σ δ ds _ s q1 fun J F1 H1 x1 io=>?_;have s1:=s.ext x1;intro a ha;refine⟨fun n m ys H'=>m=ds.length - n/\n<=ds.length/\∃ F' Hn δ1 done rest es,H'=upd Hn a (.lst ys)/\Hn a=ab/\RS K B F' Hn σ δ1/\FX B F1 F'/\Reps F' ys done/\δ1[i]? = aa (aa (.obj (.lst es)))/\lcX fr i j fx (ds.drop n) δ1=aa (rest,δe)/\out=done ++ rest,
   ⟨_,rfl,cm _,F1,H1,δ,[],out,es0,rfl,ha,s1,.refl,.nil,zav q00,q2,rfl⟩,?_⟩
  rintro n m ys H' ⟨rfl,hi,F',Hn,δ1,dn,rest,es,rfl,hna,s',y',rs,hes,q',eo⟩;have sN:Same Hn (upd Hn a (.lst ys)):=Same.alloc hna;have fa:F' a=ab:=s'.fh.free hna;obtain⟨hstop,hgo⟩:=io F' (upd Hn a (.lst ys)) y'.ff (s'.fh.trans sN) (s'.bh.trans sN);by_cases hlt:n<ds.length
  ·right;have hd:ds[n]? = aa ds[n]:=by simp[hlt]
   obtain⟨g1,g2⟩:=hgo n _ hd;rw[cF hlt] at q';obtain⟨p1,q3,q'⟩:=bind_some q';obtain⟨es1,q4,q'⟩:=bind_some q';obtain⟨o1,q4,q5⟩:=bind_some q4;cases zgh q5;obtain⟨⟨rest1,δ2⟩,q6,q'⟩:=map_some q';cases q';refine⟨g1,fun v H2 yl=>?_⟩;obtain⟨F2,x2,r2⟩:=g2 v H2 yl;have f2a:F2 a=ab:=(x2.nw a _ zai rfl).trans fa;have h2a:H2 a=aa (.lst ys):=x2.hh _ _ zai;have xn:Ex F' Hn F2 (zee H2 [a]):=⟨x2.ff,fun b u e=>zaY (fun z=>by
     rw[bo.mp z,f2a] at e;cases e) (x2.fh _ _ e),fun b u e=>zaY (fun z=>by
     rw[bo.mp z,hna] at e;cases e) (x2.hh _ _ (sN _ _ e)),fun b u e ht=>x2.nw b u (sN _ _ e) ht⟩
   have s2:=s'.ext xn;obtain⟨w0,hs0,A0,t0,n0,f0⟩:=s2.ent i _ hes;cases t0 with
   | @lst l vs _ e1 e2=>
    obtain⟨hla,e1'⟩:=zaC e1;have hla':l ≠ a:=fun z=>hla (by simp[z]);have sc:=s2.capX (v:=v) (d:=ds[n]) (fr:=fr) (fun b u e=>(zaC e).2) x2.fh hes hs0 hnd r2;show te _ H2 _;refine me _ F2 H2 _ _ p1.1 p1.2 _ sc q3 fun w F4 H4 s4 y4 r4=>?_;have keep:∀ b u,b ≠ l->H2 b=aa u->H4 b=aa u:=fun b u hb e=>s4.bh b u (zaY (by simpa using hb) e);have f4a:F4 a=ab:=(y4.nw a _ (zaY (by simpa using ce hla') h2a) rfl).trans f2a;have h4a:=keep a _ (ce hla') h2a;have hsl:(aa v :: zdL fr σ)[j+1]? = aa (aa (.ref l)):=by
     rw[bA];unfold zdL;rw[aD,hj];show aa ((σ[i]?).join)=_;rw[hs0];rfl
    obtain⟨A5,t5,_,f5⟩:=s4.at (zav q4) hsl;cases t5 with
    | @lst _ vs5 _ g1 g2=>
     have fl:F4 l=ab:=(f5 l (by simp)).1;have ch:Chg (zee H2 [a]) F2 F4 (zee H4 [a]) [l]:=⟨y4.ff,fun b u e=>zaY (fun z=>by
       rw[bo.mp z,f4a] at e;cases e) (s4.fh _ _ e),fun b u e=>by
       obtain⟨z1,z2⟩:=zaC e;obtain⟨z3,z4⟩:=zaC z2;exact zaY z3 (keep b u (by simpa using z1) z4),fun b u e ht=>by
       obtain⟨z1,z2⟩:=zaC e;exact y4.nw b u (zaY z1 (zaC z2).2) ht⟩
     obtain⟨s5,y5⟩:=s2.chg (o':=.lst es1) (A':=[l]) hes hs0 (.lst e1 e2) ch (.lst (zaY hla g1) g2) (by simp) fun b hb=>by
      cases bo.mp hb;exact⟨fl,zbQ (by simp)⟩
     have hil:i<δ1.length:=(a9.mp hes).1;have hy:ys.length<aZ:=by
      rw[rs.length,bC];have:out.length=dn.length+(rest1.length+1):=by rw[eo];simp
      lia
     refine⟨h4a,hy,ds.length - (n+1),by lia,rfl,hlt,F4,zee H4 [a],δ1.set i (aa (.obj (.lst es1))),dn ++ [p1.1],rest1,es1,?_,zbQ (by simp),s5,(y'.trans (.of xn s'.bh)).trans y5,((rs.mono x2.ff).mono y4.ff).append (.one r4),by rw[bf,if_pos rfl,if_pos hil],q6,by rw[eo];simp⟩;funext b;unfold upd;split
     ·rfl
     ·rename_i hb;exact(zdJ (by simpa using hb)).symm
  ·left;have e:n=ds.length:=by lia
   subst e;rw[dR] at q';cases q';rw[aY] at eo;subst eo;have xa:Ex F' Hn (upd F' a (.lst ys)) (upd Hn a (.lst ys)):=Ex.alloc s'.fh hna;exact⟨hstop,k _ _ _ (s'.ext xa) (((FX.of x1 s.bh).trans y').trans (.of xa s'.bh)) (.lst zai (rs.mono (Same.alloc fa)))⟩
 ·cases q
section
variable {X:Cx}{N:List Str}{fr:List Nat}{x:Str}{scope:Scope}{iter elt:Expr}{px pos:Pos}{fi:FI}{fx:FXE}
def xlc(i j:Nat)(S:CompSc X N fr x scope)(hi:VI X (.Name x px) iter fi)(he:∀ (C:af) (s₀:ah) (H₀:Hp) (fp:List af),VX (cxC X N scope C s₀ H₀ fp) elt fx)(hj:fr[j]? = aa i:=by rfl)(hnd:fr.Nodup:=by decide)
  (hc:X.calm=true:=by rfl) (hs:∀ z,bX iter X.env z=pure z:=by intro _;rfl):VX X (.ListComp elt [⟨.Name x px,iter,[],0⟩] scope pos) (xLC fr i j fi fx):=
 let⟨_,w1,m1⟩:=hi.h;⟨_,wlc S hc w1 (fun _ _ _ _=>ifs0) (fun C s₀ H₀ fp=>(he C s₀ H₀ fp).uni) hs,SemX.lc hj hnd m1 semX_tDX⟩
end
end L3

namespace L2
open PySem PySem.Spec PyProof.Rows
structure CompSk(X:Cx)(N:List Str)(k:Nat)(fr:List Nat)(scope:Scope):Prop where
 kind:scope.kind=.function
 chk:(scope.names.all fun y=>match y.2 with
  | .cell=>false
  | .local=>scope.names.lookup y.1 == aa .local
  | .free=>X.env.scope.names.lookup y.1 == aa .cell || X.env.scope.names.lookup y.1 == aa .free
  | _=>true)=true
 len:N.length=k+fr.length
 nm:(N.drop k).map aa=fr.map (fun i=>X.N[i]?)
 nf:((N.drop k).all fun y=>scope.names.lookup y == aa .free)=true
section
variable {prog:aN}{w:aV}{A:aX}{R:Result->ah->Prop}{s:ah}
def zhj{elt tg iter:Expr}{ifs:List Expr}{scope:Scope}{pos:Pos}{it acc:ae}{env:Env}(J:Nat->ah->Prop)
  (one:∀ k z,J k z->ay (model prog w) A (pyNext it) (fun got z1=>match got with
   | none=>R (.ok .next) z1
   | some u=>ay (model prog w) A (letOwnedTupleGo tg it u) (fun _ z2=>ay (model prog w) A (assign tg env u) (fun _ z3=>
     ay (model prog w) A (forIn ifs true fun c r=>if r=true then do let ok <- isTrue c env (eval c env);pure (eX ok) else pure (eX r)) (fun yes z4=>
      if yes=true then ay (model prog w) A (eval elt env) (fun y z5=>ay (model prog w) A (call (.builtin "list.append") [acc,y]) (fun _ z6=>∃ j,j<k/\J j z6) (notedBy (model prog w) A env fun x z'=>R (.error x) z') z5) (notedBy (model prog w) A env fun x z'=>R (.error x) z') z4
      else ∃ j,j<k/\J j z4) (notedBy (model prog w) A env fun x z'=>R (.error x) z') z3) (notedBy (model prog w) A env fun x z'=>R (.error x) z') z2) (notedBy (model prog w) A env fun x z'=>R (.error x) z') z1) (notedBy (model prog w) A env fun x z'=>R (.error x) z') z)
  (k:Nat) (h:J k s):codeAny (model prog w) A (.compLoop (.ListComp elt [⟨tg,iter,ifs,0⟩] scope pos) 0 it acc env) R s:=by
 refine codeAny_loop rfl J (fun k z hz=>?_) k h;show ay _ A ((compTurn (.ListComp elt [⟨tg,iter,ifs,0⟩] scope pos) 0 it acc env).onRaise _) _ _ z;refine wpAny_noted ?_;rw[compTurn_list];refine ai (wpAny_standAt (ai (thn (one k z hz) fun got z1 h1=>?_)));cases got with
 | none=>exact aq h1
 | some u=>
  refine ai (thn h1 fun _ z2 h2=>ai (thn h2 fun _ z3 h3=>ai (thn h3 fun yes z4 h4=>?_)));cases yes with
  | false=>exact aq ⟨rfl,h4⟩
  | true=>exact ai (ai (thn h4 fun y z5 h5=>ai (thn h5 fun _ z6 h6=>aq (aq ⟨rfl,h6⟩))))
end
section
variable {X:Cx}{N:List Str}{k:Nat}{fr:List Nat}{scope:Scope}
def CompSk.ncell(S:CompSk X N k fr scope):∀ y ∈ scope.names,y.2 ≠ .cell:=fun y hy e=>by
 have h:=cW.mp S.chk y hy;obtain⟨n,q⟩:=y;cases (show q=.cell from e);exact absurd h (by simp)
def CompSk.loc(S:CompSk X N k fr scope):∀ y ∈ scope.names,y.2=.local->scope.names.lookup y.1=aa .local:=fun y hy e=>by
 have h:=cW.mp S.chk y hy;obtain⟨n,q⟩:=y;cases (show q=.local from e);exact za6 h
def CompSk.free(S:CompSk X N k fr scope):∀ y ∈ scope.names,y.2=.free->X.env.kindOf y.1=aa .cell \/ X.env.kindOf y.1=aa .free:=fun y hy e=>by
 have h:=cW.mp S.chk y hy;obtain⟨n,q⟩:=y;cases (show q=.free from e);exact(iA.mp (show(X.env.scope.names.lookup n == aa .cell || X.env.scope.names.lookup n == aa .free)=true from h)).imp za6 za6
variable {pins:List (af × Obj)}{σ:St}{H:Hp}{s:ah}
def comp_invK(S:CompSk X N k fr scope){fp:List af}{h₁:bd}{tk:Nat}(I:Inv X pins σ H s)(hf:∀ b ∈ fp,zg1 X pins H b)(hfo:∀ b ∈ fp,b<s.heap.objs.size)
  (hns:h₁.Ns s.heap.objs.size fun y=>([]:List (Str × ae)).reverse.lookup y) (old:∀ b o,s.heap.get? b=aa o->h₁.get? b=aa o) :
  Inv (cxC X N scope s.heap.objs.size s H fp) [] (aJ k ab ++ zdL fr σ) H { s with heap:=h₁,toks:=tk}:=by
 have sub:∀ y c,(zhX X.env scope.names).lookup y=aa c->X.env.cells.lookup y=aa c:=zgn scope.names [] (fun _ _ z=>by cases z);have has:∀ y,(y,bD) ∈ scope.names->∃ c,(zhX X.env scope.names).lookup y=aa c:=fun y hy=>cl_has scope.names [] y (I.ok.has y (S.free _ hy rfl)) (.inr hy);have celK:∀ c v,s.heap.IsCell c v->h₁.IsCell c v:=fun c v ⟨o,ho,hd⟩=>⟨o,old c o ho,hd⟩
 refine⟨⟨I.ok.mod,S.kind,I.ok.glob,I.ok.blt,au _,fun y z c h1 h2=>I.ok.inj y z c (sub y c h1) (sub z c h2),fun y hy=>has y (bT (zdq S.ncell hy)),fun y c hy _=>(by cases hy),I.ok.hd,I.ok.frames,.inl rfl,fun b hb=>⟨aR (hfo b hb),fun y c e=>(hf b hb).2.2.2.2.1 y c (sub y c e)⟩,
  I.bs,bp I.ok.bsz I.sz,fun b o e hb=>?_,fun b hb hfs=>?_,I.stack,I.stkFree⟩,rfl,I.bare,Un.kept old,⟨_,hns,fun i y v e1 e2 e3=>?_⟩,fun y c e=>?_,I.hok.fresh (au _),fun y c e=>I.freeC y c (sub y c e),fun p hp=>absurd (show p ∈ ([]:List (af × Obj)) from hp) (by simp),I.hok.kept old,?_⟩
 ·rcases (hf b hb).2.2.2.1 with z | z
  ·exact I.ok.noex b o e z
  ·exact absurd (bn (aH e) (bp I.ok.bsz z)) (b8 _)
 ·exact(az.mp (I.stkSub b hfs)).elim (hf b hb).2.1 (hf b hb).2.2.1
 ·by_cases hi:i<k
  ·rw[cE (by rw[cH];exact hi),dc,if_pos hi] at e2;cases e2
  ·rw[cA (by rw[cH];lia),cH] at e2;have e1':N[i]? = aa y:=e1;have d1:(N.drop k)[i - k]? = aa y:=by rw[List.getElem?_drop,show k+(i - k)=i by lia];exact e1'
   have q1:((N.drop k).map aa)[i - k]? = aa (aa y):=by rw[aD,d1];rfl
   rw[S.nm,aD] at q1;unfold zdL at e2;rw[aD] at e2;cases q:fr[i - k]? with
   | none=>rw[q] at q1;cases q1
   | some i'=>
    rw[q] at q1 e2;have n1:X.N[i']? = aa y:=aM q1;have n2:(σ[i']?).join=aa v:=aM e2;have n3:σ[i']? = aa (aa v):=by
     cases q':σ[i']? with
     | none=>rw[q'] at n2;cases n2
     | some o=>rw[q'] at n2;rw[show o=aa v from n2]
    have hfree:scope.names.lookup y=aa .free:=za6 (cW.mp S.nf y (cL d1));have hk:=S.free _ (bT hfree) rfl;obtain⟨m,hn,hl⟩:=I.loc;obtain⟨u,r,l⟩:=hl i' y v n1 n3 (hk.elim (fun z=>.inr (.inl z)) fun z=>.inr (.inr z));refine⟨u,r,.inr ⟨zdm hfree,?_⟩⟩;rcases l with ⟨kd,_⟩ | ⟨_,c,ec,hc⟩
    ·rcases hk with z | z <;> (rw[show X.env.kindOf y=aa .local from kd] at z;cases z)
    ·obtain⟨c',ec'⟩:=has y (bT hfree);cases (aM ((sub y c' ec').symm.trans ec));exact⟨_,ec',celK _ _ hc⟩
 ·obtain⟨v,z⟩:=I.cell y c (sub y c e);exact⟨v,celK c v z⟩
 ·show(aJ k ab ++ zdL fr σ).length=N.length;rw[S.len];simp[zdL]
end
def lcG(k:Nat)(fr:List Nat)(g:TG)(tt:TT)(te:TE)(J:It)(σ:St)(H1:Hp)(R:af->Hp->Prop):Prop:=
 ∀ a,H1 a=ab->∃ W:Nat->Nat->List V->St->Hp->Prop,(∃ m,W 0 m [] (aJ k ab ++ zdL fr σ) (upd H1 a (.lst [])))/\∀ i m ys τ H,W i m ys τ H ->
  (J.stop i H/\R a H) \/ (J.go i H/\∀ x H',J.yld i H x H'->g x τ H' fun τ' H2=>tt τ' H2 fun b H3=>
   if b=true then te τ' H3 fun y H4=>H4 a=aa (.lst ys)/\ys.length<aZ/\∃ m',m'<m/\W (i+1) m' (ys ++ [y]) τ' (upd H4 a (.lst (ys ++ [y])))
   else ∃ m',m'<m/\W (i+1) m' ys τ' H3)
def tLG(k:Nat)(fr:List Nat)(wi:TI)(g:TG)(tt:TT)(te:TE):TE:=fun σ H Q=>wi σ H fun J H1=>lcG k fr g tt te J σ H1 fun a H2=>Q (.ref a) H2
section
variable {X:Cx}{N:List Str}{k:Nat}{fr:List Nat}{scope:Scope}{iter elt tg:Expr}{ifs:List Expr}{pos:Pos}{wi:TI}{g:TG}{te:TE}{tt:TT}
def pe_lg(S:CompSk X N k fr scope)(hc:X.calm=true)(hi:PI X tg iter wi)
  (hg:∀ (C:af) (s₀:ah) (H₀:Hp) (fp:List af),PG (cxC X N scope C s₀ H₀ fp) tg g)
  (ht:∀ (C:af) (s₀:ah) (H₀:Hp) (fp:List af),PTs (cxC X N scope C s₀ H₀ fp) ifs tt) (he:∀ (C:af) (s₀:ah) (H₀:Hp) (fp:List af),PE (cxC X N scope C s₀ H₀ fp) elt te)
  (hs:∀ z,bX iter X.env z=pure z:=by intro _;rfl):PE X (.ListComp elt [⟨tg,iter,ifs,0⟩] scope pos) (tLG k fr wi g tt te):=by
 intro pins s σ H Q I h;rw[eval_ListComp];refine wpAny_comprehension_free (use:=ab) (cl:=zhX X.env scope.names) rfl hs (zfe fun y hy e=>I.ok.has y.1 (S.free y hy e)) S.kind S.loc (thn (hi pins s σ H _ I h) fun xv s1 h1=>thn h1 fun itv s2 h2=>?_);obtain⟨it,fp,tn,J,H2,e,I2,T,st2,f2,q⟩:=h2;subst e;refine wpAny_newObj_type (wpAny_newFunctionEnv S.ncell (by intro y hy;simp at hy) (fun h₁ hns₁ hsb₁=>?_) S.kind);obtain⟨W,⟨m0,w0⟩,turn⟩:=q _ (I2.hok.fresh (au _));have hfo:∀ b ∈ fp,b<s2.heap.objs.size:=fun b hb=>let⟨_,e,_⟩:=T.obj 0 _ st2 b hb;aH e;have I3:Inv X pins σ (upd H2 s2.heap.objs.size (.lst [])) { s2 with heap:=s2.heap.push { cls:=.type "list",dict:=ab,data:=.seq ([]:List ae).toArray}}:=
  I2.laid (t':=s2.toks) (fun b o e=>ak _ e) (au _) ⟨cm _,[],_,.nil,aB _ rfl⟩
 have f3:∀ b ∈ fp,zg1 X pins (upd H2 s2.heap.objs.size (.lst [])) b:=fun b hb=>⟨by rw[zam (aR (hfo b hb))];exact(f2 b hb).1,(f2 b hb).2⟩
 have st3:tn 0 (s2.heap.push { cls:=.type "list",dict:=ab,data:=.seq ([]:List ae).toArray}):=T.keep 0 s2.heap _ st2 fun b hb o e=>ak _ e;generalize hs3:({ s2 with heap:=s2.heap.push { cls:=.type "list",dict:=ab,data:=.seq ([]:List ae).toArray}}:ah)=s3 at *;replace st3:tn 0 s3.heap:=by rw[<- hs3];exact st3
 generalize hHD:upd H2 s2.heap.objs.size (.lst [])=H3 at *;generalize hD:s2.heap.objs.size=D at *;have hfo3:∀ b ∈ fp,b<s3.heap.objs.size:=fun b hb=>let⟨_,e,_⟩:=T.obj 0 _ st3 b hb;aH e;have old:∀ b o,s3.heap.get? b=aa o->h₁.get? b=aa o:=fun b o e=>hsb₁.extBut b o (aR (aH e)) (ak _ e);have st1:tn 0 h₁:=T.keep 0 s3.heap h₁ st3 fun b hb o e=>old b o e;have stat:∀ {pins':List (af × Obj)} {H':Hp},(∀ b ∈ fp,H' b=ab)->(∀ b ∈ fp,∀ p ∈ pins',p.1 ≠ b)->∀ b ∈ fp,zg1 (cxC X N scope s3.heap.objs.size s3 H3 fp) pins' H' b:=fun {pins' H'} hn hp b hb=>by
  refine⟨hn b hb,aR (hfo3 b hb),fun z=>?_,.inl hb,fun y c e=>(f3 b hb).2.2.2.2.1 y c (zgn scope.names [] (fun _ _ z=>by cases z) y c e),fun p hp'=>hp b hb p (by simpa [cxC] using hp')⟩;exact(az.mp (I3.stkSub b z)).elim (f3 b hb).2.1 (f3 b hb).2.2.1
 have loop:∀ s4:ah,Inv (cxC X N scope s3.heap.objs.size s3 H3 fp) [] (aJ k ab ++ zdL fr σ) H3 s4->tn 0 s4.heap ->
   codeAny (model X.prog X.w) X.A (.compLoop (.ListComp elt [⟨tg,iter,ifs,0⟩] scope pos) 0 (.ref it) (.ref D) (compEnvC scope (zhX X.env scope.names) s3.heap.objs.size X.env)) (compPost (model X.prog X.w) X.A X.xe ab (EP X pins σ Q) (.ref D) s3.heap.objs.size) s4:=by
  intro s4 I4 st4;refine zhj (fun n s'=>∃ i ys τ H',Inv (cxC X N scope s3.heap.objs.size s3 H3 fp) [] τ H' s'/\tn i s'.heap/\(∀ b ∈ fp,H' b=ab)/\W i n ys τ H') ?_ m0
   ⟨0,[],_,_,I4,st4,fun b hb=>(f3 b hb).1,w0⟩
  rintro n s5 ⟨i,ys,τ,H5,I5,st5,fr5,w5⟩;rcases turn i n ys τ H5 w5 with ⟨stop,qn⟩ | ⟨go,step⟩
  ·refine bR (T.done (cxC X N scope s3.heap.objs.size s3 H3 fp) rfl rfl rfl hc i [] s5 _ H5 (fun _ _=>False) I5 (stat fr5 (by simp)) st5 stop) (fun r s6 hr6=>?_) fun _ _ z=>z.elim;obtain⟨hr,I6⟩:=hr6;subst hr;obtain⟨m,hn,_⟩:=id I6.loc;refine⟨m,hn,fun h' hsb=>⟨.ref D,H5,?_,rfl,qn⟩⟩;refine(zfm I3 f3 I6).turned (t':=s6.toks) (fun b o hb e=>(hsb.2 b hb).trans e) I6.free (dr I3.lt) (.inr I3.sz) ?_ ?_
   ·intro y c e z;obtain⟨v,qc⟩:=I3.cell y c e;exact absurd qc.lt (by rw[z];exact b8 _)
   ·intro p hp z;exact absurd (aH (I3.pin p hp).1) (by rw[z];exact b8 _)
  ·refine bR (T.item (cxC X N scope s3.heap.objs.size s3 H3 fp) rfl rfl rfl hc i [] s5 _ H5 (fun _ _=>False) I5 (stat fr5 (by simp)) st5 go) (fun r s6 hr6=>?_) fun _ _ z=>z.elim;obtain⟨u,hr,h6⟩:=hr6;subst hr;refine bR h6 (fun _ s7 h7=>?_) fun _ _ z=>z.elim;obtain⟨y,H7,I7,r7,y7,st7,fr7⟩:=h7;have I7':=I7.pinned (stat fr7 (by simp)) (T.obj _ _ st7);refine bR (hg _ _ _ _ _ s7 _ H7 y u _ I7' r7 (step y H7 y7)) (fun _ s8 h8=>?_) fun _ _ z=>z.elim;obtain⟨τ8,H8,I8,q8⟩:=h8;refine bR (ht _ _ _ _ _ s8 _ H8 _ I8 q8) (fun ok s9 h9=>?_) fun _ _ z=>z.elim;obtain⟨H9,I9,q9⟩:=h9;have again:∀ {s':ah} {H':Hp},Inv (cxC X N scope s3.heap.objs.size s3 H3 fp) ([] ++ zeK fp s7.heap) τ8 H' s' ->
     Inv (cxC X N scope s3.heap.objs.size s3 H3 fp) [] τ8 H' s'/\tn (i+1) s'.heap/\∀ b ∈ fp,H' b=ab:=fun {s' H'} I'=>by
    refine⟨I'.unpinned,T.keep _ _ _ st7 fun b hb o e=>(I'.pin (b,o) (aA _ (aA _ (zcv hb e)))).1,fun b hb=>?_⟩;obtain⟨o,e,d⟩:=T.obj _ _ st7 b hb;exact(I'.pin (b,o) (aA _ (aA _ (zcv hb e)))).2.1
   cases ok with
   | false=>
    rw[if_neg aQ] at q9 ⊢;obtain⟨m',hm,w9⟩:=q9;obtain⟨a1,a2,a3⟩:=again I9;exact⟨m',hm,i+1,ys,τ8,H9,a1,a2,a3,w9⟩
   | true=>
    rw[if_pos rfl] at q9 ⊢;refine bR (he _ _ _ _ _ s9 _ H9 _ I9 q9) (fun zv s10 h10=>?_) fun _ _ z=>z.elim;obtain⟨z,H10,I10,rz,hz,hlt,m',hm,w10⟩:=h10;refine bR (zd3 (X:=cxC X N scope s3.heap.objs.size s3 H3 fp) _ s10 _ H10 (.ref D) [z] (.ref D) [zv] (fun _ H'=>H'=upd H10 D (.lst (ys ++ [z]))) I10 rfl (.cons rz .nil)
     ⟨_,ys,z,rfl,rfl,hz,hlt,rfl⟩) (fun _ s11 h11=>?_) fun _ _ z=>z.elim
    obtain⟨_,H11,I11,_,e11⟩:=h11;subst e11;obtain⟨a1,a2,a3⟩:=again I11;exact⟨m',hm,i+1,ys ++ [z],τ8,_,a1,a2,a3,w10⟩
 have I4:=comp_invK S (tk:=s3.toks) I3 f3 hfo3 hns₁ old;exact codeAny_compStart_list (loop _ I4 st1) (T.self _ 0 _ _ _ st1 (loop _ I4 st1))
end
end L2
namespace L3
open PySem PySem.Spec PyProof.Rows L2
def two:D->Option (D × D)
 | .tup [a,b]=>aa (a,b)
 | _=>ab
def two_some{d:D}{p:D × D}(h:two d=aa p):d=.tup [p.1,p.2]:=by
 unfold two at h;split at h
 ·cases h;rfl
 ·cases h
def cEn2(fr:List Nat)(δ:En)(d d':D):En:=aa (.val d) :: aa (.val d') :: fr.map fun i=>((δ[i]?).join).bind capt
def eL2(fr:List Nat)(fi:FI)(ft:FT)(fe:FE):FE:=fun δ=>(fi δ).bind fun ds=>(zcO (fun d=>(two d).bind fun p=>ft (cEn2 fr δ p.1 p.2)) (fun d=>(two d).bind fun p=>fe (cEn2 fr δ p.1 p.2)) ds).bind fun out=>if out.length<=1000000 then aa (.own out) else ab
def RS.cap2{K:ag}{B:Bd}{F H:Hp}{σ:Sg}{δ:En}{v v':V}{d d':D}(s:RS K B F H σ δ)(fr:List Nat)(r:Rep F v d)(r':Rep F v' d'):RS K B F H (aa v :: aa v' :: zdL fr σ) (cEn2 fr δ d d'):=by
 have c:=s.cap fr r';refine⟨c.fh,c.bh,by simp[cEn2,zdL],fun j e h=>?_,fun a b l ds e hab h1 h2 h3 h4=>?_,fun a b e1 e2 v1 v2 ad hab q1 q2 q3 q4 q5=>?_,fun w o _ ho=>by cases ho⟩
 ·cases j with
  | zero=>cases h;exact⟨v,rfl,r⟩
  | succ j=>exact c.ent j e h
 ·cases a with
  | zero=>cases h1
  | succ a=>
   cases b with
   | zero=>cases h3;cases h4
   | succ b=>exact c.ap a b l ds e (fun z=>hab (by rw[z])) h1 h2 h3 h4
 ·cases a with
  | zero=>cases q1;cases q5
  | succ a=>
   cases b with
   | zero=>cases q3;exact fun _ z=>z
   | succ b=>exact c.ao a b e1 e2 v1 v2 ad (fun z=>hab (by rw[z])) q1 q2 q3 q4 q5
def SemE.l2{K:ag}{fr:List Nat}{wi:TI}{tt:TT}{te:TE}{fi:FI}{ft:FT}{fe:FE}(mi:SemI K wi fi)(mt:SemT K tt ft)(me:SemE K te fe):SemE K (tLG 2 fr wi (gTup K 2 (gCons (zdh 0) (gCons (zdh 1) gNil))) tt te) (eL2 fr fi ft fe):=fun B F H σ δ res Q s q k=>by
 obtain⟨ds,q1,q⟩:=bind_some q;obtain⟨out,q2,q⟩:=bind_some q;split at q
 ·rename_i hlen;cases q;refine mi B F H σ δ ds _ s q1 fun J F1 H1 x1 io=>?_;intro a ha;refine⟨fun i m ys τ H'=>m=ds.length - i/\i<=ds.length/\(∃ o1 o2,τ=o1 :: o2 :: zdL fr σ)/\∃ F' done rest,Ex F1 H1 F' H'/\F' a=ab/\H' a=aa (.lst ys)/\Reps F' ys done/\zcO (fun d=>(two d).bind fun p=>ft (cEn2 fr δ p.1 p.2)) (fun d=>(two d).bind fun p=>fe (cEn2 fr δ p.1 p.2)) (ds.drop i)=aa rest/\out=done ++ rest,
   ⟨_,rfl,cm _,⟨ab,ab,rfl⟩,F1,[],out,Ex.lay x1.fh ha,x1.fh.free ha,zai,.nil,q2,rfl⟩,?_⟩
  rintro i m ys τ H' ⟨rfl,hi,⟨o1,o2,rfl⟩,F',dn,rest,x',fa,hH,rs,q',eo⟩;have s':=(s.ext x1).ext x';obtain⟨hstop,hgo⟩:=io F' H' x'.ff x'.fh s'.bh;by_cases hlt:i<ds.length
  ·right;have hd:ds[i]? = aa ds[i]:=by simp[hlt]
   obtain⟨g1,g2⟩:=hgo i _ hd;rw[cF hlt] at q';obtain⟨b,q3,q'⟩:=bind_some q';obtain⟨p,qt,q3⟩:=bind_some q3;have et:=two_some qt;refine⟨g1,fun v H2 yl=>?_⟩;obtain⟨F2,x2,r2⟩:=g2 v H2 yl;rw[et] at r2;cases r2 with
   | tup e2 rs2=>
    cases rs2 with
    | cons ra rs3=>
     cases rs3 with
     | cons rb rs4=>
      cases rs4;refine⟨_,_,rfl,SqT.of (x2.fh _ _ e2),rfl,_,_,rfl,_,_,rfl,rfl,?_⟩;have sc:=(s'.ext x2).cap2 fr ra rb;refine mt B F2 H2 _ _ b _ sc q3 fun F3 H3 x3=>?_;have nn:∀ {Fz Hz:Hp},Ex F' H' Fz Hz->Fz a=ab:=fun x=>(x.nw _ _ hH rfl).trans fa;cases b with
      | false=>
       refine iteF ⟨ds.length - (i+1),by lia,rfl,hlt,⟨_,_,rfl⟩,F3,dn,rest,(x'.trans x2).trans x3,nn (x2.trans x3),(x2.trans x3).hh _ _ hH,rs.mono (x2.trans x3).ff,q',eo⟩
      | true=>
       refine iteT ?_;obtain⟨y,q4,q'⟩:=bind_some q';obtain⟨r,q5,q6⟩:=bind_some q4;replace q5:(two ds[i]).bind (fun p=>fe (cEn2 fr δ p.1 p.2))=aa r:=q5;rw[qt] at q5;obtain⟨rest',q7,q'⟩:=map_some q';cases q';refine me B F3 H3 _ _ r _ (sc.ext x3) q5 fun w F4 H4 x4 z4=>?_;obtain⟨F5,x5,_,r5⟩:=RepR.frz x4 (Same.refl _) z4 q6;have xx:Ex F' H' F5 H4:=(x2.trans x3).trans x5;have hy:ys.length<aZ:=by
        rw[rs.length,bC];have:out.length=dn.length+(rest'.length+1):=by rw[eo];simp
        lia
       refine⟨xx.hh _ _ hH,hy,ds.length - (i+1),by lia,rfl,hlt,⟨_,_,rfl⟩,F5,dn ++ [y],rest',?_,nn xx,zai,(rs.mono xx.ff).append (.one r5),q7,by rw[eo];simp⟩;have xo:=x'.trans xx;exact⟨xo.ff,fun b o e=>by rw[zam (zaD e (nn xx))];exact xo.fh b o e,fun b o e=>by rw[zam (zaD e ha)];exact xo.hh b o e,xo.nw⟩
  ·left;have e:i=ds.length:=by lia
   subst e;rw[dR] at q';cases q';rw[aY] at eo;subst eo;refine⟨hstop,k _ F' H' (x1.trans x') ⟨a,ys,rfl,x1.hh.free ha,hH,rs,fa⟩⟩
 ·cases q
section
variable {X:Cx}{N:List Str}{fr:List Nat}{x x':Str}{scope:Scope}{iter elt:Expr}{ifs:List Expr}{px px' tpos pos:Pos}{fi:FI}{fe:FE}{ft:FT}{tn:Nat}
def vl2(S:CompSk X N 2 fr scope)(n0:N[0]? = aa x)(n1:N[1]? = aa x')(nd:N.Nodup)(t0:scope.names.lookup x=aa .local)(t1:scope.names.lookup x'=aa .local)(hi:VI X (.Tuple [.Name x px,.Name x' px'] tn tpos) iter fi)
  (ht:∀ (C:af) (s₀:ah) (H₀:Hp) (fp:List af),VTs (cxC X N scope C s₀ H₀ fp) ifs ft) (he:∀ (C:af) (s₀:ah) (H₀:Hp) (fp:List af),VE (cxC X N scope C s₀ H₀ fp) elt fe)
  (hc:X.calm=true:=by rfl) (hs:∀ z,bX iter X.env z=pure z:=by intro _;rfl):VE X (.ListComp elt [⟨.Tuple [.Name x px,.Name x' px'] tn tpos,iter,ifs,0⟩] scope pos) (eL2 fr fi ft fe):=by
 obtain⟨_,w1,m1⟩:=hi.h;have l0:(relabel scope X.env).names.lookup x=aa .local:=lookup_relabel_local t0;have l1:(relabel scope X.env).names.lookup x'=aa .local:=lookup_relabel_local t1;refine⟨_,⟨pe_lg S hc w1.h (fun C s₀ H₀ fp=>?_) (fun C s₀ H₀ fp=>((ht C s₀ H₀ fp).uni).h) (fun C s₀ H₀ fp=>((he C s₀ H₀ fp).uni).h) hs⟩,.l2 m1 zhv zhz⟩;exact pg_tup (X:=cxC X N scope C s₀ H₀ fp) hc (zfI (zhm nd n0 (.inl l0) (.inr l0)) (zfI (zhm nd n1 (.inl l1) (.inr l1)) pgs_nil))
end
end L3

namespace L3
open PySem PySem.Spec PyProof.Rows L2
mutual
def toD(kC:Str->af):OT->Option D
 | .val d=>aa d
 | .ins c ns l=>(toDs kC l).map (.ins (kC c) ns)
 | .dcI ks l=>(toDs kC l).map (.dcI ks)
 | .dcS ks l=>(toDs kC l).map (.dcS ks)
 | .los l=>(toDs kC l).map .lst
 | _=>ab
def toDs(kC:Str->af):List OT->Option (List D)
 | []=>aa []
 | o :: os=>(toD kC o).bind fun d=>(toDs kC os).map fun ds=>d :: ds
end
mutual
def plD:D->Bool
 | .non=>true
 | .bl _=>true
 | .int _=>true
 | .str _=>true
 | .tup l=>plDs l
 | _=>false
def plDs:List D->Bool
 | []=>true
 | d :: ds=>plD d && plDs ds
end
section
variable {K:ag}{kC:Str->af}{F H F1:Hp}{A:List af}
def TR.frz(hK:∀ c C,zbw K c C->C=kC c)(sf:Same F F1){v:V}{o:OT}{A:List af}(t:TR K F H v o A):(∀ a ∈ A,F1 a=H a)->∀ {d:D},toD kC o=aa d->Rep F1 v d:=by
 refine TR.rec (motive_1:=fun v o A _=>(∀ a ∈ A,F1 a=H a)->∀ {d:D},toD kC o=aa d->Rep F1 v d) (motive_2:=fun vs os A _=>(∀ a ∈ A,F1 a=H a)->∀ {ds:List D},toDs kC os=aa ds->Reps F1 vs ds) ?_ ?_ ?_ ?_ ?_ ?_ ?_ ?_ t
 ·intro _ _ r _ d q;simp only[toD] at q;cases q;exact Rep.mono sf r
 ·intro _ _ _ _ _ _ d q;simp only[toD] at q;cases q
 ·intro _ _ _ _ _ _ _ _ hc e1 _ hl _ ih h d q;simp only[toD] at q;obtain⟨ds,q1,q⟩:=map_some q;subst q;rw[<- hK _ _ hc];exact .ins ((h _ am).trans e1) hl (ih (fun a ha=>h a (aj _ (aj _ ha))) q1)
 ·intro _ _ _ _ _ _ e1 d1 hl _ ih h d q;simp only[toD] at q;obtain⟨ds,q1,q⟩:=map_some q;subst q;exact .dcI ((h _ am).trans e1) d1 hl (ih (fun a ha=>h a (aj _ ha)) q1)
 ·intro _ _ _ _ _ e1 hl _ ih h d q;simp only[toD] at q;obtain⟨ds,q1,q⟩:=map_some q;subst q;exact .dcS ((h _ am).trans e1) hl (ih (fun a ha=>h a (aj _ ha)) q1)
 ·intro _ _ _ _ e1 _ ih h d q;simp only[toD] at q;obtain⟨ds,q1,q⟩:=map_some q;subst q;exact .lst ((h _ am).trans e1) (ih (fun a ha=>h a (aj _ ha)) q1)
 ·intro _ d q;simp only[toDs] at q;cases q;exact .nil
 ·intro _ _ _ _ _ _ _ _ i1 i2 h d q;simp only[toDs] at q;obtain⟨d1,q1,q⟩:=bind_some q;obtain⟨ds,q2,q⟩:=map_some q;subst q;exact .cons (i1 (fun a ha=>h a (bg _ ha)) q1) (i2 (fun a ha=>h a (aA _ ha)) q2)
def Rep.off(hA:∀ a ∈ A,∃ u,F a=aa u/\isT u=false){v:V}{d:D}(r:Rep F v d):plD d=true->Rep (zee F A) v d:=by
 refine Rep.rec (motive_1:=fun v d _=>plD d=true->Rep (zee F A) v d) (motive_2:=fun vs ds _=>plDs ds=true->Reps (zee F A) vs ds) (fun _=>.non) (fun b _=>.bl b) (fun i _=>.int i) (fun x _=>.str x) ?_ ?_ ?_ ?_ ?_ ?_ (fun _=>.nil) ?_ r
 ·intro _ _ _ e _ ih h;simp only[plD] at h;refine .tup (zaY (fun z=>?_) e) (ih h);obtain⟨u,h1,h2⟩:=hA _ z;rw[e] at h1;cases h1;cases h2
 ·intro _ _ _ _ _ _ h;simp only[plD] at h;cases h
 ·intro _ _ _ _ _ _ _ _ _ h;simp only[plD] at h;cases h
 ·intro _ _ _ _ _ _ _ _ _ _ h;simp only[plD] at h;cases h
 ·intro _ _ _ _ _ _ _ _ _ _ h;simp only[plD] at h;cases h
 ·intro _ _ _ _ _ _ _ _ h;simp only[plD] at h;cases h
 ·intro _ _ _ _ _ _ i1 i2 h;simp only[plDs,de] at h;exact .cons (i1 h.1) (i2 h.2)
end
def kC_ex(K:ag):∃ kC:Str->af,∀ c C,zbw K c C->C=kC c:=by
 classical
 refine⟨fun c=>if h:∃ C,zbw K c C then h.choose else 0,fun c C h=>?_⟩;have hx:∃ C,zbw K c C:=⟨C,h⟩
 show C=if h:∃ C,zbw K c C then h.choose else 0
 rw[dif_pos hx];exact zbt h hx.choose_spec
section
variable {P:aN}{w:aV}{K:ag}{mg:Str->Option ae}{base:bd}{x qual:Str}{st:Stmt}{f:af}{fd:bw}{N ps:List Str}{k n:Nat}{g:GM}
end
def fNon:OT->Option Bool
 | .val d=>aa (isN (.val d))
 | .ins _ _ _=>aa false
 | _=>ab
noncomputable def eFIs(i:Nat)(c:Str)(ns:List Str)(k:Nat):FE:=fun δ=>((oAt i δ).bind (isC c ns)).bind fun l=>((l[k]?).bind fNon).map fun b=>.val (.bl b)
noncomputable def xCOF(i:Nat)(c:Str)(ns:List Str)(k:Nat)(g:GM)(fa:FA):FXE:=fun δ=>((oAt i δ).bind (isC c ns)).bind fun l=>(l[k]?).bind fun o=>((fa δ).bind ze5).bind fun ds=>(g o ds).map fun p=>(p.1,δ.set i (aa (.obj (.ins c ns (l.set k p.2)))))
section
variable {X:Cx}{e:Expr}{es:List Expr}{pos pos' p p2:Pos}{fa:FA}{x y f c qual:Str}{ns nsF ps:List Str}{g:GM}{fd:bw}{fm:af}{st:Stmt}{kk j:Nat}{CX:CXT}{E:XK}
def vFIs(i k:Nat){n:Nat}(hc:ClsF X.K c nsF)(hf:f ∈ nsF:=by decide +kernel)(hk:ns[k]? = aa f:=by rfl)(hn:ns.Nodup:=by decide +kernel)(hN:X.N[i]? = aa x:=by rfl)(hv:Vis X.env.scope x:=by first | exact aK rfl | exact be (aK rfl) | exact be (be rfl))(hd:(x == ("__debug__" : Str))=false:=by decide)
  (hcd:(x == ("__classdict__" : Str))=false:=by decide) (hb:b9 (.Name x p) f X.env (eval (.Name x p) X.env)=eval (.Name x p) X.env:=by rfl) (hm:behindInMarks .Is (.Constant .none n p2)=false:=by rfl) :
  VT X (.Compare (.Attribute (.Name x p) f pos') [.Is] [.Constant .none n p2] pos) (tOf (eFIs i c ns k)):=by
 refine⟨_,tcmp op_isN ⟨zet (wv i hN hv hd hcd).h hb⟩ wnon hm,fun B F H σ δ b Q s q kk=>?_⟩;obtain⟨res,q,q9⟩:=bind_some q;obtain⟨l,q0,q⟩:=bind_some q;obtain⟨o,q0,q1⟩:=bind_some q0;obtain⟨b',q2,q⟩:=map_some q;subst q;cases q9;obtain⟨x1,q2,q3⟩:=bind_some q2;cases zcH q1;obtain⟨v,h1,A,t,n,h⟩:=s.ent i _ (zav q0);cases t with
 | ins hcl e1 e2 hl ts=>
  obtain⟨w,A1,h2,h3,_⟩:=ts.focus q2
  obtain⟨g1,g2⟩:=hc.h _ hcl;refine⟨_,h1,_,_,_,_,w,rfl,e1,g1,g2 f hf,zcY hn hk h2,rfl,_,rfl,?_⟩;have e:decide (w=.non)=b:=by
   cases x1 with
   | val d=>cases q3;cases h3 with | val h3=>exact isN_ok (K:=X.K) (H0:=H) (H:=H) (e:=.val d) h3
   | ins _ _ _=>cases q3;cases h3;rfl
   | _=>cases q3
  rw[e];exact kk F H (Ex.refl s.fh)
def xcof(i k:Nat)(hc:ClsF X.K c nsF)(F:FnOk X.prog X.w X.K X.mg X.base CX kk fm fd ps (spM X.K g))(D:Def X.K X.mg y st ps fm fd)(hr:Room j X.A)(hg:Gl X y)(hx:zbX CX X E)(ha:VA X es fa)(hf:f ∈ nsF:=by decide +kernel)(hk:ns[k]? = aa f:=by rfl)(hn:ns.Nodup:=by decide +kernel)(hjk:kk<=j:=by decide)
  (hdb:(y == ("__debug__" : Str))=false:=by decide) (h2:es.all zak=true:=by rfl) (hN:X.N[i]? = aa x:=by rfl) (hv:Vis X.env.scope x:=by first | exact aK rfl | exact be (aK rfl) | exact be (be rfl)) (hd:(x == ("__debug__" : Str))=false:=by decide) (hcd:(x == ("__classdict__" : Str))=false:=by decide)
  (hb:b9 (.Name x p) f X.env (eval (.Name x p) X.env)=eval (.Name x p) X.env:=by rfl) :
  VX X (.Call (.Name y p2) (.Attribute (.Name x p) f pos' :: es) [] pos) (xCOF i c ns k g fa):=by
 obtain⟨t,w,m⟩:=ha.h;refine⟨_,wcl F D hr hg hx (wac ⟨zet (wv i hN hv hd hcd).h hb⟩ w rfl) hjk hdb rfl h2,fun B F H σ δ d δ' Q s q kk=>?_⟩;obtain⟨l,q0,q⟩:=bind_some q;obtain⟨o,q0,q1⟩:=bind_some q0;obtain⟨o1,q5,q⟩:=bind_some q;obtain⟨ds,q2,q⟩:=bind_some q;obtain⟨rs,q2,q3⟩:=bind_some q2;obtain⟨p1,q4,q⟩:=map_some q;cases q;cases zcH q1;obtain⟨v,h1,A,t0,n0,f0⟩:=s.ent i _ (zav q0);cases t0 with
 | ins hcl e1 e2 hl ts=>
  obtain⟨g1,g2⟩:=hc.h _ hcl;obtain⟨w,A1,h2,h3,h4,h4n,_⟩:=ts.focus q5
  have nA:=(aG.mp (aG.mp n0).2).2;refine⟨_,h1,_,_,_,_,w,rfl,e1,g1,g2 f hf,zcY hn hk h2,?_⟩;refine m B F H σ δ rs _ s q2 fun vs F1 H1 x1 r1=>?_;obtain⟨F2,x2,_,r2⟩:=RepRs.frz x1 (Same.refl _) r1 q3;have s2:=s.ext x2;have tt:=h3.ext x2;have ts2:=ts.move (H':=H1) x2.ff fun b hb=>let⟨u,hu,_⟩:=ts.lies b hb;(x2.hh _ _ hu).trans hu.symm;rw[aY];refine⟨w,vs,F2,_,_,ds,p1.1,p1.2,rfl,s2.fh,tt.1,h4n nA,fun a ha=>(tt.2 a ha).trans (f0 a (aj _ (aj _ (h4 a ha)))).1,r2,q4,fun y F' H' A' ch t' n' f' ry=>?_⟩;obtain⟨z1,z2⟩:=s2.sub (zav q0) h1 hcl (x2.hh _ _ e1) (x2.hh _ _ e2) hl ts2 q5 h2 tt.1 ch t' n' f';exact kk y F' H' z1 ((FX.of x2 s.bh).trans z2) ry
def vmake0{C:af}(DC:ClsD X.K X.mg c nsF C)(D:MakeD X.K c st qual ps fm fd)(F:FnOk X.prog X.w X.K X.mg X.base CX kk fm fd ps (spM X.K g))(hr:Room j X.A)(hg:Gl X c)(hx:zbX CX X E)(hjk:kk+1<=j:=by decide)(hdb:(c == ("__debug__" : Str))=false:=by decide) :
  VE X (.Call (.Name c p) [] [] pos) (zd6 c g zae):=⟨_,⟨pe_make0 (D.at_ _ DC.at_) F (hr.mono hjk) hg DC.mg D.b .nil hx hdb⟩,.make semNil DC.at_⟩
end
end L3

namespace L3
open PySem PySem.Spec PyProof.Rows L2
def mkK(w:Str)(ks:List Int)(os:List OT):OT:=.ins "Knot" ["word","branches"] [.val (.str w),.dcI ks os]
def knOf:OT->Option (Str × List Int × List OT)
 | .ins c ns [.val (.str w),.dcI ks os]=>if c = "Knot" /\ ns=(["word","branches"]:List Str) then aa (w,ks,os) else ab
 | _=>ab
def knOf_some{o:OT}{p:Str × List Int × List OT}(h:knOf o=aa p):o=mkK p.1 p.2.1 p.2.2:=by
 unfold knOf at h;split at h
 ·split at h
  ·rename_i z;cases h;rw[z.1,z.2];rfl
  ·cases h
 ·cases h
def knOf_mk(w:Str)(ks:List Int)(os:List OT):knOf (mkK w ks os)=aa (w,ks,os):=by
 unfold knOf mkK;exact if_pos ⟨rfl,rfl⟩
def zg5(rc:OT->Option (Bool × OT))(w w':Str)(ks:List Int)(os:List OT)(p:Int):Option (Bool × OT):=
 if 0<p then (match ixI ks p with
  | some j=>(os[j]?).bind fun y=>(rc y).map fun q=>(q.1,mkK w' ks (os.set j q.2))
  | none=>if ks.length<1000000 then aa (true,mkK w' (ks ++ [p]) (os ++ [mkK w [] []])) else ab)
 else if p=0 then aa (false,mkK w' ks os) else ab
def zeD(gs:List D->Option Ent)(w:Str):Nat->OT->Option (Bool × OT)
 | 0,_=>ab
 | n+1,x=>(knOf x).bind fun k=>((gs [.str k.1,.str w]).bind iOf).bind fun p=>zg5 (zeD gs w n) w k.1 k.2.1 k.2.2 p
def sAt(i:Nat):En->Option Str:=fun δ=>match δ[i]? with
 | some (aa (.val (.str z)))=>aa z
 | _=>ab
def sAt_some{i:Nat}{δ:En}{z:Str}(h:sAt i δ=aa z):δ[i]? = aa (aa (.val (.str z))):=by
 unfold sAt at h;split at h
 ·rename_i e;cases h;exact e
 ·cases h
def fHang(gs:List D->Option Ent):FS:=fun δ=>(oAt 0 δ).bind fun o=>(sAt 1 δ).bind fun w=>if 3<δ.length then (zeD gs w 1000 o).map fun p=>.rt (.val (.bl p.1)) (δ.set 0 (aa (.obj p.2))) else ab
def tSl(K:ag)(gs:List D->Option Ent):TE:=tCall (spD K [.v,.v] gs) [] E0 (tCons (zio K (zdC 2) "word") (tCons (zdC 1) tNil))
def tHang(K:ag)(gs:List D->Option Ent)(tK:TE):TS:=tSeq (zfH (zdC 0) (zdh 2)) (tSeq (zfH (tSl K gs) (zdh 3)) (tSeq (zid (tAnd (ze7 (tOp (rI0 fun i j=>.bl (decide (j<i))) (zdC 3) (tC (.int 0)))) (ze7 (tOp rInI (zdC 3) (zio K (zdC 2) "branches"))))
  (tSeq (zfH (tOp rIxI (zio K (zdC 2) "branches") (zdC 3)) (zdh 2)) (zfH (tSl K gs) (zdh 3))))
 (tSeq (tIfS (ze7 (tOp rEq (zdC 3) (tC (.int 0)))) (tRet (tC (.bl false))) tNext) (tSeq (zfH tK (gSub (zio K (zdC 2) "branches") (zdC 3) rSetI)) (tRet (tC (.bl true)))))))
section
variable {K:ag}{F H:Hp}{v v1:V}{w w':Str}{ks:List Int}{os:List OT}{A A1 A4:List af}{a dx l C:af}{o:Obj}{vs:List V}{up:OT->OT}{gs:List D->Option Ent}
def zeI(t:TR K F H v (mkK w ks os) A):∃ a dx C l o vs A4,v=.ref a/\A=a :: dx :: l :: A4/\zbw K "Knot" C/\H a=aa (.ins C dx [("word",.str w),("branches",.ref l)])/\H dx=aa (.own a)/\H l=aa (knO l o)/\DiD l o ((ks.map bE).zip vs)/\ks.length=vs.length/\TRs K F H vs os A4:=by
 cases t with
 | ins hc e1 e2 hl ts=>
  cases ts with
  | cons t1 ts=>
   cases t1 with
   | val r=>
    cases r;cases ts with
    | cons t2 ts=>
     cases ts;cases t2 with
     | dcI e d hl2 ts2=>exact⟨_,_,_,_,_,_,_,rfl,by simp,hc,e1,e2,e,d,hl2,ts2⟩
def kn_mk(hc:zbw K "Knot" C)(e1:H a=aa (.ins C dx [("word",.str w),("branches",.ref l)]))(e2:H dx=aa (.own a))(e:H l=aa (knO l o))(d:DiD l o ((ks.map bE).zip vs))(hl:ks.length=vs.length)(ts:TRs K F H vs os A4):TR K F H (.ref a) (mkK w ks os) (a :: dx :: l :: A4):=by
 unfold mkK;have:=TR.ins (ns:=["word","branches"]) (vs:=[.str w,.ref l]) hc e1 e2 rfl (.cons (.val (.str w)) (.cons (.dcI e d hl ts) .nil));simpa using this
def Plug(K:ag)(F H:Hp)(v:V)(A:List af)(v1:V)(A1:List af)(up:OT->OT):Prop:=(∀ b ∈ A1,b ∈ A) /\
 ∀ (F2 H2:Hp) (x':OT) (A1':List af),Same F F2->(∀ b ∈ A,b ∉ A1->H2 b=H b)->TR K F2 H2 v1 x' A1'->A1'.Nodup->(∀ b ∈ A1',b ∈ A1 \/ b ∉ A)->∃ A',TR K F2 H2 v (up x') A'/\A'.Nodup/\∀ b ∈ A',(b ∈ A/\b ∉ A1) \/ b ∈ A1'
def Plug.refl:Plug K F H v A v A id:=⟨fun _ h=>h,fun _ _ _ A1' _ _ t n _=>⟨A1',t,n,fun _ hb=>.inr hb⟩⟩
def Plug.down{j:Nat}{y:OT}(P:Plug K F H v A (.ref a) (a :: dx :: l :: A4) up)(hc:zbw K "Knot" C)(e1:H a=aa (.ins C dx [("word",.str w),("branches",.ref l)]))(e2:H dx=aa (.own a))(e:H l=aa (knO l o))(d:DiD l o ((ks.map bE).zip vs))(hl:ks.length=vs.length)(ts:TRs K F H vs os A4)
  (n:(a :: dx :: l :: A4).Nodup) (hj:os[j]? = aa y):∃ v2 A2,vs[j]? = aa v2/\TR K F H v2 y A2/\A2.Nodup/\Plug K F H v A v2 A2 fun y'=>up (mkK w ks (os.set j y')):=by
 obtain⟨v2,A2,h1,h2,h3,h4,go⟩:=ts.focus hj
 obtain⟨na,n⟩:=aG.mp n;obtain⟨nd,n⟩:=aG.mp n;obtain⟨nl,n4⟩:=aG.mp n;have up4:∀ b ∈ A4,b ∈ a :: dx :: l :: A4:=fun b hb=>aj _ (aj _ (aj _ hb));have na4:a ∉ A4:=fun z=>na (aj _ (aj _ z));have nd4:dx ∉ A4:=fun z=>nd (aj _ z);have top:∀ b,b=a \/ b=dx \/ b=l->b ∈ A/\b ∉ A4:=fun b hb=>by
  rcases hb with rfl | rfl | rfl
  ·exact⟨P.1 _ am,na4⟩
  ·exact⟨P.1 _ (aj _ am),nd4⟩
  ·exact⟨P.1 _ (aj _ (aj _ am)),nl⟩
 refine⟨v2,A2,h1,h2,h4 n4,fun b hb=>P.1 b (up4 b (h3 b hb)),fun F2 H2 y' A2' sf hh ty ny hy=>?_⟩;obtain⟨A4',m1,m2,m3⟩:=go F2 H2 y' A2' n4 sf (fun b hb hn=>hh b (P.1 b (up4 b hb)) hn) ty ny fun b hb=>(hy b hb).imp id fun z q=>z (P.1 b (up4 b q));have st:∀ b,b=a \/ b=dx \/ b=l->H2 b=H b:=fun b hb=>hh b (top b hb).1 fun z=>(top b hb).2 (h3 b z);have T:=kn_mk (w:=w) (ks:=ks) (os:=os.set j y') hc ((st a (.inl rfl)).trans e1) ((st dx (.inr (.inl rfl))).trans e2) ((st l (.inr (.inr rfl))).trans e) d hl m1;have no:∀ b,b=a \/ b=dx \/ b=l->b ∉ A4':=fun b hb z=>by
  rcases m3 b z with z | z
  ·exact(top b hb).2 z.1
  ·rcases hy b z with z | z
   ·exact(top b hb).2 (h3 b z)
   ·exact z (top b hb).1
 have T':(a :: dx :: l :: A4').Nodup:=by
  refine aG.mpr ⟨fun z=>?_,aG.mpr ⟨fun z=>?_,aG.mpr ⟨no l (.inr (.inr rfl)),m2⟩⟩⟩
  ·rcases az.mp z with z | z
   ·exact na (by rw[z];exact am)
   ·rcases az.mp z with z | z
    ·exact na (by rw[z];exact aj _ am)
    ·exact no a (.inl rfl) z
  ·rcases az.mp z with z | z
   ·exact nd (by rw[z];exact am)
   ·exact no dx (.inr (.inl rfl)) z
 have cs:∀ b ∈ a :: dx :: l :: A4',(b=a \/ b=dx \/ b=l) \/ b ∈ A4':=fun b hb=>by
  rcases az.mp hb with z | hb
  ·exact .inl (.inl z)
  ·rcases az.mp hb with z | hb
   ·exact .inl (.inr (.inl z))
   ·rcases az.mp hb with z | hb
    ·exact .inl (.inr (.inr z))
    ·exact .inr hb
 have tp:∀ b,b=a \/ b=dx \/ b=l->b ∈ a :: dx :: l :: A4:=fun b hb=>by
  rcases hb with rfl | rfl | rfl
  ·exact am
  ·exact aj _ am
  ·exact aj _ (aj _ am)
 obtain⟨A',p1,p2,p3⟩:=P.2 F2 H2 _ _ sf (fun b hb hn=>hh b hb fun z=>hn (up4 b (h3 b z))) T T' fun b hb=>by
  rcases cs b hb with z | z
  ·exact .inl (tp b z)
  ·rcases m3 b z with z | z
   ·exact .inl (up4 b z.1)
   ·exact(hy b z).imp (fun z=>up4 b (h3 b z)) id
 refine⟨A',p1,p2,fun b hb=>?_⟩;rcases p3 b hb with z | z
 ·exact .inl ⟨z.1,fun q=>z.2 (up4 b (h3 b q))⟩
 ·rcases cs b z with z | z
  ·exact .inl ⟨(top b z).1,fun q=>(top b z).2 (h3 b q)⟩
  ·exact(m3 b z).imp (fun z=>⟨P.1 b (up4 b z.1),z.2⟩) id
def sl_ok{σ:Sg}{p:Int}{Q:VK}(hc:ClsF K "Knot" ["word","branches"])(fh:Same F H)(h2:σ[2]? = aa (aa (.ref a)))(h1:σ[1]? = aa (aa (.str w)))(t:TR K F H (.ref a) (mkK w' ks os) A)(hg:gs [.str w',.str w]=aa (.val (.int p)))
  (k:∀ F' H',Ex F H F' H'->Q (.int p) H'):tSl K gs σ H Q:=by
 obtain⟨a',dx,C,l,o,vs,A4,e,_,hcl,e1,e2,_⟩:=zeI t;cases e;obtain⟨g1,g2⟩:=hc.h _ hcl;refine⟨_,h2,_,_,_,_,_,rfl,e1,g1,g2 "word" (by decide +kernel),rfl,_,h1,?_⟩;refine⟨F,[.str w',.str w],.val (.int p),fh,.cons (k:=.v) (.str w') (.cons (k:=.v) (.str w) .nil),hg,fun v F' H' x r=>?_⟩;cases zaO r;exact k F' H' x
def br_ok{σ:Sg}{Q:VK}(hc:ClsF K "Knot" ["word","branches"])(h2:σ[2]? = aa (aa (.ref a)))(hcl:zbw K "Knot" C)(e1:H a=aa (.ins C dx [("word",.str w),("branches",.ref l)]))(k:Q (.ref l) H):zio K (zdC 2) "branches" σ H Q:=by
 obtain⟨g1,g2⟩:=hc.h _ hcl;exact⟨_,h2,_,_,_,_,_,rfl,e1,g1,g2 "branches" (by decide +kernel),rfl,k⟩
def zfg{n:Nat}{x:OT}{r:Bool × OT}(h:zeD gs w n x=aa r):∃ m w' ks os p,n=m+1/\x=mkK w' ks os/\gs [.str w',.str w]=aa (.val (.int p))/\zg5 (zeD gs w m) w w' ks os p=aa r:=by
 cases n with
 | zero=>cases h
 | succ m=>
  obtain⟨k,q1,q⟩:=bind_some h;obtain⟨p,q2,q⟩:=bind_some q;obtain⟨e,q2,q3⟩:=bind_some q2;cases zaw q3;exact⟨m,k.1,k.2.1,k.2.2,p,rfl,knOf_some q1,q2,q⟩
def rs_one{σ:Sg}(fh:Same F H)(h:σ[1]? = aa (aa (.str w))):RS K ⟨fun _=>ab,ab⟩ F H σ ((aJ σ.length ab).set 1 (aa (.val (.str w)))):=by
 have key:∀ {i:Nat} {e:Ent},((aJ σ.length ab).set 1 (aa (.val (.str w))))[i]? = aa (aa e)->i=1/\e=.val (.str w):=fun {i e} q=>by
  rw[bf] at q;split at q
  ·rename_i z;split at q
   ·cases q;exact⟨z.symm,rfl⟩
   ·cases q
  ·rw[dc] at q;split at q <;> cases q
 refine⟨fh,(fun _ _ e=>by cases e),by simp,fun i e q=>?_,fun a b l ds e hab h1=>?_,fun a b e1 e2 v1 v2 ad hab h1 h2 h3 h4 h5=>?_,fun w o hw _=>by cases hw⟩
 ·obtain⟨rfl,rfl⟩:=key q;exact⟨_,h,.str w⟩
 ·obtain⟨_,z⟩:=key h1;cases z
 ·obtain⟨_,z⟩:=key h1;subst z;cases h5
def set32{σ:Sg}{x y z:Option V}:((σ.set 2 x).set 3 y).set 2 z=(σ.set 2 z).set 3 y:=by
 rw[List.set_comm _ _ (by decide),iR]
def get1{σ:Sg}{x y:Option V}:((σ.set 2 x).set 3 y)[1]? = σ[1]?:=by
 rw[cK (by decide),cK (by decide)]
def get2{σ:Sg}{x y:Option V}(h:3<σ.length):((σ.set 2 x).set 3 y)[2]? = aa x:=by
 rw[cK (by decide),cT (by lia)]
def get3{σ:Sg}{x y:Option V}(h:3<σ.length):((σ.set 2 x).set 3 y)[3]? = aa y:=by
 rw[cT (by rw[dC];exact h)]
def semHang{gi:GM}{tK:TE}(hc:ClsF K "Knot" ["word","branches"])(mk:SemE K tK (zd6 "Knot" gi (zaa (zab 1) zae)))(hgi:∀ w,gi (.ins "Knot" [] []) [.str w]=aa (.non,mkK w [] [])):SemS K (tHang K gs tK) (fHang gs):=fun B F H σ δ out DD s q k=>by
 obtain⟨o,q0,q⟩:=bind_some q;obtain⟨w,q1,q⟩:=bind_some q;have hlen:3<δ.length:=by
  by_cases z:3<δ.length
  ·exact z
  ·rw[if_neg z] at q;cases q
 rw[if_pos hlen] at q;obtain⟨res,q2,q⟩:=map_some q;subst q;rw[<- s.len] at hlen;obtain⟨v,h0,A,t,n,f0⟩:=s.ent 0 _ (zav q0);obtain⟨v1,h1,r1⟩:=s.ent 1 _ (sAt_some q1);cases zb0 r1;have fin:∀ (F2 H2:Hp) (A':List af),Chg H F F2 H2 A->TR K F2 H2 v res.2 A'->A'.Nodup->(∀ b ∈ A',F2 b=ab/\zee H A b=ab)->DD.rt (.bl res.1) H2:=fun F2 H2 A' ch t' n' f'=>by
  obtain⟨s3,y3⟩:=s.chg (zav q0) h0 t ch t' n' f';exact k (.bl res.1) _ F2 H2 s3 y3 (.bl res.1)
 obtain⟨m0,w0,ks0,os0,p0,hm0,rfl,g0,st0⟩:=zfg q2;obtain⟨a0,_,_,_,_,_,_,rfl,_⟩:=zeI t;refine⟨_,h0,?_⟩;refine sl_ok hc s.fh (cT (by lia)) (by rw[cK (by decide)];exact h1) t g0 fun F' H' x0=>?_;refine⟨fun m σ' H'=>∃ F' a A1 up w' ks os p r,σ'=(σ.set 2 (aa (.ref a))).set 3 (aa (.int p))/\Ex F H F' H'/\TR K F H (.ref a) (mkK w' ks os) A1/\A1.Nodup/\Plug K F H (.ref a0) A (.ref a) A1 up/\zg5 (zeD gs w m) w w' ks os p=aa r/\res=(r.1,up r.2),
  ⟨m0,F',a0,A,id,w0,ks0,os0,p0,res,rfl,x0,t,n,.refl,st0,rfl⟩,?_⟩
 rintro m σ' H' ⟨F',a,A1,up,w',ks,os,p,r,rfl,x,t1,n1,P,st,er⟩;obtain⟨a',dx,C,l,o',vs,A4,e,eA,hcl,e1,e2,e3,d,hl,ts⟩:=zeI t1;cases e;subst eA;have gk2:=get2 (σ:=σ) (x:=aa (.ref a)) (y:=aa (.int p)) hlen;have gk3:=get3 (σ:=σ) (x:=aa (.ref a)) (y:=aa (.int p)) hlen;have e1':=x.hh _ _ e1;have e3':=x.hh _ _ e3;have far:∀ b ∈ A,H' b=H b/\F' b=ab:=fun b hb=>by
  obtain⟨u,hu,ht⟩:=t.lies b hb;exact⟨(x.hh _ _ hu).trans hu.symm,(x.nw _ _ hu ht).trans (f0 b hb).1⟩
 have rest:(¬ 0<p \/ ixI ks p=ab)->(tSeq (tIfS (ze7 (tOp rEq (zdC 3) (tC (.int 0)))) (tRet (tC (.bl false))) tNext) (tSeq (zfH tK (gSub (zio K (zdC 2) "branches") (zdC 3) rSetI)) (tRet (tC (.bl true))))) DD ((σ.set 2 (aa (.ref a))).set 3 (aa (.int p))) H':=fun hp=>by
  refine⟨_,gk3,rfl,_,rfl,?_⟩;unfold zg5 at st;by_cases hpos:0<p
  ·rw[if_pos hpos] at st;have hno:=hp.resolve_left (fun z=>z hpos);rw[hno] at st;have st':(if ks.length<1000000 then aa (true,mkK w' (ks ++ [p]) (os ++ [mkK w [] []])) else ab)=aa r:=st;have hks:ks.length<1000000:=by
    by_cases z:ks.length<1000000
    ·exact z
    ·rw[if_neg z] at st';cases st'
   rw[if_pos hks] at st';cases st';rw[show decide (V.int p=V.int 0)=false from decide_eq_false fun z=>by cases z;lia];refine iteF ?_;refine mk _ F' H' _ _ (.obj (mkK w [] [])) _ (rs_one (w:=w) x.fh (get1.trans h1)) ?_ fun v3 F3 H3 x3 r3=>?_
   ·have e:zab 1 ((aJ ((σ.set 2 (aa (V.ref a))).set 3 (aa (.int p))).length (ab:Option Ent)).set 1 (aa (.val (.str w))))=aa (.val (.str w)):=by
     unfold zab;rw[cT (by rw[cH,dC,dC];lia)]
    unfold zd6 zaa zae;rw[e];show(gi (.ins "Knot" [] []) [.str w]).bind _=_;rw[hgi];rfl
   ·obtain⟨_,An,tn,nn,hn⟩:=r3;have xx:=x.trans x3;refine br_ok hc gk2 hcl (x3.hh _ _ e1') ?_;refine⟨_,gk3,l,o',ks,vs,p,rfl,rfl,x3.hh _ _ e3',d,hl,hks,zf6 hno,fun ob' d'=>?_⟩;show DD.rt (.bl true) _;obtain⟨na,nz⟩:=aG.mp n1;obtain⟨nd,nz⟩:=aG.mp nz;obtain⟨nl,n4⟩:=aG.mp nz;have hal:a ≠ l:=fun z=>na (by rw[z];exact aj _ am);have hdl:dx ≠ l:=fun z=>nd (by rw[z];exact am);have inA:∀ b ∈ a :: dx :: l :: A4,b ∈ A:=P.1;have hlA:l ∈ A:=inA l (aj _ (aj _ am));have old3:∀ b ∈ A,H3 b=H b/\F3 b=ab:=fun b hb=>by
     obtain⟨u,hu,ht⟩:=t.lies b hb;exact⟨(xx.hh _ _ hu).trans hu.symm,(xx.nw _ _ hu ht).trans (f0 b hb).1⟩
    have new:∀ b ∈ An,b ∉ A/\H b=ab/\F3 b=ab:=fun b hb=>by
     have hb0:=x.hh.free (hn b hb).2;exact⟨(fun z=>by obtain⟨u,hu,_⟩:=t.lies b z;rw[hb0] at hu;cases hu),hb0,(hn b hb).1⟩
    have ln:∀ b ∈ An,b ≠ l:=fun b hb z=>(new b hb).1 (by rw[z];exact hlA);have ts4:TRs K F3 (upd H3 l (knO l ob')) vs os A4:=ts.move xx.ff fun b hb=>by
     rw[zam (show b ≠ l from fun z=>nl (by rw[<- z];exact hb))];exact(old3 b (inA b (aj _ (aj _ (aj _ hb))))).1
    have tn4:TR K F3 (upd H3 l (knO l ob')) v3 (mkK w [] []) An:=tn.move (Same.refl _) fun b hb=>zam (ln b hb);obtain⟨A5,ts5,rfl⟩:=TRs.add tn4 ts4;have T:=kn_mk (w:=w') (ks:=ks ++ [p]) (os:=os ++ [mkK w [] []]) (H:=upd H3 l (knO l ob')) hcl (by rw[zam hal];exact xx.hh _ _ e1) (by rw[zam hdl];exact xx.hh _ _ e2) zai d' (by rw[aC,aC,hl];rfl) ts5;have ndis:∀ b,b ∈ An->b ∉ a :: dx :: l :: A4:=fun b hb z=>(new b hb).1 (inA b z);have T':(a :: dx :: l :: (A4 ++ An)).Nodup:=by
     have:((a :: dx :: l :: A4) ++ An).Nodup:=bG.mpr ⟨n1,nn,fun b hb c hc' z=>ndis c hc' (z ▸ hb)⟩;simpa using this
    have mem:∀ b ∈ a :: dx :: l :: (A4 ++ An),b ∈ a :: dx :: l :: A4 \/ b ∈ An:=fun b hb=>by
     have:b ∈ (a :: dx :: l :: A4) ++ An:=by simpa using hb
     exact bj.mp this
    obtain⟨A',p1,p2,p3⟩:=P.2 F3 (upd H3 l (knO l ob')) _ _ xx.ff (fun b hb hn'=>by
     rw[zam (show b ≠ l from fun z=>hn' (by rw[z];exact aj _ (aj _ am)))];exact(old3 b hb).1) T T' fun b hb=>(mem b hb).imp id fun z=>(new b z).1
    rw[er] at fin;refine fin F3 _ A' ⟨xx.ff,fun b u hb=>?_,fun b u hb=>?_,fun b u hb ht=>xx.nw _ _ (zaC hb).2 ht⟩ p1 p2 fun b hb=>?_
    ·rw[zam (show b ≠ l from fun z=>by rw[z,(old3 l hlA).2] at hb;cases hb)];exact xx.fh _ _ hb
    ·obtain⟨z1,z2⟩:=zaC hb;rw[zam (show b ≠ l from fun z=>z1 (by rw[z];exact hlA))];exact xx.hh _ _ z2
    ·rcases p3 b hb with z | z
     ·exact⟨(old3 b z.1).2,zbQ z.1⟩
     ·rcases mem b z with z | z
      ·exact⟨(old3 b (inA b z)).2,zbQ (inA b z)⟩
      ·exact⟨(new b z).2.2,(zdJ (new b z).1).trans (new b z).2.1⟩
  ·rw[if_neg hpos] at st;have hz:p=0:=by
    by_cases z:p=0
    ·exact z
    ·rw[if_neg z] at st;cases st
   rw[if_pos hz] at st;subst hz;cases st;refine iteT ?_;show DD.rt (.bl false) _;obtain⟨A',p1,p2,p3⟩:=P.2 F' H' _ _ x.ff (fun b hb _=>(far b hb).1) (t1.ext x).1 n1 fun b hb=>.inl hb;rw[er] at fin;refine fin F' H' A' ⟨x.ff,x.fh,fun b u hb=>x.hh _ _ (zaC hb).2,fun b u hb ht=>x.nw _ _ (zaC hb).2 ht⟩ p1 p2 fun b hb=>?_;have:b ∈ A:=(p3 b hb).elim (·.1) (P.1 b);exact⟨(far b this).2,zbQ this⟩
 refine⟨_,gk3,_,_,rfl,rfl,_,rfl,?_⟩;by_cases hpos:0<p
 ·rw[decide_eq_true hpos];refine iteT ?_;refine⟨_,gk3,br_ok hc gk2 hcl e1' ?_⟩;refine⟨l,o',ks,vs,p,rfl,rfl,e3',d,hl,_,rfl,?_⟩;rw[zfP p hl];cases hix:ixI ks p with
  | none=>exact iteF (rest (.inr hix))
  | some j=>
   have hst:=st;unfold zg5 at hst;rw[if_pos hpos,hix] at hst;obtain⟨y,qy,hst⟩:=bind_some hst;obtain⟨r',qr,hst⟩:=map_some hst;subst hst;obtain⟨v2,A2,hv2,t2,n2,P2⟩:=P.down hcl e1 e2 e3 d hl ts n1 qy;obtain⟨m',w2,ks2,os2,p2,rfl,rfl,g2,st2⟩:=zfg qr;obtain⟨a2,_,_,_,_,_,_,rfl,_⟩:=zeI t2;show if (vs[j]?).isSome=true then _ else _
   rw[hv2];refine iteT ⟨_,fun σ2 H2 z=>⟨m',cy m',z⟩,?_⟩;show zfH (tOp rIxI (zio K (zdC 2) "branches") (zdC 3)) (zdh 2) _ _ H';show tOp rIxI (zio K (zdC 2) "branches") (zdC 3) _ H' _;show zio K (zdC 2) "branches" _ H' _;refine br_ok hc gk2 hcl e1' ?_;refine⟨_,gk3,l,o',ks,vs,p,.ref a2,rfl,rfl,e3',d,hl,by rw[zfP p hl,hix];exact hv2,?_⟩;show tSl K gs _ H' _;rw[set32];refine sl_ok hc x.fh (get2 hlen) (get1.trans h1) (t2.ext x).1 g2 fun F4 H4 x4=>?_;exact⟨F4,a2,A2,_,w2,ks2,os2,p2,r',by rw[iR],x.trans x4,t2,n2,P2,st2,er⟩
 ·rw[decide_eq_false hpos];exact iteF (iteF (rest (.inl hpos)))
def sHang{X:Cx}{y1 y2 y3 y4 y5 y6:Stmt}{eK:Expr}{gi:GM}(hc:ClsF X.K "Knot" ["word","branches"])(hgi:∀ w,gi (.ins "Knot" [] []) [.str w]=aa (.non,mkK w [] []))(w1:WS X y1 (zfH (zdC 0) (zdh 2)))(w2:WS X y2 (zfH (tSl X.K gs) (zdh 3)))
  (w3:WS X y3 (zid (tAnd (ze7 (tOp (rI0 fun i j=>.bl (decide (j<i))) (zdC 3) (tC (.int 0)))) (ze7 (tOp rInI (zdC 3) (zio X.K (zdC 2) "branches")))) (tSeq (zfH (tOp rIxI (zio X.K (zdC 2) "branches") (zdC 3)) (zdh 2)) (zfH (tSl X.K gs) (zdh 3)))))
  (w4:WS X y4 (tIfS (ze7 (tOp rEq (zdC 3) (tC (.int 0)))) (tRet (tC (.bl false))) tNext)) (w5:∀ tK,WE X eK tK->WS X y5 (zfH tK (gSub (zio X.K (zdC 2) "branches") (zdC 3) rSetI))) (w6:WS X y6 (tRet (tC (.bl true)))) (hm:VE X eK (zd6 "Knot" gi (zaa (zab 1) zae))) :
  VSs X [y1,y2,y3,y4,y5,y6] (fHang gs):=by
 obtain⟨tK,wK,mK⟩:=hm.h;exact⟨_,sc w1 (sc w2 (sc w3 (sc w4 (sc (w5 tK wK) (s1 w6))))),semHang hc mK hgi⟩
end
end L3

namespace L2
open PySem PySem.Spec PyProof.Rows
section
variable {X:Cx}
end
end L2
namespace L3
open PySem PySem.Spec PyProof.Rows L2
abbrev FK:=En->Option En
def SemN(K:ag)(t:TS)(f:FK):Prop:=∀ (B:Bd) (F H:Hp) (σ:Sg) (δ δ':En) (DD:Ends),RS K B F H σ δ->f δ=aa δ'->(∀ F' H',RS K B F' H' σ δ'->FX B F F'->DD.nx σ H')->t DD σ H
structure VN(X:Cx)(s:Stmt)(f:FK):Prop where
 h:∃ t,WS X s t/\SemN X.K t f
structure VB(X:Cx)(e:Expr)(f:FE):Prop where
 h:∃ t,WE X e t/\WT X e (ze7 t)/\SemE X.K t f
def VB.v{X:Cx}{e:Expr}{f:FE}(h:VB X e f):VE X e f:=let⟨t,a,_,m⟩:=h.h;⟨t,a,m⟩
def VB.t{X:Cx}{e:Expr}{f:FE}(h:VB X e f):VT X e (tOf f):=let⟨_,_,a,m⟩:=h.h;⟨_,a,SemE.test m⟩
def fK(f:FK):FS:=fun δ=>(f δ).map .nx
section
variable {K:ag}{B:Bd}{F H F1 H1 F' H' H0:Hp}{σ:Sg}{δ:En}{v w:V}{A A' A1 A1':List af}{a l:af}{u:HO}{i k:Nat}{x' x1:OT}{vs:List V}{os:List OT}{up:List OT->OT}
end
section
variable {X:Cx}{e ex ep:Expr}{fx fp fe:FE}{fk:FK}{ft:FT}{x:Str}{pos p p2 p3 tpos tpos2:Pos}{body:List Stmt}
def sN{s:Stmt}(h:VN X s fk):VS X s (fK fk):=by
 obtain⟨t,w,m⟩:=h.h;refine⟨_,w,fun B F H σ δ out DD s q k=>?_⟩;obtain⟨δ',q1,q⟩:=map_some q;cases q;exact m B F H σ δ δ' DD s q1 fun F' H' s' y=>k σ F' H' s' y
end
section
variable {X:Cx}{e:Expr}{fe:FE}{pos p2:Pos}
end
end L3

namespace L3
open PySem PySem.Spec PyProof.Rows L2
section
variable {K:ag}{kC:Str->af}{B:Bd}{F H F' H' F1:Hp}{σ:Sg}{δ:En}{v:V}{o:OT}{A:List af}{d0 d:D}{g:List D->Option Ent}{Q:VK}{E:XK}
def frzF(fh:Same F H)(fA:∀ a ∈ A,F a=ab):∃ F1:Hp,Same F F1/\Same F1 H/\(∀ a ∈ A,F1 a=H a)/\∀ a,a ∉ A->F1 a=F a:=by
 refine⟨fun a=>if a ∈ A then H a else F a,fun a u e=>?_,fun a u e=>?_,fun a ha=>if_pos ha,fun a ha=>if_neg ha⟩
 ·show(if a ∈ A then H a else F a)=aa u;rw[if_neg fun ha=>by rw[fA a ha] at e;cases e];exact e
 ·have e':(if a ∈ A then H a else F a)=aa u:=e;split at e'
  ·exact e'
  ·exact fh a u e'
end
section
variable {X:Cx}{e:Expr}{pos apos:Pos}{fe:FE}{m c qual:Str}{ns nsF ps:List Str}{g:List D->Option Ent}{fd:bw}{fm:af}{st:Stmt}{kk j:Nat}{pl:Sem Bool}{CX:CXT}{E:XK}
end
def Bd.plus(B:Bd)(A:List af)(H:Hp):Bd:=⟨fun a=>if a ∈ A then H a else B.hp a,B.pin⟩
abbrev FOb:=En->Option (OT × En)
abbrev FObs:=En->Option (List OT × En)
def SemOb(K:ag)(t:TE)(f:FOb):Prop:=∀ (B:Bd) (F H:Hp) (σ:Sg) (δ:En) (o:OT) (δ':En) (Q:VK),RS K B F H σ δ->f δ=aa (o,δ') ->
 (∀ v F' H' A,RS K (B.plus A H') F' H' σ δ'->FX B F F'->TR K F' H' v o A->A.Nodup->(∀ a ∈ A,F' a=ab/\(B:Hp) a=ab)->Q v H')->t σ H Q
def SemObs(K:ag)(t:TA)(f:FObs):Prop:=∀ (B:Bd) (F H:Hp) (σ:Sg) (δ:En) (os:List OT) (δ':En) (Q:List V->Hp->Prop),RS K B F H σ δ->f δ=aa (os,δ') ->
 (∀ vs F' H' A,RS K (B.plus A H') F' H' σ δ'->FX B F F'->TRs K F' H' vs os A->A.Nodup->(∀ a ∈ A,F' a=ab/\(B:Hp) a=ab)->Q vs H')->t σ H Q
structure VOb(X:Cx)(e:Expr)(f:FOb):Prop where
 h:∃ t,WE X e t/\SemOb X.K t f
structure VObs(X:Cx)(es:List Expr)(f:FObs):Prop where
 h:∃ t,WA X es t/\SemObs X.K t f
section
variable {K:ag}{B:Bd}{F H F' H' H0:Hp}{σ:Sg}{δ:En}{v:V}{o:OT}{A A1 A2:List af}{i:Nat}
def Bd.plus_in{a:af}(h:a ∈ A):(B.plus A H).hp a=H a:=if_pos h
def Bd.plus_out{a:af}(h:a ∉ A):(B.plus A H).hp a=B.hp a:=if_neg h
def Bd.plus_of(hA:∀ a ∈ A,(B:Hp) a=ab):Same B (B.plus A H):=fun a u h=>by
 rw[Bd.plus_out fun z=>by rw[hA a z] at h;cases h];exact h
def RS.plus(s:RS K B F H σ δ)(hA:∀ a ∈ A,(B:Hp) a=ab)(hd:∀ (i:Nat) (e:Ent) (v:V) (a:af),δ[i]? = aa (aa e)->σ[i]? = aa (aa v)->Occ K F H v e a->a ∉ A):RS K (B.plus A H) F H σ δ:=by
 refine⟨s.fh,fun a u h=>?_,s.len,fun i e h=>?_,s.ap,s.ao,s.pn⟩
 ·by_cases ha:a ∈ A
  ·rw[Bd.plus_in ha] at h;exact h
  ·rw[Bd.plus_out ha] at h;exact s.bh a u h
 ·obtain⟨v,h1,r⟩:=s.ent i e h;refine⟨v,h1,?_⟩;cases e with
  | own ds=>obtain⟨l,vs,e,p3,p4,p5,p6⟩:=r;exact⟨l,vs,e,p3,p4,p5,(Bd.plus_out (hd i _ v l h h1 e)).trans p6⟩
  | bor ds=>obtain⟨l,vs,e,p3,p4⟩:=r;exact⟨l,vs,e,(Bd.plus_of hA).seq p3,p4⟩
  | bt ds=>obtain⟨l,vs,e,p3,p4⟩:=r;exact⟨l,vs,e,(Bd.plus_of hA).seqT p3,p4⟩
  | obj p=>obtain⟨A',t,n,f⟩:=r;exact⟨A',t,n,fun a ha=>⟨(f a ha).1,(Bd.plus_out (hd i _ v a h h1 ⟨A',t,ha⟩)).trans (f a ha).2⟩⟩
  | _=>exact r
end
section
variable {X:Cx}{e:Expr}{es:List Expr}{fe:FE}{fx:FXE}{fo:FOb}{fs:FObs}{pos pos':Pos}{x:Str}
end
end L3

namespace L3
open PySem PySem.Spec PyProof.Rows L2
abbrev GKC:=(Str->af)->List D->Option Ent
abbrev FL:=En->Option (List (D ⊕ OT))
inductive LA(K:ag)(F H:Hp):List Kd->List V->List (D ⊕ OT)->List af->Prop
 | nil:LA K F H [] [] [] []
 | arg {k:Kd} {v:V} {d:D} {ks:List Kd} {vs:List V} {rs:List (D ⊕ OT)} {A:List af}:ArgOk K F H v k d->LA K F H ks vs rs A->LA K F H (k :: ks) (v :: vs) (.inl d :: rs) A
 | obj {v:V} {o:OT} {ks:List Kd} {vs:List V} {rs:List (D ⊕ OT)} {A1 A:List af}:TR K F H v o A1->(∀ a ∈ A1,F a=ab)->LA K F H ks vs rs A->LA K F H (.v :: ks) (v :: vs) (.inr o :: rs) (A1 ++ A)
def toDL(kC:Str->af):List (D ⊕ OT)->Option (List D)
 | []=>aa []
 | .inl d :: rs=>(toDL kC rs).map fun ds=>d :: ds
 | .inr o :: rs=>(toD kC o).bind fun d=>(toDL kC rs).map fun ds=>d :: ds
def SemLA(K:ag)(ks:List Kd)(t:TA)(f:FL):Prop:=∀ (B:Bd) (F H:Hp) (σ:Sg) (δ:En) (rs:List (D ⊕ OT)) (Q:List V->Hp->Prop),RS K B F H σ δ->f δ=aa rs->(∀ vs F' H' A,Ex F H F' H'->LA K F' H' ks vs rs A->Q vs H')->t σ H Q
structure VLA(X:Cx)(ks:List Kd)(es:List Expr)(f:FL):Prop where
 h:∃ t,WA X es t/\SemLA X.K ks t f
def zfy:FL:=fun _=>aa []
def zjf(fe:FE)(fl:FL):FL:=fun δ=>((fe δ).bind asV).bind fun d=>(fl δ).map fun rs=>.inl d :: rs
def lBor(fe:FE)(fl:FL):FL:=fun δ=>((fe δ).bind asL).bind fun ds=>(fl δ).map fun rs=>.inl (.lst ds) :: rs
def zjc(i:Nat)(fl:FL):FL:=fun δ=>(oAt i δ).bind fun o=>(fl δ).map fun rs=>.inr o :: rs
def LdIs(g:GKC)(rs:List (D ⊕ OT))(d:D):Prop:=plD d=true/\∀ kC,∃ ds,toDL kC rs=aa ds/\g kC ds=aa (.val d)
open Classical in
noncomputable def ldV(g:GKC)(rs:List (D ⊕ OT)):Option Ent:=if h:∃ d,LdIs g rs d then aa (.val h.choose) else ab
noncomputable def eLd(g:GKC)(fl:FL):FE:=fun δ=>(fl δ).bind (ldV g)
noncomputable def eLdM(i:Nat)(c:Str)(ns:List Str)(g:GKC)(fl:FL):FE:=fun δ=>((oAt i δ).bind (isC c ns)).bind fun l=>(fl δ).bind fun rs=>ldV g (.inr (.ins c ns l) :: rs)
def ldV_eq{g:GKC}{rs:List (D ⊕ OT)}{d:D}(h:LdIs g rs d):ldV g rs=aa (.val d):=by
 have hx:∃ d,LdIs g rs d:=⟨d,h⟩
 unfold ldV;rw[dif_pos hx];obtain⟨ds,q1,q2⟩:=hx.choose_spec.2 fun _=>0;obtain⟨ds',q3,q4⟩:=h.2 fun _=>0;rw[q1] at q3;cases q3;exact q2.symm.trans q4
def zh8{g:GKC}{rs:List (D ⊕ OT)}{e:Ent}(h:ldV g rs=aa e):∃ d,e=.val d/\LdIs g rs d:=by
 unfold ldV at h;split at h
 ·rename_i hx;cases h;exact⟨_,rfl,hx.choose_spec⟩
 ·cases h
section
variable {K:ag}{kC:Str->af}{F H F' H' F1:Hp}{vs:List V}{rs:List (D ⊕ OT)}{A:List af}{d:D}{g:GKC}{Q:VK}{E:XK}{ks:List Kd}
def Rd.hh{a:af}{u:HO}(s:Same H H')(r:Rd H a u):Rd H' a u:=r.imp (s _ _) fun⟨o,e⟩=>⟨o,s _ _ e⟩
def ArgOk.ext{v:V}{k:Kd}(x:Ex F H F' H')(h:ArgOk K F H v k d):ArgOk K F' H' v k d:=by
 cases k with
 | v=>exact Rep.mono x.ff h
 | b=>cases d <;> first | exact h.elim | (obtain⟨l,vs,e,h1,h2⟩:=h;exact⟨l,vs,e,h1.imp (Rd.hh x.hh) id,h2.mono x.ff⟩)
 | t=>cases d <;> first | exact h.elim | (obtain⟨l,vs,e,h1,h2⟩:=h;exact⟨l,vs,e,h1.imp (Rd.hh x.hh) id,h2.mono x.ff⟩)
def LA.ext(l:LA K F H ks vs rs A)(x:Ex F H F' H'):LA K F' H' ks vs rs A:=by
 induction l with
 | nil=>exact .nil
 | arg r _ ih=>exact .arg (r.ext x) ih
 | obj t f _ ih=>exact .obj (t.ext x).1 (fun a ha=>((t.ext x).2 a ha).trans (f a ha)) ih
def LA.lies(l:LA K F H ks vs rs A):∀ a ∈ A,F a=ab/\∃ u,H a=aa u/\isT u=false:=by
 induction l with
 | nil=>intro a ha;cases ha
 | arg _ _ ih=>exact ih
 | obj t f _ ih=>intro a ha;exact(bj.mp ha).elim (fun h=>⟨f a h,t.lies a h⟩) (ih a)
def LA.frz(hK:∀ c C,zbw K c C->C=kC c)(s1:Same F F1)(l:LA K F H ks vs rs A):∀ {ds:List D},(∀ a ∈ A,F1 a=H a)->toDL kC rs=aa ds->ArgsOk K F1 H ks vs ds:=by
 induction l with
 | nil=>intro ds _ q;cases q;exact .nil
 | arg r _ ih=>
  intro ds h q;obtain⟨ds',q1,rfl⟩:=map_some q;exact .cons (r.mono s1) (ih h q1)
 | obj t _ _ ih=>
  intro ds h q;obtain⟨d,q1,q⟩:=bind_some q;obtain⟨ds',q2,rfl⟩:=map_some q;exact .cons (k:=.v) (t.frz hK s1 (fun a ha=>h a (bg _ ha)) q1) (ih (fun a ha=>h a (aA _ ha)) q2)
def LA.call(hK:∀ c C,zbw K c C->C=kC c)(fh:Same F H)(l:LA K F H ks vs rs A)(q:LdIs g rs d)(k:∀ x F' H',Ex F H F' H'->Rep F' x d->Q x H'):spD K ks (g kC) vs H Q E:=by
 obtain⟨F1,s1,s2,s3,s4⟩:=frzF fh fun a ha=>(l.lies a ha).1;obtain⟨ds,q1,q2⟩:=q.2 kC;refine⟨F1,ds,.val d,s2,l.frz hK s1 s3 q1,q2,fun x F' H' xx rx=>?_⟩;have hF:∀ a ∈ A,∃ u,F' a=aa u/\isT u=false:=fun a ha=>by
  obtain⟨_,u,h1,h2⟩:=l.lies a ha;exact⟨u,((xx.nw a u h1 h2).trans (s3 a ha)).trans h1,h2⟩
 refine k x (zee F' A) H' ⟨fun a u e=>zaY (fun ha=>by rw[(l.lies a ha).1] at e;cases e) (xx.ff a u (s1 a u e)),fun a u e=>xx.fh a u (zaC e).2,xx.hh,fun a u e ht=>?_⟩ ((show Rep F' x d from rx).off hF q.1);by_cases ha:a ∈ A
 ·rw[zbQ ha,(l.lies a ha).1]
 ·rw[zdJ ha,xx.nw a u e ht,s4 a ha]
end
section
variable {X:Cx}{e:Expr}{es:List Expr}{fe:FE}{fl:FL}{x y m c qual:Str}{p p2 pos apos:Pos}{ns nsF ps:List Str}{g:GKC}{fd:bw}{fm:af}{st:Stmt}{kk j:Nat}{CX:CXT}{E:XK}{ks:List Kd}{pl:Sem Bool}
def vln:VLA X [] [] zfy:=⟨_,wnil,fun B F H σ δ rs Q s q k=>by cases q;exact k [] F H [] (Ex.refl s.fh) .nil⟩
def vlv(he:VE X e fe)(hl:VLA X ks es fl)(h:zak e=true:=by rfl):VLA X (.v :: ks) (e :: es) (zjf fe fl):=by
 obtain⟨t,w,m⟩:=he.h;obtain⟨t2,w2,m2⟩:=hl.h;refine⟨_,wac w w2 h,fun B F H σ δ rs Q s q k=>?_⟩;obtain⟨d,q1,q⟩:=bind_some q;obtain⟨r,q1,q2⟩:=bind_some q1;obtain⟨rs',q3,q⟩:=map_some q;subst q;refine m B F H σ δ r _ s q1 fun v F1 H1 x1 r1=>?_;obtain⟨F2,x2,_,r2⟩:=RepR.frz x1 (Same.refl _) r1 q2;exact m2 B F2 H1 σ δ rs' _ (s.ext x2) q3 fun vs F3 H3 A x3 l=>k _ F3 H3 A (x2.trans x3) (.arg (k:=.v) (Rep.mono x3.ff r2) l)
def vlb(he:VE X e fe)(hl:VLA X ks es fl)(h:zak e=true:=by rfl):VLA X (.b :: ks) (e :: es) (lBor fe fl):=by
 obtain⟨t,w,m⟩:=he.h;obtain⟨t2,w2,m2⟩:=hl.h;refine⟨_,wac w w2 h,fun B F H σ δ rs Q s q k=>?_⟩;obtain⟨ds,q1,q⟩:=bind_some q;obtain⟨r,q1,q2⟩:=bind_some q1;obtain⟨rs',q3,q⟩:=map_some q;subst q;refine m B F H σ δ r _ s q1 fun v F1 H1 x1 r1=>?_;obtain⟨l,ws,e',h1,h2⟩:=r1.toL x1.fh q2;exact m2 B F1 H1 σ δ rs' _ (s.ext x1) q3 fun vs F3 H3 A x3 la=>k _ F3 H3 A (x1.trans x3) (.arg (k:=.b) (ArgOk.ext (k:=.b) (d:=.lst ds) x3 ⟨l,ws,e',h1,h2⟩) la)
def vlo(i:Nat)(hl:VLA X ks es fl)(hN:X.N[i]? = aa x:=by rfl)(hv:Vis X.env.scope x:=by first | exact aK rfl | exact be (aK rfl) | exact be (be rfl))(hd:(x == ("__debug__" : Str))=false:=by decide)(hcd:(x == ("__classdict__" : Str))=false:=by decide):VLA X (.v :: ks) (.Name x p :: es) (zjc i fl):=by
 obtain⟨t2,w2,m2⟩:=hl.h;refine⟨_,wac (wv i hN hv hd hcd) w2 rfl,fun B F H σ δ rs Q s q k=>?_⟩;obtain⟨o,q1,q⟩:=bind_some q;obtain⟨rs',q2,q⟩:=map_some q;subst q;obtain⟨v,h1,A,t,n,f⟩:=s.ent i _ (zav q1);refine⟨v,h1,m2 B F H σ δ rs' _ s q2 fun vs F3 H3 A' x3 l=>k _ F3 H3 (A ++ A') x3 (.obj (t.ext x3).1 (fun a ha=>((t.ext x3).2 a ha).trans (f a ha).1) l)⟩
def vld{kC:Str->af}(hK:∀ c C,zbw X.K c C->C=kC c)(F:FnOk X.prog X.w X.K X.mg X.base CX kk fm fd ps (spD X.K ks (g kC)))(D:Def X.K X.mg y st ps fm fd)(hr:Room j X.A)(hg:Gl X y)(hx:zbX CX X E)(hl:VLA X ks (e :: es) fl)(hjk:kk<=j:=by decide)
  (hdb:(y == ("__debug__" : Str))=false:=by decide) (h1:zak e=true:=by rfl) (h2:es.all zak=true:=by rfl):VE X (.Call (.Name y p2) (e :: es) [] pos) (eLd g fl):=by
 obtain⟨t,w,m⟩:=hl.h;refine⟨_,wcl F D hr hg hx w hjk hdb h1 h2,fun B F H σ δ res Q s q k=>?_⟩;obtain⟨rs,q1,q⟩:=bind_some q;obtain⟨d,rfl,q2⟩:=zh8 q;refine m B F H σ δ rs _ s q1 fun vs F1 H1 A x1 l=>?_;rw[aY];exact l.call (E:=E) hK x1.fh q2 fun v F2 H2 x2 r=>k v F2 H2 (x1.trans x2) r
def LA.meth{C:af}{kC:Str->af}{i:Nat}{t:TA}(hK:∀ c C,zbw X.K c C->C=kC c)(hcl:zbw X.K c C)(sm:SemLA X.K ks t fl)(hm:m ∉ ns):SemE X.K (tMeth C m (spD X.K (.v :: ks) (g kC)) [] E (zdC i) t) (eLdM i c ns g fl):=fun B F H σ δ res Q s q k=>by
 obtain⟨l,q0,q⟩:=bind_some q;obtain⟨o,q0,q1⟩:=bind_some q0;obtain⟨rs,q2,q⟩:=bind_some q;obtain⟨d,rfl,q3⟩:=zh8 q;have e0:=zcH q1;subst e0;obtain⟨v,h1,A,t0,n0,f0⟩:=s.ent i _ (zav q0);have t00:=t0;cases t0 with
 | ins hcl' e1 e2 hl ts=>
  cases zbt hcl hcl';refine⟨_,h1,_,_,_,rfl,e1,zdu hm,sm B F H σ δ rs _ s q2 fun vs F1 H1 A' x1 la=>?_⟩;rw[aY];have l2:=LA.obj (t00.ext x1).1 (fun a ha=>((t00.ext x1).2 a ha).trans (f0 a ha).1) la;exact l2.call (E:=E) hK x1.fh q3 fun v F2 H2 x2 r=>k v F2 H2 (x1.trans x2) r
def semLn{K:ag}:SemLA K [] tNil zfy:=fun B F H σ δ rs Q s q k=>by cases q;exact k [] F H [] (Ex.refl s.fh) .nil
def vldM0{C:af}{kC:Str->af}(i:Nat)(hK:∀ c C,zbw X.K c C->C=kC c)(DC:ClsD X.K X.mg c nsF C)(D:MethD X.K c m st qual ps fm fd)(F:FnOk X.prog X.w X.K X.mg X.base CX kk fm fd ps (spD X.K [.v] (g kC)))(hr:Room j X.A)(hx:zbX CX X E)
  (hm:m ∉ ns:=by decide +kernel) (hjk:kk<=j:=by decide) (hN:X.N[i]? = aa x:=by rfl) (hv:Vis X.env.scope x:=by first | exact aK rfl | exact be (aK rfl) | exact be (be rfl)) (hd:(x == ("__debug__" : Str))=false:=by decide) (hcd:(x == ("__classdict__" : Str))=false:=by decide)
  (ht:eval (.Call (.Attribute (.Name x p) m apos) [] [] pos) X.env=(do
   let ov <- eval (.Name x p) X.env
   standAt apos.atName
   let (f,first) <- holding [ov] (getMethod ov m pl)
   callWith pos f first (backTo pos (ba [] X.env)) (backToKw pos (keywordEach [] X.env))):=by rfl) :
  VE X (.Call (.Attribute (.Name x p) m apos) [] [] pos) (eLdM i c ns g zfy):=
 ⟨_,⟨pe_meth0 (wv i hN hv hd hcd).h DC.cl (D.at_ _ DC.at_) F (hr.mono hjk) D.b .nil hx ht⟩,LA.meth hK DC.at_ semLn hm⟩
end
end L3
namespace L3
open PySem PySem.Spec PyProof.Rows L2
def ze8(C:af)(ns:List Str)(ks:List Kd)(g:List D->Option Ent)(fe:FE)(fa:FA):FE:=fun δ=>(fe δ).bind fun x=>(asIn C ns x).bind fun l=>((fa δ).bind (zbF ks)).bind fun ds=>g (.ins C ns l :: ds)
section
variable {X:Cx}{e a:Expr}{es:List Expr}{pos apos:Pos}{fe:FE}{fa:FA}{m c qual:Str}{ns nsF ps:List Str}{ks:List Kd}{g:List D->Option Ent}{fd:bw}{fm:af}{st:Stmt}{kk j:Nat}{pl:Sem Bool}{CX:CXT}{E:XK}
def zdN{C:af}{kC:Str->af}(DC:ClsD X.K X.mg c nsF C)(hC:C=kC c)(D:MethD X.K c m st qual ps fm fd)(F:FnOk X.prog X.w X.K X.mg X.base CX kk fm fd ps (spD X.K (.v :: ks) g))(hr:Room j X.A)(hx:zbX CX X E)(he:VE X e fe)(ha:VA X (a :: es) fa)(hm:m ∉ ns:=by decide +kernel)(hjk:kk<=j:=by decide)(h1:zak a=true:=by rfl)(h2:es.all zak=true:=by rfl)
  (ht:eval (.Call (.Attribute e m apos) (a :: es) [] pos) X.env=(do
   let ov <- eval e X.env
   standAt apos.atName
   let (f,first) <- holding [ov] (getMethod ov m pl)
   callWith pos f first (backTo pos (ba (a :: es) X.env)) (backToKw pos (keywordEach [] X.env))):=by rfl) :
  VE X (.Call (.Attribute e m apos) (a :: es) [] pos) (ze8 (kC c) ns ks g fe fa):=by
 obtain⟨t,w,sm⟩:=he.h;obtain⟨ta,wa,sa⟩:=ha.h;refine⟨_,⟨pe_meth w.h DC.cl (D.at_ _ DC.at_) F (hr.mono hjk) D.b .nil hx wa.h (zaq h1) (zcs h2) ht⟩,fun B F H σ δ res Q s q k=>?_⟩;obtain⟨x,q1,q⟩:=bind_some q;obtain⟨l,q2,q⟩:=bind_some q;obtain⟨ds,q3,q5⟩:=bind_some q;obtain⟨rs,q3,q4⟩:=bind_some q3;cases zgx q2;refine sm B F H σ δ _ _ s q1 fun v F1 H1 x1 r1=>?_;have r1':Rep F1 v (.ins (kC c) ns l):=r1;cases r1' with
 | ins e1 hl rs1=>
  refine⟨_,_,_,rfl,hC ▸ x1.fh _ _ e1,zdu hm,sa B F1 H1 σ δ rs _ (s.ext x1) q3 fun vs F2 H2 x2 r2=>?_⟩;rw[aY];obtain⟨F3,x3,s3,ao⟩:=r2.args x2 (Same.refl _) q4;exact⟨F3,.ins (kC c) ns l :: ds,res,x3.fh,.cons (k:=.v) (Rep.mono (fun a o z=>s3 a o (x2.ff a o z)) (Rep.ins e1 hl rs1)) ao,q5,fun v' F' H' x4 r4=>k v' F' H' (x1.trans (x3.trans x4)) (r4.earlier (fun a o z=>x2.hh a o (x1.hh a o z)))⟩
end
end L3

namespace L3
open PySem PySem.Spec PyProof.Rows L2
def wAt(i:Nat):En->Option (List D):=fun δ=>match δ[i]? with
 | some (aa (.own ds))=>aa ds
 | _=>ab
def zhG{i:Nat}{δ:En}{ds:List D}(h:wAt i δ=aa ds):δ[i]? = aa (aa (.own ds)):=by
 unfold wAt at h;split at h
 ·rename_i e;cases h;exact e
 ·cases h
def zf2(i j:Nat)(fe:FE):FS:=fun δ=>(wAt i δ).bind fun fs=>(wAt j δ).bind fun ds=>((fe δ).bind iOf).bind fun k=>if 0<=k/\k<ds.length/\ds.length<1000000/\fs.length<1000000/\i ≠ j then (ds[k.toNat]?).map fun d=>.nx ((δ.set j (aa (.own (ds.eraseIdx k.toNat)))).set i (aa (.own (fs ++ [d])))) else ab
def Reps.erase{F:Hp}{vs:List V}{ds:List D}(k:Nat)(h:Reps F vs ds):Reps F (vs.eraseIdx k) (ds.eraseIdx k):=by
 rw[cB,cB];exact(h.take k).append (h.drop (k+1))
section
variable {X:Cx}{e:Expr}{fe:FE}{x y:Str}{pos p p2 apos cpos apos2 cpos2:Pos}
def sAppPop(i j:Nat)(he:VE X e fe)(hN:X.N[i]? = aa x:=by rfl)(hv:Vis X.env.scope x:=by first | exact aK rfl | exact be (aK rfl) | exact be (be rfl))(hd:(x == ("__debug__" : Str))=false:=by decide)(hcd:(x == ("__classdict__" : Str))=false:=by decide)
  (hN2:X.N[j]? = aa y:=by rfl) (hv2:Vis X.env.scope y:=by first | exact aK rfl | exact be (aK rfl) | exact be (be rfl)) (hd2:(y == ("__debug__" : Str))=false:=by decide) (hcd2:(y == ("__classdict__" : Str))=false:=by decide)
  (hbase:b9 (.Name x p) "append" X.env (eval (.Name x p) X.env)=eval (.Name x p) X.env:=by rfl) (hline:(apos.endLine == cpos.line)=true:=by rfl)
  (hbase2:b9 (.Name y p2) "pop" X.env (eval (.Name y p2) X.env)=eval (.Name y p2) X.env:=by rfl) (hline2:(apos2.endLine == cpos2.line)=true:=by rfl) (h1:zak e=true:=by rfl)
  (hs:swapsWith (.Call (.Attribute (.Name x p) "append" apos) [.Call (.Attribute (.Name y p2) "pop" apos2) [e] [] cpos2] [] cpos) ab pos.line X.env=pure false:=by rfl) :
  VS X (.Expr (.Call (.Attribute (.Name x p) "append" apos) [.Call (.Attribute (.Name y p2) "pop" apos2) [e] [] cpos2] [] cpos) pos) (zf2 i j fe):=by
 obtain⟨t,w,m⟩:=he.h;have w2:=wbm cN eR eS mt_popAt (wv j hN2 hv2 hd2 hcd2) (wac w wnil h1) hbase2 rfl hline2 h1 rfl;refine⟨_,sex (wbm cN gB gC zd3 (wv i hN hv hd hcd) (wac w2 wnil rfl) hbase rfl hline rfl rfl) hs,fun B F H σ δ out DD s q k=>?_⟩;obtain⟨fs,q1,q⟩:=bind_some q;obtain⟨ds,q2,q⟩:=bind_some q;obtain⟨n,q3,q⟩:=bind_some q;obtain⟨r,q3,q4⟩:=bind_some q3;obtain⟨⟨g0,g1,g2,g3,gij⟩,q⟩:=zeJ q;obtain⟨d,q5,q⟩:=map_some q;subst q;cases zaw q4;have hi:=zhG q1;have hj:=zhG q2;obtain⟨v,h1,l,vs,ev,a2,a3,a4,a5⟩:=s.ent i _ hi;subst ev;obtain⟨v',h1',l',vs',ev',b2,b3,b4,b5⟩:=s.ent j _ hj;subst ev';have hll:l ≠ l':=fun z=>s.ap i j l fs _ gij hi h1 hj rfl (by rw[h1',z]);refine⟨_,h1,.inl ⟨rfl,vs,SqL.of a2⟩,?_⟩;refine⟨_,h1',.inl ⟨rfl,vs',SqL.of b2⟩,?_⟩;refine m B F H σ δ _ _ s q3 fun yn F1 H1 x1 z=>?_;cases zaO z;have s1:=s.ext x1;have r1:=b3.mono x1.ff;obtain⟨w,hw,rw'⟩:=r1.get q5;have hvl:=b3.length;have hal:=a3.length;refine⟨l',vs',n,n.toNat,w,rfl,rfl,x1.hh _ _ b2,by lia,by lia,?_,hw,?_⟩
 ·have e1:¬ n<0:=by lia
  have e2:n<(vs'.length:Int):=by rw[hvl];exact g1
  simp only[seqIndex?,e1,if_false,g0,e2,decide_true,f7,if_true]
 ·refine⟨l,vs,w,rfl,rfl,by rw[zam hll];exact x1.hh _ _ a2,by rw[hal,bC];lia,?_⟩;have s2:=s1.mut hj h1' (r1.erase n.toNat);have hi2:(δ.set j (aa (.own (ds.eraseIdx n.toNat))))[i]? = aa (aa (.own fs)):=by rw[cK (ce gij)];exact hi
  exact k σ F1 _ (s2.mut hi2 h1 ((a3.mono x1.ff).append (.one rw'))) (.of x1 s.bh)
end
def zg6(i:Nat)(g:FS):FS:=fun δ=>match δ[i]? with
 | some (aa (.own ds))=>g (δ.set i (aa (.val (.lst ds))))
 | some (aa (.val _))=>g δ
 | _=>ab
def sFrzA{X:Cx}{sr:List Stmt}{g:FS}(i:Nat)(h:VSs X sr g):VSs X sr (zg6 i g):=by
 obtain⟨u,w2,m2⟩:=h.h;refine⟨_,w2,fun B F H σ δ out DD s q k=>?_⟩;unfold zg6 at q;split at q
 ·rename_i ds hi;obtain⟨F',x,s'⟩:=s.frz hi;exact m2 B F' H σ _ out DD s' q (k.mono x)
 ·exact m2 B F H σ δ out DD s q k
 ·cases q
end L3

namespace L2
open PySem PySem.Spec PyProof.Rows
section
variable {prog:aN}{w:aV}{A:aX}{E:ae->ah->Prop}{s:ah}
def ze6:typeLookup (.type "list") "keys" = pure ab:=am_miss_of_fast (by decide +kernel)
def getAttr?_keys{a:af}{o:Obj}{xs:Array ae}{k:Nat}{Q:Option ae->ah->Prop}(hx:s.heap.get? a=aa o)(hc:o.cls=.type "list")(hdat:o.data=.seq xs k)(hd:o.dict=ab)(hA:A.handled=ab)
  (h:∀ h' tk,(∀ b ob,s.heap.get? b=aa ob->h'.get? b=aa ob)->Q ab { s with heap:=h',toks:=tk}):ay (model prog w) A (getAttr? (.ref a) "keys") Q E s:=by
 obtain⟨c,dct,dat,sl⟩:=o;simp only at hc hdat hd;subst hc hdat hd;obtain⟨hp,g,d,tk,os⟩:=s;have hT:∀ tk',(⟨hp,g,d,tk',os⟩:ah).TypeIs (.ref a) "list" :=fun _=>⟨_,hx,rfl⟩
 have f1:=sub_AttributeError;have f3:=F.slot_list_getattribute.lookup;have f4:=F.slot_list_getattribute.bind (.ref a);have f5:=am_list_getattr_none;unfold getAttr? getAttrBy? getAttrBy
 repeat (any_goals (first | assumption | exact hT _ | ((with_reducible show ay _ _ (call (Value.builtin "list.__getattribute__") _ _) _ _ _);refine call_meets F.slot_list_getattribute (hT _) am_entry_list_getattribute (F.args_list_getattribute_2 _ _) (meets_getattribute_miss_list a xs k sl "keys" _ ze6 (by decide) (by size_fits)) ⟨hx,hA,fun h' tk' e hx'=>?_⟩) | wp_step))
 obtain⟨t',u',he⟩:=hx'.there;show ay _ _ (getattributeRaised _ _ _ _ _ _ _) _ _ _;unfold getattributeRaised
 repeat (any_goals (first | assumption | wp_step))
 exact h _ _ hx'.keeps
def zgV:entryFor table "dict.update.loop" = aa Builtin.«dict.update.loop» :=entryFor_of_tree (by kernel_rfl)
def zd8:plainId "dict.update.loop" = true:=by decide +kernel
def ziT{t:af}{a b:ae}{Q:List ae->ah->Prop}(ht:s.heap.IsTuple t #[a,b])(h:Q [a,b] s):ay (model prog w) A (hU (.ref t)) Q E s:=by
 unfold hU;refine ai (wpAny_typeOf ht.typeIs ?_);rw[if_pos (by decide)];obtain⟨o,e1,e2,n,e3⟩:=id ht;obtain⟨hp,g,d,tk,os⟩:=s
 repeat (any_goals (first | assumption | wp_step))
 rw[e3];exact aq (aq h)
end
section
variable {prog:aN}{w:aV}{K:Type}[DecidableEq K]{knd:KeyKind prog w K}{A:aX}{R:Result->ah->Prop}{I:af}{fp wr:List af}{G:Array GenState->Array GenState->Prop}{n:Nat}{P:Nat->ae->Prop}{St:Nat->ah->Prop}
def updD(W:WalksS prog w A.in1 I fp wr G n P St)(D:af)(hD:D ∉ fp)(base:bd)(key:Nat->K)(val:Nat->ae)
  (hv:∀ i v,P i v->∃ t kv,v=.ref t/\t ∉ wr/\t ≠ D/\base.IsTuple t #[kv,val i]/\knd.is (key i) kv=true) (k:Nat) :
  ∀ (i:Nat) (c:Int) (s:ah) (kvs:List (K × ae)),i+k=n->St i s->s.heap.DictOf knd D kvs->kvs.length+k<=aZ->(∀ b o,b ∉ wr->b ≠ D->base.get? b=aa o->s.heap.get? b=aa o) ->
   (∀ s',Moved (D :: wr) G s s'->s'.heap.DictOf knd D (((dG i k).map fun j=>(key j,val j)).foldl (fun a p=>stored a p.1 p.2) kvs)->R (.ok (.ret .none)) s')->codeAny (model prog w) A (.builtin "dict.update.loop" ⟨[.ref D,.ref I,rawInt c,.none],[]⟩) R s:=by
 have nw:D ∉ wr:=fun h=>hD (W.sub _ h);have sb:∀ b ∈ wr,b ∈ D :: wr:=fun b hb=>.tail _ hb
 induction k with
 | zero=>
  intro i c s kvs hi st dd hz ke kk;have e:i=n:=by lia
  subst e;refine codeAny_builtin zgV ?_;rw[bO zd8 _];refine ai (m:=pyNext (.ref I)) (W.done s _ _ st fun s' mv=>?_);exact ai (aq (aq (kk s' (mv.mono sb) (dd.at fun o e=>mv.heap D o nw e))))
 | succ k ih=>
  intro i c s kvs hi st dd hz ke kk;refine codeAny_builtin zgV ?_;rw[bO zd8 _];refine ai (m:=pyNext (.ref I)) (W.item i s _ _ (by lia) st fun v s' hp st' mv=>?_);obtain⟨t,kv,rfl,ht1,ht2,ht3,hk⟩:=hv i v hp;have ht:s'.heap.IsTuple t #[kv,val i]:=ht3.at fun o e=>mv.heap t o ht1 (ke t o ht1 ht2 e);refine ai (bU (ai (wpAny_tryCatch (ziT ht ?_))));refine bU (wpAny_dictSet_pairs hk (dd.at fun o e=>mv.heap D o nw e) (fun h' dd' same=>?_) (by lia));have old:∀ b o,b ≠ D->s'.heap.get? b=aa o->h'.get? b=aa o:=fun b o hb e=>(same.2 b hb).trans e;have hl:(stored kvs (key i) (val i)).length<=kvs.length+1:=by
   unfold stored;split
   ·rw[al];lia
   ·rw[aC];exact au _
  refine aq ⟨plainId_quiet zd8 _,ih (i+1) (c+1) _ (stored kvs (key i) (val i)) (by lia) ?_ dd' (by lia) (fun b o hb hb2 e=>old b o hb2 (mv.heap b o hb (ke b o hb hb2 e))) fun s2 mv2 dd2=>?_⟩
  ·exact W.frame _ s' h' _ st' (cg _) fun b hb o e=>old b o (fun q=>hD (q ▸ hb)) e
  ·refine kk s2 (kB W.gtrans ((mv.mono sb).then_heap (cg _) fun b o hb e=>old b o (fun q=>hb (q ▸ .head _)) e) mv2) ?_;rw[jc,aF,c9];exact dd2
end
section
variable {prog:aN}{w:aV}{K:Type}[DecidableEq K]{knd:KeyKind prog w K}{A:aX}{E:ae->ah->Prop}{s:ah}
def zeQ{l:af}{o:Obj}{items:Array ae}{n:Nat}{Q:ae->ah->Prop}(hh:A.handled=ab)(hx:s.heap.get? l=aa o)(hc:o.cls=.type "list")(hdat:o.data=.seq items n)(hd:o.dict=ab)(key:Nat->K)(val:Nat->ae)
  (hv:∀ i v,items[i]? = aa v->∃ t kv,v=.ref t/\s.heap.IsTuple t #[kv,val i]/\knd.is (key i) kv=true) (hz:items.size<=aZ)
  (h:∀ h' tk,(∀ b ob,s.heap.get? b=aa ob->h'.get? b=aa ob)->h'.DictOf knd s.heap.objs.size (((dG 0 items.size).map fun j=>(key j,val j)).foldl (fun a p=>stored a p.1 p.2) [])->Q (.ref s.heap.objs.size) { s with heap:=h',toks:=tk}) :
  ay (model prog w) A (call (.type "dict") [.ref l]) Q E s:=by
 refine callType_codes (Q₁:=fun obj s₁=>obj=.ref s.heap.objs.size/\s₁={ s with heap:=s.heap.push { cls:=.type "dict",data:=.dict #[]}}) F.kt_called_dict (F.kt_typeCall_dict_1 _) F.entry_dict_init (kt_code_dict_new _ ⟨rfl,rfl⟩) ?_;rintro obj s₁ ⟨rfl,rfl⟩;have hnew:(s.heap.push { cls:=.type "dict",data:=.dict #[]}).DictOf knd s.heap.objs.size []:=jn s.heap;have up:∀ b ob,s.heap.get? b=aa ob->(s.heap.push { cls:=.type "dict",data:=.dict #[]}).get? b=aa ob:=fun b ob e=>ak _ e;have hlt:=aH hx;generalize hD:s.heap.objs.size=D at *;generalize s.heap.push { cls:=.type "dict",data:=.dict #[]}=h1 at *;have hx1:=up _ _ hx;refine⟨hnew.typeIs,F.args_dict_init_2 _ _,?_⟩;unfold Builtin.«dict.__init__»;refine ai ?_;unfold kj;refine ai (wpAny_notOrdered_dict hnew.typeIs ?_);show ay _ _ (pure (D,[br l])) _ _ _;refine aq ?_;show ay _ _ (gP "dict.__init__" D (.ref l) [] .none) _ _ _;unfold gP;have hT:eJ { s with heap:=h1} (.ref l) "list" :=⟨_,hx1,hc⟩
 refine ai (wpAny_typeOf hT ?_);rw[if_pos (by decide)];refine ai (getAttr?_keys (s:={ s with heap:=h1}) hx1 hc hdat hd hh fun h2 tk2 keep=>?_);rw[if_pos (show Option.isNone (ab:Option ae)=true from rfl)];have keep':∀ b ob,h1.get? b=aa ob->h2.get? b=aa ob:=keep;have hl2:h2.IsList l items:=⟨o,keep' _ _ hx1,hc,n,hdat⟩
 have d2:h2.DictOf knd D []:=hnew.at fun ob e=>keep' _ ob e;have ltD:D<h2.objs.size:=by obtain⟨ob,_,_,e,_⟩:=d2;exact aH e
 have ltB:∀ b ob,s.heap.get? b=aa ob->b<D:=fun b ob e=>hD ▸ aH e;refine ai (wpAny_rule (ai (wpAny_pyIter_list hl2 (aq ⟨plainId_quiet zd8 _,?_⟩))));have ll:l<D:=ltB l o hx;refine updD (A:=A.in1) ((jo (A:=A.in1.in1) hh h2.objs.size l (aR (gz ll ltD)) items).toS) D (by simp[aR ltD,dr ll]) (h2.push { cls:=.type "list_iterator",data:=.fields #[.ref l,.int 0 0]}) key val (fun i v hi=>?_) items.size 0 0 _ [] (by lia) ⟨⟨_,aB _ rfl,rfl,rfl⟩,hl2.push _⟩ (d2.push _) (by simpa using hz) (fun b ob _ _ e=>e) fun s' mv dd'=>?_
 ·obtain⟨t,kv,rfl,ht,hk⟩:=hv i v hi;obtain⟨ob,e,r⟩:=id ht;have lt:=ltB t ob e;exact⟨t,kv,rfl,by simp[aR (gz lt ltD)],aR lt,⟨ob,ak _ (keep' _ _ (up _ _ e)),r⟩,hk⟩
 ·obtain⟨h',g',d',tk',os'⟩:=s';cases (show g'=s.gens from mv.gens);cases (show d'=s.drawn from mv.drawn);cases (show os'=s.os from mv.os);exact⟨rfl,h h' tk' (fun b ob e=>mv.heap b ob (by have lt:=ltB b ob e;simp[aR (gz lt ltD),aR lt]) (ak _ (keep' _ _ (up _ _ e)))) dd'⟩
end
end L2
namespace L2
open PySem PySem.Spec PyProof.Rows
section
variable {X:Cx}
inductive PrVs(K:ag)(H:Hp):List (Str × V)->List V->Prop
 | nil:PrVs K H [] []
 | cons {k:Str} {v:V} {t:af} {ps:List (Str × V)} {ys:List V}:SqT K H t [.str k,v]->PrVs K H ps ys->PrVs K H ((k,v) :: ps) (.ref t :: ys)
def kvP(ps:List (Str × V)):List (Key × V):=ps.map fun p=>(bB p.1,p.2)
def PrVs.vals{pins:List (af × Obj)}{σ:St}{H:Hp}{s:ah}(I:Inv X pins σ H s){ps:List (Str × V)}{ys:List V}(hp:PrVs X.K H ps ys):∀ {its:List ae},Vals ys its->∃ us:List (Key × ae),KV (kvP ps) us/\us.length=its.length /\
  ∀ (i:Nat) (v:ae) (u:Key × ae),its[i]? = aa v->us[i]? = aa u->∃ t kv,v=.ref t/\s.heap.IsTuple t #[kv,u.2]/\(zbd X.prog X.w).is u.1 kv=true:=by
 induction hp with
 | nil=>intro its r;cases r;exact⟨[],.nil,rfl,fun i v u h=>by cases h⟩
 | @cons k v t ps ys ht _ ih=>
  intro its r;cases r with
  | @cons _ b _ bs hb hr=>
   obtain⟨us,h1,h2,h3⟩:=ih hr;cases hb;obtain⟨it2,r2,pl,_⟩:=I.tuple ht;cases r2 with
   | cons ra rb=>
    cases rb with
    | cons rc rd=>
     cases rd;refine⟨(bB k,_) :: us,.cons ⟨rfl,rc⟩ h1,congrArg (· + 1) h2,fun i w u h5 h6=>?_⟩;cases i with
     | zero=>cases h5;cases h6;exact⟨t,_,rfl,pl,kisS ra⟩
     | succ i=>exact h3 i w u h5 h6
def ziL(hc:X.calm=true):zde X (.type "dict") (fun xs H Q=>∃ p ys ps,xs=[.ref p]/\SqL X.K H p ys/\PrVs X.K H ps ys/\(ps.map (·.1)).Nodup/\∀ l o,H l=ab->Q (.ref l) (upd H l (.frz o (.dK (kvP ps))))):=by
 intro pins s σ H xs us Q I r h;obtain⟨p,ys,ps,rfl,hq,hp,hn,q⟩:=h;obtain⟨u,rfl,rx⟩:=zeA r;cases rx;obtain⟨its,r',⟨o,n,e,c1,c2,c3⟩,hz⟩:=I.list hq;obtain⟨ws,w1,w2,w3⟩:=hp.vals I r';have hlen:=r'.length;have er:(dG 0 its.toArray.size).map (fun j=>((ws.getD j (.inl 0,.none)).1,(ws.getD j (.inl 0,.none)).2))=ws:=by
  refine dy (by simp[w2]) fun i a1 a2=>?_;simp[a2]
 have nd:(ws.map (·.1)).Nodup:=by
  have:ws.map (·.1)=ps.map fun p=>(bB p.1:Key):=by
   have key:∀ {a:List (Key × V)} {b:List (Key × ae)},KV a b->b.map (·.1)=a.map (·.1):=fun h=>by
    unfold KV at h
    induction h with
    | nil=>rfl
    | cons h _ ih=>rw[aF,aF,ih,h.1]
   rw[key w1];unfold kvP;rw[bY];rfl
  rw[this,show(ps.map fun p=>(bB p.1:Key))=(ps.map (·.1)).map bB by rw[bY];rfl];exact i4 _ (fun a b h z=>h (kt z)) hn
 refine zeQ (knd:=zbd X.prog X.w) (I.ok.hd hc) e c1 c3 c2 (fun j=>(ws.getD j (.inl 0,.none)).1) (fun j=>(ws.getD j (.inl 0,.none)).2) (fun i v hi=>?_) (by simp;lia) fun h' tk kp dd=>?_
 ·have hi':its[i]? = aa v:=by simpa using hi
  have lt:i<ws.length:=by rw[w2];exact(a9.mp hi').1
  rw[dX,aE lt];exact w3 i v _ hi' (aE lt)
 ·rw[er,show ws.foldl (fun a p=>stored a p.1 p.2) []=merged [] ws from rfl,merged_nil_of_nodup ws nd] at dd;obtain⟨ob,hob⟩:∃ ob,h'.get? s.heap.objs.size=aa ob:=let⟨ob,_,_,z,_⟩:=dd;⟨ob,z⟩;have hlk:(kvP ps).length<=aZ:=by rw[iu w1,w2,<- hlen];exact hz
  refine⟨.ref s.heap.objs.size,_,I.laid (a:=s.heap.objs.size) (o:=.frz ob (.dK (kvP ps))) (t':=tk) kp (au _) ⟨hob,hlk,beq_eq_false_iff_ne.mpr (dr I.big),ws,w1,dd⟩,rfl,q _ _ (I.hok.fresh (au _))⟩
end
end L2
namespace L3
open PySem PySem.Spec PyProof.Rows L2
def call_lenD{X:Cx}:zde X (.builtin "len") (fun xs H Q=>∃ p kvs,xs=[.ref p]/\Rd H p (.dK kvs)/\Q (.int kvs.length) H):=by
 intro pins s σ H xs us Q I r h;obtain⟨p,kvs,rfl,hp,q⟩:=h;obtain⟨u,rfl,rx⟩:=zeA r;cases rx;obtain⟨z,hd,ws,rel,dd⟩:=(show ObjOk X.prog X.w H s.heap p (.dK kvs) from hp.ok I.hok);have hl:=iu rel;refine call_len_dict hd dd (by have:=bC;lia) ?_;exact⟨.int kvs.length,H,I.tok _,⟨s.toks+1,by rw[hl]⟩,q⟩
def zi0:List Ent->Option Ent
 | [.val (.dic ks _)]=>aa (.val (.int ks.length))
 | _=>ab
def c_lenD{X:Cx}:zea X (.builtin "len") zi0:=⟨_,call_lenD,fun H0 F H vs es res Q fh hh r q k=>by
 unfold zi0 at q;split at q
 ·rename_i ks ds;cases q;obtain⟨v,rfl,rz⟩:=zcK r;cases (show Rep F v (.dic ks ds) from rz) with
  | dic e hl rs=>exact⟨_,_,rfl,.inr ⟨_,fh _ _ e⟩,k _ F H (Ex.refl fh) (by rw[fg,al,<- hl,gG];exact .int _)⟩
 ·cases q⟩
def prsD:List D->Option (List Str × List D)
 | []=>aa ([],[])
 | .tup [.str k,d] :: ds=>(prsD ds).map fun p=>(k :: p.1,d :: p.2)
 | _=>ab
def zil:List Ent->Option Ent
 | [x]=>(asL x).bind fun ds=>(prsD ds).bind fun p=>if p.1.Nodup then aa (.val (.dic p.1 p.2)) else ab
 | _=>ab
def prs_ok{K:ag}{F H:Hp}(fh:Same F H){ws:List V}{ds:List D}(r:Reps F ws ds):∀ {p:List Str × List D},prsD ds=aa p->∃ vs,PrVs K H (p.1.zip vs) ws/\p.1.length=vs.length/\Reps F vs p.2:=
 r.ind (P:=fun ws ds=>∀ {p:List Str × List D},prsD ds=aa p->∃ vs,PrVs K H (p.1.zip vs) ws/\p.1.length=vs.length/\Reps F vs p.2)
  (fun q=>by cases q;exact⟨[],.nil,rfl,.nil⟩) fun {v d ws ds} rv _ ih {p} q=>by
  unfold prsD at q;split at q
  ·rename_i h;cases h
  ·rename_i k d' ds' h;cases h;obtain⟨p',q1,rfl⟩:=map_some q;obtain⟨vs,h1,h2,h3⟩:=ih q1;cases rv with
   | tup e rs=>
    cases rs with
    | cons ra rb=>
     cases rb with
     | cons rc rd=>
      cases rd;cases ra;exact⟨_ :: vs,.cons (SqT.of (fh _ _ e)) h1,congrArg (· + 1) h2,.cons rc h3⟩
  ·cases q
def kvP_zip(ks:List Str)(vs:List V):kvP (ks.zip vs)=(ks.map bB).zip vs:=by
 unfold kvP
 induction ks generalizing vs with
 | nil=>rfl
 | cons k ks ih=>cases vs with
  | nil=>rfl
  | cons v vs=>exact congrArg _ (ih vs)
def zip_fst{α β:Type}:∀ {ks:List α} {vs:List β},ks.length=vs.length->(ks.zip vs).map (·.1)=ks
 | [],_,_=>rfl
 | k :: ks,[],h=>by cases h
 | k :: ks,v :: vs,h=>congrArg _ (zip_fst (iO h))
def c_dictP{X:Cx}(hc:X.calm=true:=by rfl):zea X (.type "dict") zil:=⟨_,ziL hc,fun H0 F H vs es res Q fh hh r q k=>by
 obtain⟨x,rfl⟩:=zes rfl (fun _ _ _=>rfl) q;obtain⟨v,rfl,rz⟩:=zcK r;obtain⟨ds,q1,q⟩:=bind_some q;obtain⟨p,q2,q⟩:=bind_some q;obtain⟨hn,q⟩:=zeJ q;cases q;obtain⟨l,ws,e',h1,h2⟩:=RepR.toL rz fh q1;subst e';obtain⟨us,h3,h4,h5⟩:=prs_ok (K:=X.K) fh h2 q2;refine⟨l,ws,_,rfl,h1,h3,by rw[zip_fst h4];exact hn,fun a o ha=>k _ _ _ (Ex.alloc fh ha) (.dic (o:=o) (ks:=p.1) (vs:=us) (by rw[<- kvP_zip];exact zai) h4 (h5.mono (Same.alloc (fh.free ha))))⟩⟩
end L3

namespace L3
def jqa{α β:Type}(a:α)(f:α->Option β):(aa a).bind f=f a:=rfl
def jqc{α β:Type}(a:α)(f:α->β):(aa a).map f=aa (f a):=rfl
def jqd{α β:Type}(f:α->β):(ab:Option α).map f=ab:=rfl
def jqe{α:Type}{a:α}{l:List α}:(a :: l)[0]? = aa a:=rfl
def jqf{α:Type}{a:α}{l:List α}{i:Nat}:(a :: l)[i+1]? = l[i]?:=rfl
def jqg{α:Type}{a b:α}{l:List α}:(a :: l).set 0 b=b :: l:=rfl
def jqh{α:Type}{a b:α}{l:List α}{i:Nat}:(a :: l).set (i+1) b=a :: l.set i b:=rfl
def jqi{α:Type}{a:α}{l m:List α}:(a :: l) ++ m=a :: (l ++ m):=rfl
def jqj{α:Type}(l:List α):[] ++ l=l:=rfl
def jqk{α:Type}(l:List α):l ++ []=l:=aY l
def jqn{α β:Type}{f:α->β}{a:α}{l:List α}:(a :: l).map f=f a :: l.map f:=rfl
def jqo{α β:Type}{f:α->β}:([]:List α).map f=[]:=rfl
def jqp{α:Type}{a:α}{l:List α}:(a :: l).length=l.length+1:=rfl
def jqq{α:Type}:([]:List α).length=0:=rfl
def jqr:(false=true)=False:=bx
def jqt:(!true)=false:=rfl
def jqu:(!false)=true:=rfl
def jqx{α:Type}(a:Option α):(aa a).join=a:=rfl
def jqy{h:Decidable True}:decide True=true:=decide_true h
def jqz{h:Decidable False}:decide False=false:=decide_false h
def jra{α:Type}{_:Decidable True}(a b:α):(if True then a else b)=a:=if_true a b
def jrb{α:Type}{_:Decidable False}(a b:α):(if False then a else b)=b:=if_false a b
def jrc(p:Prop):(p \/ True)=True:=or_true p
def jrd(p:Prop):(True \/ p)=True:=true_or p
def jre(p:Prop):(p/\True)=p:=and_true p
def jrf(p:Prop):(True/\p)=p:=true_and p
end L3

namespace CE
open PySem L2 L3
def oD:Option Int->D
 | none=>.non
 | some i=>.int i
def oD_s(i:Int):oD (aa i)=.int i:=rfl
def oD_n:oD ab=.non:=rfl
def stp(c:Option Int)(p:Int):Option Int:=if p=0 then ab else c.map (· + p)
def lw(cs:List (Option Int)):Option Int:=minI (cs.filterMap id)
def tc(fit:Nat->Nat->Bool)(c:Nat->Nat->Option Int)(i j:Nat):Option Int:=if 0<i/\0<j then (if (fit i (j - 1) && fit (i - 1) j)=true then c (i - 1) (j - 1) else ab) else ab
structure Pr where
 put:Int
 left:Int
 exch:Int
 turn:Int
def Pr.d(p:Pr):D:=.tup [.int p.put,.int p.left,.int p.exch,.int p.turn]
variable (fit:Nat->Nat->Bool)(p:Pr)(fr:Bool)
def cel:Nat->Nat->Option Int
 | 0,0=>aa 0
 | 0,j+1=>if fr=true then aa 0 else stp (cel 0 j) p.put
 | i+1,0=>stp (cel i 0) p.left
 | i+1,j+1=>lw [if fit i j=true then cel i j else stp (cel i j) p.exch,stp (cel (i+1) j) p.put,stp (cel i (j+1)) p.left,
   stp (if 0<i/\0<j then (if (fit i (j - 1) && fit (i - 1) j)=true then cel (i - 1) (j - 1) else ab) else ab) p.turn]
termination_by i j=>(i,j)
def zeO:cel fit p fr 0 0=aa 0:=by rw[cel]
def zfo(j:Nat):cel fit p fr 0 (j+1)=if fr=true then aa 0 else stp (cel fit p fr 0 j) p.put:=by rw[cel]
def zgk(i:Nat):cel fit p fr (i+1) 0=stp (cel fit p fr i 0) p.left:=by rw[cel]
def zd0(i j:Nat):cel fit p fr (i+1) (j+1)=lw [if fit i j=true then cel fit p fr i j else stp (cel fit p fr i j) p.exch,stp (cel fit p fr (i+1) j) p.put,stp (cel fit p fr i (j+1)) p.left,stp (tc fit (cel fit p fr) i j) p.turn]:=by
 rw[cel];rfl
end CE
namespace L3
open PySem L2
def zdK(P:List Str)(T:List Nat)(i j:Nat):Bool:=inS (mkS [T.getD j 0]) (P.getD i (mkS []))
end L3
namespace CE
open PySem L2 L3
def minI_mem:∀ {ns:List Int} {m:Int},minI ns=aa m->m ∈ ns
 | [],m,h=>by cases h
 | n :: ns,m,h=>by
  have h':ns.foldl (fun a b=>if b<a then b else a) n=m:=aM h;have key:∀ (ns:List Int) (n:Int),ns.foldl (fun a b=>if b<a then b else a) n=n \/ ns.foldl (fun a b=>if b<a then b else a) n ∈ ns:=by
   intro ns
   induction ns with
   | nil=>intro n;left;rfl
   | cons b ns ih=>
    intro n;rw[c9];rcases ih (if b<n then b else n) with q | q
    ·rw[q];split
     ·right;exact am
     ·left;rfl
    ·right;exact aj _ q
  rcases key ns n with q | q
  ·rw[<- h',q];exact am
  ·rw[<- h'];exact aj _ q
def minI_le:∀ {ns:List Int} {c:Int},c ∈ ns->∃ m,minI ns=aa m/\m<=c
 | [],c,h=>by cases h
 | n :: ns,c,h=>by
  refine⟨_,rfl,?_⟩;have key:∀ (ns:List Int) (n:Int),ns.foldl (fun a b=>if b<a then b else a) n<=n/\∀ c ∈ ns,ns.foldl (fun a b=>if b<a then b else a) n<=c:=by
   intro ns
   induction ns with
   | nil=>intro n;exact⟨fN _,by simp⟩
   | cons b ns ih=>
    intro n;rw[c9];obtain⟨h1,h2⟩:=ih (if b<n then b else n);have h3:(if b<n then b else n)<=n/\(if b<n then b else n)<=b:=by split <;> lia
    refine⟨by lia,fun c hc=>?_⟩;rcases az.mp hc with rfl | hc
    ·lia
    ·exact h2 c hc
  rcases az.mp h with rfl | h
  ·exact(key ns _).1
  ·exact(key ns n).2 c h
def lw_mem{cs:List (Option Int)}{m:Int}(h:lw cs=aa m):aa m ∈ cs:=by
 have:=minI_mem h;obtain⟨x,h1,h2⟩:=d5.mp this;have:x=aa m:=h2;rw[<- this];exact h1
def zg9{cs:List (Option Int)}{c:Int}(h:aa c ∈ cs):∃ m,lw cs=aa m/\m<=c:=minI_le (d5.mpr ⟨aa c,h,rfl⟩)
def zdy{c:Option Int}{q m:Int}(h:stp c q=aa m):q ≠ 0/\∃ a,c=aa a/\m=a+q:=by
 unfold stp at h;split at h
 ·cases h
 ·rename_i hq;cases c with
  | none=>cases h
  | some a=>exact⟨hq,a,rfl,(aM h).symm⟩
def zfp{a q:Int}(hq:q ≠ 0):stp (aa a) q=aa (a+q):=by unfold stp;rw[if_neg hq];rfl
inductive Ld(fit:Nat->Nat->Bool)(p:Pr)(fr:Bool):Nat->Nat->Int->Prop
 | nil:Ld fit p fr 0 0 0
 | free {j:Nat}:fr=true->Ld fit p fr 0 j 0
 | same {i j:Nat} {c:Int}:Ld fit p fr i j c->fit i j=true->Ld fit p fr (i+1) (j+1) c
 | exch {i j:Nat} {c:Int}:Ld fit p fr i j c->fit i j=false->p.exch ≠ 0->Ld fit p fr (i+1) (j+1) (c+p.exch)
 | put {i j:Nat} {c:Int}:Ld fit p fr i j c->p.put ≠ 0->Ld fit p fr i (j+1) (c+p.put)
 | left {i j:Nat} {c:Int}:Ld fit p fr i j c->p.left ≠ 0->Ld fit p fr (i+1) j (c+p.left)
 | turn {i j:Nat} {c:Int}:Ld fit p fr i j c->fit (i+1) j=true->fit i (j+1)=true->p.turn ≠ 0->Ld fit p fr (i+2) (j+2) (c+p.turn)
structure Pr.Ok(p:Pr):Prop where
 put:0<=p.put
 left:0<=p.left
 exch:0<=p.exch
 turn:0<=p.turn
variable {fit:Nat->Nat->Bool}{p:Pr}{fr:Bool}
def Ld.nonneg(hp:p.Ok){i j:Nat}{c:Int}(h:Ld fit p fr i j c):0<=c:=by
 have:=hp.put;have:=hp.left;have:=hp.exch;have:=hp.turn
 induction h <;> lia
def cel_ld:∀ (n i j:Nat),i+j=n->∀ m,cel fit p fr i j=aa m->Ld fit p fr i j m:=by
 intro n
 induction n using js with
 | _ n ih=>
  intro i j hn m h;cases i with
  | zero=>
   cases j with
   | zero=>rw[zeO] at h;cases h;exact .nil
   | succ j=>
    rw[zfo] at h;split at h
    ·rename_i hf;cases h;exact .free hf
    ·obtain⟨hq,a,e1,rfl⟩:=zdy h;exact .put (ih j (by lia) 0 j (by lia) a e1) hq
  | succ i=>
   cases j with
   | zero=>
    rw[zgk] at h;obtain⟨hq,a,e1,rfl⟩:=zdy h;exact .left (ih i (by lia) i 0 (by lia) a e1) hq
   | succ j=>
    rw[zd0] at h;have hm:=lw_mem h;simp only[az,bW,or_false] at hm;rcases hm with hm | hm | hm | hm
    ·by_cases hf:fit i j=true
     ·rw[if_pos hf] at hm;exact .same (ih (i+j) (by lia) i j rfl m hm.symm) hf
     ·rw[if_neg hf] at hm;obtain⟨hq,a,e1,rfl⟩:=zdy hm.symm;exact .exch (ih (i+j) (by lia) i j rfl a e1) (by simpa using hf) hq
    ·obtain⟨hq,a,e1,rfl⟩:=zdy hm.symm;exact .put (ih (i+1+j) (by lia) (i+1) j rfl a e1) hq
    ·obtain⟨hq,a,e1,rfl⟩:=zdy hm.symm;exact .left (ih (i+(j+1)) (by lia) i (j+1) rfl a e1) hq
    ·obtain⟨hq,a,e1,rfl⟩:=zdy hm.symm;unfold tc at e1;split at e1
     ·rename_i hij;split at e1
      ·rename_i hf;rw[de] at hf;obtain⟨i',rfl⟩:∃ i',i=i'+1:=⟨i - 1,by lia⟩;obtain⟨j',rfl⟩:∃ j',j=j'+1:=⟨j - 1,by lia⟩;simp only[d9] at e1 hf;exact .turn (ih (i'+j') (by lia) i' j' rfl a e1) hf.1 hf.2 hq
      ·cases e1
     ·cases e1
def zhL(hp:p.Ok){i j:Nat}{c:Int}(h:Ld fit p fr i j c):∃ m,cel fit p fr i j=aa m/\m<=c:=by
 have q1:=hp.put;have q2:=hp.left;have q3:=hp.exch;have q4:=hp.turn
 induction h with
 | nil=>exact⟨0,zeO ..,fN _⟩
 | @free j hf=>
  cases j with
  | zero=>exact⟨0,zeO ..,fN _⟩
  | succ j=>exact⟨0,by rw[zfo,if_pos hf],fN _⟩
 | @same i j c h hf ih=>
  obtain⟨m,e,hm⟩:=ih;obtain⟨m',e',hm'⟩:=zg9 (cs:=[if fit i j=true then cel fit p fr i j else stp (cel fit p fr i j) p.exch,stp (cel fit p fr (i+1) j) p.put,stp (cel fit p fr i (j+1)) p.left,stp (tc fit (cel fit p fr) i j) p.turn]) (c:=m) (by rw[if_pos hf,e];simp);exact⟨m',by rw[zd0];exact e',by lia⟩
 | @exch i j c h hf hq ih=>
  obtain⟨m,e,hm⟩:=ih;obtain⟨m',e',hm'⟩:=zg9 (cs:=[if fit i j=true then cel fit p fr i j else stp (cel fit p fr i j) p.exch,stp (cel fit p fr (i+1) j) p.put,stp (cel fit p fr i (j+1)) p.left,stp (tc fit (cel fit p fr) i j) p.turn]) (c:=m+p.exch) (by rw[if_neg (by rw[hf];decide),e,zfp hq];simp);exact⟨m',by rw[zd0];exact e',by lia⟩
 | @put i j c h hq ih=>
  obtain⟨m,e,hm⟩:=ih;cases i with
  | zero=>
   rw[zfo];cases fr with
   | true=>
    have:=Ld.nonneg hp h;exact⟨0,rfl,by lia⟩
   | false=>exact⟨m+p.put,by rw[if_neg (by decide),e,zfp hq],by lia⟩
  | succ i=>
   obtain⟨m',e',hm'⟩:=zg9 (cs:=[if fit i j=true then cel fit p fr i j else stp (cel fit p fr i j) p.exch,stp (cel fit p fr (i+1) j) p.put,stp (cel fit p fr i (j+1)) p.left,stp (tc fit (cel fit p fr) i j) p.turn]) (c:=m+p.put) (by rw[e,zfp hq];simp);exact⟨m',by rw[zd0];exact e',by lia⟩
 | @left i j c h hq ih=>
  obtain⟨m,e,hm⟩:=ih;cases j with
  | zero=>exact⟨m+p.left,by rw[zgk,e,zfp hq],by lia⟩
  | succ j=>
   obtain⟨m',e',hm'⟩:=zg9 (cs:=[if fit i j=true then cel fit p fr i j else stp (cel fit p fr i j) p.exch,stp (cel fit p fr (i+1) j) p.put,stp (cel fit p fr i (j+1)) p.left,stp (tc fit (cel fit p fr) i j) p.turn]) (c:=m+p.left) (by rw[e,zfp hq];simp);exact⟨m',by rw[zd0];exact e',by lia⟩
 | @turn i j c h hf1 hf2 hq ih=>
  obtain⟨m,e,hm⟩:=ih;have ht:tc fit (cel fit p fr) (i+1) (j+1)=aa m:=by
   unfold tc;rw[if_pos ⟨by lia,by lia⟩,d9,d9,hf1,hf2];exact e
  obtain⟨m',e',hm'⟩:=zg9 (cs:=[if fit (i+1) (j+1)=true then cel fit p fr (i+1) (j+1) else stp (cel fit p fr (i+1) (j+1)) p.exch,stp (cel fit p fr (i+1+1) (j+1)) p.put,stp (cel fit p fr (i+1) (j+1+1)) p.left,stp (tc fit (cel fit p fr) (i+1) (j+1)) p.turn]) (c:=m+p.turn) (by rw[ht,zfp hq];simp);exact⟨m',by rw[zd0];exact e',by lia⟩
def zer(hp:p.Ok){i j:Nat}{m:Int}(h:cel fit p fr i j=aa m):Ld fit p fr i j m/\∀ c,Ld fit p fr i j c->m<=c:=
 ⟨cel_ld _ i j rfl m h,fun c hc=>by obtain⟨m',e,hm⟩:=zhL hp hc;rw[h] at e;cases e;exact hm⟩
def Ld.swap{fit':Nat->Nat->Bool}{n m:Nat}(hf:∀ i j,i<n->j<m->fit' j i=fit i j)(hpl:p.put=p.left){i j:Nat}{c:Int}(h:Ld fit p false i j c):i<=n->j<=m->Ld fit' p false j i c:=by
 induction h with
 | nil=>intro _ _;exact .nil
 | free h=>cases h
 | same h hs ih=>intro h1 h2;exact .same (ih (by lia) (by lia)) (by rw[hf _ _ (by lia) (by lia)];exact hs)
 | exch h hs hq ih=>intro h1 h2;exact .exch (ih (by lia) (by lia)) (by rw[hf _ _ (by lia) (by lia)];exact hs) hq
 | put h hq ih=>intro h1 h2;have:=Ld.left (ih (by lia) (by lia)) (by rw[<- hpl];exact hq);rwa [<- hpl] at this
 | left h hq ih=>intro h1 h2;have:=Ld.put (ih (by lia) (by lia)) (by rw[hpl];exact hq);rwa [hpl] at this
 | turn h hs1 hs2 hq ih=>intro h1 h2;exact .turn (ih (by lia) (by lia)) (by rw[hf _ _ (by lia) (by lia)];exact hs2) (by rw[hf _ _ (by lia) (by lia)];exact hs1) hq
def Ld.zero(hp:p.Ok){i j:Nat}{c:Int}(h:Ld fit p false i j c):c=0->i=j/\∀ a,a<i->fit a a=true:=by
 have q1:=hp.put;have q2:=hp.left;have q3:=hp.exch;have q4:=hp.turn
 induction h with
 | nil=>intro _;exact⟨rfl,fun a h=>by lia⟩
 | free h=>cases h
 | @same i j c h hs ih=>
  intro e;obtain⟨e1,e2⟩:=ih e;subst e1;refine⟨rfl,fun a ha=>?_⟩;by_cases ha':a<i
  ·exact e2 a ha'
  ·rw[show a=i by lia];exact hs
 | exch h hs hq ih=>intro e;have:=Ld.nonneg hp h;lia
 | put h hq ih=>intro e;have:=Ld.nonneg hp h;lia
 | left h hq ih=>intro e;have:=Ld.nonneg hp h;lia
 | turn h _ _ hq ih=>intro e;have:=Ld.nonneg hp h;lia
def Ld.diag:∀ (n:Nat),(∀ a,a<n->fit a a=true)->Ld fit p fr n n 0
 | 0,_=>.nil
 | n+1,h=>.same (Ld.diag n fun a ha=>h a (by lia)) (h n (by lia))
end CE
namespace CE
open PySem L2 L3
def inS_one(c:Nat)(z:Str):inS (mkS [c]) z=decide (c ∈ z.cps.toList):=StrLaws.found_one z c
def wP(w:List Nat):List Str:=w.map fun c=>mkS [c]
def wP_len(w:List Nat):(wP w).length=w.length:=by simp[wP]
def zgX{w t:List Nat}{i j:Nat}(hi:i<w.length)(hj:j<t.length):zdK (wP w) t i j=decide (t[j]=w[i]):=by
 unfold zdK wP;have e1:(w.map fun c=>mkS [c]).getD i (mkS [])=mkS [w[i]]:=by simp[hi]
 have e2:t.getD j 0=t[j]:=by simp[hj]
 rw[e1,e2,inS_one,zej];simp
def fit_swap(w t:List Nat):∀ i j,i<w.length->j<t.length->zdK (wP t) w j i=zdK (wP w) t i j:=fun i j hi hj=>by
 rw[zgX hi hj,zgX hj hi];simp[eq_comm]
def diag_eq{w t:List Nat}(h:w.length=t.length)(hf:∀ a,a<w.length->zdK (wP w) t a a=true):w=t:=by
 apply dy h;intro i h1 h2;have:=hf i h1;rw[zgX h1 h2] at this;exact(of_decide_eq_true this).symm
def diag_self(w:List Nat):∀ a,a<w.length->zdK (wP w) w a a=true:=fun a ha=>by
 rw[zgX ha ha];simp
def wd(p:Pr)(w t:List Nat):Option Int:=cel (zdK (wP w) t) p false w.length t.length
def wd_self{p:Pr}(hp:p.Ok)(w:List Nat):wd p w w=aa 0:=by
 obtain⟨m,e,hm⟩:=zhL hp (Ld.diag (fit:=zdK (wP w) w) (p:=p) (fr:=false) w.length (diag_self w));have:=Ld.nonneg hp (zer hp e).1;unfold wd;rw[e,show m=0 by lia]
def wd_swap{p:Pr}(hp:p.Ok)(hpl:p.put=p.left)(w t:List Nat):wd p t w=wd p w t:=by
 have key:∀ (w t:List Nat) (m:Int),wd p w t=aa m->∃ m',wd p t w=aa m'/\m'<=m:=fun w t m h=>by
  have h1:=(zer hp h).1;exact zhL hp (h1.swap (fit':=zdK (wP t) w) (n:=w.length) (m:=t.length) (fit_swap w t) hpl (au _) (au _))
 cases h1:wd p w t with
 | none=>
  cases h2:wd p t w with
  | none=>rfl
  | some m=>obtain⟨m',e,_⟩:=key t w m h2;rw[h1] at e;cases e
 | some m=>
  obtain⟨m',e,hm⟩:=key w t m h1;obtain⟨m'',e',hm'⟩:=key t w m' e;rw[h1] at e';cases e';rw[e,show m'=m by lia]
def wd_zero{p:Pr}(hp:p.Ok){w t:List Nat}(h:wd p w t=aa 0):w=t:=by
 obtain⟨e,hf⟩:=((zer hp h).1).zero hp rfl;exact diag_eq e hf
def wd_nonneg{p:Pr}(hp:p.Ok){w t:List Nat}{m:Int}(h:wd p w t=aa m):0<=m:=Ld.nonneg hp (zer hp h).1
end CE
namespace CE
open PySem L2 L3
def Ld.comp{f1 f2 f3:Nat->Nat->Bool}{p:Pr}{n m l:Nat}(hp:p.Ok)(h0:p.turn=0)(hf:∀ i j k,i<n->j<m->k<l->f1 i j=true->f2 j k=true->f3 i k=true) :
  ∀ (s i j k:Nat) (c1 c2:Int),i+j+k=s->i<=n->j<=m->k<=l->Ld f1 p false i j c1->Ld f2 p false j k c2->∃ c,Ld f3 p false i k c/\c<=c1+c2:=by
 have q1:=hp.put;have q2:=hp.left;have q3:=hp.exch;intro s
 induction s using js with
 | _ s ih=>
  intro i j k c1 c2 hs hi hj hk h1 h2;have step:∀ {i j k:Nat} {c1 c2:Int},i+1<=n->j+1<=m->k+1<=l->i+1+(j+1)+(k+1)=s->Ld f1 p false i j c1->Ld f2 p false j k c2->p.exch ≠ 0->∃ c,Ld f3 p false (i+1) (k+1) c/\c<=c1+c2+p.exch:=fun {i j k c1 c2} hi hj hk hs h1 h2 hq=>by
   obtain⟨c,h,hc⟩:=ih (i+j+k) (by lia) i j k c1 c2 rfl (by lia) (by lia) (by lia) h1 h2;cases hx:f3 i k with
   | true=>exact⟨c,.same h hx,by lia⟩
   | false=>exact⟨_,.exch h hx hq,by lia⟩
  cases h1 with
  | @left i j c h hq=>
   obtain⟨c3,h3,hc⟩:=ih (i+j+k) (by lia) i j k c c2 rfl (by lia) hj hk h h2;exact⟨_,.left h3 hq,by lia⟩
  | turn h _ _ hq=>exact absurd h0 hq
  | free h=>cases h
  | nil=>
   cases h2 with
   | nil=>exact⟨0,.nil,by lia⟩
   | free h=>cases h
   | @put _ k c h hq=>
    obtain⟨c3,h3,hc⟩:=ih (0+0+k) (by lia) 0 0 k 0 c rfl hi hj (by lia) .nil h;exact⟨_,.put h3 hq,by lia⟩
  | @same i j _ h hx=>
   cases h2 with
   | @same _ k c2 h2 hy=>
    obtain⟨c3,h3,hc⟩:=ih (i+j+k) (by lia) i j k c1 c2 rfl (by lia) (by lia) (by lia) h h2;exact⟨c3,.same h3 (hf i j k (by lia) (by lia) (by lia) hx hy),by lia⟩
   | @exch _ k c2 h2 hy hq=>
    obtain⟨c3,h3,hc⟩:=step (by lia) (by lia) (by lia) (by lia) h h2 hq;exact⟨c3,h3,by lia⟩
   | @put _ k c2 h2 hq=>
    obtain⟨c3,h3,hc⟩:=ih (i+1+(j+1)+k) (by lia) (i+1) (j+1) k c1 c2 rfl (by lia) (by lia) (by lia) (.same h hx) h2;exact⟨_,.put h3 hq,by lia⟩
   | @left _ _ c2 h2 hq=>
    obtain⟨c3,h3,hc⟩:=ih (i+j+k) (by lia) i j k c1 c2 rfl (by lia) (by lia) (by lia) h h2;exact⟨_,.left h3 hq,by lia⟩
   | turn h _ _ hq=>exact absurd h0 hq
  | @exch i j c h hx hq1=>
   cases h2 with
   | @same _ k c2 h2 hy=>
    obtain⟨c3,h3,hc⟩:=step (by lia) (by lia) (by lia) (by lia) h h2 hq1;exact⟨c3,h3,by lia⟩
   | @exch _ k c2 h2 hy hq=>
    obtain⟨c3,h3,hc⟩:=step (by lia) (by lia) (by lia) (by lia) h h2 hq;exact⟨c3,h3,by lia⟩
   | @put _ k c2 h2 hq=>
    obtain⟨c3,h3,hc⟩:=ih (i+1+(j+1)+k) (by lia) (i+1) (j+1) k (c+p.exch) c2 rfl (by lia) (by lia) (by lia) (.exch h hx hq1) h2;exact⟨_,.put h3 hq,by lia⟩
   | @left _ _ c2 h2 hq=>
    obtain⟨c3,h3,hc⟩:=ih (i+j+k) (by lia) i j k c c2 rfl (by lia) (by lia) (by lia) h h2;exact⟨_,.left h3 hq,by lia⟩
   | turn h _ _ hq=>exact absurd h0 hq
  | @put i j c h hq1=>
   cases h2 with
   | @same _ k c2 h2 hy=>
    obtain⟨c3,h3,hc⟩:=ih (i+j+k) (by lia) i j k c c2 rfl (by lia) (by lia) (by lia) h h2;exact⟨_,.put h3 hq1,by lia⟩
   | @exch _ k c2 h2 hy hq=>
    obtain⟨c3,h3,hc⟩:=ih (i+j+k) (by lia) i j k c c2 rfl (by lia) (by lia) (by lia) h h2;exact⟨_,.put h3 hq1,by lia⟩
   | @put _ k c2 h2 hq=>
    obtain⟨c3,h3,hc⟩:=ih (i+(j+1)+k) (by lia) i (j+1) k (c+p.put) c2 rfl (by lia) (by lia) (by lia) (.put h hq1) h2;exact⟨_,.put h3 hq,by lia⟩
   | @left _ _ c2 h2 hq=>
    obtain⟨c3,h3,hc⟩:=ih (i+j+k) (by lia) i j k c c2 rfl (by lia) (by lia) (by lia) h h2;exact⟨c3,h3,by lia⟩
   | turn h _ _ hq=>exact absurd h0 hq
def wd_tri{p:Pr}(hp:p.Ok)(h0:p.turn=0){u v w:List Nat}{a b:Int}(h1:wd p u v=aa a)(h2:wd p v w=aa b):∃ c,wd p u w=aa c/\c<=a+b:=by
 obtain⟨c,h,hc⟩:=Ld.comp (f3:=zdK (wP u) w) (n:=u.length) (m:=v.length) (l:=w.length) hp h0 (fun i j k hi hj hk h1 h2=>by
  rw[zgX hi hj] at h1;rw[zgX hj hk] at h2;rw[zgX hi hk,of_decide_eq_true h2,of_decide_eq_true h1];simp) _ _ _ _ a b rfl (au _) (au _) (au _) (zer hp h1).1 (zer hp h2).1
 obtain⟨m,e,hm⟩:=zhL hp h;exact⟨m,e,by lia⟩
end CE
namespace L3
open PySem L2
def fSeqR{f g:FS}{δ δ':En}{e:Ent}(h:f δ=aa (.rt e δ')):zaX f g δ=aa (.rt e δ'):=by unfold zaX;rw[h];rfl
def zen{fe:FE}{δ:En}{d:D}(h:fe δ=aa (.val d)):zb2 fe δ=aa (.rt (.val d) δ):=by unfold zb2;rw[h];rfl
def eAndI{e f:FE}{δ:En}{a b:Bool}(h1:e δ=aa (.val (.bl a)))(h2:f δ=aa (.val (.bl b))):eAnd e f δ=aa (.val (.bl (a && b))):=by
 cases a <;> simp only[eAnd,h1,jqa,bOf,h2,jqr,jrb,ju,jra,Bool.true_and]
def zdE{i:Nat}{e:FE}{r:FS}{δ:En}{v:D}(h:e δ=aa (.val v)):zaX (zcr i e) r δ=r (δ.set i (aa (.val v))):=by
 simp only[zaX,zcr,h,aL,sqO,stE,toN,bS]
def notI{X:FE}{δ:En}{b:Bool}(h:X δ=aa (.val (.bl b))):fNot (tOf X) δ=aa (!b):=by simp only[fNot,tOf,h,jqa,bOf,jqc]
def zeZ{i:Nat}{e:FE}{δ:En}{v:D}(h:e δ=aa (.val v)):zcr i e δ=aa (.nx (δ.set i (aa (.val v)))):=by unfold zcr;rw[h];rfl
def addI{E F:FE}{δ:En}{a b:Int}(h1:E δ=aa (.val (.int a)))(h2:F δ=aa (.val (.int b))):ex2 zcw E F δ=aa (.val (.int (a+b))):=by simp only[ex2,h1,h2,zcw,pI0,iOf,jqa,jqc]
def eqII{E F:FE}{δ:En}{a b:Int}(h1:E δ=aa (.val (.int a)))(h2:F δ=aa (.val (.int b))):ex2 gEq E F δ=aa (.val (.bl (decide (a=b)))):=by simp only[ex2,h1,h2,gEq,jqa,zc3,jqc]
def lenZ{E:FE}{δ:En}{z:Str}{n:Nat}(h:E δ=aa (.val (.str z)))(hn:z.length=n)(hl:n<=1000000):eCB zdM (zaa E zae) δ=aa (.val (.int (n:Int))):=by subst hn;simp only[eCB,zaa,h,zae,jqc,jqa,zdM,sOf,hl,zbr,zah]
def forN{it:FI}{tg:FG}{f r:FS}{δ δ':En}{ds:List D}(h:it δ=aa ds)(hl:loop tg f ds δ=aa (.nx δ')):zaX (zfW it tg f) r δ=r δ':=zaI (by unfold zfW;rw[h];exact hl)
def subI{E F:FE}{δ:En}{a b:Int}(h1:E δ=aa (.val (.int a)))(h2:F δ=aa (.val (.int b))):ex2 ziz E F δ=aa (.val (.int (a - b))):=by simp only[ex2,h1,h2,ziz,pI0,iOf,jqa,jqc]
def ziK{i:Nat}{e:FE}{δ:En}{ds:List D}{v:D}(h0:δ[i]? = aa (aa (.own ds)))(h:e δ=aa (.val v))(hl:ds.length<1000000):zhb i e δ=aa (.nx (δ.set i (aa (.own (ds ++ [v]))))):=by
 unfold zhb;rw[h0,h];simp (disch:=omega) only[jqa,asV,zbr,zah]
def modI{E F:FE}{δ:En}{a b:Int}(h1:E δ=aa (.val (.int a)))(h2:F δ=aa (.val (.int b)))(hb:0<b):ex2 zcl E F δ=aa (.val (.int (a % b))):=by simp (disch:=omega) only[ex2,h1,h2,zcl,pI,iOf,jqa,zc6,zah]
def divI{E F:FE}{δ:En}{a b:Int}(h1:E δ=aa (.val (.int a)))(h2:F δ=aa (.val (.int b)))(hb:0<b/\b<1000000):ex2 zgi E F δ=aa (.val (.int (a / b))):=by simp (disch:=omega) only[ex2,h1,h2,zgi,pI,iOf,jqa,zfC,zah]
def eqTT{E F:FE}{δ:En}{a b:Int}(h1:E δ=aa (.val (.int a)))(h2:F δ=aa (.val (.int b))):tOf (ex2 gEq E F) δ=aa (decide (a=b)):=by by_cases e:a=b <;> simp only[tOf,ex2,h1,e,h2,gEq,jqa,zc3,jqy,jqc,bOf,jqz]
def ixLB{E F:FE}{δ:En}{ds:List D}{a:Int}{v:D}(h1:E δ=aa (.bor ds))(h2:F δ=aa (.val (.int a)))(h:atI ds a=aa v):ex2 zca E F δ=aa (.val v):=by simp only[ex2,h1,h2,zca,asL,iOf,jqa,h,jqc]
def orLt{X Y:FE}{δ:En}{a b c:Int}(hX:X δ=aa (.val (.int a)))(hY:Y δ=aa (.val (.int b))):fOr (tOf (ex2 gLt X (eC (.int c)))) (tOf (ex2 gLt Y (eC (.int c)))) δ=aa (decide (a<c \/ b<c)):=by
 by_cases c1:a<c
 ·simp only[fOr,tOf,ex2,hX,eC,gLt,pI0,iOf,jqa,jqc,c1,jqy,bOf,jra,jrd]
 ·by_cases c2:b<c <;> simp only[fOr,tOf,ex2,hX,eC,gLt,pI0,iOf,jqa,jqc,c1,jqz,bOf,hY,c2,jqy,jqr,jrb,jrc,or_self]
def orB{X Y:FE}{δ:En}{a b:Bool}(hX:X δ=aa (.val (.bl a)))(hY:Y δ=aa (.val (.bl b))):fOr (tOf X) (tOf Y) δ=aa (a || b):=by
 cases a <;> simp only[fOr,tOf,hX,jqa,bOf,hY,jqr,jrb,Bool.false_or,jra,Bool.true_or]
def zh9{E F:FE}{δ:En}{ds:List D}{a:Int}{v:D}(h1:E δ=aa (.val (.tup ds)))(h2:F δ=aa (.val (.int a)))(h:atI ds a=aa v):ex2 zc9 E F δ=aa (.val v):=by simp only[ex2,h1,h2,zc9,ze4,iOf,jqa,h,jqc]
def ixSS{E F:FE}{δ:En}{tx:List Nat}{a:Int}{t:Nat}(h1:E δ=aa (.val (.str (mkS tx))))(hl:tx.length<=1000000)(h2:F δ=aa (.val (.int a)))(h:atI tx a=aa t):ex2 zjd E F δ=aa (.val (.str (mkS [t]))):=by simp only[ex2,h1,h2,zjd,sOf,iOf,jqa,zb9,hl,zbr,zej,h,jqc,zah]
def inSS{E F:FE}{δ:En}{z w:Str}(h1:E δ=aa (.val (.str z)))(h2:F δ=aa (.val (.str w))):ex2 gInS E F δ=aa (.val (.bl (inS z w))):=by simp only[ex2,h1,h2,gInS,sOf,jqa,jqc]
def niSS{E F:FE}{δ:En}{z w:Str}(h1:E δ=aa (.val (.str z)))(h2:F δ=aa (.val (.str w))):ex2 gNiS E F δ=aa (.val (.bl (!inS z w))):=by simp only[ex2,h1,h2,gNiS,sOf,jqa,jqc]
def low4{A B C E:FE}{δ:En}{a b c d:D}{g:List D->Option Ent}(hA:A δ=aa (.val a))(hB:B δ=aa (.val b))(hC:C δ=aa (.val c))(hE:E δ=aa (.val d)):zaM [.v] g (zaa (zcN (zaa A (zaa B (zaa C (zaa E zae))))) zae) δ=g [.lst [a,b,c,d]]:=by simp only[zaM,zaa,zcN,hA,hB,hC,hE,zae,jqc,jqa,jqp,jqq,Nat.reduceLeDiff,ze5,asV,jra,zbF,ze9]
def zfa{X Y:FE}{δ:En}{a b:D}{g:List D->Option Ent}(hX:X δ=aa (.val a))(hY:Y δ=aa (.val b)):zaM [.v,.v] g (zaa X (zaa Y zae)) δ=g [a,b]:=by
 unfold zaM zaa zae;rw[hX];simp only[aL];rw[hY];rfl
def eIfI{A B C:FE}{δ:En}{q:Bool}{a b:D}(hA:A δ=aa (.val (.bl q)))(hB:B δ=aa (.val a))(hC:C δ=aa (.val b)):eIf (tOf A) B C δ=aa (.val (if q=true then a else b)):=by
 cases q <;> simp only[eIf,tOf,hA,jqa,bOf,hB,hC,jqr,jrb,jra]
def zdg{i:Nat}{e:FE}{δ:En}{ds:List D}(h:e δ=aa (.own ds)):zcr i e δ=aa (.nx (δ.set i (aa (.own ds)))):=by unfold zcr;rw[h];rfl
def ixLW{E F:FE}{δ:En}{ds:List D}{a:Int}{v:D}(h1:E δ=aa (.vw ds))(h2:F δ=aa (.val (.int a)))(h:atI ds a=aa v):ex2 zca E F δ=aa (.val v):=by simp only[ex2,h1,h2,zca,asL,iOf,jqa,h,jqc]
def eLst1{E:FE}{δ:En}{v:D}(h:E δ=aa (.val v)):zcN (zaa E zae) δ=aa (.own [v]):=by unfold zcN zaa zae;rw[h];rfl
end L3

namespace N53
open PySem L2 L3 PyProof.Rows
noncomputable section
def zcD:FE:=
  (ex2 zc9 (zab 0) (zab 1))
def zdp:FS:=
  (zb2 (eCB zep (zaa (eLC [1] (iB 0) zc8 zcD) zae)))
def zck:List D->Option Ent:=zcS [.b,.v] 0 zdp
def zaP:FS:=
  (zaX (fIf (fOr (tOf (ex2 gLt (zab 3) (eC (.int 2)))) (tOf (ex2 gLt (eCB zdM (zaa (zab 2) zae)) (eC (.int 2))))) (zb2 (eC .non)) fNx)
   (zaX (fIf (fOr (tOf (ex2 gNiS (ex2 zjd (zab 2) (ex1 zhw (eC (.int 2)))) (ex2 zc9 (zab 1) (ex2 ziz (zab 3) (eC (.int 1)))))) (tOf (ex2 gNiS (ex2 zjd (zab 2) (ex1 zhw (eC (.int 1)))) (ex2 zc9 (zab 1) (ex2 ziz (zab 3) (eC (.int 2))))))) (zb2 (eC .non)) fNx)
   (zb2 (ex2 zc9 (ex2 zca (zab 0) (ex1 zhw (eC (.int 2)))) (ex2 ziz (zab 3) (eC (.int 2)))))))
def zaQ:List D->Option Ent:=zcS [.b,.v,.v,.v] 0 zaP
def zds:FS:=
  (zaX (fIf (fOr (tOf (ex2 ziC (zab 0) (eC .non))) (tOf (ex2 gEq (zab 1) (eC (.int 0))))) (zb2 (eC .non)) fNx)
   (zb2 (ex2 zcw (zab 0) (zab 1))))
def zbc:List D->Option Ent:=zcS [.v,.v] 0 zds
def zdT:FE:=
  (zab 0)
def zdR:FT:=
  (tOf (ex2 gNoN (zab 0) (eC .non)))
def zfU:FS:=
  (zb2 (ex2 gMinD (eLC [] (qV (zab 0)) zdR zdT) (eC .non)))
def zdA:List D->Option Ent:=zcS [.v] 0 zfU
def zdo:FS:=
  (zb2 (eCB gTupS (zaa (zab 0) zae)))
def zcf:List D->Option Ent:=zcS [.v] 0 zdo
def zaV(kC:Str->af):FE:=
  (ex2 gDxI (ex1 (zbR (kC "Knot") ["word","branches"] 1) (zab 1)) (zab 0))
def zaW(kC:Str->af):FT:=
  (tOf (ex2 gLe (eCB gAbs (zaa (ex2 ziz (zab 0) (zab 3)) zae)) (zab 2)))
def zcn(kC:Str->af):FS:=
  (zb2 (eLC [0,2,1] (iDi (ex1 (zbR (kC "Knot") ["word","branches"] 1) (zab 0))) (zaW kC) (zaV kC)))
def za0(kC:Str->af):List D->Option Ent:=zcS [.v,.v,.v] 0 (zcn kC)
def zbG:FE:=
  (ex2 zfb (zab 0) (eCB zdf (zaa (ex2 gGe (zab 0) (ex2 gPow (eC (.int 10)) (eC (.int 18)))) zae)))
def zbI:FS:=
  (zaX (zcr 6 (ex2 zcl (zab 5) (eCB zbJ (zaa (zab 2) zae))))
   (zaX (zcr 7 (ex2 zcw (ex2 zfb (ex2 zcl (ex2 zcw (ex2 zcw (ex2 zca (zab 2) (zab 6)) (ex2 zfb (ex2 zfb (zab 5) (zab 5)) (eC (.int 16807)))) (ex2 zfb (eC (.int 3)) (zab 5))) (eC (.int 2147483629))) (ex2 zca (zcN (zaa (eC (.int 48271)) (zaa (eC (.int 69621)) (zaa (eC (.int 39373)) (zaa (eC (.int 16807)) zae))))) (ex2 zcl (zab 5) (eC (.int 4))))) (eC (.int 7))))
   (zaX (zhb 4 (ex2 zca (zcN (zaa (ex2 zcl (ex2 zfb (zab 7) (zab 7)) (eC (.int 2147483629))) (zaa (ex2 zcl (ex2 zca (zab 3) (zab 6)) (ex2 gPow (eC (.int 10)) (eC (.int 18)))) zae))) (eCB zdf (zaa (ex2 gNe (ex2 zca (zab 3) (zab 6)) (eC (.int 0))) zae))))
   (fSIx 3 (zab 6) (ex2 gDivB (ex2 zca (zab 3) (zab 6)) (ex2 gPow (eC (.int 10)) (eC (.int 18))))))))
def zc5:FS:=
  (zaX (zcr 2 (ex2 gCat (eCB zdb (zaa (zab 0) zae)) (ex2 gRep (zcN (zaa (eC (.int 0)) zae)) (eCB zdf (zaa (ex2 gEq (eCB zbJ (zaa (zab 0) zae)) (eC (.int 0))) zae)))))
   (fFrz 2 (zaX (zcr 3 (eLC [] (iL (zab 2)) zc8 zbG))
   (zaX (zcr 4 (zcN zae))
   (zaX (zfW (iR1 (zaa (zab 1) zae)) (gNm 5) zbI)
   (zb2 (ex1 gLstRev (zab 4))))))))
def zcb:List D->Option Ent:=zcS [.b,.v] 6 zc5
def zdQ:FS:=
  (zb2 (ex2 zjd (eC (.str "abcdefghijklmnopqrstuvwxyz")) (ex2 zcl (ex2 zcw (zab 0) (ex2 zfb (zab 1) (ex2 zcw (eC (.int 1)) (ex2 zcl (ex2 zgi (zab 0) (eC (.int 26))) (eC (.int 8)))))) (eC (.int 26)))))
def zbS:List D->Option Ent:=zcS [.v,.v] 0 zdQ
def zbs:FS:=
  (zaX (zcr 6 (ex2 zcw (ex2 zca (zab 2) (zab 5)) (eCB zdf (zaa (ex2 gNe (ex2 zjd (zab 0) (zab 3)) (ex2 zjd (zab 1) (zab 5))) zae))))
   (zhb 4 (eCB gMin3 (zaa (zab 6) (zaa (ex2 zcw (ex2 zca (zab 2) (ex2 zcw (zab 5) (eC (.int 1)))) (eC (.int 1))) (zaa (ex2 zcw (ex2 zca (zab 4) (zab 5)) (eC (.int 1))) zae))))))
def zbZ:FS:=
  (zaX (zcr 4 (zcN (zaa (ex2 zcw (zab 3) (eC (.int 1))) zae)))
   (zaX (zfW (iR1 (zaa (eCB zdM (zaa (zab 1) zae)) zae)) (gNm 5) zbs)
   (fFrz 4 (zcr 2 (zab 4)))))
def zcJ:FS:=
  (zaX (zcr 2 (ex1 zir (ex2 zcw (eCB zdM (zaa (zab 1) zae)) (eC (.int 1)))))
   (zaX (zfW (iR1 (zaa (eCB zdM (zaa (zab 0) zae)) zae)) (gNm 3) zbZ)
   (zb2 (ex2 zca (zab 2) (ex1 zhw (eC (.int 1)))))))
def zbz:List D->Option Ent:=zcS [.v,.v] 5 zcJ
def zbN:FT:=
  (tOf (ex2 gNeD (zab 2) (zcN zae)))
def zbO:FS:=
  (zaX (zf2 3 2 (ex2 zcl (zab 1) (eCB zbJ (zaa (zab 2) zae))))
   (zcr 1 (ex2 zcl (ex2 zcw (ex2 zfb (zab 1) (eC (.int 48271))) (eC (.int 11))) (eC (.int 2147483647)))))
def zcp:FS:=
  (zaX (zcr 2 (eCB zdb (zaa (zab 0) zae)))
   (zaX (zcr 3 (zcN zae))
   (zaX (whl zbN
   zbO 12)
   (fRetV 3))))
def zb1:List D->Option Ent:=zcS [.b,.v] 2 zcp
def zcB:FS:=
  (ziY 0 "Book" [] "top" (eC .non))
def zar:GM:=zjb 0 0 zcB
def zcF:FS:=
  (zaX (ziY 0 "Knot" [] "word" (zab 1))
   (ziY 0 "Knot" ["word"] "branches" eDI0))
def zas:GM:=zjb 1 0 zcF
def zbC:FS:=
  (zhb 2 (zaM [.v,.v] zbc (zaa (ex2 zca (zab 2) (ex2 ziz (zab 3) (eC (.int 1)))) (zaa (ex2 ziZ (zab 1) (eC (.int 1))) zae))))
def zcP:FS:=
  (zaX (zcr 2 (zcN (zaa (eC (.int 0)) zae)))
   (zaX (zfW (iR2 (zaa (eC (.int 1)) (zaa (ex2 zcw (eCB zbJ (zaa (zab 0) zae)) (eC (.int 1))) zae))) (gNm 3) zbC)
   (zb2 (eCB zep (zaa (zab 2) zae)))))
def zbL:List D->Option Ent:=zcS [.v,.t] 2 zcP
def zbl:FS:=
  (zaX (zcr 8 (ex2 gInS (ex2 zjd (zab 2) (ex1 zhw (eC (.int 1)))) (ex2 zc9 (zab 1) (ex2 ziz (zab 7) (eC (.int 1))))))
   (zhb 6 (zaM [.v] zdA (zaa (zcN (zaa (eIf (tOf (zab 8)) (ex2 zc9 (zab 5) (ex2 ziz (zab 7) (eC (.int 1)))) (zaM [.v,.v] zbc (zaa (ex2 zc9 (zab 5) (ex2 ziz (zab 7) (eC (.int 1)))) (zaa (ex2 ziZ (zab 3) (eC (.int 2))) zae)))) (zaa (zaM [.v,.v] zbc (zaa (ex2 zc9 (zab 5) (zab 7)) (zaa (ex2 ziZ (zab 3) (eC (.int 0))) zae))) (zaa (zaM [.v,.v] zbc (zaa (ex2 zca (zab 6) (ex2 ziz (zab 7) (eC (.int 1)))) (zaa (ex2 ziZ (zab 3) (eC (.int 1))) zae))) (zaa (zaM [.v,.v] zbc (zaa (zaM [.b,.v,.v,.v] zaQ (zaa (zab 0) (zaa (zab 1) (zaa (zab 2) (zaa (zab 7) zae))))) (zaa (ex2 ziZ (zab 3) (eC (.int 3))) zae))) zae))))) zae))))
def zbP:FS:=
  (zaX (zcr 5 (ex2 zca (zab 0) (ex1 zhw (eC (.int 1)))))
   (zaX (zcr 6 (zcN (zaa (eIf (tOf (zab 4)) (eC (.int 0)) (zaM [.v,.v] zbc (zaa (ex2 zc9 (zab 5) (eC (.int 0))) (zaa (ex2 ziZ (zab 3) (eC (.int 0))) zae)))) zae)))
   (zaX (zfW (iR2 (zaa (eC (.int 1)) (zaa (ex2 zcw (eCB zbJ (zaa (zab 1) zae)) (eC (.int 1))) zae))) (gNm 7) zbl)
   (zb2 (eCB zep (zaa (zab 6) zae))))))
def zbM:List D->Option Ent:=zcS [.b,.v,.v,.t,.v] 4 zbP
def zcd:FS:=
  (zaX (zcr 3 (ex2 gAddS (zab 3) (zaM [.v,.v] zbS (zaa (zab 2) (zaa (ex2 zcl (zab 0) (zab 1)) zae)))))
   (zcr 0 (ex2 zgi (zab 0) (zab 1))))
def zcZ:FS:=
  (zaX (zcr 3 (eC (.str "")))
   (zaX (zcr 4 (ex2 zca (zcN (zaa (ex2 zcl (zab 0) (eC (.int 9))) (zaa (ex2 zcl (zab 0) (eC (.int 5))) (zaa (ex2 zcl (zab 0) (eC (.int 7))) zae)))) (ex2 zcl (ex2 zgi (zab 0) (eC (.int 45))) (eC (.int 3)))))
   (zaX (zcr 0 (ex2 zgi (zab 0) (eC (.int 315))))
   (zaX (zfW (iR1 (zaa (zab 4) zae)) (gNm 5) zcd)
   (fRetV 3)))))
def zb5:List D->Option Ent:=zcS [.v,.v,.v] 3 zcZ
def zct:FE:=
  (ze3 (zaa (zaM [.v,.v] zbz (zaa (zab 1) (zaa (zab 0) zae))) (zaa (zab 0) zae)))
def zda:FE:=
  (zab 0)
def zcq:FT:=
  (tOf (ex2 gEq (ex2 zc9 (zab 0) (eC (.int 0))) (ex2 zc9 (ex2 zca (zab 1) (eC (.int 0))) (eC (.int 0)))))
def zdD:FS:=
  (zaX (zcr 2 (eCB zhi (zaa (eLC [1] (iL (ex1 zdl (zab 0))) zc8 zct) zae)))
   (fFrz 2 (zb2 (eLC [2] (iL (zab 2)) zcq zda))))
def zbp:List D->Option Ent:=zcS [.b,.v] 1 zdD
def zc1:FS:=
  (zhb 4 (zaM [.b,.v,.v,.t,.v] zbM (zaa (zab 4) (zaa (zab 0) (zaa (eSl gSlS (zab 1) oNo (oSo (zab 5))) (zaa (zab 2) (zaa (zab 3) zae)))))))
def zc4:FE:=
  (zaM [.b,.v] zck (zaa (zab 1) (zaa (zab 0) zae)))
def zeg:FS:=
  (zaX (zcr 4 (zcN (zaa (zaM [.v,.t] zbL (zaa (zab 0) (zaa (zab 2) zae))) zae)))
   (zaX (zfW (iR2 (zaa (eC (.int 1)) (zaa (ex2 zcw (eCB zdM (zaa (zab 1) zae)) (eC (.int 1))) zae))) (gNm 5) zc1)
   (zb2 (eCB zep (zaa (eLC [4] (iR1 (zaa (ex2 zcw (eCB zbJ (zaa (zab 0) zae)) (eC (.int 1))) zae)) zc8 zc4) zae)))))
def zcV:List D->Option Ent:=zcS [.v,.v,.t,.v] 2 zeg
def zbb:FXE:=
  (xC [.v,.v,.v] zb5 (zdP (xPop 2) (zdP (xP (zab 1)) (zdP (xP (ex2 zcl (ex2 zgi (zab 3) (eC (.int 3))) (eC (.int 208)))) xNil))))
def zch:FS:=
  (zaX (zf1 2 (xPop 0))
   (zaX (zcr 3 (ex2 zcw (eC (.int 2)) (ex2 zcl (zab 2) (eC (.int 3)))))
   (fXRet (xLC [3,0,2] 0 1 (iR1 (zaa (ex2 zcl (ex2 zgi (zab 2) (eC (.int 624))) (ex2 zcw (zab 1) (eC (.int 1)))) zae)) zbb))))
def zbv:GM:=zjb 1 2 zch
def zcz:FS:=
  (zb2 (ex2 zc9 (ex2 zc9 (eCallD [.v,.v,.t,.v] zcV (zaa (zab 0) (zaa (zab 1) (zaa (zab 2) zae))) (.bl false)) (ex1 zhw (eC (.int 1)))) (ex1 zhw (eC (.int 1)))))
def zbx:List D->Option Ent:=zcS [.v,.v,.t] 0 zcz
def zcE:FS:=
  (zb2 (zaM [.v,.v,.t] zbx (zaa (zaM [.v] zcf (zaa (zab 0) zae)) (zaa (zab 1) (zaa (eB ([1,1,1,0].map .int)) zae)))))
def zag:List D->Option Ent:=zcS [.v,.v] 0 zcE
def F_hang:FS:=
  (fHang zag)
def zfk:GM:=zjb 1 2 F_hang
def zaS(kC:Str->af):FT:=
  (tOf (ex2 gGt (eCB zbJ (zaa (zab 4) zae)) (eC (.int 0))))
def zbq(kC:Str->af):FS:=
  (zaX (fPop 4 (gNm 5))
   (zaX (zcr 6 (zaM [.v,.v] zag (zaa (ex1 (zbR (kC "Knot") ["word","branches"] 0) (zab 5)) (zaa (zab 1) zae))))
   (zaX (fIf (tOf (ex2 gLe (zab 6) (zab 2))) (zhb 3 (ze3 (zaa (zab 6) (zaa (ex1 (zbR (kC "Knot") ["word","branches"] 0) (zab 5)) zae)))) fNx)
   (fExt 4 (zaM [.v,.v,.v] (za0 kC) (zaa (zab 5) (zaa (zab 6) (zaa (zab 2) zae))))))))
def zcy(kC:Str->af):FS:=
  (zaX (fIf (tOf (ex2 ziC (ex1 (zbR (kC "Book") ["top"] 0) (zab 0)) (eC .non))) (zb2 (ze3 zae)) fNx)
   (zaX (zcr 3 (zcN zae))
   (zaX (zcr 4 (zcN (zaa (ex1 (zbR (kC "Book") ["top"] 0) (zab 0)) zae)))
   (zaX (whl (zaS kC)
   (zbq kC) 1000)
   (zb2 (eCB zep (zaa (eCB zhi (zaa (zab 3) zae)) zae)))))))
def zaf(kC:Str->af):List D->Option Ent:=zcS [.v,.v,.v] 4 (zcy kC)
def zcX(kC:Str->af):FE:=
  (ze3 (zaa (zab 1) (zaa (zab 0) zae)))
def zcU(kC:Str->af):FE:=
  (ze3 (zaa (zab 1) (zaa (zab 0) zae)))
def zbD(kC:Str->af):FS:=
  (fIf (fOr (tOf (ex2 gNiD (zab 5) (zab 4))) (tOf (ex2 gGt (ex2 gDx (zab 3) (zab 5)) (ex2 zcw (zaM [.v,.v] zbz (zaa (zab 1) (zaa (zab 2) zae))) (ex2 gDx (zab 4) (zab 5)))))) (zb2 (eC (.bl false))) fNx)
def zcc(kC:Str->af):FS:=
  (zaX (zcr 3 (eCB zil (zaa (eL2 [] (iT (ze8 (kC "Book") ["top"] [.v,.v] (zaf kC) (zab 0) (zaa (zab 1) (zaa (eC (.int 40)) zae)))) zc8 (zcX kC)) zae)))
   (zaX (zcr 4 (eCB zil (zaa (eL2 [] (iT (ze8 (kC "Book") ["top"] [.v,.v] (zaf kC) (zab 0) (zaa (zab 2) (zaa (eC (.int 40)) zae)))) zc8 (zcU kC)) zae)))
   (zaX (zfW (iD (zab 3)) (gNm 5) (zbD kC))
   (zb2 (ex2 gEq (eCB zi0 (zaa (zab 3) zae)) (eCB zi0 (zaa (zab 4) zae)))))))
def zbn(kC:Str->af):List D->Option Ent:=zcS [.v,.v,.v] 3 (zcc kC)
def zbT:FS:=
  (zaX (fIf (tOf (eFIs 0 "Book" ["top"] 0)) (zaX (fFSet 0 "Book" ["top"] 0 (zd6 "Knot" zas (zaa (zab 1) zae)))
   (zb2 (eC (.bl true)))) fNx)
   (fXRet (xCOF 0 "Book" ["top"] 0 zfk (zaa (zab 1) zae))))
def zaZ:GM:=zjb 1 0 zbT
def zb6(kC:Str->af):FE:=
  (ze3 (zaa (zab 0) (zaa (zab 1) zae)))
def zbE(kC:Str->af):FT:=
  (tOf (ex2 gEq (zab 0) (ex2 zc9 (ex2 zc9 (zab 2) (eC (.int 0))) (eC (.int 0)))))
def zbK(kC:Str->af):FS:=
  (zaX (fIf (tOf (ex2 ziC (ex1 (zbR (kC "Book") ["top"] 0) (zab 0)) (eC .non))) (zb2 (ze3 zae)) fNx)
   (zaX (zcr 2 (ze8 (kC "Book") ["top"] [.v,.v] (zaf kC) (zab 0) (zaa (zab 1) (zaa (zaM [.v,.v] zag (zaa (ex1 (zbR (kC "Knot") ["word","branches"] 0) (ex1 (zbR (kC "Book") ["top"] 0) (zab 0))) (zaa (zab 1) zae))) zae))))
   (zb2 (eCB zep (zaa (eL2 [2] (iT (zab 2)) (zbE kC) (zb6 kC)) zae)))))
def zaj(kC:Str->af):List D->Option Ent:=zcS [.v,.v] 1 (zbK kC)
def zcA(kC:Str->af):FS:=
  (fIf (fOr (fNot (tOf (ex1 (gIsi "tuple") (zab 6)))) (fOr (fNot (tOf (ex1 (gIsi "int") (ex2 zc9 (zab 6) (eC (.int 0)))))) (tOf (ex1 (gIsi "bool") (ex2 zc9 (zab 6) (eC (.int 0))))))) (zb2 (eC (.bl false))) fNx)
def zci(kC:Str->af):FS:=
  (zaX (zcr 4 (zaM [.b,.v] zbp (zaa (zab 2) (zaa (zab 3) zae))))
   (zaX (zcr 5 (ze8 (kC "Book") ["top"] [.v] (zaj kC) (zab 0) (zaa (zab 3) zae)))
   (zaX (fIf (fOr (fNot (tOf (ex1 (gIsi "tuple") (zab 5)))) (fOr (tOf (ex2 gNeD (eCB zdb (zaa (zab 5) zae)) (zab 4))) (tOf (ex2 gNeD (ze8 (kC "Book") ["top"] [.v] (zaj kC) (zab 1) (zaa (zab 3) zae)) (zab 5))))) (zb2 (eC (.bl false))) fNx)
   (zaX (zfW (iT (zab 5)) (gNm 6) (zcA kC))
   (zaX (fIf (tOf (ex2 zgD (zab 5) (ze3 zae))) (zb2 (ex2 zgD (ze8 (kC "Book") ["top"] [.v,.v] (zaf kC) (zab 0) (zaa (zab 3) (zaa (eC (.int 40)) zae))) (ze3 zae))) fNx)
   (zb2 (eAnd (ex2 zgD (ze8 (kC "Book") ["top"] [.v,.v] (zaf kC) (zab 0) (zaa (zab 3) (zaa (ex2 zc9 (ex2 zc9 (zab 5) (eC (.int 0))) (eC (.int 0))) zae))) (zab 5)) (ex2 zgD (ze8 (kC "Book") ["top"] [.v,.v] (zaf kC) (zab 1) (zaa (zab 3) (zaa (ex2 zc9 (ex2 zc9 (zab 5) (eC (.int 0))) (eC (.int 0))) zae))) (zab 5)))))))))
def zbV(kC:Str->af):List D->Option Ent:=zcS [.v,.v,.b,.v] 3 (zci kC)
def zcL(kC:Str->af):FS:=
  (zaX (zcr 3 (zaM [.b,.v] zbp (zaa (zab 1) (zaa (zab 2) zae))))
   (zb2 (eAnd (ex2 zgD (eCB zdb (zaa (ze8 (kC "Book") ["top"] [.v] (zaj kC) (zab 0) (zaa (zab 2) zae)) zae)) (zab 3)) (ex2 zgD (eCB zdb (zaa (ze8 (kC "Book") ["top"] [.v,.v] (zaf kC) (zab 0) (zaa (zab 2) (zaa (ex2 zc9 (ex2 zca (zab 3) (eC (.int 0))) (eC (.int 0))) zae))) zae)) (zab 3)))))
def zbW(kC:Str->af):List D->Option Ent:=zcS [.v,.b,.v] 1 (zcL kC)
def zce(kC:Str->af)(rg:List D->Option Ent):FS:=
  (zhb 1 (ze3 (zaa (zab 2) (zaa (zaM [.v] rg (zaa (ex2 gDxI (ex1 (zbR (kC "Knot") ["word","branches"] 1) (zab 0)) (zab 2)) zae)) zae))))
def zc2(kC:Str->af)(rg:List D->Option Ent):FS:=
  (zaX (zcr 1 (zcN zae))
   (zaX (zfW (iL (eCB gSrtDi (zaa (ex1 (zbR (kC "Knot") ["word","branches"] 1) (zab 0)) zae))) (gNm 2) (zce kC rg))
   (zb2 (ze3 (zaa (ex1 (zbR (kC "Knot") ["word","branches"] 0) (zab 0)) (zaa (eCB zep (zaa (zab 1) zae)) zae))))))
def zaG(kC:Str->af):Nat->List D->Option Ent
 | 0=>zcS [.v] 2 fNev
 | r+1=>zcS [.v] 2 (zc2 kC (zaG kC r))
def zcx(kC:Str->af):FS:=
  (zaX (fIf (tOf (ex2 ziC (ex1 (zbR (kC "Book") ["top"] 0) (zab 0)) (eC .non))) (zb2 (eC .non)) fNx)
   (zb2 (zaM [.v] (zaG kC 16) (zaa (ex1 (zbR (kC "Book") ["top"] 0) (zab 0)) zae))))
def zap(kC:Str->af):List D->Option Ent:=zcS [.v] 0 (zcx kC)
def zc0:FXE:=
  (xC [.v,.v,.v] zb5 (zdP (xPop 1) (zdP (xP (ex2 zcw (eC (.int 2)) (ex2 zcl (zab 2) (eC (.int 3))))) (zdP (xP (ex2 zcl (ex2 zgi (zab 2) (eC (.int 3))) (eC (.int 208)))) xNil))))
def zdI:FE:=
  (eSl gSlS (ex2 zi5 (zab 0) (eC (.int 9))) oNo (oSo (eC (.int 40))))
def zhI:FS:=
  (fX (xM 5 "Book" ["top"] zaZ (zaa (zab 8) zae)))
def zeH:FS:=
  (zaX (zhb 7 (zab 8))
   (zaX (fX (xM 6 "Book" ["top"] zaZ (zaa (zab 8) zae)))
   (fIf (fNot (tOf (eLd zbW (zjc 6 (lBor (zab 7) (zjf (ex2 zca (zab 4) (ex2 zcl (eCB zbJ (zaa (zab 7) zae)) (eCB zbJ (zaa (zab 4) zae)))) zfy)))))) (zb2 (eC (.bl false))) fNx)))
def zf8:FS:=
  (fIf (fNot (tOf (eLd zbV (zjc 5 (zjc 6 (lBor (zab 2) (zjf (zab 9) zfy))))))) (zb2 (eC (.bl false))) fNx)
def zgT:FS:=
  (zg6 4 (zaX (zfW (iL (zab 4)) (gNm 9) zf8)
   (zb2 (eAnd (eLd zbn (zjc 5 (zjf (ex2 zca (zab 4) (eC (.int 0))) (zjf (ex2 zca (zab 4) (eC (.int 1))) zfy)))) (ex2 zgD (zcN (zaa (eLdM 5 "Book" ["top"] zap zfy) (zaa (eLdM 6 "Book" ["top"] zap zfy) zae))) (zab 7))))))
def zgs:FS:=
  (zaX (zcr 7 (zcN (zaa (eLdM 5 "Book" ["top"] zap zfy) (zaa (eLdM 6 "Book" ["top"] zap zfy) zae))))
   zgT)
def zhH:FS:=
  (zaX (zfW (iL (zaM [.b,.v] zb1 (zaa (zab 2) (zaa (zab 3) zae)))) (gNm 8) zeH)
   zgs)
def zif:FS:=
  (zg6 2 (zaX (zfW (iL (zab 2)) (gNm 8) zhI)
   zhH))
def ziD:FS:=
  (zaX (zcr 7 (zcN zae))
   zif)
def ziA:FS:=
  (zaX (zhp 6 (zd6 "Book" zar zae))
   ziD)
def zdF:FS:=
  (zaX (zhp 5 (zd6 "Book" zar zae))
   ziA)
def zdx:FS:=
  (zaX (fIf (tOf (ex2 gEq (ex2 zcl (ex2 zgi (zab 3) (eC (.int 7))) (eC (.int 4))) (eC (.int 1)))) (zaX (zcr 2 (eLC [] (iL (eSl zh1 (zab 2) oNo (oSo (eC (.int 3))))) zc8 zdI))
   (zcr 4 (ex2 gCat (zcN (zaa (eC (.str "")) (zaa (eSl gSlS (ex2 zca (zab 4) (eC (.int 1))) oNo (oSo (eC (.int 1)))) zae))) (eSl zh1 (zab 4) (oSo (eC (.int 2))) oNo)))) fNx)
   zdF)
def ziv:FS:=
  (zaX (zf1 4 (x2 gCat (xLC [1,3] 1 0 (iR1 (zaa (eC (.int 8)) zae)) zc0) (xP (eSl zh1 (zab 2) oNo (oSo (eC (.int 2)))))))
   zdx)
def zit:FS:=
  (zaX (zf1 3 (xPop 1))
   ziv)
def zii:FS:=
  (zaX (zf1 2 (xCO 1 zbv (zdP (xP (eC (.int 10))) xNil)))
   zit)
def F_law:FS:=
  (zaX (ziy 1 (zaM [.b,.v] zcb (zaa (eSl zh1 (zab 0) oNo (oSo (eC (.int 63)))) (zaa (eC (.int 40)) zae))))
   zii)
def g_law:List D->Option Ent:=zcS [.b] 9 F_law
end
def kinit(w:Str):zas (.ins "Knot" [] []) [.str w]=aa (.non,mkK w [] []):=by
 simp only[zas,zjb,zcF,aw,bm,reduceIte,aF,bK,iH,aY,gJ,cj,zaX,ziY,zab,eDI0,oAt,toO,sqO,aL,cM,bA,zdz,fV,endM,bS,mkK]
end N53

namespace N53
open PySem L2 L3 PyProof.Rows
def top(i:Nat):Stmt:=PySem.Challenge.pw_nearfind_k53_whole_nearest_any_order.main.body.getD i (.Pass ⟨0,0,0,0⟩)
def clsB(st:Stmt)(j:Nat):Stmt:=match st with
 | .ClassDef _ _ _ b _ _ _ _ _ _ _=>b.getD j (.Pass ⟨0,0,0,0⟩)
 | _=>.Pass ⟨0,0,0,0⟩
abbrev zbA:Stmt:=top 5
def sc_cells_of:FnScope ["P","T","prices","free","columns","signs"] ["P","T","prices","free"] (zac zbA):=⟨rfl,rfl,rfl,by decide +kernel,rfl,by decide +kernel,by decide +kernel⟩
abbrev zaz:Stmt:=top 6
def zey:FnScope ["P","T","prices"] ["P","T","prices"] (zac zaz):=⟨rfl,rfl,rfl,by decide +kernel,rfl,by decide +kernel,by decide +kernel⟩
abbrev za3:Stmt:=top 7
def zfV:FnScope ["columns","classes"] ["columns","classes"] (zac za3):=⟨rfl,rfl,rfl,by decide +kernel,rfl,by decide +kernel,by decide +kernel⟩
abbrev zaL:Stmt:=top 8
def sc_first_column:FnScope ["pattern","prices","column","classes"] ["pattern","prices"] (zac zaL):=⟨rfl,rfl,rfl,by decide +kernel,rfl,by decide +kernel,by decide +kernel⟩
abbrev zat:Stmt:=top 9
def sc_further_column:FnScope ["columns","pattern","text","prices","free","before","column","classes","fits"] ["columns","pattern","text","prices","free"] (zac zat):=⟨rfl,rfl,rfl,by decide +kernel,rfl,by decide +kernel,by decide +kernel⟩
abbrev zal:Stmt:=top 10
def zdr:FnScope ["columns","pattern","text","classes"] ["columns","pattern","text","classes"] (zac zal):=⟨rfl,rfl,rfl,by decide +kernel,rfl,by decide +kernel,by decide +kernel⟩
abbrev zbU:Stmt:=top 11
def ziG:FnScope ["cell","price"] ["cell","price"] (zac zbU):=⟨rfl,rfl,rfl,by decide +kernel,rfl,by decide +kernel,by decide +kernel⟩
abbrev zcj:Stmt:=top 12
def sc_lowest:FnScope ["cells"] ["cells"] (zac zcj):=⟨rfl,rfl,rfl,by decide +kernel,rfl,by decide +kernel,by decide +kernel⟩
abbrev za2:Stmt:=top 15
def zfF:FnScope ["W"] ["W"] (zac za2):=⟨rfl,rfl,rfl,by decide +kernel,rfl,by decide +kernel,by decide +kernel⟩
abbrev zaB:Stmt:=top 19
def zeB:FnScope ["word","other"] ["word","other"] (zac zaB):=⟨rfl,rfl,rfl,by decide +kernel,rfl,by decide +kernel,by decide +kernel⟩
abbrev zdn:Stmt:=top 20
def sc_hang:FnScope ["top","word","knot","price"] ["top","word"] (zac zdn):=⟨rfl,rfl,rfl,by decide +kernel,rfl,by decide +kernel,by decide +kernel⟩
abbrev zbg:Stmt:=top 21
def sc_tree_from:FnScope ["knot","branches","price"] ["knot"] (zac zbg):=⟨rfl,rfl,rfl,by decide +kernel,rfl,by decide +kernel,by decide +kernel⟩
abbrev zau:Stmt:=top 22
def zem:FnScope ["knot","price","most"] ["knot","price","most"] (zac zau):=⟨rfl,rfl,rfl,by decide +kernel,rfl,by decide +kernel,by decide +kernel⟩
abbrev zbh:Stmt:=top 24
def sc__law_deck:FnScope ["_law_cells","_law_many","_law_own","_law_row","_law_deck_here","_law_k","_law_at","_law_one"] ["_law_cells","_law_many"] (zac zbh):=⟨rfl,rfl,rfl,by decide +kernel,rfl,by decide +kernel,by decide +kernel⟩
abbrev zbk:Stmt:=top 25
def zgr:FnScope ["_law_turn","_law_number"] ["_law_turn","_law_number"] (zac zbk):=⟨rfl,rfl,rfl,by decide +kernel,rfl,by decide +kernel,by decide +kernel⟩
abbrev zbf:Stmt:=top 26
def sc__law_word:FnScope ["_law_cell","_law_few","_law_turn","_law_word_here","_law_long","_law_k"] ["_law_cell","_law_few","_law_turn"] (zac zbf):=⟨rfl,rfl,rfl,by decide +kernel,rfl,by decide +kernel,by decide +kernel⟩
abbrev za5:Stmt:=top 27
def sc__law_words:FnScope ["_law_deck_here","_law_most","_law_turn","_law_few"] ["_law_deck_here","_law_most"] (zac za5):=⟨rfl,rfl,rfl,by decide +kernel,rfl,by decide +kernel,by decide +kernel⟩
abbrev za4:Stmt:=top 28
def sc__law_price:FnScope ["_law_one","_law_other","_law_row","_law_k","_law_below","_law_j","_law_step"] ["_law_one","_law_other"] (zac za4):=⟨rfl,rfl,rfl,by decide +kernel,rfl,by decide +kernel,by decide +kernel⟩
abbrev zby:Stmt:=top 29
def sc__law_due:FnScope ["_law_words_here","_law_one","_law_pairs"] ["_law_words_here","_law_one"] (zac zby):=⟨rfl,rfl,rfl,by decide +kernel,rfl,by decide +kernel,by decide +kernel⟩
abbrev za8:Stmt:=top 30
def sc__law_right:FnScope ["_law_book","_law_other","_law_words_here","_law_one","_law_due_here","_law_found","_law_pair"] ["_law_book","_law_other","_law_words_here","_law_one"] (zac za8):=⟨rfl,rfl,rfl,by decide +kernel,rfl,by decide +kernel,by decide +kernel⟩
abbrev za7:Stmt:=top 31
def sc__law_grows:FnScope ["_law_book","_law_words_here","_law_one","_law_due_here"] ["_law_book","_law_words_here","_law_one"] (zac za7):=⟨rfl,rfl,rfl,by decide +kernel,rfl,by decide +kernel,by decide +kernel⟩
abbrev zaU:Stmt:=top 32
def sc__law_turned:FnScope ["_law_words_here","_law_turn","_law_left","_law_found"] ["_law_words_here","_law_turn"] (zac zaU):=⟨rfl,rfl,rfl,by decide +kernel,rfl,by decide +kernel,by decide +kernel⟩
abbrev zaK:Stmt:=top 33
def sc__law_between:FnScope ["_law_book","_law_one","_law_other","_law_there","_law_beyond","_law_word_here"] ["_law_book","_law_one","_law_other"] (zac zaK):=⟨rfl,rfl,rfl,by decide +kernel,rfl,by decide +kernel,by decide +kernel⟩
abbrev zdO:Stmt:=top 34
def sc_law:FnScope ["_law_script","_law_deck_here","_law_words_here","_law_turn","_law_asked","_law_book","_law_other","_law_ahead","_law_word_here","_law_one"] ["_law_script"] (zac zdO):=⟨rfl,rfl,rfl,by decide +kernel,rfl,by decide +kernel,by decide +kernel⟩
abbrev zaA:Stmt:=clsB (top 17) 0
def zeF:FnScope ["self"] ["self"] (zac zaA):=⟨rfl,rfl,rfl,by decide +kernel,rfl,by decide +kernel,by decide +kernel⟩
abbrev zbu:Stmt:=clsB (top 17) 1
def zg7:FnScope ["self","W"] ["self","W"] (zac zbu):=⟨rfl,rfl,rfl,by decide +kernel,rfl,by decide +kernel,by decide +kernel⟩
abbrev zbi:Stmt:=clsB (top 17) 2
def zgN:FnScope ["self"] ["self"] (zac zbi):=⟨rfl,rfl,rfl,by decide +kernel,rfl,by decide +kernel,by decide +kernel⟩
abbrev zbj:Stmt:=clsB (top 17) 3
def sc_Book_near:FnScope ["self","W","most","found","waiting","knot","price"] ["self","W","most"] (zac zbj):=⟨rfl,rfl,rfl,by decide +kernel,rfl,by decide +kernel,by decide +kernel⟩
abbrev zaJ:Stmt:=clsB (top 17) 4
def sc_Book_nearest:FnScope ["self","W","told"] ["self","W"] (zac zaJ):=⟨rfl,rfl,rfl,by decide +kernel,rfl,by decide +kernel,by decide +kernel⟩
abbrev zay:Stmt:=clsB (top 18) 0
def zeC:FnScope ["self","word"] ["self","word"] (zac zay):=⟨rfl,rfl,rfl,by decide +kernel,rfl,by decide +kernel,by decide +kernel⟩
def boot_abs:aS "abs" = aa (.builtin "abs"):=by kernel_rfl
def boot_bool:aS "bool" = aa (.type "bool"):=by kernel_rfl
def zgB:aS "dict" = aa (.type "dict"):=by kernel_rfl
def zed:aS "int" = aa (.type "int"):=by kernel_rfl
def zb3:aS "isinstance" = aa (.builtin "isinstance"):=by kernel_rfl
def za9:aS "len" = aa (.builtin "len"):=by kernel_rfl
def zcC:aS "list" = aa (.type "list"):=by kernel_rfl
def ziw:aS "min" = aa (.builtin "min"):=by kernel_rfl
def boot_range:aS "range" = aa (.type "range"):=by kernel_rfl
def zfG:aS "reversed" = aa (.type "reversed"):=by kernel_rfl
def boot_set:aS "set" = aa (.type "set"):=by kernel_rfl
def zc7:aS "sorted" = aa (.builtin "sorted"):=by kernel_rfl
def zbo:aS "tuple" = aa (.type "tuple"):=by kernel_rfl
structure Txt(K:ag)(mg:Str->Option ae):Prop where
 m_abs:mg "abs" = ab
 m_bool:mg "bool" = ab
 m_dict:mg "dict" = ab
 m_int:mg "int" = ab
 m_isinstance:mg "isinstance" = ab
 m_len:mg "len" = ab
 m_list:mg "list" = ab
 m_min:mg "min" = ab
 m_range:mg "range" = ab
 m_reversed:mg "reversed" = ab
 m_set:mg "set" = ab
 m_sorted:mg "sorted" = ab
 m_tuple:mg "tuple" = ab
 g_PUT:∃ u,mg "PUT" = aa u/\RelV (.int 0) u
 g_LEFT:∃ u,mg "LEFT" = aa u/\RelV (.int 1) u
 g_EXCHANGED:∃ u,mg "EXCHANGED" = aa u/\RelV (.int 2) u
 g_TURNED:∃ u,mg "TURNED" = aa u/\RelV (.int 3) u
 u_PLAIN_PRICES:∃ a,mg "PLAIN_PRICES" = aa (.ref a)/\TupK K a [1,1,1,0]
 c_Book:∃ C,ClsD K mg "Book" ["top"] C
 c_Knot:∃ C,ClsD K mg "Knot" ["word","branches"] C
 d_cells_of:∃ f fd,DefD K mg "cells_of" zbA ["P","T","prices","free"] f fd
 d_price_between:∃ f fd,Def K mg "price_between" zaz ["P","T","prices"] f fd
 d_row_across:∃ f fd,Def K mg "row_across" za3 ["columns","classes"] f fd
 d_first_column:∃ f fd,Def K mg "first_column" zaL ["pattern","prices"] f fd
 d_further_column:∃ f fd,Def K mg "further_column" zat ["columns","pattern","text","prices","free"] f fd
 d_cell_ahead_of_turn:∃ f fd,Def K mg "cell_ahead_of_turn" zal ["columns","pattern","text","classes"] f fd
 d_stepped:∃ f fd,Def K mg "stepped" zbU ["cell","price"] f fd
 d_lowest:∃ f fd,Def K mg "lowest" zcj ["cells"] f fd
 d_pattern_of:∃ f fd,Def K mg "pattern_of" za2 ["W"] f fd
 d_slips_between:∃ f fd,Def K mg "slips_between" zaB ["word","other"] f fd
 d_hang:∃ f fd,Def K mg "hang" zdn ["top","word"] f fd
 d_tree_from:∃ f fd,Def K mg "tree_from" zbg ["knot"] f fd
 d_knots_in_reach:∃ f fd,Def K mg "knots_in_reach" zau ["knot","price","most"] f fd
 d__law_deck:∃ f fd,Def K mg "_law_deck" zbh ["_law_cells","_law_many"] f fd
 d__law_sign:∃ f fd,Def K mg "_law_sign" zbk ["_law_turn","_law_number"] f fd
 d__law_word:∃ f fd,Def K mg "_law_word" zbf ["_law_cell","_law_few","_law_turn"] f fd
 d__law_words:∃ f fd,Def K mg "_law_words" za5 ["_law_deck_here","_law_most"] f fd
 d__law_price:∃ f fd,Def K mg "_law_price" za4 ["_law_one","_law_other"] f fd
 d__law_due:∃ f fd,Def K mg "_law_due" zby ["_law_words_here","_law_one"] f fd
 d__law_right:∃ f fd,Def K mg "_law_right" za8 ["_law_book","_law_other","_law_words_here","_law_one"] f fd
 d__law_grows:∃ f fd,Def K mg "_law_grows" za7 ["_law_book","_law_words_here","_law_one"] f fd
 d__law_turned:∃ f fd,Def K mg "_law_turned" zaU ["_law_words_here","_law_turn"] f fd
 d__law_between:∃ f fd,Def K mg "_law_between" zaK ["_law_book","_law_one","_law_other"] f fd
 d_Book___init__:∃ f fd,MakeD K "Book" zaA "Book.__init__" ["self"] f fd
 d_Book_put:∃ f fd,MethD K "Book" "put" zbu "Book.put" ["self","W"] f fd
 d_Book_tree:∃ f fd,MethD K "Book" "tree" zbi "Book.tree" ["self"] f fd
 d_Book_near:∃ f fd,MethD K "Book" "near" zbj "Book.near" ["self","W","most"] f fd
 d_Book_nearest:∃ f fd,MethD K "Book" "nearest" zaJ "Book.nearest" ["self","W"] f fd
 d_Knot___init__:∃ f fd,MakeD K "Knot" zay "Knot.__init__" ["self","word"] f fd
section
variable {P:aN}{w:aV}{K:ag}{mg:Str->Option ae}{base:bd}{f:af}{fd:bw}
def zgd(T:Txt K mg)(F:FunA K "row_across" "row_across" za3 f fd):FnOk P w K mg base CX0 1 f fd ["columns","classes"] (spD K [.b,.v] zck):=by
 refine zbe F zfV zdp rfl (fun _ _ h=>h) fun cdv A outer s H E hr=>?_;have hu:=zbY hr;exact(ss1 (zdi (vct zeM (by rfl) T.m_tuple zbo (zad (vlc (N:=["column","classes"]) (fr:=[1]) ⟨rfl,rfl,rfl,by decide +kernel,rfl,rfl⟩ (iib 0) (fun _ _ _ _=>by exact if0) (fun _ _ _ _=>by exact(vix zcG (vv 0) (vv 1) (fun _ _=>rfl)))) zax))))
def zdk(T:Txt K mg)(F:FunA K "cell_ahead_of_turn" "cell_ahead_of_turn" zal f fd):FnOk P w K mg base CX0 1 f fd ["columns","pattern","text","classes"] (spD K [.b,.v,.v,.v] zaQ):=by
 refine zbe F zdr zaP rfl (fun _ _ h=>h) fun cdv A outer s H E hr=>?_;have hu:=zbY hr;exact(ssc (sIf (tww (tor' (tcm ((o_lt)) (vv 3) zaH (zaT _)) (ziP (tcm ((o_lt)) (vcb zg0 (by rfl) T.m_len za9 (zad (vv 2) zax)) zaH (zaT _))))) (ss1 (zdi vnon)) ss0)
   (ssc (sIf (tww (tor' (tcm (o_niS) (vix zi3 (vv 2) (vun zgE zaH) (fun _ _=>rfl)) (vix zcG (vv 1) (vop zfR (vv 3) zaH) (fun _ _=>rfl)) (by with_unfolding_all rfl)) (ziP (tcm (o_niS) (vix zi3 (vv 2) (vun zgE zaH) (fun _ _=>rfl)) (vix zcG (vv 1) (vop zfR (vv 3) zaH) (fun _ _=>rfl)) (by with_unfolding_all rfl))))) (ss1 (zdi vnon)) ss0)
   (ss1 (zdi (vix zcG (vix zbH (vv 0) (vun zgE zaH) (fun _ _=>rfl)) (vop zfR (vv 3) zaH) (fun _ _=>rfl))))))
def zff(T:Txt K mg)(F:FunA K "stepped" "stepped" zbU f fd):FnOk P w K mg base CX0 1 f fd ["cell","price"] (spD K [.v,.v] zbc):=by
 refine zbe F ziG zds rfl (fun _ _ h=>h) fun cdv A outer s H E hr=>?_;have hu:=zbY hr;exact(ssc (sIf (tww (tor' (tcm (o_isN) (vv 0) vnon (zaT _)) (ziP (tcm (o_eq) (vv 1) zaH (zaT _))))) (ss1 (zdi vnon)) ss0)
   (ss1 (zdi (vop zcQ (vv 0) (vv 1)))))
def ok_lowest(T:Txt K mg)(F:FunA K "lowest" "lowest" zcj f fd):FnOk P w K mg base CX0 1 f fd ["cells"] (spD K [.v] zdA):=by
 refine zbe F sc_lowest zfU rfl (fun _ _ h=>h) fun cdv A outer s H E hr=>?_;have hu:=zbY hr;exact(ss1 (zdi (vminD (vlc (N:=["cell"]) (fr:=[]) ⟨rfl,rfl,rfl,by decide +kernel,rfl,rfl⟩ (iiq (vv 0)) (fun _ _ _ _=>by exact(if1 (tcm (o_noN) (vv 0) vnon (zaT _)))) (fun _ _ _ _=>by exact(vv 0))) vnon (by rfl) T.m_min ziw)))
def zf9(T:Txt K mg)(F:FunA K "pattern_of" "pattern_of" za2 f fd):FnOk P w K mg base CX0 1 f fd ["W"] (spD K [.v] zcf):=by
 refine zbe F zfF zdo rfl (fun _ _ h=>h) fun cdv A outer s H E hr=>?_;have hu:=zbY hr;exact(ss1 (zdi (vct c_tupS (by rfl) T.m_tuple zbo (zad (vv 0) zax))))
def zek{kC:Str->af}(hK:∀ c C,zbw K c C->C=kC c)(T:Txt K mg)(F:FunA K "knots_in_reach" "knots_in_reach" zau f fd):FnOk P w K mg base CX0 1 f fd ["knot","price","most"] (spD K [.v,.v,.v] (za0 kC)):=by
 obtain⟨C_Knot,DC_Knot⟩:=T.c_Knot;refine zbe F zem (zcn kC) rfl (fun _ _ h=>h) fun cdv A outer s H E hr=>?_;have hu:=zbY hr;exact(ss1 (zdi (vlc (N:=["other","knot","most","price"]) (fr:=[0,2,1]) ⟨rfl,rfl,rfl,by decide +kernel,rfl,rfl⟩ (iidi (zdW (ns:=["word","branches"]) 1 DC_Knot (hK _ _ DC_Knot.at_) (vv 0))) (fun _ _ _ _=>by exact(if1 (tcm (o_le) (vcb c_abs (by rfl) T.m_abs boot_abs (zad (vop zfR (vv 0) (vv 3)) zax)) (vv 2) (zaT _)))) (fun _ _ _ _=>by exact(vix x_di (zdW (ns:=["word","branches"]) 1 DC_Knot (hK _ _ DC_Knot.at_) (vv 1)) (vv 0) (fun _ _=>rfl))))))
def zgF(T:Txt K mg)(F:FunA K "_law_deck" "_law_deck" zbh f fd):FnOk P w K mg base CX0 1 f fd ["_law_cells","_law_many"] (spD K [.b,.v] zcb):=by
 refine zbe F sc__law_deck zc5 rfl (fun _ _ h=>h) fun cdv A outer s H E hr=>?_;have hu:=zbY hr;exact(ssc (zdj (i:=2) sc__law_deck.nd rfl (aK rfl) (vop o_cat (vct zeS (by rfl) T.m_list zcC (zad (vv 0) zax)) (vop o_rep (zgc (zad zaH zax)) (vct zhT (by rfl) T.m_int zed (zad (zje (o_eq) (vcb zd2 (by rfl) T.m_len za9 (zad (vv 0) zax)) zaH (zaT _)) zax)))))
   (sFrz 2 (ssc (sSetLC (i:=3) sc__law_deck.nd rfl (aK rfl) (N:=["_law_cell"]) (fr:=[]) ⟨rfl,rfl,rfl,by decide +kernel,rfl,rfl⟩ (iil (vv 2)) (fun _ _ _ _=>by exact if0) (fun _ _ _ _=>by exact(vop zgz (vv 0) (vct zhT (by rfl) T.m_int zed (zad (zje (o_ge) (vv 0) (vop o_pow zaH zaH) (zaT _)) zax)))))
   (ssc (zdj (i:=4) sc__law_deck.nd rfl (aK rfl) (zgc zax))
   (ssc (zi6 (iir1 (by rfl) T.m_range (zad (vv 1) zax)) (gnm (i:=5) sc__law_deck.nd rfl (aK rfl))
   (ssc (zdj (i:=6) sc__law_deck.nd rfl (aK rfl) (vop zcR (vv 5) (vcb zd2 (by rfl) T.m_len za9 (zad (vv 2) zax))))
   (ssc (zdj (i:=7) sc__law_deck.nd rfl (aK rfl) (vop zcQ (vop zgz (vop zcR (vop zcQ (vop zcQ (vix zbH (vv 2) (vv 6) (fun _ _=>rfl)) (vop zgz (vop zgz (vv 5) (vv 5)) zaH)) (vop zgz zaH (vv 5))) zaH) (vix zbH (zgc (zad zaH (zad zaH (zad zaH (zad zaH zax))))) (vop zcR (vv 5) zaH) (fun _ _=>rfl))) zaH))
   (ssc (sApp 4 (vix zbH (zgc (zad (vop zcR (vop zgz (vv 7) (vv 7)) zaH) (zad (vop zcR (vix zbH (vv 3) (vv 6) (fun _ _=>rfl)) (vop o_pow zaH zaH)) zax))) (vct zhT (by rfl) T.m_int zed (zad (zje (o_ne) (vix zbH (vv 3) (vv 6) (fun _ _=>rfl)) zaH (zaT _)) zax)) (fun _ _=>rfl)))
   (ss1 (sSIx 3 (vop o_divB (vix zbH (vv 3) (vv 6) (fun _ _=>rfl)) (vop o_pow zaH zaH)) (vv 6) (hg:=fun a b=>⟨pg_sub a.h b.h set_list⟩)))))))
   (ss1 (zdi (vLstRev (vv 4) (by rfl) T.m_list zcC (by rfl) T.m_reversed zfG))))))))
def zgK(T:Txt K mg)(F:FunA K "_law_sign" "_law_sign" zbk f fd):FnOk P w K mg base CX0 1 f fd ["_law_turn","_law_number"] (spD K [.v,.v] zbS):=by
 refine zbe F zgr zdQ rfl (fun _ _ h=>h) fun cdv A outer s H E hr=>?_;have hu:=zbY hr;exact(ss1 (zdi (vix zi3 vstr (vop zcR (vop zcQ (vv 0) (vop zgz (vv 1) (vop zcQ zaH (vop zcR (vop zgv (vv 0) zaH) zaH)))) zaH) (fun _ _=>rfl))))
def zdU(T:Txt K mg)(F:FunA K "_law_price" "_law_price" za4 f fd):FnOk P w K mg base CX0 1 f fd ["_law_one","_law_other"] (spD K [.v,.v] zbz):=by
 refine zbe F sc__law_price zcJ rfl (fun _ _ h=>h) fun cdv A outer s H E hr=>?_;have hu:=zbY hr;exact(ssc (zdj (i:=2) sc__law_price.nd rfl (aK rfl) (vListR (vop zcQ (vcb zg0 (by rfl) T.m_len za9 (zad (vv 1) zax)) zaH) (by rfl) T.m_list zcC (by rfl) T.m_range boot_range))
   (ssc (zi6 (iir1 (by rfl) T.m_range (zad (vcb zg0 (by rfl) T.m_len za9 (zad (vv 0) zax)) zax)) (gnm (i:=3) sc__law_price.nd rfl (aK rfl))
   (ssc (zdj (i:=4) sc__law_price.nd rfl (aK rfl) (zgc (zad (vop zcQ (vv 3) zaH) zax)))
   (ssc (zi6 (iir1 (by rfl) T.m_range (zad (vcb zg0 (by rfl) T.m_len za9 (zad (vv 1) zax)) zax)) (gnm (i:=5) sc__law_price.nd rfl (aK rfl))
   (ssc (zdj (i:=6) sc__law_price.nd rfl (aK rfl) (vop zcQ (vix zbH (vv 2) (vv 5) (fun _ _=>rfl)) (vct zhT (by rfl) T.m_int zed (zad (zje (o_ne) (vix zi3 (vv 0) (vv 3) (fun _ _=>rfl)) (vix zi3 (vv 1) (vv 5) (fun _ _=>rfl)) (zaT _)) zax))))
   (ss1 (sApp 4 (vcb c_min3 (by rfl) T.m_min ziw (zad (vv 6) (zad (vop zcQ (vix zbH (vv 2) (vop zcQ (vv 5) zaH) (fun _ _=>rfl)) zaH) (zad (vop zcQ (vix zbH (vv 4) (vv 5) (fun _ _=>rfl)) zaH) zax))))))))
   (sFrz 4 (ss1 (zdj (i:=2) sc__law_price.nd rfl (aK rfl) (vv 4)))))))
   (ss1 (zdi (vix zbH (vv 2) (vun zgE zaH) (fun _ _=>rfl))))))
def zfd(T:Txt K mg)(F:FunA K "_law_turned" "_law_turned" zaU f fd):FnOk P w K mg base CX0 1 f fd ["_law_words_here","_law_turn"] (spD K [.b,.v] zb1):=by
 refine zbe F sc__law_turned zcp rfl (fun _ _ h=>h) fun cdv A outer s H E hr=>?_;have hu:=zbY hr;exact(ssc (zdj (i:=2) sc__law_turned.nd rfl (aK rfl) (vct zeS (by rfl) T.m_list zcC (zad (vv 0) zax)))
   (ssc (zdj (i:=3) sc__law_turned.nd rfl (aK rfl) (zgc zax))
   (ssc (sWhl 12 (tcm (o_neD hr) (vv 2) (zgc zax) (zaT _))
   (ssc (sAppPop 3 2 (vop zcR (vv 1) (vcb zd2 (by rfl) T.m_len za9 (zad (vv 2) zax))))
   (ss1 (zdj (i:=1) sc__law_turned.nd rfl (aK rfl) (vop zcR (vop zcQ (vop zgz (vv 1) zaH) zaH) zaH)))))
   (ss1 (sRetV 3)))))
def zez(T:Txt K mg)(F:FunA K "__init__" "Book.__init__" zaA f fd):FnOk P w K mg base CX0 1 f fd ["self"] (spM K zar):=by
 obtain⟨C_Book,DC_Book⟩:=T.c_Book;refine zgy (n:=0) F zeF zcB rfl (fun _ _ _ h=>h) fun cdv A outer s H E hr=>?_;have hu:=zbY hr;exact(ss1 (sFNew (ns:=[]) 0 DC_Book.toF vnon))
def zdc(T:Txt K mg)(F:FunA K "__init__" "Knot.__init__" zay f fd):FnOk P w K mg base CX0 1 f fd ["self","word"] (spM K zas):=by
 obtain⟨C_Knot,DC_Knot⟩:=T.c_Knot;refine zgy (n:=1) F zeC zcF rfl (fun _ _ _ h=>h) fun cdv A outer s H E hr=>?_;have hu:=zbY hr;exact(ssc (sFNew (ns:=[]) 0 DC_Knot.toF (vv 1))
   (ss1 (sFNew (ns:=["word"]) 0 DC_Knot.toF vDI0)))
def zeX(T:Txt K mg)(F:FunA K "first_column" "first_column" zaL f fd):FnOk P w K mg base CX0 2 f fd ["pattern","prices"] (spD K [.v,.t] zbL):=by
 obtain⟨f_stepped,fd_stepped,D_stepped⟩:=T.d_stepped;have G_stepped:FnOk P w K mg base CX0 1 f_stepped fd_stepped ["cell","price"] (spD K [.v,.v] zbc):=zff T (.of D_stepped.fn);refine zbe F sc_first_column zcP rfl (fun _ _ h=>h) fun cdv A outer s H E hr=>?_;have hu:=zbY hr;exact(ssc (zdj (i:=2) sc_first_column.nd rfl (aK rfl) (zgc (zad zaH zax)))
   (ssc (zi6 (iir2 (by rfl) T.m_range (zad zaH (zad (vop zcQ (vcb zd2 (by rfl) T.m_len za9 (zad (vv 0) zax)) zaH) zax))) (gnm (i:=3) sc_first_column.nd rfl (aK rfl))
   (ss1 (sApp 2 (vcl G_stepped D_stepped hr (by rfl) zaE (zad (vix zbH (vv 2) (vop zfR (vv 3) zaH) (fun _ _=>rfl)) (zad (vix x_bt (vv 1) (vglI (by rfl) T.g_LEFT) (fun _ _=>rfl)) zax))))))
   (ss1 (zdi (vct zeM (by rfl) T.m_tuple zbo (zad (vv 2) zax))))))
def zei(T:Txt K mg)(F:FunA K "further_column" "further_column" zat f fd):FnOk P w K mg base CX0 2 f fd ["columns","pattern","text","prices","free"] (spD K [.b,.v,.v,.t,.v] zbM):=by
 obtain⟨f_cell_ahead_of_turn,fd_cell_ahead_of_turn,D_cell_ahead_of_turn⟩:=T.d_cell_ahead_of_turn;have G_cell_ahead_of_turn:FnOk P w K mg base CX0 1 f_cell_ahead_of_turn fd_cell_ahead_of_turn ["columns","pattern","text","classes"] (spD K [.b,.v,.v,.v] zaQ):=zdk T (.of D_cell_ahead_of_turn.fn);obtain⟨f_lowest,fd_lowest,D_lowest⟩:=T.d_lowest;have G_lowest:FnOk P w K mg base CX0 1 f_lowest fd_lowest ["cells"] (spD K [.v] zdA):=ok_lowest T (.of D_lowest.fn);obtain⟨f_stepped,fd_stepped,D_stepped⟩:=T.d_stepped;have G_stepped:FnOk P w K mg base CX0 1 f_stepped fd_stepped ["cell","price"] (spD K [.v,.v] zbc):=zff T (.of D_stepped.fn);refine zbe F sc_further_column zbP rfl (fun _ _ h=>h) fun cdv A outer s H E hr=>?_;have hu:=zbY hr;exact(ssc (zdj (i:=5) sc_further_column.nd rfl (aK rfl) (vix zbH (vv 0) (vun zgE zaH) (fun _ _=>rfl)))
   (ssc (zdj (i:=6) sc_further_column.nd rfl (aK rfl) (zgc (zad (vif (tva (vv 4)) zaH (vcl G_stepped D_stepped hr (by rfl) zaE (zad (vix zcG (vv 5) zaH (fun _ _=>rfl)) (zad (vix x_bt (vv 3) (vglI (by rfl) T.g_PUT) (fun _ _=>rfl)) zax)))) zax)))
   (ssc (zi6 (iir2 (by rfl) T.m_range (zad zaH (zad (vop zcQ (vcb zd2 (by rfl) T.m_len za9 (zad (vv 1) zax)) zaH) zax))) (gnm (i:=7) sc_further_column.nd rfl (aK rfl))
   (ssc (zdj (i:=8) sc_further_column.nd rfl (aK rfl) (zje (o_inS) (vix zi3 (vv 2) (vun zgE zaH) (fun _ _=>rfl)) (vix zcG (vv 1) (vop zfR (vv 7) zaH) (fun _ _=>rfl)) (by with_unfolding_all rfl)))
   (ss1 (sApp 6 (vcl G_lowest D_lowest hr (by rfl) zaE (zad (zgc (zad (vif (tva (vv 8)) (vix zcG (vv 5) (vop zfR (vv 7) zaH) (fun _ _=>rfl)) (vcl G_stepped D_stepped hr (by rfl) zaE (zad (vix zcG (vv 5) (vop zfR (vv 7) zaH) (fun _ _=>rfl)) (zad (vix x_bt (vv 3) (vglI (by rfl) T.g_EXCHANGED) (fun _ _=>rfl)) zax)))) (zad (vcl G_stepped D_stepped hr (by rfl) zaE (zad (vix zcG (vv 5) (vv 7) (fun _ _=>rfl)) (zad (vix x_bt (vv 3) (vglI (by rfl) T.g_PUT) (fun _ _=>rfl)) zax))) (zad (vcl G_stepped D_stepped hr (by rfl) zaE (zad (vix zbH (vv 6) (vop zfR (vv 7) zaH) (fun _ _=>rfl)) (zad (vix x_bt (vv 3) (vglI (by rfl) T.g_LEFT) (fun _ _=>rfl)) zax))) (zad (vcl G_stepped D_stepped hr (by rfl) zaE (zad (vcl G_cell_ahead_of_turn D_cell_ahead_of_turn hr (by rfl) zaE (zad (vv 0) (zad (vv 1) (zad (vv 2) (zad (vv 7) zax))))) (zad (vix x_bt (vv 3) (vglI (by rfl) T.g_TURNED) (fun _ _=>rfl)) zax))) zax))))) zax))))))
   (ss1 (zdi (vct zeM (by rfl) T.m_tuple zbo (zad (vv 6) zax)))))))
def zeu(T:Txt K mg)(F:FunA K "_law_word" "_law_word" zbf f fd):FnOk P w K mg base CX0 2 f fd ["_law_cell","_law_few","_law_turn"] (spD K [.v,.v,.v] zb5):=by
 obtain⟨f__law_sign,fd__law_sign,D__law_sign⟩:=T.d__law_sign;have G__law_sign:FnOk P w K mg base CX0 1 f__law_sign fd__law_sign ["_law_turn","_law_number"] (spD K [.v,.v] zbS):=zgK T (.of D__law_sign.fn);refine zbe F sc__law_word zcZ rfl (fun _ _ h=>h) fun cdv A outer s H E hr=>?_;have hu:=zbY hr;exact(ssc (zdj (i:=3) sc__law_word.nd rfl (aK rfl) vstr)
   (ssc (zdj (i:=4) sc__law_word.nd rfl (aK rfl) (vix zbH (zgc (zad (vop zcR (vv 0) zaH) (zad (vop zcR (vv 0) zaH) (zad (vop zcR (vv 0) zaH) zax)))) (vop zcR (vop zgv (vv 0) zaH) zaH) (fun _ _=>rfl)))
   (ssc (zdj (i:=0) sc__law_word.nd rfl (aK rfl) (vop zgv (vv 0) zaH))
   (ssc (zi6 (iir1 (by rfl) T.m_range (zad (vv 4) zax)) (gnm (i:=5) sc__law_word.nd rfl (aK rfl))
   (ssc (zdj (i:=3) sc__law_word.nd rfl (aK rfl) (vop o_addS (vv 3) (vcl G__law_sign D__law_sign hr (by rfl) zaE (zad (vv 2) (zad (vop zcR (vv 0) (vv 1)) zax)))))
   (ss1 (zdj (i:=0) sc__law_word.nd rfl (aK rfl) (vop zgv (vv 0) (vv 1))))))
   (ss1 (sRetV 3))))))
def zeR(T:Txt K mg)(F:FunA K "_law_due" "_law_due" zby f fd):FnOk P w K mg base CX0 2 f fd ["_law_words_here","_law_one"] (spD K [.b,.v] zbp):=by
 obtain⟨f__law_price,fd__law_price,D__law_price⟩:=T.d__law_price;have G__law_price:FnOk P w K mg base CX0 1 f__law_price fd__law_price ["_law_one","_law_other"] (spD K [.v,.v] zbz):=zdU T (.of D__law_price.fn);refine zbe F sc__law_due zdD rfl (fun _ _ h=>h) fun cdv A outer s H E hr=>?_;have hu:=zbY hr;exact(ssc (zdj (i:=2) sc__law_due.nd rfl (be rfl) (vcb c_srtP (by rfl) T.m_sorted zc7 (zad (vlc (N:=["_law_word_here","_law_one"]) (fr:=[1]) ⟨rfl,rfl,rfl,by decide +kernel,rfl,rfl⟩ (iil (vSortSetL (vv 0) (by rfl) T.m_sorted zc7 (by rfl) T.m_set boot_set)) (fun _ _ _ _=>by exact if0) (fun _ _ _ _=>by exact(vtup (zad (vcl G__law_price D__law_price hr (by rfl) zaE (zad (vv 1) (zad (vv 0) zax))) (zad (vv 0) zax))))) zax)))
   (sFrz 2 (ss1 (zdi (vlc (N:=["_law_pair","_law_pairs"]) (fr:=[2]) ⟨rfl,rfl,rfl,by decide +kernel,rfl,rfl⟩ (iil (vv 2)) (fun _ _ _ _=>by exact(if1 (tcm (o_eq) (vix zcG (vv 0) zaH (fun _ _=>rfl)) (vix zcG (vix zbH (vv 1) zaH (fun _ _=>rfl)) zaH (fun _ _=>rfl)) (zaT _)))) (fun _ _ _ _=>by exact(vv 0)))))))
def zhu(T:Txt K mg)(F:FunA K "cells_of" "cells_of" zbA f fd):FnOk P w K mg base CX0 3 f fd ["P","T","prices","free"] (spD K [.v,.v,.t,.v] zcV):=by
 obtain⟨f_first_column,fd_first_column,D_first_column⟩:=T.d_first_column;have G_first_column:FnOk P w K mg base CX0 2 f_first_column fd_first_column ["pattern","prices"] (spD K [.v,.t] zbL):=zeX T (.of D_first_column.fn);obtain⟨f_further_column,fd_further_column,D_further_column⟩:=T.d_further_column;have G_further_column:FnOk P w K mg base CX0 2 f_further_column fd_further_column ["columns","pattern","text","prices","free"] (spD K [.b,.v,.v,.t,.v] zbM):=zei T (.of D_further_column.fn);obtain⟨f_row_across,fd_row_across,D_row_across⟩:=T.d_row_across;have G_row_across:FnOk P w K mg base CX0 1 f_row_across fd_row_across ["columns","classes"] (spD K [.b,.v] zck):=zgd T (.of D_row_across.fn);refine zbe F sc_cells_of zeg rfl (fun _ _ h=>h) fun cdv A outer s H E hr=>?_;have hu:=zbY hr;exact(ssc (zdj (i:=4) sc_cells_of.nd rfl (be rfl) (zgc (zad (vcl G_first_column D_first_column hr (by rfl) zaE (zad (vv 0) (zad (vv 2) zax))) zax)))
   (ssc (zi6 (iir2 (by rfl) T.m_range (zad zaH (zad (vop zcQ (vcb zg0 (by rfl) T.m_len za9 (zad (vv 1) zax)) zaH) zax))) (gnm (i:=5) sc_cells_of.nd rfl (aK rfl))
   (ss1 (sApp 4 (vcl G_further_column D_further_column hr (by rfl) zaE (zad (vv 4) (zad (vv 0) (zad (vsl l_str (vv 1) von (vos (vv 5))) (zad (vv 2) (zad (vv 3) zax)))))))))
   (ss1 (zdi (vct zeM (by rfl) T.m_tuple zbo (zad (vlc (N:=["classes","columns"]) (fr:=[4]) ⟨rfl,rfl,rfl,by decide +kernel,rfl,rfl⟩ (iir1 (by rfl) T.m_range (zad (vop zcQ (vcb zd2 (by rfl) T.m_len za9 (zad (vv 0) zax)) zaH) zax)) (fun _ _ _ _=>by exact if0) (fun _ _ _ _=>by exact(vcl G_row_across D_row_across hr (by rfl) zaE (zad (vv 1) (zad (vv 0) zax))))) zax))))))
def zfT(T:Txt K mg)(F:FunA K "_law_words" "_law_words" za5 f fd):FnOk P w K mg base CX0 3 f fd ["_law_deck_here","_law_most"] (spM K zbv):=by
 obtain⟨f__law_word,fd__law_word,D__law_word⟩:=T.d__law_word;have G__law_word:FnOk P w K mg base CX0 2 f__law_word fd__law_word ["_law_cell","_law_few","_law_turn"] (spD K [.v,.v,.v] zb5):=zeu T (.of D__law_word.fn);refine zgy (n:=1) F sc__law_words zch rfl (fun _ _ _ h=>h) fun cdv A outer s H E hr=>?_;have hu:=zbY hr;exact(ssc (sXSet (i:=2) sc__law_words.nd rfl (be rfl) (xpop 0))
   (ssc (zdj (i:=3) sc__law_words.nd rfl (be rfl) (vop zcQ zaH (vop zcR (vv 2) zaH)))
   (ss1 (sXRet (xlc 0 1 (N:=["_law_k","_law_few","_law_deck_here","_law_turn"]) (fr:=[3,0,2]) ⟨rfl,rfl,rfl,by decide +kernel,rfl,rfl⟩ (iir1 (by rfl) T.m_range (zad (vop zcR (vop zgv (vv 2) zaH) (vop zcQ (vv 1) zaH)) zax)) (fun _ _ _ _=>by exact(xcl G__law_word D__law_word hr (by rfl) zaE (zg4 (xpop 2) (zg4 (zi1 (vv 1)) (zg4 (zi1 (vop zcR (vop zgv (vv 3) zaH) zaH)) xnil))))))))))
def zeE(T:Txt K mg)(F:FunA K "price_between" "price_between" zaz f fd):FnOk P w K mg base CX0 4 f fd ["P","T","prices"] (spD K [.v,.v,.t] zbx):=by
 obtain⟨f_cells_of,fd_cells_of,D_cells_of⟩:=T.d_cells_of;have G_cells_of:FnOk P w K mg base CX0 3 f_cells_of fd_cells_of ["P","T","prices","free"] (spD K [.v,.v,.t,.v] zcV):=zhu T D_cells_of.fn;refine zbe F zey zcz rfl (fun _ _ h=>h) fun cdv A outer s H E hr=>?_;have hu:=zbY hr;exact(ss1 (zdi (vix zcG (vix zcG (vclD G_cells_of D_cells_of hr (by rfl) zaE (zad (vv 0) (zad (vv 1) (zad (vv 2) zax)))) (vun zgE zaH) (fun _ _=>rfl)) (vun zgE zaH) (fun _ _=>rfl))))
def zco(T:Txt K mg)(F:FunA K "slips_between" "slips_between" zaB f fd):FnOk P w K mg base CX0 5 f fd ["word","other"] (spD K [.v,.v] zag):=by
 obtain⟨f_pattern_of,fd_pattern_of,D_pattern_of⟩:=T.d_pattern_of;have G_pattern_of:FnOk P w K mg base CX0 1 f_pattern_of fd_pattern_of ["W"] (spD K [.v] zcf):=zf9 T (.of D_pattern_of.fn);obtain⟨f_price_between,fd_price_between,D_price_between⟩:=T.d_price_between;have G_price_between:FnOk P w K mg base CX0 4 f_price_between fd_price_between ["P","T","prices"] (spD K [.v,.v,.t] zbx):=zeE T (.of D_price_between.fn);refine zbe F zeB zcE rfl (fun _ _ h=>h) fun cdv A outer s H E hr=>?_;have hu:=zbY hr;exact(ss1 (zdi (vcl G_price_between D_price_between hr (by rfl) zaE (zad (vcl G_pattern_of D_pattern_of hr (by rfl) zaE (zad (vv 0) zax)) (zad (vv 1) (zad (vglB (by rfl) T.u_PLAIN_PRICES) zax))))))
def ok_hang(T:Txt K mg)(F:FunA K "hang" "hang" zdn f fd):FnOk P w K mg base CX0 6 f fd ["top","word"] (spM K zfk):=by
 obtain⟨C_Knot,DC_Knot⟩:=T.c_Knot;obtain⟨f_Knot___init__,fd_Knot___init__,D_Knot___init__⟩:=T.d_Knot___init__;have G_Knot___init__:FnOk P w K mg base CX0 1 f_Knot___init__ fd_Knot___init__ ["self","word"] (spM K zas):=zdc T D_Knot___init__.fn;obtain⟨f_slips_between,fd_slips_between,D_slips_between⟩:=T.d_slips_between;have G_slips_between:FnOk P w K mg base CX0 5 f_slips_between fd_slips_between ["word","other"] (spD K [.v,.v] zag):=zco T (.of D_slips_between.fn);refine zgy (n:=1) F sc_hang F_hang rfl (fun _ _ _ h=>h) fun cdv A outer s H E hr=>?_;have hu:=zbY hr;exact(sHang (gi:=zas) DC_Knot.toF kinit (sset (i:=2) sc_hang.nd rfl (aK rfl) (wv 0)) (sset (i:=3) sc_hang.nd rfl (aK rfl) (wcl G_slips_between D_slips_between hr (by rfl) zaE (wac ⟨zet (wv 2).h rfl⟩ (wac (wv 1) wnil)))) (swhile gX (tw (tand (tcmp op_gt (wv 3) wint (zaT _)) (tand1 (tcmp op_inI (wv 3) ⟨zet (wv 2).h rfl⟩ (by with_unfolding_all rfl))))) (sc (sset (i:=2) sc_hang.nd rfl (aK rfl) (wix ix_di ⟨zet (wv 2).h rfl⟩ (wv 3) (fun _ _=>rfl))) (s1 (sset (i:=3) sc_hang.nd rfl (aK rfl) (wcl G_slips_between D_slips_between hr (by rfl) zaE (wac ⟨zet (wv 2).h rfl⟩ (wac (wv 1) wnil))))))) (sif (tcmp op_eq (wv 3) wint (zaT _)) (s1 (sret wbl)) s0) (fun tK h=>sasg h ⟨pg_sub (zet (wv 2).h rfl) (wv 3).h set_di⟩) (sret wbl) (vmake DC_Knot D_Knot___init__ G_Knot___init__ hr (by rfl) zaE (zad (vv 1) zax)))
def zcI{kC:Str->af}(hK:∀ c C,zbw K c C->C=kC c)(T:Txt K mg)(F:FunA K "near" "Book.near" zbj f fd):FnOk P w K mg base CX0 6 f fd ["self","W","most"] (spD K [.v,.v,.v] (zaf kC)):=by
 obtain⟨C_Book,DC_Book⟩:=T.c_Book;obtain⟨C_Knot,DC_Knot⟩:=T.c_Knot;obtain⟨f_knots_in_reach,fd_knots_in_reach,D_knots_in_reach⟩:=T.d_knots_in_reach;have G_knots_in_reach:FnOk P w K mg base CX0 1 f_knots_in_reach fd_knots_in_reach ["knot","price","most"] (spD K [.v,.v,.v] (za0 kC)):=zek hK T (.of D_knots_in_reach.fn);obtain⟨f_slips_between,fd_slips_between,D_slips_between⟩:=T.d_slips_between;have G_slips_between:FnOk P w K mg base CX0 5 f_slips_between fd_slips_between ["word","other"] (spD K [.v,.v] zag):=zco T (.of D_slips_between.fn);refine zbe F sc_Book_near (zcy kC) rfl (fun _ _ h=>h) fun cdv A outer s H E hr=>?_;have hu:=zbY hr;exact(ssc (sIf (tcm (o_isN) (zdW (ns:=["top"]) 0 DC_Book (hK _ _ DC_Book.at_) (vv 0)) vnon (zaT _)) (ss1 (zdi (vtup zax))) ss0)
   (ssc (zdj (i:=3) sc_Book_near.nd rfl (aK rfl) (zgc zax))
   (ssc (zdj (i:=4) sc_Book_near.nd rfl (aK rfl) (zgc (zad (zdW (ns:=["top"]) 0 DC_Book (hK _ _ DC_Book.at_) (vv 0)) zax)))
   (ssc (sWhl 1000 (tcm (o_gt) (vcb zd2 (by rfl) T.m_len za9 (zad (vv 4) zax)) zaH (zaT _))
   (ssc (sPop 4 (gnm (i:=5) sc_Book_near.nd rfl (aK rfl)))
   (ssc (zdj (i:=6) sc_Book_near.nd rfl (aK rfl) (vcl G_slips_between D_slips_between hr (by rfl) zaE (zad (zdW (ns:=["word","branches"]) 0 DC_Knot (hK _ _ DC_Knot.at_) (vv 5)) (zad (vv 1) zax))))
   (ssc (sIf (tcm (o_le) (vv 6) (vv 2) (zaT _)) (ss1 (sApp 3 (vtup (zad (vv 6) (zad (zdW (ns:=["word","branches"]) 0 DC_Knot (hK _ _ DC_Knot.at_) (vv 5)) zax))))) ss0)
   (ss1 (sExt 4 (vcl G_knots_in_reach D_knots_in_reach hr (by rfl) zaE (zad (vv 5) (zad (vv 6) (zad (vv 2) zax))))))))))
   (ss1 (zdi (vct zeM (by rfl) T.m_tuple zbo (zad (vcb c_srtP (by rfl) T.m_sorted zc7 (zad (vv 3) zax)) zax))))))))
def zeL{kC:Str->af}(hK:∀ c C,zbw K c C->C=kC c)(T:Txt K mg)(F:FunA K "_law_between" "_law_between" zaK f fd):FnOk P w K mg base CX0 7 f fd ["_law_book","_law_one","_law_other"] (spD K [.v,.v,.v] (zbn kC)):=by
 obtain⟨C_Book,DC_Book⟩:=T.c_Book;obtain⟨f_Book_near,fd_Book_near,D_Book_near⟩:=T.d_Book_near;have G_Book_near:FnOk P w K mg base CX0 6 f_Book_near fd_Book_near ["self","W","most"] (spD K [.v,.v,.v] (zaf kC)):=zcI hK T D_Book_near.fn;obtain⟨f__law_price,fd__law_price,D__law_price⟩:=T.d__law_price;have G__law_price:FnOk P w K mg base CX0 1 f__law_price fd__law_price ["_law_one","_law_other"] (spD K [.v,.v] zbz):=zdU T (.of D__law_price.fn);refine zbe F sc__law_between (zcc kC) rfl (fun _ _ h=>h) fun cdv A outer s H E hr=>?_;have hu:=zbY hr;exact(ssc (zdj (i:=3) sc__law_between.nd rfl (aK rfl) (vct c_dictP (by rfl) T.m_dict zgB (zad (vl2 (N:=["_law_price_here","_law_word_here"]) (fr:=[]) ⟨rfl,rfl,rfl,rfl,rfl⟩ rfl rfl (by decide +kernel) rfl rfl (iit (zdN (ns:=["top"]) DC_Book (hK _ _ DC_Book.at_) D_Book_near G_Book_near hr zaE (vv 0) (zad (vv 1) (zad zaH zax)))) (fun _ _ _ _=>by exact if0) (fun _ _ _ _=>by exact(vtup (zad (vv 1) (zad (vv 0) zax))))) zax)))
   (ssc (zdj (i:=4) sc__law_between.nd rfl (aK rfl) (vct c_dictP (by rfl) T.m_dict zgB (zad (vl2 (N:=["_law_price_here","_law_word_here"]) (fr:=[]) ⟨rfl,rfl,rfl,rfl,rfl⟩ rfl rfl (by decide +kernel) rfl rfl (iit (zdN (ns:=["top"]) DC_Book (hK _ _ DC_Book.at_) D_Book_near G_Book_near hr zaE (vv 0) (zad (vv 2) (zad zaH zax)))) (fun _ _ _ _=>by exact if0) (fun _ _ _ _=>by exact(vtup (zad (vv 1) (zad (vv 0) zax))))) zax)))
   (ssc (zi6 (iid (vv 3)) (gnm (i:=5) sc__law_between.nd rfl (aK rfl))
   (ss1 (sIf (tww (tor' (tcm (o_niD) (vv 5) (vv 4) (by with_unfolding_all rfl)) (ziP (tcm (o_gt) (vix x_dic (vv 3) (vv 5) (fun _ _=>rfl)) (vop zcQ (vcl G__law_price D__law_price hr (by rfl) zaE (zad (vv 1) (zad (vv 2) zax))) (vix x_dic (vv 4) (vv 5) (fun _ _=>rfl))) (zaT _))))) (ss1 (zdi vbl)) ss0)))
   (ss1 (zdi (zje (o_eq) (vcb c_lenD (by rfl) T.m_len za9 (zad (vv 3) zax)) (vcb c_lenD (by rfl) T.m_len za9 (zad (vv 4) zax)) (zaT _)))))))
def zhC(T:Txt K mg)(F:FunA K "put" "Book.put" zbu f fd):FnOk P w K mg base CX0 7 f fd ["self","W"] (spM K zaZ):=by
 obtain⟨C_Book,DC_Book⟩:=T.c_Book;obtain⟨C_Knot,DC_Knot⟩:=T.c_Knot;obtain⟨f_Knot___init__,fd_Knot___init__,D_Knot___init__⟩:=T.d_Knot___init__;have G_Knot___init__:FnOk P w K mg base CX0 1 f_Knot___init__ fd_Knot___init__ ["self","word"] (spM K zas):=zdc T D_Knot___init__.fn;obtain⟨f_hang,fd_hang,D_hang⟩:=T.d_hang;have G_hang:FnOk P w K mg base CX0 6 f_hang fd_hang ["top","word"] (spM K zfk):=ok_hang T (.of D_hang.fn);refine zgy (n:=1) F zg7 zbT rfl (fun _ _ _ h=>h) fun cdv A outer s H E hr=>?_;have hu:=zbY hr;exact(ssc (sIf (vFIs (ns:=["top"]) 0 0 DC_Book.toF) (ssc (sFSet (ns:=["top"]) 0 0 DC_Book.toF (vmake DC_Knot D_Knot___init__ G_Knot___init__ hr (by rfl) zaE (zad (vv 1) zax)))
   (ss1 (zdi vbl))) ss0)
   (ss1 (sXRet (xcof (ns:=["top"]) 0 0 DC_Book.toF G_hang D_hang hr (by rfl) zaE (zad (vv 1) zax)))))
def zdv{kC:Str->af}(hK:∀ c C,zbw K c C->C=kC c)(T:Txt K mg)(F:FunA K "nearest" "Book.nearest" zaJ f fd):FnOk P w K mg base CX0 7 f fd ["self","W"] (spD K [.v,.v] (zaj kC)):=by
 obtain⟨C_Book,DC_Book⟩:=T.c_Book;obtain⟨C_Knot,DC_Knot⟩:=T.c_Knot;obtain⟨f_Book_near,fd_Book_near,D_Book_near⟩:=T.d_Book_near;have G_Book_near:FnOk P w K mg base CX0 6 f_Book_near fd_Book_near ["self","W","most"] (spD K [.v,.v,.v] (zaf kC)):=zcI hK T D_Book_near.fn;obtain⟨f_slips_between,fd_slips_between,D_slips_between⟩:=T.d_slips_between;have G_slips_between:FnOk P w K mg base CX0 5 f_slips_between fd_slips_between ["word","other"] (spD K [.v,.v] zag):=zco T (.of D_slips_between.fn);refine zbe F sc_Book_nearest (zbK kC) rfl (fun _ _ h=>h) fun cdv A outer s H E hr=>?_;have hu:=zbY hr;exact(ssc (sIf (tcm (o_isN) (zdW (ns:=["top"]) 0 DC_Book (hK _ _ DC_Book.at_) (vv 0)) vnon (zaT _)) (ss1 (zdi (vtup zax))) ss0)
   (ssc (zdj (i:=2) sc_Book_nearest.nd rfl (be rfl) (zdN (ns:=["top"]) DC_Book (hK _ _ DC_Book.at_) D_Book_near G_Book_near hr zaE (vv 0) (zad (vv 1) (zad (vcl G_slips_between D_slips_between hr (by rfl) zaE (zad (zdW (ns:=["word","branches"]) 0 DC_Knot (hK _ _ DC_Knot.at_) (zdW (ns:=["top"]) 0 DC_Book (hK _ _ DC_Book.at_) (vv 0))) (zad (vv 1) zax))) zax))))
   (ss1 (zdi (vct zeM (by rfl) T.m_tuple zbo (zad (vl2 (N:=["price","word","told"]) (fr:=[2]) ⟨rfl,rfl,rfl,rfl,rfl⟩ rfl rfl (by decide +kernel) rfl rfl (iit (vv 2)) (fun _ _ _ _=>by exact(if1 (tcm (o_eq) (vv 0) (vix zcG (vix zcG (vv 2) zaH (fun _ _=>rfl)) zaH (fun _ _=>rfl)) (zaT _)))) (fun _ _ _ _=>by exact(vtup (zad (vv 0) (zad (vv 1) zax))))) zax))))))
def zgf{kC:Str->af}(hK:∀ c C,zbw K c C->C=kC c)(T:Txt K mg)(F:FunA K "_law_right" "_law_right" za8 f fd):FnOk P w K mg base CX0 8 f fd ["_law_book","_law_other","_law_words_here","_law_one"] (spD K [.v,.v,.b,.v] (zbV kC)):=by
 obtain⟨C_Book,DC_Book⟩:=T.c_Book;obtain⟨f_Book_near,fd_Book_near,D_Book_near⟩:=T.d_Book_near;have G_Book_near:FnOk P w K mg base CX0 6 f_Book_near fd_Book_near ["self","W","most"] (spD K [.v,.v,.v] (zaf kC)):=zcI hK T D_Book_near.fn;obtain⟨f_Book_nearest,fd_Book_nearest,D_Book_nearest⟩:=T.d_Book_nearest;have G_Book_nearest:FnOk P w K mg base CX0 7 f_Book_nearest fd_Book_nearest ["self","W"] (spD K [.v,.v] (zaj kC)):=zdv hK T D_Book_nearest.fn;obtain⟨f__law_due,fd__law_due,D__law_due⟩:=T.d__law_due;have G__law_due:FnOk P w K mg base CX0 2 f__law_due fd__law_due ["_law_words_here","_law_one"] (spD K [.b,.v] zbp):=zeR T (.of D__law_due.fn);refine zbe F sc__law_right (zci kC) rfl (fun _ _ h=>h) fun cdv A outer s H E hr=>?_;have hu:=zbY hr;exact(ssc (zdj (i:=4) sc__law_right.nd rfl (aK rfl) (vcl G__law_due D__law_due hr (by rfl) zaE (zad (vv 2) (zad (vv 3) zax))))
   (ssc (zdj (i:=5) sc__law_right.nd rfl (aK rfl) (zdN (ns:=["top"]) DC_Book (hK _ _ DC_Book.at_) D_Book_nearest G_Book_nearest hr zaE (vv 0) (zad (vv 3) zax)))
   (ssc (sIf (tww (tor' (tnt (tva (visi (vv 5) (by rfl) T.m_isinstance zb3 (by rfl) T.m_tuple zbo))) (tor' (tcm (o_neD hr) (vct zeS (by rfl) T.m_list zcC (zad (vv 5) zax)) (vv 4) (zaT _)) (ziP (tcm (o_neD hr) (zdN (ns:=["top"]) DC_Book (hK _ _ DC_Book.at_) D_Book_nearest G_Book_nearest hr zaE (vv 1) (zad (vv 3) zax)) (vv 5) (zaT _)))))) (ss1 (zdi vbl)) ss0)
   (ssc (zi6 (iit (vv 5)) (gnm (i:=6) sc__law_right.nd rfl (aK rfl))
   (ss1 (sIf (tww (tor' (tnt (tva (visi (vv 6) (by rfl) T.m_isinstance zb3 (by rfl) T.m_tuple zbo))) (tor' (tnt (tva (visi (vix zcG (vv 6) zaH (fun _ _=>rfl)) (by rfl) T.m_isinstance zb3 (by rfl) T.m_int zed))) (ziP (tva (visi (vix zcG (vv 6) zaH (fun _ _=>rfl)) (by rfl) T.m_isinstance zb3 (by rfl) T.m_bool boot_bool)))))) (ss1 (zdi vbl)) ss0)))
   (ssc (sIf (tcm (zhc hr) (vv 5) (vtup zax) (zaT _)) (ss1 (zdi (zje (zhc hr) (zdN (ns:=["top"]) DC_Book (hK _ _ DC_Book.at_) D_Book_near G_Book_near hr zaE (vv 0) (zad (vv 3) (zad zaH zax))) (vtup zax) (zaT _)))) ss0)
   (ss1 (zdi (vand (zje (zhc hr) (zdN (ns:=["top"]) DC_Book (hK _ _ DC_Book.at_) D_Book_near G_Book_near hr zaE (vv 0) (zad (vv 3) (zad (vix zcG (vix zcG (vv 5) zaH (fun _ _=>rfl)) zaH (fun _ _=>rfl)) zax))) (vv 5) (zaT _)) (vone (zje (zhc hr) (zdN (ns:=["top"]) DC_Book (hK _ _ DC_Book.at_) D_Book_near G_Book_near hr zaE (vv 1) (zad (vv 3) (zad (vix zcG (vix zcG (vv 5) zaH (fun _ _=>rfl)) zaH (fun _ _=>rfl)) zax))) (vv 5) (zaT _)))))))))))
def zfO{kC:Str->af}(hK:∀ c C,zbw K c C->C=kC c)(T:Txt K mg)(F:FunA K "_law_grows" "_law_grows" za7 f fd):FnOk P w K mg base CX0 8 f fd ["_law_book","_law_words_here","_law_one"] (spD K [.v,.b,.v] (zbW kC)):=by
 obtain⟨C_Book,DC_Book⟩:=T.c_Book;obtain⟨f_Book_near,fd_Book_near,D_Book_near⟩:=T.d_Book_near;have G_Book_near:FnOk P w K mg base CX0 6 f_Book_near fd_Book_near ["self","W","most"] (spD K [.v,.v,.v] (zaf kC)):=zcI hK T D_Book_near.fn;obtain⟨f_Book_nearest,fd_Book_nearest,D_Book_nearest⟩:=T.d_Book_nearest;have G_Book_nearest:FnOk P w K mg base CX0 7 f_Book_nearest fd_Book_nearest ["self","W"] (spD K [.v,.v] (zaj kC)):=zdv hK T D_Book_nearest.fn;obtain⟨f__law_due,fd__law_due,D__law_due⟩:=T.d__law_due;have G__law_due:FnOk P w K mg base CX0 2 f__law_due fd__law_due ["_law_words_here","_law_one"] (spD K [.b,.v] zbp):=zeR T (.of D__law_due.fn);refine zbe F sc__law_grows (zcL kC) rfl (fun _ _ h=>h) fun cdv A outer s H E hr=>?_;have hu:=zbY hr;exact(ssc (zdj (i:=3) sc__law_grows.nd rfl (aK rfl) (vcl G__law_due D__law_due hr (by rfl) zaE (zad (vv 1) (zad (vv 2) zax))))
   (ss1 (zdi (vand (zje (zhc hr) (vct zeS (by rfl) T.m_list zcC (zad (zdN (ns:=["top"]) DC_Book (hK _ _ DC_Book.at_) D_Book_nearest G_Book_nearest hr zaE (vv 0) (zad (vv 2) zax)) zax)) (vv 3) (zaT _)) (vone (zje (zhc hr) (vct zeS (by rfl) T.m_list zcC (zad (zdN (ns:=["top"]) DC_Book (hK _ _ DC_Book.at_) D_Book_near G_Book_near hr zaE (vv 0) (zad (vv 2) (zad (vix zcG (vix zbH (vv 3) zaH (fun _ _=>rfl)) zaH (fun _ _=>rfl)) zax))) zax)) (vv 3) (zaT _)))))))
def zex{kC:Str->af}(hK:∀ c C,zbw K c C->C=kC c)(T:Txt K mg):∀ (r:Nat) {f:af} {fd:bw},FunA K "tree_from" "tree_from" zbg f fd->FnOk P w K mg base CX0 (1+r) f fd ["knot"] (spD K [.v] (zaG kC r))
 | 0,f,fd,F=>zbe F sc_tree_from fNev rfl (fun _ _ h=>h) fun cdv A outer s H E hr=>ssNev
 | r+1,f,fd,F=>by
  obtain⟨C_Knot,DC_Knot⟩:=T.c_Knot;obtain⟨f_tree_from,fd_tree_from,D_tree_from⟩:=T.d_tree_from;have G_tree_from:FnOk P w K mg base CX0 (1+r) f_tree_from fd_tree_from ["knot"] (spD K [.v] (zaG kC r)):=zex hK T r (.of D_tree_from.fn);refine zbe (k:=1+r) F sc_tree_from (zc2 kC (zaG kC r)) rfl (fun _ _ h=>h) fun cdv A outer s H E hr=>?_;have hu:=zbY hr;exact(ssc (zdj (i:=1) sc_tree_from.nd rfl (aK rfl) (zgc zax))
   (ssc (zi6 (iil (vcb c_srtDi (by rfl) T.m_sorted zc7 (zad (zdW (ns:=["word","branches"]) 1 DC_Knot (hK _ _ DC_Knot.at_) (vv 0)) zax))) (gnm (i:=2) sc_tree_from.nd rfl (aK rfl))
   (ss1 (sApp 1 (vtup (zad (vv 2) (zad (vcl G_tree_from D_tree_from hr (by rfl) zaE (zad (vix x_di (zdW (ns:=["word","branches"]) 1 DC_Knot (hK _ _ DC_Knot.at_) (vv 0)) (vv 2) (fun _ _=>rfl)) zax) (hjk:=au _)) zax))))))
   (ss1 (zdi (vtup (zad (zdW (ns:=["word","branches"]) 0 DC_Knot (hK _ _ DC_Knot.at_) (vv 0)) (zad (vct zeM (by rfl) T.m_tuple zbo (zad (vv 1) zax)) zax)))))))
def zgR{kC:Str->af}(hK:∀ c C,zbw K c C->C=kC c)(T:Txt K mg)(F:FunA K "tree" "Book.tree" zbi f fd):FnOk P w K mg base CX0 18 f fd ["self"] (spD K [.v] (zap kC)):=by
 obtain⟨C_Book,DC_Book⟩:=T.c_Book;obtain⟨f_tree_from,fd_tree_from,D_tree_from⟩:=T.d_tree_from;have G_tree_from:FnOk P w K mg base CX0 17 f_tree_from fd_tree_from ["knot"] (spD K [.v] (zaG kC 16)):=zex hK T 16 (.of D_tree_from.fn);refine zbe F zgN (zcx kC) rfl (fun _ _ h=>h) fun cdv A outer s H E hr=>?_;have hu:=zbY hr;exact(ssc (sIf (tcm (o_isN) (zdW (ns:=["top"]) 0 DC_Book (hK _ _ DC_Book.at_) (vv 0)) vnon (zaT _)) (ss1 (zdi vnon)) ss0)
   (ss1 (zdi (vcl G_tree_from D_tree_from hr (by rfl) zaE (zad (zdW (ns:=["top"]) 0 DC_Book (hK _ _ DC_Book.at_) (vv 0)) zax)))))
def ok_law(T:Txt K mg)(F:FunA K "law" "law" zdO f fd):FnOk P w K mg base CX0 19 f fd ["_law_script"] (spD K [.b] g_law):=by
 obtain⟨C_Book,DC_Book⟩:=T.c_Book;obtain⟨kC,hK⟩:=kC_ex K;obtain⟨f_Book___init__,fd_Book___init__,D_Book___init__⟩:=T.d_Book___init__;have G_Book___init__:FnOk P w K mg base CX0 1 f_Book___init__ fd_Book___init__ ["self"] (spM K zar):=zez T D_Book___init__.fn;obtain⟨f_Book_put,fd_Book_put,D_Book_put⟩:=T.d_Book_put;have G_Book_put:FnOk P w K mg base CX0 7 f_Book_put fd_Book_put ["self","W"] (spM K zaZ):=zhC T D_Book_put.fn;obtain⟨f_Book_tree,fd_Book_tree,D_Book_tree⟩:=T.d_Book_tree;have G_Book_tree:FnOk P w K mg base CX0 18 f_Book_tree fd_Book_tree ["self"] (spD K [.v] (zap kC)):=zgR hK T D_Book_tree.fn;obtain⟨f__law_between,fd__law_between,D__law_between⟩:=T.d__law_between;have G__law_between:FnOk P w K mg base CX0 7 f__law_between fd__law_between ["_law_book","_law_one","_law_other"] (spD K [.v,.v,.v] (zbn kC)):=zeL hK T (.of D__law_between.fn);obtain⟨f__law_deck,fd__law_deck,D__law_deck⟩:=T.d__law_deck;have G__law_deck:FnOk P w K mg base CX0 1 f__law_deck fd__law_deck ["_law_cells","_law_many"] (spD K [.b,.v] zcb):=zgF T (.of D__law_deck.fn);obtain⟨f__law_grows,fd__law_grows,D__law_grows⟩:=T.d__law_grows;have G__law_grows:FnOk P w K mg base CX0 8 f__law_grows fd__law_grows ["_law_book","_law_words_here","_law_one"] (spD K [.v,.b,.v] (zbW kC)):=zfO hK T (.of D__law_grows.fn);obtain⟨f__law_right,fd__law_right,D__law_right⟩:=T.d__law_right;have G__law_right:FnOk P w K mg base CX0 8 f__law_right fd__law_right ["_law_book","_law_other","_law_words_here","_law_one"] (spD K [.v,.v,.b,.v] (zbV kC)):=zgf hK T (.of D__law_right.fn);obtain⟨f__law_turned,fd__law_turned,D__law_turned⟩:=T.d__law_turned;have G__law_turned:FnOk P w K mg base CX0 1 f__law_turned fd__law_turned ["_law_words_here","_law_turn"] (spD K [.b,.v] zb1):=zfd T (.of D__law_turned.fn);obtain⟨f__law_word,fd__law_word,D__law_word⟩:=T.d__law_word;have G__law_word:FnOk P w K mg base CX0 2 f__law_word fd__law_word ["_law_cell","_law_few","_law_turn"] (spD K [.v,.v,.v] zb5):=zeu T (.of D__law_word.fn);obtain⟨f__law_words,fd__law_words,D__law_words⟩:=T.d__law_words;have G__law_words:FnOk P w K mg base CX0 3 f__law_words fd__law_words ["_law_deck_here","_law_most"] (spM K zbv):=zfT T (.of D__law_words.fn);refine zbe F sc_law F_law rfl (fun _ _ h=>h) fun cdv A outer s H E hr=>?_;have hu:=zbY hr;exact(ssc (sSetL' (i:=1) (by decide) sc_law.nd rfl (be rfl) (vcl G__law_deck D__law_deck hr (by rfl) zaE (zad (vsl zik (vv 0) von (vos zaH)) (zad zaH zax))))
   (ssc (sXSet (i:=2) sc_law.nd rfl (aK rfl) (xco 1 G__law_words D__law_words hr (by rfl) zaE (zg4 (zi1 zaH) xnil)))
   (ssc (sXSet (i:=3) sc_law.nd rfl (be rfl) (xpop 1))
   (ssc (sXSet (i:=4) sc_law.nd rfl (aK rfl) (xop o_cat (xlc 1 0 (N:=["_law_k","_law_deck_here","_law_turn"]) (fr:=[1,3]) ⟨rfl,rfl,rfl,by decide +kernel,rfl,rfl⟩ (iir1 (by rfl) T.m_range (zad zaH zax)) (fun _ _ _ _=>by exact(xcl G__law_word D__law_word hr (by rfl) zaE (zg4 (xpop 1) (zg4 (zi1 (vop zcQ zaH (vop zcR (vv 2) zaH))) (zg4 (zi1 (vop zcR (vop zgv (vv 2) zaH) zaH)) xnil)))))) (zi1 (vsl zik (vv 2) von (vos zaH)))))
   (ssc (sIf (tcm (o_eq) (vop zcR (vop zgv (vv 3) zaH) zaH) zaH (zaT _)) (ssc (sSetLC (i:=2) sc_law.nd rfl (aK rfl) (N:=["_law_word_here"]) (fr:=[]) ⟨rfl,rfl,rfl,by decide +kernel,rfl,rfl⟩ (iil (vsl zik (vv 2) von (vos zaH))) (fun _ _ _ _=>by exact if0) (fun _ _ _ _=>by exact(vsl l_str (vop o_mulS (vv 0) zaH) von (vos zaH))))
   (ss1 (zdj (i:=4) sc_law.nd rfl (aK rfl) (vop o_cat (zgc (zad vstr (zad (vsl l_str (vix zbH (vv 4) zaH (fun _ _=>rfl)) von (vos zaH)) zax))) (vsl zik (vv 4) (vos zaH) von))))) ss0)
   (ssc (sSetO (i:=5) (by decide) sc_law.nd rfl (aK rfl) (vmake0 DC_Book D_Book___init__ G_Book___init__ hr (by rfl) zaE))
   (ssc (sSetO (i:=6) (by decide) sc_law.nd rfl (aK rfl) (vmake0 DC_Book D_Book___init__ G_Book___init__ hr (by rfl) zaE))
   (ssc (zdj (i:=7) sc_law.nd rfl (aK rfl) (zgc zax))
   (sFrzA 2 (ssc (zi6 (iil (vv 2)) (gnm (i:=8) sc_law.nd rfl (aK rfl))
   (ss1 (sX (xmeth (ns:=["top"]) 5 DC_Book D_Book_put G_Book_put hr zaE (zad (vv 8) zax)))))
   (ssc (zi6 (iil (vcl G__law_turned D__law_turned hr (by rfl) zaE (zad (vv 2) (zad (vv 3) zax)))) (gnm (i:=8) sc_law.nd rfl (aK rfl))
   (ssc (sApp 7 (vv 8))
   (ssc (sX (xmeth (ns:=["top"]) 6 DC_Book D_Book_put G_Book_put hr zaE (zad (vv 8) zax)))
   (ss1 (sIf (tnt (tva (vld (g:=zbW) hK G__law_grows D__law_grows hr (by rfl) zaE (vlo 6 (vlb (vv 7) (vlv (vix zbH (vv 4) (vop zcR (vcb zd2 (by rfl) T.m_len za9 (zad (vv 7) zax)) (vcb zd2 (by rfl) T.m_len za9 (zad (vv 4) zax))) (fun _ _=>rfl)) vln)))))) (ss1 (zdi vbl)) ss0)))))
   (ssc (zdj (i:=7) sc_law.nd rfl (aK rfl) (zgc (zad (vldM0 (g:=zap) (ns:=["top"]) 5 hK DC_Book D_Book_tree G_Book_tree hr zaE) (zad (vldM0 (g:=zap) (ns:=["top"]) 6 hK DC_Book D_Book_tree G_Book_tree hr zaE) zax))))
   (sFrzA 4 (ssc (zi6 (iil (vv 4)) (gnm (i:=9) sc_law.nd rfl (aK rfl))
   (ss1 (sIf (tnt (tva (vld (g:=zbV) hK G__law_right D__law_right hr (by rfl) zaE (vlo 5 (vlo 6 (vlb (vv 2) (vlv (vv 9) vln))))))) (ss1 (zdi vbl)) ss0)))
   (ss1 (zdi (vand (vld (g:=zbn) hK G__law_between D__law_between hr (by rfl) zaE (vlo 5 (vlv (vix zbH (vv 4) zaH (fun _ _=>rfl)) (vlv (vix zbH (vv 4) zaH (fun _ _=>rfl)) vln)))) (vone (zje (zhc hr) (zgc (zad (vldM0 (g:=zap) (ns:=["top"]) 5 hK DC_Book D_Book_tree G_Book_tree hr zaE) (zad (vldM0 (g:=zap) (ns:=["top"]) 6 hK DC_Book D_Book_tree G_Book_tree hr zaE) zax))) (vv 7) (zaT _))))))))))))))))))))
end
end N53

namespace N53
open PySem L2 L3
open CE in
def zcu(c:Option Int)(q:Int):zbc [oD c,.int q]=aa (.val (oD (stp c q))):=by
 cases c with
 | none=>simp (disch:=omega) only[zbc,zcS,stE,stN,oD,jqc,jqa,zds,zaX,fIf,fOr,tOf,ex2,zab,aJ,jqk,eC,ziC,isN,gEq,zb2,toN,fNx,zcw,jqe,bOf,jqf,zc3,jra,sqO,zf4,stp,jqd,ite_self]
 | some i=>
  by_cases h:q=0
  ·simp (disch:=omega) only[zbc,zcS,stE,stN,oD,h,jqc,jqa,zds,zaX,fIf,fOr,tOf,ex2,zab,aJ,jqk,eC,ziC,isN,gEq,zb2,toN,fNx,zcw,jqe,bOf,jqf,zc3,jqy,jqr,jrb,jra,sqO,zf4,stp]
  ·simp (disch:=omega) only[zbc,zcS,stE,stN,oD,jqc,jqa,zds,zaX,fIf,fOr,tOf,ex2,zab,aJ,jqk,eC,ziC,isN,gEq,zb2,toN,fNx,zcw,jqe,bOf,jqf,zc3,h,jqz,jqr,jrb,sqO,pI0,iOf,zf4,stp]
open CE in
def zhh(δ:En)(cs:List (Option Int)):zcO (fun d=>zdR (cEn [] δ d)) (fun d=>zdT (cEn [] δ d)) (cs.map oD)=aa ((cs.filterMap id).map D.int):=by
 induction cs with
 | nil=>rfl
 | cons c cs ih=>
  rw[aF,zcO,ih];cases c with
  | none=>rfl
  | some i=>rfl
open CE in
def lowest_q(cs:List (Option Int))(d:D)(hd:qOf (.val d)=aa (cs.map oD))(h:cs.length<=1000000):zdA [d]=aa (.val (oD (lw cs))):=by
 have hE:eLC [] (qV (zab 0)) zdR zdT [aa (.val d)]=aa (.own ((cs.filterMap id).map D.int)):=
  zev (by unfold qV;exact hd) (zhh _ cs) (by rw[al];exact bp (List.length_filterMap_le _ _) h)
 simp (disch:=omega) only[zdA,zcS,stE,stN,jqc,jqa,zfU,zb2,ex2,aJ,jqk,eC,gMinD,asL,toN,hE,intsD_map];cases hm:minI (cs.filterMap id) with
 | none=>simp (disch:=omega) only[jqa,jqc,zf4,oD,lw,hm]
 | some m=>simp (disch:=omega) only[jqa,jqc,zf4,oD,lw,hm]
open CE in
def lowest_eq(cs:List (Option Int))(h:cs.length<=1000000):zdA [.lst (cs.map oD)]=aa (.val (oD (lw cs))):=lowest_q cs _ rfl h
def zho(c:Nat->Nat->Option Int)(n a:Nat):D:=.tup ((ax (n+1)).map fun j=>CE.oD (c a j))
def _root_.CE.Pr.ds(p:CE.Pr):List D:=[.int p.put,.int p.left,.int p.exch,.int p.turn]
def zb8(c:Nat->Nat->Option Int)(m j:Nat):D:=.tup ((ax (m+1)).map fun i=>CE.oD (c i j))
def zew(f:Nat->D)(n:Nat){k:Int}(h0:0<=k)(h:k.toNat<=n):atI ((ax (n+1)).map f) k=aa (f k.toNat):=by
 refine zcm h0 ?_;rw[aD,cr (by lia)];rfl
def zeG(f:Nat->D)(n:Nat):atI ((ax (n+1)).map f) (-1)=aa (f n):=atI_m1 (by rw[cG,bz];simp)
def atI_m2{α:Type}{xs:List α}{x:α}(h2:2<=xs.length)(h:xs[xs.length - 2]? = aa x):atI xs (-2)=aa x:=by
 unfold atI ixN;rw[if_neg (by lia),if_pos (by lia)];show xs[(-2+(xs.length:Int)).toNat]? = _;rw[show(-2+(xs.length:Int)).toNat=xs.length - 2 by lia];exact h
def rng_last2(f:Nat->D)(n:Nat):atI ((ax (n+1+1)).map f) (-2)=aa (f n):=by
 refine atI_m2 (by simp) ?_;rw[al,bZ,show n+1+1 - 2=n by lia,aD,cr (by lia)];rfl
structure Win(c:Nat->Nat->Option Int)(fit:Nat->Nat->Bool)(P:List Str)(j:Nat)(cs:List D)(tx:List Nat):Prop where
 l:tx.length<=1000000
 c1:atI cs (-1)=aa (zb8 c P.length j)
 s1:∃ t,atI tx (-1)=aa t/\∀ i,i<P.length->inS (mkS [t]) (P.getD i (mkS []))=fit i j
 two:(tx.length<2/\j=0) \/ (2<=tx.length/\0<j/\atI cs (-2)=aa (zb8 c P.length (j - 1))/\∃ t,atI tx (-2)=aa t/\∀ i,i<P.length->inS (mkS [t]) (P.getD i (mkS []))=fit i (j - 1))
open CE in
def ahead_eq{c:Nat->Nat->Option Int}{fit:Nat->Nat->Bool}{P:List Str}{j:Nat}{cs:List D}{tx:List Nat}(W:Win c fit P j cs tx)(i:Nat)(hi:i<P.length) :
  zaQ [.lst cs,.tup (P.map .str),.str (mkS tx),.int (1+(i:Int))]=aa (.val (oD (tc fit c i j))):=by
 have hl:tx.length<=1000000:=W.l
 suffices hF:zaP [aa (.bor cs),aa (.val (.tup (P.map .str))),aa (.val (.str (mkS tx))),aa (.val (.int (1+(i:Int))))]=aa (.rt (.val (oD (tc fit c i j))) [aa (.bor cs),aa (.val (.tup (P.map .str))),aa (.val (.str (mkS tx))),aa (.val (.int (1+(i:Int))))]) from
  (congrArg (fun o=>cv o _) hF).trans rfl
 have t1:=orLt (X:=zab 3) (Y:=eCB zdM (zaa (zab 2) zae)) (c:=2) (δ:=[aa (.bor cs),aa (.val (.tup (P.map .str))),aa (.val (.str (mkS tx))),aa (.val (.int (1+(i:Int))))]) rfl (lenZ rfl (zb9 tx) hl);by_cases h:0<i/\2<=tx.length
 ·rcases W.two with ⟨h2,_⟩ | ⟨_,hj,q2,t',e2,g2⟩
  ·lia
  ·obtain⟨t,e1,g1⟩:=W.s1;have hi1:i - 1<P.length:=fP (Nat.sub_le _ _) hi;have ht:tc fit c i j=if (fit i (j - 1) && fit (i - 1) j)=true then c (i - 1) (j - 1) else ab:=by unfold tc;rw[if_pos ⟨h.1,hj⟩]
   have k1:1+(i:Int) - 1=(i:Int):=by lia
   have k2:1+(i:Int) - 2=((i - 1:Nat):Int):=by lia
   have a3:=zeh D.str (mkS []) (xs:=P) (i:=(i:Int)) (dD _) (by simpa using hi);have a4:=zeh D.str (mkS []) (xs:=P) (i:=((i - 1:Nat):Int)) (dD _) (by simpa using hi1);have a6:atI ((ax (P.length+1)).map fun k=>oD (c k (j - 1))) ((i - 1:Nat):Int)=aa (oD (c (i - 1) (j - 1))):=by
    rw[zew _ _ (dD _) (by simp;lia)];rfl
   have f1:=g2 i hi;have f2:=g1 (i - 1) hi1;have s1:=subI (E:=zab 3) (F:=eC (.int 1)) (δ:=[aa (.bor cs),aa (.val (.tup (P.map .str))),aa (.val (.str (mkS tx))),aa (.val (.int (1+(i:Int))))]) rfl rfl;have s2:=subI (E:=zab 3) (F:=eC (.int 2)) (δ:=[aa (.bor cs),aa (.val (.tup (P.map .str))),aa (.val (.str (mkS tx))),aa (.val (.int (1+(i:Int))))]) rfl rfl;rw[k1] at s1;rw[k2] at s2;have n1:=niSS (ixSS (E:=zab 2) (F:=ex1 zhw (eC (.int 2))) rfl hl rfl e2) (zh9 (E:=zab 1) rfl s1 a3);have n2:=niSS (ixSS (E:=zab 2) (F:=ex1 zhw (eC (.int 1))) rfl hl rfl e1) (zh9 (E:=zab 1) rfl s2 a4);have t2:=orB n1 n2;rw[cO,cO,f1,f2,<- Bool.not_and] at t2;rw[decide_eq_false (by lia)] at t1;refine(show zaP _=_ from zaI (zhN t1)).trans ?_;rw[ht];cases v:(fit i (j - 1) && fit (i - 1) j) with
   | false=>rw[v] at t2;exact fSeqR ((fIfT t2).trans (zen rfl))
   | true=>rw[v] at t2;exact(zaI (zhN t2)).trans (zen (zh9 (ixLB rfl rfl q2) s2 a6))
 ·have ht:tc fit c i j=ab:=by
   unfold tc;rw[if_neg];intro q;rcases W.two with ⟨h2,hj⟩ | ⟨h2,_⟩
   ·lia
   ·exact h ⟨q.1,h2⟩
  rw[decide_eq_true (by lia)] at t1;rw[ht];exact show zaP _=_ from fSeqR ((fIfT t1).trans (zen rfl))
open CE in
def zha(P:List Str)(p:Pr)(free:Bool)(fit:Nat->Nat->Bool)(k:Nat)(hk:k<P.length)(hP:P.length<=100000) :
  zbC [aa (.val (.tup (P.map .str))),aa (.bt p.ds),aa (.own ((ax (k+1)).map fun i=>oD (cel fit p free i 0))),aa (.val (.int (1+(k:Int))))] =
  aa (.nx [aa (.val (.tup (P.map .str))),aa (.bt p.ds),aa (.own ((ax (k+1+1)).map fun i=>oD (cel fit p free i 0))),aa (.val (.int (1+(k:Int))))]):=by
 have hl:(((ax (k+1)).map fun i=>oD (cel fit p free i 0))).length<1000000:=by simp;lia
 have hx:atI ((ax (k+1)).map fun i=>oD (cel fit p free i 0)) (1+(k:Int) - 1)=aa (oD (cel fit p free k 0)):=by
  rw[zew _ _ (by lia) (by lia),show(1+(k:Int) - 1).toNat=k by lia]
 have h0:atI [D.int p.put,D.int p.left,D.int p.exch,D.int p.turn] 1=aa (.int p.left):=rfl;have e:(ax (k+1+1)).map (fun i=>oD (cel fit p free i 0))=(ax (k+1)).map (fun i=>oD (cel fit p free i 0)) ++ [oD (cel fit p free (k+1) 0)]:=by
  rw[cG (n:=k+1),bz];rfl
 rw[e,zgk];simp (disch:=omega) only[zbC,zhb,Pr.ds,jqf,jqe,zaM,zaa,ex2,zab,eC,ziz,pI0,iOf,jqa,jqc,zca,asL,hx,ziZ,btOf,h0,zae,zbF,ze9,asV,zcu,zbr,jqh,jqg,zah]
open CE in
def firstc_eq(P:List Str)(p:Pr)(free:Bool)(fit:Nat->Nat->Bool)(hP:P.length<=100000) :
  zbL [.tup (P.map .str),.tup p.ds]=aa (.val (zb8 (cel fit p free) P.length 0)):=by
 obtain⟨δ',w1,kv,rfl⟩:=zcg (tg:=gNm 3) (f:=zbC) (fun k δ=>∃ kv,δ=[aa (.val (.tup (P.map .str))),aa (.bt p.ds),aa (.own ((ax (k+1)).map fun i=>oD (cel fit p free i 0))),kv])
  ((ax P.length).map fun(k:Nat)=>D.int (1+(k:Int))) 0 _ (fun k d δ hd hδ=>by
   obtain⟨kv,rfl⟩:=hδ;rw[ck];rw[aD] at hd;have hk:k<P.length:=by
    cases q:(ax P.length)[k]? with
    | none=>rw[q] at hd;cases hd
    | some z=>have:=(a9.mp q).1;simpa using this
   rw[cr hk] at hd;cases hd;exact⟨_,_,rfl,.inl (zha P p free fit k hk hP),_,rfl⟩) ⟨ab,rfl⟩
 have hb1:b62 1:=zcM (by decide);have hb2:b62 ((P.length:Int)+1):=zcM (by lia);have hn:((P.length:Int)+1 - 1).toNat=P.length:=by lia
 have hl:P.length<=100000:=hP;simp only[al,bZ,ck] at w1;simp only[cG (n:=0),fq,cj,aF,bK,zeO,oD_s,oD_n] at w1;simp (disch:=omega) only[zbL,zcS,stE,stN,jqc,jqa,zcP,zaX,zcr,zcN,zaa,eC,zae,jqp,jqq,Nat.reduceLeDiff,ze5,asV,jra,aJ,toN,zcw,sqO,zfW,iR2,ex2,eCB,zab,pI0,iOf,jqi,jqj,jqh,jqg,jqe,zbJ,ze4,al,zdG,jre,hn,zah,w1,zb2,jqf,zep,asL,zf4,zb8]
open CE in
def zgw(P:List Str)(p:Pr)(free:Bool)(fit:Nat->Nat->Bool)(cs:List D)(tx:List Nat)(j k:Nat)(W:Win (cel fit p free) fit P j cs tx)(f8:Option Ent)(hk:k<P.length)(hP:P.length<=100000) :
  zbl [aa (.bor cs),aa (.val (.tup (P.map .str))),aa (.val (.str (mkS tx))),aa (.bt p.ds),aa (.val (.bl free)),aa (.val (zb8 (cel fit p free) P.length j)),aa (.own ((ax (k+1)).map fun i=>oD (cel fit p free i (j+1)))),aa (.val (.int (1+(k:Int)))),f8] =
  aa (.nx [aa (.bor cs),aa (.val (.tup (P.map .str))),aa (.val (.str (mkS tx))),aa (.bt p.ds),aa (.val (.bl free)),aa (.val (zb8 (cel fit p free) P.length j)),aa (.own ((ax (k+1+1)).map fun i=>oD (cel fit p free i (j+1)))),aa (.val (.int (1+(k:Int)))),aa (.val (.bl (fit k j)))]):=by
 have hl:(((ax (k+1)).map fun i=>oD (cel fit p free i (j+1)))).length<1000000:=by simp;lia
 have hx:atI ((ax (k+1)).map fun i=>oD (cel fit p free i (j+1))) (1+(k:Int) - 1)=aa (oD (cel fit p free k (j+1))):=by
  rw[zew _ _ (by lia) (by lia),show(1+(k:Int) - 1).toNat=k by lia]
 obtain⟨t,a1,g1⟩:=W.s1;have f1:=g1 k hk;have k1:1+(k:Int) - 1=(k:Int):=by lia
 have a2:=zeh D.str (mkS []) (xs:=P) (i:=(k:Int)) (dD _) (by simpa using hk);have a3:atI ((ax (P.length+1)).map fun i=>oD (cel fit p free i j)) (k:Int)=aa (oD (cel fit p free k j)):=by
  rw[zew _ _ (dD _) (by simp;lia)];rfl
 have a4:atI ((ax (P.length+1)).map fun i=>oD (cel fit p free i j)) (1+(k:Int))=aa (oD (cel fit p free (k+1) j)):=by
  rw[zew _ _ (by lia) (by lia),show(1+(k:Int)).toNat=k+1 by lia]
 rw[k1] at hx;have e:(ax (k+1+1)).map (fun i=>oD (cel fit p free i (j+1)))=(ax (k+1)).map (fun i=>oD (cel fit p free i (j+1))) ++ [oD (cel fit p free (k+1) (j+1))]:=by
  rw[cG (n:=k+1),bz];rfl
 rw[e,zd0];generalize (ax (k+1)).map (fun i=>oD (cel fit p free i (j+1)))=ds at *;have sA:=subI (E:=zab 7) (F:=eC (.int 1)) (δ:=[aa (.bor cs),aa (.val (.tup (P.map .str))),aa (.val (.str (mkS tx))),aa (.bt p.ds),aa (.val (.bl free)),aa (.val (zb8 (cel fit p free) P.length j)),aa (.own ds),aa (.val (.int (1+(k:Int)))),f8]) rfl rfl;have sB:=subI (E:=zab 7) (F:=eC (.int 1)) (δ:=[aa (.bor cs),aa (.val (.tup (P.map .str))),aa (.val (.str (mkS tx))),aa (.bt p.ds),aa (.val (.bl free)),aa (.val (zb8 (cel fit p free) P.length j)),aa (.own ds),aa (.val (.int (1+(k:Int)))),aa (.val (.bl (fit k j)))]) rfl rfl;rw[k1] at sA sB;have v8:=inSS (ixSS (E:=zab 2) (F:=ex1 zhw (eC (.int 1))) rfl W.l rfl a1) (zh9 (E:=zab 1) rfl sA a2);rw[cO,f1] at v8;have x1:=zh9 (E:=zab 5) rfl sB a3;have x4:=zh9 (E:=zab 5) (F:=zab 7) (δ:=[aa (.bor cs),aa (.val (.tup (P.map .str))),aa (.val (.str (mkS tx))),aa (.bt p.ds),aa (.val (.bl free)),aa (.val (zb8 (cel fit p free) P.length j)),aa (.own ds),aa (.val (.int (1+(k:Int)))),aa (.val (.bl (fit k j)))]) rfl rfl a4;have xL:=ixLW (E:=zab 6) rfl sB hx;have y1:=eIfI (A:=zab 8) rfl x1 ((zfa x1 (Y:=ex2 ziZ (zab 3) (eC (.int 2))) (b:=.int p.exch) rfl).trans (zcu _ _));have y2:=(zfa x4 (Y:=ex2 ziZ (zab 3) (eC (.int 0))) (b:=.int p.put) rfl).trans (zcu _ _)
 have y3:=(zfa xL (Y:=ex2 ziZ (zab 3) (eC (.int 1))) (b:=.int p.left) rfl).trans (zcu _ _)
 have z4:zaM [.b,.v,.v,.v] zaQ (zaa (zab 0) (zaa (zab 1) (zaa (zab 2) (zaa (zab 7) zae)))) [aa (.bor cs),aa (.val (.tup (P.map .str))),aa (.val (.str (mkS tx))),aa (.bt p.ds),aa (.val (.bl free)),aa (.val (zb8 (cel fit p free) P.length j)),aa (.own ds),aa (.val (.int (1+(k:Int)))),aa (.val (.bl (fit k j)))]=aa (.val (oD (tc fit (cel fit p free) k j))):=ahead_eq W k hk;have y4:=(zfa z4 (Y:=ex2 ziZ (zab 3) (eC (.int 3))) (b:=.int p.turn) rfl).trans (zcu _ _)
 rw[show(if fit k j=true then oD (cel fit p free k j) else oD (stp (cel fit p free k j) p.exch))=oD (if fit k j=true then cel fit p free k j else stp (cel fit p free k j) p.exch) by cases fit k j <;> rfl] at y1;exact(show zbl _=_ from zdE v8).trans (ziK rfl ((low4 y1 y2 y3 y4).trans (lowest_eq [_,_,_,_] (show 4<=1000000 by decide))) hl)
open CE in
def zi2(P:List Str)(p:Pr)(free:Bool)(fit:Nat->Nat->Bool)(cs:List D)(tx:List Nat)(j:Nat)(W:Win (cel fit p free) fit P j cs tx)(hP:P.length<=100000) :
  zbM [.lst cs,.tup (P.map .str),.str (mkS tx),.tup p.ds,.bl free]=aa (.val (zb8 (cel fit p free) P.length (j+1))):=by
 obtain⟨δ',w1,kv,fv,rfl⟩:=zcg (tg:=gNm 7) (f:=zbl) (fun k δ=>∃ kv fv,δ=[aa (.bor cs),aa (.val (.tup (P.map .str))),aa (.val (.str (mkS tx))),aa (.bt p.ds),aa (.val (.bl free)),aa (.val (zb8 (cel fit p free) P.length j)),aa (.own ((ax (k+1)).map fun i=>oD (cel fit p free i (j+1)))),kv,fv])
  ((ax P.length).map fun(k:Nat)=>D.int (1+(k:Int))) 0 _ (fun k d δ hd hδ=>by
   obtain⟨kv,fv,rfl⟩:=hδ;rw[ck];rw[aD] at hd;have hk:k<P.length:=by
    cases q:(ax P.length)[k]? with
    | none=>rw[q] at hd;cases hd
    | some z=>have:=(a9.mp q).1;simpa using this
   rw[cr hk] at hd;cases hd;exact⟨_,_,rfl,.inl (zgw P p free fit cs tx j k W _ hk hP),_,_,rfl⟩) ⟨ab,ab,rfl⟩
 have hb1:b62 1:=zcM (by decide);have hb2:b62 ((P.length:Int)+1):=zcM (by lia);have hn:((P.length:Int)+1 - 1).toNat=P.length:=by lia
 have hl:P.length<=100000:=hP;have c1:=W.c1;have a2:atI ((ax (P.length+1)).map fun i=>oD (cel fit p free i j)) 0=aa (oD (cel fit p free 0 j)):=by
  rw[zew _ _ (by lia) (by simp)];rfl
 simp only[al,bZ,ck] at w1;simp only[cG (n:=0),fq,cj,aF,bK,zfo] at w1
 suffices hF:∃ δ,zbP [aa (.bor cs),aa (.val (.tup (P.map .str))),aa (.val (.str (mkS tx))),aa (.bt p.ds),aa (.val (.bl free)),ab,ab,ab,ab]=aa (.rt (.val (zb8 (cel fit p free) P.length (j+1))) δ) from
  hF.elim fun _ h=>(congrArg (fun o=>cv o _) h).trans rfl
 have x0:=ixLB (E:=zab 0) (F:=ex1 zhw (eC (.int 1))) (δ:=[aa (.bor cs),aa (.val (.tup (P.map .str))),aa (.val (.str (mkS tx))),aa (.bt p.ds),aa (.val (.bl free)),ab,ab,ab,ab]) rfl rfl c1;have y0:=eIfI (A:=zab 4) (B:=eC (.int 0)) (δ:=[aa (.bor cs),aa (.val (.tup (P.map .str))),aa (.val (.str (mkS tx))),aa (.bt p.ds),aa (.val (.bl free)),aa (.val (zb8 (cel fit p free) P.length j)),ab,ab,ab]) rfl rfl ((zfa (zh9 (E:=zab 5) (F:=eC (.int 0)) rfl rfl a2) (Y:=ex2 ziZ (zab 3) (eC (.int 0))) (b:=.int p.put) rfl).trans (zcu _ _));have h0:oD (if free=true then aa 0 else stp (cel fit p free 0 j) p.put)=(if free=true then D.int 0 else oD (stp (cel fit p free 0 j) p.put)):=by cases free <;> rfl
 rw[h0] at w1;have z0:=eLst1 y0;generalize (if free=true then D.int 0 else oD (stp (cel fit p free 0 j) p.put))=v0 at *;have ir:iR2 (zaa (eC (.int 1)) (zaa (ex2 zcw (eCB zbJ (zaa (zab 1) zae)) (eC (.int 1))) zae)) [aa (.bor cs),aa (.val (.tup (P.map .str))),aa (.val (.str (mkS tx))),aa (.bt p.ds),aa (.val (.bl free)),aa (.val (zb8 (cel fit p free) P.length j)),aa (.own [v0]),ab,ab]=aa ((ax P.length).map fun(k:Nat)=>D.int (1+(k:Int))):=by
  simp only[iR2,zaa,eC,ex2,eCB,zab,jqf,jqe,zae,jqc,jqa,zbJ,ze4,al,zcw,pI0,iOf,hb2,jre,Int.reduceNeg,Int.reduceLT,and_self,zdG,hn,zah]
 exact⟨_,(show zbP _=_ from zdE x0).trans ((zaI (zdg z0)).trans ((forN ir w1).trans rfl))⟩
def getD_in{T:List Nat}{k:Nat}(h:k<T.length):T[k]? = aa (T.getD k 0):=by
 rw[aE h,dX,aE h];rfl
open CE in
def win_take(P:List Str)(T:List Nat)(c:Nat->Nat->Option Int)(k:Nat)(hk:k<T.length)(hT:T.length<=100000):Win c (zdK P T) P k ((ax (k+1)).map fun j=>zb8 c P.length j) (T.take (k+1)):=by
 have hl:(T.take (k+1)).length=k+1:=by rw[cz];lia
 refine⟨by lia,zeG _ _,⟨T.getD k 0,?_,fun i _=>rfl⟩,?_⟩
 ·refine atI_m1 ?_;rw[gy,hl,d7 (by lia),show k+1 - 1=k by lia];exact getD_in hk
 ·by_cases h:k=0
  ·exact .inl ⟨by lia,h⟩
  ·obtain⟨n,rfl⟩:∃ n,k=n+1:=⟨k - 1,by lia⟩;refine .inr ⟨by lia,by lia,rng_last2 _ n,T.getD n 0,?_,fun i _=>rfl⟩;refine atI_m2 (by lia) ?_;rw[hl,d7 (by lia),show n+1+1 - 2=n by lia];exact getD_in (by lia)
open CE in
def across_eq(c:Nat->Nat->Option Int)(m n i:Nat)(hi:i<=m)(hn:n<=100000):zck [.lst ((ax (n+1)).map fun j=>zb8 c m j),.int (i:Int)]=aa (.val (zho c n i)):=by
 have ec:eLC [1] (iB 0) zc8 zcD [aa (.bor ((ax (n+1)).map fun j=>zb8 c m j)),aa (.val (.int (i:Int)))]=aa (.own ((ax (n+1)).map fun j=>oD (c i j))):=by
  refine zev (ds:=(ax (n+1)).map fun j=>zb8 c m j) rfl ?_ (by simp;lia);refine zgQ _ _ (by simp) (fun d _=>rfl) fun k d hd=>?_;rw[aD] at hd;obtain⟨j,e1,e2⟩:=hV.mp hd;subst e2;have ha:atI ((ax (m+1)).map fun i=>oD (c i j)) (i:Int)=aa (oD (c i j)):=by
   rw[zew _ _ (by lia) (by lia)];rfl
  refine⟨oD (c i j),?_,by rw[aD,e1];rfl⟩;simp only[zcD,ex2,zab,cEn,zb8,jqn,jqf,jqe,jqx,jqa,capt,jqo,zc9,ze4,iOf,ha,jqc,asV]
 have hl:n<=100000:=hn;simp (disch:=omega) only[zck,zcS,stE,stN,jqc,jqa,zdp,zb2,eCB,zaa,aJ,jqk,zae,toN,ec,zep,asL,zf4,zho]
open CE in
def cells_eq(P:List Str)(T:List Nat)(p:Pr)(free:Bool)(hP:P.length<=100000)(hT:T.length<=100000) :
  zcV [.tup (P.map .str),.str (mkS T),.tup p.ds,.bl free]=aa (.val (.tup ((ax (P.length+1)).map fun i=>zho (cel (zdK P T) p free) T.length i))):=by
 obtain⟨δ',w1,kv,rfl⟩:=zcg (tg:=gNm 5) (f:=zc1) (fun k δ=>∃ kv,δ=[aa (.val (.tup (P.map .str))),aa (.val (.str (mkS T))),aa (.bt p.ds),aa (.val (.bl free)),aa (.own ((ax (k+1)).map fun j=>zb8 (cel (zdK P T) p free) P.length j)),kv])
  ((ax T.length).map fun(k:Nat)=>D.int (1+(k:Int))) 0 _ (fun k d δ hd hδ=>by
   obtain⟨kv,rfl⟩:=hδ;rw[ck];rw[aD] at hd;have hk:k<T.length:=by
    cases q:(ax T.length)[k]? with
    | none=>rw[q] at hd;cases hd
    | some z=>have:=(a9.mp q).1;simpa using this
   rw[cr hk] at hd;cases hd;have fe:=zi2 P p free (zdK P T) ((ax (k+1)).map fun j=>zb8 (cel (zdK P T) p free) P.length j) (T.take (k+1)) k (win_take P T _ k hk hT) hP;have hl:((ax (k+1)).map fun j=>zb8 (cel (zdK P T) p free) P.length j).length<1000000:=by simp;lia
   have e:(ax (k+1+1)).map (fun j=>zb8 (cel (zdK P T) p free) P.length j)=(ax (k+1)).map (fun j=>zb8 (cel (zdK P T) p free) P.length j) ++ [zb8 (cel (zdK P T) p free) P.length (k+1)]:=by
    rw[cG (n:=k+1),bz];rfl
   have hc:zfw T ab (aa (1+(k:Int)))=T.take (k+1):=by rw[zdB _ (by lia),show(1+(k:Int)).toNat=k+1 by lia]
   have hm:T.length<=1000000:=by lia
   refine⟨_,_,rfl,.inl ?_,aa (.val (.int (1+(k:Int)))),rfl⟩;rw[e];simp (disch:=omega) only[zc1,zhb,jqh,jqg,jqf,jqe,zaM,zaa,zab,eSl,oNo,oSo,jqa,iOf,jqc,gSlS,sOf,zb9,zbr,zej,hc,zah,zae,zbF,ze9,asL,asV,asT,fe]) ⟨ab,rfl⟩
 have hb1:b62 1:=zcM (by decide);have hb2:b62 ((T.length:Int)+1):=zcM (by lia);have hb3:b62 ((P.length:Int)+1):=zcM (by lia);have hn:((T.length:Int)+1 - 1).toNat=T.length:=by lia
 have hn3:((P.length:Int)+1).toNat=P.length+1:=by lia
 have f1:=firstc_eq P p free (zdK P T) hP;have hm:T.length<=1000000:=by lia
 have hm2:P.length<=100000:=hP;simp only[al,bZ,ck] at w1;simp only[cG (n:=0),fq,cj,aF,bK] at w1;have ec:eLC [4] (iR1 (zaa (ex2 zcw (eCB zbJ (zaa (zab 0) zae)) (eC (.int 1))) zae)) zc8 zc4 [aa (.val (.tup (P.map .str))),aa (.val (.str (mkS T))),aa (.bt p.ds),aa (.val (.bl free)),aa (.own ((ax (T.length+1)).map fun j=>zb8 (cel (zdK P T) p free) P.length j)),kv] =
   aa (.own ((ax (P.length+1)).map fun i=>zho (cel (zdK P T) p free) T.length i)):=by
  refine zev (ds:=(ax (P.length+1)).map fun(i:Nat)=>D.int (0+(i:Int))) ?_ ?_ (by simp;lia)
  ·simp (disch:=omega) only[iR1,zaa,ex2,eCB,zab,jqe,zae,jqc,jqa,zbJ,ze4,al,eC,zcw,pI0,iOf,zdG,hn3,zah]
  ·refine zgQ _ _ (by simp) (fun d _=>rfl) fun k d hd=>?_;rw[aD] at hd;obtain⟨i,e1,e2⟩:=hV.mp hd;subst e2;have hi:i<=P.length:=by
    have:=jt.mp (cL e1);lia
   have ac:=across_eq (cel (zdK P T) p free) P.length T.length i hi hT;refine⟨zho (cel (zdK P T) p free) T.length i,?_,by rw[aD,e1];rfl⟩;rw[show(0+(i:Int))=(i:Int) by lia];simp only[zc4,zaM,zaa,zab,cEn,jqn,jqf,jqe,jqx,jqa,capt,jqo,zae,jqc,zbF,ze9,asL,asV,ac]
 simp only[zcw] at ec;simp (disch:=omega) only[zcV,zcS,stE,stN,jqc,jqa,zeg,zaX,zcr,zcN,zaa,zaM,zab,aJ,zae,toN,zcw,jqi,jqj,jqe,jqf,zbF,ze9,asV,asT,f1,jqp,jqq,Nat.reduceLeDiff,ze5,jra,jqh,jqg,sqO,zfW,iR2,eC,ex2,eCB,zdM,sOf,zb9,zbr,zah,pI0,iOf,zdG,jre,hn,w1,zb2];simp (disch:=omega) only[ec,jqa,zep,asL,jqc,zf4]
open CE in
def price_eq(P:List Str)(T:List Nat)(p:Pr)(hP:P.length<=100000)(hT:T.length<=100000) :
  zbx [.tup (P.map .str),.str (mkS T),.tup p.ds]=aa (.val (oD (cel (zdK P T) p false P.length T.length))):=by
 have c:=cells_eq P T p false hP hT;have l1:=zeG (fun i=>zho (cel (zdK P T) p false) T.length i) P.length;have l2:=zeG (fun j=>oD (cel (zdK P T) p false P.length j)) T.length;simp (disch:=omega) only[zbx,zcS,stE,stN,jqc,jqa,zcz,zb2,ex2,eCallD,zaa,zab,aJ,jqk,zae,ex1,eC,zhw,iOf,Int.reduceNeg,zc9,ze4,toN,jqe,jqf,jqi,jqj,zbF,ze9,asV,asT,c,l1];simp (disch:=omega) only[zho,Int.reduceNeg,jqa,l2,jqc,zf4]
open CE in
def zf3(w:List Nat)(h:w.length<=1000000):zcf [.str (mkS w)]=aa (.val (.tup ((wP w).map .str))):=by
 have hl:(mkS w).length<=1000000:=by rw[zb9];exact h
 simp (disch:=omega) only[zcf,zcS,stE,stN,jqc,jqa,zdo,zb2,eCB,zaa,zab,aJ,jqk,zae,toN,jqe,gTupS,sOf,zbr,sgn_mkS,zah,zf4,wP]
def pp:CE.Pr:=⟨1,1,1,0⟩
def pp_ok:pp.Ok:=⟨by decide,by decide,by decide,by decide⟩
open CE in
def cel_all(fit:Nat->Nat->Bool):∀ (n i j:Nat),i+j<=n->∃ m,cel fit pp false i j=aa m:=by
 intro n
 induction n with
 | zero=>
  intro i j h;obtain⟨rfl,rfl⟩:i=0/\j=0:=by lia
  exact⟨0,zeO ..⟩
 | succ n ih=>
  intro i j h
  match i,j with
  | 0,0=>exact⟨0,zeO ..⟩
  | 0,j+1=>
   obtain⟨m,hm⟩:=ih 0 j (by lia);exact⟨m+1,by rw[zfo,hm];rfl⟩
  | i+1,0=>
   obtain⟨m,hm⟩:=ih i 0 (by lia);exact⟨m+1,by rw[zgk,hm];rfl⟩
  | i+1,j+1=>
   obtain⟨m,hm⟩:=ih (i+1) j (by lia);rw[zd0];obtain⟨m',h1,_⟩:=zg9 (cs:=[if fit i j=true then cel fit pp false i j else stp (cel fit pp false i j) pp.exch,stp (cel fit pp false (i+1) j) pp.put,stp (cel fit pp false i (j+1)) pp.left,stp (tc fit (cel fit pp false) i j) pp.turn]) (c:=m+1) (by rw[hm];exact aj _ am);exact⟨m',h1⟩
def ed(w t:List Nat):Int:=(_root_.CE.wd pp w t).getD 0
open CE in
def ev(w t:List Nat)(i j:Nat):Int:=(cel (zdK (wP w) t) pp false i j).getD 0
open CE in
def zeb(w t:List Nat)(i j:Nat):cel (zdK (wP w) t) pp false i j=aa (ev w t i j):=by
 obtain⟨m,h⟩:=cel_all (zdK (wP w) t) (i+j) i j (au _);unfold ev;rw[h];rfl
open CE in
def zfJ(w t:List Nat):wd pp w t=aa (ed w t):=by
 have:=zeb w t w.length t.length;unfold ed wd at *;rw[this];rfl
def ed_ev(w t:List Nat):ed w t=ev w t w.length t.length:=rfl
def ed_self(w:List Nat):ed w w=0:=aM ((zfJ w w).symm.trans (CE.wd_self pp_ok w))
def zhl(w t:List Nat):ed t w=ed w t:=aM ((zfJ t w).symm.trans ((CE.wd_swap pp_ok rfl w t).trans (zfJ w t)))
def ed_zero{w t:List Nat}(h:ed w t=0):w=t:=CE.wd_zero pp_ok (by rw[zfJ,h])
def ed_nonneg(w t:List Nat):0<=ed w t:=CE.wd_nonneg pp_ok (zfJ w t)
def ed_tri(u v w:List Nat):ed u w<=ed u v+ed v w:=by
 obtain⟨c,h1,h2⟩:=CE.wd_tri pp_ok rfl (zfJ u v) (zfJ v w);rw[zfJ] at h1;cases h1;exact h2
open CE in
def zge(w t:List Nat)(hw:w.length<=1000)(ht:t.length<=1000):zag [.str (mkS w),.str (mkS t)]=aa (.val (.int (ed w t))):=by
 have h1:=zf3 w (by lia);have h2:=price_eq (wP w) t pp (by rw[wP_len];lia) (by lia);rw[wP_len,show cel (zdK (wP w) t) pp false w.length t.length=aa (ed w t) from zfJ w t,oD_s] at h2;have h3:pp.ds=[D.int 1,D.int 1,D.int 1,D.int 0]:=rfl;rw[h3] at h2;simp only[zag,zcS,stE,stN,jqc,jqa,zcE,zb2,zaM,zaa,zab,aJ,jqk,zae,eB,jqn,jqo,toN,jqe,zbF,ze9,asV,h1,jqf,asT,h2,zf4]
open CE in
def ev_00(w t:List Nat):ev w t 0 0=0:=by unfold ev;rw[zeO];rfl
open CE in
def ev_0s(w t:List Nat)(j:Nat):ev w t 0 (j+1)=ev w t 0 j+1:=by
 have h:=zeb w t 0 (j+1);rw[zfo,zeb] at h;exact(aM h).symm
open CE in
def ev_s0(w t:List Nat)(i:Nat):ev w t (i+1) 0=ev w t i 0+1:=by
 have h:=zeb w t (i+1) 0;rw[zgk,zeb] at h;exact(aM h).symm
def ev_0(w t:List Nat)(j:Nat):ev w t 0 j=j:=by
 induction j with
 | zero=>exact ev_00 w t
 | succ j ih=>rw[ev_0s,ih];lia
def ev_i0(w t:List Nat)(i:Nat):ev w t i 0=i:=by
 induction i with
 | zero=>exact ev_00 w t
 | succ i ih=>rw[ev_s0,ih];lia
open CE in
def ev_ss(w t:List Nat)(i j:Nat)(hi:i<w.length)(hj:j<t.length):ev w t (i+1) (j+1)=min (min (ev w t i j+(if w[i]=t[j] then 0 else 1)) (ev w t i (j+1)+1)) (ev w t (i+1) j+1):=by
 have h:=zeb w t (i+1) (j+1);rw[zd0,zgX hi hj,zeb,zeb,zeb] at h;have e1:∀ c:Int,stp (aa c) pp.exch=aa (c+1):=fun c=>rfl;have e2:∀ c:Int,stp (aa c) pp.put=aa (c+1):=fun c=>rfl;have e3:∀ c:Int,stp (aa c) pp.left=aa (c+1):=fun c=>rfl;have e4:stp (tc (zdK (wP w) t) (cel (zdK (wP w) t) pp false) i j) pp.turn=ab:=rfl;rw[e1,e2,e3,e4] at h;generalize ev w t (i+1) (j+1)=z at *;generalize ev w t (i+1) j=a at *;generalize ev w t i (j+1)=b at *;generalize ev w t i j=c at *;have h1:=lw_mem h;have h2:∀ x,aa x ∈ [if decide (t[j]=w[i])=true then aa c else aa (c+1),aa (a+1),aa (b+1),ab]->z<=x:=fun x hx=>by
  obtain⟨m,q1,q2⟩:=zg9 hx;rw[h] at q1;cases q1;exact q2
 by_cases e:w[i]=t[j]
 ·rw[decide_eq_true e.symm,if_pos rfl] at h1 h2;rw[if_pos e];have:=h2 c (by simp);have:=h2 (a+1) (by simp);have:=h2 (b+1) (by simp);simp only[az,eH,reduceCtorEq,bW,or_false] at h1;lia
 ·rw[decide_eq_false fun z=>e z.symm,if_neg aQ] at h1 h2;rw[if_neg e];have:=h2 (c+1) (by simp);have:=h2 (a+1) (by simp);have:=h2 (b+1) (by simp);simp only[az,eH,reduceCtorEq,bW,or_false] at h1;lia
def ev_bd(w t:List Nat):∀ (i j:Nat),i<=w.length->j<=t.length->0<=ev w t i j/\ev w t i j<=i+j:=by
 intro i
 induction i with
 | zero=>intro j _ _;rw[ev_0];lia
 | succ i ih=>
  intro j hi
  induction j with
  | zero=>intro _;rw[ev_i0];lia
  | succ j jh=>
   intro hj;have h1:=ih j (by lia) (by lia);have h2:=ih (j+1) (by lia) hj;have h3:=jh (by lia);rw[ev_ss w t i j hi hj];split <;> lia
def mkS1{a b:Nat}:mkS [a]=mkS [b] ↔ a=b:=⟨fun h=>by have:=mkS_inj h;simpa using this,fun h=>by rw[h]⟩
def rwE(a b:List Nat)(i n:Nat):List D:=(ax (n+1)).map fun j=>.int (ev a b i j)
def rwE_len(a b:List Nat)(i n:Nat):(rwE a b i n).length=n+1:=by unfold rwE;simp
def rwE_at(a b:List Nat)(i n:Nat){k:Int}(h0:0<=k)(h:k.toNat<=n):atI (rwE a b i n) k=aa (.int (ev a b i k.toNat)):=zew (fun j=>.int (ev a b i j)) n h0 h
def rwE_s(a b:List Nat)(i n:Nat):rwE a b i (n+1)=rwE a b i n ++ [.int (ev a b i (n+1))]:=by unfold rwE;rw[cG,bz];rfl
def zaR(f:Bool)(ds:List D):Ent:=if f=true then .own ds else .val (.lst ds)
def ix2{f:Bool}{ds:List D}{F:FE}{c0 c1 c3 c4 c5 c6:Option Ent}{k:Int}{v:D}(h2:F [c0,c1,aa (zaR f ds),c3,c4,c5,c6]=aa (.val (.int k)))(h:atI ds k=aa v):ex2 zca (zab 2) F [c0,c1,aa (zaR f ds),c3,c4,c5,c6]=aa (.val v):=by
 cases f
 ·unfold ex2;rw[h2];simp only[zab,zaR,jqr,jrb,jqf,jqe,zca,asL,iOf,jqa,h,jqc]
 ·unfold ex2;rw[h2];simp only[zab,zaR,jra,jqf,jqe,zca,asL,iOf,jqa,h,jqc]
def min3{X Y Z:FE}{δ:En}{a b c:Int}(h1:X δ=aa (.val (.int a)))(h2:Y δ=aa (.val (.int b)))(h3:Z δ=aa (.val (.int c))):eCB gMin3 (zaa X (zaa Y (zaa Z zae))) δ=aa (.val (.int (min (min a b) c))):=by
 unfold eCB zaa zae;rw[h1];simp only[aL];rw[h2];simp only[aL];rw[h3];rfl
def neI{X Y:FE}{δ:En}{a b:Nat}(h1:X δ=aa (.val (.str (mkS [a]))))(h2:Y δ=aa (.val (.str (mkS [b])))):eCB zdf (zaa (ex2 gNe X Y) zae) δ=aa (.val (.int (if a=b then 0 else 1))):=by
 by_cases e:a=b
 ·have e':mkS [a]=mkS [b]:=mkS1.mpr e;simp only[eCB,zaa,ex2,h1,e,h2,gNe,jqa,scEq_ss,jqy,jqc,jqt,zae,zdf,jqr,jrb,jra]
 ·have e':¬ mkS [a]=mkS [b]:=fun z=>e (mkS1.mp z);simp only[eCB,zaa,ex2,h1,h2,gNe,jqa,scEq_ss,e',jqz,jqc,jqu,zae,zdf,jra,e,jrb]
def lp_turn(a b:List Nat)(i j:Nat)(f:Bool)(hi:i<a.length)(hj:j<b.length)(ha:a.length<=1000)(hb:b.length<=1000)(x6:Option Ent):∃ y6:Option Ent,
  zbs [aa (.val (.str (mkS a))),aa (.val (.str (mkS b))),aa (zaR f (rwE a b i b.length)),aa (.val (.int (0+(i:Int)))),aa (.own (rwE a b (i+1) j)),aa (.val (.int (0+(j:Int)))),x6] =
  aa (.nx [aa (.val (.str (mkS a))),aa (.val (.str (mkS b))),aa (zaR f (rwE a b i b.length)),aa (.val (.int (0+(i:Int)))),aa (.own (rwE a b (i+1) (j+1))),aa (.val (.int (0+(j:Int)))),y6]):=by
 have k1:(0+(j:Int)).toNat=j:=by lia
 have k2:(0+(j:Int)+1).toNat=j+1:=by lia
 have r1:=rwE_at a b i b.length (k:=0+(j:Int)) (by lia) (by lia);have r2:=rwE_at a b i b.length (k:=0+(j:Int)+1) (by lia) (by lia);have r3:=rwE_at a b (i+1) j (k:=0+(j:Int)) (by lia) (by lia);rw[k1] at r1 r3;rw[k2] at r2;have sa:atI a (0+(i:Int))=aa a[i]:=zcm (by lia) (by rw[show(0+(i:Int)).toNat=i by lia,aE hi]);have sb:atI b (0+(j:Int))=aa b[j]:=zcm (by lia) (by rw[k1,aE hj]);refine⟨aa (.val (.int (ev a b i j+(if a[i]=b[j] then 0 else 1)))),?_⟩;have v6:ex2 zcw (ex2 zca (zab 2) (zab 5)) (eCB zdf (zaa (ex2 gNe (ex2 zjd (zab 0) (zab 3)) (ex2 zjd (zab 1) (zab 5))) zae)) [aa (.val (.str (mkS a))),aa (.val (.str (mkS b))),aa (zaR f (rwE a b i b.length)),aa (.val (.int (0+(i:Int)))),aa (.own (rwE a b (i+1) j)),aa (.val (.int (0+(j:Int)))),x6]=aa (.val (.int (ev a b i j+(if a[i]=b[j] then 0 else 1)))):=
  addI (ix2 rfl r1) (neI (ixSS (E:=zab 0) (F:=zab 3) rfl (by lia) rfl sa) (ixSS (E:=zab 1) (F:=zab 5) rfl (by lia) rfl sb))
 refine(show zbs _=_ from zaI (zeZ v6)).trans ?_;rw[rwE_s,ev_ss a b i j hi hj];have hl:(rwE a b (i+1) j).length<1000000:=by rw[rwE_len];lia
 generalize rwE a b (i+1) j=below at *;exact ziK rfl (min3 (X:=zab 6) rfl (addI (ix2 (addI (E:=zab 5) (F:=eC (.int 1)) rfl rfl) r2) rfl) (addI (ixLW (E:=zab 4) (F:=zab 5) rfl rfl r3) rfl)) hl
def lp_loop(a b:List Nat)(i:Nat)(f:Bool)(hi:i<a.length)(ha:a.length<=1000)(hb:b.length<=1000)(x5 x6:Option Ent):∃ y5 y6:Option Ent,
  loop (gNm 5) zbs ((ax b.length).map fun(k:Nat)=>D.int (0+(k:Int))) [aa (.val (.str (mkS a))),aa (.val (.str (mkS b))),aa (zaR f (rwE a b i b.length)),aa (.val (.int (0+(i:Int)))),aa (.own (rwE a b (i+1) 0)),x5,x6] =
  aa (.nx [aa (.val (.str (mkS a))),aa (.val (.str (mkS b))),aa (zaR f (rwE a b i b.length)),aa (.val (.int (0+(i:Int)))),aa (.own (rwE a b (i+1) b.length)),y5,y6]):=by
 obtain⟨δ',w1,y5,y6,rfl⟩:=zcg (tg:=gNm 5) (f:=zbs) (fun k δ=>∃ (y5 y6:Option Ent),δ=[aa (.val (.str (mkS a))),aa (.val (.str (mkS b))),aa (zaR f (rwE a b i b.length)),aa (.val (.int (0+(i:Int)))),aa (.own (rwE a b (i+1) k)),y5,y6])
  ((ax b.length).map fun(k:Nat)=>D.int (0+(k:Int))) 0 [aa (.val (.str (mkS a))),aa (.val (.str (mkS b))),aa (zaR f (rwE a b i b.length)),aa (.val (.int (0+(i:Int)))),aa (.own (rwE a b (i+1) 0)),x5,x6] (fun k d δ hd hδ=>by
   obtain⟨y5,y6,rfl⟩:=hδ;rw[ck];have hk:k<b.length:=by have:=(a9.mp hd).1;simpa using this
   rw[aD,cr hk] at hd;cases hd;obtain⟨z6,e⟩:=lp_turn a b i k f hi hk ha hb y6;exact⟨_,_,rfl,.inl e,_,z6,rfl⟩) ⟨x5,x6,rfl⟩
 rw[al,bZ,ck] at w1;exact⟨y5,y6,w1⟩
def lp_row(a b:List Nat)(i:Nat)(f:Bool)(hi:i<a.length)(ha:a.length<=1000)(hb:b.length<=1000)(x4 x5 x6:Option Ent):∃ y4 y5 y6:Option Ent,
  zbZ [aa (.val (.str (mkS a))),aa (.val (.str (mkS b))),aa (zaR f (rwE a b i b.length)),aa (.val (.int (0+(i:Int)))),x4,x5,x6] =
  aa (.nx [aa (.val (.str (mkS a))),aa (.val (.str (mkS b))),aa (zaR false (rwE a b (i+1) b.length)),aa (.val (.int (0+(i:Int)))),y4,y5,y6]):=by
 obtain⟨y5,y6,hl⟩:=lp_loop a b i f hi ha hb x5 x6;have e0:rwE a b (i+1) 0=[.int (0+(i:Int)+1)]:=by
  unfold rwE;rw[cG,fq,cj,aF,bK,ev_i0];congr 2;lia
 rw[e0] at hl;refine⟨aa (.val (.lst (rwE a b (i+1) b.length))),y5,y6,?_⟩;have h1:zcN (zaa (ex2 zcw (zab 3) (eC (.int 1))) zae) [aa (.val (.str (mkS a))),aa (.val (.str (mkS b))),aa (zaR f (rwE a b i b.length)),aa (.val (.int (0+(i:Int)))),x4,x5,x6]=aa (.own [.int (0+(i:Int)+1)]):=eLst1 (addI rfl rfl);have h2:iR1 (zaa (eCB zdM (zaa (zab 1) zae)) zae) [aa (.val (.str (mkS a))),aa (.val (.str (mkS b))),aa (zaR f (rwE a b i b.length)),aa (.val (.int (0+(i:Int)))),aa (.own [.int (0+(i:Int)+1)]),x5,x6]=aa ((ax b.length).map fun(k:Nat)=>D.int (0+(k:Int))):=by
  have hb2:b62 (b.length:Int):=zcM (by lia);have hm:b.length<=1000000:=by lia
  simp only[iR1,zaa,eCB,zab,jqf,jqe,zae,jqc,jqa,zdM,sOf,zb9,hm,zbr,zah,iOf,hb2,cO]
 refine(show zbZ _=_ from zaI (zdg h1)).trans ((forN h2 hl).trans ?_)
 generalize rwE a b (i+1) b.length=R1;generalize zaR f (rwE a b i b.length)=R0;rfl
def zgu(a b:List Nat)(ha:a.length<=900)(hb:b.length<=900):zbz [.str (mkS a),.str (mkS b)]=aa (.val (.int (ed a b))):=by
 obtain⟨δ',w1,f,y3,y4,y5,y6,_,rfl⟩:=zcg (tg:=gNm 3) (f:=zbZ) (fun k δ=>∃ (f:Bool) (y3 y4 y5 y6:Option Ent),(k=0->f=true)/\δ=[aa (.val (.str (mkS a))),aa (.val (.str (mkS b))),aa (zaR f (rwE a b k b.length)),y3,y4,y5,y6])
  ((ax a.length).map fun(k:Nat)=>D.int (0+(k:Int))) 0 [aa (.val (.str (mkS a))),aa (.val (.str (mkS b))),aa (.own (rwE a b 0 b.length)),ab,ab,ab,ab] (fun k d δ hd hδ=>by
   obtain⟨f,y3,y4,y5,y6,_,rfl⟩:=hδ;rw[ck];have hk:k<a.length:=by have:=(a9.mp hd).1;simpa using this
   rw[aD,cr hk] at hd;cases hd;obtain⟨z4,z5,z6,e⟩:=lp_row a b k f hk (by lia) (by lia) y4 y5 y6;exact⟨_,_,rfl,.inl e,false,_,z4,z5,z6,fun z=>by lia,rfl⟩) ⟨true,ab,ab,ab,ab,fun _=>rfl,rfl⟩
 rw[al,bZ,ck] at w1;have h0:rwE a b 0 b.length=(ax (b.length+1)).map fun(k:Nat)=>D.int (0+(k:Int)):=by
  unfold rwE;exact dA fun j _=>by rw[ev_0,Int.zero_add]
 have hm:b.length<=1000000:=by lia
 have hm2:a.length<=1000000:=by lia
 have hb2:b62 (a.length:Int):=zcM (by lia);have h1:ex1 zir (ex2 zcw (eCB zdM (zaa (zab 1) zae)) (eC (.int 1))) [aa (.val (.str (mkS a))),aa (.val (.str (mkS b))),ab,ab,ab,ab,ab]=aa (.own (rwE a b 0 b.length)):=by
  rw[h0];have hz:(0:Int)<=(b.length:Int)+1/\(b.length:Int)+1<=1000:=by lia
  have hn:((b.length:Int)+1).toNat=b.length+1:=by lia
  simp only[ex1,ex2,eCB,zaa,zab,jqf,jqe,zae,jqc,jqa,zdM,sOf,zb9,hm,zbr,zah,eC,zcw,pI0,iOf,zir,hz,and_self,hn,jra]
 have h2:iR1 (zaa (eCB zdM (zaa (zab 0) zae)) zae) [aa (.val (.str (mkS a))),aa (.val (.str (mkS b))),aa (.own (rwE a b 0 b.length)),ab,ab,ab,ab]=aa ((ax a.length).map fun(k:Nat)=>D.int (0+(k:Int))):=by
  simp only[iR1,zaa,eCB,zab,jqe,zae,jqc,jqa,zdM,sOf,zb9,hm2,zbr,zah,iOf,hb2,cO]
 have h3:atI (rwE a b a.length b.length) (-1)=aa (.int (ed a b)):=zeG (fun j=>.int (ev a b a.length j)) b.length
 suffices hF:∃ δ,zcJ [aa (.val (.str (mkS a))),aa (.val (.str (mkS b))),ab,ab,ab,ab,ab]=aa (.rt (.val (.int (ed a b))) δ) from
  hF.elim fun _ h=>(congrArg (fun o=>cv o _) h).trans rfl
 exact⟨_,(show zcJ _=_ from zaI (zdg h1)).trans ((forN h2 w1).trans (zen (ix2 (F:=ex1 zhw (eC (.int 1))) rfl h3)))⟩
inductive Kns(P:OT->List (List Nat)->Prop)(w:List Nat):List Int->List OT->List (List Nat)->Prop
 | nil:Kns P w [] [] []
 | cons {k:Int} {ks:List Int} {x:OT} {os:List OT} {us vs:List (List Nat)}:P x us->(∀ u ∈ us,ed w u=k)->0<k->k ∉ ks->Kns P w ks os vs->Kns P w (k :: ks) (x :: os) (us ++ vs)
def Kn:Nat->OT->List (List Nat)->Prop
 | 0,_,_=>False
 | n+1,x,us=>∃ w ks os vs,x=mkK (mkS w) ks os/\us=w :: vs/\Kns (Kn n) w ks os vs
section
variable {P:OT->List (List Nat)->Prop}{n:Nat}{x:OT}{w:List Nat}{ks:List Int}{os:List OT}{us vs:List (List Nat)}
def Kn.mk(h:Kns (Kn n) w ks os us):Kn (n+1) (mkK (mkS w) ks os) (w :: us):=⟨w,ks,os,us,rfl,rfl,h⟩
def Kns.imp{P':OT->List (List Nat)->Prop}(f:∀ x us,P x us->P' x us)(h:Kns P w ks os us):Kns P' w ks os us:=by
 induction h with
 | nil=>exact .nil
 | cons h1 h2 h3 h4 _ ih=>exact .cons (f _ _ h1) h2 h3 h4 ih
def Kn.up:∀ {n:Nat} {x:OT} {us:List (List Nat)},Kn n x us->Kn (n+1) x us:=by
 intro n
 induction n with
 | zero=>intro x us h;exact h.elim
 | succ n ih=>
  rintro x us ⟨w,ks,os,vs,rfl,rfl,h⟩;exact Kn.mk (h.imp fun _ _=>ih)
def Kns.up(h:Kns (Kn n) w ks os us):Kns (Kn (n+1)) w ks os us:=h.imp fun _ _=>Kn.up
def Kn.get(h:Kn n x us):∃ m w ks os vs,n=m+1/\x=mkK (mkS w) ks os/\us=w :: vs/\Kns (Kn m) w ks os vs:=by
 match n,h with
 | m+1,⟨w,ks,os,vs,h1,h2,h3⟩=>exact⟨m,w,ks,os,vs,rfl,h1,h2,h3⟩
def Kn.pos(h:Kn n x us):0<us.length:=by
 obtain⟨_,_,_,_,_,_,_,rfl,_⟩:=h.get;exact gM _
def Kns.len(h:Kns (Kn n) w ks os us):ks.length=os.length/\ks.length<=us.length:=by
 induction h with
 | nil=>exact⟨rfl,au _⟩
 | cons h1 _ _ _ _ ih=>
  refine⟨congrArg (· + 1) ih.1,?_⟩;rw[aw,aC,ka];exact Nat.add_le_add h1.pos ih.2
def Kns.mem(h:Kns P w ks os us):∀ u ∈ us,ed w u ∈ ks/\0<ed w u:=by
 induction h with
 | nil=>intro u h;cases h
 | cons h1 h2 h3 h4 _ ih=>
  intro u h;rcases bj.mp h with h | h
  ·rw[h2 u h];exact⟨am,h3⟩
  ·exact⟨aj _ (ih u h).1,(ih u h).2⟩
def Kns.at{k:Int}(h:Kns (Kn n) w ks os us):∀ {j:Nat},ks[j]? = aa k->∃ x vs pre post,os[j]? = aa x/\Kn n x vs/\(∀ u ∈ vs,ed w u=k)/\0<k/\us=pre ++ (vs ++ post)/\(∀ u ∈ us,ed w u=k->u ∈ vs) /\
  ∀ x' vs',Kn (n+1) x' vs'->(∀ u ∈ vs',ed w u=k)->Kns (Kn (n+1)) w ks (os.set j x') (pre ++ (vs' ++ post)):=by
 induction h with
 | nil=>intro j h;cases h
 | @cons k0 ks x os us vs h1 h2 h3 h4 h5 ih=>
  intro j h;cases j with
  | zero=>
   cases h;refine⟨x,us,[],vs,rfl,h1,h2,h3,rfl,fun u hu e=>?_,fun x' vs' q1 q2=>show Kns (Kn (n+1)) w _ _ (vs' ++ vs) from .cons q1 q2 h3 h4 h5.up⟩;rcases bj.mp hu with hu | hu
   ·exact hu
   ·exact absurd (e ▸ (h5.mem u hu).1) h4
  | succ j=>
   rw[bA] at h;obtain⟨x1,vs1,pre,post,e1,e2,e3,e4,e5,e6,e7⟩:=ih h;refine⟨x1,vs1,us ++ pre,post,e1,e2,e3,e4,by rw[e5,bF],fun u hu e=>?_,fun x' vs' q1 q2=>?_⟩
   ·rcases bj.mp hu with hu | hu
    ·exact absurd (by rw[<- h2 u hu,e];exact cL h) h4
    ·exact e6 u hu e
   ·rw[bF];exact .cons h1.up h2 h3 h4 (e7 x' vs' q1 q2)
def Kns.snoc{k:Int}(h:Kns P w ks os us)(q1:P x vs)(q2:∀ u ∈ vs,ed w u=k)(q3:0<k):k ∉ ks->Kns P w (ks ++ [k]) (os ++ [x]) (us ++ vs):=by
 induction h with
 | nil=>
  intro _;have:=Kns.cons q1 q2 q3 bW .nil;rwa [aY] at this
 | cons h1 h2 h3 h4 _ ih=>
  intro q4;rw[bF];refine .cons h1 h2 h3 (fun z=>?_) (ih fun z=>q4 (aj _ z));rcases bj.mp z with z | z
  ·exact h4 z
  ·exact q4 (by rw[bo.mp z];exact am)
end
def hang_kn(t:List Nat)(ht:t.length<=1000):∀ (n m:Nat) (x:OT) (us:List (List Nat)),Kn n x us->(∀ u ∈ us,u.length<=1000)->us.length<1000000->n<=m ->
  ∃ b x' us',zeD zag (mkS t) m x=aa (b,x')/\Kn (n+1) x' us'/\((t ∈ us/\us'=us) \/ (t ∉ us/\us'.Perm (t :: us))):=by
 intro n
 induction n with
 | zero=>intro m x us h;exact h.elim
 | succ n ih=>
  rintro m x us ⟨w,ks,os,vs,rfl,rfl,h⟩ hl hs hm;obtain⟨m,rfl⟩:∃ m',m=m'+1:=⟨m - 1,by lia⟩;have hp:=ed_nonneg w t;have st:zeD zag (mkS t) (m+1) (mkK (mkS w) ks os)=zg5 (zeD zag (mkS t) m) (mkS t) (mkS w) ks os (ed w t):=by
   unfold zeD;rw[knOf_mk];simp only[aL];rw[zge w t (hl w am) ht];rfl
  rw[st];unfold zg5;by_cases h0:0<ed w t
  ·rw[if_pos h0];cases hix:ixI ks (ed w t) with
   | none=>
    have hno:=zf6 hix;have hk:=h.len;rw[aw] at hs;refine⟨true,_,w :: (vs ++ [t]),if_pos (by lia),Kn.mk (h.up.snoc (Kn.mk .nil) (fun u hu=>by rw[bo.mp hu]) h0 hno),.inr ⟨fun z=>?_,?_⟩⟩
    ·rcases az.mp z with z | z
     ·rw[z,ed_self] at h0;lia
     ·exact hno (h.mem t z).1
    ·exact(jz w (ii (l₁:=vs) (l₂:=[t]))).trans (.swap _ _ _)
   | some j=>
    obtain⟨x1,vs1,pre,post,e1,e2,e3,e4,e5,e6,e7⟩:=h.at (zhZ hix);have sub:∀ u ∈ vs1,u ∈ w :: vs:=fun u hu=>aj _ (by rw[e5];exact aA _ (bg _ hu));have hl1:vs1.length<1000000:=by
     have:=congrArg cY e5;simp only[aC,aw] at this hs;lia
    obtain⟨b,x',us',q1,q2,q3⟩:=ih m x1 vs1 e2 (fun u hu=>hl u (sub u hu)) hl1 (by lia);have all:∀ u ∈ us',ed w u=ed w t:=fun u hu=>by
     rcases q3 with ⟨_,rfl⟩ | ⟨_,q3⟩
     ·exact e3 u hu
     ·rcases az.mp (q3.mem_iff.mp hu) with z | z
      ·rw[z]
      ·exact e3 u z
    refine⟨b,mkK (mkS w) ks (os.set j x'),w :: (pre ++ (us' ++ post)),?_,Kn.mk (e7 x' us' q2 all),?_⟩
    ·show((os[j]?).bind fun y=>(zeD zag (mkS t) m y).map fun q=>(q.1,mkK (mkS w) ks (os.set j q.2)))=_;rw[e1];simp only[aL];rw[q1];rfl
    ·rcases q3 with ⟨z1,rfl⟩ | ⟨z1,z2⟩
     ·exact .inl ⟨sub t z1,by rw[e5]⟩
     ·refine .inr ⟨fun z=>?_,?_⟩
      ·rcases az.mp z with z | z
       ·rw[z,ed_self] at h0;lia
       ·exact z1 (e6 t z rfl)
      ·rw[e5];refine(jz w ((ik pre (z2.append_right post)).trans ?_)).trans (.swap _ _ _)
       exact gI
  ·rw[if_neg h0];have hz:ed w t=0:=by lia
   have:=ed_zero hz;subst this;exact⟨false,_,w :: vs,if_pos hz,Kn.mk h.up,.inl ⟨am,rfl⟩⟩
noncomputable section
def dK(kC:Str->af)(x:OT):D:=(toD kC x).getD .non
def dK_of{kC:Str->af}{x:OT}{d:D}(h:toD kC x=aa d):toD kC x=aa (dK kC x):=by unfold dK;rw[h];rfl
def Kns.dP{kC:Str->af}{P:OT->List (List Nat)->Prop}{w:List Nat}{ks:List Int}{os:List OT}{us:List (List Nat)}(f:∀ x us,P x us->toD kC x=aa (dK kC x))(h:Kns P w ks os us):toDs kC os=aa (os.map (dK kC)):=by
 induction h with
 | nil=>simp only[toDs];rfl
 | cons h1 _ _ _ _ ih=>simp only[toDs,f _ _ h1,ih,bS,aL];rfl
def Kn.d{kC:Str->af}:∀ {n:Nat} {x:OT} {us:List (List Nat)},Kn n x us->toD kC x=aa (dK kC x):=by
 intro n
 induction n with
 | zero=>intro x us h;exact h.elim
 | succ n ih=>
  rintro x us ⟨w,ks,os,vs,rfl,rfl,h⟩;refine dK_of (d:=.ins (kC "Knot") ["word","branches"] [.str (mkS w),.dcI ks (os.map (dK kC))]) ?_;unfold mkK;simp only[toD,toDs,h.dP fun _ _=>ih,bS,aL]
def Kns.d{kC:Str->af}{n:Nat}{w:List Nat}{ks:List Int}{os:List OT}{us:List (List Nat)}(h:Kns (Kn n) w ks os us):toDs kC os=aa (os.map (dK kC)):=h.dP fun _ _=>Kn.d
def dK_mk{kC:Str->af}{n:Nat}{w:List Nat}{ks:List Int}{os:List OT}{us:List (List Nat)}(h:Kns (Kn n) w ks os us):dK kC (mkK (mkS w) ks os)=.ins (kC "Knot") ["word","branches"] [.str (mkS w),.dcI ks (os.map (dK kC))]:=by
 unfold dK mkK;simp only[toD,toDs,h.d,bS,aL];rfl
def rch(p most:Int):List Int->List OT->List OT
 | k :: ks,x :: os=>if (if k - p<0 then -(k - p) else k - p)<=most then x :: rch p most ks os else rch p most ks os
 | _,_=>[]
def rch_c(p most k:Int)(ks:List Int)(x:OT)(os:List OT):rch p most (k :: ks) (x :: os)=if (if k - p<0 then -(k - p) else k - p)<=most then x :: rch p most ks os else rch p most ks os:=by rw[rch]
def ixI_mid{k:Int}:∀ {pre:List Int} {rest:List Int},k ∉ pre->ixI (pre ++ k :: rest) k=aa pre.length
 | [],_,_=>if_pos rfl
 | a :: pre,rest,h=>by
  rw[gJ];unfold ixI;rw[if_neg fun e=>h (by rw[e];exact am),ixI_mid fun z=>h (aj _ z)];rfl
def zfu(kC:Str->af)(wd:D)(p most:Int):∀ (rest:List Int) (ro:List OT) (pre:List Int) (po:List OT),rest.length=ro.length->pre.length=po.length->(pre ++ rest).Nodup ->
  zcO (fun d=>zaW kC (cEn [0,2,1] [aa (.val (.ins (kC "Knot") ["word","branches"] [wd,.dcI (pre ++ rest) ((po ++ ro).map (dK kC))])),aa (.val (.int p)),aa (.val (.int most))] d)) (fun d=>zaV kC (cEn [0,2,1] [aa (.val (.ins (kC "Knot") ["word","branches"] [wd,.dcI (pre ++ rest) ((po ++ ro).map (dK kC))])),aa (.val (.int p)),aa (.val (.int most))] d)) (rest.map D.int)=aa ((rch p most rest ro).map (dK kC))
 | [],[],pre,po,_,_,_=>rfl
 | k :: rest,x :: ro,pre,po,h1,h2,h3=>by
  have hk:k ∉ pre:=fun z=>(bG.mp h3).2.2 k z k am rfl;have ih:=zfu kC wd p most rest ro (pre ++ [k]) (po ++ [x]) (by simpa using h1) (by simp[h2]) (by simpa using h3);rw[bF,di,bF,di] at ih;have hx:((po ++ x :: ro).map (dK kC))[pre.length]? = aa (dK kC x):=by
   rw[h2,aD,cA (au _),kl];rfl
  have hi:=ixI_mid (rest:=rest) hk;generalize (po ++ x :: ro).map (dK kC)=L at *;generalize pre ++ k :: rest=KS at *;rw[aF,zcO,ih];have q:zaV kC (cEn [0,2,1] [aa (.val (.ins (kC "Knot") ["word","branches"] [wd,.dcI KS L])),aa (.val (.int p)),aa (.val (.int most))] (D.int k))=aa (.val (dK kC x)):=by
   simp only[zaV,ex2,ex1,zab,cEn,jqn,jqe,jqx,jqa,capt,jqf,jqo,zbR,asIn,and_self,jra,jqc,gDxI,asDi,iOf,hi,hx]
  have t:zaW kC (cEn [0,2,1] [aa (.val (.ins (kC "Knot") ["word","branches"] [wd,.dcI KS L])),aa (.val (.int p)),aa (.val (.int most))] (D.int k))=aa (decide ((if k - p<0 then -(k - p) else k - p)<=most)):=by
   simp only[zaW,tOf,ex2,eCB,zaa,zab,cEn,jqn,jqe,jqx,jqa,capt,jqf,jqo,ziz,pI0,iOf,jqc,zae,gAbs,gLe,bOf]
  rw[q,t,rch_c];by_cases c:(if k - p<0 then -(k - p) else k - p)<=most
  ·rw[if_pos c,decide_eq_true c];rfl
  ·rw[if_neg c,decide_eq_false c];rfl
def zht{p most:Int}:∀ (ks:List Int) (os:List OT),(rch p most ks os).length<=os.length
 | [],[]=>au _
 | [],_ :: _=>cm _
 | _ :: _,[]=>cm _
 | k :: ks,x :: os=>by
  rw[rch_c];have:=zht (p:=p) (most:=most) ks os;by_cases c:(if k - p<0 then -(k - p) else k - p)<=most
  ·rw[if_pos c,aw,aw];lia
  ·rw[if_neg c,aw];lia
def Kns.nd{P:OT->List (List Nat)->Prop}{w:List Nat}{ks:List Int}{os:List OT}{us:List (List Nat)}(h:Kns P w ks os us):ks.Nodup:=by
 induction h with
 | nil=>exact .nil
 | cons _ _ _ h4 _ ih=>exact aG.mpr ⟨h4,ih⟩
def reach_eq(kC:Str->af){n:Nat}{w:List Nat}{ks:List Int}{os:List OT}{us:List (List Nat)}(h:Kns (Kn n) w ks os us)(p most:Int)(hl:us.length<=1000) :
  za0 kC [dK kC (mkK (mkS w) ks os),.int p,.int most]=aa (.own ((rch p most ks os).map (dK kC))):=by
 have c:=zfu kC (.str (mkS w)) p most ks os [] [] h.len.1 rfl h.nd;rw[cj,cj] at c;rw[dK_mk h];have hz:((rch p most ks os).map (dK kC)).length<=1000000:=by
  have h1:=zht (p:=p) (most:=most) ks os;have h2:=h.len;rw[al];lia
 have ec:eLC [0,2,1] (iDi (ex1 (zbR (kC "Knot") ["word","branches"] 1) (zab 0))) (zaW kC) (zaV kC) [aa (.val (.ins (kC "Knot") ["word","branches"] [.str (mkS w),.dcI ks (os.map (dK kC))])),aa (.val (.int p)),aa (.val (.int most))]=aa (.own ((rch p most ks os).map (dK kC))):=by
  refine zev ?_ c hz;simp only[iDi,ex1,zab,jqe,jqa,zbR,asIn,and_self,jra,jqf,jqc,asDi]
 generalize os.map (dK kC)=L at *;generalize (rch p most ks os).map (dK kC)=R at *;simp only[za0,zcS,stE,stN,jqc,jqa,zcn,zb2,aJ,jqk,toN,ec,zf4]
inductive Stk:List OT->List (List Nat)->Prop
 | nil:Stk [] []
 | snoc {n:Nat} {x:OT} {xs:List OT} {us vs:List (List Nat)}:Stk xs vs->Kn n x us->Stk (xs ++ [x]) (vs ++ us)
def Stk.len{xs:List OT}{us:List (List Nat)}(h:Stk xs us):xs.length<=us.length:=by
 induction h with
 | nil=>exact au _
 | snoc _ h2 ih=>
  have:=h2.pos;simp only[aC,aw,bm];lia
def inR(t:List Nat)(most:Int)(u:List Nat):Bool:=decide (ed u t<=most)
def far_off{w t u:List Nat}{most:Int}(h:¬ (if ed w u - ed w t<0 then -(ed w u - ed w t) else ed w u - ed w t)<=most):inR t most u=false:=by
 have h1:=ed_tri w u t;have h2:=ed_tri w t u;rw[zhl u t] at h2;unfold inR;refine decide_eq_false fun z=>h ?_;split <;> lia
def reach_stk(t:List Nat)(most:Int){n:Nat}{w:List Nat}{ks:List Int}{os:List OT}{us:List (List Nat)}(h:Kns (Kn n) w ks os us):∀ {xs:List OT} {vs:List (List Nat)},Stk xs vs ->
  ∃ vk,Stk (xs ++ rch (ed w t) most ks os) (vs ++ vk)/\vk.length<=us.length/\(∀ u ∈ vk,u ∈ us)/\vk.filter (inR t most)=us.filter (inR t most):=by
 induction h with
 | nil=>intro xs vs s;exact⟨[],by rw[aY];unfold rch;rw[aY];exact s,au _,fun _ h=>h,rfl⟩
 | @cons k ks x os us vs' h1 h2 h3 h4 h5 ih=>
  intro xs vs s;rw[rch_c,aC];by_cases c:(if k - ed w t<0 then -(k - ed w t) else k - ed w t)<=most
  ·rw[if_pos c];obtain⟨vk,q1,q2,q3,q4⟩:=ih (s.snoc h1);rw[bF,bF] at q1;refine⟨us ++ vk,q1,by rw[aC];exact iz q2 _,fun u hu=>?_,by rw[dE,dE,q4]⟩;rcases bj.mp hu with z | z
   ·exact bg _ z
   ·exact aA _ (q3 u z)
  ·rw[if_neg c];obtain⟨vk,q1,q2,q3,q4⟩:=ih s;refine⟨vk,q1,bp q2 (Nat.le_add_left _ _),fun u hu=>aA _ (q3 u hu),?_⟩;have:us.filter (inR t most)=[]:=List.filter_eq_nil_iff.mpr fun u hu=>by
    rw[far_off (w:=w) (by rw[h2 u hu];exact c)];exact aQ
   rw[dE,this,q4];rfl
def prE(t:List Nat)(u:List Nat):Int × Str:=(ed u t,mkS u)
def near_turn(kC:Str->af)(t:List Nat)(most:Int)(ht:t.length<=1000){n:Nat}{w:List Nat}{ks:List Int}{os:List OT}{us:List (List Nat)}(h:Kns (Kn n) w ks os us)(hw:w.length<=1000)(hu:us.length<=1000)(xs:List OT)(hxs:xs.length<=1000)(fs:List (Int × Str))(hf:fs.length<=1000)(d0 x5 x6:Option Ent):∃ y5 y6,
  zbq kC [d0,aa (.val (.str (mkS t))),aa (.val (.int most)),aa (.own (fs.map prD)),aa (.own ((xs ++ [mkK (mkS w) ks os]).map (dK kC))),x5,x6] =
  aa (.nx [d0,aa (.val (.str (mkS t))),aa (.val (.int most)),aa (.own ((fs ++ if inR t most w=true then [prE t w] else []).map prD)),aa (.own ((xs ++ rch (ed w t) most ks os).map (dK kC))),y5,y6]):=by
 have sl:=zge w t hw ht;have re:=reach_eq kC h (ed w t) most hu;have hr:=zht (p:=ed w t) (most:=most) ks os;have hk:=h.len;refine⟨aa (.val (dK kC (mkK (mkS w) ks os))),aa (.val (.int (ed w t))),?_⟩;have fld:∀ δ:En,δ[5]? = aa (aa (.val (dK kC (mkK (mkS w) ks os))))->ex1 (zbR (kC "Knot") ["word","branches"] 0) (zab 5) δ=aa (.val (.str (mkS w))):=fun δ hδ=>by
  rw[dK_mk h] at hδ;unfold ex1 zab;rw[hδ];simp only[jqa,zbR,asIn,and_self,jra,jqe,jqc]
 have e1:fPop 4 (gNm 5) [d0,aa (.val (.str (mkS t))),aa (.val (.int most)),aa (.own (fs.map prD)),aa (.own ((xs ++ [mkK (mkS w) ks os]).map (dK kC))),x5,x6]=aa (.nx [d0,aa (.val (.str (mkS t))),aa (.val (.int most)),aa (.own (fs.map prD)),aa (.own (xs.map (dK kC))),aa (.val (dK kC (mkK (mkS w) ks os))),x6]):=by
  have q1:((xs ++ [mkK (mkS w) ks os]).map (dK kC))[((xs ++ [mkK (mkS w) ks os]).map (dK kC)).length - 1]? = aa (dK kC (mkK (mkS w) ks os)):=by
   rw[bz,aC,aF,bK,aw,bm,ck,d9,cA (au _),kl];rfl
  have q2:((xs ++ [mkK (mkS w) ks os]).map (dK kC)).dropLast=xs.map (dK kC):=by
   rw[bz,aF,bK,List.dropLast_concat]
  unfold fPop;simp only[cM,bA];rw[q1,q2];rfl
 refine(show zbq kC _=_ from zaI e1).trans ?_;refine(zaI (zeZ (v:=.int (ed w t)) ((zfa (fld _ rfl) (Y:=zab 1) (b:=.str (mkS t)) rfl).trans sl))).trans ?_;generalize dK kC (mkK (mkS w) ks os)=X at *;have fin:∀ gs:List D,fExt 4 (zaM [.v,.v,.v] (za0 kC) (zaa (zab 5) (zaa (zab 6) (zaa (zab 2) zae)))) [d0,aa (.val (.str (mkS t))),aa (.val (.int most)),aa (.own gs),aa (.own (xs.map (dK kC))),aa (.val X),aa (.val (.int (ed w t)))] =
   aa (.nx [d0,aa (.val (.str (mkS t))),aa (.val (.int most)),aa (.own gs),aa (.own ((xs ++ rch (ed w t) most ks os).map (dK kC))),aa (.val X),aa (.val (.int (ed w t)))]):=fun gs=>by
  rw[bz];have hz:(xs.map (dK kC)).length+((rch (ed w t) most ks os).map (dK kC)).length<=1000000:=by rw[al,al];lia
  generalize xs.map (dK kC)=XS at *;generalize (rch (ed w t) most ks os).map (dK kC)=RS at *;simp only[fExt,jqf,jqe,zaM,zaa,zab,zae,jqc,jqa,zbF,ze9,asV,re,jqh,jqg,hz,zbr,zah]
 by_cases c:ed w t<=most
 ·have ci:inR t most w=true:=decide_eq_true c;rw[ci,if_pos rfl,bz,aF,bK];have hz:(fs.map prD).length<1000000:=by rw[al];lia
  generalize fs.map prD=FS at *;refine(zaI ((fIfT ?_).trans (ziK (v:=prD (prE t w)) rfl ?_ hz))).trans (fin _)
  ·simp only[tOf,ex2,zab,jqh,jqg,jqf,jqe,gLe,pI0,iOf,jqa,jqc,c,jqy,bOf]
  ·unfold ze3 zaa zae;rw[fld _ rfl];rfl
 ·have ci:inR t most w=false:=decide_eq_false c;rw[ci,if_neg aQ,aY];generalize fs.map prD=FS at *;refine(zaI (zhN ?_)).trans (fin _)
  simp only[tOf,ex2,zab,jqh,jqg,jqf,jqe,gLe,pI0,iOf,jqa,jqc,c,jqz,bOf]
def near_loop(kC:Str->af)(t:List Nat)(most:Int)(ht:t.length<=1000)(d0:Option Ent):∀ (N:Nat) (xs:List OT) (us:List (List Nat)) (fs:List (Int × Str)) (x5 x6:Option Ent),Stk xs us->us.length<=N->fs.length+us.length<=1000->(∀ u ∈ us,u.length<=1000) ->
  ∃ gs y5 y6,whl (zaS kC) (zbq kC) (N+1) [d0,aa (.val (.str (mkS t))),aa (.val (.int most)),aa (.own (fs.map prD)),aa (.own (xs.map (dK kC))),x5,x6] =
   aa (.nx [d0,aa (.val (.str (mkS t))),aa (.val (.int most)),aa (.own ((fs ++ gs).map prD)),aa (.own []),y5,y6])/\gs.Perm ((us.filter (inR t most)).map (prE t)):=by
 intro N;have test:∀ (FS XS:List D) (x5 x6:Option Ent),XS.length<=1000->zaS kC [d0,aa (.val (.str (mkS t))),aa (.val (.int most)),aa (.own FS),aa (.own XS),x5,x6]=aa (decide (0<XS.length)):=fun FS XS x5 x6 _=>by
  by_cases z:0<XS.length
  ·have z':(0:Int)<(XS.length:Int):=by lia
   simp only[zaS,tOf,ex2,eCB,zaa,zab,jqf,jqe,zae,jqc,jqa,zbJ,ze4,asL,eC,gGt,pI0,iOf,z',jqy,bOf,z]
  ·have z':¬ (0:Int)<(XS.length:Int):=by lia
   simp only[zaS,tOf,ex2,eCB,zaa,zab,jqf,jqe,zae,jqc,jqa,zbJ,ze4,asL,eC,gGt,pI0,iOf,z',jqz,bOf,z]
 have stop:∀ (M:Nat) (fs:List (Int × Str)) (x5 x6:Option Ent),whl (zaS kC) (zbq kC) (M+1) [d0,aa (.val (.str (mkS t))),aa (.val (.int most)),aa (.own (fs.map prD)),aa (.own []),x5,x6]=aa (.nx [d0,aa (.val (.str (mkS t))),aa (.val (.int most)),aa (.own (fs.map prD)),aa (.own []),x5,x6]):=fun M fs x5 x6=>by
  show((zaS kC _).bind _)=_;rw[test _ _ _ _ (by simp)];rfl
 induction N with
 | zero=>
  intro xs us fs x5 x6 s h1 h2 h3;cases s with
  | nil=>exact⟨[],x5,x6,by rw[aY];exact stop _ _ _ _,.refl _⟩
  | snoc s1 k=>
   have:=k.pos;rw[aC] at h1;lia
 | succ N ih=>
  intro xs us fs x5 x6 s h1 h2 h3;cases s with
  | nil=>exact⟨[],x5,x6,by rw[aY];exact stop _ _ _ _,.refl _⟩
  | @snoc n x xs us vs s1 k=>
   obtain⟨n,w,ks,os,vs1,_,rfl,rfl,hk⟩:=k.get;simp only[aC,aw] at h1 h2;have hxl:=s1.len;obtain⟨vk,q1,q2,q3,q4⟩:=reach_stk t most hk s1;obtain⟨z5,z6,e1⟩:=near_turn kC t most ht hk (h3 w (by simp)) (by lia) xs (by lia) fs (by lia) d0 x5 x6;have hfl:(if inR t most w=true then [prE t w] else []).length<=1:=by split <;> simp
   obtain⟨gs,y5,y6,e2,e3⟩:=ih (xs ++ rch (ed w t) most ks os) (vs ++ vk) (fs ++ if inR t most w=true then [prE t w] else []) z5 z6 q1 (by rw[aC];lia) (by rw[aC,aC];lia) (fun u hu=>by
    rcases bj.mp hu with z | z
    ·exact h3 u (bg _ z)
    ·exact h3 u (aA _ (aj _ (q3 u z))))
   refine⟨(if inR t most w=true then [prE t w] else []) ++ gs,y5,y6,?_,?_⟩
   ·rw[<- bF,<- e2];show((zaS kC _).bind _)=_;rw[test _ _ _ _ (by rw[al,aC];simp only[aw,bm];lia),decide_eq_true (by simp)];show((zbq kC _).bind _)=_;rw[e1];rfl
   ·rw[dE,q4,bz] at e3;rw[dE,bz,gN];refine(ik _ e3).trans ?_;cases inR t most w with
    | true=>rw[if_pos rfl,if_pos rfl,aF,di];exact gI.symm
    | false=>exact .refl _
def tupO{E:FE}{δ:En}{ds:List D}(h:E δ=aa (.own ds))(hl:ds.length<=1000000):eCB zep (zaa E zae) δ=aa (.val (.tup ds)):=by simp only[eCB,zaa,h,zae,jqc,jqa,zep,asL]
def bkO(top:OT):OT:=.ins "Book" ["top"] [top]
def zhf(kC:Str->af)(t:List Nat)(most:Int):zaf kC [.ins (kC "Book") ["top"] [.non],.str (mkS t),.int most]=aa (.val (.tup [])):=by
 simp only[zaf,zcS,stE,stN,jqc,jqa,zcy,zaX,fIf,tOf,ex2,ex1,zab,aJ,eC,ziC,isN,zb2,ze3,zae,jqq,Nat.reduceLeDiff,ze5,jra,toN,fNx,jqi,jqj,jqe,zbR,asIn,and_self,bOf,sqO,zf4]
def zhk{kC:Str->af}{n:Nat}{x:OT}{us:List (List Nat)}(hk:Kn n x us):isN (.val (dK kC x))=false:=by
 obtain⟨_,_,_,_,_,_,rfl,_,h⟩:=hk.get;rw[dK_mk h];rfl
def zh6{kC:Str->af}{X:D}{δ:En}(hδ:δ[0]? = aa (aa (.val (.ins (kC "Book") ["top"] [X])))):ex1 (zbR (kC "Book") ["top"] 0) (zab 0) δ=aa (.val X):=by
 unfold ex1 zab;rw[hδ];simp only[jqa,zbR,asIn,and_self,jra,jqe,jqc]
def zhs{kC:Str->af}{X:D}{δ:En}(hδ:δ[0]? = aa (aa (.val (.ins (kC "Book") ["top"] [X]))))(hne:isN (.val X)=false):tOf (ex2 ziC (ex1 (zbR (kC "Book") ["top"] 0) (zab 0)) (eC .non)) δ=aa false:=by
 unfold tOf ex2;rw[zh6 hδ];simp only[eC,ziC,isN,jqa,bOf];exact congrArg aa hne
def near_k(kC:Str->af)(n:Nat)(x:OT)(us:List (List Nat))(hk:Kn n x us)(hu:us.length<=60)(hl:∀ u ∈ us,u.length<=1000)(t:List Nat)(ht:t.length<=1000)(most:Int) :
  zaf kC [.ins (kC "Book") ["top"] [dK kC x],.str (mkS t),.int most]=aa (.val (.tup ((zg2 ((us.filter (inR t most)).map (prE t))).map prD))):=by
 obtain⟨gs,y5,y6,e1,e2⟩:=near_loop kC t most ht (aa (.val (.ins (kC "Book") ["top"] [dK kC x]))) 999 [x] us [] ab ab (by simpa using Stk.snoc .nil hk) (by lia) (by simp;lia) hl;have hs:zg2 gs=zg2 ((us.filter (inR t most)).map (prE t)):=zec ((zbm gs).trans e2) (ze1 gs);have hne:=zhk (kC:=kC) hk;have hgl:gs.length<=60:=by
  rw[e2.length_eq,al];have:=dO (inR t most) us;lia
 rw[cj] at e1;have hF:zcy kC [aa (.val (.ins (kC "Book") ["top"] [dK kC x])),aa (.val (.str (mkS t))),aa (.val (.int most)),ab,ab,ab,ab]=aa (.rt (.val (.tup ((zg2 gs).map prD))) [aa (.val (.ins (kC "Book") ["top"] [dK kC x])),aa (.val (.str (mkS t))),aa (.val (.int most)),aa (.own (gs.map prD)),aa (.own []),y5,y6]):=by
  rw[bK,aF,bK] at e1;have hsl:(zg2 gs).length<=60:=by rw[(zbm gs).length_eq];exact hgl
  have hz:((zg2 gs).map prD).length<=1000000:=by rw[al];lia
  have hg:gs.length<64:=by lia
  have pm:=zf5 gs;generalize dK kC x=X at *;refine(show zcy kC _=_ from zaI (zhN (zhs rfl hne))).trans ((zaI (zdg (show zcN zae _=aa (.own []) from rfl))).trans ((zaI (zdg (eLst1 (zh6 rfl)))).trans ((zaI e1).trans ?_)))
  have q:eCB zhi (zaa (zab 3) zae) [aa (.val (.ins (kC "Book") ["top"] [X])),aa (.val (.str (mkS t))),aa (.val (.int most)),aa (.own (gs.map prD)),aa (.own []),y5,y6]=aa (.own ((zg2 gs).map prD)):=by
   generalize gs.map prD=GS at *;simp only[eCB,zaa,zab,jqf,jqe,zae,jqc,jqa,zhi,asL,pm,hg,zah]
  exact zen (tupO q hz)
 rw[<- hs];exact(congrArg (fun o=>cv o _) hF).trans rfl
end
def eTup2{A B:FE}{δ:En}{a b:D}(hA:A δ=aa (.val a))(hB:B δ=aa (.val b)):ze3 (zaa A (zaa B zae)) δ=aa (.val (.tup [a,b])):=by
 unfold ze3 zaa zae;rw[hA,hB];rfl
def call1{X:FE}{δ:En}{a:D}{g:List D->Option Ent}(hX:X δ=aa (.val a)):zaM [.v] g (zaa X zae) δ=g [a]:=by
 unfold zaM zaa zae;rw[hX];rfl
def dxI{X Y:FE}{δ:En}{ks:List Int}{ds:List D}{p:Int}{j:Nat}{d:D}(hX:X δ=aa (.val (.dcI ks ds)))(hY:Y δ=aa (.val (.int p)))(hj:ixI ks p=aa j)(hd:ds[j]? = aa d):ex2 gDxI X Y δ=aa (.val d):=by
 unfold ex2;rw[hX,hY];show(ixI ks p).bind _=_;rw[hj];show(ds[j]?).map _=_;rw[hd];rfl
def fldV{C:af}{ns:List Str}{l:List D}{k:Nat}{d:D}{X:FE}{δ:En}(hX:X δ=aa (.val (.ins C ns l)))(hd:l[k]? = aa d):ex1 (zbR C ns k) X δ=aa (.val d):=by
 unfold ex1;rw[hX];show(if C=C/\ns=ns then aa l else ab).bind _=_;rw[if_pos ⟨rfl,rfl⟩];show(l[k]?).map _=_;rw[hd];rfl
def srtDi{X:FE}{δ:En}{ks:List Int}{ds:List D}(hX:X δ=aa (.val (.dcI ks ds)))(hl:ks.length<64):eCB gSrtDi (zaa X zae) δ=aa (.own ((zjg ks).map .int)):=by
 unfold eCB zaa zae;rw[hX];show(if ks.length<64 then aa (Ent.own ((zjg ks).map .int)) else ab)=_;rw[if_pos hl]
def ixLV{E F:FE}{δ:En}{ds:List D}{a:Int}{v:D}(h1:E δ=aa (.val (.lst ds)))(h2:F δ=aa (.val (.int a)))(h:atI ds a=aa v):ex2 zca E F δ=aa (.val v):=by simp only[ex2,h1,h2,zca,asL,iOf,jqa,h,jqc]
section
open PySem.Spec PyProof.Rows
def zhP:∀ a b:List Nat,ltCps a b=false \/ ltCps b a=false
 | [],[]=>.inl rfl
 | [],_ :: _=>.inr rfl
 | _ :: _,[]=>.inl rfl
 | a :: r,b :: t=>by
  simp only[ltCps,eZ,decide_eq_false_iff_not,eQ,beq_iff_eq];by_cases e:a=b
  ·exact(zhP r t).imp (fun h=>⟨by lia,fun _=>h⟩) fun h=>⟨by lia,fun _=>h⟩
  ·by_cases c:a<b
   ·exact .inr ⟨by lia,fun z=>by lia⟩
   ·exact .inl ⟨by lia,fun z=>by lia⟩
def srt_ok(zs:List Str):(TS.srt zs).Perm zs:=by
 have h:=eD (le:=fun a b:Str=>!ltCps b.cps.toList a.cps.toList) (fun a b c h1 h2=>by
  rw[gh] at *;exact TS.lt_trans _ _ _ h1 h2) (fun a b=>by
  rcases zhP b.cps.toList a.cps.toList with h | h
  ·rw[h];rfl
  ·rw[h,Bool.not_false,iP]) zs
 have p:=fG zs (fun a b:Str=>!ltCps b.cps.toList a.cps.toList);rw[TS.srt_eq (h.imp fun {a b} z=>(gh _).mp z) p];exact p
end
def ddp_ok:∀ (zs acc:List Str),acc.Nodup->(zs.foldl TS.put acc).Nodup/\(∀ z,z ∈ zs.foldl TS.put acc ↔ z ∈ acc \/ z ∈ zs)/\(zs.foldl TS.put acc).length<=acc.length+zs.length
 | [],acc,h=>⟨h,fun z=>by simp,by simp⟩
 | y :: zs,acc,h=>by
  have hp:(TS.put acc y).Nodup/\(∀ z,z ∈ TS.put acc y ↔ z ∈ acc \/ z=y)/\(TS.put acc y).length<=acc.length+1:=by
   unfold TS.put;by_cases c:y ∈ acc
   ·rw[if_pos c];exact⟨h,fun z=>⟨.inl,fun q=>q.elim id fun e=>e ▸ c⟩,cg _⟩
   ·rw[if_neg c];exact⟨bG.mpr ⟨h,by simp,fun a ha b hb e=>c (by rw[bo.mp hb] at e;exact e ▸ ha)⟩,fun z=>by simp,by simp⟩
  obtain⟨i1,i2,i3⟩:=ddp_ok zs (TS.put acc y) hp.1;refine⟨i1,fun z=>?_,?_⟩
  ·rw[c9,i2,hp.2.1,az,or_assoc]
  ·rw[c9,aw];have:=hp.2.2;lia
def zga(zs:List (List Nat))(hz:zs.length<=60):∃ ys:List (List Nat),ssO (zs.map mkS)=aa (.own (ys.map fun u=>.str (mkS u)))/\ys.Nodup/\(∀ u,u ∈ ys ↔ u ∈ zs)/\ys.length<=60:=by
 obtain⟨d1,d2,d3⟩:=ddp_ok (zs.map mkS) [] .nil;have d3':(TS.ddp (zs.map mkS)).length<=60:=by
  have:(TS.ddp (zs.map mkS)).length<=([]:List Str).length+(zs.map mkS).length:=d3;simp only[bm,al] at this;lia
 have p:=srt_ok (TS.ddp (zs.map mkS));have bk:∀ l:List Str,(l.map fun s=>s.cps.toList).map mkS=l:=fun l=>by
  rw[bY];exact(dA fun s _=>mkS_cps s).trans (i7 l)
 refine⟨(TS.srt (TS.ddp (zs.map mkS))).map fun s=>s.cps.toList,?_,?_,fun u=>?_,by rw[al,p.length_eq];exact d3'⟩
 ·unfold ssO;rw[zhE ⟨by rw[al];lia,by lia⟩];congr 2;have:=congrArg (lr D.str) (bk (TS.srt (TS.ddp (zs.map mkS))));rw[bY] at this;exact this.symm
 ·have nd:(TS.srt (TS.ddp (zs.map mkS))).Nodup:=p.nodup_iff.mpr d1;refine kL (S:=(· ≠ ·)) mkS (fun a b h e=>h (by rw[e])) ?_;rw[bk];exact nd
 ·rw[bH];constructor
  ·rintro⟨s,hs,rfl⟩;rcases (d2 s).mp (p.mem_iff.mp hs) with h | h
   ·cases h
   ·obtain⟨v,hv,e⟩:=bH.mp h;rw[<- e,zej];exact hv
  ·intro h;exact⟨mkS u,p.mem_iff.mpr ((d2 _).mpr (.inr (bH.mpr ⟨u,h,rfl⟩))),zej u⟩
def zdZ{f:D->D->Option Bool}:∀ {ds:List D},(∀ d ∈ ds,f d d=aa true)->zef f ds ds=aa true
 | [],_=>rfl
 | d :: ds,h=>by
  show((f d d).bind fun b=>(zef f ds ds).map fun c=>b && c)=_;rw[h d am,zdZ fun e he=>h e (aj _ he)];rfl
def eq_prs(ps:List (Int × Str)):zef (eqD 60) (ps.map prD) (ps.map prD)=aa true:=by
 refine zdZ fun d hd=>?_;obtain⟨p,_,rfl⟩:=bH.mp hd;simp[prD,eqD,zef,flD,eqF]
def rw_le{a b:Int × Str}(h:rwP a<=rwP b):a.1<=b.1:=by
 have h':(a.1 :: a.2.cps.toList.map fU)<=(b.1 :: b.2.cps.toList.map fU):=h;rcases List.cons_le_cons_iff.mp h' with z | z
 ·exact Int.le_of_lt z
 ·exact Int.le_of_eq z.1
def SS(t:List Nat)(ys:List (List Nat)):List (Int × Str):=zg2 (ys.map (prE t))
def zb7(t:List Nat)(ys:List (List Nat))(q:Int):List (Int × Str):=(SS t ys).filter fun p=>decide (p.1<=q)
def zb4(t:List Nat)(ys:List (List Nat)):List (Int × Str):=(SS t ys).filter fun x=>decide ((SS t ys).head?.map (·.1)=aa x.1)
def SS_near(t:List Nat)(ys:List (List Nat))(q:Int):zg2 ((ys.filter (inR t q)).map (prE t))=zb7 t ys q:=by
 refine(zec ?_ ((ze1 _).filter _)).symm;refine((zbm _).filter _).trans ?_;rw[List.filter_map];exact .refl _
def zgl(t:List Nat)(ys:List (List Nat)):(SS t ys).length=ys.length:=by unfold SS;rw[(zbm _).length_eq,al]
def SS_head{t:List Nat}{ys:List (List Nat)}{p:Int × Str}{rest:List (Int × Str)}(h:SS t ys=p :: rest):∀ x ∈ SS t ys,p.1<=x.1:=by
 have up:(SS t ys).Pairwise fun a b=>rwP a<=rwP b:=ze1 _;rw[h] at up ⊢;intro x hx;rcases az.mp hx with rfl | hx
 ·exact fN _
 ·exact rw_le ((List.pairwise_cons.mp up).1 x hx)
def zhx{t:List Nat}{ys:List (List Nat)}{p:Int × Str}{rest:List (Int × Str)}(h:SS t ys=p :: rest):zb4 t ys=(SS t ys).filter fun x=>decide (p.1=x.1):=by
 unfold zb4;refine gk fun x _=>?_;rw[h];simp
def zhS{t:List Nat}{ys:List (List Nat)}{p:Int × Str}{rest:List (Int × Str)}(h:SS t ys=p :: rest):∃ r,zb4 t ys=p :: r:=by
 rw[zhx h,h,gN,if_pos (by simp)];exact⟨_,rfl⟩
def zih{t:List Nat}{ys:List (List Nat)}{p:Int × Str}{rest:List (Int × Str)}(h:SS t ys=p :: rest):zb7 t ys p.1=zb4 t ys:=by
 rw[zhx h];refine gk fun x hx=>?_;have:=SS_head h x hx;by_cases e:p.1=x.1
 ·rw[decide_eq_true e,decide_eq_true (by lia)]
 ·rw[decide_eq_false e,decide_eq_false (by lia)]
def near_top{t:List Nat}{ys:List (List Nat)}{p:Int × Str}{rest:List (Int × Str)}(h:SS t ys=p :: rest){q:Int}(hq:p.1<=q):(∃ r,zb7 t ys q=p :: r)/\(zb7 t ys q).filter (fun x=>decide (p.1=x.1))=zb4 t ys:=by
 constructor
 ·unfold zb7;rw[h,gN,if_pos (by simpa using hq)];exact⟨_,rfl⟩
 ·unfold zb7;rw[zhx h,List.filter_filter];refine gk fun x _=>?_;by_cases e:p.1=x.1
  ·rw[decide_eq_true e,decide_eq_true (by lia)];rfl
  ·rw[decide_eq_false e];rfl
def near_all{t:List Nat}{ys:List (List Nat)}{q:Int}(h:∀ u ∈ ys,ed u t<=q):zb7 t ys q=SS t ys:=by
 unfold zb7;refine fH.mpr fun x hx=>?_;obtain⟨u,hu,rfl⟩:=bH.mp ((zbm _).mem_iff.mp hx);exact decide_eq_true (h u hu)
def SD(zs:List (List Nat)):List D:=zs.map fun w=>.str (mkS w)
def SD_at(zs:List (List Nat)){k:Int}(h0:0<=k)(h:k.toNat<zs.length):∃ w,w ∈ zs/\zs[k.toNat]? = aa w/\atI (SD zs) k=aa (.str (mkS w)):=by
 refine⟨zs[k.toNat],gH h,aE h,zcm h0 ?_⟩;unfold SD;rw[aD,aE h];rfl
def ze0{α:Type}{ft:D->Option Bool}{fe:D->Option Ent}(g:α->D)(q:α->Bool)(f:α->D):∀ (ps:List α),(∀ p ∈ ps,ft (g p)=aa (q p))->(∀ p ∈ ps,fe (g p)=aa (.val (f p)))->zcO ft fe (ps.map g)=aa ((ps.filter q).map f)
 | [],_,_=>rfl
 | p :: ps,h1,h2=>by
  rw[aF];simp only[zcO];rw[h1 p am,h2 p am,ze0 g q f ps (fun x hx=>h1 x (aj _ hx)) fun x hx=>h2 x (aj _ hx)];cases h:q p <;> simp[h,asV]
def due_ok(zs ys:List (List Nat))(q1:ssO (zs.map mkS)=aa (.own (ys.map fun u=>.str (mkS u))))(hyl:ys.length<=60)(hl:∀ u ∈ ys,u.length<=900)(t:List Nat)(ht:t.length<=900) :
  zbp [.lst (SD zs),.str (mkS t)]=aa (.own ((zb4 t ys).map prD)):=by
 have sz:zgA (SD zs)=aa (zs.map mkS):=by
  rw[show SD zs=(zs.map mkS).map D.str by unfold SD;rw[bY];rfl];exact strsD_map _
 have c1:eLC [1] (iL (ex1 zdl (zab 0))) zc8 zct [aa (.bor (SD zs)),aa (.val (.str (mkS t))),ab]=aa (.own ((ys.map (prE t)).map prD)):=by
  have hc:=ze0 (ft:=fun d=>zc8 (cEn [1] [aa (.bor (SD zs)),aa (.val (.str (mkS t))),ab] d)) (fe:=fun d=>zct (cEn [1] [aa (.bor (SD zs)),aa (.val (.str (mkS t))),ab] d)) (fun u=>D.str (mkS u)) (fun _=>true) (fun u=>prD (prE t u)) ys (fun _ _=>rfl) fun u hu=>by
   have lp:=zgu t u ht (hl u hu);rw[zhl u t] at lp;show ze3 (zaa (zaM [.v,.v] zbz (zaa (zab 1) (zaa (zab 0) zae))) (zaa (zab 0) zae)) [aa (.val (.str (mkS u))),aa (.val (.str (mkS t)))]=_;exact eTup2 ((zfa (X:=zab 1) (Y:=zab 0) rfl rfl).trans lp) rfl
  rw[fH.mpr (fun _ _=>rfl),show ys.map (fun u=>prD (prE t u))=(ys.map (prE t)).map prD by rw[bY];rfl] at hc;refine zev ?_ hc (by rw[al,al];lia);generalize SD zs=Z at *;simp only[iL,ex1,zab,jqe,jqa,zdl,asL,sz,q1]
 have hsl:(ys.map (prE t)).length<64:=by rw[al];lia
 have hS:eCB zhi (zaa (eLC [1] (iL (ex1 zdl (zab 0))) zc8 zct) zae) [aa (.bor (SD zs)),aa (.val (.str (mkS t))),ab]=aa (.own ((SS t ys).map prD)):=by
  have pm:=zf5 (ys.map (prE t));unfold SS;generalize (ys.map (prE t)).map prD=GS at *;simp only[eCB,zaa,c1,zae,jqc,jqa,zhi,asL,pm,hsl,zah]
 have ln:=zgl t ys;have c2:eLC [2] (iL (zab 2)) zcq zda [aa (.bor (SD zs)),aa (.val (.str (mkS t))),aa (.val (.lst ((SS t ys).map prD)))]=aa (.own ((zb4 t ys).map prD)):=by
  refine zev (ds:=(SS t ys).map prD) rfl (ze0 prD _ prD (SS t ys) (fun p hp=>?_) fun p _=>rfl) (by rw[al];have:=dO (fun x:Int × Str=>decide ((SS t ys).head?.map (·.1)=aa x.1)) (SS t ys);unfold zb4 at *;lia);cases hh:SS t ys with
  | nil=>rw[hh] at hp;cases hp
  | cons h0 rest=>
   have i1:=zh9 (E:=zab 0) (F:=eC (.int 0)) (δ:=[aa (.val (prD p)),aa (.val (.lst ((h0 :: rest).map prD)))]) (ds:=[.int p.1,.str p.2]) rfl rfl (v:=.int p.1) rfl;have i2:=zh9 (E:=ex2 zca (zab 1) (eC (.int 0))) (F:=eC (.int 0)) (δ:=[aa (.val (prD p)),aa (.val (.lst ((h0 :: rest).map prD)))]) (ds:=[.int h0.1,.str h0.2]) (a:=0) (ixLV (E:=zab 1) (ds:=(h0 :: rest).map prD) rfl rfl (zcm (by decide) rfl)) rfl (v:=.int h0.1) rfl;have:=eqTT i1 i2;refine(show zcq (cEn [2] [aa (.bor (SD zs)),aa (.val (.str (mkS t))),aa (.val (.lst ((h0 :: rest).map prD)))] (prD p))=_ from this).trans ?_;simp[eq_comm]
 have w:zdD [aa (.bor (SD zs)),aa (.val (.str (mkS t))),ab]=aa (.rt (.own ((zb4 t ys).map prD)) [aa (.bor (SD zs)),aa (.val (.str (mkS t))),aa (.val (.lst ((SS t ys).map prD)))]):=by
  refine(show zdD _=_ from zaI (zdg hS)).trans ?_;show zb2 (eLC [2] (iL (zab 2)) zcq zda) [aa (.bor (SD zs)),aa (.val (.str (mkS t))),aa (.val (.lst ((SS t ys).map prD)))]=_;unfold zb2;rw[c2];rfl
 exact(congrArg (fun o=>cv o _) w).trans rfl
def alph:("abcdefghijklmnopqrstuvwxyz" : Str).cps.toList=(ax 26).map fun i=>97+i:=by decide +kernel
def deck_at(own:List Int)(k:Nat)(h:0<own.length):0<=(0+(k:Int)) % (own.length:Int)/\(0+(k:Int)) % (own.length:Int)<own.length:=⟨fw _ (by lia),ef _ (by lia)⟩
def four_at(k:Nat):∃ m:Int,atI [D.int 48271,D.int 69621,D.int 39373,D.int 16807] ((0+(k:Int)) % 4)=aa (.int m)/\0<=m/\m<=69621:=by
 have h:(0+(k:Int)) % 4=0 \/ (0+(k:Int)) % 4=1 \/ (0+(k:Int)) % 4=2 \/ (0+(k:Int)) % 4=3:=by lia
 rcases h with h | h | h | h <;> rw[h]
 ·exact⟨48271,rfl,by decide,by decide⟩
 ·exact⟨69621,rfl,by decide,by decide⟩
 ·exact⟨39373,rfl,by decide,by decide⟩
 ·exact⟨16807,rfl,by decide,by decide⟩
def p18:(10:Int) ^ (18:Int).toNat=1000000000000000000:=by decide
def g18:(0<=(18:Int)/\(18:Int)<=1000000)/\(10:Int).natAbs<18446744073709551616:=by decide
def pow18{δ:En}:ex2 gPow (eC (.int 10)) (eC (.int 18)) δ=aa (.val (.int 1000000000000000000)):=by
 unfold ex2 eC gPow pI;simp only[aL,iOf,g18,and_self,zah,p18]
def divB{E F:FE}{δ:En}{a b:Int}(h1:E δ=aa (.val (.int a)))(h2:F δ=aa (.val (.int b)))(hb:0<b/\b<18446744073709551616):ex2 gDivB E F δ=aa (.val (.int (a / b))):=by
 unfold ex2 gDivB pI;simp only[h1,h2,aL,iOf,hb,and_self,zah]
def deck_turn(c0 c1:Option Ent)(own row dk:List Int)(k:Nat)(x6 x7:Option Ent)(h0:0<own.length)(hr:row.length=own.length)(hk:k<1000)(hd:dk.length=k):∃ (row':List Int) (d:Int) (y6 y7:Option Ent),row'.length=own.length /\
  zbI [c0,c1,aa (.val (.lst (own.map .int))),aa (.own (row.map .int)),aa (.own (dk.map .int)),aa (.val (.int (0+(k:Int)))),x6,x7] =
  aa (.nx [c0,c1,aa (.val (.lst (own.map .int))),aa (.own (row'.map .int)),aa (.own ((dk ++ [d]).map .int)),aa (.val (.int (0+(k:Int)))),y6,y7]):=by
 obtain⟨a1,a2⟩:=deck_at own k h0;obtain⟨m,hm,m0,m1⟩:=four_at k;have ow:atI (own.map D.int) ((0+(k:Int)) % (own.length:Int))=aa (.int (own.getD ((0+(k:Int)) % (own.length:Int)).toNat 0)):=zeh D.int 0 a1 (by lia);have rw':atI (row.map D.int) ((0+(k:Int)) % (own.length:Int))=aa (.int (row.getD ((0+(k:Int)) % (own.length:Int)).toNat 0)):=zeh D.int 0 a1 (by lia);have ix:ixN (row.map D.int).length ((0+(k:Int)) % (own.length:Int))=aa ((0+(k:Int)) % (own.length:Int)).toNat:=by
  have:=ixN_nat (n:=(row.map D.int).length) (i:=((0+(k:Int)) % (own.length:Int)).toNat) (by rw[al];lia);rwa [Int.toNat_of_nonneg a1] at this
 have hlo:(own.map D.int).length=own.length:=al _;have hdl:(dk.map D.int).length<1000000:=by rw[al];lia
 generalize hat:(0+(k:Int)) % (own.length:Int)=at' at *;generalize own.getD at'.toNat 0=o at ow;generalize hrr:row.getD at'.toNat 0=r at rw';have hb1:b64 (0+(k:Int)):=zfn (by lia);have hps:0<(own.length:Int):=by lia
 have hb3:b64 ((o+(0+(k:Int)) * (0+(k:Int)) * 16807+3 * (0+(k:Int))) % 2147483629):=zfn (by lia);have hb4:b64 ((o+(0+(k:Int)) * (0+(k:Int)) * 16807+3 * (0+(k:Int))) % 2147483629 * m+7):=by
  have h1:0<=(o+(0+(k:Int)) * (0+(k:Int)) * 16807+3 * (0+(k:Int))) % 2147483629:=by lia
  have h2:(o+(0+(k:Int)) * (0+(k:Int)) * 16807+3 * (0+(k:Int))) % 2147483629<=2147483629:=by lia
  generalize (o+(0+(k:Int)) * (0+(k:Int)) * 16807+3 * (0+(k:Int))) % 2147483629=u at h1 h2;have h3:=Int.mul_nonneg h1 m0;have h4:=Int.mul_le_mul h2 m1 m0 (by decide:(0:Int)<=2147483629);exact zfn (by lia)
 have s1:ex2 zcl (zab 5) (eCB zbJ (zaa (zab 2) zae)) [c0,c1,aa (.val (.lst (own.map .int))),aa (.own (row.map .int)),aa (.own (dk.map .int)),aa (.val (.int (0+(k:Int)))),x6,x7]=aa (.val (.int at')):=by
  rw[<- hat];simp (disch:=omega) only[ex2,zab,jqf,jqe,eCB,zaa,zae,jqc,jqa,zbJ,ze4,asL,hlo,zcl,pI,iOf,zc6,zah]
 have s2:∃ v,(ex2 zcw (ex2 zfb (ex2 zcl (ex2 zcw (ex2 zcw (ex2 zca (zab 2) (zab 6)) (ex2 zfb (ex2 zfb (zab 5) (zab 5)) (eC (.int 16807)))) (ex2 zfb (eC (.int 3)) (zab 5))) (eC (.int 2147483629))) (ex2 zca (zcN (zaa (eC (.int 48271)) (zaa (eC (.int 69621)) (zaa (eC (.int 39373)) (zaa (eC (.int 16807)) zae))))) (ex2 zcl (zab 5) (eC (.int 4))))) (eC (.int 7))) [c0,c1,aa (.val (.lst (own.map .int))),aa (.own (row.map .int)),aa (.own (dk.map .int)),aa (.val (.int (0+(k:Int)))),aa (.val (.int at')),x7]=aa (.val (.int v))/\b64 v:=by
  refine⟨_,?_,hb4⟩;simp (disch:=omega) only[ex2,zab,jqf,jqe,zca,asL,iOf,jqa,ow,jqc,zfb,pI,zd1,jrc,zah,eC,zcw,pI0,zcl,zc6,zcN,zaa,zae,jqp,jqq,Nat.reduceLeDiff,ze5,asV,jra,hm]
 obtain⟨v,s2,hv⟩:=s2;have s3:∃ d:Int,(ex2 zca (zcN (zaa (ex2 zcl (ex2 zfb (zab 7) (zab 7)) (eC (.int 2147483629))) (zaa (ex2 zcl (ex2 zca (zab 3) (zab 6)) (ex2 gPow (eC (.int 10)) (eC (.int 18)))) zae))) (eCB zdf (zaa (ex2 gNe (ex2 zca (zab 3) (zab 6)) (eC (.int 0))) zae))) [c0,c1,aa (.val (.lst (own.map .int))),aa (.own (row.map .int)),aa (.own (dk.map .int)),aa (.val (.int (0+(k:Int)))),aa (.val (.int at')),aa (.val (.int v))]=aa (.val (.int d)):=by
  have q1:=modI (E:=ex2 zca (zab 3) (zab 6)) (δ:=[c0,c1,aa (.val (.lst (own.map .int))),aa (.own (row.map .int)),aa (.own (dk.map .int)),aa (.val (.int (0+(k:Int)))),aa (.val (.int at')),aa (.val (.int v))]) (ixLW rfl rfl rw') pow18 (by decide);generalize ex2 zcl (ex2 zca (zab 3) (zab 6)) (ex2 gPow (eC (.int 10)) (eC (.int 18)))=EE at q1 ⊢;by_cases hz:r=0
  ·refine⟨v * v % 2147483629,?_⟩;have a0:atI [D.int (v * v % 2147483629),D.int (r % 1000000000000000000)] 0=aa (.int (v * v % 2147483629)):=rfl;simp (disch:=omega) only[ex2,zcN,zaa,zab,jqf,jqe,zfb,pI,iOf,jqa,hv,jrc,zah,eC,zcl,zc6,q1,hz,zae,jqc,jqp,jqq,Nat.reduceLeDiff,ze5,asV,jra,eCB,zca,asL,rw',gNe,zc3,jqy,jqt,zdf,jqr,jrb];rw[hz] at a0;simp only[a0,bS]
  ·refine⟨r % 1000000000000000000,?_⟩;have a0:atI [D.int (v * v % 2147483629),D.int (r % 1000000000000000000)] 1=aa (.int (r % 1000000000000000000)):=rfl;simp (disch:=omega) only[ex2,zcN,zaa,zab,jqf,jqe,zfb,pI,iOf,jqa,hv,jrc,zah,eC,zcl,zc6,q1,zae,jqc,jqp,jqq,Nat.reduceLeDiff,ze5,asV,jra,eCB,zca,asL,rw',gNe,zc3,hz,jqz,jqu,zdf,a0]
 obtain⟨d,s3⟩:=s3;have s4:=divB (E:=ex2 zca (zab 3) (zab 6)) (δ:=[c0,c1,aa (.val (.lst (own.map .int))),aa (.own (row.map .int)),aa (.own (dk.map .int ++ [.int d])),aa (.val (.int (0+(k:Int)))),aa (.val (.int at')),aa (.val (.int v))]) (ixLW rfl rfl rw') pow18 (by decide);refine⟨row.set at'.toNat (r / 1000000000000000000),d,aa (.val (.int at')),aa (.val (.int v)),by rw[dC];exact hr,?_⟩;refine(show zbI _=_ from zaI (zeZ s1)).trans ((zaI (zeZ s2)).trans ((zaI (ziK rfl s3 hdl)).trans ?_))
 rw[bz,aF,bK,List.map_set];show fSIx 3 (zab 6) _ [c0,c1,aa (.val (.lst (own.map .int))),aa (.own (row.map .int)),aa (.own (dk.map .int ++ [.int d])),aa (.val (.int (0+(k:Int)))),aa (.val (.int at')),aa (.val (.int v))]=_;unfold fSIx;simp only[cM,bA,s4,aL,asV];simp only[zab,jqf,jqe,jqa,iOf,jqh,jqg,ix,jqc]
def deck_loop(c0 c1:Option Ent)(own row:List Int)(n:Nat)(h0:0<own.length)(hr:row.length=own.length)(hn:n<=1000):∃ (row' dk:List Int) (y5 y6 y7:Option Ent),dk.length=n /\
  loop (gNm 5) zbI ((ax n).map fun(i:Nat)=>D.int (0+(i:Int))) [c0,c1,aa (.val (.lst (own.map .int))),aa (.own (row.map .int)),aa (.own []),ab,ab,ab] =
  aa (.nx [c0,c1,aa (.val (.lst (own.map .int))),aa (.own (row'.map .int)),aa (.own (dk.map .int)),y5,y6,y7]):=by
 obtain⟨δ',w1,row',dk,y5,y6,y7,_,h1,rfl⟩:=zcg (tg:=gNm 5) (f:=zbI) (fun k δ=>∃ (row' dk:List Int) (y5 y6 y7:Option Ent),row'.length=own.length/\dk.length=k/\δ=[c0,c1,aa (.val (.lst (own.map .int))),aa (.own (row'.map .int)),aa (.own (dk.map .int)),y5,y6,y7])
  ((ax n).map fun(i:Nat)=>D.int (0+(i:Int))) 0 [c0,c1,aa (.val (.lst (own.map .int))),aa (.own (row.map .int)),aa (.own []),ab,ab,ab] (fun k d δ hd hδ=>by
   obtain⟨row',dk,y5,y6,y7,e1,e2,rfl⟩:=hδ;have hk:k<n:=by have:=(a9.mp hd).1;simpa using this
   rw[aD,cr hk] at hd;cases hd;obtain⟨row2,d,z6,z7,f1,f2⟩:=deck_turn c0 c1 own row' dk k y6 y7 h0 e1 (by lia) (by lia);exact⟨_,_,rfl,.inl f2,row2,dk ++ [d],_,z6,z7,f1,by rw[aC,e2];rfl,rfl⟩) ⟨row,[],ab,ab,ab,hr,rfl,rfl⟩
 exact⟨row',dk,y5,y6,y7,by simpa using h1,w1⟩
def deck_comp(own:List Int)(δ:En):zcO (fun d=>zc8 (cEn [] δ d)) (fun d=>zbG (cEn [] δ d)) (own.map D.int)=aa ((own.map fun c=>c * (if c ≥ 1000000000000000000 then 1 else 0)).map D.int):=by
 induction own with
 | nil=>rfl
 | cons x xs ih=>
  rw[aF,zcO,ih];have q:zbG (cEn [] δ (D.int x))=aa (.val (.int (x * (if x ≥ 1000000000000000000 then 1 else 0)))):=by
   unfold zbG cEn;have p:=pow18 (δ:=aa (Ent.val (D.int x)) :: []);have b1:b64 1:=zfn (by decide);have b0:b64 0:=zfn (by decide);generalize ex2 gPow (eC (.int 10)) (eC (.int 18))=EE at p ⊢;by_cases hx:x ≥ 1000000000000000000
   ·simp only[ex2,zab,jqo,jqe,eCB,zaa,p,gGe,pI0,iOf,jqa,jqc,hx,jqy,zae,zdf,jra,zfb,pI,Int.reduceNeg,Int.reduceLT,jre,zd1,jrc,zah]
   ·simp only[ex2,zab,jqo,jqe,eCB,zaa,p,gGe,pI0,iOf,jqa,jqc,hx,jqz,zae,zdf,jqr,jrb,zfb,pI,Int.reduceNeg,Int.reduceLT,jre,zd1,jrc,zah]
  rw[q];rfl
def deck_ok(ns:List Int)(hn:ns.length<=63):∃ dk:List Int,dk.length=40/\zcb [.lst (ns.map .int),.int 40]=aa (.own (dk.map .int)):=by
 obtain⟨own,h0,h1,s1⟩:∃ own:List Int,0<own.length/\own.length<=64/\(ex2 gCat (eCB zdb (zaa (zab 0) zae)) (ex2 gRep (zcN (zaa (eC (.int 0)) zae)) (eCB zdf (zaa (ex2 gEq (eCB zbJ (zaa (zab 0) zae)) (eC (.int 0))) zae)))) [aa (.bor (ns.map .int)),aa (.val (.int 40)),ab,ab,ab,ab,ab,ab]=aa (.own (own.map .int)):=by
  have hl:(ns.map D.int).length=ns.length:=al _;by_cases hz:ns.length=0
  ·refine⟨[0],by decide,by decide,?_⟩;have hnil:ns=[]:=ez.mp hz;subst hnil;have hr:gRep (.own [.int 0]) (.val (.int 1))=aa (.own [.int 0]):=by simp (decide:=true) only[gRep,asLt,iOf,Int.reduceNeg,jqa,jrf,zah];rfl
   simp (disch:=omega) only[ex2,eCB,zaa,zab,jqo,jqe,zae,jqc,jqa,zdb,ze4,asL,zcN,eC,jqp,jqq,Nat.reduceLeDiff,ze5,asV,jra,zbJ,Int.ofNat_zero,gEq,zc3,jqy,zdf,hr,gCat,asLt,zbr,jqj,zah,jqn]
  ·refine⟨ns,by lia,by lia,?_⟩;have hz':¬ (ns.length:Int)=0:=by lia
   have hr:gRep (.own [.int 0]) (.val (.int 0))=aa (.own []):=by simp (decide:=true) only[gRep,asLt,iOf,Int.reduceNeg,jqa,jrf,zah];rfl
   simp (disch:=omega) only[ex2,eCB,zaa,zab,jqe,zae,jqc,jqa,zdb,ze4,asL,zcN,eC,jqp,jqq,Nat.reduceLeDiff,ze5,asV,jra,zbJ,hl,gEq,zc3,hz',jqz,zdf,jqr,jrb,hr,gCat,asLt,jqk,zbr,zah]
 obtain⟨row',dk,y5,y6,y7,h2,s3⟩:=deck_loop (aa (.bor (ns.map .int))) (aa (.val (.int 40))) own (own.map fun c=>c * (if c ≥ 1000000000000000000 then 1 else 0)) 40 h0 (by simp) (by decide);have s2:eLC [] (iL (zab 2)) zc8 zbG [aa (.bor (ns.map .int)),aa (.val (.int 40)),aa (.val (.lst (own.map .int))),ab,ab,ab,ab,ab]=aa (.own ((own.map fun c=>c * (if c ≥ 1000000000000000000 then 1 else 0)).map .int)):=
  zev rfl (deck_comp own _) (by simp;lia)
 refine⟨dk.reverse,by rw[iG];exact h2,?_⟩
 suffices hF:zc5 [aa (.bor (ns.map .int)),aa (.val (.int 40)),ab,ab,ab,ab,ab,ab]=aa (.rt (.own (dk.reverse.map .int)) [aa (.bor (ns.map .int)),aa (.val (.int 40)),aa (.val (.lst (own.map .int))),aa (.own (row'.map .int)),aa (.own (dk.map .int)),y5,y6,y7]) from (congrArg (fun o=>cv o _) hF).trans rfl
 have hb:b62 40:=zcM (by decide);generalize own.map D.int=ow at *;generalize (own.map fun c=>c * (if c ≥ 1000000000000000000 then 1 else 0)).map D.int=rw0 at *;refine(show zc5 _=_ from zaI (zdg s1)).trans ?_;simp only[fFrz,List.set_cons_succ,fV,cM,bA];refine(zaI (zdg s2)).trans ((zaI (zdg (show zcN zae _=aa (.own []) from rfl))).trans ((forN (ds:=(ax 40).map fun(i:Nat)=>D.int (0+(i:Int))) ?_ s3).trans ?_))
 ·simp only[iR1,zaa,zab,jqf,jqe,zae,jqc,jqa,iOf,Int.reduceNeg,Int.reduceLT,jre,zdG,zah];rfl
 ·rw[List.map_reverse];rfl
def xP_i{fe:FE}{δ:En}{d:D}(h:fe δ=aa (.val d)):xP fe δ=aa (d,δ):=by unfold xP;rw[h];rfl
def xC_i{fe:FXE}{fa:FXA}{δ δ1 δ2:En}{d:D}{ds:List D}(h1:fe δ=aa (d,δ1))(h2:fa δ1=aa (ds,δ2)):zdP fe fa δ=aa (d :: ds,δ2):=by
 unfold zdP;rw[h1];simp only[aL];rw[h2];rfl
def xCO_i{i:Nat}{g:GM}{fs:FXA}{δ δ1:En}{o0 o o':OT}{ds:List D}{d:D}(h0:oAt i δ=aa o0)(h1:fs δ=aa (ds,δ1))(h2:oAt i δ1=aa o)(h3:g o ds=aa (d,o')):xCO i g fs δ=aa (d,δ1.set i (aa (.obj o'))):=by
 unfold xCO;rw[h0];simp only[aL];rw[h1];simp only[aL];rw[h2];simp only[aL];rw[h3];rfl
def zfx{i:Nat}{fx:FXE}{δ δ1:En}{d:D}(h:fx δ=aa (d,δ1)):zf1 i fx δ=aa (.nx (δ1.set i (aa (.val d)))):=by unfold zf1;rw[h];rfl
def fXRet_i{fx:FXE}{δ δ1:En}{d:D}(h:fx δ=aa (d,δ1)):fXRet fx δ=aa (.rt (.val d) δ1):=by unfold fXRet;rw[h];rfl
def pop_i(dk:List Int)(h:0<dk.length)(i:Nat){δ:En}(hi:oAt i δ=aa (.lst (dk.map .int))):∃ d:Int,xPop i δ=aa (.int d,δ.set i (aa (.obj (.lst (dk.dropLast.map .int))))):=by
 refine⟨dk[dk.length - 1],?_⟩;unfold xPop;rw[hi];simp only[aL,lOf,al,aD,aE (show dk.length - 1<dk.length by lia),bS,List.map_dropLast]
def alphl:("abcdefghijklmnopqrstuvwxyz" : Str).length=26:=by decide +kernel
def sign_ok(turn num:Int)(h:0<=turn/\turn<208)(hn:0<=num/\num<10):∃ c,zbS [.int turn,.int num]=aa (.val (.str (mkS [c]))):=by
 have b1:b64 num:=zfn (by lia);have i0:0<=(turn+num * (1+turn / 26 % 8)) % 26:=by lia
 have i1:(turn+num * (1+turn / 26 % 8)) % 26<26:=by lia
 have ha:atI ("abcdefghijklmnopqrstuvwxyz" : Str).cps.toList ((turn+num * (1+turn / 26 % 8)) % 26)=aa (97+(ax 26).getD ((turn+num * (1+turn / 26 % 8)) % 26).toNat 0):=by
  rw[alph];exact zeh (fun i=>97+i) 0 i0 (by simp;lia)
 refine⟨97+(ax 26).getD ((turn+num * (1+turn / 26 % 8)) % 26).toNat 0,?_⟩;simp (disch:=omega) only[zbS,zcS,stE,stN,jqc,jqa,zdQ,zb2,ex2,eC,zab,aJ,jqk,zgi,pI,iOf,zfC,zah,zcl,zc6,zcw,pI0,zfb,zjd,sOf,alphl,zbr,toN,jqe,jqf,zd1,jrc,ha,zf4]
def xP_o{fe:FE}{δ:En}{ds:List D}(h:fe δ=aa (.own ds)):xP fe δ=aa (.lst ds,δ):=by unfold xP;rw[h];rfl
def x2_o{g:Ent->Ent->Option Ent}{fa fb:FXE}{δ δ1 δ2:En}{a b:D}{ds:List D}(h1:fa δ=aa (a,δ1))(h2:fb δ1=aa (b,δ2))(h3:g (.val a) (.val b)=aa (.own ds)):x2 g fa fb δ=aa (.lst ds,δ2):=by
 unfold x2;rw[h1];simp only[aL];rw[h2];simp only[aL,h3,asV,bS]
def put_none(w:List Nat):zaZ (bkO (.val .non)) [.str (mkS w)]=aa (.bl true,bkO (mkK (mkS w) [] [])):=by
 have ic:isC "Book" ["top"] (bkO (.val .non))=aa [.val .non]:=zdz;have h1:eFIs 0 "Book" ["top"] 0 [aa (.obj (bkO (.val .non))),aa (.val (.str (mkS w)))]=aa (.val (.bl true)):=by
  show(((isC "Book" ["top"] (bkO (.val .non)))).bind _)=_;rw[ic];rfl
 have h2:zd6 "Knot" zas (zaa (zab 1) zae) [aa (.obj (bkO (.val .non))),aa (.val (.str (mkS w)))]=aa (.obj (mkK (mkS w) [] [])):=by
  show((zas (.ins "Knot" [] []) [.str (mkS w)]).bind _)=_;rw[kinit];rfl
 have h3:fFSet 0 "Book" ["top"] 0 (zd6 "Knot" zas (zaa (zab 1) zae)) [aa (.obj (bkO (.val .non))),aa (.val (.str (mkS w)))]=aa (.nx [aa (.obj (bkO (mkK (mkS w) [] []))),aa (.val (.str (mkS w)))]):=by
  unfold fFSet;rw[h2];show(((isC "Book" ["top"] (bkO (.val .non)))).bind _)=_;rw[ic];rfl
 have hF:zbT [aa (.obj (bkO (.val .non))),aa (.val (.str (mkS w)))]=aa (.rt (.val (.bl true)) [aa (.obj (bkO (mkK (mkS w) [] []))),aa (.val (.str (mkS w)))]):=
  (show zbT _=_ from fSeqR ((fIfT (by unfold tOf;rw[h1];rfl)).trans ((zaI h3).trans rfl)))
 unfold zaZ zjb;rw[if_pos (show [D.str (mkS w)].length=1 from rfl)];show(zbT [aa (.obj (bkO (.val .non))),aa (.val (.str (mkS w)))]).bind endM=_;rw[hF];rfl
def put_some(w:List Nat){v:Str}{ks:List Int}{os:List OT}{b:Bool}{x':OT}(h:zeD zag (mkS w) 1000 (mkK v ks os)=aa (b,x')):zaZ (bkO (mkK v ks os)) [.str (mkS w)]=aa (.bl b,bkO x'):=by
 have ic:isC "Book" ["top"] (bkO (mkK v ks os))=aa [mkK v ks os]:=zdz;have h1:eFIs 0 "Book" ["top"] 0 [aa (.obj (bkO (mkK v ks os))),aa (.val (.str (mkS w)))]=aa (.val (.bl false)):=by
  show(((isC "Book" ["top"] (bkO (mkK v ks os)))).bind _)=_;rw[ic];rfl
 have hh:zfk (mkK v ks os) [.str (mkS w)]=aa (.bl b,x'):=by
  show((zeD zag (mkS w) 1000 (mkK v ks os)).map fun p=>Out.rt (.val (.bl p.1)) [aa (.obj p.2),aa (.val (.str (mkS w))),ab,ab]).bind endM=_;rw[h];rfl
 have h2:xCOF 0 "Book" ["top"] 0 zfk (zaa (zab 1) zae) [aa (.obj (bkO (mkK v ks os))),aa (.val (.str (mkS w)))]=aa (.bl b,[aa (.obj (bkO x')),aa (.val (.str (mkS w)))]):=by
  show(((isC "Book" ["top"] (bkO (mkK v ks os)))).bind _)=_;rw[ic];show((zfk (mkK v ks os) [.str (mkS w)]).map _)=_;rw[hh];rfl
 have hF:zbT [aa (.obj (bkO (mkK v ks os))),aa (.val (.str (mkS w)))]=aa (.rt (.val (.bl b)) [aa (.obj (bkO x')),aa (.val (.str (mkS w)))]):=
  (show zbT _=_ from zaI ((zhN (by unfold tOf;rw[h1];rfl)).trans rfl)).trans (fXRet_i h2)
 unfold zaZ zjb;rw[if_pos (show [D.str (mkS w)].length=1 from rfl)];show(zbT [aa (.obj (bkO (mkK v ks os))),aa (.val (.str (mkS w)))]).bind endM=_;rw[hF];rfl
def Bk(zs:List (List Nat))(top:OT):Prop:=(zs=[]/\top=.val .non) \/ ∃ n us,Kn n top us/\us.Nodup/\(∀ u,u ∈ us ↔ u ∈ zs)/\n<=zs.length+1/\us.length<=zs.length
def put_bk{zs:List (List Nat)}{top:OT}(h:Bk zs top)(hz:zs.length<=60)(hl:∀ u ∈ zs,u.length<=900)(w:List Nat)(hw:w.length<=900):∃ b top',zaZ (bkO top) [.str (mkS w)]=aa (.bl b,bkO top')/\Bk (zs ++ [w]) top':=by
 rcases h with ⟨rfl,rfl⟩ | ⟨n,us,h1,h2,h3,h4,h5⟩
 ·exact⟨true,_,put_none w,.inr ⟨1,[w],Kn.mk .nil,by simp,by simp,by simp,by simp⟩⟩
 ·obtain⟨b,x',us',q1,q2,q3⟩:=hang_kn w (by lia) n 1000 top us h1 (fun u hu=>by have:=hl u ((h3 u).mp hu);lia) (by lia) (by lia);refine⟨b,x',?_,.inr ⟨n+1,us',q2,?_⟩⟩
  ·obtain⟨_,_,_,_,_,_,rfl,_,_⟩:=h1.get;exact put_some w q1
  ·rcases q3 with ⟨z1,rfl⟩ | ⟨z1,z2⟩
   ·refine⟨h2,fun u=>?_,by rw[aC];simp only[aw,bm];lia,by rw[aC];lia⟩;rw[bj,bo,h3];exact⟨.inl,fun q=>q.elim id fun e=>(h3 u).mp (e ▸ z1)⟩
   ·refine⟨z2.nodup_iff.mpr (aG.mpr ⟨z1,h2⟩),fun u=>?_,by rw[aC];simp only[aw,bm];lia,by rw[z2.length_eq,aC,aw];simp only[aw,bm];lia⟩;rw[z2.mem_iff,az,bj,bo,h3];exact Or.comm
def long_ok(c:Int):∃ L:Int,atI [D.int (c % 9),D.int (c % 5),D.int (c % 7)] (c / 45 % 3)=aa (.int L)/\0<=L/\L<=8:=by
 have h:c / 45 % 3=0 \/ c / 45 % 3=1 \/ c / 45 % 3=2:=by lia
 rcases h with h | h | h <;> rw[h]
 ·exact⟨c % 9,rfl,by lia,by lia⟩
 ·exact⟨c % 5,rfl,by lia,by lia⟩
 ·exact⟨c % 7,rfl,by lia,by lia⟩
def word_turn(few turn c:Int)(t:List Nat)(x4 x5:Option Ent)(hf:2<=few/\few<=5)(ht:0<=turn/\turn<208)(hl:t.length<1000):∃ (ch:Nat) (c':Int),
  zcd [aa (.val (.int c)),aa (.val (.int few)),aa (.val (.int turn)),aa (.val (.str (mkS t))),x4,x5]=aa (.nx [aa (.val (.int c')),aa (.val (.int few)),aa (.val (.int turn)),aa (.val (.str (mkS (t ++ [ch])))),x4,x5]):=by
 obtain⟨ch,hs⟩:=sign_ok turn (c % few) ht ⟨fw _ (by lia),by have:=ef c (show 0<few by lia);lia⟩;refine⟨ch,c / few,?_⟩;have e1:ex2 zcl (zab 0) (zab 1) [aa (.val (.int c)),aa (.val (.int few)),aa (.val (.int turn)),aa (.val (.str (mkS t))),x4,x5]=aa (.val (.int (c % few))):=modI rfl rfl (by lia);refine(show zcd _=_ from zaI (zeZ (v:=.str (mkS (t ++ [ch]))) ?_)).trans (zeZ (divI rfl rfl (by lia)))
 have e2:zaM [.v,.v] zbS (zaa (zab 2) (zaa (ex2 zcl (zab 0) (zab 1)) zae)) [aa (.val (.int c)),aa (.val (.int few)),aa (.val (.int turn)),aa (.val (.str (mkS t))),x4,x5]=aa (.val (.str (mkS [ch]))):=(zfa rfl e1).trans hs;generalize zaM [.v,.v] zbS (zaa (zab 2) (zaa (ex2 zcl (zab 0) (zab 1)) zae))=CC at e2 ⊢;have hz:t.length+1<=1000000:=by lia
 simp only[ex2,zab,jqf,jqe,e2,gAddS,sOf,jqa,zb9,jqp,jqq,hz,zbr,mkS_app,zah]
def word_ok(c few turn:Int)(hf:2<=few/\few<=5)(ht:0<=turn/\turn<208):∃ w:List Nat,w.length<=8/\zb5 [.int c,.int few,.int turn]=aa (.val (.str (mkS w))):=by
 obtain⟨L,hL,l0,l8⟩:=long_ok c;obtain⟨δ',w1,t,c',x5,h1,rfl⟩:=zcg (tg:=gNm 5) (f:=zcd) (fun k δ=>∃ (t:List Nat) (c':Int) (x5:Option Ent),t.length=k/\δ=[aa (.val (.int c')),aa (.val (.int few)),aa (.val (.int turn)),aa (.val (.str (mkS t))),aa (.val (.int L)),x5])
  ((ax L.toNat).map fun(i:Nat)=>D.int (0+(i:Int))) 0 [aa (.val (.int (c / 315))),aa (.val (.int few)),aa (.val (.int turn)),aa (.val (.str (mkS []))),aa (.val (.int L)),ab] (fun k d δ hd hδ=>by
   obtain⟨t,c',x5,e1,rfl⟩:=hδ;have hk:k<L.toNat:=by have:=(a9.mp hd).1;simpa using this
   obtain⟨ch,c2,e⟩:=word_turn few turn c' t (aa (.val (.int L))) (aa (.val d)) hf ht (by lia);exact⟨_,_,rfl,.inl e,t ++ [ch],c2,_,by rw[aC,e1];rfl,rfl⟩) ⟨[],_,ab,rfl,rfl⟩
 rw[al,bZ,ck] at h1;refine⟨t,by lia,?_⟩;have s2:ex2 zca (zcN (zaa (ex2 zcl (zab 0) (eC (.int 9))) (zaa (ex2 zcl (zab 0) (eC (.int 5))) (zaa (ex2 zcl (zab 0) (eC (.int 7))) zae)))) (ex2 zcl (ex2 zgi (zab 0) (eC (.int 45))) (eC (.int 3))) [aa (.val (.int c)),aa (.val (.int few)),aa (.val (.int turn)),aa (.val (.str (mkS []))),ab,ab]=aa (.val (.int L)):=by
  simp (disch:=omega) only[ex2,zcN,zaa,zab,jqe,eC,zcl,pI,iOf,jqa,zc6,zah,zae,jqc,jqp,jqq,Nat.reduceLeDiff,ze5,asV,jra,zgi,zfC,zca,asL,hL]
 have ir:iR1 (zaa (zab 4) zae) [aa (.val (.int (c / 315))),aa (.val (.int few)),aa (.val (.int turn)),aa (.val (.str (mkS []))),aa (.val (.int L)),ab]=aa ((ax L.toNat).map fun(i:Nat)=>D.int (0+(i:Int))):=by
  have hb:b62 L:=zcM (by lia);simp only[iR1,zaa,zab,jqf,jqe,zae,jqc,jqa,iOf,hb,zah]
 suffices hF:∃ δ,zcZ [aa (.val (.int c)),aa (.val (.int few)),aa (.val (.int turn)),ab,ab,ab]=aa (.rt (.val (.str (mkS t))) δ) from
  hF.elim fun _ h=>(congrArg (fun o=>cv o _) h).trans rfl
 exact⟨_,(show zcZ _=_ from zaI (zeZ (v:=.str (mkS [])) rfl)).trans ((zaI (zeZ s2)).trans ((zaI (zeZ (divI rfl rfl (by decide)))).trans ((forN ir w1).trans rfl)))⟩
def lcX_ok{fr:List Nat}{i j:Nat}{fx:FXE}(δ:En)(hi:i<δ.length)(el:∀ (dk:List Int) (d:D),0<dk.length->∃ w:List Nat,w.length<=8/\∃ δc,fx (cEnX fr i (δ.set i (aa (.obj (.lst (dk.map .int))))) d)=aa (.str (mkS w),δc)/\oAt (j+1) δc=aa (.lst (dk.dropLast.map .int))) :
  ∀ (ds:List D) (dk:List Int),ds.length<=dk.length->∃ (ws:List (List Nat)) (dk':List Int),ws.length=ds.length/\(∀ w ∈ ws,w.length<=8)/\dk'.length=dk.length - ds.length/\lcX fr i j fx ds (δ.set i (aa (.obj (.lst (dk.map .int)))))=aa (ws.map fun w=>.str (mkS w),δ.set i (aa (.obj (.lst (dk'.map .int)))))
 | [],dk,_=>⟨[],dk,rfl,(fun _ h=>by cases h),rfl,rfl⟩
 | d :: ds,dk,h=>by
  rw[aw] at h;obtain⟨w,hw,δc,e1,e2⟩:=el dk d (by lia);obtain⟨ws,dk',q1,q2,q3,q4⟩:=lcX_ok δ hi el ds dk.dropLast (by rw[db];lia);refine⟨w :: ws,dk',by rw[aw,aw,q1],fun v hv=>?_,by rw[q3,db,aw];lia,?_⟩
  ·rcases az.mp hv with e | e
   ·rw[e];exact hw
   ·exact q2 v e
  ·show((fx (cEnX fr i (δ.set i (aa (.obj (.lst (dk.map .int))))) d)).bind fun p=>((oAt (j+1) p.2).bind lOf).bind fun es=>_)=_;rw[e1];show(((oAt (j+1) δc).bind lOf).bind fun es=>_)=_;rw[e2];show((lcX fr i j fx ds ((δ.set i (aa (.obj (.lst (dk.map .int))))).set i (aa (.obj (.lst (dk.dropLast.map .int)))))).map _)=_;rw[iR,q4];rfl
def xC3{g:List D->Option Ent}{fa fb fc:FXE}{δ δ1 δ2 δ3:En}{a b c d:D}(h1:fa δ=aa (a,δ1))(h2:fb δ1=aa (b,δ2))(h3:fc δ2=aa (c,δ3))(h4:g [a,b,c]=aa (.val d)):xC [.v,.v,.v] g (zdP fa (zdP fb (zdP fc xNil))) δ=aa (d,δ3):=by
 unfold xC;rw[xC_i h1 (xC_i h2 (xC_i h3 (show xNil δ3=aa ([],δ3) from rfl)))];show((((g [a,b,c])).bind asV).map _)=_;rw[h4];rfl
def words_el(T few:Int)(hf:2<=few/\few<=5)(dk:List Int)(d:D)(h:0<dk.length):∃ w:List Nat,w.length<=8/\∃ δc,zbb [aa (.val d),aa (.val (.int few)),aa (.obj (.lst (dk.map .int))),aa (.val (.int T))]=aa (.str (mkS w),δc)/\oAt 2 δc=aa (.lst (dk.dropLast.map .int)):=by
 obtain⟨c,hp⟩:=pop_i dk h 2 (δ:=[aa (.val d),aa (.val (.int few)),aa (.obj (.lst (dk.map .int))),aa (.val (.int T))]) rfl;obtain⟨w,hw,e⟩:=word_ok c few (T / 3 % 208) hf ⟨by lia,by lia⟩;exact⟨w,hw,_,xC3 hp (xP_i rfl) (xP_i (modI (divI rfl rfl (by decide)) rfl (by decide))) e,rfl⟩
def law_el(T:Int)(dk:List Int)(d:D)(h:0<dk.length):∃ w:List Nat,w.length<=8/\∃ δc,zc0 [aa (.val d),aa (.obj (.lst (dk.map .int))),aa (.val (.int T))]=aa (.str (mkS w),δc)/\oAt 1 δc=aa (.lst (dk.dropLast.map .int)):=by
 obtain⟨c,hp⟩:=pop_i dk h 1 (δ:=[aa (.val d),aa (.obj (.lst (dk.map .int))),aa (.val (.int T))]) rfl;obtain⟨w,hw,e⟩:=word_ok c (2+T % 3) (T / 3 % 208) ⟨by lia,by lia⟩ ⟨by lia,by lia⟩;exact⟨w,hw,_,xC3 hp (xP_i (addI rfl (modI rfl rfl (by decide)))) (xP_i (modI (divI rfl rfl (by decide)) rfl (by decide))) e,rfl⟩
def words_eq(dk:List Int)(hd:dk.length=40):∃ (zs:List (List Nat)) (dk':List Int),zs.length<=10/\(∀ w ∈ zs,w.length<=8)/\29<=dk'.length/\zbv (.lst (dk.map .int)) [.int 10]=aa (.lst (zs.map fun w=>.str (mkS w)),.lst (dk'.map .int)):=by
 obtain⟨T,hp⟩:=pop_i dk (by lia) 0 (δ:=[aa (.obj (.lst (dk.map .int))),aa (.val (.int 10)),ab,ab]) rfl;obtain⟨zs,dk',q1,q2,q3,q4⟩:=lcX_ok (fr:=[3,0,2]) (i:=0) (j:=1) (fx:=zbb) [ab,aa (.val (.int 10)),aa (.val (.int T)),aa (.val (.int (2+T % 3)))] (gM _) (fun dk d h=>words_el T (2+T % 3) ⟨by lia,by lia⟩ dk d h) ((ax (T / 624 % 11).toNat).map fun(i:Nat)=>D.int (0+(i:Int))) dk.dropLast (by rw[al,bZ,db];lia);rw[al,bZ] at q1 q3;refine⟨zs,dk',by lia,q2,by rw[q3,db];lia,?_⟩;have ir:iR1 (zaa (ex2 zcl (ex2 zgi (zab 2) (eC (.int 624))) (ex2 zcw (zab 1) (eC (.int 1)))) zae) [aa (.obj (.lst (dk.dropLast.map .int))),aa (.val (.int 10)),aa (.val (.int T)),aa (.val (.int (2+T % 3)))]=aa ((ax (T / 624 % 11).toNat).map fun(i:Nat)=>D.int (0+(i:Int))):=by
  have hm:=modI (E:=ex2 zgi (zab 2) (eC (.int 624))) (F:=ex2 zcw (zab 1) (eC (.int 1))) (δ:=[aa (.obj (.lst (dk.dropLast.map .int))),aa (.val (.int 10)),aa (.val (.int T)),aa (.val (.int (2+T % 3)))]) (divI rfl rfl (by decide)) (addI (b:=1) rfl rfl) (by decide);have hb:b62 (T / 624 % (10+1)):=zcM (by lia);generalize ex2 zcl (ex2 zgi (zab 2) (eC (.int 624))) (ex2 zcw (zab 1) (eC (.int 1)))=EE at *;simp only[iR1,zaa,hm,zae,jqc,jqa,iOf,hb,zah];rfl
 have hx:xLC [3,0,2] 0 1 (iR1 (zaa (ex2 zcl (ex2 zgi (zab 2) (eC (.int 624))) (ex2 zcw (zab 1) (eC (.int 1)))) zae)) zbb [aa (.obj (.lst (dk.dropLast.map .int))),aa (.val (.int 10)),aa (.val (.int T)),aa (.val (.int (2+T % 3)))]=aa (.lst (zs.map fun w=>.str (mkS w)),[aa (.obj (.lst (dk'.map .int))),aa (.val (.int 10)),aa (.val (.int T)),aa (.val (.int (2+T % 3)))]):=by
  unfold xLC;rw[ir];show((lcX [3,0,2] 0 1 zbb _ _).bind _)=_;have q5:lcX [3,0,2] 0 1 zbb ((ax (T / 624 % 11).toNat).map fun(i:Nat)=>D.int (0+(i:Int))) [aa (.obj (.lst (dk.dropLast.map .int))),aa (.val (.int 10)),aa (.val (.int T)),aa (.val (.int (2+T % 3)))]=aa (zs.map fun w=>.str (mkS w),[aa (.obj (.lst (dk'.map .int))),aa (.val (.int 10)),aa (.val (.int T)),aa (.val (.int (2+T % 3)))]):=q4;rw[q5];exact if_pos (by rw[al];lia)
 have hF:zch [aa (.obj (.lst (dk.map .int))),aa (.val (.int 10)),ab,ab]=aa (.rt (.val (.lst (zs.map fun w=>.str (mkS w)))) [aa (.obj (.lst (dk'.map .int))),aa (.val (.int 10)),aa (.val (.int T)),aa (.val (.int (2+T % 3)))]):=
  (show zch _=_ from zaI (zfx hp)).trans ((zaI (zeZ (addI rfl (modI rfl rfl (by decide))))).trans (fXRet_i hx))
 unfold zbv zjb;rw[if_pos (show [D.int 10].length=1 from rfl)];show(zch [aa (.obj (.lst (dk.map .int))),aa (.val (.int 10)),ab,ab]).bind endM=_;rw[hF];rfl
abbrev knD(kC:Str->af)(w:Str)(ks:List Int)(ds:List D):D:=.ins (kC "Knot") ["word","branches"] [.str w,.dcI ks ds]
def Pl:Nat->D->Prop
 | 0,_=>False
 | n+1,d=>(∃ i,d=.int i) \/ (∃ z,d=.str z) \/ ∃ l,d=.tup l/\l.length<=1000/\∀ x ∈ l,Pl n x
def Pl.up:∀ {n:Nat} {d:D},Pl n d->Pl (n+1) d:=by
 intro n
 induction n with
 | zero=>intro d h;exact h.elim
 | succ n ih=>
  rintro d (h | h | ⟨l,rfl,h1,h2⟩)
  ·exact .inl h
  ·exact .inr (.inl h)
  ·exact .inr (.inr ⟨l,rfl,h1,fun x hx=>ih (h2 x hx)⟩)
def Pl.le{n m:Nat}{d:D}(h:Pl n d)(hm:n<=m):Pl m d:=by
 induction hm with
 | refl=>exact h
 | step _ ih=>exact ih.up
def Pl.pl:∀ {n:Nat} {d:D},Pl n d->plD d=true:=by
 intro n
 induction n with
 | zero=>intro d h;exact h.elim
 | succ n ih=>
  rintro d (⟨i,rfl⟩ | ⟨z,rfl⟩ | ⟨l,rfl,h1,h⟩)
  ·simp only[plD]
  ·simp only[plD]
  ·simp only[plD];clear h1
   induction l with
   | nil=>simp only[plDs]
   | cons x l ih2=>
    simp only[plDs,de];exact⟨ih (h x am),ih2 fun y hy=>h y (aj _ hy)⟩
def Pl.int{n:Nat}{d:D}(h:Pl n d)(i:Int):Pl n (.int i):=by
 cases n with
 | zero=>exact h.elim
 | succ n=>exact .inl ⟨i,rfl⟩
def rOf(ks:List Int)(rs:List D)(p:Int):D:=((ixI ks p).bind fun i=>rs[i]?).getD .non
def prO(ks:List Int)(rs:List D)(p:Int):D:=.tup [.int p,rOf ks rs p]
def tf_turn(kC:Str->af){rg:List D->Option Ent}{w:Str}{ks:List Int}{ds rs acc:List D}{p:Int}{j:Nat}{d r:D}(hj:ixI ks p=aa j)(hd:ds[j]? = aa d)(hr:rs[j]? = aa r)(hg:rg [d]=aa (.val r))(ha:acc.length<1000000) :
  zce kC rg [aa (.val (knD kC w ks ds)),aa (.own acc),aa (.val (.int p))]=aa (.nx [aa (.val (knD kC w ks ds)),aa (.own (acc ++ [prO ks rs p])),aa (.val (.int p))]):=by
 have er:rOf ks rs p=r:=by unfold rOf;rw[hj];show(rs[j]?).getD _=_;rw[hr];rfl
 unfold prO;rw[er];exact(show zce kC rg _=_ from ziK rfl (eTup2 rfl ((call1 (dxI (fldV rfl rfl) rfl hj hd)).trans hg)) ha).trans rfl
def tf_loop(kC:Str->af){rg:List D->Option Ent}{w:Str}{ks:List Int}{ds rs:List D}(h:∀ p ∈ ks,∃ j d r,ixI ks p=aa j/\ds[j]? = aa d/\rs[j]? = aa r/\rg [d]=aa (.val r)):∀ (ps:List Int) (acc:List D) (x:Option Ent),(∀ p ∈ ps,p ∈ ks)->acc.length+ps.length<=1000->∃ y,
  loop (gNm 2) (zce kC rg) (ps.map D.int) [aa (.val (knD kC w ks ds)),aa (.own acc),x]=aa (.nx [aa (.val (knD kC w ks ds)),aa (.own (acc ++ ps.map (prO ks rs))),y])
 | [],acc,x,_,_=>⟨x,by rw[bK,bK,aY];rfl⟩
 | p :: ps,acc,x,hp,hl=>by
  rw[aw] at hl;obtain⟨j,d,r,h1,h2,h3,h4⟩:=h p (hp p am);obtain⟨y,e⟩:=tf_loop kC (w:=w) h ps (acc ++ [prO ks rs p]) (aa (.val (.int p))) (fun q hq=>hp q (aj _ hq)) (by rw[aC];simp only[aw,bm];lia);refine⟨y,(zcW rfl (tf_turn kC h1 h2 h3 h4 (by lia))).trans (e.trans ?_)⟩;rw[bF];rfl
def tf_ok(kC:Str->af)(m:Nat){w:Str}{ks:List Int}{ds rs:List D}(hk:ks.length<64)(h:∀ p ∈ ks,∃ j d r,ixI ks p=aa j/\ds[j]? = aa d/\rs[j]? = aa r/\zaG kC m [d]=aa (.val r)) :
  zaG kC (m+1) [knD kC w ks ds]=aa (.val (.tup [.str w,.tup ((zjg ks).map (prO ks rs))])):=by
 have hs:=(zdt ks).length_eq;obtain⟨y,e⟩:=tf_loop kC (w:=w) h (zjg ks) [] ab (fun p hp=>(zdt ks).mem_iff.mp hp) (by rw[hs];simp only[bm];lia);rw[cj] at e;have hF:zc2 kC (zaG kC m) [aa (.val (knD kC w ks ds)),ab,ab]=aa (.rt (.val (.tup [.str w,.tup ((zjg ks).map (prO ks rs))])) [aa (.val (knD kC w ks ds)),aa (.own ((zjg ks).map (prO ks rs))),y]):=by
  refine(show zc2 kC (zaG kC m) _=_ from zaI (zdg (ds:=[]) rfl)).trans ((forN (ds:=(zjg ks).map D.int) ?_ e).trans (zen (eTup2 (fldV rfl rfl) rfl)))
  unfold iL;rw[srtDi (fldV rfl rfl) hk];rfl
 exact(congrArg (fun o=>cv o _) hF).trans rfl
def tr_kids(n m N:Nat){w:List Nat}{ks:List Int}{os:List OT}{us:List (List Nat)}(ih:∀ x us,Kn n x us->us.length<=60->∃ d,Pl N d/\∀ kC,zaG kC m [dK kC x]=aa (.val d))(h:Kns (Kn n) w ks os us):us.length<=60 ->
  ∃ rs:List D,∀ p ∈ ks,∃ j r,ixI ks p=aa j/\rs[j]? = aa r/\Pl N r/\∀ kC,∃ d,(os.map (dK kC))[j]? = aa d/\zaG kC m [d]=aa (.val r):=by
 induction h with
 | nil=>intro _;exact⟨[],fun p hp=>by cases hp⟩
 | @cons k ks x os us vs h1 h2 h3 h4 h5 ih2=>
  intro hl;rw[aC] at hl;obtain⟨d,a1,a2⟩:=ih x us h1 (by lia);obtain⟨rs,b2⟩:=ih2 (by lia);refine⟨d :: rs,fun p hp=>?_⟩;by_cases e:k=p
  ·subst e;exact⟨0,d,by unfold ixI;rw[if_pos rfl],rfl,a1,fun kC=>⟨_,rfl,a2 kC⟩⟩
  ·obtain⟨j,r,c1,c2,c3,c4⟩:=b2 p ((az.mp hp).resolve_left fun z=>e z.symm);exact⟨j+1,r,by unfold ixI;rw[if_neg e,c1];rfl,c2,c3,c4⟩
def tree_kn:∀ (n m:Nat) (x:OT) (us:List (List Nat)),Kn n x us->us.length<=60->n<=m->∃ d,Pl (3 * n) d/\∀ kC,zaG kC m [dK kC x]=aa (.val d):=by
 intro n
 induction n with
 | zero=>intro m x us h;exact h.elim
 | succ n ih=>
  rintro m x us ⟨w,ks,os,vs,rfl,rfl,h⟩ hl hm;obtain⟨m,rfl⟩:∃ m',m=m'+1:=⟨m - 1,by lia⟩;rw[aw] at hl;obtain⟨rs,b2⟩:=tr_kids n m (3 * n) (fun x us h hl=>ih m x us h hl (by lia)) h (by lia);have hk:=h.len;have hs:=(zdt ks).length_eq;refine⟨.tup [.str (mkS w),.tup ((zjg ks).map (prO ks rs))],?_,fun kC=>?_⟩
  ·refine Pl.le (n:=3 * n+3) (.inr (.inr ⟨_,rfl,by simp,fun x hx=>?_⟩)) (by lia);simp only[az,bW,or_false] at hx;rcases hx with rfl | rfl
   ·exact .inr (.inl ⟨_,rfl⟩)
   ·refine .inr (.inr ⟨_,rfl,by rw[al,hs];lia,fun x hx=>?_⟩);obtain⟨p,hp,rfl⟩:=bH.mp hx;obtain⟨j,r,c1,c4,c7,_⟩:=b2 p ((zdt ks).mem_iff.mp hp);refine .inr (.inr ⟨_,rfl,by simp,fun x hx=>?_⟩);simp only[az,bW,or_false] at hx;rcases hx with rfl | rfl
    ·exact c7.int p
    ·rw[show rOf ks rs p=r by unfold rOf;rw[c1];show(rs[j]?).getD _=_;rw[c4];rfl];exact c7
  ·rw[dK_mk h];refine tf_ok kC m (rs:=rs) (by lia) fun p hp=>?_;obtain⟨j,r,c1,c2,_,c4⟩:=b2 p hp;obtain⟨d,d1,d2⟩:=c4 kC;exact⟨j,d,r,c1,d1,c2,d2⟩
def eqD_self:∀ (n m:Nat) (d:D),Pl n d->n<=m->eqD m d d=aa true:=by
 intro n
 induction n with
 | zero=>intro m d h;exact h.elim
 | succ n ih=>
  intro m d h hm;obtain⟨m,rfl⟩:∃ m',m=m'+1:=⟨m - 1,by lia⟩;rcases h with ⟨i,rfl⟩ | ⟨z,rfl⟩ | ⟨l,rfl,h1,h2⟩
  ·simp[eqD,flD,eqF]
  ·simp[eqD,flD,eqF]
  ·show zef (eqD m) l l=_;exact zdZ fun x hx=>ih m x (h2 x hx) (by lia)
def bkV(kC:Str->af)(top:OT):D:=.ins (kC "Book") ["top"] [dK kC top]
def zia(kC:Str->af):dK kC (.val .non)=.non:=by unfold dK;simp only[toD];rfl
def zgZ(kC:Str->af){zs:List (List Nat)}{top:OT}(h:Bk zs top):toD kC (bkO top)=aa (bkV kC top):=by
 unfold bkO bkV;rcases h with ⟨_,rfl⟩ | ⟨n,us,hk,_⟩
 ·rw[zia];simp only[toD,toDs,bS,aL]
 ·simp only[toD,toDs,hk.d,bS,aL]
def tree_bk{zs:List (List Nat)}{top:OT}(h:Bk zs top)(hz:zs.length<=15):∃ d,plD d=true/\eqD 60 d d=aa true/\∀ kC,zap kC [bkV kC top]=aa (.val d):=by
 rcases h with ⟨rfl,rfl⟩ | ⟨n,us,hk,_,_,h4,h5⟩
 ·refine⟨.non,by simp only[plD],by simp[eqD,flD,eqF],fun kC=>?_⟩;unfold bkV;rw[zia];simp only[zap,zcS,stE,stN,jqc,jqa,zcx,zaX,fIf,tOf,ex2,ex1,zab,aJ,jqk,eC,ziC,isN,zb2,toN,fNx,jqe,zbR,asIn,and_self,jra,bOf,sqO,zf4]
 ·obtain⟨d,p1,p2⟩:=tree_kn n 16 top us hk (by lia) (by lia);refine⟨d,p1.pl,eqD_self _ _ d p1 (by lia),fun kC=>?_⟩;have w:zcx kC [aa (.val (bkV kC top))]=aa (.rt (.val d) [aa (.val (bkV kC top))]):=
   (show zcx kC _=_ from zaI (zhN (zhs rfl (zhk hk)))).trans (zen ((call1 (zh6 rfl)).trans (p2 kC)))
  exact(congrArg (fun o=>cv o _) w).trans rfl
def args2{X Y:FE}{δ:En}{a b:D}(h1:X δ=aa (.val a))(h2:Y δ=aa (.val b)):((zaa X (zaa Y zae)) δ).bind (zbF [.v,.v])=aa [a,b]:=by
 unfold zaa zae;rw[h1];show((((Y δ).bind _).map _).bind _)=_;rw[h2];rfl
def mvaI{C:af}{ns:List Str}{ks:List Kd}{g:List D->Option Ent}{fe:FE}{fa:FA}{δ:En}{l ds:List D}(h1:fe δ=aa (.val (.ins C ns l)))(h2:(fa δ).bind (zbF ks)=aa ds):ze8 C ns ks g fe fa δ=g (.ins C ns l :: ds):=by
 unfold ze8;rw[h1];show((if C=C/\ns=ns then aa l else ab).bind fun l=>((fa δ).bind (zbF ks)).bind fun ds=>g (.ins C ns l :: ds))=_;rw[if_pos ⟨rfl,rfl⟩];show(((fa δ).bind (zbF ks)).bind fun ds=>g (.ins C ns l :: ds))=_;rw[h2];rfl
def eqLL{E F:FE}{δ:En}{a b:List D}{q:Bool}(h1:(E δ).bind asL=aa a)(h2:(F δ).bind asL=aa b)(h:zef (eqD 60) a b=aa q):ex2 zgD E F δ=aa (.val (.bl q)):=by
 obtain⟨x,e1,a1⟩:=bind_some h1;obtain⟨y,e2,a2⟩:=bind_some h2;unfold ex2;rw[e1,e2];show(sqOf x y).bind _=_;rw[show sqOf x y=aa (a,b) by unfold sqOf;rw[a1,a2]];show(zef (eqD 60) a b).map _=_;rw[h];rfl
def neLL{E F:FE}{δ:En}{a b:List D}{q:Bool}(h1:(E δ).bind asL=aa a)(h2:(F δ).bind asL=aa b)(h:zef (eqD 60) a b=aa q):ex2 gNeD E F δ=aa (.val (.bl (!q))):=by
 obtain⟨x,e1,a1⟩:=bind_some h1;obtain⟨y,e2,a2⟩:=bind_some h2;unfold ex2;rw[e1,e2];show(sqOf x y).bind _=_;rw[show sqOf x y=aa (a,b) by unfold sqOf;rw[a1,a2]];show(zef (eqD 60) a b).map _=_;rw[h];rfl
def eqTup{E F:FE}{δ:En}{a b:List D}{q:Bool}(h1:E δ=aa (.val (.tup a)))(h2:F δ=aa (.val (.tup b)))(h:zef (eqD 60) a b=aa q):ex2 zgD E F δ=aa (.val (.bl q)):=by
 unfold ex2;rw[h1,h2];show(zef (eqD 60) a b).map _=_;rw[h];rfl
def neTup{E F:FE}{δ:En}{a b:List D}{q:Bool}(h1:E δ=aa (.val (.tup a)))(h2:F δ=aa (.val (.tup b)))(h:zef (eqD 60) a b=aa q):ex2 gNeD E F δ=aa (.val (.bl (!q))):=by
 unfold ex2;rw[h1,h2];show(zef (eqD 60) a b).map _=_;rw[h];rfl
def SS_perm{t:List Nat}{us ys:List (List Nat)}(p:us.Perm ys):SS t us=SS t ys:=zec ((zbm _).trans (p.map _)) (ze1 _)
def nearest_k(kC:Str->af)(n:Nat)(x:OT)(us:List (List Nat))(hk:Kn n x us)(hu:us.length<=60)(hl:∀ u ∈ us,u.length<=1000)(t:List Nat)(ht:t.length<=1000):zaj kC [bkV kC x,.str (mkS t)]=aa (.val (.tup ((zb4 t us).map prD))):=by
 obtain⟨n',w,ks,os,vs,_,rfl,rfl,h⟩:=hk.get;have hne:=zhk (kC:=kC) hk;have nk:=near_k kC n _ _ hk hu hl t ht (ed w t);rw[SS_near] at nk;have sl:=zge w t (hl w am) ht;have ln:=zgl t (w :: vs);cases hS:SS t (w :: vs) with
 | nil=>rw[hS] at ln;cases ln
 | cons p rest=>
  have hp:p.1<=ed w t:=SS_head hS (prE t w) ((zbm _).mem_iff.mpr (bH.mpr ⟨w,am,rfl⟩));obtain⟨⟨r,hr⟩,hfl⟩:=near_top hS hp;have hnl:(zb7 t (w :: vs) (ed w t)).length<=60:=by
   unfold zb7;have:=dO (fun p:Int × Str=>decide (p.1<=ed w t)) (SS t (w :: vs));lia
  have hdl:((zb4 t (w :: vs)).map prD).length<=1000000:=by
   rw[<- hfl,al];have:=dO (fun x:Int × Str=>decide (p.1=x.1)) (zb7 t (w :: vs) (ed w t));lia
  have e1:ze8 (kC "Book") ["top"] [.v,.v] (zaf kC) (zab 0) (zaa (zab 1) (zaa (zaM [.v,.v] zag (zaa (ex1 (zbR (kC "Knot") ["word","branches"] 0) (ex1 (zbR (kC "Book") ["top"] 0) (zab 0))) (zaa (zab 1) zae))) zae)) [aa (.val (bkV kC (mkK (mkS w) ks os))),aa (.val (.str (mkS t))),ab]=aa (.val (.tup ((zb7 t (w :: vs) (ed w t)).map prD))):=by
   refine(mvaI (l:=[dK kC (mkK (mkS w) ks os)]) (ds:=[.str (mkS t),.int (ed w t)]) rfl ?_).trans nk;have c:zaM [.v,.v] zag (zaa (ex1 (zbR (kC "Knot") ["word","branches"] 0) (ex1 (zbR (kC "Book") ["top"] 0) (zab 0))) (zaa (zab 1) zae)) [aa (.val (bkV kC (mkK (mkS w) ks os))),aa (.val (.str (mkS t))),ab]=aa (.val (.int (ed w t))):=by
    refine(zfa (a:=.str (mkS w)) (b:=.str (mkS t)) (fldV (C:=kC "Knot") (ns:=["word","branches"]) (l:=[.str (mkS w),.dcI ks (os.map (dK kC))]) ((zh6 (X:=dK kC (mkK (mkS w) ks os)) rfl).trans (by rw[dK_mk h])) rfl) rfl).trans sl
   exact args2 (X:=zab 1) rfl c
  have e2:eL2 [2] (iT (zab 2)) (zbE kC) (zb6 kC) [aa (.val (bkV kC (mkK (mkS w) ks os))),aa (.val (.str (mkS t))),aa (.val (.tup ((zb7 t (w :: vs) (ed w t)).map prD)))]=aa (.own ((zb4 t (w :: vs)).map prD)):=by
   have hc:=ze0 (ft:=fun d=>(two d).bind fun q=>zbE kC (cEn2 [2] [aa (.val (bkV kC (mkK (mkS w) ks os))),aa (.val (.str (mkS t))),aa (.val (.tup ((zb7 t (w :: vs) (ed w t)).map prD)))] q.1 q.2)) (fe:=fun d=>(two d).bind fun q=>zb6 kC (cEn2 [2] [aa (.val (bkV kC (mkK (mkS w) ks os))),aa (.val (.str (mkS t))),aa (.val (.tup ((zb7 t (w :: vs) (ed w t)).map prD)))] q.1 q.2)) prD (fun x=>decide (p.1=x.1)) prD (zb7 t (w :: vs) (ed w t)) (fun x hx=>?_) (fun x _=>rfl)
   ·unfold eL2;rw[show iT (zab 2) [aa (.val (bkV kC (mkK (mkS w) ks os))),aa (.val (.str (mkS t))),aa (.val (.tup ((zb7 t (w :: vs) (ed w t)).map prD)))]=aa ((zb7 t (w :: vs) (ed w t)).map prD) from rfl,aL,hc,aL,hfl,if_pos hdl]
   ·rw[hr];have:=eqTT (E:=zab 0) (F:=ex2 zc9 (ex2 zc9 (zab 2) (eC (.int 0))) (eC (.int 0))) (δ:=[aa (.val (.int x.1)),aa (.val (.str x.2)),aa (.val (.tup ((p :: r).map prD)))]) (a:=x.1) (b:=p.1) rfl (zh9 (ds:=[.int p.1,.str p.2]) (zh9 (E:=zab 2) (ds:=(p :: r).map prD) rfl rfl (zcm (by decide) rfl)) rfl rfl);refine(show zbE kC [aa (.val (.int x.1)),aa (.val (.str x.2)),aa (.val (.tup ((p :: r).map prD)))]=_ from this).trans ?_;simp[eq_comm]
  have w1:zbK kC [aa (.val (bkV kC (mkK (mkS w) ks os))),aa (.val (.str (mkS t))),ab]=aa (.rt (.val (.tup ((zb4 t (w :: vs)).map prD))) [aa (.val (bkV kC (mkK (mkS w) ks os))),aa (.val (.str (mkS t))),aa (.val (.tup ((zb7 t (w :: vs) (ed w t)).map prD)))]):=
   (show zbK kC _=_ from zaI (zhN (zhs rfl hne))).trans ((zdE e1).trans (zen (tupO e2 hdl)))
  exact(congrArg (fun o=>cv o _) w1).trans rfl
section
variable {zs ys:List (List Nat)}{top:OT}(h:Bk zs top)(hz:zs.length<=60)(hl:∀ u ∈ zs,u.length<=900)(hy:ys.Nodup)(hm:∀ u,u ∈ ys ↔ u ∈ zs)(t:List Nat)(ht:t.length<=900)(kC:Str->af)
include h hz hl hy hm ht
def zfz(q:Int):zaf kC [bkV kC top,.str (mkS t),.int q]=aa (.val (.tup ((zb7 t ys q).map prD))):=by
 rcases h with ⟨rfl,rfl⟩ | ⟨n,us,h1,h2,h3,h4,h5⟩
 ·have:ys=[]:=fz.mpr fun u hu=>by have:=(hm u).mp hu;cases this
  subst this;unfold bkV;rw[zia,zhf];unfold zb7 SS;rw[bK,show zg2 []=[] from iS];rfl
 ·have pm:us.Perm ys:=(ga h2 hy).mpr fun u=>(h3 u).trans (hm u).symm;have:=near_k kC n top us h1 (by lia) (fun u hu=>by have:=hl u ((h3 u).mp hu);lia) t (by lia) q;rw[SS_near] at this;unfold zb7 at this ⊢;rwa [SS_perm pm] at this
def zel:zaj kC [bkV kC top,.str (mkS t)]=aa (.val (.tup ((zb4 t ys).map prD))):=by
 rcases h with ⟨rfl,rfl⟩ | ⟨n,us,h1,h2,h3,h4,h5⟩
 ·have:ys=[]:=fz.mpr fun u hu=>by have:=(hm u).mp hu;cases this
  subst this;unfold bkV zb4 SS;rw[zia,bK,show zg2 []=[] from iS];simp only[zaj,zcS,stE,stN,jqc,jqa,zbK,zaX,fIf,tOf,ex2,ex1,zab,aJ,eC,ziC,isN,zb2,ze3,zae,jqq,Nat.reduceLeDiff,ze5,jra,toN,fNx,jqi,jqj,jqe,zbR,asIn,and_self,bOf,sqO,zf4];rfl
 ·have pm:us.Perm ys:=(ga h2 hy).mpr fun u=>(h3 u).trans (hm u).symm;have:=nearest_k kC n top us h1 (by lia) (fun u hu=>by have:=hl u ((h3 u).mp hu);lia) t (by lia);unfold zb4 at this ⊢;rwa [SS_perm pm] at this
end
def or3F{A B C:FE}{δ:En}(hA:A δ=aa (.val (.bl true)))(hB:B δ=aa (.val (.bl false)))(hC:C δ=aa (.val (.bl false))):fOr (fNot (tOf A)) (fOr (tOf B) (tOf C)) δ=aa false:=by
 simp only[fOr,fNot,tOf,hA,jqa,bOf,jqc,jqt,hB,hC,jqr,jrb]
def ziF(kC:Str->af)(c0 c1 c2 c3 c4 c5:Option Ent):∀ (ps:List (Int × Str)) (x6:Option Ent),∃ y6,loop (gNm 6) (zcA kC) (ps.map prD) [c0,c1,c2,c3,c4,c5,x6]=aa (.nx [c0,c1,c2,c3,c4,c5,y6])
 | [],x6=>⟨x6,rfl⟩
 | p :: ps,x6=>by
  obtain⟨y6,e⟩:=ziF kC c0 c1 c2 c3 c4 c5 ps (aa (.val (prD p)));refine⟨y6,(zcW (δ2:=[c0,c1,c2,c3,c4,c5,aa (.val (prD p))]) rfl ?_).trans e⟩;have ha:atI [D.int p.1,D.str p.2] 0=aa (.int p.1):=rfl;refine(show zcA kC _=_ from zhN ?_).trans rfl;unfold prD;simp (decide:=true) only[fOr,fNot,tOf,ex1,zab,jqh,jqg,jqf,jqe,jqa,gIsi,obD,jqr,isiD,tyN,jrb,bOf,jqc,ex2,eC,zc9,ze4,iOf,ha]
def right_ok(kC:Str->af){X1 X2:D}{l1 l2:List D}(e1:X1=.ins (kC "Book") ["top"] l1)(e2:X2=.ins (kC "Book") ["top"] l2)(Z:List D)(t:List Nat)(ys:List (List Nat))(hyl:ys.length<=60)
  (d:zbp [.lst Z,.str (mkS t)]=aa (.own ((zb4 t ys).map prD))) (n1:zaj kC [X1,.str (mkS t)]=aa (.val (.tup ((zb4 t ys).map prD)))) (n2:zaj kC [X2,.str (mkS t)]=aa (.val (.tup ((zb4 t ys).map prD))))
  (r1:∀ q:Int,zaf kC [X1,.str (mkS t),.int q]=aa (.val (.tup ((zb7 t ys q).map prD)))) (r2:∀ q:Int,zaf kC [X2,.str (mkS t),.int q]=aa (.val (.tup ((zb7 t ys q).map prD)))) :
  zbV kC [X1,X2,.lst Z,.str (mkS t)]=aa (.val (.bl true)):=by
 have eqd:=eq_prs (zb4 t ys);have s4:zaM [.b,.v] zbp (zaa (zab 2) (zaa (zab 3) zae)) [aa (.val X1),aa (.val X2),aa (.bor Z),aa (.val (.str (mkS t))),ab,ab,ab]=aa (.own ((zb4 t ys).map prD)):=d;obtain⟨y6,lp⟩:=ziF kC (aa (.val X1)) (aa (.val X2)) (aa (.bor Z)) (aa (.val (.str (mkS t)))) (aa (.own ((zb4 t ys).map prD))) (aa (.val (.tup ((zb4 t ys).map prD)))) (zb4 t ys) ab;have s5:ze8 (kC "Book") ["top"] [.v] (zaj kC) (zab 0) (zaa (zab 3) zae) [aa (.val X1),aa (.val X2),aa (.bor Z),aa (.val (.str (mkS t))),aa (.own ((zb4 t ys).map prD)),ab,ab]=aa (.val (.tup ((zb4 t ys).map prD))):=by
  subst e1;exact(mvaI (l:=l1) (ds:=[.str (mkS t)]) rfl rfl).trans n1
 have s6:ze8 (kC "Book") ["top"] [.v] (zaj kC) (zab 1) (zaa (zab 3) zae) [aa (.val X1),aa (.val X2),aa (.bor Z),aa (.val (.str (mkS t))),aa (.own ((zb4 t ys).map prD)),aa (.val (.tup ((zb4 t ys).map prD))),ab]=aa (.val (.tup ((zb4 t ys).map prD))):=by
  subst e2;exact(mvaI (l:=l2) (ds:=[.str (mkS t)]) rfl rfl).trans n2
 have t6:=or3F (A:=ex1 (gIsi "tuple") (zab 5)) (δ:=[aa (.val X1),aa (.val X2),aa (.bor Z),aa (.val (.str (mkS t))),aa (.own ((zb4 t ys).map prD)),aa (.val (.tup ((zb4 t ys).map prD))),ab]) rfl (neLL (E:=eCB zdb (zaa (zab 5) zae)) (F:=zab 4) (a:=(zb4 t ys).map prD) (b:=(zb4 t ys).map prD) rfl rfl eqd) (neTup (F:=zab 5) s6 rfl eqd)
 suffices hF:∃ δ,zci kC [aa (.val X1),aa (.val X2),aa (.bor Z),aa (.val (.str (mkS t))),ab,ab,ab]=aa (.rt (.val (.bl true)) δ) from
  hF.elim fun _ h=>(congrArg (fun o=>cv o _) h).trans rfl
 have st:zci kC [aa (.val X1),aa (.val X2),aa (.bor Z),aa (.val (.str (mkS t))),ab,ab,ab]=zaX (fIf (tOf (ex2 zgD (zab 5) (ze3 zae))) (zb2 (ex2 zgD (ze8 (kC "Book") ["top"] [.v,.v] (zaf kC) (zab 0) (zaa (zab 3) (zaa (eC (.int 40)) zae))) (ze3 zae))) fNx)
   (zb2 (eAnd (ex2 zgD (ze8 (kC "Book") ["top"] [.v,.v] (zaf kC) (zab 0) (zaa (zab 3) (zaa (ex2 zc9 (ex2 zc9 (zab 5) (eC (.int 0))) (eC (.int 0))) zae))) (zab 5)) (ex2 zgD (ze8 (kC "Book") ["top"] [.v,.v] (zaf kC) (zab 1) (zaa (zab 3) (zaa (ex2 zc9 (ex2 zc9 (zab 5) (eC (.int 0))) (eC (.int 0))) zae))) (zab 5)))) [aa (.val X1),aa (.val X2),aa (.bor Z),aa (.val (.str (mkS t))),aa (.own ((zb4 t ys).map prD)),aa (.val (.tup ((zb4 t ys).map prD))),y6]:=by
  refine(show zci kC _=_ from zaI (zdg s4)).trans ((zdE s5).trans ((zaI (zhN t6)).trans ((forN (ds:=(zb4 t ys).map prD) rfl lp).trans rfl)))
 rw[st];cases hS:SS t ys with
 | nil=>
  have hd:zb4 t ys=[]:=by unfold zb4;rw[hS];rfl
  have hn:zb7 t ys 40=[]:=by unfold zb7;rw[hS];rfl
  rw[hd] at *;have q:=r1 40;rw[hn] at q;refine⟨_,fSeqR ((fIfT (show tOf (ex2 zgD (zab 5) (ze3 zae)) _=aa true from rfl)).trans (zen (eqTup (a:=[]) (b:=[]) ?_ rfl rfl)))⟩;subst e1;exact(mvaI (l:=l1) (ds:=[.str (mkS t),.int 40]) rfl rfl).trans q
 | cons p rest=>
  obtain⟨r,hr⟩:=zhS hS;have q1:=r1 p.1;have q2:=r2 p.1;rw[zih hS] at q1 q2;have ix:∀ c4 x6:Option Ent,ex2 zc9 (ex2 zc9 (zab 5) (eC (.int 0))) (eC (.int 0)) [aa (.val X1),aa (.val X2),aa (.bor Z),aa (.val (.str (mkS t))),c4,aa (.val (.tup ((zb4 t ys).map prD))),x6]=aa (.val (.int p.1)):=fun c4 x6=>by
   rw[hr];exact zh9 (ds:=[.int p.1,.str p.2]) (zh9 (E:=zab 5) (ds:=(p :: r).map prD) rfl rfl (zcm (by decide) rfl)) rfl rfl
  have tz:tOf (ex2 zgD (zab 5) (ze3 zae)) [aa (.val X1),aa (.val X2),aa (.bor Z),aa (.val (.str (mkS t))),aa (.own ((zb4 t ys).map prD)),aa (.val (.tup ((zb4 t ys).map prD))),y6]=aa false:=by
   have:ex2 zgD (zab 5) (ze3 zae) [aa (.val X1),aa (.val X2),aa (.bor Z),aa (.val (.str (mkS t))),aa (.own ((zb4 t ys).map prD)),aa (.val (.tup ((zb4 t ys).map prD))),y6]=aa (.val (.bl false)):=eqTup (E:=zab 5) (a:=(zb4 t ys).map prD) (b:=[]) rfl rfl (by rw[hr];rfl);unfold tOf;rw[this];rfl
  have ar:∀ i:Nat,((zaa (zab 3) (zaa (ex2 zc9 (ex2 zc9 (zab 5) (eC (.int 0))) (eC (.int 0))) zae)) [aa (.val X1),aa (.val X2),aa (.bor Z),aa (.val (.str (mkS t))),aa (.own ((zb4 t ys).map prD)),aa (.val (.tup ((zb4 t ys).map prD))),y6]).bind (zbF [.v,.v])=aa [.str (mkS t),.int p.1]:=fun _=>by
   exact args2 (X:=zab 3) rfl (ix _ _)
  rw[zaI (zhN tz)];refine⟨_,zen (eAndI (a:=true) (b:=true) (eqTup (F:=zab 5) (a:=(zb4 t ys).map prD) ?_ rfl eqd) (eqTup (F:=zab 5) (a:=(zb4 t ys).map prD) ?_ rfl eqd))⟩
  ·subst e1;exact(mvaI (l:=l1) rfl (ar 0)).trans q1
  ·subst e2;exact(mvaI (l:=l2) rfl (ar 0)).trans q2
def grows_ok(kC:Str->af){X:D}{l:List D}(e1:X=.ins (kC "Book") ["top"] l)(Z:List D)(t:List Nat)(ys:List (List Nat))(hyl:ys.length<=60)(hne:0<ys.length)
  (d:zbp [.lst Z,.str (mkS t)]=aa (.own ((zb4 t ys).map prD))) (n1:zaj kC [X,.str (mkS t)]=aa (.val (.tup ((zb4 t ys).map prD)))) (r1:∀ q:Int,zaf kC [X,.str (mkS t),.int q]=aa (.val (.tup ((zb7 t ys q).map prD)))) :
  zbW kC [X,.lst Z,.str (mkS t)]=aa (.val (.bl true)):=by
 have eqd:=eq_prs (zb4 t ys);have ln:=zgl t ys;cases hS:SS t ys with
 | nil=>rw[hS,bm] at ln;lia
 | cons p rest=>
  obtain⟨r,hr⟩:=zhS hS;have q1:=r1 p.1;rw[zih hS] at q1;have lq:∀ {E:FE} {δ:En},E δ=aa (.val (.tup ((zb4 t ys).map prD)))->(eCB zdb (zaa E zae) δ).bind asL=aa ((zb4 t ys).map prD):=fun h=>by
   unfold eCB zaa zae;rw[h];rfl
  have ar:((zaa (zab 2) (zaa (ex2 zc9 (ex2 zca (zab 3) (eC (.int 0))) (eC (.int 0))) zae)) [aa (.val X),aa (.bor Z),aa (.val (.str (mkS t))),aa (.own ((zb4 t ys).map prD))]).bind (zbF [.v,.v])=aa [.str (mkS t),.int p.1]:=by
   refine args2 (X:=zab 2) rfl ?_;rw[hr];exact zh9 (ds:=[.int p.1,.str p.2]) (ixLW (E:=zab 3) (ds:=(p :: r).map prD) rfl rfl (zcm (by decide) rfl)) rfl rfl
  have s3:zaM [.b,.v] zbp (zaa (zab 1) (zaa (zab 2) zae)) [aa (.val X),aa (.bor Z),aa (.val (.str (mkS t))),ab]=aa (.own ((zb4 t ys).map prD)):=d;have w:zcL kC [aa (.val X),aa (.bor Z),aa (.val (.str (mkS t))),ab]=aa (.rt (.val (.bl true)) [aa (.val X),aa (.bor Z),aa (.val (.str (mkS t))),aa (.own ((zb4 t ys).map prD))]):=by
   refine(show zcL kC _=_ from zaI (zdg s3)).trans (zen (eAndI (a:=true) (b:=true) (eqLL (F:=zab 3) (a:=(zb4 t ys).map prD) (lq ?_) rfl eqd) (eqLL (F:=zab 3) (a:=(zb4 t ys).map prD) (lq ?_) rfl eqd)))
   ·subst e1;exact(mvaI (l:=l) (ds:=[.str (mkS t)]) rfl rfl).trans n1
   ·subst e1;exact(mvaI (l:=l) rfl ar).trans q1
  exact(congrArg (fun o=>cv o _) w).trans rfl
def zfi{α:Type}:∀ {l:List α} {k:Nat} {x:α},l[k]? = aa x->l.Perm (x :: l.eraseIdx k)
 | [],k,x,h=>by cases h
 | a :: l,0,x,h=>by cases h;exact .refl _
 | a :: l,k+1,x,h=>((zfi (l:=l) h).cons a).trans (.swap ..)
def tn_loop(Z:List D):∀ (N:Nat) (l f:List (List Nat)) (T:Int),l.length<N->l.length+f.length<=1000->∃ (g:List (List Nat)) (T':Int),g.Perm (f ++ l) /\
  whl zbN zbO N [aa (.bor Z),aa (.val (.int T)),aa (.own (SD l)),aa (.own (SD f))]=aa (.nx [aa (.bor Z),aa (.val (.int T')),aa (.own []),aa (.own (SD g))]):=by
 intro N
 induction N with
 | zero=>intro l f T h;lia
 | succ N ih=>
  intro l f T h hb;cases l with
  | nil=>
   refine⟨f,T,by rw[aY],?_⟩;have t0:zbN [aa (.bor Z),aa (.val (.int T)),aa (.own (SD [])),aa (.own (SD f))]=aa false:=rfl;simp only[whl,t0,aL,if_false,bx];rfl
  | cons a l=>
   have t1:zbN [aa (.bor Z),aa (.val (.int T)),aa (.own (SD (a :: l))),aa (.own (SD f))]=aa true:=rfl;have ml:(SD (a :: l)).length=l.length+1:=by unfold SD;rw[al,aw]
   have m0:0<=T % ((l.length+1:Nat):Int):=fw _ (by lia);have m1:T % ((l.length+1:Nat):Int)<((l.length+1:Nat):Int):=ef _ (by lia);have hk:(T % ((l.length+1:Nat):Int)).toNat<(a :: l).length:=by rw[aw];lia
   have hx:(a :: l)[(T % ((l.length+1:Nat):Int)).toNat]? = aa ((a :: l)[(T % ((l.length+1:Nat):Int)).toNat]):=aE hk;generalize (a :: l)[(T % ((l.length+1:Nat):Int)).toNat]=x at hx;have hx':(SD (a :: l))[(T % ((l.length+1:Nat):Int)).toNat]? = aa (.str (mkS x)):=by unfold SD;rw[aD,hx];rfl
   have fl:(SD f).length=f.length:=by unfold SD;rw[al]
   have fe:ex2 zcl (zab 1) (eCB zbJ (zaa (zab 2) zae)) [aa (.bor Z),aa (.val (.int T)),aa (.own (SD (a :: l))),aa (.own (SD f))]=aa (.val (.int (T % ((l.length+1:Nat):Int)))):=
    modI rfl (by rw[<- ml];rfl) (by lia)
   have er:(SD (a :: l)).eraseIdx (T % ((l.length+1:Nat):Int)).toNat=SD ((a :: l).eraseIdx (T % ((l.length+1:Nat):Int)).toNat):=by unfold SD;rw[cB,cB,bz,gb,List.map_drop]
   have s1:zf2 3 2 (ex2 zcl (zab 1) (eCB zbJ (zaa (zab 2) zae))) [aa (.bor Z),aa (.val (.int T)),aa (.own (SD (a :: l))),aa (.own (SD f))]=aa (.nx [aa (.bor Z),aa (.val (.int T)),aa (.own (SD ((a :: l).eraseIdx (T % ((l.length+1:Nat):Int)).toNat))),aa (.own (SD (f ++ [x])))]):=by
    unfold zf2;rw[show wAt 3 [aa (.bor Z),aa (.val (.int T)),aa (.own (SD (a :: l))),aa (.own (SD f))]=aa (SD f) from rfl,show wAt 2 [aa (.bor Z),aa (.val (.int T)),aa (.own (SD (a :: l))),aa (.own (SD f))]=aa (SD (a :: l)) from rfl,aL,aL,fe];show(if 0<=T % ((l.length+1:Nat):Int)/\T % ((l.length+1:Nat):Int)<((SD (a :: l)).length:Int)/\(SD (a :: l)).length<1000000/\(SD f).length<1000000/\3 ≠ 2 then _ else _)=_;rw[if_pos ⟨m0,by rw[ml];exact m1,by rw[ml];simp only[aw] at hb;lia,by rw[fl];simp only[aw] at hb;lia,by decide⟩,hx',er];show aa (Out.nx [aa (.bor Z),aa (.val (.int T)),aa (.own (SD ((a :: l).eraseIdx (T % ((l.length+1:Nat):Int)).toNat))),aa (.own (SD f ++ [.str (mkS x)]))])=_;rw[show SD (f ++ [x])=SD f ++ [.str (mkS x)] by unfold SD;rw[bz];rfl]
   have s2:zbO [aa (.bor Z),aa (.val (.int T)),aa (.own (SD (a :: l))),aa (.own (SD f))]=aa (.nx [aa (.bor Z),aa (.val (.int ((T * 48271+11) % 2147483647))),aa (.own (SD ((a :: l).eraseIdx (T % ((l.length+1:Nat):Int)).toNat))),aa (.own (SD (f ++ [x])))]):=by
    refine(show zbO _=_ from zaI s1).trans ?_;refine zeZ (modI (addI (b:=11) ?_ rfl) rfl (by decide));simp only[ex2,zab,jqf,jqe,eC,zfb,pI,iOf,jqa,Int.reduceNeg,Int.reduceLT,jre,zd1,jrc,zah]
   have le:((a :: l).eraseIdx (T % ((l.length+1:Nat):Int)).toNat).length=l.length:=by rw[dW hk];rfl
   obtain⟨g,T',p,e⟩:=ih ((a :: l).eraseIdx (T % ((l.length+1:Nat):Int)).toNat) (f ++ [x]) ((T * 48271+11) % 2147483647) (by rw[le];simp only[aw] at h;lia) (by rw[le,aC];simp only[aw,bm] at hb ⊢;lia);refine⟨g,T',p.trans ?_,?_⟩
   ·rw[bF,di];exact(zfi hx).symm.append_left f
   ·simp only[whl,t1,s2,aL,if_true];exact e
def turned_ok(zs:List (List Nat))(hz:zs.length<=11)(T:Int):∃ vs:List (List Nat),vs.Perm zs/\zb1 [.lst (SD zs),.int T]=aa (.own (SD vs)):=by
 obtain⟨vs,T',p,e⟩:=tn_loop (SD zs) 12 zs [] T (by lia) (by simp;lia);refine⟨vs,by simpa using p,?_⟩
 suffices hF:∃ δ,zcp [aa (.bor (SD zs)),aa (.val (.int T)),ab,ab]=aa (.rt (.own (SD vs)) δ) from
  hF.elim fun _ h=>(congrArg (fun o=>cv o _) h).trans rfl
 exact⟨_,(show zcp _=_ from zaI (zdg (ds:=SD zs) rfl)).trans ((zaI (zdg (ds:=SD []) rfl)).trans ((zaI e).trans rfl))⟩
def zin{u t:List Nat}(h:(u.length<=8/\t.length<=8) \/ (u.length<=40/\t.length<=1)):ed u t<=40:=by
 rw[ed_ev];rcases h with ⟨h1,h2⟩ | ⟨h1,h2⟩
 ·have:=(ev_bd u t u.length t.length (au _) (au _)).2;lia
 ·match t,h2 with
  | [],_=>rw[bm,ev_i0];lia
  | [c],_=>
   cases hu:u.length with
   | zero=>rw[eP,ev_0];lia
   | succ i=>
    rw[eP,ev_ss u [c] i 0 (by lia) (by simp),ev_i0];have:(if u[i]'(by lia)=[c][0] then (0:Int) else 1)<=1:=by split <;> lia
    lia
def prW2(p:Int × Str):D:=.tup [.str p.2,.int p.1]
def zhF:∀ L:List (Int × Str),prsD (L.map prW2)=aa (L.map (·.2),L.map fun p=>D.int p.1)
 | []=>rfl
 | p :: L=>by
  show(prsD (L.map prW2)).map _=_;rw[zhF L];rfl
def zhg:∀ {L:List (Int × Str)} {p:Int × Str},(L.map (·.2)).Nodup->p ∈ L->lkD (L.map (·.2)) (L.map fun p=>D.int p.1) p.2=aa (.int p.1)
 | [],p,_,h=>by cases h
 | q :: L,p,nd,h=>by
  rw[aF,aF];rw[aF,aG] at nd;unfold lkD;by_cases e:q.2=p.2
  ·rw[if_pos e];rcases az.mp h with rfl | h
   ·rfl
   ·exact absurd (bH.mpr ⟨p,h,e.symm⟩) nd.1
  ·rw[if_neg e];exact zhg nd.2 ((az.mp h).resolve_left fun z=>e (by rw[z]))
def SS_nd{ys:List (List Nat)}(hy:ys.Nodup)(t:List Nat):((SS t ys).map (·.2)).Nodup:=by
 have p:((SS t ys).map (·.2)).Perm (ys.map mkS):=((zbm _).map _).trans (by rw[bY];exact .refl _)
 exact p.nodup_iff.mpr (i4 mkS (fun a b h e=>h (mkS_inj e)) hy)
def zh2{E:FE}{δ:En}{L:List (Int × Str)}(h:E δ=aa (.own (L.map prW2)))(nd:(L.map (·.2)).Nodup):eCB zil (zaa E zae) δ=aa (.val (.dic (L.map (·.2)) (L.map fun p=>.int p.1))):=by
 unfold eCB zaa zae;rw[h];show((prsD (L.map prW2)).bind fun p=>if p.1.Nodup then _ else _)=_;rw[zhF];exact if_pos nd
def orGt1{A E F:FE}{δ:En}{a b:Int}(hA:A δ=aa (.val (.bl false)))(hE:E δ=aa (.val (.int a)))(hF:F δ=aa (.val (.int b)))(h:¬ a > b):fOr (tOf A) (tOf (ex2 gGt E F)) δ=aa false:=by
 simp only[fOr,tOf,hA,jqa,bOf,ex2,hE,hF,gGt,pI0,iOf,jqc,h,jqz,jqr,jrb]
def dx_val{E F:FE}{δ:En}{ks:List Str}{ds:List D}{z:Str}{v:D}(hE:E δ=aa (.val (.dic ks ds)))(hF:F δ=aa (.val (.str z)))(h:lkD ks ds z=aa v):ex2 gDx E F δ=aa (.val v):=by
 unfold ex2;rw[hE,hF];show(lkD ks ds z).map _=_;rw[h];rfl
def ni_val{E F:FE}{δ:En}{ks:List Str}{ds:List D}{z:Str}{v:D}(hE:E δ=aa (.val (.str z)))(hF:F δ=aa (.val (.dic ks ds)))(h:lkD ks ds z=aa v):ex2 gNiD E F δ=aa (.val (.bl false)):=by
 unfold ex2;rw[hE,hF];show aa (Ent.val (.bl (!(lkD ks ds z).isSome)))=_;rw[h];rfl
def bt_comp(kC:Str->af)(C:FE)(hC:∀ (p:Int × Str),C [aa (.val (.int p.1)),aa (.val (.str p.2))]=aa (.val (prW2 p)))(L:List (Int × Str))(hl:L.length<=1000){fi:FI}{δ:En}(hi:fi δ=aa (L.map prD)):eL2 [] fi zc8 C δ=aa (.own (L.map prW2)):=by
 have hc:=ze0 (ft:=fun d=>(two d).bind fun q=>zc8 (cEn2 [] δ q.1 q.2)) (fe:=fun d=>(two d).bind fun q=>C (cEn2 [] δ q.1 q.2)) prD (fun _=>true) prW2 L (fun _ _=>rfl) (fun p _=>hC p);rw[fH.mpr (fun _ _=>rfl)] at hc;unfold eL2;rw[hi,aL,hc,aL,if_pos (by rw[al];lia)]
def ziX(kC:Str->af){X:D}{l:List D}(e1:X=.ins (kC "Book") ["top"] l)(t s:List Nat)(ht:t.length<=900)(hs:s.length<=900)(ys:List (List Nat))(hy:ys.Nodup)(hyl:ys.length<=60)
  (rt:zaf kC [X,.str (mkS t),.int 40]=aa (.val (.tup ((SS t ys).map prD)))) (rs:zaf kC [X,.str (mkS s),.int 40]=aa (.val (.tup ((SS s ys).map prD)))):zbn kC [X,.str (mkS t),.str (mkS s)]=aa (.val (.bl true)):=by
 have lt:=zgl t ys;have ls:=zgl s ys;have lp:=zgu t s ht hs;have m1:iT (ze8 (kC "Book") ["top"] [.v,.v] (zaf kC) (zab 0) (zaa (zab 1) (zaa (eC (.int 40)) zae))) [aa (.val X),aa (.val (.str (mkS t))),aa (.val (.str (mkS s))),ab,ab,ab]=aa ((SS t ys).map prD):=by
  unfold iT;subst e1;rw[(mvaI (l:=l) (ds:=[.str (mkS t),.int 40]) rfl rfl).trans rt];rfl
 have m2:iT (ze8 (kC "Book") ["top"] [.v,.v] (zaf kC) (zab 0) (zaa (zab 2) (zaa (eC (.int 40)) zae))) [aa (.val X),aa (.val (.str (mkS t))),aa (.val (.str (mkS s))),aa (.val (.dic ((SS t ys).map (·.2)) ((SS t ys).map fun p=>.int p.1))),ab,ab]=aa ((SS s ys).map prD):=by
  unfold iT;subst e1;rw[(mvaI (l:=l) (ds:=[.str (mkS s),.int 40]) rfl rfl).trans rs];rfl
 have d1:=zh2 (bt_comp kC (zcX kC) (fun _=>rfl) (SS t ys) (by lia) m1) (SS_nd hy t);have d2:=zh2 (bt_comp kC (zcU kC) (fun _=>rfl) (SS s ys) (by lia) m2) (SS_nd hy s);have turn:∀ (u:List Nat),u ∈ ys->zbD kC [aa (.val X),aa (.val (.str (mkS t))),aa (.val (.str (mkS s))),aa (.val (.dic ((SS t ys).map (·.2)) ((SS t ys).map fun p=>.int p.1))),aa (.val (.dic ((SS s ys).map (·.2)) ((SS s ys).map fun p=>.int p.1))),aa (.val (.str (mkS u)))]=aa (.nx [aa (.val X),aa (.val (.str (mkS t))),aa (.val (.str (mkS s))),aa (.val (.dic ((SS t ys).map (·.2)) ((SS t ys).map fun p=>.int p.1))),aa (.val (.dic ((SS s ys).map (·.2)) ((SS s ys).map fun p=>.int p.1))),aa (.val (.str (mkS u)))]):=fun u hu=>by
  have k1:lkD ((SS t ys).map (·.2)) ((SS t ys).map fun p=>D.int p.1) (mkS u)=aa (.int (ed u t)):=zhg (p:=prE t u) (SS_nd hy t) ((zbm _).mem_iff.mpr (bH.mpr ⟨u,hu,rfl⟩));have k2:lkD ((SS s ys).map (·.2)) ((SS s ys).map fun p=>D.int p.1) (mkS u)=aa (.int (ed u s)):=zhg (p:=prE s u) (SS_nd hy s) ((zbm _).mem_iff.mpr (bH.mpr ⟨u,hu,rfl⟩));have tri:=ed_tri u s t;have sw:=zhl t s;generalize (SS t ys).map (·.2)=K1 at *;generalize (SS s ys).map (·.2)=K2 at *;generalize (SS t ys).map (fun p=>D.int p.1)=D1 at *;generalize (SS s ys).map (fun p=>D.int p.1)=D2 at *;refine(show zbD kC _=_ from zhN (orGt1 (ni_val (E:=zab 5) (F:=zab 4) rfl rfl k2) (dx_val (E:=zab 3) (F:=zab 5) rfl rfl k1) (addI ((zfa (X:=zab 1) (Y:=zab 2) rfl rfl).trans lp) (dx_val (E:=zab 4) (F:=zab 5) rfl rfl k2)) (by lia))).trans rfl
 have lp2:∀ (L:List (Int × Str)) (x5:Option Ent),(∀ p ∈ L,p ∈ SS t ys)->∃ y5,loop (gNm 5) (zbD kC) ((L.map (·.2)).map D.str) [aa (.val X),aa (.val (.str (mkS t))),aa (.val (.str (mkS s))),aa (.val (.dic ((SS t ys).map (·.2)) ((SS t ys).map fun p=>.int p.1))),aa (.val (.dic ((SS s ys).map (·.2)) ((SS s ys).map fun p=>.int p.1))),x5]=aa (.nx [aa (.val X),aa (.val (.str (mkS t))),aa (.val (.str (mkS s))),aa (.val (.dic ((SS t ys).map (·.2)) ((SS t ys).map fun p=>.int p.1))),aa (.val (.dic ((SS s ys).map (·.2)) ((SS s ys).map fun p=>.int p.1))),y5]):=by
  intro L
  induction L with
  | nil=>intro x5 _;exact⟨x5,rfl⟩
  | cons p L ih=>
   intro x5 h;obtain⟨u,hu,rfl⟩:=bH.mp ((zbm _).mem_iff.mp (h p am));obtain⟨y5,e⟩:=ih (aa (.val (.str (mkS u)))) fun q hq=>h q (aj _ hq);exact⟨y5,(zcW rfl (turn u hu)).trans e⟩
 obtain⟨y5,lo⟩:=lp2 (SS t ys) ab fun _ h=>h
 suffices hF:∃ δ,zcc kC [aa (.val X),aa (.val (.str (mkS t))),aa (.val (.str (mkS s))),ab,ab,ab]=aa (.rt (.val (.bl true)) δ) from
  hF.elim fun _ h=>(congrArg (fun o=>cv o _) h).trans rfl
 refine⟨_,(show zcc kC _=_ from zdE d1).trans ((zdE d2).trans ((forN (ds:=((SS t ys).map (·.2)).map D.str) rfl lo).trans (zen ?_)))⟩;have q:=eqII (E:=eCB zi0 (zaa (zab 3) zae)) (F:=eCB zi0 (zaa (zab 4) zae)) (δ:=[aa (.val X),aa (.val (.str (mkS t))),aa (.val (.str (mkS s))),aa (.val (.dic ((SS t ys).map (·.2)) ((SS t ys).map fun p=>.int p.1))),aa (.val (.dic ((SS s ys).map (·.2)) ((SS s ys).map fun p=>.int p.1))),y5]) (a:=(((SS t ys).map (·.2)).length:Int)) (b:=(((SS s ys).map (·.2)).length:Int)) rfl rfl;rw[al,al,lt,ls,decide_eq_true rfl] at q;exact q
def mkBook(δ:En):zd6 "Book" zar zae δ=aa (.obj (bkO (.val .non))):=by
 have:zar (.ins "Book" [] []) []=aa (.non,bkO (.val .non)):=by
  simp only[zar,zjb,zcB,bm,reduceIte,bK,iH,aY,cj,ziY,eC,oAt,toO,aL,cM,zdz,fV,endM,bS,bkO]
 show((zar (.ins "Book" [] []) []).bind _)=_;rw[this];rfl
def frzA{i:Nat}{g:FS}{δ:En}{f:Bool}{ds:List D}(h:δ[i]? = aa (aa (zaR f ds)))(h2:δ.set i (aa (zaR f ds))=δ):zg6 i g δ=g (δ.set i (aa (.val (.lst ds)))):=by
 cases f with
 | true=>unfold zg6;rw[h];rfl
 | false=>
  rw[show δ.set i (aa (.val (.lst ds)))=δ from h2];unfold zg6;rw[h];rfl
def put_x{zs:List (List Nat)}{top:OT}(h:Bk zs top)(hz:zs.length<=60)(hl:∀ u ∈ zs,u.length<=900)(w:List Nat)(hw:w.length<=900)(i:Nat){δ:En}(ho:δ[i]? = aa (aa (.obj (bkO top))))(h8:δ[8]? = aa (aa (.val (.str (mkS w))))) :
  ∃ top',Bk (zs ++ [w]) top'/\fX (xM i "Book" ["top"] zaZ (zaa (zab 8) zae)) δ=aa (.nx (δ.set i (aa (.obj (bkO top'))))):=by
 obtain⟨b,top',p1,p2⟩:=put_bk h hz hl w hw;refine⟨top',p2,?_⟩;have ic:isC "Book" ["top"] (bkO top)=aa [top]:=zdz;have ov:oAt i δ=aa (bkO top):=by unfold oAt;rw[ho]
 have av:(zaa (zab 8) zae) δ=aa [.val (.str (mkS w))]:=by unfold zaa zae zab;rw[h8];rfl
 have hx:xM i "Book" ["top"] zaZ (zaa (zab 8) zae) δ=aa (.bl b,δ.set i (aa (.obj (bkO top')))):=by
  unfold xM;rw[ov];simp only[aL];rw[ic];simp only[aL];rw[av];show((zaZ (bkO top) [.str (mkS w)]).map _)=_;rw[p1];rfl
 unfold fX;rw[hx];rfl
def ld_val{g:GKC}{fl:FL}{δ:En}{rs:List (D ⊕ OT)}{d:D}(h:fl δ=aa rs)(hp:plD d=true)(hg:∀ kC,∃ ds,toDL kC rs=aa ds/\g kC ds=aa (.val d)):eLd g fl δ=aa (.val d):=by
 unfold eLd;rw[h];exact ldV_eq ⟨hp,hg⟩
def zh0{zs:List (List Nat)}{top:OT}(hb:Bk zs top){d:D}(hp:plD d=true)(ht:∀ kC,zap kC [bkV kC top]=aa (.val d))(i:Nat){δ:En}(ho:δ[i]? = aa (aa (.obj (bkO top)))):eLdM i "Book" ["top"] zap zfy δ=aa (.val d):=by
 have ic:isC "Book" ["top"] (bkO top)=aa [top]:=zdz;have ov:oAt i δ=aa (bkO top):=by unfold oAt;rw[ho]
 unfold eLdM;rw[ov];simp only[aL];rw[ic];show ldV zap [.inr (bkO top)]=_;refine ldV_eq ⟨hp,fun kC=>⟨[bkV kC top],?_,ht kC⟩⟩;show((toD kC (bkO top)).bind _)=_;rw[zgZ kC hb];rfl
abbrev zcT(nn dk:List D)(T:Int)(e2 e4 b5 b6 a7 w8 o9:Option Ent):En:=[aa (.bor nn),aa (.obj (.lst dk)),e2,aa (.val (.int T)),e4,b5,b6,a7,w8,o9]
section
variable (nn dk:List D)(T:Int)
def zgj(e2 e4 b6 a7 o9:Option Ent):∀ (rest done:List (List Nat)) (top:OT) (x8:Option Ent),Bk done top->done.length+rest.length<=60->(∀ u ∈ done ++ rest,u.length<=900)->∃ top' y8,Bk (done ++ rest) top' /\
  loop (gNm 8) zhI (SD rest) (zcT nn dk T e2 e4 (aa (.obj (bkO top))) b6 a7 x8 o9)=aa (.nx (zcT nn dk T e2 e4 (aa (.obj (bkO top'))) b6 a7 y8 o9))
 | [],done,top,x8,h,_,_=>⟨top,x8,by rw[aY];exact h,rfl⟩
 | w :: rest,done,top,x8,h,hl,hw=>by
  rw[aw] at hl;obtain⟨t1,b1,e1⟩:=put_x h (by lia) (fun u hu=>hw u (bg _ hu)) w (hw w (by simp)) 5 (δ:=zcT nn dk T e2 e4 (aa (.obj (bkO top))) b6 a7 (aa (.val (.str (mkS w)))) o9) rfl rfl;obtain⟨t2,y8,b2,e2'⟩:=zgj e2 e4 b6 a7 o9 rest (done ++ [w]) t1 (aa (.val (.str (mkS w)))) b1 (by rw[aC];simp only[aw,bm];lia) (by simpa using hw);exact⟨t2,y8,by simpa using b2,(zcW (δ2:=zcT nn dk T e2 e4 (aa (.obj (bkO t1))) b6 a7 (aa (.val (.str (mkS w)))) o9) rfl e1).trans e2'⟩
def ixR{f:Bool}{as:List (List Nat)}{e2 b5 b6 a7 w8 o9:Option Ent}{F:FE}{k:Int}{v:D}(h2:F (zcT nn dk T e2 (aa (zaR f (SD as))) b5 b6 a7 w8 o9)=aa (.val (.int k)))(h:atI (SD as) k=aa v):ex2 zca (zab 4) F (zcT nn dk T e2 (aa (zaR f (SD as))) b5 b6 a7 w8 o9)=aa (.val v):=by
 cases f with
 | true=>exact ixLW (E:=zab 4) (ds:=SD as) rfl h2 h
 | false=>exact ixLV (E:=zab 4) (ds:=SD as) rfl h2 h
def lenR{f:Bool}{as:List (List Nat)}{e2 b5 b6 a7 w8 o9:Option Ent}:eCB zbJ (zaa (zab 4) zae) (zcT nn dk T e2 (aa (zaR f (SD as))) b5 b6 a7 w8 o9)=aa (.val (.int (as.length:Int))):=by
 have:(SD as).length=as.length:=by unfold SD;rw[al]
 rw[<- this];cases f <;> rfl
def ziE(as:List (List Nat)):(SD as).length=as.length:=by unfold SD;rw[al]
def SD_snoc(l:List (List Nat))(w:List Nat):SD (l ++ [w])=SD l ++ [.str (mkS w)]:=by unfold SD;rw[bz];rfl
def zi9(f:Bool)(as:List (List Nat))(e2 b5 o9:Option Ent)(done:List (List Nat))(w:List Nat)(top:OT)(hb:Bk done top)(hd:done.length<=20)(hl:∀ u ∈ done ++ [w],u.length<=900)(ha:0<as.length)(hla:∀ u ∈ as,u.length<=900):∃ top',Bk (done ++ [w]) top' /\
  zeH (zcT nn dk T e2 (aa (zaR f (SD as))) b5 (aa (.obj (bkO top))) (aa (.own (SD done))) (aa (.val (.str (mkS w)))) o9)=aa (.nx (zcT nn dk T e2 (aa (zaR f (SD as))) b5 (aa (.obj (bkO top'))) (aa (.own (SD (done ++ [w])))) (aa (.val (.str (mkS w)))) o9)):=by
 have s1:zhb 7 (zab 8) (zcT nn dk T e2 (aa (zaR f (SD as))) b5 (aa (.obj (bkO top))) (aa (.own (SD done))) (aa (.val (.str (mkS w)))) o9)=aa (.nx (zcT nn dk T e2 (aa (zaR f (SD as))) b5 (aa (.obj (bkO top))) (aa (.own (SD (done ++ [w])))) (aa (.val (.str (mkS w)))) o9)):=by
  rw[SD_snoc];exact ziK (i:=7) (ds:=SD done) rfl rfl (by rw[ziE];lia)
 obtain⟨t1,b1,p1⟩:=put_x hb (by lia) (fun u hu=>hl u (bg _ hu)) w (hl w (by simp)) 6 (δ:=zcT nn dk T e2 (aa (zaR f (SD as))) b5 (aa (.obj (bkO top))) (aa (.own (SD (done ++ [w])))) (aa (.val (.str (mkS w)))) o9) rfl rfl;refine⟨t1,b1,?_⟩;have dl:(done ++ [w]).length<=21:=by rw[aC];simp only[aw,bm];lia
 obtain⟨ys,q1,q2,q3,hyl⟩:=zga (done ++ [w]) (by lia);have ypos:0<ys.length:=List.length_pos_of_mem ((q3 w).mpr (by simp));have m0:0<=(((done ++ [w]).length:Nat):Int) % (as.length:Int):=fw _ (by lia);have m1:(((done ++ [w]).length:Nat):Int) % (as.length:Int)<as.length:=ef _ (by lia);obtain⟨t,t1',_,a2⟩:=SD_at as (k:=(((done ++ [w]).length:Nat):Int) % (as.length:Int)) m0 (by lia);have ht:=hla t t1';have lu:∀ u ∈ ys,u.length<=900:=fun u hu=>hl u ((q3 u).mp hu);have due:=due_ok (done ++ [w]) ys q1 hyl lu t ht;have fv:(zjc 6 (lBor (zab 7) (zjf (ex2 zca (zab 4) (ex2 zcl (eCB zbJ (zaa (zab 7) zae)) (eCB zbJ (zaa (zab 4) zae)))) zfy))) (zcT nn dk T e2 (aa (zaR f (SD as))) b5 (aa (.obj (bkO t1))) (aa (.own (SD (done ++ [w])))) (aa (.val (.str (mkS w)))) o9)=aa [.inr (bkO t1),.inl (.lst (SD (done ++ [w]))),.inl (.str (mkS t))]:=by
  have ix:=ixR nn dk T (f:=f) (as:=as) (e2:=e2) (b5:=b5) (b6:=aa (.obj (bkO t1))) (a7:=aa (.own (SD (done ++ [w])))) (w8:=aa (.val (.str (mkS w)))) (o9:=o9) (F:=ex2 zcl (eCB zbJ (zaa (zab 7) zae)) (eCB zbJ (zaa (zab 4) zae))) (modI (a:=(((done ++ [w]).length:Nat):Int)) (by rw[<- ziE];rfl) (lenR nn dk T) (by lia)) a2;unfold zjc lBor zjf zfy;rw[ix];rfl
 have gv:eLd zbW (zjc 6 (lBor (zab 7) (zjf (ex2 zca (zab 4) (ex2 zcl (eCB zbJ (zaa (zab 7) zae)) (eCB zbJ (zaa (zab 4) zae)))) zfy))) (zcT nn dk T e2 (aa (zaR f (SD as))) b5 (aa (.obj (bkO t1))) (aa (.own (SD (done ++ [w])))) (aa (.val (.str (mkS w)))) o9)=aa (.val (.bl true)):=by
  refine ld_val fv (by simp only[plD]) fun kC=>⟨[bkV kC t1,.lst (SD (done ++ [w])),.str (mkS t)],?_,?_⟩
  ·show((toD kC (bkO t1)).bind _)=_;rw[zgZ kC b1];rfl
  ·exact grows_ok kC (l:=[dK kC t1]) rfl (SD (done ++ [w])) t ys hyl ypos due (zel b1 (by lia) hl q2 q3 t ht kC) fun q=>zfz b1 (by lia) hl q2 q3 t ht kC q
 exact(show zeH _=_ from zaI s1).trans ((zaI p1).trans ((zhN (notI (b:=true) gv)).trans rfl))
def zfj(f:Bool)(as:List (List Nat))(e2 b5 o9:Option Ent)(ha:0<as.length)(hla:∀ u ∈ as,u.length<=900):∀ (rest done:List (List Nat)) (top:OT) (x8:Option Ent),Bk done top->done.length+rest.length<=20->(∀ u ∈ done ++ rest,u.length<=900)->∃ top' y8,Bk (done ++ rest) top' /\
  loop (gNm 8) zeH (SD rest) (zcT nn dk T e2 (aa (zaR f (SD as))) b5 (aa (.obj (bkO top))) (aa (.own (SD done))) x8 o9)=aa (.nx (zcT nn dk T e2 (aa (zaR f (SD as))) b5 (aa (.obj (bkO top'))) (aa (.own (SD (done ++ rest)))) y8 o9))
 | [],done,top,x8,h,_,_=>⟨top,x8,by rw[aY];exact h,by rw[aY];rfl⟩
 | w :: rest,done,top,x8,h,hl,hw=>by
  rw[aw] at hl;obtain⟨t1,b1,e1⟩:=zi9 nn dk T f as e2 b5 o9 done w top h (by lia) (fun u hu=>hw u (by simp only[bj,az,bW,or_false] at hu ⊢;rcases hu with z | z;exact .inl z;exact .inr (.inl z))) ha hla;obtain⟨t2,y8,b2,e2'⟩:=zfj f as e2 b5 o9 ha hla rest (done ++ [w]) t1 (aa (.val (.str (mkS w)))) b1 (by rw[aC];simp only[aw,bm];lia) (by simpa using hw);refine⟨t2,y8,by simpa using b2,(zcW rfl e1).trans ?_⟩;rw[bF,di] at e2';exact e2'
def zfr(Z vs:List (List Nat))(t1 t2:OT)(b1:Bk Z t1)(b2:Bk vs t2)(pm:vs.Perm Z)(hZ:Z.length<=20)(hl:∀ u ∈ Z,u.length<=900)(e4 a7 w8:Option Ent):∀ (rest:List (List Nat)) (x9:Option Ent),(∀ u ∈ rest,u.length<=900)->∃ y9,
  loop (gNm 9) zf8 (SD rest) (zcT nn dk T (aa (.val (.lst (SD Z)))) e4 (aa (.obj (bkO t1))) (aa (.obj (bkO t2))) a7 w8 x9)=aa (.nx (zcT nn dk T (aa (.val (.lst (SD Z)))) e4 (aa (.obj (bkO t1))) (aa (.obj (bkO t2))) a7 w8 y9))
 | [],x9,_=>⟨x9,rfl⟩
 | t :: rest,x9,h=>by
  obtain⟨y9,e⟩:=zfr Z vs t1 t2 b1 b2 pm hZ hl e4 a7 w8 rest (aa (.val (.str (mkS t)))) fun u hu=>h u (aj _ hu);have ht:=h t am;obtain⟨ys,q1,q2,q3,hyl⟩:=zga Z (by lia);have lu:∀ u ∈ ys,u.length<=900:=fun u hu=>hl u ((q3 u).mp hu);have due:=due_ok Z ys q1 hyl lu t ht;have hl2:∀ u ∈ vs,u.length<=900:=fun u hu=>hl u (pm.mem_iff.mp hu);have q4:∀ u,u ∈ ys ↔ u ∈ vs:=fun u=>(q3 u).trans pm.mem_iff.symm;have hvl:=pm.length_eq;have gv:eLd zbV (zjc 5 (zjc 6 (lBor (zab 2) (zjf (zab 9) zfy)))) (zcT nn dk T (aa (.val (.lst (SD Z)))) e4 (aa (.obj (bkO t1))) (aa (.obj (bkO t2))) a7 w8 (aa (.val (.str (mkS t)))))=aa (.val (.bl true)):=by
   refine ld_val (rs:=[.inr (bkO t1),.inr (bkO t2),.inl (.lst (SD Z)),.inl (.str (mkS t))]) rfl (by simp only[plD]) fun kC=>⟨[bkV kC t1,bkV kC t2,.lst (SD Z),.str (mkS t)],?_,?_⟩
   ·show((toD kC (bkO t1)).bind fun d=>((toD kC (bkO t2)).bind fun d=>_).map _)=_;rw[zgZ kC b1,zgZ kC b2];rfl
   ·exact right_ok kC (l1:=[dK kC t1]) (l2:=[dK kC t2]) rfl rfl (SD Z) t ys hyl due (zel b1 (by lia) hl q2 q3 t ht kC) (zel b2 (by lia) hl2 q2 q4 t ht kC) (fun q=>zfz b1 (by lia) hl q2 q3 t ht kC q) fun q=>zfz b2 (by lia) hl2 q2 q4 t ht kC q
  exact⟨y9,(zcW rfl ((show zf8 _=_ from zhN (notI (b:=true) gv)).trans rfl)).trans e⟩
def tail53(f:Bool)(Z as:List (List Nat))(hZ:Z.length<=11)(hl:∀ u ∈ Z,u.length<=900)(ha:2<=as.length)(hla:∀ u ∈ as,u.length<=900)
  (hs:∀ u ∈ Z,∀ t ∈ as.take 2,ed u t<=40) :
  (zdF (zcT nn dk T (aa (zaR f (SD Z))) (aa (zaR f (SD as))) ab ab ab ab ab)).bind zf4=aa (.val (.bl true)):=by
 have b0:Bk [] (.val .non):=.inl ⟨rfl,rfl⟩;obtain⟨vs,pm,tv⟩:=turned_ok Z hZ T;have hvl:=pm.length_eq;have hl2:∀ u ∈ vs,u.length<=900:=fun u hu=>hl u (pm.mem_iff.mp hu);obtain⟨t1,y8,b1,l1⟩:=zgj nn dk T (aa (.val (.lst (SD Z)))) (aa (zaR f (SD as))) (aa (.obj (bkO (.val .non)))) (aa (.own (SD []))) ab Z [] (.val .non) ab b0 (by simp;lia) (by simpa using hl);obtain⟨t2,z8,b2,l2⟩:=zfj nn dk T f as (aa (.val (.lst (SD Z)))) (aa (.obj (bkO t1))) ab (by lia) hla vs [] (.val .non) y8 b0 (by simp;lia) (by simpa using hl2);rw[cj] at b1 b2 l2;obtain⟨d1,p1,q1,g1⟩:=tree_bk b1 (by lia);obtain⟨d2,p2,q2,g2⟩:=tree_bk b2 (by lia);obtain⟨y9,l3⟩:=zfr nn dk T Z vs t1 t2 b1 b2 pm (by lia) hl (aa (.val (.lst (SD as)))) (aa (.own [d1,d2])) z8 as ab hla;have trs:∀ (e4 a7 w8 o9:Option Ent),zcN (zaa (eLdM 5 "Book" ["top"] zap zfy) (zaa (eLdM 6 "Book" ["top"] zap zfy) zae)) (zcT nn dk T (aa (.val (.lst (SD Z)))) e4 (aa (.obj (bkO t1))) (aa (.obj (bkO t2))) a7 w8 o9)=aa (.own [d1,d2]):=fun e4 a7 w8 o9=>by
  unfold zcN zaa zae;rw[zh0 b1 p1 g1 5 (δ:=zcT nn dk T (aa (.val (.lst (SD Z)))) e4 (aa (.obj (bkO t1))) (aa (.obj (bkO t2))) a7 w8 o9) rfl,zh0 b2 p2 g2 6 (δ:=zcT nn dk T (aa (.val (.lst (SD Z)))) e4 (aa (.obj (bkO t1))) (aa (.obj (bkO t2))) a7 w8 o9) rfl];rfl
 obtain⟨ys,w1,w2,w3,hyl⟩:=zga Z (by lia)
 match as,ha with
 | a0 :: a1 :: ar,_=>
  have h0:=hla a0 (by simp);have h1:=hla a1 (by simp);have near40:∀ (t:List Nat),t ∈ [a0,a1]->t.length<=900->∀ kC,zaf kC [bkV kC t1,.str (mkS t),.int 40]=aa (.val (.tup ((SS t ys).map prD))):=fun t ht hl' kC=>by
   have:=zfz b1 (by lia) hl w2 w3 t hl' kC 40;rwa [near_all fun u hu=>hs u ((w3 u).mp hu) t ht] at this
  have bv:∀ x9:Option Ent,eLd zbn (zjc 5 (zjf (ex2 zca (zab 4) (eC (.int 0))) (zjf (ex2 zca (zab 4) (eC (.int 1))) zfy))) (zcT nn dk T (aa (.val (.lst (SD Z)))) (aa (.val (.lst (SD (a0 :: a1 :: ar))))) (aa (.obj (bkO t1))) (aa (.obj (bkO t2))) (aa (.own [d1,d2])) z8 x9)=aa (.val (.bl true)):=fun x9=>by
   refine ld_val (rs:=[.inr (bkO t1),.inl (.str (mkS a0)),.inl (.str (mkS a1))]) ?_ (by simp only[plD]) fun kC=>⟨[bkV kC t1,.str (mkS a0),.str (mkS a1)],?_,?_⟩
   ·have i0:=ixLV (E:=zab 4) (F:=eC (.int 0)) (δ:=zcT nn dk T (aa (.val (.lst (SD Z)))) (aa (.val (.lst (SD (a0 :: a1 :: ar))))) (aa (.obj (bkO t1))) (aa (.obj (bkO t2))) (aa (.own [d1,d2])) z8 x9) (ds:=SD (a0 :: a1 :: ar)) (v:=.str (mkS a0)) rfl rfl (zcm (by decide) rfl);have i1:=ixLV (E:=zab 4) (F:=eC (.int 1)) (δ:=zcT nn dk T (aa (.val (.lst (SD Z)))) (aa (.val (.lst (SD (a0 :: a1 :: ar))))) (aa (.obj (bkO t1))) (aa (.obj (bkO t2))) (aa (.own [d1,d2])) z8 x9) (ds:=SD (a0 :: a1 :: ar)) (v:=.str (mkS a1)) rfl rfl (zcm (by decide) rfl);unfold zjc zjf zfy;rw[i0,i1];rfl
   ·show((toD kC (bkO t1)).bind _)=_;rw[zgZ kC b1];rfl
   ·exact ziX kC (l:=[dK kC t1]) rfl a0 a1 h0 h1 ys w2 hyl (near40 a0 (by simp) h0 kC) (near40 a1 (by simp) h1 kC)
  suffices hF:∃ δ,zdF (zcT nn dk T (aa (zaR f (SD Z))) (aa (zaR f (SD (a0 :: a1 :: ar)))) ab ab ab ab ab)=aa (.rt (.val (.bl true)) δ) from
   hF.elim fun _ h=>(congrArg (fun o=>cv o _) h).trans rfl
  have s5:zhp 5 (zd6 "Book" zar zae) (zcT nn dk T (aa (zaR f (SD Z))) (aa (zaR f (SD (a0 :: a1 :: ar)))) ab ab ab ab ab)=aa (.nx (zcT nn dk T (aa (zaR f (SD Z))) (aa (zaR f (SD (a0 :: a1 :: ar)))) (aa (.obj (bkO (.val .non)))) ab ab ab ab)):=by
   unfold zhp;rw[mkBook];rfl
  have s6:zhp 6 (zd6 "Book" zar zae) (zcT nn dk T (aa (zaR f (SD Z))) (aa (zaR f (SD (a0 :: a1 :: ar)))) (aa (.obj (bkO (.val .non)))) ab ab ab ab)=aa (.nx (zcT nn dk T (aa (zaR f (SD Z))) (aa (zaR f (SD (a0 :: a1 :: ar)))) (aa (.obj (bkO (.val .non)))) (aa (.obj (bkO (.val .non)))) ab ab ab)):=by
   unfold zhp;rw[mkBook];rfl
  refine⟨_,(show zdF _=_ from zaI s5).trans ((show ziA _=_ from zaI s6).trans ((show ziD _=_ from zaI (zdg (ds:=SD []) rfl)).trans ((show zif _=_ from frzA (f:=f) (ds:=SD Z) rfl rfl).trans ((forN (ds:=SD Z) rfl l1).trans ((show zhH _=_ from forN (ds:=SD vs) ?_ l2).trans ((show zgs _=_ from zaI (zdg (trs _ _ _ _))).trans ((show zgT _=_ from frzA (f:=f) (ds:=SD (a0 :: a1 :: ar)) rfl rfl).trans ((forN (ds:=SD (a0 :: a1 :: ar)) rfl l3).trans (zen (eAndI (a:=true) (b:=true) (bv y9) (eqLL (a:=[d1,d2]) (b:=[d1,d2]) ?_ rfl ?_)))))))))))⟩
  ·unfold iL;rw[show zaM [.b,.v] zb1 (zaa (zab 2) (zaa (zab 3) zae)) (zcT nn dk T (aa (.val (.lst (SD Z)))) (aa (zaR f (SD (a0 :: a1 :: ar)))) (aa (.obj (bkO t1))) (aa (.obj (bkO (.val .non)))) (aa (.own (SD []))) y8 ab)=aa (.own (SD vs)) from tv];rfl
  ·rw[trs];rfl
  ·refine zdZ fun d hd=>?_;simp only[az,bW,or_false] at hd;rcases hd with rfl | rfl
   ·exact q1
   ·exact q2
end
def mul_ok(w:List Nat)(n:Int)(h1:1<=n)(h2:n<=1000)(hw:w.length<=100):MulOk (mkS w) n:=by
 refine⟨?_,fun _ _=>?_,fun _ _=>?_⟩
 ·simp;lia
 ·rw[zb9];have:(100:Int)<=(2 ^ 63 - 1) / n:=by
   rw[Int.le_ediv_iff_mul_le (by lia)];lia
  lia
 ·rw[zb9];have:w.length * n.toNat<=100 * 1000:=Nat.mul_le_mul hw (by lia);unfold jV;rw[bC];exact decide_eq_false (by lia)
def far_word(w:List Nat)(hw:w.length<=8):∃ v:List Nat,v.length<=40/\zdI [aa (.val (.str (mkS w)))]=aa (.val (.str (mkS v))):=by
 have hm:=mul_ok w 9 (by decide) (by decide) (by lia);have hl:(fM (mkS w) 9).length<=1000000:=by
  have:=kM (mkS w) 9;rw[zb9,if_neg (by decide)] at this;lia
 have g:ex2 zi5 (zab 0) (eC (.int 9)) [aa (.val (.str (mkS w)))]=aa (.val (.str (fM (mkS w) 9))):=by
  show zi5 (.val (.str (mkS w))) (.val (.int 9))=_;unfold zi5;simp only[sOf,iOf,aL,zhE hm]
 refine⟨(fM (mkS w) 9).cps.toList.take 40,by rw[cz];lia,?_⟩;have c:zfw (fM (mkS w) 9).cps.toList ab (aa 40)=(fM (mkS w) 9).cps.toList.take 40:=zdB _ (by decide);rw[<- c];unfold zdI;generalize ex2 zi5 (zab 0) (eC (.int 9))=X at *;generalize fM (mkS w) 9=z at *;simp only[eSl,g,oNo,oSo,eC,jqa,iOf,jqc,gSlS,sOf,hl,zbr,zah]
def zix(δ:En):∀ ws:List (List Nat),(∀ w ∈ ws,w.length<=8)->∃ vs:List (List Nat),vs.length=ws.length/\(∀ v ∈ vs,v.length<=40)/\zcO (fun d=>zc8 (cEn [] δ d)) (fun d=>zdI (cEn [] δ d)) (SD ws)=aa (SD vs)
 | [],_=>⟨[],rfl,(fun _ h=>by cases h),rfl⟩
 | w :: ws,h=>by
  obtain⟨v,h1,h2⟩:=far_word w (h w am);obtain⟨vs,l1,l2,l3⟩:=zix δ ws fun u hu=>h u (aj _ hu);refine⟨v :: vs,congrArg (· + 1) l1,fun u hu=>(az.mp hu).elim (fun e=>by rw[e];exact h1) (l2 u),?_⟩;show zcO _ _ (.str (mkS w) :: SD ws)=_;simp only[zcO];rw[l3,show zdI (cEn [] δ (.str (mkS w)))=aa (.val (.str (mkS v))) from h2];rfl
def main(ns:List Int)(hn:ns.length<=63):g_law [.lst (ns.map .int)]=aa (.val (.bl true)):=by
 obtain⟨dk,hd,s1⟩:=deck_ok (ns.take 63) (by rw[cz];lia);have hcut:zfw (ns.map D.int) ab (aa 63)=(ns.take 63).map D.int:=by rw[zdB _ (by decide),gb];rfl
 have e1:ziy 1 (zaM [.b,.v] zcb (zaa (eSl zh1 (zab 0) oNo (oSo (eC (.int 63)))) (zaa (eC (.int 40)) zae))) [aa (.bor (ns.map .int)),ab,ab,ab,ab,ab,ab,ab,ab,ab]=aa (.nx [aa (.bor (ns.map .int)),aa (.obj (.lst (dk.map .int))),ab,ab,ab,ab,ab,ab,ab,ab]):=by
  have q:zaM [.b,.v] zcb (zaa (eSl zh1 (zab 0) oNo (oSo (eC (.int 63)))) (zaa (eC (.int 40)) zae)) [aa (.bor (ns.map .int)),ab,ab,ab,ab,ab,ab,ab,ab,ab]=aa (.own (dk.map .int)):=by
   simp only[zaM,zaa,eSl,zab,jqe,oNo,oSo,eC,jqa,iOf,jqc,zh1,asL,hcut,zae,zbF,ze9,asV,s1]
  unfold ziy;rw[q];rfl
 obtain⟨zs,d2,hz,hl,h2,s2⟩:=words_eq dk hd;have e2:zf1 2 (xCO 1 zbv (zdP (xP (eC (.int 10))) xNil)) [aa (.bor (ns.map .int)),aa (.obj (.lst (dk.map .int))),ab,ab,ab,ab,ab,ab,ab,ab]=aa (.nx [aa (.bor (ns.map .int)),aa (.obj (.lst (d2.map .int))),aa (.val (.lst (SD zs))),ab,ab,ab,ab,ab,ab,ab]):=
  (zfx (xCO_i (i:=1) (g:=zbv) (fs:=zdP (xP (eC (.int 10))) xNil) (δ:=[aa (.bor (ns.map .int)),aa (.obj (.lst (dk.map .int))),ab,ab,ab,ab,ab,ab,ab,ab]) (δ1:=[aa (.bor (ns.map .int)),aa (.obj (.lst (dk.map .int))),ab,ab,ab,ab,ab,ab,ab,ab]) (o0:=.lst (dk.map .int)) rfl rfl rfl s2)).trans rfl
 obtain⟨T,hp⟩:=pop_i d2 (by lia) 1 (δ:=[aa (.bor (ns.map .int)),aa (.obj (.lst (d2.map .int))),aa (.val (.lst (SD zs))),ab,ab,ab,ab,ab,ab,ab]) rfl;obtain⟨a8,d3,q1,q2,q3,q4⟩:=lcX_ok (fr:=[1,3]) (i:=1) (j:=0) (fx:=zc0) [aa (.bor (ns.map .int)),ab,aa (.val (.lst (SD zs))),aa (.val (.int T)),ab,ab,ab,ab,ab,ab] (Nat.succ_lt_succ (gM _)) (fun dk d h=>law_el T dk d h) ((ax 8).map fun(i:Nat)=>D.int (0+(i:Int))) d2.dropLast (by rw[al,bZ,db];lia);have q5:lcX [1,3] 1 0 zc0 ((ax 8).map fun(i:Nat)=>D.int (0+(i:Int))) [aa (.bor (ns.map .int)),aa (.obj (.lst (d2.dropLast.map .int))),aa (.val (.lst (SD zs))),aa (.val (.int T)),ab,ab,ab,ab,ab,ab]=aa (SD a8,[aa (.bor (ns.map .int)),aa (.obj (.lst (d3.map .int))),aa (.val (.lst (SD zs))),aa (.val (.int T)),ab,ab,ab,ab,ab,ab]):=q4;rw[al,bZ] at q1;have hx:xLC [1,3] 1 0 (iR1 (zaa (eC (.int 8)) zae)) zc0 [aa (.bor (ns.map .int)),aa (.obj (.lst (d2.dropLast.map .int))),aa (.val (.lst (SD zs))),aa (.val (.int T)),ab,ab,ab,ab,ab,ab]=aa (.lst (SD a8),[aa (.bor (ns.map .int)),aa (.obj (.lst (d3.map .int))),aa (.val (.lst (SD zs))),aa (.val (.int T)),ab,ab,ab,ab,ab,ab]):=by
  have ir:iR1 (zaa (eC (.int 8)) zae) [aa (.bor (ns.map .int)),aa (.obj (.lst (d2.dropLast.map .int))),aa (.val (.lst (SD zs))),aa (.val (.int T)),ab,ab,ab,ab,ab,ab]=aa ((ax 8).map fun(i:Nat)=>D.int (0+(i:Int))):=by
   have hb:b62 8:=zcM (by decide);simp only[iR1,zaa,eC,zae,jqc,jqa,iOf,Int.reduceNeg,Int.reduceLT,jre,zdG,zah];rfl
  unfold xLC;rw[ir];show((lcX [1,3] 1 0 zc0 _ _).bind _)=_;rw[q5];exact if_pos (by unfold SD;rw[al];lia)
 have hla:∀ w ∈ a8 ++ zs.take 2,w.length<=8:=fun w hw=>(bj.mp hw).elim (q2 w) fun z=>hl w (fB z);have hal:8<=(a8 ++ zs.take 2).length/\(a8 ++ zs.take 2).length<=10:=by rw[aC,cz];lia
 have es:SD (a8 ++ zs.take 2)=SD a8 ++ SD (zs.take 2):=by unfold SD;rw[bz]
 have e4:zf1 4 (x2 gCat (xLC [1,3] 1 0 (iR1 (zaa (eC (.int 8)) zae)) zc0) (xP (eSl zh1 (zab 2) oNo (oSo (eC (.int 2)))))) [aa (.bor (ns.map .int)),aa (.obj (.lst (d2.dropLast.map .int))),aa (.val (.lst (SD zs))),aa (.val (.int T)),ab,ab,ab,ab,ab,ab]=aa (.nx (zcT (ns.map .int) (d3.map .int) T (aa (.val (.lst (SD zs)))) (aa (.val (.lst (SD (a8 ++ zs.take 2))))) ab ab ab ab ab)):=by
  have cut:zfw (SD zs) ab (aa 2)=SD (zs.take 2):=by rw[zdB _ (by decide)];unfold SD;rw[gb];rfl
  have hsl:(SD a8).length+(SD (zs.take 2)).length<=1000000:=by unfold SD;rw[al,al,cz];lia
  rw[es];refine zfx (x2_o hx (xP_o (ds:=SD (zs.take 2)) ?_) ?_)
  ·generalize SD zs=Z at *;simp only[eSl,zab,jqf,jqe,oNo,oSo,eC,jqa,iOf,jqc,zh1,asL,cut]
  ·generalize SD a8=Z1 at *;generalize SD (zs.take 2)=Z2 at *;simp only[gCat,asLt,jqa,hsl,zbr,zah]
 generalize a8 ++ zs.take 2=as at *;have st:F_law [aa (.bor (ns.map .int)),ab,ab,ab,ab,ab,ab,ab,ab,ab]=zdx (zcT (ns.map .int) (d3.map .int) T (aa (.val (.lst (SD zs)))) (aa (.val (.lst (SD as)))) ab ab ab ab ab):=
  (show F_law _=_ from zaI e1).trans ((show zii _=_ from zaI e2).trans ((show zit _=_ from zaI (zfx hp)).trans (show ziv _=_ from zaI e4)))
 show(F_law [aa (.bor (ns.map .int)),ab,ab,ab,ab,ab,ab,ab,ab,ab]).bind zf4=_;rw[st];have tst:=eqTT (E:=ex2 zcl (ex2 zgi (zab 3) (eC (.int 7))) (eC (.int 4))) (F:=eC (.int 1)) (δ:=zcT (ns.map .int) (d3.map .int) T (aa (.val (.lst (SD zs)))) (aa (.val (.lst (SD as)))) ab ab ab ab ab) (modI (divI rfl rfl (by decide)) rfl (by decide)) rfl;by_cases hc:T / 7 % 4=1
 ·rw[decide_eq_true hc] at tst
  match as,hal,hla,tst with
  | a0 :: a1 :: ar,hal,hla,tst=>
   obtain⟨vs,l1,l2,l3⟩:=zix (zcT (ns.map .int) (d3.map .int) T (aa (.val (.lst (SD zs)))) (aa (.val (.lst (SD (a0 :: a1 :: ar))))) ab ab ab ab ab) (zs.take 3) fun w hw=>hl w (fB hw);have lv:vs.length<=3:=by rw[l1,cz];lia
   have cut3:zfw (SD zs) ab (aa 3)=SD (zs.take 3):=by rw[zdB _ (by decide)];unfold SD;rw[gb];rfl
   have w2:eLC [] (iL (eSl zh1 (zab 2) oNo (oSo (eC (.int 3))))) zc8 zdI (zcT (ns.map .int) (d3.map .int) T (aa (.val (.lst (SD zs)))) (aa (.val (.lst (SD (a0 :: a1 :: ar))))) ab ab ab ab ab)=aa (.own (SD vs)):=by
    refine zev ?_ l3 (by rw[ziE];lia);generalize SD (a0 :: a1 :: ar)=A at *;generalize SD zs=Z at *;simp only[iL,eSl,zab,jqf,jqe,oNo,oSo,eC,jqa,iOf,jqc,zh1,asL,cut3]
   have ca:zfw (SD (a0 :: a1 :: ar)) (aa 2) ab=SD ar:=by rw[zja _ (by decide)];rfl
   have c1:zfw a1 ab (aa 1)=a1.take 1:=zdB _ (by decide);have i1:atI (SD (a0 :: a1 :: ar)) 1=aa (.str (mkS a1)):=zcm (by decide) rfl;have la1:a1.length<=1000000:=by have:=hla a1 (by simp);lia
   have hcl:2+(SD ar).length<=1000000:=by rw[ziE];simp only[aw] at hal;lia
   have w4:ex2 gCat (zcN (zaa (eC (.str "")) (zaa (eSl gSlS (ex2 zca (zab 4) (eC (.int 1))) oNo (oSo (eC (.int 1)))) zae))) (eSl zh1 (zab 4) (oSo (eC (.int 2))) oNo) (zcT (ns.map .int) (d3.map .int) T (aa (.own (SD vs))) (aa (.val (.lst (SD (a0 :: a1 :: ar))))) ab ab ab ab ab)=aa (.own (SD ([] :: a1.take 1 :: ar))):=by
    show _=aa (Ent.own ([.str (mkS []),.str (mkS (a1.take 1))] ++ SD ar));have m0:(("" : Str))=mkS []:=rfl;rw[<- m0];generalize SD (a0 :: a1 :: ar)=A at *;generalize SD vs=V at *;generalize SD ar=R at *;simp only[ex2,zcN,zaa,eC,eSl,zab,jqf,jqe,zca,asL,iOf,jqa,i1,jqc,oNo,oSo,gSlS,sOf,zb9,la1,zbr,zej,c1,zah,zae,jqp,jqq,Nat.reduceLeDiff,ze5,asV,jra,zh1,ca,gCat,asLt,hcl,jqi,jqj]
    all_goals first | rfl | (simp;lia)
   have s4:zdx (zcT (ns.map .int) (d3.map .int) T (aa (.val (.lst (SD zs)))) (aa (.val (.lst (SD (a0 :: a1 :: ar))))) ab ab ab ab ab)=zdF (zcT (ns.map .int) (d3.map .int) T (aa (zaR true (SD vs))) (aa (zaR true (SD ([] :: a1.take 1 :: ar)))) ab ab ab ab ab):=
    (show zdx _=_ from zaI ((fIfT tst).trans ((zaI (zdg w2)).trans (zdg w4)))).trans rfl
   rw[s4];refine tail53 (ns.map .int) (d3.map .int) T true vs ([] :: a1.take 1 :: ar) (by lia) (fun u hu=>by have:=l2 u hu;lia) (by simp) (fun u hu=>?_) fun u hu t ht=>?_
   ·simp only[az] at hu;rcases hu with rfl | rfl | hu
    ·simp
    ·rw[cz];lia
    ·have:=hla u (by simp[hu]);lia
   ·refine zin (.inr ⟨l2 u hu,?_⟩);simp only[iC,jw,az,bW,or_false] at ht;rcases ht with rfl | rfl
    ·simp
    ·rw[cz];lia
  | [],hal,_,_=>simp at hal
  | [_],hal,_,_=>simp at hal
 ·rw[decide_eq_false hc] at tst;rw[show zdx (zcT (ns.map .int) (d3.map .int) T (aa (.val (.lst (SD zs)))) (aa (.val (.lst (SD as)))) ab ab ab ab ab)=zdF (zcT (ns.map .int) (d3.map .int) T (aa (zaR false (SD zs))) (aa (zaR false (SD as))) ab ab ab ab ab) from (show zdx _=_ from zaI (zhN tst)).trans rfl];exact tail53 (ns.map .int) (d3.map .int) T false zs as (by lia) (fun u hu=>by have:=hl u hu;lia) (by lia) (fun u hu=>by have:=hla u hu;lia) fun u hu t ht=>zin (.inl ⟨hl u hu,hla t (fB ht)⟩)
end N53
namespace N53
open PySem L2 L3 PyProof.Rows
def spLaw(K:ag):Sp:=fun vs H Q _=>∃ (a:af) (ns:List Int),vs=[.ref a]/\SqL K H a (ns.map V.int)/\ns.length<=63/\∀ H',Q (.bl true) H'
def sp_law{K:ag}{vs:List V}{H:Hp}{Q:VK}{E:XK}(h:spLaw K vs H Q E):spD K [.b] g_law vs H Q E:=by
 obtain⟨a,ns,rfl,hq,hl,k⟩:=h;refine⟨fun _=>ab,_,_,fun _ _ e=>(nomatch e),.cons (k:=.b) (d:=.lst (ns.map D.int)) ⟨a,_,rfl,hq,Reps.ints ns⟩ .nil,main ns hl,fun v F' H' _ r=>?_⟩;cases zhO r;exact k H'
def all_mk{l:gU}{w:aV}{K:ag}{h:bd}{mg:Str->Option ae}{fa:af}(X:K.In h)(G:h.Ns aI mg)(hfa:mg "law" = aa (.ref fa))
  {C_Book:af}
  {C_Knot:af}
  {f_17:af} {od_17 an_17:Option af} {sl_17:Array (Option ae)} {oc_17 kV_17 dc_17 pm_17 cd_17 ct_17:ae}
  {df_17:ae}
  {f_25:af} {od_25 an_25:Option af} {sl_25:Array (Option ae)} {oc_25 kV_25 dc_25 pm_25 cd_25 ct_25:ae}
  {f_26:af} {od_26 an_26:Option af} {sl_26:Array (Option ae)} {oc_26 kV_26 dc_26 pm_26 cd_26 ct_26:ae}
  {f_18:af} {od_18 an_18:Option af} {sl_18:Array (Option ae)} {oc_18 kV_18 dc_18 pm_18 cd_18 ct_18:ae}
  {f_19:af} {od_19 an_19:Option af} {sl_19:Array (Option ae)} {oc_19 kV_19 dc_19 pm_19 cd_19 ct_19:ae}
  {f_16:af} {od_16 an_16:Option af} {sl_16:Array (Option ae)} {oc_16 kV_16 dc_16 pm_16 cd_16 ct_16:ae}
  {f_28:af} {od_28 an_28:Option af} {sl_28:Array (Option ae)} {oc_28 kV_28 dc_28 pm_28 cd_28 ct_28:ae}
  {f_23:af} {od_23 an_23:Option af} {sl_23:Array (Option ae)} {oc_23 kV_23 dc_23 pm_23 cd_23 ct_23:ae}
  {f_24:af} {od_24 an_24:Option af} {sl_24:Array (Option ae)} {oc_24 kV_24 dc_24 pm_24 cd_24 ct_24:ae}
  {f_27:af} {od_27 an_27:Option af} {sl_27:Array (Option ae)} {oc_27 kV_27 dc_27 pm_27 cd_27 ct_27:ae}
  {f_20:af} {od_20 an_20:Option af} {sl_20:Array (Option ae)} {oc_20 kV_20 dc_20 pm_20 cd_20 ct_20:ae}
  {f_29:af} {od_29 an_29:Option af} {sl_29:Array (Option ae)} {oc_29 kV_29 dc_29 pm_29 cd_29 ct_29:ae}
  {f_21:af} {od_21 an_21:Option af} {sl_21:Array (Option ae)} {oc_21 kV_21 dc_21 pm_21 cd_21 ct_21:ae}
  {f_7:af} {od_7 an_7:Option af} {sl_7:Array (Option ae)} {oc_7 kV_7 dc_7 pm_7 cd_7 ct_7:ae}
  {f_12:af} {od_12 an_12:Option af} {sl_12:Array (Option ae)} {oc_12 kV_12 dc_12 pm_12 cd_12 ct_12:ae}
  {f_14:af} {od_14 an_14:Option af} {sl_14:Array (Option ae)} {oc_14 kV_14 dc_14 pm_14 cd_14 ct_14:ae}
  {f_15:af} {od_15 an_15:Option af} {sl_15:Array (Option ae)} {oc_15 kV_15 dc_15 pm_15 cd_15 ct_15:ae}
  {f_10:af} {od_10 an_10:Option af} {sl_10:Array (Option ae)} {oc_10 kV_10 dc_10 pm_10 cd_10 ct_10:ae}
  {f_8:af} {od_8 an_8:Option af} {sl_8:Array (Option ae)} {oc_8 kV_8 dc_8 pm_8 cd_8 ct_8:ae}
  {f_11:af} {od_11 an_11:Option af} {sl_11:Array (Option ae)} {oc_11 kV_11 dc_11 pm_11 cd_11 ct_11:ae}
  {f_9:af} {od_9 an_9:Option af} {sl_9:Array (Option ae)} {oc_9 kV_9 dc_9 pm_9 cd_9 ct_9:ae}
  {f_13:af} {od_13 an_13:Option af} {sl_13:Array (Option ae)} {oc_13 kV_13 dc_13 pm_13 cd_13 ct_13:ae}
  {f_6:af} {od_6 an_6:Option af} {sl_6:Array (Option ae)} {oc_6 kV_6 dc_6 pm_6 cd_6 ct_6:ae}
  {f_22:af} {od_22 an_22:Option af} {sl_22:Array (Option ae)} {oc_22 kV_22 dc_22 pm_22 cd_22 ct_22:ae}
  {f_0:af} {od_0 an_0:Option af} {sl_0:Array (Option ae)} {oc_0 kV_0 dc_0 pm_0 cd_0 ct_0:ae}
  {f_3:af} {od_3 an_3:Option af} {sl_3:Array (Option ae)} {oc_3 kV_3 dc_3 pm_3 cd_3 ct_3:ae}
  {f_4:af} {od_4 an_4:Option af} {sl_4:Array (Option ae)} {oc_4 kV_4 dc_4 pm_4 cd_4 ct_4:ae}
  {f_1:af} {od_1 an_1:Option af} {sl_1:Array (Option ae)} {oc_1 kV_1 dc_1 pm_1 cd_1 ct_1:ae}
  {f_2:af} {od_2 an_2:Option af} {sl_2:Array (Option ae)} {oc_2 kV_2 dc_2 pm_2 cd_2 ct_2:ae}
  {f_5:af} {od_5 an_5:Option af} {sl_5:Array (Option ae)} {oc_5 kV_5 dc_5 pm_5 cd_5 ct_5:ae}
  {tk_PUT:Tok}
  {tk_LEFT:Tok}
  {tk_EXCHANGED:Tok}
  {tk_TURNED:Tok}
  {ua_PLAIN_PRICES:af} {un_PLAIN_PRICES:Nat} {t0_PLAIN_PRICES t1_PLAIN_PRICES t2_PLAIN_PRICES t3_PLAIN_PRICES:Tok}
  (a_Book:aO K aI "Book" = aa (aa (.ref C_Book))) (p1_Book:du K C_Book jA=true) (p2_Book:dL K C_Book=true) (p3_Book:eE K C_Book=true) (p4_Book:bq K (.ref C_Book) "__setattr__" = aa (aa (.builtin "object.__setattr__")))
  (n_Book_top:bq K (.ref C_Book) "top" = aa ab)
  (m1_Book:eV K C_Book=true) (m2_Book:aP K (.ref C_Book)=true)
  (a_Knot:aO K aI "Knot" = aa (aa (.ref C_Knot))) (p1_Knot:du K C_Knot jA=true) (p2_Knot:dL K C_Knot=true) (p3_Knot:eE K C_Knot=true) (p4_Knot:bq K (.ref C_Knot) "__setattr__" = aa (aa (.builtin "object.__setattr__")))
  (n_Knot_word:bq K (.ref C_Knot) "word" = aa ab)
  (n_Knot_branches:bq K (.ref C_Knot) "branches" = aa ab)
  (m1_Knot:eV K C_Knot=true) (m2_Knot:aP K (.ref C_Knot)=true)
  (a_17:aO K aI "cells_of" = aa (aa (.ref f_17))) (l_17:K.lookup f_17=aa ⟨oc_17,od_17,.func (aW "cells_of" "cells_of" (zao zbA) (zan zbA) (zac zbA) df_17 kV_17 dc_17 pm_17 an_17 cd_17 ct_17),sl_17⟩) (c_17:aT K cd_17 "cells_of" = true) (k_17:aP K (.ref f_17)=true)
  (e_17:DfOk K df_17)
  (a_25:aO K aI "price_between" = aa (aa (.ref f_25))) (l_25:K.lookup f_25=aa ⟨oc_25,od_25,.func (aW "price_between" "price_between" (zao zaz) (zan zaz) (zac zaz) .none kV_25 dc_25 pm_25 an_25 cd_25 ct_25),sl_25⟩) (c_25:aT K cd_25 "price_between" = true) (k_25:aP K (.ref f_25)=true)
  (a_26:aO K aI "row_across" = aa (aa (.ref f_26))) (l_26:K.lookup f_26=aa ⟨oc_26,od_26,.func (aW "row_across" "row_across" (zao za3) (zan za3) (zac za3) .none kV_26 dc_26 pm_26 an_26 cd_26 ct_26),sl_26⟩) (c_26:aT K cd_26 "row_across" = true) (k_26:aP K (.ref f_26)=true)
  (a_18:aO K aI "first_column" = aa (aa (.ref f_18))) (l_18:K.lookup f_18=aa ⟨oc_18,od_18,.func (aW "first_column" "first_column" (zao zaL) (zan zaL) (zac zaL) .none kV_18 dc_18 pm_18 an_18 cd_18 ct_18),sl_18⟩) (c_18:aT K cd_18 "first_column" = true) (k_18:aP K (.ref f_18)=true)
  (a_19:aO K aI "further_column" = aa (aa (.ref f_19))) (l_19:K.lookup f_19=aa ⟨oc_19,od_19,.func (aW "further_column" "further_column" (zao zat) (zan zat) (zac zat) .none kV_19 dc_19 pm_19 an_19 cd_19 ct_19),sl_19⟩) (c_19:aT K cd_19 "further_column" = true) (k_19:aP K (.ref f_19)=true)
  (a_16:aO K aI "cell_ahead_of_turn" = aa (aa (.ref f_16))) (l_16:K.lookup f_16=aa ⟨oc_16,od_16,.func (aW "cell_ahead_of_turn" "cell_ahead_of_turn" (zao zal) (zan zal) (zac zal) .none kV_16 dc_16 pm_16 an_16 cd_16 ct_16),sl_16⟩) (c_16:aT K cd_16 "cell_ahead_of_turn" = true) (k_16:aP K (.ref f_16)=true)
  (a_28:aO K aI "stepped" = aa (aa (.ref f_28))) (l_28:K.lookup f_28=aa ⟨oc_28,od_28,.func (aW "stepped" "stepped" (zao zbU) (zan zbU) (zac zbU) .none kV_28 dc_28 pm_28 an_28 cd_28 ct_28),sl_28⟩) (c_28:aT K cd_28 "stepped" = true) (k_28:aP K (.ref f_28)=true)
  (a_23:aO K aI "lowest" = aa (aa (.ref f_23))) (l_23:K.lookup f_23=aa ⟨oc_23,od_23,.func (aW "lowest" "lowest" (zao zcj) (zan zcj) (zac zcj) .none kV_23 dc_23 pm_23 an_23 cd_23 ct_23),sl_23⟩) (c_23:aT K cd_23 "lowest" = true) (k_23:aP K (.ref f_23)=true)
  (a_24:aO K aI "pattern_of" = aa (aa (.ref f_24))) (l_24:K.lookup f_24=aa ⟨oc_24,od_24,.func (aW "pattern_of" "pattern_of" (zao za2) (zan za2) (zac za2) .none kV_24 dc_24 pm_24 an_24 cd_24 ct_24),sl_24⟩) (c_24:aT K cd_24 "pattern_of" = true) (k_24:aP K (.ref f_24)=true)
  (a_27:aO K aI "slips_between" = aa (aa (.ref f_27))) (l_27:K.lookup f_27=aa ⟨oc_27,od_27,.func (aW "slips_between" "slips_between" (zao zaB) (zan zaB) (zac zaB) .none kV_27 dc_27 pm_27 an_27 cd_27 ct_27),sl_27⟩) (c_27:aT K cd_27 "slips_between" = true) (k_27:aP K (.ref f_27)=true)
  (a_20:aO K aI "hang" = aa (aa (.ref f_20))) (l_20:K.lookup f_20=aa ⟨oc_20,od_20,.func (aW "hang" "hang" (zao zdn) (zan zdn) (zac zdn) .none kV_20 dc_20 pm_20 an_20 cd_20 ct_20),sl_20⟩) (c_20:aT K cd_20 "hang" = true) (k_20:aP K (.ref f_20)=true)
  (a_29:aO K aI "tree_from" = aa (aa (.ref f_29))) (l_29:K.lookup f_29=aa ⟨oc_29,od_29,.func (aW "tree_from" "tree_from" (zao zbg) (zan zbg) (zac zbg) .none kV_29 dc_29 pm_29 an_29 cd_29 ct_29),sl_29⟩) (c_29:aT K cd_29 "tree_from" = true) (k_29:aP K (.ref f_29)=true)
  (a_21:aO K aI "knots_in_reach" = aa (aa (.ref f_21))) (l_21:K.lookup f_21=aa ⟨oc_21,od_21,.func (aW "knots_in_reach" "knots_in_reach" (zao zau) (zan zau) (zac zau) .none kV_21 dc_21 pm_21 an_21 cd_21 ct_21),sl_21⟩) (c_21:aT K cd_21 "knots_in_reach" = true) (k_21:aP K (.ref f_21)=true)
  (a_7:aO K aI "_law_deck" = aa (aa (.ref f_7))) (l_7:K.lookup f_7=aa ⟨oc_7,od_7,.func (aW "_law_deck" "_law_deck" (zao zbh) (zan zbh) (zac zbh) .none kV_7 dc_7 pm_7 an_7 cd_7 ct_7),sl_7⟩) (c_7:aT K cd_7 "_law_deck" = true) (k_7:aP K (.ref f_7)=true)
  (a_12:aO K aI "_law_sign" = aa (aa (.ref f_12))) (l_12:K.lookup f_12=aa ⟨oc_12,od_12,.func (aW "_law_sign" "_law_sign" (zao zbk) (zan zbk) (zac zbk) .none kV_12 dc_12 pm_12 an_12 cd_12 ct_12),sl_12⟩) (c_12:aT K cd_12 "_law_sign" = true) (k_12:aP K (.ref f_12)=true)
  (a_14:aO K aI "_law_word" = aa (aa (.ref f_14))) (l_14:K.lookup f_14=aa ⟨oc_14,od_14,.func (aW "_law_word" "_law_word" (zao zbf) (zan zbf) (zac zbf) .none kV_14 dc_14 pm_14 an_14 cd_14 ct_14),sl_14⟩) (c_14:aT K cd_14 "_law_word" = true) (k_14:aP K (.ref f_14)=true)
  (a_15:aO K aI "_law_words" = aa (aa (.ref f_15))) (l_15:K.lookup f_15=aa ⟨oc_15,od_15,.func (aW "_law_words" "_law_words" (zao za5) (zan za5) (zac za5) .none kV_15 dc_15 pm_15 an_15 cd_15 ct_15),sl_15⟩) (c_15:aT K cd_15 "_law_words" = true) (k_15:aP K (.ref f_15)=true)
  (a_10:aO K aI "_law_price" = aa (aa (.ref f_10))) (l_10:K.lookup f_10=aa ⟨oc_10,od_10,.func (aW "_law_price" "_law_price" (zao za4) (zan za4) (zac za4) .none kV_10 dc_10 pm_10 an_10 cd_10 ct_10),sl_10⟩) (c_10:aT K cd_10 "_law_price" = true) (k_10:aP K (.ref f_10)=true)
  (a_8:aO K aI "_law_due" = aa (aa (.ref f_8))) (l_8:K.lookup f_8=aa ⟨oc_8,od_8,.func (aW "_law_due" "_law_due" (zao zby) (zan zby) (zac zby) .none kV_8 dc_8 pm_8 an_8 cd_8 ct_8),sl_8⟩) (c_8:aT K cd_8 "_law_due" = true) (k_8:aP K (.ref f_8)=true)
  (a_11:aO K aI "_law_right" = aa (aa (.ref f_11))) (l_11:K.lookup f_11=aa ⟨oc_11,od_11,.func (aW "_law_right" "_law_right" (zao za8) (zan za8) (zac za8) .none kV_11 dc_11 pm_11 an_11 cd_11 ct_11),sl_11⟩) (c_11:aT K cd_11 "_law_right" = true) (k_11:aP K (.ref f_11)=true)
  (a_9:aO K aI "_law_grows" = aa (aa (.ref f_9))) (l_9:K.lookup f_9=aa ⟨oc_9,od_9,.func (aW "_law_grows" "_law_grows" (zao za7) (zan za7) (zac za7) .none kV_9 dc_9 pm_9 an_9 cd_9 ct_9),sl_9⟩) (c_9:aT K cd_9 "_law_grows" = true) (k_9:aP K (.ref f_9)=true)
  (a_13:aO K aI "_law_turned" = aa (aa (.ref f_13))) (l_13:K.lookup f_13=aa ⟨oc_13,od_13,.func (aW "_law_turned" "_law_turned" (zao zaU) (zan zaU) (zac zaU) .none kV_13 dc_13 pm_13 an_13 cd_13 ct_13),sl_13⟩) (c_13:aT K cd_13 "_law_turned" = true) (k_13:aP K (.ref f_13)=true)
  (a_6:aO K aI "_law_between" = aa (aa (.ref f_6))) (l_6:K.lookup f_6=aa ⟨oc_6,od_6,.func (aW "_law_between" "_law_between" (zao zaK) (zan zaK) (zac zaK) .none kV_6 dc_6 pm_6 an_6 cd_6 ct_6),sl_6⟩) (c_6:aT K cd_6 "_law_between" = true) (k_6:aP K (.ref f_6)=true)
  (a_22:aO K aI "law" = aa (aa (.ref f_22))) (l_22:K.lookup f_22=aa ⟨oc_22,od_22,.func (aW "law" "law" (zao zdO) (zan zdO) (zac zdO) .none kV_22 dc_22 pm_22 an_22 cd_22 ct_22),sl_22⟩) (c_22:aT K cd_22 "law" = true) (k_22:aP K (.ref f_22)=true)
  (a_0:bq K (.ref C_Book) "__init__" = aa (aa (.ref f_0))) (l_0:K.lookup f_0=aa ⟨oc_0,od_0,.func (aW "__init__" "Book.__init__" (zao zaA) (zan zaA) (zac zaA) .none kV_0 dc_0 pm_0 an_0 cd_0 ct_0),sl_0⟩) (c_0:aT K cd_0 "Book.__init__" = true) (k_0:aP K (.ref f_0)=true) (i_0:dh K (.ref f_0)=true)
  (a_3:bq K (.ref C_Book) "put" = aa (aa (.ref f_3))) (l_3:K.lookup f_3=aa ⟨oc_3,od_3,.func (aW "put" "Book.put" (zao zbu) (zan zbu) (zac zbu) .none kV_3 dc_3 pm_3 an_3 cd_3 ct_3),sl_3⟩) (c_3:aT K cd_3 "Book.put" = true) (k_3:aP K (.ref f_3)=true) (i_3:dh K (.ref f_3)=true)
  (a_4:bq K (.ref C_Book) "tree" = aa (aa (.ref f_4))) (l_4:K.lookup f_4=aa ⟨oc_4,od_4,.func (aW "tree" "Book.tree" (zao zbi) (zan zbi) (zac zbi) .none kV_4 dc_4 pm_4 an_4 cd_4 ct_4),sl_4⟩) (c_4:aT K cd_4 "Book.tree" = true) (k_4:aP K (.ref f_4)=true) (i_4:dh K (.ref f_4)=true)
  (a_1:bq K (.ref C_Book) "near" = aa (aa (.ref f_1))) (l_1:K.lookup f_1=aa ⟨oc_1,od_1,.func (aW "near" "Book.near" (zao zbj) (zan zbj) (zac zbj) .none kV_1 dc_1 pm_1 an_1 cd_1 ct_1),sl_1⟩) (c_1:aT K cd_1 "Book.near" = true) (k_1:aP K (.ref f_1)=true) (i_1:dh K (.ref f_1)=true)
  (a_2:bq K (.ref C_Book) "nearest" = aa (aa (.ref f_2))) (l_2:K.lookup f_2=aa ⟨oc_2,od_2,.func (aW "nearest" "Book.nearest" (zao zaJ) (zan zaJ) (zac zaJ) .none kV_2 dc_2 pm_2 an_2 cd_2 ct_2),sl_2⟩) (c_2:aT K cd_2 "Book.nearest" = true) (k_2:aP K (.ref f_2)=true) (i_2:dh K (.ref f_2)=true)
  (a_5:bq K (.ref C_Knot) "__init__" = aa (aa (.ref f_5))) (l_5:K.lookup f_5=aa ⟨oc_5,od_5,.func (aW "__init__" "Knot.__init__" (zao zay) (zan zay) (zac zay) .none kV_5 dc_5 pm_5 an_5 cd_5 ct_5),sl_5⟩) (c_5:aT K cd_5 "Knot.__init__" = true) (k_5:aP K (.ref f_5)=true) (i_5:dh K (.ref f_5)=true)
  (z_abs:aO K aI "abs" = aa ab)
  (z_bool:aO K aI "bool" = aa ab)
  (z_dict:aO K aI "dict" = aa ab)
  (z_int:aO K aI "int" = aa ab)
  (z_isinstance:aO K aI "isinstance" = aa ab)
  (z_len:aO K aI "len" = aa ab)
  (z_list:aO K aI "list" = aa ab)
  (z_min:aO K aI "min" = aa ab)
  (z_range:aO K aI "range" = aa ab)
  (z_reversed:aO K aI "reversed" = aa ab)
  (z_set:aO K aI "set" = aa ab)
  (z_sorted:aO K aI "sorted" = aa ab)
  (z_tuple:aO K aI "tuple" = aa ab)
  (q_PUT:aO K aI "PUT" = aa (aa (.int 0 tk_PUT)))
  (q_LEFT:aO K aI "LEFT" = aa (aa (.int 1 tk_LEFT)))
  (q_EXCHANGED:aO K aI "EXCHANGED" = aa (aa (.int 2 tk_EXCHANGED)))
  (q_TURNED:aO K aI "TURNED" = aa (aa (.int 3 tk_TURNED)))
  (q_PLAIN_PRICES:aO K aI "PLAIN_PRICES" = aa (aa (.ref ua_PLAIN_PRICES))) (l_PLAIN_PRICES:K.lookup ua_PLAIN_PRICES=aa ⟨.type "tuple",ab,.seq #[.int 1 t0_PLAIN_PRICES,.int 1 t1_PLAIN_PRICES,.int 1 t2_PLAIN_PRICES,.int 0 t3_PLAIN_PRICES] un_PLAIN_PRICES,#[]⟩) :
  ∃ fd:bw,(∀ (s:ah) (v:ae),BindsTo s fd ⟨[v],[]⟩ [("_law_script",v)])/\∀ base:bd,K.In base->base.Ns aI mg->FnOk l.prog w K mg base CX0 19 fa fd ["_law_script"] (spLaw K):=by
 have e:=hfa.symm.trans (bc X G a_22)
 cases e;have DC_Book:ClsD K mg "Book" ["top"] C_Book:=⟨a_Book,bc X G a_Book,⟨p1_Book,p2_Book,p3_Book,p4_Book⟩,fun f hf=>by
  simp only[az,bW,or_false] at hf;rcases hf with rfl
  ·exact n_Book_top⟩
 have DC_Knot:ClsD K mg "Knot" ["word","branches"] C_Knot:=⟨a_Knot,bc X G a_Knot,⟨p1_Knot,p2_Knot,p3_Knot,p4_Knot⟩,fun f hf=>by
  simp only[az,bW,or_false] at hf;rcases hf with rfl | rfl
  ·exact n_Knot_word
  ·exact n_Knot_branches⟩
 obtain⟨T_17,o_17,n_17,rfl,h1_17,h2_17⟩:=e_17;have F_17:FunA K "cells_of" "cells_of" zbA f_17 _:=⟨⟨oc_17,od_17,.ref T_17,kV_17,dc_17,pm_17,an_17,cd_17,ct_17,sl_17,rfl,l_17,c_17⟩,k_17⟩
 have D_17:DefD K mg "cells_of" zbA ["P","T","prices","free"] _ _:=⟨F_17,bc X G a_17,(fun s us KI hl=>by rw[aY] at hl ⊢;obtain⟨_,_,_,_,rfl⟩:=len4 hl;exact gY KI rfl h1_17 h2_17 rfl rfl),(fun s us KI hl=>by obtain⟨_,_,_,rfl⟩:=len3 (show us.length=3 from iO ((aC (as:=us) (bs:=[gq false])).symm.trans hl));exact gY KI rfl h1_17 h2_17 rfl rfl),⟨(fun s us ws KI hl=>by
  obtain⟨e1,e2,e3⟩:=gK_shape hl;rw[e3];obtain⟨_,_,_,rfl⟩:=len3 e1;obtain⟨_,rfl⟩:=len1 e2;exact gY KI rfl h1_17 h2_17 rfl rfl),fun r rz=>gK_rel r rz⟩⟩
 have F_25:=za1 (st:=zaz) l_25 c_25 k_25;have D_25:Def K mg "price_between" zaz ["P","T","prices"] _ _:=⟨F_25,bc X G a_25,F_25.binds (ps:=["P","T","prices"]) fun _ _ _ _ _ _ us hl=>by obtain⟨_,_,_,rfl⟩:=len3 hl;rfl⟩
 have F_26:=za1 (st:=za3) l_26 c_26 k_26;have D_26:Def K mg "row_across" za3 ["columns","classes"] _ _:=⟨F_26,bc X G a_26,F_26.binds (ps:=["columns","classes"]) fun _ _ _ _ _ _ us hl=>by obtain⟨_,_,rfl⟩:=zhy hl;rfl⟩
 have F_18:=za1 (st:=zaL) l_18 c_18 k_18;have D_18:Def K mg "first_column" zaL ["pattern","prices"] _ _:=⟨F_18,bc X G a_18,F_18.binds (ps:=["pattern","prices"]) fun _ _ _ _ _ _ us hl=>by obtain⟨_,_,rfl⟩:=zhy hl;rfl⟩
 have F_19:=za1 (st:=zat) l_19 c_19 k_19;have D_19:Def K mg "further_column" zat ["columns","pattern","text","prices","free"] _ _:=⟨F_19,bc X G a_19,F_19.binds (ps:=["columns","pattern","text","prices","free"]) fun _ _ _ _ _ _ us hl=>by obtain⟨_,_,_,_,_,rfl⟩:=len5 hl;rfl⟩
 have F_16:=za1 (st:=zal) l_16 c_16 k_16;have D_16:Def K mg "cell_ahead_of_turn" zal ["columns","pattern","text","classes"] _ _:=⟨F_16,bc X G a_16,F_16.binds (ps:=["columns","pattern","text","classes"]) fun _ _ _ _ _ _ us hl=>by obtain⟨_,_,_,_,rfl⟩:=len4 hl;rfl⟩
 have F_28:=za1 (st:=zbU) l_28 c_28 k_28;have D_28:Def K mg "stepped" zbU ["cell","price"] _ _:=⟨F_28,bc X G a_28,F_28.binds (ps:=["cell","price"]) fun _ _ _ _ _ _ us hl=>by obtain⟨_,_,rfl⟩:=zhy hl;rfl⟩
 have F_23:=za1 (st:=zcj) l_23 c_23 k_23;have D_23:Def K mg "lowest" zcj ["cells"] _ _:=⟨F_23,bc X G a_23,F_23.binds (ps:=["cells"]) fun _ _ _ _ _ _ us hl=>by obtain⟨_,rfl⟩:=len1 hl;rfl⟩
 have F_24:=za1 (st:=za2) l_24 c_24 k_24;have D_24:Def K mg "pattern_of" za2 ["W"] _ _:=⟨F_24,bc X G a_24,F_24.binds (ps:=["W"]) fun _ _ _ _ _ _ us hl=>by obtain⟨_,rfl⟩:=len1 hl;rfl⟩
 have F_27:=za1 (st:=zaB) l_27 c_27 k_27;have D_27:Def K mg "slips_between" zaB ["word","other"] _ _:=⟨F_27,bc X G a_27,F_27.binds (ps:=["word","other"]) fun _ _ _ _ _ _ us hl=>by obtain⟨_,_,rfl⟩:=zhy hl;rfl⟩
 have F_20:=za1 (st:=zdn) l_20 c_20 k_20;have D_20:Def K mg "hang" zdn ["top","word"] _ _:=⟨F_20,bc X G a_20,F_20.binds (ps:=["top","word"]) fun _ _ _ _ _ _ us hl=>by obtain⟨_,_,rfl⟩:=zhy hl;rfl⟩
 have F_29:=za1 (st:=zbg) l_29 c_29 k_29;have D_29:Def K mg "tree_from" zbg ["knot"] _ _:=⟨F_29,bc X G a_29,F_29.binds (ps:=["knot"]) fun _ _ _ _ _ _ us hl=>by obtain⟨_,rfl⟩:=len1 hl;rfl⟩
 have F_21:=za1 (st:=zau) l_21 c_21 k_21;have D_21:Def K mg "knots_in_reach" zau ["knot","price","most"] _ _:=⟨F_21,bc X G a_21,F_21.binds (ps:=["knot","price","most"]) fun _ _ _ _ _ _ us hl=>by obtain⟨_,_,_,rfl⟩:=len3 hl;rfl⟩
 have F_7:=za1 (st:=zbh) l_7 c_7 k_7;have D_7:Def K mg "_law_deck" zbh ["_law_cells","_law_many"] _ _:=⟨F_7,bc X G a_7,F_7.binds (ps:=["_law_cells","_law_many"]) fun _ _ _ _ _ _ us hl=>by obtain⟨_,_,rfl⟩:=zhy hl;rfl⟩
 have F_12:=za1 (st:=zbk) l_12 c_12 k_12;have D_12:Def K mg "_law_sign" zbk ["_law_turn","_law_number"] _ _:=⟨F_12,bc X G a_12,F_12.binds (ps:=["_law_turn","_law_number"]) fun _ _ _ _ _ _ us hl=>by obtain⟨_,_,rfl⟩:=zhy hl;rfl⟩
 have F_14:=za1 (st:=zbf) l_14 c_14 k_14;have D_14:Def K mg "_law_word" zbf ["_law_cell","_law_few","_law_turn"] _ _:=⟨F_14,bc X G a_14,F_14.binds (ps:=["_law_cell","_law_few","_law_turn"]) fun _ _ _ _ _ _ us hl=>by obtain⟨_,_,_,rfl⟩:=len3 hl;rfl⟩
 have F_15:=za1 (st:=za5) l_15 c_15 k_15;have D_15:Def K mg "_law_words" za5 ["_law_deck_here","_law_most"] _ _:=⟨F_15,bc X G a_15,F_15.binds (ps:=["_law_deck_here","_law_most"]) fun _ _ _ _ _ _ us hl=>by obtain⟨_,_,rfl⟩:=zhy hl;rfl⟩
 have F_10:=za1 (st:=za4) l_10 c_10 k_10;have D_10:Def K mg "_law_price" za4 ["_law_one","_law_other"] _ _:=⟨F_10,bc X G a_10,F_10.binds (ps:=["_law_one","_law_other"]) fun _ _ _ _ _ _ us hl=>by obtain⟨_,_,rfl⟩:=zhy hl;rfl⟩
 have F_8:=za1 (st:=zby) l_8 c_8 k_8;have D_8:Def K mg "_law_due" zby ["_law_words_here","_law_one"] _ _:=⟨F_8,bc X G a_8,F_8.binds (ps:=["_law_words_here","_law_one"]) fun _ _ _ _ _ _ us hl=>by obtain⟨_,_,rfl⟩:=zhy hl;rfl⟩
 have F_11:=za1 (st:=za8) l_11 c_11 k_11;have D_11:Def K mg "_law_right" za8 ["_law_book","_law_other","_law_words_here","_law_one"] _ _:=⟨F_11,bc X G a_11,F_11.binds (ps:=["_law_book","_law_other","_law_words_here","_law_one"]) fun _ _ _ _ _ _ us hl=>by obtain⟨_,_,_,_,rfl⟩:=len4 hl;rfl⟩
 have F_9:=za1 (st:=za7) l_9 c_9 k_9;have D_9:Def K mg "_law_grows" za7 ["_law_book","_law_words_here","_law_one"] _ _:=⟨F_9,bc X G a_9,F_9.binds (ps:=["_law_book","_law_words_here","_law_one"]) fun _ _ _ _ _ _ us hl=>by obtain⟨_,_,_,rfl⟩:=len3 hl;rfl⟩
 have F_13:=za1 (st:=zaU) l_13 c_13 k_13;have D_13:Def K mg "_law_turned" zaU ["_law_words_here","_law_turn"] _ _:=⟨F_13,bc X G a_13,F_13.binds (ps:=["_law_words_here","_law_turn"]) fun _ _ _ _ _ _ us hl=>by obtain⟨_,_,rfl⟩:=zhy hl;rfl⟩
 have F_6:=za1 (st:=zaK) l_6 c_6 k_6;have D_6:Def K mg "_law_between" zaK ["_law_book","_law_one","_law_other"] _ _:=⟨F_6,bc X G a_6,F_6.binds (ps:=["_law_book","_law_one","_law_other"]) fun _ _ _ _ _ _ us hl=>by obtain⟨_,_,_,rfl⟩:=len3 hl;rfl⟩
 have F_22:=za1 (st:=zdO) l_22 c_22 k_22;have D_22:Def K mg "law" zdO ["_law_script"] _ _:=⟨F_22,bc X G a_22,F_22.binds (ps:=["_law_script"]) fun _ _ _ _ _ _ us hl=>by obtain⟨_,rfl⟩:=len1 hl;rfl⟩
 have F_0:=za1 (st:=zaA) l_0 c_0 k_0;have D_0:MakeD K "Book" zaA "Book.__init__" ["self"] _ _:=⟨.of F_0,fun C h=>by cases zbt a_Book h;exact⟨m1_Book,a_0,i_0,m2_Book⟩,F_0.binds (ps:=["self"]) fun _ _ _ _ _ _ us hl=>by obtain⟨_,rfl⟩:=len1 hl;rfl⟩
 have F_3:=za1 (st:=zbu) l_3 c_3 k_3;have D_3:MethD K "Book" "put" zbu "Book.put" ["self","W"] _ _:=⟨.of F_3,fun C h=>by cases zbt a_Book h;exact⟨a_3,i_3,k_3⟩,F_3.binds (ps:=["self","W"]) fun _ _ _ _ _ _ us hl=>by obtain⟨_,_,rfl⟩:=zhy hl;rfl⟩
 have F_4:=za1 (st:=zbi) l_4 c_4 k_4;have D_4:MethD K "Book" "tree" zbi "Book.tree" ["self"] _ _:=⟨.of F_4,fun C h=>by cases zbt a_Book h;exact⟨a_4,i_4,k_4⟩,F_4.binds (ps:=["self"]) fun _ _ _ _ _ _ us hl=>by obtain⟨_,rfl⟩:=len1 hl;rfl⟩
 have F_1:=za1 (st:=zbj) l_1 c_1 k_1;have D_1:MethD K "Book" "near" zbj "Book.near" ["self","W","most"] _ _:=⟨.of F_1,fun C h=>by cases zbt a_Book h;exact⟨a_1,i_1,k_1⟩,F_1.binds (ps:=["self","W","most"]) fun _ _ _ _ _ _ us hl=>by obtain⟨_,_,_,rfl⟩:=len3 hl;rfl⟩
 have F_2:=za1 (st:=zaJ) l_2 c_2 k_2;have D_2:MethD K "Book" "nearest" zaJ "Book.nearest" ["self","W"] _ _:=⟨.of F_2,fun C h=>by cases zbt a_Book h;exact⟨a_2,i_2,k_2⟩,F_2.binds (ps:=["self","W"]) fun _ _ _ _ _ _ us hl=>by obtain⟨_,_,rfl⟩:=zhy hl;rfl⟩
 have F_5:=za1 (st:=zay) l_5 c_5 k_5;have D_5:MakeD K "Knot" zay "Knot.__init__" ["self","word"] _ _:=⟨.of F_5,fun C h=>by cases zbt a_Knot h;exact⟨m1_Knot,a_5,i_5,m2_Knot⟩,F_5.binds (ps:=["self","word"]) fun _ _ _ _ _ _ us hl=>by obtain⟨_,_,rfl⟩:=zhy hl;rfl⟩
 have T:Txt K mg:={ m_abs:=bM X G z_abs,m_bool:=bM X G z_bool,m_dict:=bM X G z_dict,m_int:=bM X G z_int,m_isinstance:=bM X G z_isinstance,m_len:=bM X G z_len,m_list:=bM X G z_list,m_min:=bM X G z_min,m_range:=bM X G z_range,m_reversed:=bM X G z_reversed,m_set:=bM X G z_set,m_sorted:=bM X G z_sorted,m_tuple:=bM X G z_tuple,g_PUT:=⟨_,bc X G q_PUT,⟨_,rfl⟩⟩,g_LEFT:=⟨_,bc X G q_LEFT,⟨_,rfl⟩⟩,g_EXCHANGED:=⟨_,bc X G q_EXCHANGED,⟨_,rfl⟩⟩,g_TURNED:=⟨_,bc X G q_TURNED,⟨_,rfl⟩⟩,u_PLAIN_PRICES:=⟨_,bc X G q_PLAIN_PRICES,_,_,_,l_PLAIN_PRICES,rfl,rfl,Nat.le_of_ble_eq_true rfl,.cons ⟨_,rfl⟩ (.cons ⟨_,rfl⟩ (.cons ⟨_,rfl⟩ (.cons ⟨_,rfl⟩ (.nil))))⟩,c_Book:=⟨_,DC_Book⟩,c_Knot:=⟨_,DC_Knot⟩,d_cells_of:=⟨_,_,D_17⟩,d_price_between:=⟨_,_,D_25⟩,d_row_across:=⟨_,_,D_26⟩,d_first_column:=⟨_,_,D_18⟩,d_further_column:=⟨_,_,D_19⟩,d_cell_ahead_of_turn:=⟨_,_,D_16⟩,d_stepped:=⟨_,_,D_28⟩,d_lowest:=⟨_,_,D_23⟩,d_pattern_of:=⟨_,_,D_24⟩,d_slips_between:=⟨_,_,D_27⟩,d_hang:=⟨_,_,D_20⟩,d_tree_from:=⟨_,_,D_29⟩,d_knots_in_reach:=⟨_,_,D_21⟩,d__law_deck:=⟨_,_,D_7⟩,d__law_sign:=⟨_,_,D_12⟩,d__law_word:=⟨_,_,D_14⟩,d__law_words:=⟨_,_,D_15⟩,d__law_price:=⟨_,_,D_10⟩,d__law_due:=⟨_,_,D_8⟩,d__law_right:=⟨_,_,D_11⟩,d__law_grows:=⟨_,_,D_9⟩,d__law_turned:=⟨_,_,D_13⟩,d__law_between:=⟨_,_,D_6⟩,d_Book___init__:=⟨_,_,D_0⟩,d_Book_put:=⟨_,_,D_3⟩,d_Book_tree:=⟨_,_,D_4⟩,d_Book_near:=⟨_,_,D_1⟩,d_Book_nearest:=⟨_,_,D_2⟩,d_Knot___init__:=⟨_,_,D_5⟩}
 exact⟨aW "law" "law" (zao zdO) (zan zdO) (zac zdO) .none kV_22 dc_22 pm_22 an_22 cd_22 ct_22,fun s v=>.of_eq rfl,fun base _ _=>(ok_law T (.of F_22)).imp fun _ _ _ _ h=>sp_law h⟩
def walk{l:gU}{q:aN}{loose:List Str}{XP:(Str->Option ae)->bd->Prop}{YP:aV->bd->Prop}{d:DefRec}{K:Params->ag}(hn:l.most=aa 63)(hdf:d.params.defaults=[])
  (hY:∀ (w:aV) (h:bd),YP w h->(K w.params).In h)
  (F:∀ (w:aV) (mg:Str->Option ae) (fa:af) (h:bd),(K w.params).In h->h.Ns aI mg->mg d.name=aa (.ref fa) ->
   ∃ fd:bw,(∀ (s:ah) (u:ae),BindsTo s fd ⟨[u],[]⟩ [("_law_script",u)])/\∀ base:bd,(K w.params).In base->base.Ns aI mg->FnOk l.prog w (K w.params) mg base CX0 19 fa fd ["_law_script"] (spLaw (K w.params))) :
  jE q loose XP YP l.row.toRowW d [] (fun f vs=>jl f vs):=
 L2.walk_of (n:=63) (k:=19) (x:= "_law_script") (CX:=fun _=>CX0) (sp:=fun w=>spLaw (K w.params)) hn (by decide) hdf ⟨rfl,by decide,by decide⟩ hY F (fun _ _ a ns hl _ hS=>⟨a,ns,rfl,hS,hl,fun _=>rfl⟩) fun _ _ _ _ _ z=>z
end N53
open PySem PySem.W PyProof.Rows
set_option maxRecDepth 100000 in
set_option maxHeartbeats 0 in
theorem PySem.Challenge.cw_nearfind_k53_whole_nearest_any_order_holds : PySem.Challenge.rw_nearfind_k53_whole_nearest_any_order.Holds := by
 refine holds_law (by kernel_rfl) fun said=>?_;refine holds_open (q:=TopH.topView) (loose:=TopH.topLoose) (Xt:=fun s=>recOk (jW TopH.topRow) s) (XP:=fun _ _=>True) (Yf:=TopH.topHook.obs) (Ya:=TopH.topHook.val) (YP:=TopH.topHook.says) (N:=12000) TopH.topLeft TopH.topHook.of TopH.topHook.keeps (fun _ _=>trivial) (fun _ _ _ _ _=>trivial) (by rfl) (by rfl) (by rfl) (fun s e=>recFacts_of e) (by rfl) (by assumption) (by decide +kernel) ⟨rfl,rfl,rfl,rfl,rfl,by decide +kernel⟩ ?hw ?hc
 (case hw=>w_witness2)
 unfold TopH.topHook
 k_fill
 refine N53.walk (l:=PySem.Challenge.rw_nearfind_k53_whole_nearest_any_order) rfl rfl (fun w h Y=>PySem.W.kIn_of Y) ?F
 case F=>
  intro w mg fa h KX G hmg;refine' N53.all_mk KX G hmg ?a_Book ?p1_Book ?p2_Book ?p3_Book ?p4_Book ?n_Book_top ?m1_Book ?m2_Book ?a_Knot ?p1_Knot ?p2_Knot ?p3_Knot ?p4_Knot ?n_Knot_word ?n_Knot_branches ?m1_Knot ?m2_Knot ?a_17 ?l_17 ?c_17 ?k_17 ?e_17 ?a_25 ?l_25 ?c_25 ?k_25 ?a_26 ?l_26 ?c_26 ?k_26 ?a_18 ?l_18 ?c_18 ?k_18 ?a_19 ?l_19 ?c_19 ?k_19 ?a_16 ?l_16 ?c_16 ?k_16 ?a_28 ?l_28 ?c_28 ?k_28 ?a_23 ?l_23 ?c_23 ?k_23 ?a_24 ?l_24 ?c_24 ?k_24 ?a_27 ?l_27 ?c_27 ?k_27 ?a_20 ?l_20 ?c_20 ?k_20 ?a_29 ?l_29 ?c_29 ?k_29 ?a_21 ?l_21 ?c_21 ?k_21 ?a_7 ?l_7 ?c_7 ?k_7 ?a_12 ?l_12 ?c_12 ?k_12 ?a_14 ?l_14 ?c_14 ?k_14 ?a_15 ?l_15 ?c_15 ?k_15 ?a_10 ?l_10 ?c_10 ?k_10 ?a_8 ?l_8 ?c_8 ?k_8 ?a_11 ?l_11 ?c_11 ?k_11 ?a_9 ?l_9 ?c_9 ?k_9 ?a_13 ?l_13 ?c_13 ?k_13 ?a_6 ?l_6 ?c_6 ?k_6 ?a_22 ?l_22 ?c_22 ?k_22 ?a_0 ?l_0 ?c_0 ?k_0 ?i_0 ?a_3 ?l_3 ?c_3 ?k_3 ?i_3 ?a_4 ?l_4 ?c_4 ?k_4 ?i_4 ?a_1 ?l_1 ?c_1 ?k_1 ?i_1 ?a_2 ?l_2 ?c_2 ?k_2 ?i_2 ?a_5 ?l_5 ?c_5 ?k_5 ?i_5 ?z_abs ?z_bool ?z_dict ?z_int ?z_isinstance ?z_len ?z_list ?z_min ?z_range ?z_reversed ?z_set ?z_sorted ?z_tuple ?q_PUT ?q_LEFT ?q_EXCHANGED ?q_TURNED ?q_PLAIN_PRICES ?l_PLAIN_PRICES
  (case a_Book=>k_is)
  (case p1_Book=>k_is)
  (case p2_Book=>k_is)
  (case p3_Book=>k_is)
  (case p4_Book=>k_is)
  (case n_Book_top=>k_is)
  (case m1_Book=>k_is)
  (case m2_Book=>k_is)
  (case a_Knot=>k_is)
  (case p1_Knot=>k_is)
  (case p2_Knot=>k_is)
  (case p3_Knot=>k_is)
  (case p4_Knot=>k_is)
  (case n_Knot_word=>k_is)
  (case n_Knot_branches=>k_is)
  (case m1_Knot=>k_is)
  (case m2_Knot=>k_is)
  (case a_17=>k_is)
  (case l_17=>k_is)
  (case c_17=>k_is)
  (case k_17=>k_is)
  (case e_17=>exact⟨_,_,_,rfl,by k_is,rfl⟩)
  (case a_25=>k_is)
  (case l_25=>k_is)
  (case c_25=>k_is)
  (case k_25=>k_is)
  (case a_26=>k_is)
  (case l_26=>k_is)
  (case c_26=>k_is)
  (case k_26=>k_is)
  (case a_18=>k_is)
  (case l_18=>k_is)
  (case c_18=>k_is)
  (case k_18=>k_is)
  (case a_19=>k_is)
  (case l_19=>k_is)
  (case c_19=>k_is)
  (case k_19=>k_is)
  (case a_16=>k_is)
  (case l_16=>k_is)
  (case c_16=>k_is)
  (case k_16=>k_is)
  (case a_28=>k_is)
  (case l_28=>k_is)
  (case c_28=>k_is)
  (case k_28=>k_is)
  (case a_23=>k_is)
  (case l_23=>k_is)
  (case c_23=>k_is)
  (case k_23=>k_is)
  (case a_24=>k_is)
  (case l_24=>k_is)
  (case c_24=>k_is)
  (case k_24=>k_is)
  (case a_27=>k_is)
  (case l_27=>k_is)
  (case c_27=>k_is)
  (case k_27=>k_is)
  (case a_20=>k_is)
  (case l_20=>k_is)
  (case c_20=>k_is)
  (case k_20=>k_is)
  (case a_29=>k_is)
  (case l_29=>k_is)
  (case c_29=>k_is)
  (case k_29=>k_is)
  (case a_21=>k_is)
  (case l_21=>k_is)
  (case c_21=>k_is)
  (case k_21=>k_is)
  (case a_7=>k_is)
  (case l_7=>k_is)
  (case c_7=>k_is)
  (case k_7=>k_is)
  (case a_12=>k_is)
  (case l_12=>k_is)
  (case c_12=>k_is)
  (case k_12=>k_is)
  (case a_14=>k_is)
  (case l_14=>k_is)
  (case c_14=>k_is)
  (case k_14=>k_is)
  (case a_15=>k_is)
  (case l_15=>k_is)
  (case c_15=>k_is)
  (case k_15=>k_is)
  (case a_10=>k_is)
  (case l_10=>k_is)
  (case c_10=>k_is)
  (case k_10=>k_is)
  (case a_8=>k_is)
  (case l_8=>k_is)
  (case c_8=>k_is)
  (case k_8=>k_is)
  (case a_11=>k_is)
  (case l_11=>k_is)
  (case c_11=>k_is)
  (case k_11=>k_is)
  (case a_9=>k_is)
  (case l_9=>k_is)
  (case c_9=>k_is)
  (case k_9=>k_is)
  (case a_13=>k_is)
  (case l_13=>k_is)
  (case c_13=>k_is)
  (case k_13=>k_is)
  (case a_6=>k_is)
  (case l_6=>k_is)
  (case c_6=>k_is)
  (case k_6=>k_is)
  (case a_22=>k_is)
  (case l_22=>k_is)
  (case c_22=>k_is)
  (case k_22=>k_is)
  (case a_0=>k_is)
  (case l_0=>k_is)
  (case c_0=>k_is)
  (case k_0=>k_is)
  (case i_0=>k_is)
  (case a_3=>k_is)
  (case l_3=>k_is)
  (case c_3=>k_is)
  (case k_3=>k_is)
  (case i_3=>k_is)
  (case a_4=>k_is)
  (case l_4=>k_is)
  (case c_4=>k_is)
  (case k_4=>k_is)
  (case i_4=>k_is)
  (case a_1=>k_is)
  (case l_1=>k_is)
  (case c_1=>k_is)
  (case k_1=>k_is)
  (case i_1=>k_is)
  (case a_2=>k_is)
  (case l_2=>k_is)
  (case c_2=>k_is)
  (case k_2=>k_is)
  (case i_2=>k_is)
  (case a_5=>k_is)
  (case l_5=>k_is)
  (case c_5=>k_is)
  (case k_5=>k_is)
  (case i_5=>k_is)
  (case z_abs=>k_is)
  (case z_bool=>k_is)
  (case z_dict=>k_is)
  (case z_int=>k_is)
  (case z_isinstance=>k_is)
  (case z_len=>k_is)
  (case z_list=>k_is)
  (case z_min=>k_is)
  (case z_range=>k_is)
  (case z_reversed=>k_is)
  (case z_set=>k_is)
  (case z_sorted=>k_is)
  (case z_tuple=>k_is)
  (case q_PUT=>k_is)
  (case q_LEFT=>k_is)
  (case q_EXCHANGED=>k_is)
  (case q_TURNED=>k_is)
  (case q_PLAIN_PRICES=>k_is)
  (case l_PLAIN_PRICES=>k_is)
#print axioms PySem.Challenge.cw_nearfind_k53_whole_nearest_any_order_holds


