import PyProof.Rows.All
import Wide.All
import OpenK.AllK
import Wide.FinOn
import Lean
import PyProof.EqAt
import PyProof.EqKinds
import PyProof.TupleCall
import PyProof.NeKinds
import PyProof.SetNew
import PyProof.SetRoads
import PyProof.Rows.SetFrom
import PyProof.CollectStr
import PyProof.ZipIter
import PyProof.Rows.StrNews2
import PyProof.Rows.StrCut
import KE.KRevIter
import PyProof.Rows.StrRev
import PyProof.EnumMake
import PyProof.Draws
import PySem.Challenge.RW_nearfind_k63_whole_from_texts
open Array renaming length_toList->aE,getElem_mem->bo,getElem?_toList->cO,toList_extract->cU,mem_toList_iff->dh,getElem_extract->dB,toList_push->dE,getElem_toList->dG,toList_append->dP,append_empty->dY,toList_reverse->eF,getElem?_eq_some_iff->eK,getElem?_eq_getElem->eR,toList_zip->fY,eq_empty_of_size_eq_zero->gk,getD_eq_getD_getElem?->gM,size_extract->gP,toList_setIfInBounds->gY,perm_iff_toList_perm->gZ,replicate->iJ,toArray_toList->je,ext'->jg,reverse_empty->jn,toList->ju,toList_inj->jT
open Bool renaming false_ne_true->aP,false_eq_true->bm,and_eq_true->cc,and_false->d9,not_true->eL,eq_iff_iff->eQ,false_and->gC,not_eq_true'->hJ,and_eq_false_imp->i5,or_eq_false_iff->jf,or_false->jj,and_true->jk,or_eq_true_iff->jl,true_or->jC,true_and->ko
open Classical renaming byContradiction->kG,propDecidable->k9
open Decidable renaming byContradiction->kF
open Eq renaming trans->fq
open False renaming elim->cy
open ForInStep renaming yield->dy
open Int renaming emod_lt_of_pos->cG,emod_nonneg->cM,toNat_natCast->cV,natCast_nonneg->dZ,le_of_lt_add_one->eG,eq_ofNat_of_zero_le->iD,le_refl->iY,add_zero->jB,ediv_one->kU
open List renaming mem_cons_of_mem->aq,range->au,length_map->aw,mem_cons_self->ax,replicate->az,getElem?_map->aB,mem_cons->aF,map_cons->aH,mem_append_right->aI,length_cons->aJ,getElem?_eq_getElem->aN,nodup_cons->aZ,getElem?_eq_some_iff->a7,length_append->a8,size_toArray->a9,getElem?_set->bg,mem_singleton->bn,append_nil->bp,drop_eq_getElem_cons->bq,mem_append->br,append_assoc->bw,all_eq_true->bH,not_mem_nil->bI,getElem?_append_right->bL,getD_eq_getElem?_getD->bM,map_map->bN,getElem?_append_left->bO,nodup_append->bP,mem_append_left->bQ,mem_of_getElem?->bR,lookup_cons->bX,mem_map->bY,getElem?_range->cg,lookup->cj,length_take->cr,rel_of_pairwise_cons->cx,length_range->cz,map_append->cC,nil_append->cD,range'->cJ,extract_eq_drop_take->cL,findIdx?_eq_some_iff_getElem->c6,mem_range->c8,length_replicate->c9,getElem?_take_of_lt->di,map_nil->dj,range_succ->dk,getElem?_eq_none->dz,length_nil->dA,reverse_cons->dD,ext_getElem->dM,getElem?_replicate->dQ,mem_filterMap->dR,forIn_cons->dS,foldl_cons->dU,zip_cons_cons->dX,take_of_length_le->d5,eq_nil_of_length_eq_zero->d6,take_append_drop->ef,cons_lt_cons_iff->eu,length_drop->eB,getElem_mem->eD,isEmpty_nil->eE,all_cons->eJ,length_reverse->eN,map_congr_left->eO,takeWhile_cons->eP,pairwise_iff_getElem->eU,drop_zero->fD,getElem?_cons_succ->fI,getElem?_cons_zero->fJ,length_eq_zero_iff->fL,pairwise_map->fN,flatMap_cons->fP,length->fQ,range'_succ->fU,zipIdx_cons->fV,length_singleton->f9,perm_append_comm->ga,mem_filter->gc,mem_iff_getElem->gj,range_eq_range'->gu,filterMap_cons->gz,take_succ_cons->gB,forIn_nil->gF,getElem?_drop->gO,length_eraseIdx_of_lt->gX,sum_cons->g6,getLast?_eq_getElem?->ie,findIdx?_eq_none_iff->ig,map_snd_zip->ij,drop_length->ik,take_length->iq,getElem_map->iy,mem_reverse->iA,map_reverse->iC,of_mem_zip->iG,length_zip->iM,range_zero->iO,getElem?_set_self->iQ,drop_eq_nil_of_le->iX,take_zero->i4,getElem?_reverse->i6,getElem?_toArray->i7,pairwise_reverse->i8,countP_mono_left->i9,getElem?_set_ne->jb,mem_of_mem_drop->jh,mem_of_mem_take->ji,flatMap_append->jp,filterMap_map->jx,ext_getElem?->jI,reverse_perm->jJ,map_id->jP,cons_append->jU,countP_cons->jV,mem_flatMap->jW,zipIdx_nil->j4,drop_drop->j9,take_nil->ki,drop_nil->kj,not_lt->ly
open List.Pairwise renaming of_cons->db,nil->lX
open List.Perm renaming refl->ke,eq_of_pairwise->k7
open List.Sublist renaming slnil->lV
open List.cons renaming injEq->iN,inj->mf
open Nat renaming le_refl->am,ne_of_lt->aL,le_trans->aS,zero_le->aU,lt_of_lt_of_le->aW,zero_add->bv,le_of_lt->bz,lt_irrefl->bK,le_add_right->cI,lt_succ_self->cP,lt_succ_of_lt->cW,le_succ->cY,sub_zero->du,sub_self->dw,add_lt_of_lt_sub->dF,add_le_add_left->dO,min_eq_left->dW,le_of_eq->d8,ne_of_gt->eV,lt_of_le_of_lt->eY,add_comm->fg,min_le_right->fT,lt_of_not_le->fW,add_zero->gq,add_sub_cancel->gQ,not_lt->ic,lt_of_succ_lt_succ->iV,mul_le_mul->ja,min_self->jz,sub_add_cancel->jD,lt_of_succ_lt->jK,min_le_left->j6,mod_lt->lD
open Nat.succ renaming inj->kX
open Ne renaming symm->cN
open Option renaming some->aa,none->ab,bind_some->cQ,map_eq_some_iff->cZ,bind->dH,map_some->eS,getD_none->jS,none->lr,map->lE
open Option.some renaming inj->aR,injEq->l5
open Or renaming inl->aD,inr->bA
open Prod.mk renaming inj->lm
open PyProof.Rows renaming wpS_bind->aA,wpS_pure->aG,pendingOf->bf,slot_tuple_getitem->bu,callWith_type1->bU,wpS_forRange->ce,callWith_builtin1->gh,callWith_kw->kW,stripBy_eq->lh
open PyProof.Rows.SortSt renaming mk'->fF
open PySem renaming wpAny_bind->ae,Value->af,Shared->ah,Addr->ai,wpAny_pure->ak,wpAny->av,Program->aK,bootBuiltins->aM,World->aO,Around->aQ,Heap->aT,mainGlobals->aV,sizeLine->aX,starEach->aY,compareOp->bC,FuncData->bF,mem_of_lookup->bW,attributeBase->b9,wpAny_mono->cf,foldedSetIterable->ci,sizeLine_eq->cq,wpAny_holding->cA,wpAny_Call_Name_kw->cF,assignEach->cH,strKind->dq,Within->jt,call->jX
open PySem.Around renaming under_plainId->bS,under->jv
open PySem.AutoSeq1 renaming wpAny_loadPart'->e9
open PySem.Builtin.Builtins renaming bindParams->gJ
open PySem.Builtin.Frozenset renaming updateFrom->gG,newClass->km,addrOf->k5,sizeOf->k6,slot0->lb
open PySem.Builtin.List renaming listExtendWith->dv,listSameRef->dN,listLengthHint->ez,listTooLong->eX,listUpdate->lg,listTouch->lu
open PySem.Builtin.Range renaming rangeSize->k8
open PySem.Builtin.Slice renaming slicePlaces->bZ,sliceAdjust->dc,sliceApplied->dC,sliceFields->hZ,slicePartIndex->j8
open PySem.Builtin.SmallTypes renaming nextOf->bE,ownedTupleIsFree->cS,ownedTupleHandOut->eZ
open PySem.Builtin.Str renaming strSliceIndices->cX,occurrences->fG,subAt->hV,strSub->lU
open PySem.Builtin.Tuple renaming tupleExact->bG,tupleItemsOf->eI,tupleIsExact->gU
open PySem.Calls renaming spliced_cons->gH,Name_function_global->gT,spliced_nil->hG,call_function_entry->ii,callWith_builtin->iU,evalArgs_plain->jc
open PySem.Code renaming isFrame->jw,frames->lq
open PySem.Data renaming cell->iE,fields->jM,seq->jQ
open PySem.DictEntry renaming refKey->l6
open PySem.EqMixed renaming eq_bool_str->kx,eq_str_bool->ky,ne_bool_str->kD,ne_str_bool->kE,eq_int_str->kL,eq_str_int->kN,ne_int_str->kR,ne_str_int->kT
open PySem.EqNone renaming eq_none_none->kr,eq_none_bool->kt,eq_bool_none->ku,ne_none_none->kz,ne_none_bool->kB,ne_bool_none->kC,eq_none_int->kI,eq_none_str->kJ,eq_int_none->kK,eq_str_none->kM,ne_none_int->kO,ne_none_str->kP,ne_int_none->kQ,ne_str_none->kS
open PySem.Expr renaming Call->lT
open PySem.F renaming plain_min_loop->b6,entry_min_loop->d3,args_tuple_add_2->eW,entry_tuple_add->fH,plainAttrs_list->fK,slot_tuple_add->fR,plainAttrs_str->fS,slot_list_append->im,type_list_append->ip,slot_str_getitem->iu,slot_tuple_index->iz
open PySem.Heap renaming get?_push_of_some->aj,get?_push_size->ay,lt_size->aC,size_push->bD,get?_update_other->cw,get?_update_self->da,SameBut->dJ,size_update->fZ,get?_push_ne->hU,get?_update_ne->jo,ExtBut->jN
open PySem.Heap.IsList renaming push->l9
open PySem.Heap.IsSliceOf renaming new->jy
open PySem.Heap.IsTuple renaming push->lZ
open PySem.Heap.SameBut renaming update->eM
open PySem.IsL renaming update->l7
open PySem.ItemsOf renaming nil->lv
open PySem.NameKind renaming free->bB,cell->c7
open PySem.Obj renaming mapSeq->cn,putSet->jd,data_mapFields->jA
open PySem.PassesOwn renaming never->jZ
open PySem.SeqAt renaming EqAt->fC
open PySem.SeqAt.EqAt renaming of_refs->gL,same->iH,int_str->jq,str_int->jr,none_bool->lz,bool_none->lA,bool_bool->lB,none_int->lF,none_str->lG,bool_int->lH,bool_str->lI,int_none->lJ,int_bool->lK,str_none->lL,str_bool->lM,int_int->lP,str_str->lQ
open PySem.SeqAt.RcAt renaming lists_lengths->kZ,tuples->lY,lists->l8
open PySem.SeqAt.RcNeAt renaming lists_lengths->kl,tuples->lN,lists->lS
open PySem.SetTable renaming below->em
open PySem.SetTable.below renaming go->jH
open PySem.Shared renaming TypeIs->gW,heap->iW
open PySem.Str renaming ofString->bT,length->gi,empty->kf,join->kY
open PySem.StrLaws renaming occBody->dm,strSliceIndices_plain->gw
open PySem.Txt renaming stripChars->dI,find3->gN,slice_le->iw,join->ix,sliceBy->jO,slice->kg
open PySem.Value renaming ref->bj,str->cE,type->cR,none->de,int->f7,bool->gb,isStrOf_shape->gy,isStrOf->gR,float->jL,bytes->lj
open PySem.W renaming Frag->ag,findIn->ba,nsIn->be,mg_none_of->bx,keepIn->bJ,fnOf->bV,mg_of->ca,codeIn->ck,kia_one->cB,emptyDict->cK,instObj->dg,isFn->dr,plainGet->dL,hasDictIn->d7,plainOver->fM,makesIn->gg,plainGet_of->gA,lookIn->gD,callWith_K->gI,methodObj->g9,takerIn->iF,OpenLaw->iI,binds_K->iP,cellsFrom_some->iR,kitOne->iZ,methodCall_KW->i3,specialIn->jE,kitx_list->jF,kitx_dict->jG,handedIn->jR,kat_nil->j7,WalkO->kh
open PySem.W.Looks renaming here->lO
open PySem.W.RowW renaming records->kH
open PySem.W.WData renaming int->lR
open PySem.W.WShape renaming has->lC
open PySem.Walks renaming list->jY
open PySem.Within renaming cons->lW
open Std.Legacy.Range renaming forIn_eq_forIn_range'->jm
open Sum renaming inr->fw,inl->f6
open True renaming intro->fB
noncomputable section
namespace TopH
open PySem PySem.W PyProof.Rows
local macro_rules | `(tactic| o_head $H)=>`(tactic| (contradiction;exact $H))
set_option maxRecDepth 100000
set_option maxHeartbeats 0 in
noncomputable def topHook:Hook:=by
 refine(fun(_:False->PySem.Challenge.rw_nearfind_k63_whole_from_texts.row.Holds)=>?H) ?g;rotate_left;intro _
 k_head
abbrev topProg:aK:=PySem.Challenge.pw_nearfind_k63_whole_from_texts
noncomputable def topView:aK:=view topProg [56]
noncomputable def topLoose:List Str:=["PUT","LEFT","EXCHANGED","TURNED","cells_of","price_between","row_across","first_column","further_column","cell_ahead_of_turn","stepped","lowest","CLASSES_USED","SIGNS_USED","PLACE_IN_PRICES","row_between","last_step","comes_last","can_stand","is_done","step_price","Sight","ends_in","stretch_at","ends_of_many","prices_at_ends","prices_by_length","first_lowest","Finder","FindError","NoPattern","LETTERS","MOST_CLASSES","show_pattern","show_class","read_pattern","end_of_class","read_class","is_class","_law_cell","_law_digits","_law_pool","_law_text","_law_class","_law_pattern","_law_prices","_law_alike","_law_written","_law_one"].map bT
abbrev topRow:RowW:=OpenRow.toRowW (OpenLaw.row PySem.Challenge.rw_nearfind_k63_whole_from_texts)
abbrev topAt(w:aO):Prop:=(openEnds treeTable topProg w 12000).map (fun s=>(openSeen topView topLoose (importedModules topProg.main.body) (fun s=>recOk (kH topRow) s) true s,topHook.obs s))=aa (openGood topView topLoose,topHook.val w)
theorem topLeft0(w:aO):topAt (w.withFollow "special-get-raises" false):=by kernel_rfl
theorem topLeft1(w:aO):topAt (w.withFollow "special-get-raises" true):=by kernel_rfl
theorem topLeft:∀ w:aO,topAt w:=byRow2 "special-get-raises" (P:=topAt) topLeft0 topLeft1
end TopH
set_option Elab.async false
set_option linter.all false
set_option maxRecDepth 100000
namespace L2
open PySem PySem.Spec PyProof.Rows
abbrev Key:=Sum Int Str
def keyIs:Key->af->Bool
 |.inl k,v=>Value.isInt k v
 |.inr x,v=>gR x v
def keyH(w:aO):Key->Int
 |.inl k=>hashInt k
 |.inr x=>hashStr w x
def zaX:∀{k:Key} {v:af},keyIs k v=true->(∃i t,k=f6 i/\v=f7 i t)\/(∃x t,k=fw x/\v=cE x t)
 |.inl i,v,h=>by
  obtain⟨t,e⟩:=Value.isInt_shape (k:=i) (v:=v) h;exact .inl ⟨i,t,rfl,e⟩
 |.inr x,v,h=>by
  obtain⟨t,e⟩:=gy (x:=x) (v:=v) h;exact .inr ⟨x,t,rfl,e⟩
def key_ll(a b:Int):decide ((f6 a:Key)=f6 b)=(a==b):=by
 by_cases e:a=b
 ·subst e;simp
 ·have h:¬ (f6 a:Key)=f6 b:=λq=>e (Sum.inl.inj q);rw[decide_eq_false h];exact(beq_eq_false_iff_ne.mpr e).symm
def key_rr(a b:Str):decide ((fw a:Key)=fw b)=decide (a=b):=by
 by_cases e:a=b
 ·subst e;simp
 ·have h:¬ (fw a:Key)=fw b:=λq=>e (Sum.inr.inj q);rw[decide_eq_false h,decide_eq_false e]
def key_lr(a:Int)(b:Str):decide ((f6 a:Key)=fw b)=false:=decide_eq_false (λq=>nomatch q)
def key_rl(a:Str)(b:Int):decide ((fw a:Key)=f6 b)=false:=decide_eq_false (λq=>nomatch q)
def zfT(prog:aK)(w:aO):PySem.KeyKind prog w Key where
 is:=keyIs
 hash:=keyH w
 inj:=λv a b ha hb=>by
  rcases zaX ha with ⟨i,t,rfl,rfl⟩|⟨x,t,rfl,rfl⟩
  ·rcases zaX hb with ⟨j,u,rfl,e⟩|⟨y,u,rfl,e⟩
   ·injection e with e1 _;rw[e1]
   ·exact nomatch e
  ·rcases zaX hb with ⟨j,u,rfl,e⟩|⟨y,u,rfl,e⟩
   ·exact nomatch e
   ·injection e with e1 _;rw[e1]
 byValue:=λk v h=>by
  rcases zaX h with ⟨i,t,rfl,rfl⟩|⟨x,t,rfl,rfl⟩ <;> rfl
 pyHash:=λhv h=>by
  rcases zaX hv with ⟨i,t,rfl,rfl⟩|⟨x,t,rfl,rfl⟩
  ·exact wpAny_pyHash_int h
  ·exact wpAny_pyHash_str h
 eqBool:=λhu hv h=>by
  rcases zaX hu with ⟨i,t,rfl,rfl⟩|⟨x,t,rfl,rfl⟩
  ·rcases zaX hv with ⟨j,u,rfl,rfl⟩|⟨y,u,rfl,rfl⟩
   ·rw[key_ll]at h;exact wpAny_eqBool_int h
   ·rw[key_lr]at h;exact jq i t y u _ _ _ _ h
  ·rcases zaX hv with ⟨j,u,rfl,rfl⟩|⟨y,u,rfl,rfl⟩
   ·rw[key_rl]at h;exact jr x t j u _ _ _ _ h
   ·rw[key_rr]at h;exact wpAny_eqBool_str h
 «strs» :=λk x t v h=>by
  rcases zaX h with ⟨i,u,rfl,e⟩|⟨y,u,rfl,e⟩
  ·exact nomatch e
  ·injection e with e1 _;subst e1;cases v <;> rfl
end L2
namespace L2
open PySem PySem.Spec PyProof.Rows
inductive V where
 |non|bl (b:Bool)|int (i:Int)|str (x:Str)|byt (b:Array UInt8)|flt (b:UInt64)|ref (a:ai)|ty (n:String)
 deriving DecidableEq
def RelV:V->af->Prop
 |.non,u=>u=de
 |.bl b,u=>u=gb b
 |.int i,u=>∃t,u=f7 i t
 |.str x,u=>∃t,u=cE x t
 |.byt b,u=>∃t,u=lj b t
 |.flt b,u=>∃t,u=jL b t
 |.ref a,u=>u=bj a
 |.ty n,u=>u=cR n
abbrev Vals:List V->List af->Prop:=Paired RelV
def Vals.length{xs:List V}{us:List af}(r:Vals xs us):xs.length=us.length:=Paired.length r
def Vals.get:∀{xs:List V} {us:List af} {i:Nat} {x:V},Vals xs us->xs[i]? =aa x->∃u,us[i]? =aa u/\RelV x u
 | _,_,_,_,.nil,e=>by simp at e
 | _,_,0,_,.cons r _,e=>by simp at e;subst e;exact⟨_,rfl,r⟩
 | _,_,i+1,x,.cons _ t,e=>by
  obtain⟨u,h1,h2⟩:=Vals.get (i:=i) (x:=x) t (by simpa using e);exact⟨u,by simpa using h1,h2⟩
def Vals.append:∀{xs ys:List V} {us ws:List af},Vals xs us->Vals ys ws->Vals (xs++ys) (us++ws)
 | _,_,_,_,.nil,s=>s
 | _,_,_,_,.cons r t,s=>.cons r (Vals.append t s)
def Vals.take:∀{xs:List V} {us:List af} (n:Nat),Vals xs us->Vals (xs.take n) (us.take n)
 | _,_,0,_=>.nil
 | _,_,_+1,.nil=>.nil
 | _,_,n+1,.cons r t=>.cons r (Vals.take n t)
def Vals.drop:∀{xs:List V} {us:List af} (n:Nat),Vals xs us->Vals (xs.drop n) (us.drop n)
 | _,_,0,r=>r
 | _,_,_+1,.nil=>.nil
 | _,_,n+1,.cons _ t=>Vals.drop n t
def RelO:Option V->Option af->Prop
 |some v,aa u=>RelV v u
 |none,ab=>True
 | _,_=>False
def KV{κ:Type}:List (κ×V)->List (κ×af)->Prop:=Paired λ(p:κ×V) (q:κ×af)=>p.1=q.1/\RelV p.2 q.2
def kV:Key->V
 |.inl i=>.int i
 |.inr x=>.str x
inductive HO where
  |lst (xs:List V)
  |tup (xs:List V)
  |dK (kvs:List (Key×V))|dT (kvs:List (List Key×V))
  |set (S:Int->Bool) (n:Nat)
  |ins (C dx:ai) (fs:List (Str×V))
  |own (x:ai)
  |xd (fs:List (Str×V))
  |met (f x:ai)
  |rng (lo hi:Int)
  |frz (o:Obj) (u:HO)
  |tbl (ps:Array af)
  |ext (φ:aT->Prop)
abbrev Hp:=ai->Option HO
def upd(H:Hp)(a:ai)(o:HO):Hp:=λb=>if b=a then aa o else H b
def zam{H:Hp}{a:ai}{o:HO}:upd H a o a=aa o:=by unfold upd;rw[if_pos rfl]
def zar{H:Hp}{a b:ai}{o:HO}(h:b≠a):upd H a o b=H b:=by unfold upd;rw[if_neg h]
def zaC{H:Hp}{a b:ai}{o:HO}(h:H a=aa o)(h':H b=ab):a≠b:=by
 intro e;subst e;rw[h]at h';cases h'
section
variable (P:aK)(w:aO)
def TupN(h:aT)(a:ai)(ts:Array af):Prop:=∃o,h.get? a=aa o/\o.cls=.type "tuple" /\ ∃n,(o.data,o.dict)=(jQ ts n,ab)
def TupN.is{h:aT}{a:ai}{ts:Array af}(x:TupN h a ts):IsTup h a ts:=let⟨o,e,c,n,d⟩:=x;⟨o,e,c,n,(lm d).1⟩
def TupN.lt{h:aT}{a:ai}{ts:Array af}(x:TupN h a ts):a<h.objs.size:=x.is.lt
def TupN.nod{h:aT}{a:ai}{ts:Array af}(x:TupN h a ts):∃o,h.get? a=aa o/\o.dict=ab:=let⟨o,e,_,_,d⟩:=x;⟨o,e,(lm d).2⟩
def TupN.new(h:aT)(ts:Array af):TupN (h.push { cls:=.type "tuple",data:=.seq ts}) h.objs.size ts:=⟨_,ay _ rfl,rfl,0,rfl⟩
instance {h:aT}{a:ai}{ts:Array af}:Coe (TupN h a ts) (IsTup h a ts):=⟨TupN.is⟩
def ObjOk(H:Hp)(h:aT)(a:ai):HO->Prop
 |.lst xs=>xs.length<=aX/\∃(its:List af) (n:Nat),Vals xs its/\h.get? a=aa { cls:=.type "list",data:=.seq its.toArray n}
 |.tup xs=>xs.length<=aX/\∃its:List af,Vals xs its/\TupN h a its.toArray
 |.dK kvs=>kvs.length<=aX/\(a==sysModules)=false/\∃vs,KV kvs vs/\h.DictOf (zfT P w) a vs
 | .dT kvs=>kvs.length<=aX/\(a == sysModules)=false/\∃ xs:List (List Key × ai × af),
   Paired (λ(p:List Key×V) (q:List Key×ai×af)=>p.1=q.1/\H q.2.1=aa (.tup (p.1.map kV))/\RelV p.2 q.2.2) kvs xs /\
   ∃o es ep,h.get? a=aa o/\o.ExactDict/\o.data=.dict es ep/\es.toList=xs.map (entryOfKey (tupleKind (zfT P w)))/\(xs.map (·.1)).Nodup
 |.set S n=>h.SetOf (intKind P w) a S n
 | .ins C dx fs=>H dx=aa (.own a)/\fs.length<=1000/\dx ≠ a/\h.get? a=aa (dg C dx) /\
   ∃mA,h.Ns1 dx mA/\(∀f,RelO (fs.lookup f) (mA f))/\jt mA (fs.map (·.1))
 |.own _=>∃o,h.get? a=aa o
 |.xd fs=>∃mA,h.Ns1 a mA/\∀f,RelO (fs.lookup f) (mA f)
 |.rng lo hi=>∃t u v,h.get? a=aa { cls:=.type "range",data:=.fields #[.int lo t,.int hi u,.int 1 v]}
 |.frz o u=>h.get? a=aa o/\ObjOk H h a u
 |.tbl ps=>h.get? a=aa { cls:=.none,data:=.fields ps}
 |.met f x=>h.get? a=aa (g9 (.ref f) (.ref x))
 |.ext φ=>φ h/\(∃o,h.get? a=aa o)/\∀h1 h2:aT,φ h1->(∀o,h1.get? a=aa o->h2.get? a=aa o)->φ h2
def HOk(H:Hp)(h:aT):Prop:=∀a o,H a=aa o->ObjOk P w H h a o
end
section
variable {P:aK}{w:aO}{H H':Hp}{h h':aT}{a:ai}{o:HO}
def ObjOk.lt(x:ObjOk P w H h a o):a<h.objs.size:=by
 cases o with
 |lst xs=>obtain⟨_,_,_,_,e⟩:=x;exact aC e
 |tup xs=>obtain⟨_,_,_,p⟩:=x;exact p.lt
 |dK kvs=>obtain⟨_,_,_,_,o,_,_,e,_⟩:=x;exact aC e
 |dT kvs=>obtain⟨_,_,_,_,o,_,_,e,_⟩:=x;exact aC e
 |set S n=>obtain⟨o,_,_,_,e,_⟩:=x;exact aC e
 |ins C dx fs=>obtain⟨_,_,_,e,_⟩:=x;exact aC e
 |own y=>obtain⟨_,e⟩:=x;exact aC e
 |xd fs=>obtain⟨_,⟨_,_,_,e,_⟩,_⟩:=x;exact aC e
 |rng lo hi=>obtain⟨_,_,_,e⟩:=x;exact aC e
 |frz ob u=>obtain⟨e,_⟩:=x;exact aC e
 |tbl ps=>exact aC (show h.get? a=aa _ from x)
 |met f y=>exact aC (show h.get? a=aa _ from x)
 |ext φ=>obtain⟨_,⟨_,e⟩,_⟩:=x;exact aC e
def Paired.mapP{α β:Type}{F G:α->β->Prop}:∀{l₁:List α} {l₂:List β},Paired F l₁ l₂->(∀a b,F a b->G a b)->Paired G l₁ l₂
 | _,_,.nil,_=>.nil
 | _,_,.cons r t,f=>.cons (f _ _ r) (Paired.mapP t f)
def ObjOk.stay(x:ObjOk P w H h a o)(k:∀b u,(b=a\/H b=aa (.own a))->h.get? b=aa u->h'.get? b=aa u)
  (ho:∀b,H b=aa (.own a)->H' b=aa (.own a)) (ht:∀b xs,H b=aa (.tup xs)->H' b=aa (.tup xs)):ObjOk P w H' h' a o:=by
 induction o with
 |lst xs=>obtain⟨z,its,n,r,e⟩:=x;exact⟨z,its,n,r,k _ _ (.inl rfl) e⟩
 |tup xs=>obtain⟨z,its,r,ob,e,c⟩:=x;exact⟨z,its,r,ob,k _ _ (.inl rfl) e,c⟩
 |dK kvs=>obtain⟨z,y,vs,r,ob,es,ep,e,c⟩:=x;exact⟨z,y,vs,r,ob,es,ep,k _ _ (.inl rfl) e,c⟩
 |dT kvs=>
  obtain⟨z,y,xs,r,ob,es,ep,e,c⟩:=x;exact⟨z,y,xs,Paired.mapP r λp q z=>⟨z.1,ht _ _ z.2.1,z.2.2⟩,ob,es,ep,k _ _ (.inl rfl) e,c⟩
 |set S n=>obtain⟨ob,es,ep,t,e,c⟩:=x;exact⟨ob,es,ep,t,k _ _ (.inl rfl) e,c⟩
 |ins C dx fs=>
  obtain⟨d,z,ne,e,mA,⟨od,es,ep,e2,c⟩,r⟩:=x;exact⟨ho _ d,z,ne,k _ _ (.inl rfl) e,mA,⟨od,es,ep,k _ _ (.inr d) e2,c⟩,r⟩
 |own y=>obtain⟨ob,e⟩:=x;exact⟨ob,k _ _ (.inl rfl) e⟩
 |xd fs=>obtain⟨mA,⟨od,es,ep,e,c⟩,r⟩:=x;exact⟨mA,⟨od,es,ep,k _ _ (.inl rfl) e,c⟩,r⟩
 |rng lo hi=>obtain⟨t,u,v,e⟩:=x;exact⟨t,u,v,k _ _ (.inl rfl) e⟩
 |frz ob u ih=>obtain⟨e,q⟩:=x;exact⟨k _ _ (.inl rfl) e,ih q⟩
 |tbl ps=>
  have e:h.get? a=aa { cls:=.none,data:=.fields ps}:=x;show h'.get? a=aa { cls:=.none,data:=.fields ps};exact k a _ (.inl rfl) e
 |met f y=>
  have e:h.get? a=aa (g9 (.ref f) (.ref y)):=x;show h'.get? a=aa (g9 (.ref f) (.ref y));exact k a _ (.inl rfl) e
 |ext φ=>obtain⟨p,⟨o,e⟩,st⟩:=x;exact⟨st _ _ p λo q=>k _ _ (.inl rfl) q,⟨o,k _ _ (.inl rfl) e⟩,st⟩
def HOk.lt(x:HOk P w H h)(e:H a=aa o):a<h.objs.size:=(x a o e).lt
def HOk.fresh(x:HOk P w H h)(e:h.objs.size<=a):H a=ab:=by
 cases q:H a with
 |none=>rfl
 |some u=>exact absurd (aW (x.lt q) e) (bK _)
def HOk.kept(x:HOk P w H h)(k:∀b u,h.get? b=aa u->h'.get? b=aa u):HOk P w H h':=λa o e=>
 (x a o e).stay (λb u _ q=>k b u q) (λ_ q=>q) λ_ _ q=>q
def HOk.laid(x:HOk P w H h)(k:∀b u,h.get? b=aa u->h'.get? b=aa u)(hp:h.objs.size<=a)(new:ObjOk P w (upd H a o) h' a o):HOk P w (upd H a o) h':=λb u e=>by
 have hn:=x.fresh hp;by_cases hb:b=a
 ·subst hb;rw[zam]at e;cases e;exact new
 ·rw[zar hb]at e;exact(x b u e).stay (λc v _ q=>k c v q) (λc q=>by rw[zar (zaC q hn)];exact q) λc xs q=>by rw[zar (zaC q hn)];exact q
end
def Rd(H:Hp)(a:ai)(u:HO):Prop:=H a=aa u\/∃o,H a=aa (.frz o u)
def Rd.ok{P:aK}{w:aO}{H:Hp}{h:aT}{a:ai}{u:HO}(r:Rd H a u)(x:HOk P w H h):ObjOk P w H h a u:=by
 rcases r with r|⟨o,r⟩
 ·exact x a u r
 ·obtain⟨_,q⟩:=x a _ r;exact q
def Mut:Option HO->Prop
 |some (.lst _)=>True
 |some (.dK _)=>True
 |some (.dT _)=>True
 |some (.set _ _)=>True
 |some (.ins _ _ _)=>True
 |some (.ext _)=>True
 | _=>False
section
variable {P:aK}{w:aO}{H:Hp}{h h':aT}{x e:ai}{o':HO}
def HOk.write(ok:HOk P w H h)(mu:Mut (H x))(he:e=x\/H e=aa (.own x))(k:∀b u,b≠e->h.get? b=aa u->h'.get? b=aa u)(heo:∃u,h'.get? e=aa u)
  (new:ObjOk P w (upd H x o') h' x o'):HOk P w (upd H x o') h':=λb u q=>by
 have nown:∀c y,H c=aa (.own y)->c≠x:=λc y r z=>by subst z;rw[r]at mu;exact mu
 have ntup:∀c xs,H c=aa (.tup xs)->c≠x:=λc xs r z=>by subst z;rw[r]at mu;exact mu
 by_cases hb:b=x
 ·subst hb;rw[zam]at q;cases q;exact new
 ·rw[zar hb]at q;by_cases hbe:b=e
  ·have q':H b=aa (.own x):=by
    rcases he with z|z
    ·exact absurd (hbe.trans z) hb
    ·rw[hbe];exact z
   rw[q]at q';cases q';obtain⟨v,hv⟩:=heo;exact⟨v,by rw[hbe];exact hv⟩
  ·refine(ok b u q).stay (λc v hc r=>k c v ?_ r) (λc r=>by rw[zar (nown c b r)];exact r) λc xs r=>by rw[zar (ntup c xs r)];exact r
   rcases hc with rfl|hc
   ·exact hbe
   ·rintro rfl;rcases he with z|z
    ·exact nown c b hc z
    ·rw[hc]at z;cases z;exact hb rfl
end
structure Un(fs ex:List ai)(H H':Hp)(h h':aT):Prop where
 keep:∀b o,h.get? b=aa o->H b=ab->b∉fs->b∉ex->h'.get? b=aa o
 slot:∀b o,h.get? b=aa o->H b=ab->b∈fs->b∉ex->∃sl,h'.get? b=aa { o with slots:=sl}
 free:∀b o,h.get? b=aa o->H b=ab->b∉ex->H' b=ab
 there:∀b o,h.get? b=aa o->b∉ex->∃o',h'.get? b=aa o'
 tups:∀b xs,H b=aa (.tup xs)->H' b=aa (.tup xs)
 frzs:∀b o u,H b=aa (.frz o u)->H' b=aa (.frz o u)
 tbls:∀b ps,H b=aa (.tbl ps)->∃more,H' b=aa (.tbl (ps++more))
section
variable {fs fs' ex ex':List ai}{H H1 H2:Hp}{h h1 h2 h':aT}{a x e:ai}{o:HO}
def Un.any(u:Un fs ex H H1 h h1){b:ai}{ob:Obj}(q:h.get? b=aa ob)(n:H b=ab)(hx:b∉ex):∃sl,h1.get? b=aa { ob with slots:=sl}:=by
 by_cases hb:b∈fs
 ·exact u.slot b ob q n hb hx
 ·exact⟨ob.slots,u.keep b ob q n hb hx⟩
def Un.kept(k:∀b u,h.get? b=aa u->h'.get? b=aa u):Un fs ex H H h h':=
 ⟨λb ob q _ _ _=>k b ob q,λb ob q _ _ _=>⟨ob.slots,k b ob q⟩,λ_ _ _ n _=>n,λb ob q _=>⟨ob,k b ob q⟩,λ_ _ q=>q,λ_ _ _ q=>q,λ_ ps q=>⟨#[],by rw[q];simp⟩⟩
def Un.refl:Un fs ex H H h h:=Un.kept λ_ _ q=>q
def Un.laid(k:∀b u,h.get? b=aa u->h'.get? b=aa u)(hp:h.objs.size<=a)(hn:H a=ab):Un fs ex H (upd H a o) h h' where
 keep:=λb u q _ _ _=>k b u q
 slot:=λb u q _ _ _=>⟨u.slots,k b u q⟩
 free:=λb u q n _=>by rw[zar (aL (aW (aC q) hp))];exact n
 there:=λb u q _=>⟨u,k b u q⟩
 tups:=λb xs q=>by rw[zar (zaC q hn)];exact q
 frzs:=λb u xs q=>by rw[zar (zaC q hn)];exact q
 tbls:=λb ps q=>⟨#[],by rw[zar (zaC q hn),q];simp⟩
def Un.write(mu:Mut (H x))(he:e=x\/H e=aa (.own x))(k:∀b u,b≠e->h.get? b=aa u->h'.get? b=aa u)(heo:∃u,h'.get? e=aa u):Un fs ex H (upd H x o) h h':=by
 have hx:∀b,H b=ab->b≠x:=λb n z=>by subst z;rw[n]at mu;exact mu
 have hb:∀b,H b=ab->b≠e:=λb n z=>by
  subst z;rcases he with r|r
  ·exact hx b n r
  ·rw[n]at r;cases r
 have hm:∀b u,H b=aa u->¬ Mut (aa u)->b≠x:=λb u q nm z=>by subst z;rw[q]at mu;exact nm mu
 refine⟨λb u q n _ _=>k b u (hb b n) q,λb u q n _ _=>⟨u.slots,k b u (hb b n) q⟩,λb u q n _=>by rw[zar (hx b n)];exact n,λb u q _=>?_,
  λb xs q=>by rw[zar (hm b _ q λz=>z)];exact q,λb u xs q=>by rw[zar (hm b _ q λz=>z)];exact q,λb ps q=>⟨#[],by rw[zar (hm b _ q λz=>z),q];simp⟩⟩
 by_cases hbe:b=e
 ·subst hbe;exact heo
 ·exact⟨u,k b u hbe q⟩
end
def trk(h:aT)(H:Hp):List ai:=(au h.objs.size).filter λa=>(H a).isSome
def hidT(h:aT)(H:Hp):aT:=PySem.W.hideAll h (trk h H)
def hidT_size(h:aT)(H:Hp):(hidT h H).objs.size=h.objs.size:=PySem.W.hideAll_size _ _
def hidT_get{h:aT}{H:Hp}{b:ai}{o:Obj}(e:h.get? b=aa o)(n:H b=ab):(hidT h H).get? b=aa o:=
 PySem.W.hideAll_get _ e λhm=>by
  have q:(H b).isSome=true:=(gc.mp hm).2;rw[n]at q;simp at q
def of_hidT{h:aT}{H:Hp}{b:ai}{o:Obj}(e:(hidT h H).get? b=aa o):h.get? b=aa o/\H b=ab:=by
 have e':h.get? b=aa o:=PySem.W.of_hideAll (trk h H) e;refine⟨e',?_⟩;cases q:H b with
 |none=>rfl
 |some x=>
  have hm:b∈trk h H:=gc.mpr ⟨c8.mpr (aC e'),by simp[q]⟩;have z:(hidT h H).get? b=ab:=PySem.W.hideAll_none (trk h H) hm;rw[z]at e;cases e
def allNews(g h:aT)(L:ai):List (ai×Obj):=(au h.objs.size).filterMap λa=>if a=L\/(g.get? a).isSome=true then ab else (h.get? a).map λo=>(a,o)
def rest(g h:aT)(L d:ai):List (ai×Obj):=(allNews g h L).filter λp=>decide (p.1≠d)
end L2
namespace L2
open PySem PySem.Spec PyProof.Rows
structure Mod(K:ag)(mg:Str->Option af)(base:aT):Prop where
 kin:K.In base
 glob:base.Ns aV mg
 blt:∃mb,base.Ns builtinsNs mb/\∀x:Str,x≠ "__name__" -> mb x=aM x
 nolimit:base.NoLimit
structure Cx where
 prog:aK
 w:aO
 K:ag
 mg:Str->Option af
 base:aT
 A:aQ
 N:List Str
 s₀:ah
 H₀:Hp
 env:Env
 outer:List Env
 stack:List Env
 ex:List ai
 fn:Str->Bool
 calm:Bool
 pn:List (ai×Obj)
 xe:af->ah->Prop
def frs(l:List Env):List ai:=l.filterMap (·.frame)
abbrev Cx.fs(X:Cx):List ai:=frs X.outer
def Vis(sc:Scope)(x:Str):Prop:=sc.names.lookup x=aa .local\/sc.names.lookup x=aa .cell\/sc.names.lookup x=aa .free
def Loc(sc:Scope)(x:Str):Prop:=sc.names.lookup x=aa .local\/sc.names.lookup x=aa .cell
def Look(env:Env)(h:aT)(m:Str->Option af)(x:Str)(u:af):Prop:=
 (env.kindOf x=aa .local/\m x=aa u)\/((env.kindOf x=aa .cell\/env.kindOf x=aa .free)/\∃c,env.cells.lookup x=aa c/\h.IsCell c (aa u))
structure Cx.Ok(X:Cx):Prop where
 mod:Mod X.K X.mg X.base
 kind:X.env.scope.kind=.function
 glob:X.env.globals=aV
 blt:X.env.builtins=builtinsNs
 above:X.s₀.heap.objs.size<=X.env.locals
 inj:∀x y c,X.env.cells.lookup x=aa c->X.env.cells.lookup y=aa c->x=y
 has:∀x,(X.env.kindOf x=aa .cell\/X.env.kindOf x=aa .free)->∃c,X.env.cells.lookup x=aa c
 cab:∀x c,X.fn x=true->X.env.cells.lookup x=aa c->X.s₀.heap.objs.size<=c
 hd:X.calm=true->X.A.handled=ab
 frames:X.A.frames=aa X.stack
 stk:X.stack=X.outer\/(X.stack=X.env::X.outer/\X.env.frame=aa X.env.locals)
 exf:∀b∈X.ex,b≠X.env.locals/\∀x c,X.env.cells.lookup x=aa c->c≠b
 bs:∀b o,X.base.get? b=aa o->X.s₀.heap.get? b=aa o/\X.H₀ b=ab
 bsz:X.base.objs.size<=X.s₀.heap.objs.size
 noex:∀b o,X.base.get? b=aa o->b∉X.ex
 exfs:∀b∈X.ex,b∉X.fs
 funs:X.s₀.heap.FunFrames X.base X.outer
 frf:∀b∈X.fs,X.H₀ b=ab
structure Inv(X:Cx)(pins:List (ai×Obj))(σ:List (Option V))(H:Hp)(s:ah):Prop where
 ok:X.Ok
 os:s.os=X.s₀.os
 bare:AllBare s.gens
 base:Un X.fs X.ex X.H₀ H X.s₀.heap s.heap
 loc:∃m,s.heap.Ns X.env.locals m/\∀(i:Nat) (x:Str) (v:V),X.N[i]? =aa x->σ[i]? =aa (aa v)->Vis X.env.scope x->∃u,RelV v u/\Look X.env s.heap m x u
 cell:∀x c,X.env.cells.lookup x=aa c->∃v,s.heap.IsCell c v
 free:H X.env.locals=ab
 freeC:∀x c,X.env.cells.lookup x=aa c->H c=ab
 pin:∀p∈X.pn++pins,s.heap.get? p.1=aa p.2/\H p.1=ab/\p.1≠X.env.locals/\p.1∉X.fs/\∀v,p.2.data≠.cell v
 hok:HOk X.prog X.w H s.heap
 len:σ.length=X.N.length
section
variable {X:Cx}{pins:List (ai×Obj)}{σ:List (Option V)}{H H':Hp}{s:ah}{h':aT}
def Cx.Ok.nofr(ok:X.Ok){b:ai}{o:Obj}(e:X.base.get? b=aa o):b∉X.fs:=λhb=>by
 have:=(ok.funs.mem hb).1;rw[e]at this;cases this
def Inv.bs(I:Inv X pins σ H s):∀b o,X.base.get? b=aa o->s.heap.get? b=aa o/\H b=ab:=λb o e=>
 ⟨I.base.keep b o (I.ok.bs b o e).1 (I.ok.bs b o e).2 (I.ok.nofr e) (I.ok.noex b o e),I.base.free b o (I.ok.bs b o e).1 (I.ok.bs b o e).2 (I.ok.noex b o e)⟩
def Inv.bk(I:Inv X pins σ H s):∀b o,X.base.get? b=aa o->s.heap.get? b=aa o:=λb o e=>(I.bs b o e).1
def Inv.mod(I:Inv X pins σ H s):Mod X.K X.mg X.base:=I.ok.mod
def Inv.kIn(I:Inv X pins σ H s):X.K.In s.heap:=I.ok.mod.kin.keeps I.bk
def Inv.lt(I:Inv X pins σ H s):X.env.locals<s.heap.objs.size:=let⟨_,hn,_⟩:=I.loc;hn.lt
def Inv.sz(I:Inv X pins σ H s):X.s₀.heap.objs.size<=s.heap.objs.size:=aS I.ok.above (bz I.lt)
def Inv.nofs(I:Inv X pins σ H s){a:ai}(h:s.heap.objs.size<=a):a∉X.fs:=λhb=>by
 obtain⟨_,o,ho,_⟩:=I.ok.funs.mem hb;exact absurd (aW (aC ho) (aS I.sz h)) (bK _)
def Inv.cne(I:Inv X pins σ H s):∀x c,X.env.cells.lookup x=aa c->c≠X.env.locals:=λx c e z=>by
 obtain⟨v,o,ho,hd⟩:=I.cell x c e;obtain⟨m,⟨o',es,ep,ho',hd',_⟩,_⟩:=I.loc;rw[z,ho']at ho;cases ho;rw[hd']at hd;cases hd
def Inv.funs(I:Inv X pins σ H s):s.heap.FunFrames X.base X.outer:=by
 have all:∀(l:List Env),(∀b∈frs l,b∈X.fs)->X.s₀.heap.FunFrames X.base l->s.heap.FunFrames X.base l:=by
  intro l
  induction l with
  |nil=>intro _ _;trivial
  |cons env r ih=>
   intro hs hl;obtain⟨hk,⟨L,o,hf,hn,ho,hd⟩,hr⟩:=hl;have hL:L∈X.fs:=hs L (by unfold frs;rw[gz,hf];exact ax);obtain⟨sl,e⟩:=I.base.slot L o ho (I.ok.frf L hL) hL λz=>I.ok.exfs L z hL;exact⟨hk,⟨L,_,hf,hn,e,hd⟩,ih (λb hb=>hs b (by unfold frs;rw[gz,hf];exact aq _ hb)) hr⟩
 exact all X.outer (λ_ hb=>hb) I.ok.funs
def Inv.stack(I:Inv X pins σ H s):s.heap.FunFrames X.base X.stack:=by
 rcases I.ok.stk with e|⟨e,hf⟩
 ·rw[e];exact I.funs
 ·rw[e];obtain⟨m,hn,_⟩:=I.loc;refine .cons (by rw[I.ok.kind];decide) hf hn ?_ I.funs;exact Heap.get?_none_of_le (aS I.ok.bsz I.ok.above)
def Inv.stkSub(I:Inv X pins σ H s):∀b∈frs X.stack,b∈X.env.locals::X.fs:=λb hb=>by
 rcases I.ok.stk with e|⟨e,hf⟩
 ·rw[e]at hb;exact aq _ hb
 ·rw[e]at hb;unfold frs at hb;rw[gz,hf]at hb;exact hb
def Inv.stkFree(I:Inv X pins σ H s):∀b∈frs X.stack,H b=ab:=λb hb=>by
 rcases aF.mp (I.stkSub b hb)with e|hb
 ·rw[e];exact I.free
 ·obtain⟨_,o,ho,_⟩:=I.ok.funs.mem hb;exact I.base.free b o ho (I.ok.frf b hb) λz=>I.ok.exfs b z hb
def Inv.step{g':Array GenState}{t':Nat}{d':Drawn}{ch:List ai}(I:Inv X pins σ H s)
  (hch:∀b∈ch,(b∈X.ex\/X.s₀.heap.objs.size<=b)/\b≠X.env.locals/\(∀x c,X.env.cells.lookup x=aa c->c≠b)/\∀p∈X.pn++pins,p.1≠b)
  (keep:∀b o,b≠X.env.locals->b∉X.fs->b∉ch->s.heap.get? b=aa o->H b=ab->h'.get? b=aa o)
  (slot:∀b o,b≠X.env.locals->b∈X.fs->b∉ch->s.heap.get? b=aa o->H b=ab->∃sl,h'.get? b=aa { o with slots:=sl}) (free:∀b o,b∉ch->s.heap.get? b=aa o->H b=ab->H' b=ab)
  (there:∀b o,b∉ch->s.heap.get? b=aa o->∃o',h'.get? b=aa o')
  (tups:∀b xs,H b=aa (.tup xs)->H' b=aa (.tup xs)) (frzs:∀b o u,H b=aa (.frz o u)->H' b=aa (.frz o u)) (tbls:∀b ps,H b=aa (.tbl ps)->∃more,H' b=aa (.tbl (ps++more)))
  (ns:∀m,s.heap.Ns X.env.locals m->h'.Ns X.env.locals m) (hok:HOk X.prog X.w H' h') (hg:AllBare g') :
  Inv X pins σ H' { s with heap:=h',gens:=g',drawn:=d',toks:=t'}:=by
 have neL:∀b o,X.s₀.heap.get? b=aa o->b≠X.env.locals:=λb o e=>aL (aW (aC e) I.ok.above);have neC:∀b o,X.s₀.heap.get? b=aa o->b∉X.ex->b∉ch:=λb o e hx hb=>by
  rcases (hch b hb).1 with z|z
  ·exact hx z
  ·exact absurd (aW (aC e) z) (bK _)
 have cellK:∀x c,X.env.cells.lookup x=aa c->∀v,s.heap.IsCell c v->h'.IsCell c v:=λx c e v ⟨o,ho,hd⟩=>by
  have nch:c∉ch:=λz=>(hch c z).2.2.1 x c e rfl;by_cases hc:c∈X.fs
  ·obtain⟨sl,q⟩:=slot c o (I.cne x c e) hc nch ho (I.freeC x c e);exact⟨_,q,hd⟩
  ·exact⟨o,keep c o (I.cne x c e) hc nch ho (I.freeC x c e),hd⟩
 refine⟨I.ok,I.os,hg,⟨λb o e n hb hx=>?_,λb o e n hb hx=>?_,λb o e n hx=>?_,λb o e hx=>?_,λb xs e=>tups b xs (I.base.tups b xs e),λb o xs e=>frzs b o xs (I.base.frzs b o xs e),λb ps e=>?_⟩,?_,λx c e=>?_,?_,λx c e=>?_,λp hp=>?_,hok,I.len⟩
 ·exact keep b o (neL b o e) hb (neC b o e hx) (I.base.keep b o e n hb hx) (I.base.free b o e n hx)
 ·obtain⟨sl,e1⟩:=I.base.slot b o e n hb hx;obtain⟨sl',e2⟩:=slot b _ (neL b o e) hb (neC b o e hx) e1 (I.base.free b o e n hx);exact⟨sl',e2⟩
 ·obtain⟨o',e1⟩:=I.base.there b o e hx;exact free b o' (neC b o e hx) e1 (I.base.free b o e n hx)
 ·obtain⟨o',e1⟩:=I.base.there b o e hx;exact there b o' (neC b o e hx) e1
 ·obtain⟨m1,e1⟩:=I.base.tbls b ps e;obtain⟨m2,e2⟩:=tbls b _ e1;exact⟨m1++m2,by rw[e2,Array.append_assoc]⟩
 ·obtain⟨m,hn,hl⟩:=I.loc;refine⟨m,ns m hn,λi x v e1 e2 e3=>?_⟩;obtain⟨u,r,l⟩:=hl i x v e1 e2 e3;refine⟨u,r,?_⟩;rcases l with l|⟨k,c,e,z⟩
  ·exact .inl l
  ·exact .inr ⟨k,c,e,cellK x c e _ z⟩
 ·obtain⟨v,z⟩:=I.cell x c e;exact⟨v,cellK x c e v z⟩
 ·obtain⟨m,⟨o,_,_,ho,_⟩,_⟩:=I.loc;exact free _ o (λz=>(hch _ z).2.1 rfl) ho I.free
 ·obtain⟨v,o,ho,hd⟩:=I.cell x c e;exact free c o (λz=>(hch c z).2.2.1 x c e rfl) ho (I.freeC x c e)
 ·obtain⟨e,n,ne,nf,d⟩:=I.pin p hp;have nch:p.1∉ch:=λz=>(hch p.1 z).2.2.2 p hp rfl;exact⟨keep p.1 p.2 ne nf nch e n,free p.1 p.2 nch e n,ne,nf,d⟩
def Inv.un{t':Nat}(I:Inv X pins σ H s)(u:Un X.fs [] H H' s.heap h')(hok:HOk X.prog X.w H' h'):Inv X pins σ H' { s with heap:=h',toks:=t'}:=by
 obtain⟨m,⟨o,es,ep,ho,r⟩,_⟩:=id I.loc;obtain⟨sl,hL⟩:=u.any ho I.free (by simp);exact I.step (g':=s.gens) (d':=s.drawn) (ch:=[]) (λ_ z=>nomatch z) (λb o _ hb _ e n=>u.keep b o e n hb (by simp)) (λb o _ hb _ e n=>u.slot b o e n hb (by simp)) (λb o _ e n=>u.free b o e n (by simp)) (λb o _ e=>u.there b o e (by simp)) u.tups u.frzs u.tbls (λm' hm=>by
  obtain⟨o',es',ep',ho',r'⟩:=hm;rw[ho]at ho';cases ho';exact⟨_,es',ep',hL,r'⟩) hok I.bare
def Inv.call{g':Array GenState}{t':Nat}{d':Drawn}{ch:List ai}(I:Inv X pins σ H s)(u:Un (frs X.stack) ch H H' s.heap h')(hok:HOk X.prog X.w H' h')(hg:AllBare g')
  (hch:∀b∈ch,(b∈X.ex\/X.s₀.heap.objs.size<=b)/\b≠X.env.locals/\(∀x c,X.env.cells.lookup x=aa c->c≠b)/\∀p∈X.pn++pins,p.1≠b) :
  Inv X pins σ H' { s with heap:=h',gens:=g',drawn:=d',toks:=t'}:=by
 obtain⟨m,⟨o,es,ep,ho,r⟩,_⟩:=id I.loc;obtain⟨sl,hL⟩:=u.any ho I.free λz=>(hch _ z).2.1 rfl;exact I.step (ch:=ch) hch (λb o hL hb hc e n=>u.keep b o e n (λz=>(aF.mp (I.stkSub b z)).elim hL hb) hc) (λb o _ _ hc e n=>u.any e n hc) (λb o hc e n=>u.free b o e n hc) (λb o hc e=>u.there b o e hc) u.tups u.frzs u.tbls (λm' hm=>by
  obtain⟨o',es',ep',ho',r'⟩:=hm;rw[ho]at ho';cases ho';exact⟨_,es',ep',hL,r'⟩) hok hg
def Inv.turned{t':Nat}{it:ai}(I:Inv X pins σ H s)(k:∀b o,b≠it->s.heap.get? b=aa o->h'.get? b=aa o)(hn:H it=ab)(hL:it≠X.env.locals)
  (h1:it∈X.ex\/X.s₀.heap.objs.size<=it) (h2:∀x c,X.env.cells.lookup x=aa c->c≠it) (h3:∀p∈X.pn++pins,p.1≠it):Inv X pins σ H { s with heap:=h',toks:=t'}:=by
 have nit:∀b u,H b=aa u->b≠it:=λb u e z=>by rw[z,hn]at e;cases e
 refine I.step (g':=s.gens) (d':=s.drawn) (ch:=[it]) (λb hb=>?_) (λb o _ _ hc e _=>k b o (λz=>hc (by simp[z])) e) (λb o _ _ hc e _=>⟨o.slots,k b o (λz=>hc (by simp[z])) e⟩) (λ_ _ _ _ n=>n)
  (λb o hc e=>⟨o,k b o (λz=>hc (by simp[z])) e⟩) (λ_ _ e=>e) (λ_ _ _ e=>e) (λb ps e=>⟨#[],by rw[e];simp⟩) (λm hm=>?_) (λb u e=>?_) I.bare
 ·have e:b=it:=by simpa using hb
  subst e;exact⟨h1,hL,h2,h3⟩
 ·obtain⟨o,es,ep,ho,r⟩:=hm;exact⟨o,es,ep,k _ o (cN hL) ho,r⟩
 ·refine(I.hok b u e).stay (λc v hc q=>k c v ?_ q) (λ_ q=>q) λ_ _ q=>q;rcases hc with z|z
  ·rw[z];exact nit b u e
  ·exact nit c _ z
def Inv.tok(I:Inv X pins σ H s)(t:Nat):Inv X pins σ H { s with toks:=t}:=I.un (h':=s.heap) (t':=t) Un.refl I.hok
def Inv.kept{t':Nat}(I:Inv X pins σ H s)(k:∀b u,s.heap.get? b=aa u->h'.get? b=aa u):Inv X pins σ H { s with heap:=h',toks:=t'}:=I.un (Un.kept k) (I.hok.kept k)
def Inv.laid{a:ai}{o:HO}{t':Nat}(I:Inv X pins σ H s)(k:∀b u,s.heap.get? b=aa u->h'.get? b=aa u)(hp:s.heap.objs.size<=a)(new:ObjOk X.prog X.w (upd H a o) h' a o) :
  Inv X pins σ (upd H a o) { s with heap:=h',toks:=t'}:=I.un (Un.laid k hp (I.hok.fresh hp)) (I.hok.laid k hp new)
def Inv.write{x e:ai}{o:HO}{t':Nat}(I:Inv X pins σ H s)(mu:Mut (H x))(he:e=x\/H e=aa (.own x))(k:∀b u,b≠e->s.heap.get? b=aa u->h'.get? b=aa u)(heo:∃u,h'.get? e=aa u)
  (new:ObjOk X.prog X.w (upd H x o) h' x o):Inv X pins σ (upd H x o) { s with heap:=h',toks:=t'}:=I.un (Un.write mu he k heo) (I.hok.write mu he k heo new)
def Inv.pins_of{pins':List (ai×Obj)}(I:Inv X pins σ H s)(h:∀p∈pins',s.heap.get? p.1=aa p.2/\H p.1=ab/\p.1≠X.env.locals/\p.1∉X.fs/\∀v,p.2.data≠.cell v):Inv X pins' σ H s:=
 ⟨I.ok,I.os,I.bare,I.base,I.loc,I.cell,I.free,I.freeC,λp hp=>(br.mp hp).elim (λz=>I.pin p (bQ _ z)) (h p),I.hok,I.len⟩
def zjB{N:List Str}(hN:N.Nodup){i j:Nat}{x:Str}(a:N[i]? =aa x)(b:N[j]? =aa x):i=j:=by
 obtain⟨h1,e1⟩:=a7.mp a;obtain⟨h2,e2⟩:=a7.mp b;exact(List.getElem_inj hN).mp (e1.trans e2.symm)
def zin{M:Model}{A:aQ}{E:af->ah->Prop}{i:Nat}{x:Str}{v:V}{u:af}{Q:Unit->ah->Prop}(I:Inv X pins σ H s)(hN:X.N.Nodup)(hi:X.N[i]? =aa x)(hx:Loc X.env.scope x)(r:RelV v u)
  (h:∀s',Inv X pins (σ.set i (aa v)) H s'->(∃a,dJ a s.heap s'.heap/\(a=X.env.locals\/X.env.cells.lookup x=aa a))->Q () s') (hf:X.fn x=true\/X.env.scope.names.lookup x=aa .local:=by first|exact .inl rfl|exact .inr rfl|assumption):av M A (storeName X.env x u) Q E s:=by
 obtain⟨m,hn,hl⟩:=id I.loc;have hcls:(X.env.scope.kind == .class || (X.env.scope.kind == .module&&X.env.locals != X.env.globals))=false:=by rw[I.ok.kind];rfl
 have hiσ:i<σ.length:=by rw[I.len];exact(a7.mp hi).1
 have cne:=I.cne;have tracked:∀{a:ai} {h':aT},(∃o,s.heap.get? a=aa o/\H a=ab)->dJ a s.heap h'->HOk X.prog X.w H h':=fun {a h'} ha hs b ob e=>by
  obtain⟨_,_,hfree⟩:=ha;refine(I.hok b ob e).stay (λc w' hc q=>(hs.2 c ?_).trans q) (λ_ q=>q) λ_ _ q=>q;rintro rfl;rcases hc with rfl|hc
  ·rw[hfree]at e;cases e
  ·rw[hfree]at hc;cases hc
 rcases hx with hk|hk
 ·refine wpAny_storeName_local hk hn (λh' hn' hs=>?_) hcls;obtain⟨oL,_,_,hoL,_⟩:=id hn;refine h _ ⟨I.ok,I.os,I.bare,⟨λb o e n hb hx=>?_,λb o e n hb hx=>?_,I.base.free,λb o e hx=>?_,I.base.tups,I.base.frzs,I.base.tbls⟩,⟨_,hn',λj y v' e1 e2 e3=>?_⟩,λy c e=>?_,I.free,I.freeC,λp hp=>?_,tracked ⟨oL,hoL,I.free⟩ hs,by simpa using I.len⟩ ⟨_,hs,.inl rfl⟩
  ·exact(hs.2 b (aL (aW (aC e) I.ok.above))).trans (I.base.keep b o e n hb hx)
  ·obtain⟨sl,e1⟩:=I.base.slot b o e n hb hx;exact⟨sl,(hs.2 b (aL (aW (aC e) I.ok.above))).trans e1⟩
  ·obtain⟨o',e1⟩:=I.base.there b o e hx;exact⟨o',(hs.2 b (aL (aW (aC e) I.ok.above))).trans e1⟩
  ·by_cases hj:j=i
   ·subst hj;rw[hi]at e1;cases e1;rw[iQ hiσ]at e2;cases e2;exact⟨u,r,.inl ⟨hk,by simp⟩⟩
   ·rw[jb (cN hj)]at e2;obtain⟨u',r',q⟩:=hl j y v' e1 e2 e3;refine⟨u',r',?_⟩;rcases q with ⟨k,e⟩|⟨k,c,e,z⟩
    ·refine .inl ⟨k,?_⟩;have:y≠x:=λe=>hj (zjB hN e1 (e ▸ hi));simp[this,e]
    ·exact .inr ⟨k,c,e,z.sameBut hs (cne y c e)⟩
  ·obtain⟨w',z⟩:=I.cell y c e;exact⟨w',z.sameBut hs (cne y c e)⟩
  ·obtain⟨e,n,ne,nf,d⟩:=I.pin p hp;exact⟨(hs.2 p.1 ne).trans e,n,ne,nf,d⟩
 ·have hfn:X.fn x=true:=by
   rcases hf with z|z
   ·exact z
   ·rw[z]at hk;cases hk
  obtain⟨c,hc⟩:=I.ok.has x (.inl hk);obtain⟨w',z⟩:=I.cell x c hc;refine wpAny_storeName_cell I.ok.kind hk hc z (λh' hc' hs=>?_);obtain⟨oc,hoc,hocd⟩:=id z;refine h { s with heap:=h'} ⟨I.ok,I.os,I.bare,⟨λb o e n hb hx=>?_,λb o e n hb hx=>?_,I.base.free,λb o e hx=>?_,I.base.tups,I.base.frzs,I.base.tbls⟩,⟨m,hn.sameBut hs (cN (cne x c hc)),λj y v' e1 e2 e3=>?_⟩,λy c' e=>?_,I.free,I.freeC,λp hp=>?_,tracked ⟨oc,hoc,I.freeC x c hc⟩ hs,by simpa using I.len⟩ ⟨c,hs,.inr hc⟩
  ·exact(hs.2 b (aL (aW (aC e) (I.ok.cab x c hfn hc)))).trans (I.base.keep b o e n hb hx)
  ·obtain⟨sl,e1⟩:=I.base.slot b o e n hb hx;exact⟨sl,(hs.2 b (aL (aW (aC e) (I.ok.cab x c hfn hc)))).trans e1⟩
  ·obtain⟨o',e1⟩:=I.base.there b o e hx;exact⟨o',(hs.2 b (aL (aW (aC e) (I.ok.cab x c hfn hc)))).trans e1⟩
  ·by_cases hj:j=i
   ·subst hj;rw[hi]at e1;cases e1;rw[iQ hiσ]at e2;cases e2;exact⟨u,r,.inr ⟨.inl hk,c,hc,hc'⟩⟩
   ·rw[jb (cN hj)]at e2;obtain⟨u',r',q⟩:=hl j y v' e1 e2 e3;refine⟨u',r',?_⟩;rcases q with q|⟨k,c',e,z'⟩
    ·exact .inl q
    ·refine .inr ⟨k,c',e,z'.sameBut hs ?_⟩;rintro rfl;exact hj (zjB hN e1 (I.ok.inj _ _ _ e hc ▸ hi))
  ·by_cases hcc:c'=c
   ·subst hcc;exact⟨_,hc'⟩
   ·obtain⟨w2,z2⟩:=I.cell y c' e;exact⟨w2,z2.sameBut hs hcc⟩
  ·obtain⟨e,n,ne,nf,d⟩:=I.pin p hp;refine⟨(hs.2 p.1 ?_).trans e,n,ne,nf,d⟩;intro q;rw[q,hoc]at e;have q':oc=p.2:=aR e;exact d w' (by rw[<- q'];exact hocd)
def zhj{M:Model}{A:aQ}{E:af->ah->Prop}{i:Nat}{x:Str}{v:V}{u:af}{Q:Unit->ah->Prop}(I:Inv X pins σ H s)(hN:X.N.Nodup)(hi:X.N[i]? =aa x)(hx:Loc X.env.scope x)(r:RelV v u)
  (h:∀s',Inv X pins (σ.set i (aa v)) H s'->Q () s') (hf:X.fn x=true\/X.env.scope.names.lookup x=aa .local:=by first|exact .inl rfl|exact .inr rfl|assumption):av M A (storeName X.env x u) Q E s:=
 zin I hN hi hx r (λs' I' _=>h s' I') hf
def Inv.call'{s':ah}{ch:List ai}(I:Inv X pins σ H s)(ho:s'.os=s.os)(u:Un (frs X.stack) ch H H' s.heap s'.heap)(hok:HOk X.prog X.w H' s'.heap)(hg:AllBare s'.gens)
  (hch:∀b∈ch,(b∈X.ex\/X.s₀.heap.objs.size<=b)/\b≠X.env.locals/\(∀x c,X.env.cells.lookup x=aa c->c≠b)/\∀p∈X.pn++pins,p.1≠b):Inv X pins σ H' s':=by
 obtain⟨h',g',d',t',o'⟩:=s';have e:o'=s.os:=ho;subst e;exact I.call (g':=g') (t':=t') (d':=d') u hok hg hch
end
abbrev XK:=af->Option ai->Hp->Prop
abbrev St:=List (Option V)
abbrev VK:=V->Hp->Prop
abbrev TE:=St->Hp->VK->Prop
abbrev TT:=St->Hp->(Bool->Hp->Prop)->Prop
abbrev TA:=St->Hp->(List V->Hp->Prop)->Prop
structure Ends where
 nx:St->Hp->Prop
 rt:VK
 bk:St->Hp->Prop:=λ_ _=>False
 ct:St->Hp->Prop:=λ_ _=>False
abbrev TS:=Ends->St->Hp->Prop
inductive EP(X:Cx)(pins:List (ai×Obj))(σ:St)(Q:VK)(u:af)(s':ah):Prop
 |mk (v:V) (H':Hp):Inv X pins σ H' s'->RelV v u->Q v H'->EP X pins σ Q u s'
inductive TP(X:Cx)(pins:List (ai×Obj))(σ:St)(Q:Bool->Hp->Prop)(b:Bool)(s':ah):Prop
 |mk (H':Hp):Inv X pins σ H' s'->Q b H'->TP X pins σ Q b s'
inductive AP(X:Cx)(pins:List (ai×Obj))(σ:St)(Q:List V->Hp->Prop)(us:List af)(s':ah):Prop
 |mk (vs:List V) (H':Hp):Inv X pins σ H' s'->Vals vs us->Q vs H'->AP X pins σ Q us s'
inductive NP(X:Cx)(pins:List (ai×Obj))(N:St->Hp->Prop)(z:ah):Prop
 |mk (a:St) (b:Hp):Inv X pins a b z->N a b->NP X pins N z
inductive RP(X:Cx)(pins:List (ai×Obj))(Q:VK)(u:af)(z:ah):Prop
 |mk (v:V) (a:St) (b:Hp):Inv X pins a b z->RelV v u->Q v b->RP X pins Q u z
def SP(X:Cx)(pins:List (ai×Obj))(D:Ends)(f:Flow)(s':ah):Prop:=
 match f with
 |.next=>NP X pins D.nx s'
 |.brk=>NP X pins D.bk s'
 |.cont=>NP X pins D.ct s'
 |.ret u=>RP X pins D.rt u s'
def PE(X:Cx)(e:Expr)(t:TE):Prop:=
 ∀(pins:List (ai×Obj)) (s:ah) (σ:St) (H:Hp) (Q:VK),Inv X pins σ H s->t σ H Q->av (model X.prog X.w) X.A (eval e X.env) (EP X pins σ Q) X.xe s
def PT(X:Cx)(e:Expr)(t:TT):Prop:=
 ∀(pins:List (ai×Obj)) (s:ah) (σ:St) (H:Hp) (Q:Bool->Hp->Prop),Inv X pins σ H s->t σ H Q->av (model X.prog X.w) X.A (isTrue e X.env (eval e X.env)) (TP X pins σ Q) X.xe s
def PW(X:Cx)(e:Expr)(t:TT):Prop:=
 ∀(whole:Sem af) (pins:List (ai×Obj)) (s:ah) (σ:St) (H:Hp) (Q:Bool->Hp->Prop),Inv X pins σ H s->t σ H Q->av (model X.prog X.w) X.A (isTrue e X.env whole) (TP X pins σ Q) X.xe s
def PW.pt{X:Cx}{e:Expr}{t:TT}(h:PW X e t):PT X e t:=h _
def PA(X:Cx)(es:List Expr)(t:TA):Prop:=
 ∀(pos:Pos) (pins:List (ai×Obj)) (s:ah) (σ:St) (H:Hp) (Q:List V->Hp->Prop),Inv X pins σ H s->t σ H Q->av (model X.prog X.w) X.A (spliced (backTo pos (aY es X.env))) (AP X pins σ Q) X.xe s
def PS(X:Cx)(st:Stmt)(t:TS):Prop:=
 ∀(pins:List (ai×Obj)) (s:ah) (σ:St) (H:Hp) (D:Ends),Inv X pins σ H s->t D σ H->av (model X.prog X.w) X.A (exec st X.env) (SP X pins D) X.xe s
def PSs(X:Cx)(st:List Stmt)(t:TS):Prop:=
 ∀(pins:List (ai×Obj)) (s:ah) (σ:St) (H:Hp) (D:Ends),Inv X pins σ H s->t D σ H->av (model X.prog X.w) X.A (execs st X.env) (SP X pins D) X.xe s
def thn{α:Type}{t:Sem α}{Q Q':α->ah->Prop}{M:Model}{A:aQ}{E:af->ah->Prop}{s:ah}(h:av M A t Q E s)(hQ:∀a s,Q a s->Q' a s):av M A t Q' E s:=cf h hQ λ_ _ x=>x
end L2
namespace L2
open PySem PySem.Spec PyProof.Rows
section
variable {X:Cx}
def tVar(i:Nat):TE:=λσ H Q=>∃v,σ[i]? =aa (aa v)/\Q v H
def tC(v:V):TE:=λ_ H Q=>Q v H
def pe_var{i:Nat}{x:Str}{pos:Pos}(hN:X.N[i]? =aa x)(hv:Vis X.env.scope x)(hd:(x==("__debug__" : Str))=false:=by decide)(hcd:(x==("__classdict__" : Str))=false:=by decide):PE X (.Name x pos) (tVar i):=by
 intro pins s σ H Q I h;obtain⟨v,e,h⟩:=h;obtain⟨m,hn,hl⟩:=I.loc;obtain⟨u,r,l⟩:=hl i x v hN e hv;have fin:EP X pins σ Q u s:=⟨v,H,I,r,h⟩
 rcases l with ⟨hk,hm⟩|⟨hk,c,hc,hcell⟩
 ·exact wpAny_Name (wpAny_loadName_local I.ok.kind hk hn hm fin) hd
 ·rcases hk with hk|hk
  ·exact wpAny_Name (wpAny_loadName_cell I.ok.kind hk hc hcell fin) hd
  ·exact wpAny_Name (wpAny_loadName_free I.ok.kind hk hc hcell fin hcd) hd
def pe_int{i j pos}:PE X (.Constant (.int i) j pos) (tC (.int i)):=λ_ _ _ H _ I h=>wpAny_Constant_int ⟨.int i,H,I.tok _,⟨_,rfl⟩,h⟩
def pe_bl{b j pos}:PE X (.Constant (.bool b) j pos) (tC (.bl b)):=λ_ _ _ H _ I h=>Constant_bool ⟨.bl b,H,I,rfl,h⟩
def pe_non{j pos}:PE X (.Constant .none j pos) (tC .non):=λ_ _ _ H _ I h=>Constant_none ⟨.non,H,I,rfl,h⟩
def pe_str{x j pos}:PE X (.Constant (.str x) j pos) (tC (.str x)):=λ_ _ _ H _ I h=>Calls.Constant_str ⟨.str x,H,I.tok _,⟨_,rfl⟩,h⟩
def Gl(X:Cx)(x:Str):Prop:=X.env.kindOf x=aa .globalImplicit
def ziP{E:af->ah->Prop}{pins:List (ai×Obj)}{s:ah}{σ:St}{H:Hp}{x:Str}{u:af}{pos:Pos}{Q:af->ah->Prop}(I:Inv X pins σ H s)(hg:Gl X x)(hm:X.mg x=aa u)(h:Q u s)
  (hd:(x==("__debug__" : Str))=false:=by decide):av (model X.prog X.w) X.A (eval (.Name x pos) X.env) Q E s:=
 gT I.ok.kind hg (Calls.loadGlobal_global (by rw[I.ok.glob];exact I.mod.glob.keeps I.bk) hm h) hd
def zd7{E:af->ah->Prop}{pins:List (ai×Obj)}{s:ah}{σ:St}{H:Hp}{x:Str}{u:af}{pos:Pos}{Q:af->ah->Prop}(I:Inv X pins σ H s)(hg:Gl X x)(hm:X.mg x=ab)(hv:aM x=aa u)(h:Q u s)
  (hn:x≠ "__name__" :=by decide) (hd:(x==("__debug__" : Str))=false:=by decide):av (model X.prog X.w) X.A (eval (.Name x pos) X.env) Q E s:=by
 obtain⟨mb,h1,h2⟩:=I.mod.blt;exact gT I.ok.kind hg (Calls.loadGlobal_builtin (by rw[I.ok.glob];exact I.mod.glob.keeps I.bk) hm (by rw[I.ok.blt];exact h1.keeps I.bk) ((h2 x hn).trans hv) h) hd
def pe_glob{x:Str}{v:V}{u:af}{pos:Pos}(hg:Gl X x)(hm:X.mg x=aa u)(r:RelV v u)(hd:(x==("__debug__" : Str))=false:=by decide):PE X (.Name x pos) (tC v):=
 λ_ _ _ H _ I h=>ziP I hg hm ⟨v,H,I,r,h⟩ hd
def pe_bltn{x:Str}{v:V}{u:af}{pos:Pos}(hg:Gl X x)(hm:X.mg x=ab)(hv:aM x=aa u)(r:RelV v u)(hn:x≠ "__name__" :=by decide)(hd:(x==("__debug__" : Str))=false:=by decide):PE X (.Name x pos) (tC v):=
 λ_ _ _ H _ I h=>zd7 I hg hm hv ⟨v,H,I,r,h⟩ hn hd
variable {a b:Expr}{ta tb:TE}{pos:Pos}
def tB(t:TE):TT:=λσ H Q=>t σ H λx H1=>∃c,x=.bl c/\Q c H1
def pt_val{e:Expr}{t:TE}(h:PE X e t)(he:∀whole,isTrue e X.env whole=(do let v <- whole;standAt e.pos;holding [v] (truthy v)):=by intro _;rfl):PT X e (tB t):=by
 intro pins s σ H Q I hw;refine isTrue_plain (thn (h pins s σ H _ I hw) ?_) (he _);rintro v s1 ⟨x,H1,I1,r1,q1⟩;obtain⟨d,rfl,q⟩:=q1;cases r1;exact wpAny_truthy_bool ⟨H1,I1,q⟩
variable {tA tB':TT}{rest:List Expr}
def tAnd(t u:TT):TT:=λσ H Q=>t σ H λc H1=>if c=true then u σ H1 Q else Q false H1
def tOr(t u:TT):TT:=λσ H Q=>t σ H λc H1=>if c=true then Q true H1 else u σ H1 Q
def tNot(t:TT):TT:=λσ H Q=>t σ H λc H1=>Q (!c) H1
def pw_and1(ha:PT X a tA):PW X (.BoolOp .And [a] pos) tA:=by
 intro wh pins s σ H Q I h;refine isTrue_and (thn (ha pins s σ H Q I h) λc s1 e=>?_);cases c with
 |true=>exact isTrue_and_nil e
 |false=>exact e
def pw_or1(ha:PT X a tA):PW X (.BoolOp .Or [a] pos) tA:=by
 intro wh pins s σ H Q I h;refine isTrue_or (thn (ha pins s σ H Q I h) λc s1 e=>?_);cases c with
 |false=>exact isTrue_or_nil e
 |true=>exact e
def pw_and(ha:PT X a tA)(hb:PW X (.BoolOp .And (b::rest) pos) tB'):PW X (.BoolOp .And (a::b::rest) pos) (tAnd tA tB'):=by
 intro wh pins s σ H Q I h;refine isTrue_and (thn (ha pins s σ H _ I h) ?_);rintro c s1 ⟨H1,I1,q1⟩;cases c with
 |true=>exact hb wh pins s1 σ H1 Q I1 q1
 |false=>exact⟨H1,I1,q1⟩
def pw_or(ha:PT X a tA)(hb:PW X (.BoolOp .Or (b::rest) pos) tB'):PW X (.BoolOp .Or (a::b::rest) pos) (tOr tA tB'):=by
 intro wh pins s σ H Q I h;refine isTrue_or (thn (ha pins s σ H _ I h) ?_);rintro c s1 ⟨H1,I1,q1⟩;cases c with
 |true=>exact⟨H1,I1,q1⟩
 |false=>exact hb wh pins s1 σ H1 Q I1 q1
def pt_not(ha:PT X a tA):PT X (.UnaryOp .Not a pos) (tNot tA):=by
 intro pins s σ H Q I h;exact isTrue_not (thn (ha pins s σ H (λc H1=>Q (!c) H1) I h) λ_ _ ⟨a,b,c⟩=>⟨a,b,c⟩)
def tAndV(ta tb:TE):TE:=λσ H Q=>ta σ H λx H1=>∃c,x=.bl c/\if c=true then tb σ H1 Q else Q (.bl false) H1
def tOrV(ta tb:TE):TE:=λσ H Q=>ta σ H λx H1=>∃c,x=.bl c/\if c=true then Q (.bl true) H1 else tb σ H1 Q
def tNotV(ta:TE):TE:=λσ H Q=>ta σ H λx H1=>∃c,x=.bl c/\Q (.bl (!c)) H1
def pe_one{op}{t:TE}(h:PE X a t):PE X (.BoolOp op [a] pos) t:=λpins s σ H Q I hw=>BoolOp_one (h pins s σ H Q I hw)
def pe_and(ha:PE X a ta)(hb:PE X (.BoolOp .And (b::rest) pos) tb):PE X (.BoolOp .And (a::b::rest) pos) (tAndV ta tb):=by
 intro pins s σ H Q I h;refine BoolOp_and (thn (ha pins s σ H _ I h) ?_);rintro v s1 ⟨x,H1,I1,r1,q1⟩;obtain⟨c,rfl,q1⟩:=q1;cases r1;refine wpAny_truthy_bool ?_;cases c with
 |true=>exact hb pins s1 σ H1 Q I1 q1
 |false=>exact⟨.bl false,H1,I1,rfl,q1⟩
def pe_or(ha:PE X a ta)(hb:PE X (.BoolOp .Or (b::rest) pos) tb):PE X (.BoolOp .Or (a::b::rest) pos) (tOrV ta tb):=by
 intro pins s σ H Q I h;refine BoolOp_or (thn (ha pins s σ H _ I h) ?_);rintro v s1 ⟨x,H1,I1,r1,q1⟩;obtain⟨c,rfl,q1⟩:=q1;cases r1;refine wpAny_truthy_bool ?_;cases c with
 |false=>exact hb pins s1 σ H1 Q I1 q1
 |true=>exact⟨.bl true,H1,I1,rfl,q1⟩
def pe_not(ha:PE X a ta):PE X (.UnaryOp .Not a pos) (tNotV ta):=by
 intro pins s σ H Q I h;refine UnaryOp_ (thn (ha pins s σ H _ I h) ?_);rintro v s1 ⟨x,H1,I1,r1,q1⟩;obtain⟨c,rfl,q1⟩:=q1;cases r1;exact not_of (wpAny_truthy_bool ⟨.bl (!c),H1,I1,rfl,q1⟩)
def tIf(t:TT)(ta tb:TE):TE:=λσ H Q=>t σ H λc H1=>if c=true then ta σ H1 Q else tb σ H1 Q
def pe_ifExp{c:Expr}(hc:PT X c tA)(ha:PE X a ta)(hb:PE X b tb):PE X (.IfExp c a b pos) (tIf tA ta tb):=by
 intro pins s σ H Q I h;refine wpAny_IfExp (thn (hc pins s σ H _ I h) ?_);rintro d s1 ⟨H1,I1,q1⟩;cases d with
 |true=>exact ha pins s1 σ H1 Q I1 q1
 |false=>exact hb pins s1 σ H1 Q I1 q1
end
end L2
namespace L2
open PySem PySem.Spec PyProof.Rows
def SqL(K:ag)(H:Hp)(a:ai)(xs:List V):Prop:=
 Rd H a (.lst xs) \/
  ∃(o:Obj) (its:Array af) (n:Nat),K.lookup a=aa o/\o.cls=.type "list" /\ o.dict=ab/\o.data=.seq its n/\its.size<=aX/\Vals xs its.toList
def SqT(K:ag)(H:Hp)(a:ai)(xs:List V):Prop:=
 Rd H a (.tup xs) \/
  ∃(o:Obj) (its:Array af) (n:Nat),K.lookup a=aa o/\o.cls=.type "tuple" /\ o.data=.seq its n/\its.size<=aX/\Vals xs its.toList
def absV:af->Option V
 |.none=>aa .non
 |.bool b=>aa (.bl b)
 |.int i _=>aa (.int i)
 |.str x _=>aa (.str x)
 |.bytes b _=>aa (.byt b)
 |.float b _=>aa (.flt b)
 |.ref a=>aa (.ref a)
 |.type n=>aa (.ty n)
 | _=>ab
def RelV.abs{x:V}{u:af}(r:RelV x u):absV u=aa x:=by
 cases x with
 |non=>cases r;rfl
 |bl _=>cases r;rfl
 |int _=>obtain⟨t,rfl⟩:=r;rfl
 |str _=>obtain⟨t,rfl⟩:=r;rfl
 |byt _=>obtain⟨t,rfl⟩:=r;rfl
 |flt _=>obtain⟨t,rfl⟩:=r;rfl
 |ref _=>cases r;rfl
 |ty _=>cases r;rfl
def RelV.inj{x y:V}{u:af}(r:RelV x u)(q:RelV y u):x=y:=aR (r.abs.symm.trans q.abs)
def Vals.inj:∀{xs ys:List V} {us:List af},Vals xs us->Vals ys us->xs=ys
 | _,_,_,.nil,.nil=>rfl
 | _,_,_,.cons r t,.cons r' t'=>by rw[r.inj r',Vals.inj t t']
section
variable {X:Cx}{pins:List (ai×Obj)}{σ:St}{H:Hp}{s:ah}{a:ai}{xs ys:List V}
def SqL.of{K:ag}(h:H a=aa (.lst xs)):SqL K H a xs:=.inl (.inl h)
def SqT.of{K:ag}(h:H a=aa (.tup xs)):SqT K H a xs:=.inl (.inl h)
def Inv.list(I:Inv X pins σ H s)(h:SqL X.K H a xs):∃its:List af,Vals xs its/\PlainL s.heap a its.toArray/\xs.length<=aX:=by
 rcases h with h|⟨o,its,n,hk,hc,hd,hs,hz,r⟩
 ·obtain⟨z,its,n,r,e⟩:=h.ok I.hok;exact⟨its,r,⟨_,n,e,rfl,rfl,rfl⟩,z⟩
 ·refine⟨its.toList,r,⟨o,n,I.kIn a o hk,hc,hd,by simpa using hs⟩,?_⟩;have e:=r.length;simp only[aE]at e;lia
def Inv.tuple(I:Inv X pins σ H s)(h:SqT X.K H a xs):∃its:List af,Vals xs its/\IsTup s.heap a its.toArray/\xs.length<=aX:=by
 rcases h with h|⟨o,its,n,hk,hc,hs,hz,r⟩
 ·obtain⟨z,its,r,p⟩:=h.ok I.hok;exact⟨its,r,p,z⟩
 ·refine⟨its.toList,r,⟨o,I.kIn a o hk,hc,n,by simpa using hs⟩,?_⟩;have e:=r.length;simp only[aE]at e;lia
def Inv.list_inj(I:Inv X pins σ H s)(h:SqL X.K H a xs)(h':SqL X.K H a ys):xs=ys:=by
 obtain⟨its,r,⟨o,n,e,_,_,d⟩,_⟩:=I.list h;obtain⟨its',r',⟨o',n',e',_,_,d'⟩,_⟩:=I.list h';rw[e]at e';cases e';rw[d]at d';injection d' with d1 _;have:its=its':=by simpa using congrArg ju d1
 subst this;exact r.inj r'
def Inv.tuple_inj(I:Inv X pins σ H s)(h:SqT X.K H a xs)(h':SqT X.K H a ys):xs=ys:=by
 obtain⟨its,r,⟨o,e,_,n,d⟩,_⟩:=I.tuple h;obtain⟨its',r',⟨o',e',_,n',d'⟩,_⟩:=I.tuple h';rw[e]at e';cases e';rw[d]at d';injection d' with d1 _;have:its=its':=by simpa using congrArg ju d1
 subst this;exact r.inj r'
end
abbrev Cx.wish(X:Cx)(E:af->ah->Prop):Cx:={ X with xe:=E}
abbrev Cx.nox(X:Cx):Cx:=X.wish λ_ _=>False
def Cx.Ok.wish{X:Cx}(ok:X.Ok)(E:af->ah->Prop):(X.wish E).Ok:=
 ⟨ok.mod,ok.kind,ok.glob,ok.blt,ok.above,ok.inj,ok.has,ok.cab,ok.hd,ok.frames,ok.stk,ok.exf,ok.bs,ok.bsz,ok.noex,ok.exfs,ok.funs,ok.frf⟩
def Cx.Ok.unwish{X:Cx}{E:af->ah->Prop}(ok:(X.wish E).Ok):X.Ok:=
 ⟨ok.mod,ok.kind,ok.glob,ok.blt,ok.above,ok.inj,ok.has,ok.cab,ok.hd,ok.frames,ok.stk,ok.exf,ok.bs,ok.bsz,ok.noex,ok.exfs,ok.funs,ok.frf⟩
section
variable {X:Cx}{pins:List (ai×Obj)}{σ:St}{H:Hp}{s:ah}{E:af->ah->Prop}
def Inv.wish(I:Inv X pins σ H s)(E:af->ah->Prop):Inv (X.wish E) pins σ H s:=⟨I.ok.wish E,I.os,I.bare,I.base,I.loc,I.cell,I.free,I.freeC,I.pin,I.hok,I.len⟩
def Inv.unwish(I:Inv (X.wish E) pins σ H s):Inv X pins σ H s:=⟨I.ok.unwish,I.os,I.bare,I.base,I.loc,I.cell,I.free,I.freeC,I.pin,I.hok,I.len⟩
def SP.unwish{D:Ends}{f:Flow}{s':ah}(h:SP (X.wish E) pins D f s'):SP X pins D f s':=by
 cases f with
 |next=>obtain⟨σ',H',I,q⟩:=h;exact⟨σ',H',I.unwish,q⟩
 |brk=>obtain⟨σ',H',I,q⟩:=h;exact⟨σ',H',I.unwish,q⟩
 |cont=>obtain⟨σ',H',I,q⟩:=h;exact⟨σ',H',I.unwish,q⟩
 |ret u=>obtain⟨v,σ',H',I,r,q⟩:=h;exact⟨v,σ',H',I.unwish,r,q⟩
def PSs.nox{st:List Stmt}{t:TS}(h:PSs X.nox st t):PSs X st t:=λpins s σ H D I hw=>
 cf (h pins s σ H D (I.wish _) hw) (λ_ _ q=>q.unwish) λ_ _ z=>cy z
end
section
variable {X:Cx}{st:Stmt}{rest:List Stmt}{t u:TS}{e:Expr}{te:TE}{pos:Pos}
def tNext:TS:=λD σ H=>D.nx σ H
def tSeq(t u:TS):TS:=λD σ H=>t { D with nx:=u D} σ H
def pss_nil:PSs X [] tNext:=λ_ _ σ H _ I h=>wpAny_execs_nil ⟨σ,H,I,h⟩
def pss_cons(h1:PS X st t)(h2:PSs X rest u):PSs X (st::rest) (tSeq t u):=by
 intro pins s σ H D I h;refine wpAny_execs_cons (thn (h1 pins s σ H { D with nx:=u D} I h) λf s1 q=>?_);cases f with
 |next=>
  obtain⟨σ',H',I',q⟩:=q;exact h2 pins s1 σ' H' D I' q
 |ret v=>exact q
 |brk=>exact q
 |cont=>exact q
def pss_one(h1:PS X st t):PSs X [st] t:=by
 intro pins s σ H D I h;refine wpAny_execs_cons (thn (h1 pins s σ H D I h) λf s1 q=>?_);cases f with
 |next=>exact wpAny_execs_nil q
 |ret v=>exact q
 |brk=>exact q
 |cont=>exact q
def Inv.quiet{pins:List (ai×Obj)}{σ:St}{H:Hp}{s:ah}(I:Inv X pins σ H s):interactive X.env=false:=by simp[interactive,I.ok.kind]
def tDrop(te:TE):TS:=λD σ H=>te σ H λ_ H1=>D.nx σ H1
def ps_expr(he:PE X e te)(hs:swapsWith e ab pos.line X.env=pure false:=by rfl):PS X (.Expr e pos) (tDrop te):=by
 intro pins s σ H D I h;exact wpAny_Expr_any (thn (he pins s σ H _ I h) λv s1 ⟨x,H1,I1,r1,q1⟩=>⟨σ,H1,I1,q1⟩) I.quiet hs
def tRet(te:TE):TS:=λD σ H=>te σ H D.rt
def ps_ret(he:PE X e te):PS X (.Return (aa e) pos) (tRet te):=by
 intro pins s σ H D I h;exact wpAny_Return_some (thn (he pins s σ H _ I h) λv s1 ⟨x,H1,I1,r1,q1⟩=>⟨x,σ,H1,I1,r1,q1⟩)
def tIfS(c:TT)(t u:TS):TS:=λD σ H=>c σ H λb H1=>if b=true then t D σ H1 else u D σ H1
def ps_if{c:Expr}{a b:List Stmt}{tc:TT}(hc:PT X c tc)(ha:PSs X a t)(hb:PSs X b u):PS X (.If c a b pos) (tIfS tc t u):=by
 intro pins s σ H D I h;refine wpAny_If (thn (hc pins s σ H _ I h) ?_);rintro d s1 ⟨H1,I1,q1⟩;cases d with
 |true=>exact ha pins s1 σ H1 D I1 q1
 |false=>exact hb pins s1 σ H1 D I1 q1
def zjW:TS:=λ_ _ _=>False
def ps_never:PS X st zjW:=λ_ _ _ _ _ _ h=>h.elim
def pss_never{sts:List Stmt}:PSs X sts zjW:=λ_ _ _ _ _ _ h=>h.elim
end
abbrev TG:=V->St->Hp->(St->Hp->Prop)->Prop
abbrev TGs:=List V->St->Hp->(St->Hp->Prop)->Prop
def PG(X:Cx)(target:Expr)(t:TG):Prop:=
 ∀(pins:List (ai×Obj)) (s:ah) (σ:St) (H:Hp) (v:V) (u:af) (Q:St->Hp->Prop),Inv X pins σ H s->RelV v u->t v σ H Q ->
  av (model X.prog X.w) X.A (assign target X.env u) (λ_ s'=>NP X pins Q s') X.xe s
def PGs(X:Cx)(ts:List Expr)(t:TGs):Prop:=
 ∀(pins:List (ai×Obj)) (s:ah) (σ:St) (H:Hp) (vs:List V) (us:List af) (Q:St->Hp->Prop),Inv X pins σ H s->Vals vs us->t vs σ H Q ->
  av (model X.prog X.w) X.A (assignInOrder ((cH ts X.env).map (·.2)) us) (λ_ s'=>NP X pins Q s') X.xe s
section
variable {X:Cx}{pos:Pos}
def zhb(i:Nat):TG:=λv σ H Q=>Q (σ.set i (aa v)) H
def zjd{i:Nat}{x:Str}(hN:X.N.Nodup)(hi:X.N[i]? =aa x)(hx:Loc X.env.scope x)(hf:X.fn x=true\/X.env.scope.names.lookup x=aa .local:=by first|exact .inl rfl|exact .inr rfl|assumption):PG X (.Name x pos) (zhb i):=by
 intro pins s σ H v u Q I r h;exact wpAny_assign_Name (zhj I hN hi hx r (λs' I'=>⟨_,H,I',h⟩) hf)
def gNil:TGs:=λvs σ H Q=>vs=[]/\Q σ H
def gCons(t:TG)(u:TGs):TGs:=λvs σ H Q=>∃v r,vs=v::r/\t v σ H λσ' H'=>u r σ' H' Q
def pgs_nil:PGs X [] gNil:=by
 intro pins s σ H vs us Q I r h;obtain⟨e,h⟩:=h;subst e;cases r;exact assignInOrder_nil ⟨σ,H,I,h⟩
def zhr{e:Expr}{es:List Expr}{t:TG}{u:TGs}(h1:PG X e t)(h2:PGs X es u)
  (hs:(cH (e::es) X.env).map (·.2)=assign e X.env::(cH es X.env).map (·.2):=by rfl):PGs X (e::es) (gCons t u):=by
 intro pins s σ H vs us Q I r h;obtain⟨v,vr,e1,h⟩:=h;subst e1;cases r with
 |cons r rr=>
  rw[hs];refine assignInOrder_cons (thn (h1 pins s σ H _ _ _ I r h) ?_);rintro _ s1 ⟨σ1,H1,I1,q1⟩;exact h2 pins s1 σ1 H1 _ _ Q I1 rr q1
def gTup(K:ag)(n:Nat)(t:TGs):TG:=λv σ H Q=>∃a xs,v=.ref a/\SqT K H a xs/\xs.length=n/\t xs σ H Q
def pg_tup{es:List Expr}{k:Nat}{t:TGs}{n:Nat}(hc:X.calm=true)(h:PGs X es t)
  (hn:(cH es X.env).length=n:=by rfl) (hst:(cH es X.env).findIdx? (·.1)=ab:=by rfl):PG X (.Tuple es k pos) (gTup X.K n t):=by
 intro pins s σ H v u Q I r hw;obtain⟨a,xs,e1,hq,hl,hw⟩:=hw;subst e1;cases r;obtain⟨its,rv,ht,hz⟩:=I.tuple hq;refine assign_Tuple_tuple (I.ok.hd hc) ht (by simp[hn,<- hl,rv.length]) hst λh' hx=>?_;have I1:Inv X pins σ H { s with heap:=h'}:=I.kept (t':=s.toks) λb o e=>hx b o (aL (aC e)) e;exact h pins _ σ H xs _ Q I1 (by simpa using rv) hw
def tAsg(te:TE)(g:TG):TS:=λD σ H=>te σ H λx H1=>g x σ H1 D.nx
def ps_asg{tg e:Expr}{te:TE}{g:TG}(he:PE X e te)(hg:PG X tg g)(hs:swapsWithSole [tg] e pos.line X.env=pure false:=by rfl)(hw:swappedStores [tg] e X.env=pure ab:=by rfl)
  (h1:(cH [tg] X.env).map (·.2)=[assign tg X.env]:=by rfl):PS X (.Assign [tg] e pos) (tAsg te g):=by
 intro pins s σ H D I h;refine wpAny_Assign_stores (thn (he pins s σ H _ I h) ?_) hs hw;rintro v s1 ⟨x,H1,I1,r1,q1⟩;rw[h1];exact thn (hg pins s1 σ H1 x v _ I1 r1 q1) λ_ s2 q=>q
def ps_set{i:Nat}{x:Str}{e:Expr}{te:TE}{pos':Pos}(hN:X.N.Nodup)(hi:X.N[i]? =aa x)(hx:Loc X.env.scope x)(he:PE X e te)(hs:swapsWith e (aa (.Name x pos')) pos.line X.env=pure false:=by rfl)(hf:X.fn x=true\/X.env.scope.names.lookup x=aa .local:=by first|exact .inl rfl|exact .inr rfl|assumption) :
  PS X (.Assign [.Name x pos'] e pos) (tAsg te (zhb i)):=by
 intro pins s σ H D I h;refine wpAny_Assign_Name (thn (he pins s σ H _ I h) ?_) hs;rintro v s1 ⟨y,H1,I1,r1,q1⟩;exact zhj I1 hN hi hx r1 (λs2 I2=>⟨_,H1,I2,q1⟩) hf
end
section
variable {X:Cx}{pos:Pos}
def tWhile(c:TT)(tb:TS):TS:=λD σ H=>∃W:Nat->St->Hp->Prop,(∃m,W m σ H)/\∀m σ H,W m σ H ->
 c σ H λb H1=>if b=true then ∃N:St->Hp->Prop,(∀σ' H',N σ' H'->∃m',m'<m/\W m' σ' H')/\tb { D with nx:=N,ct:=N,bk:=D.nx} σ H1 else D.nx σ H1
def ps_while{c:Expr}{body:List Stmt}{tc:TT}{tb:TS}(hp:PassesOwn (model X.prog X.w) X.A X.env X.xe)(hc:PT X c tc)(hb:PSs X body tb):PS X (.While c body [] pos) (tWhile tc tb):=by
 intro pins s σ H D I h;obtain⟨W,⟨m0,w0⟩,turn⟩:=h;refine wpAny_While (codeAny_whileLoop (λn s'=>∃σ' H',Inv X pins σ' H' s'/\W n σ' H') ?_ m0 ⟨σ,H,I,w0⟩);rintro n s1 ⟨σ1,H1,I1,w1⟩;refine wpAny_passesOwn hp (thn (hc pins s1 σ1 H1 _ I1 (turn n σ1 H1 w1)) ?_);rintro b s2 ⟨H2,I2,q2⟩;cases b with
 |true=>
  obtain⟨N,hN,q2⟩:=q2;rw[if_pos rfl];refine wpAny_passesOwn hp (thn (hb pins s2 σ1 H2 _ I2 q2) λf s3 q3=>?_);cases f with
  |next=>
   obtain⟨σ3,H3,I3,n3⟩:=q3;obtain⟨m',hm,w3⟩:=hN σ3 H3 n3;exact⟨m',hm,σ3,H3,I3,w3⟩
  |cont=>
   obtain⟨σ3,H3,I3,n3⟩:=q3;obtain⟨m',hm,w3⟩:=hN σ3 H3 n3;exact⟨m',hm,σ3,H3,I3,w3⟩
  |brk=>exact q3
  |ret v=>exact q3
 |false=>
  rw[if_neg aP];exact wpAny_execs_nil ⟨σ1,H2,I2,q2⟩
end
structure It where
 go:Nat->Hp->Prop
 yld:Nat->Hp->V->Hp->Prop
 stop:Nat->Hp->Prop
def zfx(X:Cx)(pins:List (ai×Obj))(H:Hp)(b:ai):Prop:=
 H b=ab/\b≠X.env.locals/\b∉X.fs/\(b∈X.ex\/X.s₀.heap.objs.size<=b)/\(∀x c,X.env.cells.lookup x=aa c->c≠b)/\∀p∈X.pn++pins,p.1≠b
def Inv.fpOk{X:Cx}{pins:List (ai×Obj)}{σ:St}{H H':Hp}{s:ah}{b:ai}(I:Inv X pins σ H s)(hb:s.heap.objs.size<=b)(hn:H' b=ab):zfx X pins H' b:=by
 refine⟨hn,eV (aW I.lt hb),I.nofs hb,.inr (aS I.sz hb),λx c e z=>?_,λp hp z=>?_⟩
 ·obtain⟨v,q⟩:=I.cell x c e;exact absurd (aW q.lt (by rw[z];exact hb)) (bK _)
 ·exact absurd (aW (aC (I.pin p hp).1) (by rw[z];exact hb)) (bK _)
structure Turn(P:aK)(w:aO)(K:ag)(tg:Expr)(J:It)(fp:List ai)(it:ai)(tn:Nat->aT->Prop):Prop where
 mem:it∈fp
 obj:∀i h,tn i h->∀b∈fp,∃o,h.get? b=aa o/\∀v,o.data≠.cell v
 keep:∀i h h',tn i h->(∀b∈fp,∀o,h.get? b=aa o->h'.get? b=aa o)->tn i h'
 item:∀(X:Cx),X.prog=P->X.w=w->X.K=K->X.calm=true->∀(i:Nat) (pins:List (ai×Obj)) (s:ah) (σ:St) (H:Hp) (E:af->ah->Prop),Inv X pins σ H s->(∀b∈fp,zfx X pins H b)->tn i s.heap->J.go i H ->
  av (model P w) X.A (pyNext (.ref it)) (λr s1=>∃u,r=aa u /\
   av (model P w) X.A (letOwnedTupleGo tg (.ref it) u) (λ_ s2=>∃x H',Inv X pins σ H' s2/\RelV x u/\J.yld i H x H'/\tn (i+1) s2.heap/\∀b∈fp,H' b=ab) E s1) E s
 done:∀(X:Cx),X.prog=P->X.w=w->X.K=K->X.calm=true->∀(i:Nat) (pins:List (ai×Obj)) (s:ah) (σ:St) (H:Hp) (E:af->ah->Prop),Inv X pins σ H s->(∀b∈fp,zfx X pins H b)->tn i s.heap->J.stop i H ->
  av (model P w) X.A (pyNext (.ref it)) (λr s1=>r=ab/\Inv X pins σ H s1) E s
 self:∀(A:aQ) (i:Nat) (s:ah) (Q:af->ah->Prop) (E:af->ah->Prop),tn i s.heap->Q (.ref it) s->av (model P w) A (pyIter (.ref it)) Q E s
abbrev TI:=St->Hp->(It->Hp->Prop)->Prop
def PIE(X:Cx)(pins:List (ai×Obj))(σ:St)(tg:Expr)(R:It->Hp->Prop)(itv:af)(s2:ah):Prop:=
 ∃(it:ai) (fp:List ai) (tn:Nat->aT->Prop) (J:It) (H':Hp),itv=.ref it/\Inv X pins σ H' s2/\Turn X.prog X.w X.K tg J fp it tn/\tn 0 s2.heap/\(∀b∈fp,zfx X pins H' b)/\R J H'
def PI(X:Cx)(tg iter:Expr)(wi:TI):Prop:=
 ∀(pins:List (ai×Obj)) (s:ah) (σ:St) (H:Hp) (R:It->Hp->Prop),Inv X pins σ H s->wi σ H R ->
  av (model X.prog X.w) X.A (eval iter X.env) (λv s1=>av (model X.prog X.w) X.A (pyIter v) (PIE X pins σ tg R) X.xe s1) X.xe s
def go_of{M:Model}{A:aQ}{E:af->ah->Prop}{s:ah}{tg:Expr}{it:ai}{u:af}{o:Obj}{n:String}{vs:Array af}{Q:Unit->ah->Prop}(ho:s.heap.get? it=aa o)(hc:o.cls=.type n)(hd:o.data=.fields vs)
    (hn:["enumerate","zip","dict_itemiterator","dict_reverseitemiterator","odict_iterator","itertools.zip_longest","itertools.pairwise"].contains n=false) (hQ:Q () s):av M A (letOwnedTupleGo tg (.ref it) u) Q E s:=by
  unfold letOwnedTupleGo;cases tg <;> first
    |exact ak hQ
    |(cases u <;> first
        |exact ak hQ
        | (refine ae (wpAny_load ho ?_)
           rw[hc,hd];show av M A (if (["enumerate","zip","dict_itemiterator","dict_reverseitemiterator","odict_iterator","itertools.zip_longest","itertools.pairwise"].contains n&&vs[0]? == aa (rawInt _))=true then _ else _) Q E s;rw[if_neg (by intro h;rw[hn,gC]at h;cases h)];exact ak hQ))
def Itl(K:ag)(a:ai):It:=
 ⟨λi H=>∃xs x,SqL K H a xs/\xs[i]? =aa x,λi H x H'=>H'=H/\∀xs,SqL K H a xs->xs[i]? =aa x,λi H=>∃xs,SqL K H a xs/\xs.length<=i⟩
def Itt(K:ag)(a:ai):It:=
 ⟨λi H=>∃xs x,SqT K H a xs/\xs[i]? =aa x,λi H x H'=>H'=H/\∀xs,SqT K H a xs->xs[i]? =aa x,λi H=>∃xs,SqT K H a xs/\xs.length<=i⟩
def Itr(lo:Int)(n:Nat):It:=⟨λi _=>i<n,λi H x H'=>H'=H/\x=.int (lo+i),λi _=>n<=i⟩
def ziH{P:aK}{w:aO}{K:ag}{tg:Expr}(a it:ai):Turn P w K tg (Itl K a) [it] it (λi h=>h.IsListIter it a i) where
 mem:=by simp
 obj:=λi h st b hb=>by
  have e:b=it:=by simpa using hb
  subst e;obtain⟨o,e,c,d⟩:=st;exact⟨o,e,λv z=>by rw[d]at z;cases z⟩
 keep:=λi h h' st k=>st.at λo e=>k it (by simp) o e
 item:=by
  intro X hP hw hK hc i pins s σ H E I hf st hg;subst hP hw hK;obtain⟨xs,x,hq,hx⟩:=hg;obtain⟨its,rv,p,hz⟩:=I.list hq;obtain⟨u,hu,ru⟩:=rv.get hx;obtain⟨f0,f1,f2,f3,f4,f5⟩:=hf it (by simp);refine wpAny_pyNext_list_item st p.isList (x:=u) (by simpa using hu) λh' st' sb=>?_;have I1:Inv X pins σ H { s with heap:=h'}:=I.turned (t':=s.toks) (λb o hb e=>(sb.2 b hb).trans e) f0 f1 f3 f4 f5;obtain⟨o,e,c,d⟩:=id st';exact⟨u,rfl,go_of (s:={ s with heap:=h'}) e c d (by decide) ⟨x,H,I1,ru,⟨rfl,λys hy=>by rw[I.list_inj hy hq];exact hx⟩,st',λb hb=>(hf b hb).1⟩⟩
 done:=by
  intro X hP hw hK hc i pins s σ H E I hf st hg;subst hP hw hK;obtain⟨xs,hq,hx⟩:=hg;obtain⟨its,rv,p,hz⟩:=I.list hq;obtain⟨f0,f1,f2,f3,f4,f5⟩:=hf it (by simp);have hl:=rv.length;exact wpAny_pyNext_list_end (I.ok.hd hc) st p.isList (by simp;lia) λh' eb=>⟨rfl,I.turned (t':=s.toks) (λb o hb e=>eb b o hb e) f0 f1 f3 f4 f5⟩
 self:=λ_ _ _ _ _ st h=>wpAny_pyIter_listiter st h
def zgS{P:aK}{w:aO}{K:ag}{tg:Expr}(a it:ai):Turn P w K tg (Itt K a) [it] it (λi h=>h.IsTupleIter it a i) where
 mem:=by simp
 obj:=λi h st b hb=>by
  have e:b=it:=by simpa using hb
  subst e;obtain⟨o,e,c,d⟩:=st;exact⟨o,e,λv z=>by rw[d]at z;cases z⟩
 keep:=λi h h' st k=>st.at λo e=>k it (by simp) o e
 item:=by
  intro X hP hw hK hc i pins s σ H E I hf st hg;subst hP hw hK;obtain⟨xs,x,hq,hx⟩:=hg;obtain⟨its,rv,p,hz⟩:=I.tuple hq;obtain⟨u,hu,ru⟩:=rv.get hx;obtain⟨f0,f1,f2,f3,f4,f5⟩:=hf it (by simp);refine wpAny_pyNext_tuple_item st (show s.heap.IsTuple a its.toArray from p) (x:=u) (by simpa using hu) λh' st' sb=>?_;have I1:Inv X pins σ H { s with heap:=h'}:=I.turned (t':=s.toks) (λb o hb e=>(sb.2 b hb).trans e) f0 f1 f3 f4 f5;obtain⟨o,e,c,d⟩:=id st';exact⟨u,rfl,go_of (s:={ s with heap:=h'}) e c d (by decide) ⟨x,H,I1,ru,⟨rfl,λys hy=>by rw[I.tuple_inj hy hq];exact hx⟩,st',λb hb=>(hf b hb).1⟩⟩
 done:=by
  intro X hP hw hK hc i pins s σ H E I hf st hg;subst hP hw hK;obtain⟨xs,hq,hx⟩:=hg;obtain⟨its,rv,p,hz⟩:=I.tuple hq;obtain⟨f0,f1,f2,f3,f4,f5⟩:=hf it (by simp);have hl:=rv.length;exact wpAny_pyNext_tuple_end (I.ok.hd hc) st (show s.heap.IsTuple a its.toArray from p) (by simp;lia) λh' eb=>⟨rfl,I.turned (t':=s.toks) (λb o hb e=>eb b o hb e) f0 f1 f3 f4 f5⟩
 self:=λ_ _ _ _ _ st h=>wpAny_pyIter_tupleiter st h
def zkL{P:aK}{w:aO}{K:ag}{tg:Expr}(it:ai)(lo:Int)(n:Nat):Turn P w K tg (Itr lo n) [it] it (λi h=>IsRangeIter h it (lo+(i:Nat)*1) ((n:Int)-(i:Nat)) 1) where
 mem:=by simp
 obj:=λi h st b hb=>by
  have e:b=it:=by simpa using hb
  subst e;exact⟨_,st,λv z=>by
   have z':jM _=iE v:=z;cases z'⟩
 keep:=λi h h' st k=>k it (by simp) _ st
 item:=by
  intro X hP hw hK hc i pins s σ H E I hf st hg;subst hP hw hK;obtain⟨f0,f1,f2,f3,f4,f5⟩:=hf it (by simp);have W:=Walks.range (prog:=X.prog) (w:=X.w) (I.ok.hd hc) it lo 1 n;refine W.item i s _ _ hg st λv h' tk hv st' kk=>?_;obtain⟨t,rfl⟩:=hv;have I1:Inv X pins σ H { s with heap:=h',toks:=tk}:=I.turned (λb o hb e=>kk b o (by simpa using hb) e) f0 f1 f3 f4 f5;refine⟨_,rfl,go_of (s:={ s with heap:=h',toks:=tk}) (n:= "range_iterator") st' rfl rfl (by decide) ⟨.int (lo+i),H,I1,⟨t,?_⟩,⟨rfl,rfl⟩,st',λb hb=>(hf b hb).1⟩⟩;rw[Int.mul_one]
 done:=by
  intro X hP hw hK hc i pins s σ H E I hf st hg;subst hP hw hK;obtain⟨f0,f1,f2,f3,f4,f5⟩:=hf it (by simp);exact wpAny_pyNext_range_end (I.ok.hd hc) st (by have:n<=i:=hg;lia) λh' eb=>⟨rfl,I.turned (t':=s.toks) (λb o hb e=>eb b o hb e) f0 f1 f3 f4 f5⟩
 self:=λ_ _ _ _ _ st h=>wpAny_pyIter_rangeiter st h
end L2
namespace L2
open PySem PySem.Spec PyProof.Rows
section
variable {X:Cx}{tg:Expr}
def iList(K:ag)(tl:TE):TI:=λσ H R=>tl σ H λx H1=>∃a,x=.ref a/\(∃xs,SqL K H1 a xs)/\R (Itl K a) H1
def iTup(K:ag)(tl:TE):TI:=λσ H R=>tl σ H λx H1=>∃a,x=.ref a/\(∃xs,SqT K H1 a xs)/\R (Itt K a) H1
def pi_list{l:Expr}{tl:TE}(hl:PE X l tl):PI X tg l (iList X.K tl):=by
 intro pins s σ H R I h;refine thn (hl pins s σ H _ I h) ?_;rintro v s1 ⟨x,H1,I1,r1,q1⟩;obtain⟨a,e,⟨xs,hq⟩,q⟩:=q1;subst e;cases r1;obtain⟨its,rv,p,hz⟩:=I1.list hq;refine wpAny_pyIter_list p.isList ?_;refine⟨s1.heap.objs.size,[s1.heap.objs.size],_,_,H1,rfl,I1.kept (t':=s1.toks) λb o e=>aj _ e,ziH a _,⟨_,ay _ rfl,rfl,rfl⟩,λb hb=>?_,q⟩;have e:b=s1.heap.objs.size:=by simpa using hb
 subst e;exact I1.fpOk (am _) (I1.hok.fresh (am _))
def pi_tup{l:Expr}{tl:TE}(hl:PE X l tl):PI X tg l (iTup X.K tl):=by
 intro pins s σ H R I h;refine thn (hl pins s σ H _ I h) ?_;rintro v s1 ⟨x,H1,I1,r1,q1⟩;obtain⟨a,e,⟨xs,hq⟩,q⟩:=q1;subst e;cases r1;obtain⟨its,rv,p,hz⟩:=I1.tuple hq;refine wpAny_pyIter_tuple (show s1.heap.IsTuple a its.toArray from p) ?_;refine⟨s1.heap.objs.size,[s1.heap.objs.size],_,_,H1,rfl,I1.kept (t':=s1.toks) λb o e=>aj _ e,zgS a _,⟨_,ay _ rfl,rfl,rfl⟩,λb hb=>?_,q⟩;have e:b=s1.heap.objs.size:=by simpa using hb
 subst e;exact I1.fpOk (am _) (I1.hok.fresh (am _))
def zjV{pins:List (ai×Obj)}{σ:St}{H:Hp}{s:ah}{R:It->Hp->Prop}{E:af->ah->Prop}{lo hi:Int}{t u v:Tok}{tk:Nat}(I:Inv X pins σ H s)(h1:-(2 ^ 62)<=lo)(h2:lo<2 ^ 62)(h3:-(2 ^ 62)<=hi)(h4:hi<2 ^ 62)
  (q:R (Itr lo (hi-lo).toNat) H):av (model X.prog X.w) X.A (pyIter (.ref s.heap.objs.size)) (PIE X pins σ tg R) E { s with heap:=s.heap.push { cls:=.type "range",data:=.fields #[.int lo t,.int hi u,.int 1 v]},toks:=tk}:=by
 refine wpAny_pyIter_range (IsRange.new ..) (small_one h1 h2 h3 h4) ?_;have I1:Inv X pins σ H { s with heap:=s.heap.push { cls:=.type "range",data:=.fields #[.int lo t,.int hi u,.int 1 v]},toks:=tk}:=I.kept λb o e=>aj _ e;refine⟨(s.heap.push { cls:=.type "range",data:=.fields #[.int lo t,.int hi u,.int 1 v]}).objs.size,[(s.heap.push { cls:=.type "range",data:=.fields #[.int lo t,.int hi u,.int 1 v]}).objs.size],_,_,H,rfl,
  I1.kept (t':=tk) λb o e=>aj _ e,zkL _ lo (hi-lo).toNat,?_,λb hb=>?_,q⟩
 ·have e1:lo+((0:Nat):Int)*1=lo:=by simp
  have e2:(((hi-lo).toNat:Nat):Int)-((0:Nat):Int)=k8 lo hi 1:=by rw[rangeSize_one];split <;> lia
  show IsRangeIter _ _ (lo+((0:Nat):Int)*1) ((((hi-lo).toNat:Nat):Int)-((0:Nat):Int)) 1;rw[e1,e2];exact ay _ rfl
 ·have e:b=(s.heap.push { cls:=.type "range",data:=.fields #[.int lo t,.int hi u,.int 1 v]}).objs.size:=by simpa using hb
  subst e;exact I1.fpOk (am _) (I1.hok.fresh (am _))
def iRng1(ta:TA):TI:=λσ H R=>ta σ H λvs H1=>∃j:Int,vs=[.int j] /\ -(2 ^ 62)<=j/\j<2 ^ 62/\R (Itr 0 j.toNat) H1
def iRng2(ta:TA):TI:=λσ H R=>ta σ H λvs H1=>∃i j:Int,vs=[.int i,.int j]/\(-(2 ^ 62)<=i/\i<2 ^ 62 /\ -(2 ^ 62)<=j/\j<2 ^ 62)/\R (Itr i (j-i).toNat) H1
def pi_range1{a:Expr}{ta:TA}{p pos:Pos}(hg:Gl X "range")(hm:X.mg "range" =ab)(ha:PA X [a] ta)(hs:aY [a] X.env=[(false,eval a X.env)]:=by rfl):PI X tg (.Call (.Name "range" p) [a] [] pos) (iRng1 ta):=by
 intro pins s σ H R I h;refine Call_ (zd7 I hg hm boot_range (bU (thn (ha pos pins s σ H _ I h) ?_) hs rfl));rintro us s1 ⟨vs,H1,I1,r1,q1⟩;obtain⟨j,e,q1,q2,q⟩:=q1;subst e;cases r1 with
 |cons r rr=>
  cases rr;obtain⟨t,rfl⟩:=r;exact call_range_1 (zjV I1 (by lia) (by lia) q1 q2 (by simpa using q))
def pi_range2{a b:Expr}{ta:TA}{p pos:Pos}(hg:Gl X "range")(hm:X.mg "range" =ab)(ha:PA X [a,b] ta)(hs:aY [a,b] X.env=[(false,eval a X.env),(false,eval b X.env)]:=by rfl)(hs2:aY [b] X.env=[(false,eval b X.env)]:=by rfl) :
  PI X tg (.Call (.Name "range" p) [a,b] [] pos) (iRng2 ta):=by
 intro pins s σ H R I h;refine Call_ (zd7 I hg hm boot_range (bU (thn (ha pos pins s σ H _ I h) ?_) (by rw[hs,hs2]) (by rw[hs2];rfl)));rintro us s1 ⟨vs,H1,I1,r1,q1⟩;obtain⟨i,j,e,⟨q1,q2,q3,q4⟩,q⟩:=q1;subst e;cases r1 with
 |cons r rr=>
  cases rr with
  |cons r' rr=>
   cases rr;obtain⟨t,rfl⟩:=r;obtain⟨t',rfl⟩:=r';exact call_range_2 (zjV I1 q1 q2 q3 q4 q)
def tFor(wi:TI)(g:TG)(tb:TS):TS:=λD σ H=>wi σ H λJ H1=>∃W:Nat->Nat->St->Hp->Prop,(∃m,W 0 m σ H1)/\∀i m σ H,W i m σ H ->
 (J.stop i H/\D.nx σ H)\/(J.go i H/\∃N:St->Hp->Prop,(∀σ' H',N σ' H'->∃m',m'<m/\W (i+1) m' σ' H')/\∀x H',J.yld i H x H'->g x σ H' λσ2 H2=>tb { D with nx:=N,ct:=N,bk:=D.nx} σ2 H2)
def zf5(fp:List ai)(h:aT):List (ai×Obj):=fp.filterMap λb=>(h.get? b).map λo=>(b,o)
def zc1{fp:List ai}{h:aT}{b:ai}{o:Obj}(hb:b∈fp)(e:h.get? b=aa o):(b,o)∈zf5 fp h:=dR.mpr ⟨b,hb,by rw[e];rfl⟩
def of_pinsAt{fp:List ai}{h:aT}{p:ai×Obj}(hp:p∈zf5 fp h):p.1∈fp/\h.get? p.1=aa p.2:=by
 obtain⟨b,hb,e⟩:=dR.mp hp;cases q:h.get? b with
 |none=>rw[q]at e;cases e
 |some o=>
  rw[q]at e;have e':(b,o)=p:=aR e;subst e';exact⟨hb,q⟩
def Inv.pinned{pins:List (ai×Obj)}{σ:St}{H:Hp}{s:ah}{fp:List ai}(I:Inv X pins σ H s)(hf:∀b∈fp,zfx X pins H b)(ho:∀b∈fp,∃o,s.heap.get? b=aa o/\∀v,o.data≠.cell v):Inv X (pins++zf5 fp s.heap) σ H s:=
 I.pins_of λp hp=>(br.mp hp).elim (λz=>I.pin p (aI _ z)) λz=>by
  obtain⟨hb,e⟩:=of_pinsAt z;obtain⟨f0,f1,f2,_⟩:=hf p.1 hb;obtain⟨o,e',d⟩:=ho p.1 hb;rw[e]at e';cases e';exact⟨e,f0,f1,f2,d⟩
def Inv.unpinned{pins pl:List (ai×Obj)}{σ:St}{H:Hp}{s:ah}(I:Inv X (pins++pl) σ H s):Inv X pins σ H s:=I.pins_of λp hp=>I.pin p (aI _ (bQ _ hp))
def ps_for{iter:Expr}{body:List Stmt}{wi:TI}{g:TG}{tb:TS}{pos:Pos}(hp:PassesOwn (model X.prog X.w) X.A X.env X.xe)(hc:X.calm=true)(hi:PI X tg iter wi)(hg:PG X tg g)(hb:PSs X body tb)
  (hs:∀x,ci iter X.env x=pure x:=by intro _;rfl):PS X (.For tg iter body [] pos) (tFor wi g tb):=by
 intro pins s σ H D I h;refine wpAny_For (thn (hi pins s σ H _ I h) λv s1 h1=>thn h1 λitv s2 h2=>?_) hs;obtain⟨it,fp,tn,J,H2,e,I2,T,st2,f2,W,⟨m0,w0⟩,turn⟩:=h2;subst e;have stat:∀{H':Hp},(∀b∈fp,H' b=ab)->∀b∈fp,zfx X pins H' b:=λhn b hb=>⟨hn b hb,(f2 b hb).2⟩
 refine codeAny_forLoop_any (λn s'=>∃i σ' H',Inv X pins σ' H' s'/\tn i s'.heap/\(∀b∈fp,H' b=ab)/\W i n σ' H') ?_ m0 ⟨0,σ,H2,I2,st2,λb hb=>(f2 b hb).1,w0⟩;rintro n s3 ⟨i,σ3,H3,I3,st3,fr3,w3⟩;rcases turn i n σ3 H3 w3 with ⟨stop,qn⟩|⟨go,N,hN,step⟩
 ·refine wpAny_passesOwn hp (thn (T.done X rfl rfl rfl hc i pins s3 σ3 H3 X.xe I3 (stat fr3) st3 stop) ?_);rintro r s4 ⟨hr,I4⟩;subst hr;exact wpAny_execs_nil ⟨σ3,H3,I4,qn⟩
 ·refine wpAny_passesOwn hp (thn (T.item X rfl rfl rfl hc i pins s3 σ3 H3 X.xe I3 (stat fr3) st3 go) ?_);rintro r s4 ⟨u,hr,h4⟩;subst hr;refine wpAny_passesOwn hp (thn h4 ?_);rintro _ s5 ⟨x,H5,I5,r5,y5,st5,fr5⟩;have I5':=I5.pinned (stat fr5) (T.obj _ _ st5);refine wpAny_passesOwn hp (thn (hg _ s5 σ3 H5 x u _ I5' r5 (step x H5 y5)) ?_);rintro _ s6 ⟨σ6,H6,I6,q6⟩;refine wpAny_passesOwn hp (thn (hb _ s6 σ6 H6 _ I6 q6) λf s7 q7=>?_);have again:∀{σ7:St} {H7:Hp},Inv X (pins++zf5 fp s5.heap) σ7 H7 s7->N σ7 H7->∃m,m<n/\∃i σ' H',Inv X pins σ' H' s7/\tn i s7.heap/\(∀b∈fp,H' b=ab)/\W i m σ' H':=fun {σ7 H7} I7 n7=>by
   obtain⟨m',hm,w7⟩:=hN σ7 H7 n7;refine⟨m',hm,i+1,σ7,H7,I7.unpinned,T.keep _ _ _ st5 λb hb o e=>(I7.pin (b,o) (aI _ (aI _ (zc1 hb e)))).1,λb hb=>?_,w7⟩;obtain⟨o,e,d⟩:=T.obj _ _ st5 b hb;exact(I7.pin (b,o) (aI _ (aI _ (zc1 hb e)))).2.1
  cases f with
  |next=>obtain⟨σ7,H7,I7,n7⟩:=q7;exact again I7 n7
  |cont=>obtain⟨σ7,H7,I7,n7⟩:=q7;exact again I7 n7
  |brk=>obtain⟨σ7,H7,I7,q7⟩:=q7;exact⟨σ7,H7,I7.unpinned,q7⟩
  |ret v=>obtain⟨x7,σ7,H7,I7,r7,q7⟩:=q7;exact⟨x7,σ7,H7,I7.unpinned,r7,q7⟩
end
end L2
namespace L2
open PySem PySem.Spec PyProof.Rows
abbrev R2:=V->V->Hp->VK->Prop
def OpR(X:Cx)(f:af->af->Sem af)(r:R2):Prop:=
 ∀(pins:List (ai×Obj)) (s:ah) (σ:St) (H:Hp) (x y:V) (v u:af) (Q:VK),Inv X pins σ H s->RelV x v->RelV y u->r x y H Q ->
  av (model X.prog X.w) X.A (f v u) (EP X pins σ Q) X.xe s
def UnR(X:Cx)(f:af->Sem af)(r:V->Hp->VK->Prop):Prop:=
 ∀(pins:List (ai×Obj)) (s:ah) (σ:St) (H:Hp) (x:V) (v:af) (Q:VK),Inv X pins σ H s->RelV x v->r x H Q ->
  av (model X.prog X.w) X.A (f v) (EP X pins σ Q) X.xe s
def zfv(X:Cx)(f:af)(r:List V->Hp->VK->Prop):Prop:=
 ∀(pins:List (ai×Obj)) (s:ah) (σ:St) (H:Hp) (xs:List V) (us:List af) (Q:VK),Inv X pins σ H s->Vals xs us->r xs H Q ->
  av (model X.prog X.w) X.A (call f us) (EP X pins σ Q) X.xe s
def tOp(r:R2)(ta tb:TE):TE:=λσ H Q=>ta σ H λx H1=>tb σ H1 λy H2=>r x y H2 Q
def tUn(r:V->Hp->VK->Prop)(ta:TE):TE:=λσ H Q=>ta σ H λx H1=>r x H1 Q
def rI(C:Int->Int->Prop)(g:Int->Int->V):R2:=λx y H Q=>∃i j,x=.int i/\y=.int j/\C i j/\Q (g i j) H
def rI0(g:Int->Int->V):R2:=λx y H Q=>∃i j,x=.int i/\y=.int j/\Q (g i j) H
def rU(g:Int->V):V->Hp->VK->Prop:=λx H Q=>∃i,x=.int i/\Q (g i) H
section
variable {X:Cx}{a b c:Expr}{ta tb tc:TE}{pos:Pos}
def binT(ha:PE X a ta)(hb:PE X b tb){pins:List (ai×Obj)}{s:ah}{σ:St}{H:Hp}{R:V->V->Hp->Prop}(I:Inv X pins σ H s)
  (h:ta σ H λx H1=>tb σ H1 λy H2=>R x y H2) {Q:af->ah->Prop} {f:af->af->Sem af}
  (hf:∀v u s2 x y H2,Inv X pins σ H2 s2->RelV x v->RelV y u->R x y H2->av (model X.prog X.w) X.A (f v u) Q X.xe s2) :
  av (model X.prog X.w) X.A (eval a X.env) (λv s₁=>av (model X.prog X.w) X.A (eval b X.env) (λu s₂=>av (model X.prog X.w) X.A (f v u) Q X.xe s₂) X.xe s₁) X.xe s:=by
 refine thn (ha pins s σ H _ I h) ?_;rintro v s1 ⟨x,H1,I1,r1,q1⟩;refine thn (hb pins s1 σ H1 _ I1 q1) ?_;rintro u s2 ⟨y,H2,I2,r2,q2⟩;exact hf v u s2 x y H2 I2 r1 r2 q2
def pe_op{op:Operator}{r:R2}(ho:OpR X (binaryOp op) r)(ha:PE X a ta)(hb:PE X b tb):PE X (.BinOp a op b pos) (tOp r ta tb):=by
 intro pins s σ H Q I h;exact wpAny_BinOp (binT ha hb I h λv u s2 x y H2 I2 rx ry q=>ho pins s2 σ H2 x y v u Q I2 rx ry q)
def pe_un{op:UnaryOp}{r:V->Hp->VK->Prop}(ho:UnR X (unaryOp op) r)(ha:PE X a ta):PE X (.UnaryOp op a pos) (tUn r ta):=by
 intro pins s σ H Q I h;exact UnaryOp_ (thn (ha pins s σ H _ I h) λv s1 ⟨x,H1,I1,r1,q1⟩=>ho pins s1 σ H1 x v Q I1 r1 q1)
def opI{f:af->af->Sem af}{C:Int->Int->Prop}{g:Int->Int->Int}
  (rule:∀(i j:Int) (t u:Tok) (s:ah) (Q:af->ah->Prop) (E:af->ah->Prop),C i j->Q (.int (g i j) s.toks) { s with toks:=s.toks+1}->av (model X.prog X.w) X.A (f (.int i t) (.int j u)) Q E s) :
  OpR X f (rI C λi j=>.int (g i j)):=by
 intro pins s σ H x y v u Q I rx ry h;obtain⟨i,j,rfl,rfl,hc,q⟩:=h;obtain⟨t,rfl⟩:=rx;obtain⟨t',rfl⟩:=ry;exact rule i j t t' s _ _ hc ⟨.int (g i j),H,I.tok _,⟨_,rfl⟩,q⟩
def opI0{f:af->af->Sem af}{g:Int->Int->Int}
  (rule:∀(i j:Int) (t u:Tok) (s:ah) (Q:af->ah->Prop) (E:af->ah->Prop),Q (.int (g i j) s.toks) { s with toks:=s.toks+1}->av (model X.prog X.w) X.A (f (.int i t) (.int j u)) Q E s) :
  OpR X f (rI0 λi j=>.int (g i j)):=by
 intro pins s σ H x y v u Q I rx ry h;obtain⟨i,j,rfl,rfl,q⟩:=h;obtain⟨t,rfl⟩:=rx;obtain⟨t',rfl⟩:=ry;exact rule i j t t' s _ _ ⟨.int (g i j),H,I.tok _,⟨_,rfl⟩,q⟩
def opB0{f:af->af->Sem af}{g:Int->Int->Bool}
  (rule:∀(i j:Int) (t u:Tok) (s:ah) (Q:af->ah->Prop) (E:af->ah->Prop),Q (.bool (g i j)) s->av (model X.prog X.w) X.A (f (.int i t) (.int j u)) Q E s) :
  OpR X f (rI0 λi j=>.bl (g i j)):=by
 intro pins s σ H x y v u Q I rx ry h;obtain⟨i,j,rfl,rfl,q⟩:=h;obtain⟨t,rfl⟩:=rx;obtain⟨t',rfl⟩:=ry;exact rule i j t t' s _ _ ⟨.bl (g i j),H,I,rfl,q⟩
def CDiv(i j:Int):Prop:=0<j/\j<1073741824
def CMul(i j:Int):Prop:=(-(2 ^ 64)<i/\i<2 ^ 64)\/(-(2 ^ 64)<j/\j<2 ^ 64)
def CMul.ok{i j:Int}(h:CMul i j):IntMulOk i j:=by
 rcases h with ⟨h1,h2⟩|⟨h1,h2⟩
 ·exact .of_left (intBits_le_64 h1 h2)
 ·exact .of_right (intBits_le_64 h1 h2)
def op_add:OpR X (binaryOp .Add) (rI0 λi j=>.int (i+j)):=opI0 λ_ _ _ _ _ _ _ q=>add_int q
def op_sub:OpR X (binaryOp .Sub) (rI0 λi j=>.int (i-j)):=opI0 λ_ _ _ _ _ _ _ q=>sub_int q
def op_mul:OpR X (binaryOp .Mult) (rI CMul λi j=>.int (i*j)):=opI λ_ _ _ _ _ _ _ hc q=>mul_int q hc.ok
def op_fdiv:OpR X (binaryOp .FloorDiv) (rI CDiv λi j=>.int (i / j)):=opI λi j _ _ _ _ _ hc q=>by
 have h1:(0:Int)<j:=hc.1;have h2:j<1073741824:=hc.2;exact floordiv_int (by lia) (by rw[Int.fdiv_eq_ediv_of_nonneg i (by lia)];exact q) (.inl (PyProof.noPylong_small (by lia)))
def op_mod:OpR X (binaryOp .Mod) (rI (λ_ j=>0<j) λi j=>.int (i%j)):=opI λi j _ _ _ _ _ hc q=>by
 have h1:(0:Int)<j:=hc;exact mod_int' (by lia) (by rw[Int.fmod_eq_emod_of_nonneg i (by lia)];exact q)
def unI{f:af->Sem af}{g:Int->Int}
  (rule:∀(i:Int) (t:Tok) (s:ah) (Q:af->ah->Prop) (E:af->ah->Prop),Q (.int (g i) s.toks) { s with toks:=s.toks+1}->av (model X.prog X.w) X.A (f (.int i t)) Q E s) :
  UnR X f (rU λi=>.int (g i)):=by
 intro pins s σ H x v Q I rx h;obtain⟨i,rfl,q⟩:=h;obtain⟨t,rfl⟩:=rx;exact rule i t s _ _ ⟨.int (g i),H,I.tok _,⟨_,rfl⟩,q⟩
def un_neg:UnR X (unaryOp .USub) (rU λi=>.int (-i)):=unI λ_ _ _ _ _ q=>neg_int q
end
def scal:V->V->Bool
 |.non,.non=>true|.non,.int _=>true|.int _,.non=>true|.non,.bl _=>true|.bl _,.non=>true|.non,.str _=>true|.str _,.non=>true
 |.int _,.int _=>true|.bl _,.bl _=>true|.str _,.str _=>true|.byt _,.byt _=>true
 |.int _,.str _=>true|.str _,.int _=>true|.bl _,.str _=>true|.str _,.bl _=>true
 | _,_=>false
def rEq:R2:=λx y H Q=>scal x y=true/\Q (.bl (decide (x=y))) H
def rNe:R2:=λx y H Q=>scal x y=true/\Q (.bl (!decide (x=y))) H
def dec_int{i j:Int}:decide (V.int i=V.int j)=(i==j):=by
 rw[eQ];simp
def dec_bl{i j:Bool}:decide (V.bl i=V.bl j)=(i==j):=by
 rw[eQ];simp
def dec_str{i j:Str}:decide (V.str i=V.str j)=(i==j):=by
 rw[eQ];simp
def dec_byt{i j:Array UInt8}:decide (V.byt i=V.byt j)=(i.toList==j.toList):=by
 rw[eQ];cases i;cases j;simp
section
variable {X:Cx}{a b c:Expr}{ta tb tc:TE}{pos:Pos}
def zaF{pins:List (ai×Obj)}{σ:St}{H:Hp}{s:ah}{Q:VK}{k k':Bool}(I:Inv X pins σ H s)(q:Q (.bl k) H)(e:k=k'):EP X pins σ Q (.bool k') s:=by
 subst e;exact⟨.bl k,H,I,rfl,q⟩
def op_eq:OpR X (bC .Eq) rEq:=by
 intro pins s σ H x y v u Q I rx ry h;obtain⟨hs,q⟩:=h;cases x with
 |non=>
  cases rx;cases y with
  |non=>cases ry;exact kr (zaF I q (by simp))
  |bl j=>cases ry;exact kt (zaF I q (by simp))
  |int j=>obtain⟨t',rfl⟩:=ry;exact kI (zaF I q (by simp))
  |str j=>obtain⟨t',rfl⟩:=ry;exact kJ (zaF I q (by simp))
  | _=>exact absurd (show false=true from hs) aP
 |bl i=>
  cases rx;cases y with
  |non=>cases ry;exact ku (zaF I q (by simp))
  |bl j=>cases ry;exact eq_bool (zaF I q dec_bl)
  |str j=>obtain⟨t',rfl⟩:=ry;exact kx (zaF I q (by simp))
  | _=>exact absurd (show false=true from hs) aP
 |int i=>
  obtain⟨t,rfl⟩:=rx;cases y with
  |non=>cases ry;exact kK (zaF I q (by simp))
  |int j=>obtain⟨t',rfl⟩:=ry;exact eq_int (zaF I q dec_int)
  |str j=>obtain⟨t',rfl⟩:=ry;exact kL (zaF I q (by simp))
  | _=>exact absurd (show false=true from hs) aP
 |str i=>
  obtain⟨t,rfl⟩:=rx;cases y with
  |non=>cases ry;exact kM (zaF I q (by simp))
  |bl j=>cases ry;exact ky (zaF I q (by simp))
  |int j=>obtain⟨t',rfl⟩:=ry;exact kN (zaF I q (by simp))
  |str j=>obtain⟨t',rfl⟩:=ry;exact eq_str (zaF I q dec_str)
  | _=>exact absurd (show false=true from hs) aP
 |byt i=>
  obtain⟨t,rfl⟩:=rx;cases y with
  |byt j=>obtain⟨t',rfl⟩:=ry;exact PySem.W.eq_bytes (zaF I q dec_byt)
  | _=>exact absurd (show false=true from hs) aP
 | _=>cases y <;> exact absurd (show false=true from hs) aP
def op_ne:OpR X (bC .NotEq) rNe:=by
 intro pins s σ H x y v u Q I rx ry h;obtain⟨hs,q⟩:=h;cases x with
 |non=>
  cases rx;cases y with
  |non=>cases ry;exact kz (zaF I q (by simp))
  |bl j=>cases ry;exact kB (zaF I q (by simp))
  |int j=>obtain⟨t',rfl⟩:=ry;exact kO (zaF I q (by simp))
  |str j=>obtain⟨t',rfl⟩:=ry;exact kP (zaF I q (by simp))
  | _=>exact absurd (show false=true from hs) aP
 |bl i=>
  cases rx;cases y with
  |non=>cases ry;exact kC (zaF I q (by simp))
  |bl j=>cases ry;exact ne_bool (zaF I q (congrArg not dec_bl))
  |str j=>obtain⟨t',rfl⟩:=ry;exact kD (zaF I q (by simp))
  | _=>exact absurd (show false=true from hs) aP
 |int i=>
  obtain⟨t,rfl⟩:=rx;cases y with
  |non=>cases ry;exact kQ (zaF I q (by simp))
  |int j=>obtain⟨t',rfl⟩:=ry;exact ne_int (zaF I q (congrArg not dec_int))
  |str j=>obtain⟨t',rfl⟩:=ry;exact kR (zaF I q (by simp))
  | _=>exact absurd (show false=true from hs) aP
 |str i=>
  obtain⟨t,rfl⟩:=rx;cases y with
  |non=>cases ry;exact kS (zaF I q (by simp))
  |bl j=>cases ry;exact kE (zaF I q (by simp))
  |int j=>obtain⟨t',rfl⟩:=ry;exact kT (zaF I q (by simp))
  |str j=>obtain⟨t',rfl⟩:=ry;exact ne_str (zaF I q (congrArg not dec_str))
  | _=>exact absurd (show false=true from hs) aP
 |byt i=>
  obtain⟨t,rfl⟩:=rx;cases y with
  |byt j=>obtain⟨t',rfl⟩:=ry;exact PySem.W.ne_bytes (zaF I q (congrArg not dec_byt))
  | _=>exact absurd (show false=true from hs) aP
 | _=>cases y <;> exact absurd (show false=true from hs) aP
def op_lt:OpR X (bC .Lt) (rI0 λi j=>.bl (decide (i<j))):=opB0 λ_ _ _ _ _ _ _ q=>lt_int q
def op_le:OpR X (bC .LtE) (rI0 λi j=>.bl (decide (i<=j))):=opB0 λ_ _ _ _ _ _ _ q=>le_int q
def op_gt:OpR X (bC .Gt) (rI0 λi j=>.bl (decide (j<i))):=opB0 λ_ _ _ _ _ _ _ q=>gt_int q
def op_in_str:OpR X (bC .In) (λx y H Q=>∃i j,x=.str i/\y=.str j/\Q (.bl (!(fG j i 0 j.length 1).isEmpty)) H):=by
 intro pins s σ H x y v u Q I rx ry h;obtain⟨i,j,rfl,rfl,q⟩:=h;obtain⟨t,rfl⟩:=rx;obtain⟨t',rfl⟩:=ry;exact in_str (zaF I q rfl)
def op_isN:OpR X (bC .Is) (λx y H Q=>y=.non/\Q (.bl (decide (x=.non))) H):=by
 intro pins s σ H x y v u Q I rx ry h;obtain⟨rfl,q⟩:=h;cases ry;refine is_none_gen (zaF I q ?_);cases x <;> first
  |(cases rx;rfl)
  |(obtain⟨t,rfl⟩:=rx;rfl)
def op_notN:OpR X (bC .IsNot) (λx y H Q=>y=.non/\Q (.bl (!decide (x=.non))) H):=by
 intro pins s σ H x y v u Q I rx ry h;obtain⟨rfl,q⟩:=h;cases ry;refine isnot_none_gen (zaF I q ?_);cases x <;> first
  |(cases rx;rfl)
  |(obtain⟨t,rfl⟩:=rx;rfl)
def zie:OpR X (bC .NotIn) (λx y H Q=>∃i j,x=.str i/\y=.str j/\Q (.bl (!(!(fG j i 0 j.length 1).isEmpty))) H):=by
 intro pins s σ H x y v u Q I rx ry h;obtain⟨i,j,rfl,rfl,q⟩:=h;obtain⟨t,rfl⟩:=rx;obtain⟨t',rfl⟩:=ry;exact notIn_str (zaF I q rfl)
def zai(b:Expr){op:CmpOp}(h:op≠.In:=by decide)(h2:op≠.NotIn:=by decide):behindInMarks op b=false:=by
 have e1:(op==CmpOp.In)=false:=by cases op <;> first|rfl|exact absurd rfl h
 have e2:(op==CmpOp.NotIn)=false:=by cases op <;> first|rfl|exact absurd rfl h2
 cases b <;> simp[behindInMarks,e1,e2]
def pe_cmpR{op:CmpOp}{r:R2}(ho:OpR X (bC op) r)(ha:PE X a ta)(hb:PE X b tb)(hm:behindInMarks op b=false):PE X (.Compare a [op] [b] pos) (tOp r ta tb):=by
 intro pins s σ H Q I h;exact wpAny_Compare1 (binT ha hb I h λv u s2 x y H2 I2 rx ry q=>ho pins s2 σ H2 x y v u Q I2 rx ry q) hm
def tTest(t:TE):TT:=λσ H Q=>t σ H λx H'=>∃k,x=.bl k/\Q k H'
def pt_cmpR{op:CmpOp}{r:R2}(ho:OpR X (bC op) r)(ha:PE X a ta)(hb:PE X b tb)(hm:behindInMarks op b=false):PT X (.Compare a [op] [b] pos) (tTest (tOp r ta tb)):=by
 intro pins s σ H Q I h;refine wpAny_isTrue_Compare1 (thn (ha pins s σ H _ I h) λv s1 ⟨x,H1,I1,r1,q1⟩=>thn (hb pins s1 σ H1 _ I1 q1) λu s2 ⟨y,H2,I2,r2,q2⟩=>
  thn (ho pins s2 σ H2 x y v u _ I2 r1 r2 q2) λc s3 ⟨z,H3,I3,r3,k,e,q3⟩=>?_) hm
 subst e;cases r3;exact wpAny_truthy_bool ⟨H3,I3,q3⟩
def zim:(aX:Nat)<2 ^ 63:=by rw[cq];decide
def zkN:OpR X (binaryOp .Add) (λx y H Q=>∃i j,x=.str i/\y=.str j/\i.length+j.length<=aX/\Q (.str (i++j)) H):=by
 intro pins s σ H x y v u Q I rx ry h;obtain⟨i,j,rfl,rfl,hz,q⟩:=h;obtain⟨t,rfl⟩:=rx;obtain⟨t',rfl⟩:=ry;exact add_str (λt' tk=>⟨.str (i++j),H,I.tok _,⟨_,rfl⟩,q⟩) hz
def zf4{x:V}{us:List af}(r:Vals [x] us):∃u,us=[u]/\RelV x u:=by
 cases r with
 |cons r1 r2=>cases r2;exact⟨_,rfl,r1⟩
def vals2{x y:V}{us:List af}(r:Vals [x,y] us):∃u w',us=[u,w']/\RelV x u/\RelV y w':=by
 cases r with
 |cons r1 r2=>
  cases r2 with
  |cons r3 r4=>cases r4;exact⟨_,_,rfl,r1,r3⟩
def call_int1:zfv X (.type "int") (λxs H Q=>(∃i,xs=[.int i]/\Q (.int i) H)\/∃k,xs=[.bl k]/\Q (.int (if k then 1 else 0)) H):=by
 intro pins s σ H xs us Q I r h;rcases h with ⟨i,rfl,q⟩|⟨k,rfl,q⟩
 ·obtain⟨u,rfl,t,rfl⟩:=zf4 r;exact call_int_int ⟨.int i,H,I,⟨_,rfl⟩,q⟩
 ·obtain⟨u,rfl,r1⟩:=zf4 r;cases r1;exact call_int_bool ⟨.int (if k then 1 else 0),H,I.tok _,⟨_,rfl⟩,q⟩
end
end L2
namespace L2
open PySem PySem.Spec PyProof.Rows
structure ObjM(h:aT)(x dx C:ai)(mA:Str->Option af):Prop where
 obj:h.get? x=aa (dg C dx)
 ns:h.Ns1 dx mA
 ne:dx≠x
def lookIn_ns{h:aT}{dx:ai}{mA:Str->Option af}(n:h.Ns1 dx mA):∃od,h.get? dx=aa od/\∀name,gD name od=aa (mA name):=by
 obtain⟨o,es,ep,ho,hd,hk,_,hm⟩:=n;refine⟨o,ho,λname=>?_⟩;have e:=hm name;unfold nsFind findBy at e;rw[<- Array.find?_toList]at e;unfold gD;rw[hd];dsimp only;split
 ·rename_i y q;rw[q]at e;exact congrArg aa e
 ·rename_i q;rw[q]at e;have a:es.toList.any (·.refKey)=false:=by
   rw[List.any_eq_false];intro y hy;obtain⟨z,t,hkey⟩:=hk y (dh.mp hy);simp[l6,hkey]
  have a':¬ es.toList.any (·.refKey)=true:=by rw[a];exact aP
  rw[if_neg a'];exact congrArg aa e
def ObjM.look{h:aT}{x dx C:ai}{mA:Str->Option af}(I:ObjM h x dx C mA):∃od,PySem.W.InstAt h x (dg C dx) C (aa od)/\∀name,gD name od=aa (mA name):=
 let⟨od,ho,hl⟩:=lookIn_ns I.ns
 ⟨od,⟨I.obj,rfl,rfl,ho⟩,hl⟩
section
variable {prog:aK}{w:aO}{A:aQ}{E:af->ah->Prop}{s:ah}{K:ag}{x dx C f:ai}{mA:Str->Option af}{name:Str}{v:af}
def get_map{expr:Bool}{Q:af->ah->Prop}(X:K.In s.heap)(I:ObjM s.heap x dx C mA)(hg:dL K C name=true)(hh:d7 K C=true)
  (ha:ba K (.ref C) name=aa ab) (hv:mA name=aa v) (hv':jR v=true) (h:Q v { s with toks:=s.toks+1}) :
  av (model prog w) A (getAttr (.ref x) name expr) Q E s:=by
 obtain⟨od,J,hl⟩:=I.look;exact PySem.W.get_value X J (gA hg).1 (PySem.W.findObj_own hh ha rfl (by rw[hl,hv])) hv' h
def get_meth{pl:Sem Bool}{Q:af×List af->ah->Prop}(X:K.In s.heap)(I:ObjM s.heap x dx C mA)(hg:dL K C name=true)
  (hf:ba K (.ref C) name=aa (aa (.ref f))) (ht:dr K (.ref f)=true) (hv:mA name=ab) (h:Q (.ref f,[.ref x]) s) :
  av (model prog w) A (getMethod (.ref x) name pl) Q E s:=by
 obtain⟨od,J,hl⟩:=I.look;exact PySem.W.method_fn X J (gA hg).1 (gA hg).2 hf (beq_iff_eq.mp ht) (by show(gD name od).map (·.isSome)=aa false;rw[hl,hv];rfl) h
def set_map{ns:List Str}{Q:Unit->ah->Prop}(X:K.In s.heap)(I:ObjM s.heap x dx C mA)
  (hs:ba K (.ref C) "__setattr__" =aa (aa (.builtin "object.__setattr__"))) (hp:fM K C=true) (ht:iF K C name=aa ab) (hh:d7 K C=true)
  (hw:jt mA ns) (hsz:ns.length<=aX)
  (h:∀h',ObjM h' x dx C (λy=>if y=name then aa v else mA y)->dJ dx s.heap h'->Q () { s with heap:=h',toks:=s.toks+2}) :
  av (model prog w) A (setAttr (.ref x) name v) Q E s:=by
 obtain⟨od,J,hl⟩:=I.look;refine PySem.W.set_plain X J hs (PySem.W.osa_open (s:={ s with toks:=s.toks+1}) (r:=ab) X J hp ht λb=>?_);obtain⟨cd,hc,hd'⟩:=PySem.W.any_some hh;have hx:s.heap.get? x=aa ⟨.ref C,aa dx,.plain,#[]⟩:=I.obj;refine ae (ak (ae (ae (wpAny_loadPart hx (ae (lO (s:={ s with toks:=s.toks+1}) (PySem.W.looks_clsIn X hc) ?_))))));rw[hd'];refine ak (a:=aa dx) (ae (ak (ae ?_)));refine wpAny_nsSet1 (s:={ s with toks:=s.toks+1}) I.ns λh' hn2 hs2=>?_;obtain⟨oD,esD,epD,hoD,hdD,hcD⟩:=hn2.count (lW name v hw);refine ae (wpAny_lookBehind hoD (by rw[hdD];exact pastItsLine_dict (aS hcD (by rw[aJ];lia))) ?_);exact ak (h _ ⟨(hs2.2 _ (cN I.ne)).trans I.obj,hn2,I.ne⟩ hs2)
def make_map{R:Result->ah->Prop}{vs:List af}{kw:List (Str×af)}(X:K.In s.heap)(hm:gg K C=true)
  (hi:ba K (.ref C) "__init__" =aa (aa (.ref f))) (hf:PySem.W.typeIn K (.ref f)=aa (.type "function"))
  (h:codeAny (model prog w) (A.under (.builtin "type.__call__" ⟨.ref C :: vs,kw⟩)) (.call (.ref f) ⟨.ref (s.heap.objs.size+1) :: vs,kw⟩) (PySem.W.InitBack (s.heap.objs.size+1) R)
   { s with heap:=(s.heap.push cK).push (dg C s.heap.objs.size)}) :
  codeAny (model prog w) A (.call (.ref C) ⟨vs,kw⟩) R s:=by
 obtain⟨hh,g,d,t,os⟩:=s;exact PySem.W.make_core (PySem.W.makes_of X hm) (PySem.W.looks_findIn X hi) (λself=>PySem.W.bind_fn X self hf) (.inl rfl) h
end
def zgy(f:Str)(v:V):List (Str×V)->List (Str×V)
 |[]=>[(f,v)]
 |(g,x)::r=>if g=f then (g,v)::r else (g,x)::zgy f v r
def zga(f g:Str)(v:V):∀fs:List (Str×V),(zgy f v fs).lookup g=if g=f then aa v else fs.lookup g
 |[]=>by
  show cj g [(f,v)]=_;by_cases h:g=f
  ·have hb:(g==f)=true:=beq_iff_eq.mpr h;simp only[cj,hb,if_pos h]
  ·have hb:(g==f)=false:=beq_eq_false_iff_ne.mpr h;simp only[cj,hb,if_neg h]
 |(k,x)::r=>by
  have ih:=zga f g v r;rw[show zgy f v ((k,x)::r)=(if k=f then (k,v)::r else (k,x)::zgy f v r)from rfl];by_cases hk:k=f
  ·rw[if_pos hk];by_cases h:g=k
   ·have hb:(g==k)=true:=beq_iff_eq.mpr h;simp only[cj,hb,if_pos (h.trans hk)]
   ·have hb:(g==k)=false:=beq_eq_false_iff_ne.mpr h;simp only[cj,hb,if_neg (λe:g=f=>h (e.trans hk.symm))]
  ·rw[if_neg hk];by_cases h:g=k
   ·have hb:(g==k)=true:=beq_iff_eq.mpr h;simp only[cj,hb,if_neg (λe:g=f=>hk (h.symm.trans e))]
   ·have hb:(g==k)=false:=beq_eq_false_iff_ne.mpr h;simp only[cj,hb];exact ih
def zge(f:Str)(v:V):∀fs:List (Str×V),f∈(zgy f v fs).map (·.1)/\∀g,g∈fs.map (·.1)->g∈(zgy f v fs).map (·.1)
 |[]=>⟨by simp[zgy],λg h=>by simp at h⟩
 |(k,x)::r=>by
  obtain⟨i1,i2⟩:=zge f v r;rw[show zgy f v ((k,x)::r)=(if k=f then (k,v)::r else (k,x)::zgy f v r)from rfl];by_cases hk:k=f
  ·rw[if_pos hk];subst hk;exact⟨by simp,λg h=>by simpa using h⟩
  ·rw[if_neg hk];refine⟨?_,λg h=>?_⟩
   ·rw[aH];exact aq _ i1
   ·rw[aH]at h ⊢;rcases aF.mp h with e|e
    ·exact aF.mpr (.inl e)
    ·exact aq _ (i2 g e)
def zf9(f:Str)(v:V):∀fs:List (Str×V),(zgy f v fs).length<=fs.length+1
 |[]=>by simp[zgy]
 |(k,x)::r=>by
  have ih:=zf9 f v r;rw[show zgy f v ((k,x)::r)=(if k=f then (k,v)::r else (k,x)::zgy f v r)from rfl];by_cases hk:k=f
  ·rw[if_pos hk,aJ,aJ];lia
  ·rw[if_neg hk,aJ,aJ];lia
def RelO.some_of{v:V}{o:Option af}(r:RelO (aa v) o):∃u,o=aa u/\RelV v u:=by
 cases o with
 |none=>exact(show False from r).elim
 |some u=>exact⟨u,rfl,r⟩
def RelO.none_of{o:Option af}(r:RelO ab o):o=ab:=by
 cases o with
 |none=>rfl
 |some u=>exact(show False from r).elim
def handed_of{v:V}{u:af}(r:RelV v u):jR u=true:=by
 cases v with
 |non=>cases (show u=de from r);rfl
 |bl b=>cases (show u=gb b from r);rfl
 |int i=>obtain⟨t,e⟩:=(show ∃t,u=f7 i t from r);cases e;rfl
 |str x=>obtain⟨t,e⟩:=(show ∃t,u=cE x t from r);cases e;rfl
 |byt b=>obtain⟨t,e⟩:=(show ∃t,u=lj b t from r);cases e;rfl
 |flt b=>obtain⟨t,e⟩:=(show ∃t,u=jL b t from r);cases e;rfl
 |ref a=>cases (show u=bj a from r);rfl
 |ty n=>cases (show u=cR n from r);rfl
section
variable {P:aK}{w:aO}{H H':Hp}{h h':aT}{a C dx:ai}{fs fs':List (Str×V)}
def zg3(hok:HOk P w H h)(e:H a=aa (.ins C dx fs)):∃mA,ObjM h a dx C mA/\(∀f,RelO (fs.lookup f) (mA f))/\jt mA (fs.map (·.1))/\fs.length<=1000/\H dx=aa (.own a):=by
 obtain⟨d,z,ne,ob,mA,n,r,q⟩:=(show ObjOk P w H h a (.ins C dx fs)from hok a _ e);exact⟨mA,⟨ob,n,ne⟩,r,q,z,d⟩
end
structure Cls(K:ag)(C:ai):Prop where
 pg:dL K C kf=true
 hd:d7 K C=true
 po:fM K C=true
 sa:ba K (.ref C) "__setattr__" =aa (aa (.builtin "object.__setattr__"))
def Cls.get{K:ag}{C:ai}(c:Cls K C)(f:Str):dL K C f=true:=c.pg
def NoAttr(K:ag)(C:ai)(f:Str):Prop:=ba K (.ref C) f=aa ab
def NoAttr.taker{K:ag}{C:ai}{f:Str}(n:NoAttr K C f):iF K C f=aa ab:=by
 unfold iF;rw[show ba K (.ref C) f=aa ab from n];rfl
structure Con(K:ag)(C:ai)(f:Str)(v:V)(u:af):Prop where
 at_:ba K (.ref C) f=aa (aa u)
 rel:RelV v u
 get:jE K u "__get__" =aa ab
 cp:PySem.W.copiedNames.contains f=false
structure Meth(K:ag)(C:ai)(m:Str)(f:ai):Prop where
 at_:ba K (.ref C) m=aa (aa (.ref f))
 fn:dr K (.ref f)=true
 kp:bJ K (.ref f)=true
section
variable {X:Cx}{pins:List (ai×Obj)}{σ:St}{H:Hp}{s:ah}{a C dx:ai}{fs:List (Str×V)}{f:Str}{v:V}{A:aQ}{E:af->ah->Prop}
def zkl{b:Bool}{Q:af->ah->Prop}(I:Inv X pins σ H s)(e:H a=aa (.ins C dx fs))(c:Cls X.K C)(n:NoAttr X.K C f)(l:fs.lookup f=aa v)
  (h:∀u s',Inv X pins σ H s'->RelV v u->Q u s'):av (model X.prog X.w) A (getAttr (.ref a) f b) Q E s:=by
 obtain⟨mA,O,r,_,_,_⟩:=zg3 I.hok e;obtain⟨u,hu,ru⟩:=RelO.some_of (v:=v) (o:=mA f) (by rw[<- l];exact r f);exact get_map I.kIn O (c.get f) c.hd n hu (handed_of ru) (h u _ (I.tok _) ru)
def zgJ{m:Str}{g:ai}{pl:Sem Bool}{Q:af×List af->ah->Prop}(I:Inv X pins σ H s)(e:H a=aa (.ins C dx fs))(c:Cls X.K C)(k:Meth X.K C m g)(l:fs.lookup m=ab)
  (h:Q (.ref g,[.ref a]) s):av (model X.prog X.w) A (getMethod (.ref a) m pl) Q E s:=by
 obtain⟨mA,O,r,_,_,_⟩:=zg3 I.hok e;have hn:mA m=ab:=RelO.none_of (by rw[<- l];exact r m);exact get_meth I.kIn O (c.get m) k.at_ k.fn hn h
def zkI{y:V}{u:af}{Q:Unit->ah->Prop}(I:Inv X pins σ H s)(e:H a=aa (.ins C dx fs))(c:Cls X.K C)(n:NoAttr X.K C f)(hl:fs.length<1000)(ry:RelV y u)
  (h:∀s',Inv X pins σ (upd H a (.ins C dx (zgy f y fs))) s'->Q () s'):av (model X.prog X.w) A (setAttr (.ref a) f u) Q E s:=by
 obtain⟨mA,O,r,wi,_,ho⟩:=zg3 I.hok e;have hz:(fs.map (·.1)).length<=aX:=by rw[aw,cq];lia
 refine set_map I.kIn O c.sa c.po n.taker c.hd wi hz λh' O' sb=>h _ ?_;have hd:∃o,h'.get? dx=aa o:=let⟨o,_,_,e',_⟩:=O'.ns;⟨o,e'⟩;refine I.write (x:=a) (e:=dx) (by rw[e];exact fB) (.inr ho) (λb q hb z=>(sb.2 b hb).trans z) hd ?_;refine⟨by rw[zar O.ne];exact ho,?_,O.ne,O'.obj,_,O'.ns,λg=>?_,λg hg=>?_⟩
 ·have:=zf9 f y fs;lia
 ·show RelO ((zgy f y fs).lookup g) (if g=f then aa u else mA g);rw[zga];by_cases q:g=f
  ·rw[if_pos q,if_pos q];exact ry
  ·rw[if_neg q,if_neg q];exact r g
 ·by_cases q:g=f
  ·rw[q];exact(zge f y fs).1
  ·refine(zge f y fs).2 g (wi g λz=>hg ?_);show(if g=f then aa u else mA g)=ab;rw[if_neg q];exact z
def Inv.made(I:Inv X pins σ H s):Inv X pins σ (upd (upd H s.heap.objs.size (.own (s.heap.objs.size+1))) (s.heap.objs.size+1) (.ins C s.heap.objs.size []))
  { s with heap:=(s.heap.push cK).push (dg C s.heap.objs.size)}:=by
 have e1:(s.heap.push cK).get? s.heap.objs.size=aa cK:=ay s.heap rfl;have e2:((s.heap.push cK).push (dg C s.heap.objs.size)).get? (s.heap.objs.size+1)=aa (dg C s.heap.objs.size):=by
  have:=ay (s.heap.push cK) (o:=dg C s.heap.objs.size) rfl;rwa [bD]at this
 have e3:(s.heap.push cK).Ns s.heap.objs.size (λ_=>ab):=⟨cK,#[],_,e1,rfl,(λe he=>absurd he (by simp)),λ_=>rfl⟩
 have I1:=I.laid (a:=s.heap.objs.size) (o:=.own (s.heap.objs.size+1)) (h':=s.heap.push cK) (t':=s.toks) (λb u q=>aj _ q) (am _) ⟨_,e1⟩;refine I1.laid (a:=s.heap.objs.size+1) (o:=.ins C s.heap.objs.size []) (t':=s.toks) (λb u q=>aj _ q) (d8 (bD _ _)) ?_;have ne:s.heap.objs.size≠s.heap.objs.size+1:=aL (cP _);refine⟨by rw[zar ne,zam],aU _,ne,e2,λ_=>ab,(Heap.Ns1.of_empty e3).at λo q=>aj _ q,λ_=>fB,λy hy=>absurd rfl hy⟩
def attr_of{prog:aK}{w:aO}{env:Env}{e:Expr}{f:Str}{pos:Pos}{s:ah}{Q:af->ah->Prop}(hb:b9 e f env (eval e env)=eval e env)
  (h:av (model prog w) A (eval e env) (λo s₁=>av (model prog w) A (getAttr o f true) Q E s₁) E s):av (model prog w) A (eval (.Attribute e f pos) env) Q E s:=
 Attribute_any_ h (by rw[arm_eval_Attribute,hb])
end
def tFld(K:ag)(ta:TE)(f:Str):TE:=λσ H Q=>ta σ H λx H1=>∃a C dx fs v,x=.ref a/\H1 a=aa (.ins C dx fs)/\Cls K C/\NoAttr K C f/\fs.lookup f=aa v/\Q v H1
def sFld(K:ag)(ta tv:TE)(f:Str):TS:=λD σ H=>tv σ H λy H1=>ta σ H1 λx H2=>∃a C dx fs,x=.ref a/\H2 a=aa (.ins C dx fs)/\Cls K C/\NoAttr K C f/\fs.length<1000 /\
 D.nx σ (upd H2 a (.ins C dx (zgy f y fs)))
section
variable {X:Cx}{o e value:Expr}{f:Str}{pos pos' tpos:Pos}{ta tv:TE}
def zj2(he:PE X e ta)(hb:b9 e f X.env (eval e X.env)=eval e X.env):PE X (.Attribute e f pos) (tFld X.K ta f):=by
 intro pins s σ H Q I h;refine attr_of hb (thn (he pins s σ H _ I h) ?_);rintro u s1 ⟨x,H1,I1,rx,a,C,dx,fs,v,ex,ea,c,n,l,q⟩;subst ex;obtain rfl:u=bj a:=rx;exact zkl I1 ea c n l λu' s2 I2 ru=>⟨v,H1,I2,ru,q⟩
def ps_fld(ha:PE X o ta)(hv:PE X value tv)(hs:swapsWith value (aa (.Attribute o f pos')) pos.line X.env=pure false):PS X (.Assign [.Attribute o f pos'] value pos) (sFld X.K ta tv f):=by
 intro pins s σ H D I h;refine plainObj_wpAny_Assign_Attribute (thn (hv pins s σ H _ I h) λu s1 ⟨y,H1,I1,ry,q⟩=>thn (ha pins s1 σ H1 _ I1 q) ?_) hs;rintro ov s2 ⟨x,H2,I2,rx,a,C,dx,fs,ex,ea,c,n,l,q2⟩;subst ex;obtain rfl:ov=bj a:=rx;exact zkI I2 ea c n l ry λs3 I3=>⟨σ,_,I3,q2⟩
end
section
variable {X:Cx}{pins:List (ai×Obj)}{σ:St}{H:Hp}{s:ah}{A:aQ}{E:af->ah->Prop}{Q:af->ah->Prop}{c:af}{b:Bool}
inductive TyOf(K:ag)(H:Hp):V->af->Prop where
 |non:TyOf K H .non (.type "NoneType")
 |bl (x:Bool):TyOf K H (.bl x) (.type "bool")
 |int (i:Int):TyOf K H (.int i) (.type "int")
 |str (x:Str):TyOf K H (.str x) (.type "str")
 |flt (x:UInt64):TyOf K H (.flt x) (.type "float")
 |lst {a:ai} {xs:List V} (e:H a=aa (.lst xs)):TyOf K H (.ref a) (.type "list")
 |frz {a:ai} {o:Obj} {xs:List V} (e:H a=aa (.frz o (.lst xs))):TyOf K H (.ref a) (.type "list")
 |tup {a:ai} {xs:List V} (e:H a=aa (.tup xs)):TyOf K H (.ref a) (.type "tuple")
 |dK {a:ai} {kvs:List (Key×V)} (e:Rd H a (.dK kvs)):TyOf K H (.ref a) (.type "dict")
 |dT {a:ai} {kvs:List (List Key×V)} (e:H a=aa (.dT kvs)):TyOf K H (.ref a) (.type "dict")
 | ins {a C dx:ai} {fs:List (Str × V)} (e:H a=aa (.ins C dx fs)) (cl:Cls K C) (ha:ba K (.ref C) "__class__" = aa (aa (.builtin "object.__class__")))
   (hn:jE K (.builtin "object.__class__") "__get__" =aa (aa (.builtin "getset_descriptor.__get__"))) (htk:PySem.W.takesIn K (.builtin "object.__class__")=aa true)
   (hm:PySem.W.mroIn K C (.type "object")=aa true):TyOf K H (.ref a) (.ref C)
def isinst_ok{x:V}{u t:af}(I:Inv X pins σ H s)(rx:RelV x u)(ty:TyOf X.K H x t)(e:iZ X.K t c=aa b)(h:∀tk,Q (.bool b) { s with toks:=tk}) :
  av (model X.prog X.w) A (call (.builtin "isinstance") [u,c]) Q E s:=by
 cases ty with
 |non=>cases (show u=de from rx);exact cB PySem.W.kitx_none I.kIn fB e (λz=>nomatch z) h
 |bl y=>cases (show u=gb y from rx);exact cB PySem.W.kitx_bool I.kIn fB e (λz=>nomatch z) h
 |int i=>obtain⟨t,q⟩:=(show ∃t,u=f7 i t from rx);cases q;exact cB PySem.W.kitx_int I.kIn fB e (λz=>nomatch z) h
 |str y=>obtain⟨t,q⟩:=(show ∃t,u=cE y t from rx);cases q;exact cB PySem.W.kitx_str I.kIn fB e (λz=>nomatch z) h
 |flt y=>obtain⟨t,q⟩:=(show ∃t,u=jL y t from rx);cases q;exact cB PySem.W.kitx_float I.kIn fB e (λz=>nomatch z) h
 |@lst a xs ea=>
  cases (show u=bj a from rx);obtain⟨_,_,n,_,h1⟩:=(show ObjOk X.prog X.w H s.heap a (.lst xs)from I.hok a _ ea);exact cB jF I.kIn ⟨_,h1,rfl⟩ e (λz=>nomatch z) h
 |@frz a ob xs ea=>
  cases (show u=bj a from rx);obtain⟨_,_,_,n,_,h1⟩:=(show ObjOk X.prog X.w H s.heap a (.frz ob (.lst xs))from I.hok a _ ea);exact cB jF I.kIn ⟨_,h1,rfl⟩ e (λz=>nomatch z) h
 |@tup a xs ea=>
  cases (show u=bj a from rx);obtain⟨_,_,_,p⟩:=(show ObjOk X.prog X.w H s.heap a (.tup xs)from I.hok a _ ea);obtain⟨o,h1,h2,_⟩:=p;exact cB PySem.W.kitx_tuple I.kIn ⟨o,h1,h2⟩ e (λz=>nomatch z) h
 |@dK a kvs ea=>
  cases (show u=bj a from rx);obtain⟨_,_,vs,_,p⟩:=(show ObjOk X.prog X.w H s.heap a (.dK kvs)from ea.ok I.hok);obtain⟨o,es,ep,h1,h2,_⟩:=p;exact cB jG I.kIn ⟨o,h1,h2.1⟩ e (λz=>nomatch z) h
 |@dT a kvs ea=>
  cases (show u=bj a from rx);obtain⟨_,_,xs,_,o,es,ep,h1,h2,_⟩:=(show ObjOk X.prog X.w H s.heap a (.dT kvs)from I.hok a _ ea);exact cB jG I.kIn ⟨o,h1,h2.1⟩ e (λz=>nomatch z) h
 |@ins a C dx fs ea cl ha hn htk hm=>
  cases (show u=bj a from rx);obtain⟨mA,O,_⟩:=zg3 I.hok ea;obtain⟨od,J,_⟩:=O.look;exact cB (PySem.W.kitx_own (cl.get _) cl.hd ha hn htk hm) I.kIn J e (λz=>nomatch z) h
end
end L2
namespace L2
open PySem PySem.Spec PyProof.Rows
structure Room(k:Nat)(A:aQ):Prop where
 hd:A.handled=ab
 dp:A.depth+3*k+5<recursionLimit
 un:A.units+16*k+200<cLine
def Room.mono{j k:Nat}{A:aQ}(r:Room k A)(h:j<=k):Room j A:=⟨r.hd,by have:=r.dp;lia,by have:=r.un;lia⟩
def Room.deeper{k:Nat}{A:aQ}(r:Room (k+1) A)(env:Env):Room k (A.deeper env):=
 ⟨r.hd,by have:=r.dp;show A.depth+1+3*k+5<_;lia,by have:=r.un;show A.units+3+16*k+200<_;lia⟩
def zkz{A:aQ}{C:ai}{us:List af}{kw:List (Str×af)}:(A.under (.builtin "type.__call__" ⟨.ref C::us,kw⟩)).depth=A.depth+1:=by
 first|rfl|simp[jv,Code.weight,Code.isCreation,Code.isGuard,Code.isCaller,lq,jw,guardIds]
def zkm{A:aQ}{C:ai}{us:List af}{kw:List (Str×af)}:(A.under (.builtin "type.__call__" ⟨.ref C::us,kw⟩)).units=A.units+1:=by
 first|rfl|simp[jv,Code.cUnits,lq,jw]
def Room.make{k:Nat}{A:aQ}(r:Room (k+1) A)(C:ai)(us:List af)(kw:List (Str×af)):Room k (A.under (.builtin "type.__call__" ⟨.ref C::us,kw⟩)):=
 ⟨r.hd,by have:=r.dp;rw[zkz];lia,by have:=r.un;rw[zkm];lia⟩
def Room.depth{k:Nat}{A:aQ}(r:Room k A):A.depth<recursionLimit:=by have:=r.dp;lia
def Room.units{k:Nat}{A:aQ}(r:Room k A):A.units+64<cLine:=by have:=r.un;lia
def tNil:TA:=λ_ H Q=>Q [] H
def tCons(ta:TE)(tr:TA):TA:=λσ H Q=>ta σ H λx H1=>tr σ H1 λxs H2=>Q (x::xs) H2
section
variable {X:Cx}{e:Expr}{es:List Expr}{te:TE}{t:TA}{pos:Pos}
def pa_nil:PA X [] tNil:=λ_ _ _ _ H Q I h=>hG ⟨[],H,I,.nil,h⟩
def zjk(ha:PE X e te)(hr:PA X es t)(hs:aY (e::es) X.env=(false,eval e X.env)::aY es X.env:=by rfl):PA X (e::es) (tCons te t):=by
 intro pos pins s σ H Q I h;rw[hs];show av _ _ (spliced ((false,eval e X.env)::backTo pos (aY es X.env))) _ _ s;refine gH (thn (ha pins s σ H _ I h) ?_);rintro u s1 ⟨x,H1,I1,r1,q1⟩;refine thn (hr pos pins s1 σ H1 _ I1 q1) ?_;rintro us s2 ⟨xs,H2,I2,r2,q2⟩;exact⟨x::xs,H2,I2,.cons r1 r2,q2⟩
def tTup(t:TA):TE:=λσ H Q=>t σ H λxs H1=>xs.length<=aX/\∀p,H1 p=ab->Q (.ref p) (upd H1 p (.tup xs))
def tLst(t:TA):TE:=λσ H Q=>t σ H λxs H1=>xs.length<=aX/\∀p,H1 p=ab->Q (.ref p) (upd H1 p (.lst xs))
def pe_tup{x1}(h:PA X es t):PE X (.Tuple es x1 pos) (tTup t):=by
 intro pins s σ H Q I hq;refine wpAny_Tuple_spliced (thn (h pos pins s σ H _ I hq) λus s1 ⟨xs,H1,I1,r,z,q⟩=>⟨by rw[<- r.length];exact z,?_⟩);have hf:H1 s1.heap.objs.size=ab:=I1.hok.fresh (am _);refine⟨.ref s1.heap.objs.size,upd H1 s1.heap.objs.size (.tup xs),I1.laid (t':=s1.toks) (λb u e=>aj _ e) (am _) ?_,rfl,q _ hf⟩;exact⟨z,us,r,⟨_,ay _ rfl,rfl,_,rfl⟩⟩
def pe_lst(h:PA X es t):PE X (.List es pos) (tLst t):=by
 intro pins s σ H Q I hq;refine wpAny_List_spliced (thn (h pos pins s σ H _ I hq) λus s1 ⟨xs,H1,I1,r,z,q⟩=>⟨by rw[<- r.length];exact z,?_⟩);have hf:H1 s1.heap.objs.size=ab:=I1.hok.fresh (am _);refine⟨.ref s1.heap.objs.size,upd H1 s1.heap.objs.size (.lst xs),I1.laid (t':=s1.toks) (λb u e=>aj _ e) (am _) ?_,rfl,q _ hf⟩;exact⟨z,us,0,r,ay _ rfl⟩
end
abbrev Sp:=List V->Hp->VK->XK->Prop
abbrev CXT:=List Env->Hp->ah->XK->af->ah->Prop
structure Env0(P:aK)(w:aO)(K:ag)(mg:Str->Option af)(base:aT)(A:aQ)(outer:List Env)(s:ah)(H:Hp):Prop where
 frames:A.frames=aa outer
 mod:Mod K mg base
 bs:∀b o,base.get? b=aa o->s.heap.get? b=aa o/\H b=ab
 bsz:base.objs.size<=s.heap.objs.size
 funs:s.heap.FunFrames base outer
 frf:∀b∈frs outer,H b=ab
 hok:HOk P w H s.heap
 bare:AllBare s.gens
def CE(outer:List Env)(P:aK)(w:aO)(H:Hp)(s:ah)(Q:VK)(u:af)(s':ah):Prop:=
 ∃v H',s'.os=s.os/\AllBare s'.gens/\Un (frs outer) [] H H' s.heap s'.heap/\HOk P w H' s'.heap/\RelV v u/\Q v H'
def CR(CX:CXT)(outer:List Env)(P:aK)(w:aO)(H:Hp)(s:ah)(Q:VK)(E:XK)(r:Result)(s':ah):Prop:=
 match r with
 |.ok (.ret u)=>CE outer P w H s Q u s'
 |.ok _=>False
 |.error e=>CX outer H s E e s'
structure FnOk(P:aK)(w:aO)(K:ag)(mg:Str->Option af)(base:aT)(CX:CXT)(k:Nat)(f:ai)(fd:bF)(ps:List Str)(sp:Sp):Prop where
 len:∀vs H Q E,sp vs H Q E->vs.length=ps.length
 run:∀(A:aQ) (outer:List Env) (s:ah) (H:Hp) (args:Args) (us:List af) (vs:List V) (Q:VK) (E:XK),Room k A->Env0 P w K mg base A outer s H->BindsTo s fd args (ps.zip us)->Vals vs us->sp vs H Q E ->
  codeAny (model P w) A (.call (.ref f) args) (CR CX outer P w H s Q E) s
def FnOk.imp{P:aK}{w:aO}{K:ag}{mg:Str->Option af}{base:aT}{CX:CXT}{k:Nat}{f:ai}{fd:bF}{ps:List Str}{sp sp':Sp}(F:FnOk P w K mg base CX k f fd ps sp)
  (h:∀vs H Q E,sp' vs H Q E->sp vs H Q E):FnOk P w K mg base CX k f fd ps sp':=
 ⟨λvs H Q E q=>F.len vs H Q E (h _ _ _ _ q),λA outer s H args us vs Q E hr he hb hv hs=>F.run A outer s H args us vs Q E hr he hb hv (h _ _ _ _ hs)⟩
def Env0.make{P:aK}{w:aO}{K:ag}{mg:Str->Option af}{base:aT}{A:aQ}{outer:List Env}{s:ah}{H:Hp}(e:Env0 P w K mg base A outer s H)(C:ai)(us:List af)(kw:List (Str×af)) :
  Env0 P w K mg base (A.under (.builtin "type.__call__" ⟨.ref C::us,kw⟩)) outer s H:=⟨by first|exact e.frames|(simpa [jv,Code.envs,jw,pushEnvs] using e.frames),e.mod,e.bs,e.bsz,e.funs,e.frf,e.hok,e.bare⟩
section
variable {X:Cx}{pins:List (ai×Obj)}{σ:St}{H:Hp}{s s':ah}
def Inv.env0(I:Inv X pins σ H s):Env0 X.prog X.w X.K X.mg X.base X.A X.stack s H:=
 ⟨I.ok.frames,I.ok.mod,I.bs,aS I.ok.bsz I.sz,I.stack,I.stkFree,I.hok,I.bare⟩
def Inv.after{Q:VK}{u:af}(I:Inv X pins σ H s)(h:CE X.stack X.prog X.w H s Q u s'):EP X pins σ Q u s':=by
 obtain⟨v,H',os,bare,un,hok,r,q⟩:=h;obtain⟨hh,g,d,t,os'⟩:=s';obtain rfl:os'=s.os:=os;exact⟨v,H',I.call (h':=hh) (g':=g) (d':=d) (t':=t) (ch:=[]) un hok bare (λb z=>absurd z (by simp)),r,q⟩
end
def tCall(sp:Sp)(dvs:List V)(E:XK)(t:TA):TE:=λσ H Q=>t σ H λvs H1=>sp (vs++dvs) H1 Q E
def tMeth(C:ai)(m:Str)(sp:Sp)(dvs:List V)(E:XK)(ta:TE)(t:TA):TE:=λσ H Q=>ta σ H λx H1=>∃a dx fs,x=.ref a/\H1 a=aa (.ins C dx fs)/\fs.lookup m=ab /\
 t σ H1 λvs H2=>sp (x::(vs++dvs)) H2 Q E
def tMake(C:ai)(sp:Sp)(dvs:List V)(E:XK)(t:TA):TE:=λσ H Q=>t σ H λvs H1=>∀x dx,H1 x=ab->H1 dx=ab->dx≠x ->
 sp (.ref x::(vs++dvs)) (upd (upd H1 dx (.own x)) x (.ins C dx [])) (λv H2=>v=.non/\Q (.ref x) H2) E
def Binds(K:ag)(fd:bF)(ps:List Str)(ds:List af):Prop:=
 ∀(s:ah) (us:List af),K.In s.heap->(us++ds).length=ps.length->BindsTo s fd ⟨us,[]⟩ (ps.zip (us++ds))
def Binds.all{K:ag}{fd:bF}{ps:List Str}(h:∀us:List af,us.length=ps.length->bindArgs fd ⟨us,[]⟩=pure (ps.zip us)):Binds K fd ps []:=λs us _ hl=>by
 rw[bp]at hl ⊢;exact .of_eq (h us hl)
def zcK(CX:CXT)(X:Cx)(E:XK):Prop:=∀(pins:List (ai×Obj)) (σ:St) (H:Hp) (s:ah) (e:af) (s':ah),Inv X pins σ H s->CX X.stack H s E e s'->X.xe e s'
section
variable {X:Cx}{CX:CXT}{k:Nat}{f C:ai}{fd:bF}{ps:List Str}{sp:Sp}{dvs:List V}{ds:List af}{E:XK}{x m:Str}{p pos apos:Pos}{e o:Expr}{es:List Expr}{ta:TE}{t:TA}
def run_fn{pins:List (ai×Obj)}{σ:St}{H:Hp}{s:ah}{Q:VK}{us:List af}{vs:List V}(F:FnOk X.prog X.w X.K X.mg X.base CX k f fd ps sp)(hr:Room k X.A)(hb:Binds X.K fd ps ds)(hd:Vals dvs ds)(hx:zcK CX X E)
  (I:Inv X pins σ H s) (r:Vals vs us) (h:sp (vs++dvs) H Q E):av (model X.prog X.w) X.A (call (.ref f) us) (EP X pins σ Q) X.xe s:=by
 have r2:Vals (vs++dvs) (us++ds):=r.append hd;have hl:(us++ds).length=ps.length:=by rw[<- r2.length];exact F.len _ _ _ _ h
 refine wpAny_call (codeAny_mono (F.run X.A X.stack s H ⟨us,[]⟩ (us++ds) (vs++dvs) Q E hr I.env0 (hb s us I.kIn hl) r2 h) λr s' hq=>?_);cases r with
 |error e=>exact hx pins σ H s e s' I hq
 |ok fl=>
  cases fl with
  |ret u=>exact I.after hq
  |next=>exact cy hq
  |brk=>exact cy hq
  |cont=>exact cy hq
def zi7(F:FnOk X.prog X.w X.K X.mg X.base CX k f fd ps sp)(hr:Room k X.A)(hg:Gl X x)(hm:X.mg x=aa (.ref f))(hk:bJ X.K (.ref f)=true)(hb:Binds X.K fd ps ds)(hd:Vals dvs ds)(hx:zcK CX X E)
  (ha:PA X (e::es) t) (hdb:(x==("__debug__" : Str))=false:=by decide) (he:aY (e::es) X.env=(false,eval e X.env)::aY es X.env:=by rfl) (hpl:(backTo pos (aY es X.env)).any (·.1)=false:=by rfl) :
  PE X (.Call (.Name x p) (e::es) [] pos) (tCall sp dvs E t):=by
 intro pins s σ H Q I h;refine cF (ziP I hg hm ?_ hdb);refine gI (h₀:=X.base) I.ok.mod.kin hk (thn (ha pos pins s σ H _ I h) λus s1 ⟨vs,H1,I1,r,q⟩=>⟨I1.kIn,?_⟩) he hpl;exact run_fn F hr hb hd hx I1 r q
def pe_meth{pl:Sem Bool}(he:PE X o ta)(c:Cls X.K C)(hm:Meth X.K C m f)(F:FnOk X.prog X.w X.K X.mg X.base CX k f fd ps sp)(hr:Room k X.A)(hb:Binds X.K fd ps ds)(hd:Vals dvs ds)(hx:zcK CX X E)(ha:PA X (e::es) t)
  (hst:aY (e::es) X.env=(false,eval e X.env)::aY es X.env:=by rfl) (hpl:(backTo pos (aY es X.env)).any (·.1)=false:=by rfl)
  (ht:eval (.Call (.Attribute o m apos) (e :: es) [] pos) X.env=(do
   let ov <- eval o X.env
   standAt apos.atName
   let (f,first) <- holding [ov] (getMethod ov m pl)
   callWith pos f first (backTo pos (aY (e::es) X.env)) (backToKw pos (keywordEach [] X.env))):=by rfl) :
  PE X (.Call (.Attribute o m apos) (e::es) [] pos) (tMeth C m sp dvs E ta t):=by
 intro pins s σ H Q I h;refine i3 (pl:=pl) (thn (he pins s σ H _ I h) ?_) ht;rintro u s1 ⟨x,H1,I1,rx,a,dx,fs,ex,ea,l,q⟩;subst ex;obtain rfl:u=bj a:=rx;refine zgJ I1 ea c hm l ?_;refine gI (first:=[.ref a]) (h₀:=X.base) I.ok.mod.kin hm.kp (thn (ha pos pins s1 σ H1 _ I1 q) λus s2 ⟨vs,H2,I2,r,q2⟩=>⟨I2.kIn,?_⟩) hst hpl;exact run_fn (us:=.ref a::us) (vs:=.ref a::vs) F hr hb hd hx I2 (.cons rfl r) q2
def zkb{pl:Sem Bool}(he:PE X o ta)(c:Cls X.K C)(hm:Meth X.K C m f)(F:FnOk X.prog X.w X.K X.mg X.base CX k f fd ps sp)(hr:Room k X.A)(hb:Binds X.K fd ps ds)(hd:Vals dvs ds)(hx:zcK CX X E)
  (ht:eval (.Call (.Attribute o m apos) [] [] pos) X.env=(do
   let ov <- eval o X.env
   standAt apos.atName
   let (f,first) <- holding [ov] (getMethod ov m pl)
   callWith pos f first (backTo pos (aY [] X.env)) (backToKw pos (keywordEach [] X.env))):=by rfl) :
  PE X (.Call (.Attribute o m apos) [] [] pos) (tMeth C m sp dvs E ta tNil):=by
 intro pins s σ H Q I h;refine i3 (pl:=pl) (thn (he pins s σ H _ I h) ?_) ht;rintro u s1 ⟨x,H1,I1,rx,a,dx,fs,ex,ea,l,q⟩;subst ex;obtain rfl:u=bj a:=rx;refine zgJ I1 ea c hm l ?_;exact PySem.W.callWith_K0 (first:=[.ref a]) I1.kIn hm.kp (run_fn (us:=[.ref a]) (vs:=[.ref a]) F hr hb hd hx I1 (.cons rfl .nil) q)
structure Mk(K:ag)(C f:ai):Prop where
 makes:gg K C=true
 init:ba K (.ref C) "__init__" =aa (aa (.ref f))
 fn:dr K (.ref f)=true
 kp:bJ K (.ref C)=true
def run_make{pins:List (ai×Obj)}{σ:St}{H:Hp}{s:ah}{Q:VK}{us:List af}{vs:List V}(M:Mk X.K C f)(F:FnOk X.prog X.w X.K X.mg X.base CX k f fd ps sp)(hr:Room (k+1) X.A)(hb:Binds X.K fd ps ds)(hd:Vals dvs ds)
  (hx:zcK CX X E) (I:Inv X pins σ H s) (r:Vals vs us)
  (h:∀x dx,H x=ab->H dx=ab->dx≠x->sp (.ref x::(vs++dvs)) (upd (upd H dx (.own x)) x (.ins C dx [])) (λv H2=>v=.non/\Q (.ref x) H2) E) :
  av (model X.prog X.w) X.A (call (.ref C) us) (EP X pins σ Q) X.xe s:=by
 have hq:=h (s.heap.objs.size+1) s.heap.objs.size (I.hok.fresh (cY _)) (I.hok.fresh (am _)) (aL (cP _));have I2:=Inv.made (C:=C) I;have r2:Vals (V.ref (s.heap.objs.size+1)::(vs++dvs)) (bj (s.heap.objs.size+1)::(us++ds)):=.cons rfl (r.append hd);have hl:(bj (s.heap.objs.size+1)::us++ds).length=ps.length:=by
  have e:=r2.length;rw[F.len _ _ _ _ hq]at e;exact e.symm
 refine wpAny_call (make_map (f:=f) I.kIn M.makes M.init (beq_iff_eq.mp M.fn) (codeAny_mono (F.run _ X.stack _ _ ⟨bj (s.heap.objs.size+1)::us,[]⟩ (bj (s.heap.objs.size+1)::(us++ds)) _ _ E (hr.make C us [])
  (I2.env0.make C us []) (hb _ (bj (s.heap.objs.size+1)::us) I2.kIn hl) r2 hq) λr s' hq'=>?_))
 cases r with
 |error e=>exact hx pins σ _ _ e s' I2 hq'
 |ok fl=>
  cases fl with
  |ret u=>
   obtain⟨v,H',I3,rv,ev,q3⟩:=I2.after hq';subst ev;exact⟨rv,⟨V.ref (s.heap.objs.size+1),H',I3,rfl,q3⟩⟩
  |next=>exact cy hq'
  |brk=>exact cy hq'
  |cont=>exact cy hq'
def pe_make(M:Mk X.K C f)(F:FnOk X.prog X.w X.K X.mg X.base CX k f fd ps sp)(hr:Room (k+1) X.A)(hg:Gl X x)(hm:X.mg x=aa (.ref C))(hb:Binds X.K fd ps ds)(hd:Vals dvs ds)(hx:zcK CX X E)
  (ha:PA X (e::es) t) (hdb:(x==("__debug__" : Str))=false:=by decide) (he:aY (e::es) X.env=(false,eval e X.env)::aY es X.env:=by rfl) (hpl:(backTo pos (aY es X.env)).any (·.1)=false:=by rfl) :
  PE X (.Call (.Name x p) (e::es) [] pos) (tMake C sp dvs E t):=by
 intro pins s σ H Q I h;refine cF (ziP I hg hm ?_ hdb);refine gI (h₀:=X.base) I.ok.mod.kin M.kp (thn (ha pos pins s σ H _ I h) λus s1 ⟨vs,H1,I1,r,q⟩=>⟨I1.kIn,?_⟩) he hpl;exact run_make M F hr hb hd hx I1 r q
end
def PK(X:Cx)(kws:List Keyword)(t:TA):Prop:=
 ∀(pos:Pos) (pins:List (ai×Obj)) (s:ah) (σ:St) (H:Hp) (Q:List V->Hp->Prop),Inv X pins σ H s->t σ H Q->av (model X.prog X.w) X.A (evalAll ((backToKw pos (keywordEach kws X.env)).map (·.2))) (AP X pins σ Q) X.xe s
section
variable {X:Cx}{CX:CXT}{k:Nat}{f C:ai}{fd:bF}{ps ks:List Str}{sp:Sp}{E:XK}{x m:Str}{p pos apos kpos:Pos}{e o:Expr}{es:List Expr}{kws:List Keyword}{te ta:TE}{t tk:TA}{nm:Option Str}
def pk_nil:PK X [] tNil:=λ_ _ _ _ H Q I h=>wpAny_evalAll_nil ⟨[],H,I,.nil,h⟩
def pk_cons(ha:PE X e te)(hr:PK X kws t):PK X (⟨nm,e,kpos⟩::kws) (tCons te t):=by
 intro pos pins s σ H Q I h;show av _ _ (evalAll ((do let v <- eval e X.env;standAt pos;pure v)::(backToKw pos (keywordEach kws X.env)).map (·.2))) _ _ s;refine wpAny_evalAll_cons (ae (thn (ha pins s σ H _ I h) λu s1 ⟨x,H1,I1,r1,q1⟩=>ae (wpAny_standAt (ak ?_))));refine thn (hr pos pins s1 σ H1 _ I1 q1) ?_;rintro us s2 ⟨xs,H2,I2,r2,q2⟩;exact⟨x::xs,H2,I2,.cons r1 r2,q2⟩
structure KBinds(K:ag)(fd:bF)(ps ks:List Str)(g:List af->List af->List af)(gV:List V->List V->List V):Prop where
 to:∀(s:ah) (us ws:List af),K.In s.heap->(g us ws).length=ps.length->BindsTo s fd ⟨us,ks.zip ws⟩ (ps.zip (g us ws))
 rel:∀{vs:List V} {us:List af} {zs:List V} {ws:List af},Vals vs us->Vals zs ws->Vals (gV vs zs) (g us ws)
variable {g:List af->List af->List af}{gV:List V->List V->List V}
end
structure FnScope(N P:List Str)(sc:Scope):Prop where
 kind:sc.kind=.function
 co:sc.isCoroutine=false
 gen:sc.isGenerator=false
 nd:N.Nodup
 pre:N.take P.length=P
 par:∀x∈P,sc.names.lookup x=aa .local\/sc.names.lookup x=aa .cell
 nofree:∀y∈sc.names,y.2≠.free
def zhU{kindOf:Str->Option NameKind}{x:Str}:∀{binds:List (Str×af)} {m:Str->Option af},(∀v,(x,v)∉binds)->bindL kindOf binds m x=m x
 |[],_,_=>rfl
 |(n,v)::r,m,h=>by
  unfold bindL;rw[zhU λw hw=>h w (aq _ hw)];split
  ·have:x≠n:=by rintro rfl;exact h v ax
   simp[this]
  ·rfl
def zh1{kindOf:Str->Option NameKind}{x:Str}:∀{binds:List (Str×af)} {m:Str->Option af},(∀v,(x,v)∉binds)->bindC kindOf binds m x=m x
 |[],_,_=>rfl
 |(n,v)::r,m,h=>by
  unfold bindC;rw[zh1 λw hw=>h w (aq _ hw)];split
  ·rfl
  ·have:x≠n:=by rintro rfl;exact h v ax
   simp[this]
def zil{kindOf:Str->Option NameKind}{x:Str}{v:af}:∀{P:List Str} {vs:List af} {i:Nat} {m:Str->Option af},P.Nodup->P[i]? =aa x->vs[i]? =aa v->kindOf x=aa .local ->
  bindL kindOf (P.zip vs) m x=aa v
 |[],_,_,_,_,h,_,_=>by simp at h
 | _::_,[],_,_,_,_,h,_=>by simp at h
 |p::P,w::vs,0,m,nd,h1,h2,hk=>by
  simp at h1 h2;subst h1;subst h2;show bindL kindOf ((p,w)::P.zip vs) m p=_;unfold bindL;rw[zhU λv hv=>(aZ.mp nd).1 (iG hv).1,if_pos hk];simp
 |p::P,w::vs,i+1,m,nd,h1,h2,hk=>by
  show bindL kindOf ((p,w)::P.zip vs) m x=_;unfold bindL;exact zil (i:=i) (aZ.mp nd).2 (by simpa using h1) (by simpa using h2) hk
def zh8{kindOf:Str->Option NameKind}{x:Str}{v:af}:∀{P:List Str} {vs:List af} {i:Nat} {m:Str->Option af},P.Nodup->P[i]? =aa x->vs[i]? =aa v->kindOf x≠aa .local ->
  bindC kindOf (P.zip vs) m x=aa v
 |[],_,_,_,_,h,_,_=>by simp at h
 | _::_,[],_,_,_,_,h,_=>by simp at h
 |p::P,w::vs,0,m,nd,h1,h2,hk=>by
  simp at h1 h2;subst h1;subst h2;show bindC kindOf ((p,w)::P.zip vs) m p=_;unfold bindC;rw[zh1 λv hv=>(aZ.mp nd).1 (iG hv).1,if_neg hk];simp
 |p::P,w::vs,i+1,m,nd,h1,h2,hk=>by
  show bindC kindOf ((p,w)::P.zip vs) m x=_;unfold bindC;exact zh8 (i:=i) (aZ.mp nd).2 (by simpa using h1) (by simpa using h2) hk
def start(N:List Str)(vs:List V):St:=vs.map aa++az (N.length-vs.length) ab
def cxOf(CX:CXT)(P:aK)(w:aO)(K:ag)(mg:Str->Option af)(base:aT)(N:List Str)(qual:Str)(scope:Scope)(f:ai)(cd:af)(A:aQ)(outer:List Env)(s:ah)(H:Hp)(E:XK):Cx where
 prog:=P
 w:=w
 K:=K
 mg:=mg
 base:=base
 A:=A.deeper (envOfC qual scope s.heap.objs.size f cd)
 N:=N
 s₀:=s
 H₀:=H
 env:=envOfC qual scope s.heap.objs.size f cd
 outer:=outer
 stack:=envOfC qual scope s.heap.objs.size f cd::outer
 ex:=[]
 calm:=true
 fn:=λ_=>true
 pn:=[]
 xe:=λe s'=>av (model P w) (A.deeper (envOfC qual scope s.heap.objs.size f cd)) (leaving (envOfC qual scope s.heap.objs.size f cd) e) (λ_ s''=>CX outer H s E e s'') (λe' s''=>CX outer H s E e' s'') s'
def zj1{sc:Scope}{n:Nat}{x:Str}(h:sc.names.lookup x=aa .cell):∃c,(cellsFrom n sc.names []).lookup x=aa c:=by
 have q:=iR sc.names n [] (.inl h);exact Option.isSome_iff_exists.mp q
def inv_start{CX:CXT}{P:aK}{w:aO}{K:ag}{mg:Str->Option af}{base:aT}{N ps:List Str}{qual:Str}{scope:Scope}{f:ai}{cd:af}{A:aQ}{outer:List Env}{s s1:ah}{H:Hp}{E:XK}{us:List af}{vs:List V}
  (S:FnScope N ps scope) (hd:A.handled=ab) (e0:Env0 P w K mg base A outer s H) (hl:vs.length=ps.length) (r:Vals vs us)
  (x:InCallC s s.heap.objs.size (bindL (envOfC qual scope s.heap.objs.size f cd).kindOf (ps.zip us) λ_=>ab) (cellsFrom (s.heap.objs.size+1) scope.names []) (bindC (envOfC qual scope s.heap.objs.size f cd).kindOf (ps.zip us) λ_=>ab) s1) :
  Inv (cxOf CX P w K mg base N qual scope f cd A outer s H E) [] (start N vs) H s1:=by
 have hpl:ps.length<=N.length:=by have:=congrArg fQ S.pre;rw[cr]at this;lia
 obtain⟨h1,tk,rfl,hk⟩:=x.done;have noA:∀b:ai,b∉(cxOf CX P w K mg base N qual scope f cd A outer s H E).ex:=λb z=>absurd (show b∈([]:List ai)from z) (by simp);refine⟨⟨e0.mod,S.kind,rfl,rfl,am _,λy z c h1 h2=>?_,λy hy=>?_,λy c _ h=>?_,λ_=>hd,Around.frames_deeper e0.frames,.inr ⟨rfl,rfl⟩,λb z=>absurd z (noA b),e0.bs,e0.bsz,λb _ _=>noA b,λb z=>absurd z (noA b),e0.funs,e0.frf⟩,
  rfl,e0.bare,Un.kept hk,⟨_,x.toInCall.ns,λi y v h1 h2 h3=>?_⟩,λy c h=>⟨_,x.cell y c h⟩,e0.hok.fresh (am _),λy c h=>?_,λp hp=>absurd (show p∈([]:List (ai×Obj))from hp) (by simp),e0.hok.kept hk,?_⟩
 ·exact name_of_addr x.apart (bW h1) (bW h2)
 ·have hy:scope.names.lookup y=aa .cell\/scope.names.lookup y=aa .free:=hy;rcases hy with hy|hy
  ·exact zj1 hy
  ·exact absurd rfl (S.nofree _ (bW hy))
 ·exact bz (x.above y c (bW h))
 ·have hi:i<vs.length:=by
   unfold start at h2;by_cases hi:i<vs.length
   ·exact hi
   ·rw[bL (by simpa using hi)]at h2;rw[dQ]at h2;split at h2 <;> cases h2
  have ha:vs[i]? =aa v:=by
   unfold start at h2;rw[bO (by simpa using hi),aB]at h2;cases e:vs[i]? with
   |none=>rw[e]at h2;cases h2
   |some a=>rw[e]at h2;cases h2;rfl
  obtain⟨u,hu,rv⟩:=r.get ha;have hp:ps[i]? =aa y:=by
   rw[<- S.pre,di (by lia)];exact h1
  have ndP:ps.Nodup:=by rw[<- S.pre];exact S.nd.sublist (List.take_sublist _ _)
  refine⟨u,rv,?_⟩;rcases S.par y (bR hp)with k|k
  ·exact .inl ⟨k,zil ndP hp hu k⟩
  ·obtain⟨c,e⟩:=zj1 (n:=s.heap.objs.size+1) k;refine .inr ⟨.inl k,c,e,?_⟩;have q:=x.cell y c e;rw[zh8 ndP hp hu (by show scope.names.lookup y≠_;rw[k];decide)]at q;exact q
 ·exact e0.hok.fresh (bz (x.above y c (bW h)))
 ·unfold start;show _=N.length;rw[a8,aw,c9];lia
def fn_of{CX:CXT}{P:aK}{w:aO}{K:ag}{mg:Str->Option af}{base:aT}{k:Nat}{f:ai}{name qual:Str}{params:Arguments}{body:List Stmt}{scope:Scope}{dV kV doc pm cdv ct oc:af}{an od:Option ai}
  {osl:Array (Option af)} {N ps:List Str} {sp:Sp} (lk:K.lookup f=aa ⟨oc,od,.func (bV name qual params body scope dV kV doc pm an cdv ct),osl⟩) (hcd:ck K cdv qual=true) (S:FnScope N ps scope)
  (len:∀vs H Q E,sp vs H Q E->vs.length=ps.length)
  (hbody:∀ (A:aQ) (outer:List Env) (s:ah) (H:Hp) (vs:List V) (Q:VK) (E:XK),Room k (A.deeper (envOfC qual scope s.heap.objs.size f cdv))->sp vs H Q E ->
   ∃t,PSs (cxOf CX P w K mg base N qual scope f cdv A outer s H E) body t/\t { nx:=λ_ H'=>Q .non H',rt:=Q} (start N vs) H) :
  FnOk P w K mg base CX (k+1) f (bV name qual params body scope dV kV doc pm an cdv ct) ps sp:=by
 refine⟨len,λA outer s H args us vs Q E hr e0 hb r hsp=>?_⟩;have hl:=len _ _ _ _ hsp;have KX:K.In s.heap:=e0.mod.kin.keeps λb o e=>(e0.bs b o e).1;have lim:s.heap.NoLimit:=e0.mod.nolimit.keeps λb o e=>(e0.bs b o e).1;have hkind:∀y∈ps.zip us,scope.names.lookup y.1=aa .local\/(scope.names.lookup y.1=aa .cell/\((cellsFrom (s.heap.objs.size+1) scope.names []).lookup y.1).isSome=true):=λ⟨n,v⟩ hy=>by
  rcases S.par n (iG hy).1 with q|q
  ·exact .inl q
  ·exact .inr ⟨q,iR _ _ _ (.inl q)⟩
 refine codeAny_call_function hr.depth (KX _ _ lk) rfl S.co S.gen rfl (PySem.W.codeRec_of KX hcd) (hb _ _ _ _ ?_);refine wpAny_newFunctionEnv_cells S.kind hkind λenv he s1 x=>?_;subst he;refine⟨lim.keeps x.toInCall.keep,codeAny_func ?_⟩;obtain⟨t,ht,hq⟩:=hbody A outer s H vs Q E (hr.deeper _) hsp;have I:Inv (cxOf CX P w K mg base N qual scope f cdv A outer s H E) [] (start N vs) H s1:=inv_start S hr.hd e0 hl r x;refine cf (ht [] s1 (start N vs) H _ I hq) (λfl s' hs=>?_) λe s' hs=>hs;have fin:∀{σ':St} {H':Hp} {v:V} {u:af},Inv (cxOf CX P w K mg base N qual scope f cdv A outer s H E) [] σ' H' s'->RelV v u->Q v H'->CE outer P w H s Q u s':=
  fun {σ' H' v u} J rv q=>⟨v,H',J.os,J.bare,J.base,J.hok,rv,q⟩
 cases fl with
 |ret u=>
  obtain⟨v,σ',H',J,rv,q⟩:=hs;exact fin J rv q
 |next=>
  obtain⟨σ',H',J,q⟩:=hs;exact fin (v:=V.non) (u:=de) J rfl q
 |brk=>
  obtain⟨_,_,_,q⟩:=hs;exact cy q
 |cont=>
  obtain⟨_,_,_,q⟩:=hs;exact cy q
end L2
namespace L2
open PySem PySem.Spec PyProof.Rows
section
variable {X:Cx}{x:Str}{p pos:Pos}{e:Expr}{es:List Expr}{t:TA}{id T:String}{r:List V->Hp->VK->Prop}
def tCB(r:List V->Hp->VK->Prop)(t:TA):TE:=λσ H Q=>t σ H λvs H1=>r vs H1 Q
def pe_callB(hc:zfv X (.builtin id) r)(hg:Gl X x)(hm:X.mg x=ab)(hv:aM x=aa (.builtin id))(ha:PA X (e::es) t)(hn:x≠ "__name__" :=by decide)(hdb:(x==("__debug__" : Str))=false:=by decide)
  (he:aY (e::es) X.env=(false,eval e X.env)::aY es X.env:=by rfl) (hpl:(backTo pos (aY es X.env)).any (·.1)=false:=by rfl):PE X (.Call (.Name x p) (e::es) [] pos) (tCB r t):=by
 intro pins s σ H Q I h;refine cF (zd7 I hg hm hv ?_ hn hdb);exact gh (thn (ha pos pins s σ H _ I h) λus s1 ⟨vs,H1,I1,r1,q1⟩=>hc pins s1 σ H1 vs us Q I1 r1 q1) he hpl
def pe_callTy(hc:zfv X (.type T) r)(hg:Gl X x)(hm:X.mg x=ab)(hv:aM x=aa (.type T))(ha:PA X (e::es) t)(hn:x≠ "__name__" :=by decide)(hdb:(x==("__debug__" : Str))=false:=by decide)
  (he:aY (e::es) X.env=(false,eval e X.env)::aY es X.env:=by rfl) (hpl:(backTo pos (aY es X.env)).any (·.1)=false:=by rfl):PE X (.Call (.Name x p) (e::es) [] pos) (tCB r t):=by
 intro pins s σ H Q I h;refine cF (zd7 I hg hm hv ?_ hn hdb);exact bU (thn (ha pos pins s σ H _ I h) λus s1 ⟨vs,H1,I1,r1,q1⟩=>hc pins s1 σ H1 vs us Q I1 r1 q1) he hpl
end
end L2
namespace HT
open PySem PyProof.Rows
section
open PySem.SeqAt
open PySem.AutoSeq1 (wpAny_loadPart')
open PySem.MeetsSeq PySem.MeetsSeq2 PySem.MeetsSeq3
end
section
variable {prog:aK}{w:aO}{A:aQ}{E:af->ah->Prop}{s:ah}
def cat_tup{t b:ai}{vs ws:List af}{Q:af->ah->Prop}(ht:IsTup s.heap t vs.toArray)(hb:IsTup s.heap b ws.toArray)(hv:vs≠[])
  (h1:ws=[]->Q (.ref t) s) (h2:ws≠[]->Q (.ref s.heap.objs.size) { s with heap:=s.heap.push { cls:=.type "tuple",data:=.seq (vs++ws).toArray}})
  (hsz:vs.length+ws.length<=aX):av (model prog w) A (binaryOp .Add (.ref t) (.ref b)) Q E s:=by
 obtain⟨⟨cls,dd,data,sl⟩,ho,hc,n,hd⟩:=id ht;obtain⟨⟨cls2,dd2,data2,sl2⟩,ho2,hc2,n2,hd2⟩:=id hb;simp only at hc hd hc2 hd2;subst hc hd hc2 hd2;have e:vs.toArray++ws.toArray=(vs++ws).toArray:=by simp
 by_cases hw:ws=[]
 ·exact concat_meets ⟨_,ho,rfl⟩ ⟨_,ho2,rfl⟩ noFill_tuple_add seq_tuple_add fR fH (eW _ _)
   (tuple_addW1 t b vs.toArray ws.toArray n n2 dd dd2 sl sl2 (by simpa using hv) (by simp[hw])) ⟨ho,ho2,h1 hw⟩
 ·refine concat_meets ⟨_,ho,rfl⟩ ⟨_,ho2,rfl⟩ noFill_tuple_add seq_tuple_add fR fH (eW _ _)
   (tuple_addW2 t b vs.toArray ws.toArray n n2 dd dd2 sl sl2 (by simpa using hv) (by simpa using hw) (by rw[a9,a9];exact hsz)) ⟨ho,ho2,?_⟩
  rw[e];exact h2 hw
def sIx(n d:Nat):Option Int->Nat
 |none=>d
 |some v=>if v<0 then (v+(n:Int)).toNat else min v.toNat n
def sIx_none(n d:Nat):sIx n d ab=d:=rfl
def sIx_nat(n d k:Nat):sIx n d (aa (k:Int))=min k n:=by
 show(if (k:Int)<0 then ((k:Int)+(n:Int)).toNat else min (k:Int).toNat n)=min k n;rw[if_neg (by lia),cV]
def sIx_le(n d:Nat)(hd:d<=n)(o:Option Int):sIx n d o<=n:=by
 cases o with
 |none=>exact hd
 |some v=>
  show(if v<0 then (v+(n:Int)).toNat else min v.toNat n)<=n;by_cases hv:v<0
  ·rw[if_pos hv];lia
  ·rw[if_neg hv];exact fT _ _
def clip_eq(v:Int)(n d:Nat):(if v<0 then max (v+(n:Int)) 0 else min v (n:Int))=((sIx n d (aa v):Nat):Int):=by
 show(if v<0 then max (v+(n:Int)) 0 else min v (n:Int))=(((if v<0 then (v+(n:Int)).toNat else min v.toNat n):Nat):Int)
 by_cases hv:v<0
 ·simp only[if_pos hv];lia
 ·simp only[if_neg hv];lia
def zkq(lo hi:Option Int)(n:Nat):dc lo hi 1 (n:Int)=(((sIx n 0 lo:Nat):Int),((sIx n n hi:Nat):Int)):=by
 have h1:¬ ((1:Int)<0):=by lia
 unfold dc;simp only[h1,if_false];refine Prod.ext ?_ ?_
 ·cases lo with
  |none=>rfl
  |some v=>exact clip_eq v n 0
 ·cases hi with
  |none=>rfl
  |some v=>exact clip_eq v n n
def zkp(i j:Nat):bZ (i:Int) (j:Int) 1=j-i:=by
 unfold bZ;have h1:(1:Int) > 0:=by lia
 simp only[h1,if_true,kU];split <;> lia
def zfk{v:af}{o:Option Int}{Q:Option Int->ah->Prop}(p:IsPart v o)(h:Q o s):av (model prog w) A (j8 v) Q E s:=by
 cases p with
 |none=>exact slicePart_none h
 |int i t=>exact slicePart_int h
def zd6{sl:ai}{vl vu:af}{lo hi:Option Int}{n:Nat}{Q:Int×Int×Nat->ah->Prop}(hs:s.heap.IsSliceOf sl vl vu .none)(pl:IsPart vl lo)(pu:IsPart vu hi)
  (h:Q (((sIx n 0 lo:Nat):Int),1,sIx n n hi-sIx n 0 lo) s):av (model prog w) A (dC (.ref sl) (pure (n:Int))) Q E s:=by
 obtain⟨os,hos,hcs,hds⟩:=id hs;unfold dC hZ;refine ae (ae (wpAny_field hos hds (x:=vl) rfl (ae (wpAny_field hos hds (x:=vu) rfl (ae (wpAny_field hos hds (x:=.none) rfl (ak ?_)))))));refine ae (slicePart_none ?_);show av _ _ (if ((1:Int)==0)=true then _ else _) _ _ s;rw[if_neg (by decide)];refine ae (zfk pl (ae (zfk pu (ae (ak ?_)))));show av _ _ (match dc lo hi 1 (n:Int)with|(lo,hi)=>pure (lo,(1:Int),bZ lo hi 1)) _ _ s;rw[zkq lo hi n];show av _ _ (pure (((sIx n 0 lo:Nat):Int),(1:Int),bZ ((sIx n 0 lo:Nat):Int) ((sIx n n hi:Nat):Int) 1)) _ _ s;rw[zkp];exact ak h
def zjT(xs:Array af)(i k:Nat):((au k).filterMap λ(m:Nat)=>xs[((i:Int)+(m:Int)*1).toNat]?).toArray=((xs.toList.drop i).take k).toArray:=by
 have e:(λ(m:Nat)=>xs[((i:Int)+(m:Int)*1).toNat]?)=λm=>xs[i+m]?:=by
  funext m;have:((i:Int)+(m:Int)*1).toNat=i+m:=by lia
  rw[this]
 rw[e];have:=pick_run xs i k;rw[jx]at this;have e2:((λx=>xs[x]?) ∘ λx=>i+x)=λm=>xs[i+m]?:=rfl;rw[e2]at this;rw[this]
def getItem_tuple_cut{t sl:ai}{items:Array af}{vl vu:af}{lo hi:Option Int}{Q:af->ah->Prop}(ht:IsTup s.heap t items)(hs:s.heap.IsSliceOf sl vl vu .none)(pl:IsPart vl lo)(pu:IsPart vu hi)
  (hw:¬ (sIx items.size 0 lo=0/\sIx items.size items.size hi=items.size))
  (h:Q (.ref s.heap.objs.size) { s with heap:=s.heap.push { cls:=.type "tuple",data:=.seq ((items.toList.drop (sIx items.size 0 lo)).take (sIx items.size items.size hi-sIx items.size 0 lo)).toArray}})
  (hsz:items.size<=aX):av (model prog w) A (getItem (.ref t) (.ref sl)) Q E s:=by
 have htake:sizeOk (.seq ((items.toList.drop (sIx items.size 0 lo)).take (sIx items.size items.size hi-sIx items.size 0 lo)).toArray):=by
  show((items.toList.drop (sIx items.size 0 lo)).take (sIx items.size items.size hi-sIx items.size 0 lo)).toArray.size<=aX;rw[a9,cr,eB,aE];lia
 have hj:sIx items.size items.size hi<=items.size:=sIx_le _ _ (am _) hi;obtain⟨os,hos,hcs,hds⟩:=id hs;have hTs:s.TypeIs (.ref sl) "slice" :=⟨os,hos,hcs⟩
 unfold getItem
 try with_reducible refine cA ?_
 first|refine ae (ak ?_)|skip
 refine ae (wpAny_sequenceKey ht.typeIs (by decide) ?_);refine ae (wpAny_callSpecial?_slot (name:=bT "__getitem__") ht.typeIs bu
  (wpAny_call_entry bu ht.typeIs entry_tuple_getitem ?_ (args_tuple_getitem _ _)))
 show av _ _ (eI (.ref t) >>= _) _ _ s;refine ae (tupleItemsOf_ ht ?_);refine ae (wpAny_typeOf hTs ?_);rw[if_pos (by decide)];refine ae (zd6 hs pl pu ?_);have hno:¬ ((((sIx items.size 0 lo:Nat):Int)==0&&(1:Int)==1&&(sIx items.size items.size hi-sIx items.size 0 lo)==items.size)=true):=by
  intro q;rw[cc,cc]at q;have q1:((sIx items.size 0 lo:Nat):Int)=0:=eq_of_beq q.1.1;have q2:sIx items.size items.size hi-sIx items.size 0 lo=items.size:=eq_of_beq q.2;exact hw ⟨by lia,by lia⟩
 show av _ _ (if (((sIx items.size 0 lo:Nat):Int)==0&&(1:Int)==1&&(sIx items.size items.size hi-sIx items.size 0 lo)==items.size)=true then _ else _) _ _ s;rw[if_neg hno,zjT]
 first
  |exact ae (m:=bG _) (wpAny_newObj_type (ak ⟨_,rfl,ak h⟩) htake)
  |exact ae (m:=bG _) (wpAny_newObj_type (ae (ak (ak ⟨_,rfl,ak h⟩))) htake)
  |exact ae (ae (m:=bG _) (wpAny_newObj_type (ak (ak ⟨_,rfl,ak h⟩)) htake))
  |exact ae (ae (m:=bG _) (wpAny_newObj_type (ak ⟨_,rfl,ak h⟩) htake))
end
end HT
namespace L2
open PySem PySem.Spec PyProof.Rows
abbrev TO:=St->Hp->(Option Int->Hp->Prop)->Prop
def PO(X:Cx)(e:Option Expr)(t:TO):Prop:=
 ∀(pins:List (ai×Obj)) (s:ah) (σ:St) (H:Hp) (Q:Option Int->Hp->Prop),Inv X pins σ H s->t σ H Q ->
  av (model X.prog X.w) X.A (evalPart e X.env) (λu s'=>∃o H',Inv X pins σ H' s'/\IsPart u o/\Q o H') X.xe s
def tNoPart:TO:=λ_ H Q=>Q ab H
def tPart(t:TE):TO:=λσ H Q=>t σ H λx H1=>∃i,x=.int i/\Q (aa i) H1
section
variable {X:Cx}{e:Expr}{te:TE}{lo hi:Option Expr}{tl th:TO}{pos p2:Pos}
def po_none:PO X ab tNoPart:=by
 intro pins s σ H Q I h;rw[evalPart_none];exact ak ⟨ab,H,I,.none,h⟩
def po_some(h:PE X e te):PO X (aa e) (tPart te):=by
 intro pins s σ H Q I hw;rw[evalPart_some];refine thn (h pins s σ H _ I hw) ?_;rintro u s1 ⟨x,H1,I1,r1,q1⟩;obtain⟨i,rfl,q⟩:=q1;obtain⟨t,rfl⟩:=r1;exact⟨aa i,H1,I1,.int i t,q⟩
def SlR(X:Cx)(r:V->Option Int->Option Int->Hp->VK->Prop):Prop:=
 ∀(pins:List (ai×Obj)) (s:ah) (σ:St) (H:Hp) (x:V) (v vl vu:af) (lo hi:Option Int) (sl:ai) (Q:VK),Inv X pins σ H s->RelV x v->s.heap.IsSliceOf sl vl vu .none->IsPart vl lo->IsPart vu hi->r x lo hi H Q ->
  ∃T id,typeLookup (.type T) "__getitem__" =pure (aa (.builtin id))/\s.TypeIs v T/\av (model X.prog X.w) X.A (getItem v (.ref sl)) (EP X pins σ Q) X.xe s
def tSl(r:V->Option Int->Option Int->Hp->VK->Prop)(te:TE)(tl th:TO):TE:=λσ H Q=>te σ H λx H1=>tl σ H1 λl H2=>th σ H2 λu H3=>r x l u H3 Q
def pe_slice{r:V->Option Int->Option Int->Hp->VK->Prop}(hr:SlR X r)(he:PE X e te)(hl:PO X lo tl)(hu:PO X hi th):PE X (.Subscript e (.Slice lo hi ab p2) pos) (tSl r te tl th):=by
 intro pins s σ H Q I h;refine Subscript_ (thn (he pins s σ H _ I h) ?_);rintro v s1 ⟨x,H1,I1,r1,q1⟩;refine wpAny_Slice (thn (hl pins s1 σ H1 _ I1 q1) λvl s2 ⟨l,H2,I2,pl,q2⟩=>thn (hu pins s2 σ H2 _ I2 q2) ?_);rintro vu s3 ⟨u,H3,I3,pu,q3⟩;rw[evalPart_none];refine ak ?_;have I4:Inv X pins σ H3 { s3 with heap:=s3.heap.push { cls:=.type "slice",data:=.fields #[vl,vu,.none]}}:=I3.kept (t':=s3.toks) λb ob q=>aj _ q;obtain⟨T,id,hT,ht,hg⟩:=hr pins { s3 with heap:=s3.heap.push { cls:=.type "slice",data:=.fields #[vl,vu,.none]}} σ H3 x v vl vu l u s3.heap.objs.size Q I4 r1 (jy ..) pl pu q3;show av (model X.prog X.w) X.A (subscriptTail e (.Slice lo hi ab p2) v (.ref s3.heap.objs.size)) (EP X pins σ Q) X.xe { s3 with heap:=s3.heap.push { cls:=.type "slice",data:=.fields #[vl,vu,.none]}};exact tail_any (ops:=[.ref s3.heap.objs.size,v]) ht hT hg (by with_unfolding_all rfl)
def cutV(xs:List V)(lo hi:Option Int):List V:=(xs.drop (HT.sIx xs.length 0 lo)).take (HT.sIx xs.length xs.length hi-HT.sIx xs.length 0 lo)
def zf3(xs:List V)(lo hi:Option Int):(cutV xs lo hi).length<=xs.length:=by
 unfold cutV;rw[cr,eB];lia
def rSlT(K:ag):V->Option Int->Option Int->Hp->VK->Prop:=λx lo hi H Q=>∃a xs,x=.ref a/\SqT K H a xs /\
 ¬ (HT.sIx xs.length 0 lo=0/\HT.sIx xs.length xs.length hi=xs.length)/\∀p,H p=ab->Q (.ref p) (upd H p (.tup (cutV xs lo hi)))
def sl_tup:SlR X (rSlT X.K):=by
 intro pins s σ H x v vl vu lo hi sl Q I rx hs pl pu h;obtain⟨a,xs,rfl,hx,hw,q⟩:=h;cases rx;obtain⟨its,r,ht,hz⟩:=I.tuple hx;have hlen:its.toArray.size=xs.length:=by rw[a9];exact r.length.symm
 refine⟨"tuple",_,bu.lookup,ht.typeIs,?_⟩;refine HT.getItem_tuple_cut ht hs pl pu (by rw[hlen];exact hw) ?_ (by rw[hlen];exact hz);rw[hlen];refine⟨.ref s.heap.objs.size,_,I.laid (t':=s.toks) (o:=.tup (cutV xs lo hi)) (λb ob q=>aj _ q) (am _) ?_,rfl,q _ (I.hok.fresh (am _))⟩;exact⟨aS (zf3 xs lo hi) hz,_,(r.drop (HT.sIx xs.length 0 lo)).take (HT.sIx xs.length xs.length hi-HT.sIx xs.length 0 lo),TupN.new _ _⟩
def rCatT(K:ag):R2:=λx y H Q=>∃a b xs ys,x=.ref a/\y=.ref b/\SqT K H a xs/\SqT K H b ys/\xs≠[]/\xs.length+ys.length<=aX /\
 (ys=[]->Q (.ref a) H)/\(ys≠[]->∀p,H p=ab->Q (.ref p) (upd H p (.tup (xs++ys))))
def Vals.nil_iff{xs:List V}{us:List af}(r:Vals xs us):us=[] ↔ xs=[]:=by
 cases r with
 |nil=>simp
 |cons _ _=>simp
def op_catT:OpR X (binaryOp .Add) (rCatT X.K):=by
 intro pins s σ H x y v u Q I rx ry h;obtain⟨a,b,xs,ys,rfl,rfl,ha,hb,hx,hz,q1,q2⟩:=h;cases rx;cases ry;obtain⟨its,r1,p1,_⟩:=I.tuple ha;obtain⟨its2,r2,p2,_⟩:=I.tuple hb;refine HT.cat_tup p1 p2 (λz=>hx (r1.nil_iff.mp z)) (λz=>⟨.ref a,H,I,rfl,q1 (r2.nil_iff.mp z)⟩) (λz=>?_) (by rw[<- r1.length,<- r2.length];exact hz);refine⟨.ref s.heap.objs.size,_,I.laid (t':=s.toks) (o:=.tup (xs++ys)) (λb ob q=>aj _ q) (am _) ?_,rfl,q2 (λw=>z (r2.nil_iff.mpr w)) _ (I.hok.fresh (am _))⟩;exact⟨by rw[a8];exact hz,_,r1.append r2,TupN.new _ _⟩
end
end L2
namespace L2
open PySem PySem.Spec PyProof.Rows
def ixN(n:Nat)(i:Int):Option Nat:=if 0<=i then (if i<n then aa i.toNat else ab)else if -(n:Int)<=i then aa (i+n).toNat else ab
def atI{α:Type}(xs:List α)(i:Int):Option α:=(ixN xs.length i).bind λj=>xs[j]?
def ixN_seq{n:Nat}{i:Int}{j:Nat}(h:ixN n i=aa j):seqIndex? i n=aa j/\j<n /\ -(n:Int)<=i/\i<n:=by
 unfold ixN at h;by_cases h0:0<=i
 ·rw[if_pos h0]at h;by_cases h1:i<n
  ·rw[if_pos h1]at h;have e:i.toNat=j:=aR h;exact⟨by rw[seqIndex_of h0 h1,e],by lia,by lia,h1⟩
  ·rw[if_neg h1]at h;cases h
 ·rw[if_neg h0]at h;by_cases h1:-(n:Int)<=i
  ·rw[if_pos h1]at h;have e:(i+n).toNat=j:=aR h;exact⟨by rw[seqIndex_neg (by lia) h1,e],by lia,h1,by lia⟩
  ·rw[if_neg h1]at h;cases h
def zi3{α:Type}{xs:List α}{i:Int}{v:α}(h:atI xs i=aa v):∃j,seqIndex? i xs.length=aa j/\xs[j]? =aa v/\j<xs.length /\ -(xs.length:Int)<=i/\i<xs.length:=by
 unfold atI at h;cases e:ixN xs.length i with
 |none=>rw[e]at h;cases h
 |some j=>
  rw[e]at h;obtain⟨h1,h2,h3,h4⟩:=ixN_seq e;exact⟨j,h1,h,h2,h3,h4⟩
def zjm(b:Expr):Prop:=∀o i,subscripted b false o i=operate [o,i] (getItem o i)
def IxR(X:Cx)(r:R2):Prop:=
 ∀(value slice:Expr) (pins:List (ai×Obj)) (s:ah) (σ:St) (H:Hp) (x y:V) (v u:af) (Q:VK),Inv X pins σ H s->RelV x v->RelV y u->r x y H Q ->
  subscripted slice false v u=operate [v,u] (getItem v u)->av (model X.prog X.w) X.A (subscriptTail value slice v u) (EP X pins σ Q) X.xe s
def MtR(X:Cx)(id:String)(r:V->List V->Hp->VK->Prop):Prop:=
 ∀(pins:List (ai×Obj)) (s:ah) (σ:St) (H:Hp) (x:V) (xs:List V) (v:af) (us:List af) (Q:VK),Inv X pins σ H s->RelV x v->Vals xs us->r x xs H Q ->
  av (model X.prog X.w) X.A (call (.builtin id) (v::us)) (EP X pins σ Q) X.xe s
section
variable {X:Cx}{a b:Expr}{ta tb:TE}{pos:Pos}
def pe_ix{r:R2}(hr:IxR X r)(ha:PE X a ta)(hb:PE X b tb)(hs:zjm b):PE X (.Subscript a b pos) (tOp r ta tb):=by
 intro pins s σ H Q I h;exact Subscript_ (binT ha hb I h λv u s2 x y H2 I2 rx ry q=>hr a b pins s2 σ H2 x y v u Q I2 rx ry q (hs _ _))
def rIxL(K:ag):R2:=λx y H Q=>∃p xs i v,x=.ref p/\y=.int i/\SqL K H p xs/\atI xs i=aa v/\Q v H
def rIxT(K:ag):R2:=λx y H Q=>∃p xs i v,x=.ref p/\y=.int i/\SqT K H p xs/\atI xs i=aa v/\Q v H
def rIxS:R2:=λx y H Q=>∃z i c,x=.str z/\y=.int i/\z.length<=aX/\atI z.cps.toList i=aa c/\Q (.str ⟨#[c]⟩) H
def ix_list:IxR X (rIxL X.K):=by
 intro value slice pins s σ H x y v u Q I rx ry h hs;obtain⟨p,xs,i,z,rfl,rfl,hq,he,q⟩:=h;cases rx;obtain⟨t,rfl⟩:=ry;obtain⟨its,r,pl,hz⟩:=I.list hq;obtain⟨j,h1,h2,h3,h4,h5⟩:=zi3 he;obtain⟨w,ew,rw'⟩:=r.get h2;have hl:=r.length;have hn:=zim;have fin:EP X pins σ Q w s:=⟨z,H,I,rw',q⟩
 by_cases h0:0<=i
 ·have hj:i.toNat=j:=by
   rw[seqIndex_of h0 h5]at h1;exact aR h1
  exact item_listR pl.isList h0 (by lia) (by rw[hj];simpa using ew) fin hs
 ·have hj:(i+(its.toArray.size:Int)).toNat=j:=by
   rw[seqIndex_neg (by lia) h4]at h1;rw[a9,<- hl];exact aR h1
  exact subscriptTail_builtinR (x:=w) pl.isList.typeIs slot_list_getitem.lookup
   (wpAny_getItem_list_neg (Q:=λr s'=>r=w/\EP X pins σ Q r s') pl.isList (by lia) (by rw[a9] <;> lia) (by lia) (by rw[hj];simpa using ew) ⟨rfl,fin⟩) hs
def ix_tup:IxR X (rIxT X.K):=by
 intro value slice pins s σ H x y v u Q I rx ry h hs;obtain⟨p,xs,i,z,rfl,rfl,hq,he,q⟩:=h;cases rx;obtain⟨t,rfl⟩:=ry;obtain⟨its,r,pl,hz⟩:=I.tuple hq;obtain⟨j,h1,h2,h3,h4,h5⟩:=zi3 he;obtain⟨w,ew,rw'⟩:=r.get h2;have hl:=r.length;have hn:=zim;have fin:EP X pins σ Q w s:=⟨z,H,I,rw',q⟩
 exact subscriptTail_builtinR (x:=w) pl.typeIs slot_tuple_getitem.lookup
  (getItem_tuple (j:=j) (Q:=λr s'=>r=w/\EP X pins σ Q r s') pl (by lia) (by lia) (by rw[a9,<- hl];exact h1) (by simpa using ew) ⟨rfl,fin⟩) hs
def ix_str:IxR X rIxS:=by
 intro value slice pins s σ H x y v u Q I rx ry h hs;obtain⟨z,i,c,rfl,rfl,hz,he,q⟩:=h;obtain⟨t,rfl⟩:=rx;obtain⟨t',rfl⟩:=ry;obtain⟨j,h1,h2,h3,h4,h5⟩:=zi3 he;have hl:z.cps.toList.length=z.length:=by simp[gi]
 rw[hl]at h1 h4 h5;have hn:=zim;exact tail_any (typeIs_str s z t) slot_str_getitem.lookup (getItem_str (c:=c) (by
  have e1:decide (i < -(2 ^ 63:Int))=false:=decide_eq_false (by lia);have e2:decide (i ≥ 2 ^ 63)=false:=decide_eq_false (by lia);rw[e1,e2,jj]) (by rw[h1];simpa using h2) ⟨.str ⟨#[c]⟩,H,I.tok _,⟨_,rfl⟩,q⟩) hs
def ziA(lo hi:Option Int)(n:Nat):(sliceBounds lo hi ab n).1=((HT.sIx n 0 lo:Nat):Int)/\(sliceBounds lo hi ab n).2.1=((HT.sIx n n hi:Nat):Int)/\(sliceBounds lo hi ab n).2.2=1:=by
 refine⟨?_,?_,rfl⟩
 ·cases lo with
  |none=>simp[sliceBounds,HT.sIx]
  |some i=>
   simp only[sliceBounds,HT.sIx,jS,show(1:Int) > 0 by decide,if_true];by_cases h:i<0
   ·simp only[h,if_true] <;> lia
   ·simp only[h,if_false] <;> lia
 ·cases hi with
  |none=>simp[sliceBounds,HT.sIx]
  |some i=>
   simp only[sliceBounds,HT.sIx,jS,show(1:Int) > 0 by decide,if_true];by_cases h:i<0
   ·simp only[h,if_true] <;> lia
   ·simp only[h,if_false] <;> lia
def zhy(its:List af)(lo hi:Option Int):slicePick its.toArray lo hi ab=((its.drop (HT.sIx its.length 0 lo)).take (HT.sIx its.length its.length hi-HT.sIx its.length 0 lo)).toArray:=by
 obtain⟨h1,h2,h3⟩:=ziA lo hi its.toArray.size;unfold slicePick;rw[h1,h2,h3];simp only[sliceRange_one,pick_run,a9] <;> rfl
def rSlL(K:ag):V->Option Int->Option Int->Hp->VK->Prop:=λx lo hi H Q=>∃a xs,x=.ref a/\SqL K H a xs/\∀p,H p=ab->Q (.ref p) (upd H p (.lst (cutV xs lo hi)))
def sl_list:SlR X (rSlL X.K):=by
 intro pins s σ H x v vl vu lo hi sl Q I rx hs pl pu h;obtain⟨a,xs,rfl,hx,q⟩:=h;cases rx;obtain⟨its,r,ht,hz⟩:=I.list hx;have hlen:=r.length;refine⟨"list",_,slot_list_getitem.lookup,ht.isList.typeIs,?_⟩;refine wpAny_getItem_list_slice ht.isList hs pl pu .none (by simp) ?_ (by rw[a9] <;> lia);rw[zhy,<- hlen];refine⟨.ref s.heap.objs.size,_,I.laid (t':=s.toks) (o:=.lst (cutV xs lo hi)) (λb ob q=>aj _ q) (am _) ?_,rfl,q _ (I.hok.fresh (am _))⟩;exact⟨aS (zf3 xs lo hi) hz,_,0,(r.drop (HT.sIx xs.length 0 lo)).take (HT.sIx xs.length xs.length hi-HT.sIx xs.length 0 lo),ay _ rfl⟩
def zfm:V->Bool
 |.non=>true
 |.bl _=>true
 |.int _=>true
 |.str _=>true
 | _=>false
def eqV:V->V->Bool
 |.non,.non=>true
 |.bl a,.bl b=>a==b
 |.bl a,.int b=>(if a then 1 else 0)==b
 |.int a,.bl b=>a==(if b then 1 else 0)
 |.int a,.int b=>a==b
 |.str a,.str b=>a==b
 | _,_=>false
def eqAt_V{A:aQ}{s:ah}{y x:V}{u v:af}(ry:RelV y u)(rx:RelV x v)(fy:zfm y=true)(fx:zfm x=true):fC A s u v (eqV y x):=by
 cases y with
 |non=>
  cases ry;cases x with
  |non=>cases rx;exact iH _
  |bl b=>cases rx;exact lz b
  |int b=>obtain⟨t,rfl⟩:=rx;exact lF b t
  |str b=>obtain⟨t,rfl⟩:=rx;exact lG b t
  | _=>exact absurd (show false=true from fx) aP
 |bl a=>
  cases ry;cases x with
  |non=>cases rx;exact lA a
  |bl b=>cases rx;exact lB a b
  |int b=>obtain⟨t,rfl⟩:=rx;exact lH a b t
  |str b=>obtain⟨t,rfl⟩:=rx;exact lI a b t
  | _=>exact absurd (show false=true from fx) aP
 |int a=>
  obtain⟨t',rfl⟩:=ry;cases x with
  |non=>cases rx;exact lJ a t'
  |bl b=>cases rx;exact lK a t' b
  |int b=>obtain⟨t,rfl⟩:=rx;exact lP a t' b t
  |str b=>obtain⟨t,rfl⟩:=rx;exact jq a t' b t
  | _=>exact absurd (show false=true from fx) aP
 |str a=>
  obtain⟨t',rfl⟩:=ry;cases x with
  |non=>cases rx;exact lL a t'
  |bl b=>cases rx;exact lM a t' b
  |int b=>obtain⟨t,rfl⟩:=rx;exact jr a t' b t
  |str b=>obtain⟨t,rfl⟩:=rx;exact lQ a t' b t
  | _=>exact absurd (show false=true from fx) aP
 | _=>exact absurd (show false=true from fy) aP
def eqU(x:V)(u:af):Bool:=match u with
 |.none=>eqV .non x
 |.bool b=>eqV (.bl b) x
 |.int i _=>eqV (.int i) x
 |.str z _=>eqV (.str z) x
 | _=>false
def eqU_of{x y:V}{u:af}(r:RelV y u)(f:zfm y=true):eqU x u=eqV y x:=by
 cases y with
 |non=>cases r;rfl
 |bl b=>cases r;rfl
 |int i=>obtain⟨t,rfl⟩:=r;rfl
 |str z=>obtain⟨t,rfl⟩:=r;rfl
 | _=>exact absurd (show false=true from f) aP
def zjp{A:aQ}{s:ah}{x:V}{v:af}(rx:RelV x v)(fx:zfm x=true):∀{xs:List V} {us:List af},Vals xs us->xs.all zfm=true->∀u∈us,fC A s u v (eqU x u)
 | _,_,.nil,_=>λu hu=>by cases hu
 |y::xs,u::us,.cons r t,f=>λu' hu=>by
  rw[eJ,cc]at f;rcases aF.mp hu with rfl|hu
  ·rw[eqU_of r f.1];exact eqAt_V r rx f.1 fx
  ·exact zjp rx fx t f.2 u' hu
def zij:zfv X (.builtin "len") (λxs H Q=>∃p ys,xs=[.ref p]/\(SqL X.K H p ys\/SqT X.K H p ys)/\Q (.int ys.length) H):=by
 intro pins s σ H xs us Q I r h;obtain⟨p,ys,rfl,hq,q⟩:=h;obtain⟨u,rfl,rx⟩:=zf4 r;cases rx;have hn:=zim;rcases hq with hq|hq
 ·obtain⟨its,r',pl,hz⟩:=I.list hq;have hlen:=r'.length;exact Calls.call_len_list pl.isList (by simp only[a9] <;> lia) ⟨.int ys.length,H,I.tok _,⟨s.toks+1,by rw[a9,hlen]⟩,q⟩
 ·obtain⟨its,r',pl,hz⟩:=I.tuple hq;have hlen:=r'.length;exact len_tuple pl (by simp only[a9] <;> lia) ⟨.int ys.length,H,I.tok _,⟨s.toks+1,by rw[a9,hlen]⟩,q⟩
def ziC:zfv X (.builtin "len") (λxs H Q=>∃z,xs=[.str z]/\z.length<=aX/\Q (.int z.length) H):=by
 intro pins s σ H xs us Q I r h;obtain⟨z,rfl,hz,q⟩:=h;obtain⟨u,rfl,t,rfl⟩:=zf4 r;have hn:=zim;exact len_str (by lia) ⟨.int z.length,H,I.tok _,⟨_,rfl⟩,q⟩
def zhF:zfv X (.type "tuple") (λxs H Q=>∃p ys,xs=[.ref p]/\((SqL X.K H p ys/\∀l,H l=ab->Q (.ref l) (upd H l (.tup ys)))\/(SqT X.K H p ys/\Q (.ref p) H))):=by
 intro pins s σ H xs us Q I r h;obtain⟨p,ys,rfl,h⟩:=h;obtain⟨u,rfl,rx⟩:=zf4 r;cases rx;rcases h with ⟨hq,q⟩|⟨hq,q⟩
 ·obtain⟨its,r',pl,hz⟩:=I.list hq;have hlen:=r'.length;refine call_tuple_list pl.isList (λh' kp=>?_) (by simp only[a9] <;> lia);have I1:Inv X pins σ H { s with heap:=h'}:=I.kept (t':=s.toks) kp;have I2:Inv X pins σ (upd H h'.objs.size (.tup ys)) { s with heap:=h'.push { cls:=.type "tuple",data:=.seq its.toArray}}:=
   I1.laid (t':=s.toks) (λb o e=>aj _ e) (am _) (show ObjOk X.prog X.w _ _ _ (.tup ys)from ⟨hz,its,r',TupN.new _ _⟩)
  exact⟨.ref h'.objs.size,_,I2,rfl,q _ (I1.hok.fresh (am _))⟩
 ·obtain⟨its,r',pl,hz⟩:=I.tuple hq;exact call_tuple_same pl ⟨.ref p,H,I,rfl,q⟩
def tyV(K:ag)(T:String)(x:V)(H:Hp):Prop:=match x with
 |.str _=>T = "str"
 |.int _=>T = "int"
 | .ref p=>(T = "list" /\ ∃ xs,SqL K H p xs) \/ (T = "tuple" /\ ∃ o,K.lookup p=aa o/\o.cls=.type "tuple" /\ o.dict=ab) \/
   (T = "dict" /\ ((∃kvs,Rd H p (.dK kvs))\/∃kvs,H p=aa (.dT kvs)))\/(T = "set" /\ ∃S n,H p=aa (.set S n))
 | _=>False
def tyV_is{pins:List (ai×Obj)}{σ:St}{H:Hp}{s:ah}{T:String}{x:V}{v:af}(I:Inv X pins σ H s)(r:RelV x v)(ty:tyV X.K T x H) :
  s.TypeIs v T/\∀a,v=.ref a->∃ob,s.heap.get? a=aa ob/\ob.dict=ab:=by
 cases x with
 |str z=>
  obtain⟨t,rfl⟩:=r;cases (show T = "str" from ty);exact⟨typeIs_str s z t,λ_ e=>nomatch e⟩
 |int i=>
  obtain⟨t,rfl⟩:=r;cases (show T = "int" from ty);exact⟨typeIs_int s i t,λ_ e=>nomatch e⟩
 |ref p=>
  cases r;rcases ty with ⟨rfl,xs,hq⟩|⟨rfl,o,hk,hc,hd⟩|⟨rfl,hk⟩|⟨rfl,S,n,hk⟩
  ·obtain⟨its,_,pl,_⟩:=I.list hq;refine⟨pl.isList.typeIs,λa e=>?_⟩;cases e;obtain⟨o,n,e,c,hd,_⟩:=pl;exact⟨o,e,hd⟩
  ·refine⟨⟨o,I.kIn p o hk,hc⟩,λa e=>?_⟩;cases e;exact⟨o,I.kIn _ o hk,hd⟩
  ·have z:∃o,s.heap.get? p=aa o/\o.ExactDict:=by
    rcases hk with ⟨kvs,hk⟩|⟨kvs,hk⟩
    ·obtain⟨_,_,_,_,o,_,_,e,ex,_⟩:=hk.ok I.hok;exact⟨o,e,ex⟩
    ·obtain⟨_,_,_,_,o,_,_,e,ex,_⟩:=I.hok p _ hk;exact⟨o,e,ex⟩
   obtain⟨o,e,ex⟩:=z;refine⟨⟨o,e,ex.1⟩,λa e2=>?_⟩;cases e2;exact⟨o,e,ex.2.1⟩
  ·obtain⟨o,_,_,_,e,ex,_⟩:=I.hok p _ hk;refine⟨⟨o,e,ex.1⟩,λa e2=>?_⟩;cases e2;exact⟨o,e,ex.2.1⟩
 | _=>exact cy ty
def tBM(K:ag)(T:String)(r:V->List V->Hp->VK->Prop)(to:TE)(t:TA):TE:=λσ H Q=>to σ H λx H1=>tyV K T x H1/\t σ H1 λxs H2=>r x xs H2 Q
variable {o e:Expr}{es:List Expr}{to:TE}{t:TA}{name:Str}{apos cpos:Pos}{T id:String}{r:V->List V->Hp->VK->Prop}
def pe_bm(pa:PlainAttrs T)(slot:Slot T name id)(hty:typeOf (.builtin id)=pure (.type "method_descriptor"))(hm:MtR X id r)(ho:PE X o to)(ha:PA X (e::es) t)
  (hbase:b9 o name X.env (eval o X.env)=eval o X.env:=by rfl)
  (hfew:((backTo cpos (aY (e :: es) X.env)).all (fun x=>!x.1) && (backToKw cpos (keywordEach [] X.env)).all (fun x=>x.1.isSome)
   && decide ((e::es).length+([]:List Keyword).length+(if ([]:List Keyword).isEmpty then 0 else 1)<30))=true:=by rfl)
  (hline:(apos.endLine==cpos.line)=true:=by rfl) (hs:aY (e::es) X.env=(false,eval e X.env)::aY es X.env:=by rfl) (hplain:(backTo cpos (aY es X.env)).any (·.1)=false:=by rfl) :
  PE X (.Call (.Attribute o name apos) (e::es) [] cpos) (tBM X.K T r to t):=by
 intro pins s σ H Q I h;refine wpAny_Call_method_late hbase hfew hline rfl (thn (ho pins s σ H _ I h) ?_);rintro v s1 ⟨x,H1,I1,r1,ty,q1⟩;obtain⟨h1,h2⟩:=tyV_is I1 r1 ty;refine⟨T,id,pa,slot,hty,h1,h2,?_⟩;have hA:=ha cpos pins s1 σ H1 _ I1 q1;rw[hs]at hA ⊢;refine iU (by show(false || (backTo cpos (aY es X.env)).any (·.1))=false;rw[hplain] <;> rfl) (jc ?_);refine thn hA ?_;rintro us s2 ⟨vs,H2,I2,r2,q2⟩;exact hm pins s2 σ H2 x vs v us Q I2 r1 r2 q2
end
end L2
namespace L2
open PySem PySem.Spec PyProof.Rows
def MtM(X:Cx)(id:String)(r:V->List V->Hp->VK->Prop):Prop:=
 ∀(pins:List (ai×Obj)) (s:ah) (σ:St) (H:Hp) (x:V) (xs:List V) (v:af) (us:List af) (Q:VK),Inv X pins σ H s->RelV x v->Vals xs us->r x xs H Q ->
  av (model X.prog X.w) X.A (call (.builtin id) (v::us)) (EP X pins σ Q) X.xe s
def Vals.one:∀{x:V} {us:List af},Vals [x] us->∃u,us=[u]/\RelV x u
 | _,_,.cons r .nil=>⟨_,rfl,r⟩
section
variable {X:Cx}{pins:List (ai×Obj)}{σ:St}{H:Hp}{s:ah}{l b:ai}{xs ys zs:List V}
def Inv.lset{its its':List af}{n:Nat}{f:Array af->Array af}{t':Nat}(I:Inv X pins σ H s)(hH:H l=aa (.lst xs))
  (e:s.heap.get? l=aa { cls:=.type "list",data:=.seq its.toArray n}) (hf:f its.toArray=its'.toArray) (hv:Vals ys its') (hz:ys.length<=aX) :
  Inv X pins σ (upd H l (.lst ys)) { s with heap:=s.heap.update l (cn f),toks:=t'}:=by
 have q:=l7 e f;rw[hf]at q;refine I.write (x:=l) (e:=l) (by rw[hH];exact trivial) (.inl rfl) (λb' u hb hu=>(cw s.heap (cn f) (cN hb)).trans hu) ⟨_,q⟩ ?_;exact⟨hz,its',_,hv,q⟩
def Inv.lstM(I:Inv X pins σ H s)(hH:H l=aa (.lst xs)):xs.length<=aX/\∃(its:List af) (n:Nat),Vals xs its/\xs.length=its.length/\s.heap.get? l=aa { cls:=.type "list",data:=.seq its.toArray n}:=by
 obtain⟨z,its,n,r,e⟩:=I.hok l _ hH;exact⟨z,its,n,r,r.length,e⟩
def notLongL{n:Nat}(h:n<=aX):eX n=false:=by
 unfold eX;exact decide_eq_false (by lia)
end
section
variable {X:Cx}
def rAppend:V->List V->Hp->VK->Prop:=λx vs H Q=>∃l xs y,x=.ref l/\vs=[y]/\H l=aa (.lst xs)/\xs.length<aX/\Q .non (upd H l (.lst (xs++[y])))
def ze8:MtM X "list.append" rAppend:=by
 intro pins s σ H x vs v us Q I rx rv h;obtain⟨l,xs,y,rfl,rfl,hH,hz,q⟩:=h;cases rx;obtain⟨u,rfl,ru⟩:=rv.one;obtain⟨z,its,n,r,hl,e⟩:=I.lstM hH;refine call_meets F.slot_list_append ⟨_,e,rfl⟩ F.entry_list_append (F.args_list_append_2 _ _) (PySem.list_append l its.toArray n u (by rw[a9];lia)) ⟨e,?_⟩;refine⟨.non,_,I.lset (its':=its++[u]) hH e (by simp) (r.append (.cons ru .nil)) ?_,rfl,q⟩;rw[a8,f9];lia
def rExtend:V->List V->Hp->VK->Prop:=λx vs H Q=>∃l b xs zs,x=.ref l/\vs=[.ref b]/\H l=aa (.lst xs)/\H b=aa (.lst zs)/\xs.length+zs.length<=aX/\Q .non (upd H l (.lst (xs++zs)))
def mt_extend:MtM X "list.extend" rExtend:=by
 intro pins s σ H x vs v us Q I rx rv h;obtain⟨l,b,xs,zs,rfl,rfl,hH,hB,hz,q⟩:=h;cases rx;obtain⟨u,rfl,ru⟩:=rv.one;cases ru;obtain⟨z,its,n,r,hl,e⟩:=I.lstM hH;obtain⟨z2,its2,n2,r2,hl2,e2⟩:=I.lstM hB;have hsz:its.toArray.size+its2.toArray.size<=aX:=by rw[a9,a9];lia
 have hlong:¬ (!its.toArray.isEmpty&&eX (its.toArray.size+its2.toArray.size))=true:=by
  rw[notLongL hsz,d9];exact aP
 refine call_meets F.slot_list_extend ⟨_,e,rfl⟩ F.entry_list_extend (F.args_list_extend_2 _ _)
  (AutoSeq1.list_extend_list_list_0 l its.toArray n b its2.toArray n2 hlong (by rw[a9];lia) (by lia)) ⟨e,e2,?_⟩
 refine⟨.non,_,I.lset (its':=its++its2) hH e (by simp) (r.append r2) ?_,rfl,q⟩;rw[a8];lia
end
section
variable {prog:aK}{w:aO}{A:aQ}{E:af->ah->Prop}{s:ah}
end
section
variable {X:Cx}
end
end L2
namespace Att
open PySem PySem.W PySem.Calls PyProof.Rows
def zgp{P:Params}{h:aT}:∀(ns:List Int) (vs:List af),WellAll P h vs (ns.map lR)->IntsAre vs ns:=by
 intro ns
 induction ns with
 |nil=>
  intro vs w;rw[dj]at w;cases w;exact .nil
 |cons n ns ih=>
  intro vs w;rw[aH]at w;cases w with
  |cons a b=>
   cases a;exact .cons _ _ (ih _ b)
def script_of{l:OpenLaw}{n:Nat}(hn:l.most=aa n){P:Params}{h:aT}{args:List WData}{vals:List af}
  (hpre:l.row.toRowW.claim.pre args=true) (hwl:WellAll P h vals args) :
  ∃a vs ns,vals=[bj a]/\args=[WData.list (ns.map lR)]/\h.get? a=aa { cls:=.type "list",data:=.seq vs.toArray}/\IntsAre vs ns/\ns.length<=n:=by
 have hsh:WShape.hasAll [] args [.list .int]=true:=(pre_splitW hpre).1;have hc:l.pre.holds [] { args:=args}=true:=(pre_splitW hpre).2;obtain⟨d,r,rfl,h1,h2⟩:=hasAllW_cons hsh;obtain rfl:=hasAllW_nil h2;obtain⟨xs,rfl,h3⟩:=hasW_list h1;obtain⟨ns,rfl⟩:=items_int h3;have hlen:ns.length<=n:=by
  unfold OpenLaw.pre at hc;have h4:(WTm.not (.lt (.lit (.int (n:Int))) (.len (.arg 0)))).holds [] { args:=[.list (ns.map .int)]}=true:=by
   have h4:=(holds_andW hc).1;rw[hn]at h4;exact h4
  have h5:=condW_of h4 (w_not (w_lt w_lit (w_len_list (w_arg rfl))));rw[aw]at h5;refine Nat.le_of_not_lt λq=>?_;have q':(n:Int)<((ns.length:Nat):Int):=by lia
  first
   |(rw[decide_eq_true q']at h5;exact absurd h5 (by decide))
   |(simp at h5;lia)
 cases hwl with
 |cons w1 w2=>
  cases w2;cases w1 with
  |list ho hall=>exact⟨_,_,ns,rfl,rfl,ho,zgp ns _ hall,hlen⟩
def post_true(l:OpenLaw)(args:List WData):l.row.toRowW.claim.post args (.bool true) args=true:=
 postW_of (r:=l.row.toRowW) (X:=(true==true))
  (show lC [] (.bool true) .bool=true by first|rfl|decide|simp[lC,WShape.arms,WShape.armsAll])
  (show(WTm.eq .res (.lit (.bool true))).value [] { args:=args,res:=aa (.bool true),after:=args}=aa (.bool (true==true))from w_eq_bool (w_res rfl) w_lit) rfl
def attach_call{l:OpenLaw}{n:Nat}{q:aK}{loose:List Str}{XP:(Str->Option af)->aT->Prop}{YP:aO->aT->Prop}{d:DefRec}
  (hn:l.most=aa n) (hdf:d.params.defaults=[])
  (call:∀ (w:aO) (s₀ s₁:ah) (mg mb:Str->Option af) (fa:ai) (o:Obj) (pm cd doc:af) (a:ai) (vs:List af) (ns:List Int),
   Ground q loose [] XP w s₀ mg mb s₁.heap->YP w s₁.heap ->
   s₁.heap.get? fa=aa o->o.data=.func (docDef d.name d.params d.body d.scope pm cd doc)->s₁.heap.CodeRec cd d.name->mg d.name=aa (.ref fa) ->
   s₁.heap.get? a=aa { cls:=.type "list",data:=.seq vs.toArray}->IntsAre vs ns->ns.length<=n->s₁.gens=#[] ->
   codeAny (model l.prog w) callerA (.call (.ref fa) ⟨[.ref a],[]⟩) (λr s'=>r=.ok (.ret (.bool true))/\OldK s₁.heap s'.heap/\s'.os=s₁.os/\AllBare s'.gens) s₁) :
  WalkO q loose XP YP l.row.toRowW d [] (λf vs=>jX f vs):=by
 intro w s₀ s₁ mg mb G Y fa o pm cd doc dV kV ho hd hcd hD hmg hg args vals as hpre hlay hrd hwl hlo;obtain rfl:dV=.none:=Dflts.none hD hdf;obtain rfl:kV=.none:=Dflts.noKw hD;obtain⟨a,vs,ns,rfl,rfl,hobj,hints,hlen⟩:=script_of hn hpre hwl;refine enter_call (codeAny_mono (call w s₀ s₁ mg mb fa o pm cd doc a vs ns G Y ho (fd_plain hd) hcd hmg hobj hints hlen hg) λr s' hq=>?_);obtain⟨rfl,h2,h3,h4⟩:=hq;exact⟨.inl ⟨.bool true,.bool true,[],rfl,λ_=>rfl,.bool true,post_true l _,λ_=>⟨lX,λ_ hm=>(nomatch hm)⟩⟩,h2,h3,h4⟩
section
variable {prog:aK}{w:aO}{A:aQ}{E:af->ah->Prop}{s:ah}{K:Frag}
end
end Att
namespace L2
open PySem PySem.Spec PyProof.Rows
def ziG:∀{vs:List af} {ns:List Int},IntsAre vs ns->Vals (ns.map V.int) vs
 | _,_,.nil=>.nil
 | _,_,.cons n t h=>.cons ⟨t,rfl⟩ (ziG h)
def Only(H:Hp):Prop:=∀b,H b=ab\/∃o xs,H b=aa (.frz o (.lst xs))
def law_call{P:aK}{w:aO}{K:ag}{mg mb:Str->Option af}{CX:CXT}{k:Nat}{fa a:ai}{fd:bF}{x:Str}{sp:Sp}{s₁:ah}{vs:List af}{ns:List Int}
  (KX:K.In s₁.heap) (hns:s₁.heap.Ns aV mg) (hb:s₁.heap.Ns builtinsNs mb) (hbb:∀x:Str,x≠ "__name__" -> mb x=aM x) (hlim:s₁.heap.NoLimit) (hg:s₁.gens=#[])
  (ha:s₁.heap.get? a=aa { cls:=.type "list",data:=.seq vs.toArray}) (hi:IntsAre vs ns) (hl:ns.length<=aX) (hr:Room k callerA)
  (F:∀base:aT,K.In base->base.Ns aV mg->FnOk P w K mg base CX k fa fd [x] sp) (hbind:∀(s:ah) (u:af),BindsTo s fd ⟨[u],[]⟩ [(x,u)])
  (hsp:∀H:Hp,Only H->SqL K H a (ns.map V.int)->sp [.ref a] H (λv _=>v=.bl true) λ_ _ _=>False)
  (hCX:∀H e s',CX [] H s₁ (λ_ _ _=>False) e s'->False) :
  codeAny (model P w) callerA (.call (.ref fa) ⟨[.ref a],[]⟩) (λr s'=>r=.ok (.ret (.bool true))/\OldK s₁.heap s'.heap/\s'.os=s₁.os/\AllBare s'.gens) s₁:=by
 have rv:=ziG hi;have lenV:=hi.length;have core:∀H:Hp,Only H->SqL K H a (ns.map V.int)->HOk P w H s₁.heap->(∀b,H b≠ab->b=a)->(H a≠ab->K.lookup a=ab) ->
   codeAny (model P w) callerA (.call (.ref fa) ⟨[.ref a],[]⟩) (λr s'=>r=.ok (.ret (.bool true))/\OldK s₁.heap s'.heap/\s'.os=s₁.os/\AllBare s'.gens) s₁:=by
  intro H hO hS hok hA hK;have base_of:∀{b:ai} {o:Obj},s₁.heap.get? b=aa o->H b=ab->(hidT s₁.heap H).get? b=aa o:=λe n=>hidT_get e n;have noA:∀{b:ai} {o:Obj} {es:Array DictEntry} {ep:Nat},s₁.heap.get? b=aa o->o.data=.dict es ep->H b=ab:=fun {b o es ep} e d=>by
   cases q:H b with
   |none=>rfl
   |some u=>
    have e':b=a:=hA b (by rw[q];simp);subst e';rw[ha]at e;cases e;have d':jQ vs.toArray _=Data.dict es ep:=d;cases d'
  have nsK:∀{b:ai} {m:Str->Option af},s₁.heap.Ns b m->(hidT s₁.heap H).Ns b m:=fun {b m} ⟨o,es,ep,e,d,r⟩=>⟨o,es,ep,base_of e (noA e d),d,r⟩
  have hKb:K.In (hidT s₁.heap H):=λb o e=>base_of (KX b o e) (by
   cases q:H b with
   |none=>rfl
   |some u=>
    have e':b=a:=hA b (by rw[q];simp);subst e';rw[hK (by rw[q];simp)]at e;cases e)
  have hM:Mod K mg (hidT s₁.heap H):=⟨hKb,nsK hns,⟨mb,nsK hb,hbb⟩,let⟨mc,h1,h2⟩:=hlim;⟨mc,nsK h1,h2⟩⟩
  have e0:Env0 P w K mg (hidT s₁.heap H) callerA [] s₁ H:=⟨rfl,hM,λb o e=>of_hidT e,d8 (hidT_size _ _),trivial,λb hb=>absurd (show b∈([]:List ai)from hb) (by simp),hok,.of_eq hg⟩
  refine codeAny_mono ((F _ hKb (nsK hns)).run callerA [] s₁ H ⟨[.ref a],[]⟩ [.ref a] [.ref a] _ _ hr e0 (hbind s₁ (.ref a)) (.cons rfl .nil) (hsp H hO hS)) λr s' h=>?_;cases r with
  |error e=>exact(hCX H e s' h).elim
  |ok fl=>
   cases fl with
   |next=>exact cy h
   |brk=>exact cy h
   |cont=>exact cy h
   |ret u=>
    obtain⟨v,H',os,bare,un,hok',r',q⟩:=h;have q':v=.bl true:=q;subst q';obtain rfl:u=gb true:=r';refine⟨rfl,OldK.of_keep λb o e=>?_,os,bare⟩;cases q:H b with
    |none=>exact un.keep b o e q (by intro z;exact absurd (show b∈([]:List ai)from z) (by simp)) (by simp)
    |some u=>
     rcases hO b with z|⟨ob,xs,z⟩
     ·rw[q]at z;cases z
     ·have z2:=un.frzs b ob _ z;obtain⟨e1,_⟩:=hok b _ z;obtain⟨e2,_⟩:=hok' b _ z2;rw[e]at e1;cases e1;exact e2
 cases hk:K.lookup a with
 |some o=>
  have e:=KX a o hk;rw[ha]at e;cases e;refine core (λ_=>ab) (λ_=>.inl rfl) (.inr ⟨_,vs.toArray,_,hk,rfl,rfl,rfl,by rw[a9,lenV];exact hl,by simpa using rv⟩) (λb u z=>by have z':(ab:Option HO)=aa u:=z;cases z') (λb z=>absurd rfl z) λz=>absurd rfl z
 |none=>
  refine core (λb=>if b=a then aa (.frz { cls:=.type "list",data:=.seq vs.toArray} (.lst (ns.map V.int)))else ab) (λb=>?_) (.inl (.inr ⟨{ cls:=.type "list",data:=.seq vs.toArray},if_pos rfl⟩)) (λb u z=>?_) (λb z=>?_) λ_=>hk
  ·by_cases hb:b=a
   ·exact .inr ⟨_,_,if_pos hb⟩
   ·exact .inl (if_neg hb)
  ·by_cases hb:b=a
   ·have z':=(if_pos hb).symm.trans z;cases z';subst hb;exact⟨ha,by rw[aw];exact hl,vs,_,rv,ha⟩
   ·have z':=(if_neg hb).symm.trans z;cases z'
  ·by_cases hb:b=a
   ·exact hb
   ·exact absurd (if_neg hb) z
end L2
namespace L2
open PySem PySem.Spec PyProof.Rows
def walk_of{l:iI}{n k:Nat}{q:aK}{loose:List Str}{XP:(Str->Option af)->aT->Prop}{YP:aO->aT->Prop}{d:DefRec}{K:Params->ag}{CX:aO->CXT}{sp:aO->Sp}{x:Str}
  (hn:l.most=aa n) (hn2:n<=aX) (hdf:d.params.defaults=[]) (hr:Room k callerA)
  (hY:∀(w:aO) (h:aT),YP w h->(K w.params).In h)
  (F:∀ (w:aO) (mg:Str->Option af) (fa:ai) (h:aT),(K w.params).In h->h.Ns aV mg->mg d.name=aa (.ref fa) ->
   ∃fd:bF,(∀(s:ah) (u:af),BindsTo s fd ⟨[u],[]⟩ [(x,u)]) /\
    ∀base:aT,(K w.params).In base->base.Ns aV mg->FnOk l.prog w (K w.params) mg base (CX w) k fa fd [x] (sp w))
  (hsp:∀(w:aO) (H:Hp) (a:ai) (ns:List Int),ns.length<=n->Only H->SqL (K w.params) H a (ns.map V.int)->sp w [.ref a] H (λv _=>v=.bl true) λ_ _ _=>False)
  (hCX:∀(w:aO) (H:Hp) (s:ah) (e:af) (s':ah),CX w [] H s (λ_ _ _=>False) e s'->False) :
  kh q loose XP YP l.row.toRowW d [] (λf vs=>jX f vs):=by
 refine Att.attach_call hn hdf λw s₀ s₁ mg mb fa o pm cd doc a vs ns G Y ho hd hcd hmg hobj hints hlen hg=>?_;have KX:=hY w _ Y;obtain⟨fd,hb,hF⟩:=F w mg fa _ KX G.T.g hmg;exact law_call KX G.T.g G.T.b G.T.builtins G.T.nolimit hg hobj hints (aS hlen hn2) hr hF hb (λH hO hS=>hsp w H a ns hlen hO hS) λH e s'=>hCX w H s₁ e s'
end L2
namespace L2
open PySem PySem.Spec PyProof.Rows
def zbI(s:Stmt):Arguments:=match s with
 |.FunctionDef _ a _ _ _ _ _ _ _ _=>a
 | _=>{ posonlyargs:=[],args:=[],vararg:=ab,kwonlyargs:=[],kw_defaults:=[],kwarg:=ab,defaults:=[]}
def zbl(s:Stmt):List Stmt:=match s with
 |.FunctionDef _ _ b _ _ _ _ _ _ _=>b
 | _=>[]
def zad(s:Stmt):Scope:=match s with
 |.FunctionDef _ _ _ _ _ _ sc _ _ _=>sc
 | _=>{ kind:=.function,names:=[],isGenerator:=false,isCoroutine:=false}
abbrev CX0:CXT:=λ_ _ _ _ _ _=>False
abbrev E0:XK:=λ_ _ _=>False
def zas{X:Cx}:zcK CX0 X E0:=λ_ _ _ _ _ _ _ h=>h.elim
structure Fun(K:ag)(x qual:Str)(st:Stmt)(f:ai)(fd:bF):Prop where
 ex:∃(oc:af) (od:Option ai) (kV doc pm:af) (an:Option ai) (cdv ct:af) (osl:Array (Option af)),
  fd=bV x qual (zbI st) (zbl st) (zad st) .none kV doc pm an cdv ct/\K.lookup f=aa ⟨oc,od,.func fd,osl⟩/\ck K cdv qual=true
 kp:bJ K (.ref f)=true
section
variable {P:aK}{w:aO}{K:ag}{mg:Str->Option af}{base:aT}
def Fun.binds{x qual:Str}{st:Stmt}{f:ai}{fd:bF}{ps:List Str}(F:Fun K x qual st f fd)
  (h:∀(kV doc pm:af) (an:Option ai) (cdv ct:af) (us:List af),us.length=ps.length->bindArgs (bV x qual (zbI st) (zbl st) (zad st) .none kV doc pm an cdv ct) ⟨us,[]⟩=pure (ps.zip us)):Binds K fd ps []:=by
 obtain⟨oc,od,kV,doc,pm,an,cdv,ct,osl,rfl,lk,hcd⟩:=F.ex;exact .all (h kV doc pm an cdv ct)
def zeU{x qual:Str}{st:Stmt}{f:ai}{oc:af}{od an:Option ai}{osl:Array (Option af)}{kV doc pm cdv ct:af}(l:K.lookup f=aa ⟨oc,od,.func (bV x qual (zbI st) (zbl st) (zad st) .none kV doc pm an cdv ct),osl⟩)
  (c:ck K cdv qual=true) (k:bJ K (.ref f)=true):Fun K x qual st f (bV x qual (zbI st) (zbl st) (zad st) .none kV doc pm an cdv ct):=⟨⟨oc,od,kV,doc,pm,an,cdv,ct,osl,rfl,l,c⟩,k⟩
end
def zaP{A:aQ}{k:Nat}(hr:Room k A):A.units+1<cLine:=eY (dO (by decide:1<=64) _) hr.units
def small1000{n:Nat}(h:n<=1000):n<aX:=eY h (by decide)
section
variable {X:Cx}
end
def iteF{A B:Prop}(h:B):if false=true then A else B:=by
 rw[if_neg aP];exact h
def iteT{A B:Prop}(h:A):if true=true then A else B:=by
 rw[if_pos rfl];exact h
def Same(H H':Hp):Prop:=∀b o,H b=aa o->H' b=aa o
def Same.refl(H:Hp):Same H H:=λ_ _ h=>h
def Same.trans{H H1 H2:Hp}(a:Same H H1)(b:Same H1 H2):Same H H2:=λc o h=>b c o (a c o h)
def Same.free{H H':Hp}(e:Same H H'){l:ai}(h:H' l=lr):H l=lr:=by
 cases q:H l with
 |none=>rfl
 |some o=>
  rw[e l o q]at h;cases h
def Same.seq{K:ag}{H H':Hp}{a:ai}{xs:List V}(e:Same H H')(h:SqL K H a xs):SqL K H' a xs:=by
 rcases h with (h|⟨o,h⟩)|h
 ·exact .inl (.inl (e _ _ h))
 ·exact .inl (.inr ⟨o,e _ _ h⟩)
 ·exact .inr h
end L2

namespace L2
open PySem PySem.Spec PyProof.Rows
def zkx{α β:Type}{l:List α}{f:α->β->Sem (ForInStep β)}(g:β->α->β)(h:∀x∈l,∀c,f x c=pure (.yield (g c x)))(c:β):forIn l c f=pure (l.foldl g c):=by
 induction l generalizing c with
 |nil=>rfl
 |cons x l ih=>
  rw[dS,h x ax,pure_bind];exact ih (λy hy=>h y (aq _ hy)) _
def clG(env:Env)(cs:List (Str×ai))(x:Str×NameKind):List (Str×ai):=
 if (x.2==bB)=true then (match env.cells.lookup x.1 with|some c=>(x.1,c)::cs|none=>cs)else cs
def zjZ(env:Env)(names:List (Str×NameKind)):List (Str×ai):=names.foldl (clG env) []
def zgW{scope:Scope}{env:Env}(h:∀y∈scope.names,y.2=.free->∃c,env.cells.lookup y.1=aa c):closureFor scope env=pure (zjZ env scope.names):=by
 simp only[closureFor];rw[zkx (clG env) (λx hx c=>by
  obtain⟨n,k⟩:=x;cases hk:(k==bB)with
  |false=>simp only[clG,hk,bm,if_false]
  |true=>
   have e:k=.free:=by cases k <;> first|rfl|(exact absurd hk (by decide))
   obtain⟨c0,hc⟩:=h _ hx e;simp only[clG,hk,if_true,cellOf,hc,pure_bind])]
 rfl
def ziu{env:Env}:∀(names:List (Str×NameKind)) (cs:List (Str×ai)),(∀y c,cs.lookup y=aa c->env.cells.lookup y=aa c) ->
  ∀y c,(names.foldl (clG env) cs).lookup y=aa c->env.cells.lookup y=aa c
 |[],_,h,y,c,e=>h y c e
 |(n,k)::r,cs,h,y,c,e=>by
  refine ziu r (clG env cs (n,k)) (λz d hz=>?_) y c e;unfold clG at hz;split at hz
  ·cases q:env.cells.lookup n with
   |none=>simp only[q]at hz;exact h z d hz
   |some c0=>
    simp only[q,bX]at hz;cases hb:z==n with
    |true=>
     simp only[hb]at hz;cases hz;have:z=n:=by simpa using hb
     rw[this];exact q
    |false=>simp only[hb]at hz;exact h z d hz
  ·exact h z d hz
def cl_has{env:Env}:∀(names:List (Str×NameKind)) (cs:List (Str×ai)) (y:Str),(∃c,env.cells.lookup y=aa c)->((∃c,cs.lookup y=aa c)\/(y,bB)∈names) ->
  ∃c,(names.foldl (clG env) cs).lookup y=aa c
 |[],_,_,_,h=>by
  rcases h with h|h
  ·exact h
  ·cases h
 |(n,k)::r,cs,y,hc,h=>by
  refine cl_has r (clG env cs (n,k)) y hc ?_;have keep:(∃c,cs.lookup y=aa c)->∃c,(clG env cs (n,k)).lookup y=aa c:=λ⟨c,e⟩=>by
   unfold clG;split
   ·cases q:env.cells.lookup n with
    |none=>exact⟨c,e⟩
    |some c0=>
     show ∃c,cj y ((n,c0)::cs)=aa c;rw[bX];cases y==n with
     |true=>exact⟨c0,rfl⟩
     |false=>exact⟨c,e⟩
   ·exact⟨c,e⟩
  rcases h with h|h
  ·exact .inl (keep h)
  ·rcases aF.mp h with h|h
   ·cases h;left;obtain⟨c0,q⟩:=hc;unfold clG;rw[if_pos (by rfl)];show ∃c,cj n (match env.cells.lookup n with|some c=>(n,c)::cs|none=>cs)=aa c;rw[q];refine⟨c0,?_⟩;show cj n ((n,c0)::cs)=aa c0;rw[bX];simp
   ·exact .inr h
def zed{env:Env}:∀{names:List (Str×NameKind)} {x:Str},names.lookup x=aa .free ->
  (names.map λ(n,k)=>if (k==bB&&env.scope.kind == .function&&env.kindOf n==aa .cell)then (n,c7)else (n,k)).lookup x=aa .cell \/
  (names.map λ(n,k)=>if (k==bB&&env.scope.kind == .function&&env.kindOf n==aa .cell)then (n,c7)else (n,k)).lookup x=aa .free
 |[],_,h=>by simp at h
 |(n,k)::r,x,h=>by
  have ih:=@zed env r x;show cj x ((if (k==bB&&env.scope.kind == .function&&env.kindOf n==aa .cell)=true then (n,c7)else (n,k))::_)=_\/cj x ((if (k==bB&&env.scope.kind == .function&&env.kindOf n==aa .cell)=true then (n,c7)else (n,k))::_)=_;cases hx:x==n with
  |true=>
   simp only[bX,hx]at h;cases h;by_cases hc:(bB==bB&&env.scope.kind == .function&&env.kindOf n==aa .cell)=true
   ·rw[if_pos hc];left;simp only[bX,hx]
   ·rw[if_neg hc];right;simp only[bX,hx]
  |false=>
   simp only[bX,hx]at h;by_cases hc:(k==bB&&env.scope.kind == .function&&env.kindOf n==aa .cell)=true
   ·rw[if_pos hc];simp only[bX,hx];exact ih h
   ·rw[if_neg hc];simp only[bX,hx];exact ih h
def zef{env:Env}:∀{names:List (Str×NameKind)} {x:Str},(∀y∈names,y.2≠.cell) ->
  ((names.map λ(n,k)=>if (k==bB&&env.scope.kind == .function&&env.kindOf n==aa .cell)then (n,c7)else (n,k)).lookup x=aa .cell \/
  (names.map λ(n,k)=>if (k==bB&&env.scope.kind == .function&&env.kindOf n==aa .cell)then (n,c7)else (n,k)).lookup x=aa .free)->names.lookup x=aa .free
 |[],_,_,h=>by rcases h with h|h <;> simp at h
 |(n,k)::r,x,hnc,h=>by
  have ih:=@zef env r x λy hy=>hnc y (aq _ hy);have h':cj x ((if (k==bB&&env.scope.kind == .function&&env.kindOf n==aa .cell)=true then (n,c7)else (n,k))::(r.map λ(n,k)=>if (k==bB&&env.scope.kind == .function&&env.kindOf n==aa .cell)then (n,c7)else (n,k)))=aa .cell\/cj x ((if (k==bB&&env.scope.kind == .function&&env.kindOf n==aa .cell)=true then (n,c7)else (n,k))::(r.map λ(n,k)=>if (k==bB&&env.scope.kind == .function&&env.kindOf n==aa .cell)then (n,c7)else (n,k)))=aa .free:=h;rw[bX];cases hx:x==n with
  |true=>
   have hk:k=.free:=by
    by_cases hc:(k==bB&&env.scope.kind == .function&&env.kindOf n==aa .cell)=true
    ·cases k <;> first|rfl|(simp at hc)
    ·rw[if_neg hc]at h';simp only[bX,hx]at h';rcases h' with h'|h'
     ·exact absurd (aR h') (hnc (n,k) ax)
     ·exact aR h'
   rw[hk]
  |false=>
   by_cases hc:(k==bB&&env.scope.kind == .function&&env.kindOf n==aa .cell)=true
   ·rw[if_pos hc]at h';simp only[bX,hx]at h';exact ih h'
   ·rw[if_neg hc]at h';simp only[bX,hx]at h';exact ih h'
structure CompSc(X:Cx)(N:List Str)(fr:List Nat)(x:Str)(scope:Scope):Prop where
 kind:scope.kind=.function
 chk:(scope.names.all λy=>match y.2 with
  |.cell=>false
  |.local=>scope.names.lookup y.1==aa .local
  |.free=>X.env.scope.names.lookup y.1==aa .cell || X.env.scope.names.lookup y.1==aa .free
  | _=>true)=true
 tg:scope.names.lookup x=aa .local
 nd:N.Nodup
 nm:N.map aa=aa x::fr.map (λi=>X.N[i]?)
 nf:(N.tail.all λy=>scope.names.lookup y==aa .free)=true
def zaU{o:Option NameKind}{k:NameKind}(h:(o==aa k)=true):o=aa k:=by
 cases o with
 |none=>cases h
 |some j=>
  have:(j==k)=true:=h;cases j <;> cases k <;> first|rfl|(exact absurd this (by decide))
section
variable {X:Cx}{N:List Str}{fr:List Nat}{x:Str}{scope:Scope}
def CompSc.ncell(S:CompSc X N fr x scope):∀y∈scope.names,y.2≠.cell:=λy hy e=>by
 have h:=bH.mp S.chk y hy;obtain⟨n,k⟩:=y;cases (show k=.cell from e);exact absurd h (by simp)
def CompSc.loc(S:CompSc X N fr x scope):∀y∈scope.names,y.2=.local->scope.names.lookup y.1=aa .local:=λy hy e=>by
 have h:=bH.mp S.chk y hy;obtain⟨n,k⟩:=y;cases (show k=.local from e);exact zaU h
def CompSc.free(S:CompSc X N fr x scope):∀y∈scope.names,y.2=.free->X.env.kindOf y.1=aa .cell\/X.env.kindOf y.1=aa .free:=λy hy e=>by
 have h:=bH.mp S.chk y hy;obtain⟨n,k⟩:=y;cases (show k=.free from e);have h':(X.env.scope.names.lookup n==aa .cell || X.env.scope.names.lookup n==aa .free)=true:=h;rcases jl.mp h' with h'|h'
 ·exact .inl (zaU h')
 ·exact .inr (zaU h')
end
def zfo(fr:List Nat)(σ:St):St:=fr.map λi=>(σ[i]?).join
def cxC(X:Cx)(N:List Str)(scope:Scope)(C:ai)(s₀:ah)(H₀:Hp)(fp:List ai):Cx:=
 { X with N:=N,s₀:=s₀,H₀:=H₀,env:=compEnvC scope (zjZ X.env scope.names) C X.env,outer:=X.stack,ex:=fp,fn:=λ_=>false,pn:=[],xe:=λ_ _=>False}
def PTs(X:Cx)(ifs:List Expr)(t:TT):Prop:=
 ∀(pins:List (ai×Obj)) (s:ah) (σ:St) (H:Hp) (Q:Bool->Hp->Prop),Inv X pins σ H s->t σ H Q ->
  av (model X.prog X.w) X.A (forIn ifs true λc r=>if r=true then do let ok <- isTrue c X.env (eval c X.env);pure (dy ok)else pure (dy r)) (TP X pins σ Q) X.xe s
def tNoIf:TT:=λ_ H Q=>Q true H
def pts_nil{X:Cx}:PTs X [] tNoIf:=λ_ _ _ H _ I h=>by
 rw[gF];exact ak ⟨H,I,h⟩
def pts_one{X:Cx}{c:Expr}{t:TT}(h:PT X c t):PTs X [c] t:=λpins s σ H Q I hw=>by
 rw[dS,if_pos rfl];refine ae (ae (thn (h pins s σ H Q I hw) λok s1 q=>ak ?_));show av _ _ (forIn ([]:List Expr) ok _) _ _ _;rw[gF];exact ak q
def lcW(fr:List Nat)(tt:TT)(te:TE)(J:It)(σ:St)(H1:Hp)(R:ai->Hp->Prop):Prop:=
 ∀a,H1 a=ab->∃W:Nat->Nat->List V->Hp->Prop,(∃m,W 0 m [] (upd H1 a (.lst [])))/\∀i m ys H,W i m ys H ->
  (J.stop i H/\R a H)\/(J.go i H/\∀x H',J.yld i H x H'->tt (aa x::zfo fr σ) H' λb H2=>
   if b=true then te (aa x::zfo fr σ) H2 λy H3=>H3 a=aa (.lst ys)/\ys.length<aX/\∃m',m'<m/\W (i+1) m' (ys++[y]) (upd H3 a (.lst (ys++[y])))
   else ∃m',m'<m/\W (i+1) m' ys H2)
def tLC(fr:List Nat)(wi:TI)(tt:TT)(te:TE):TE:=λσ H Q=>wi σ H λJ H1=>lcW fr tt te J σ H1 λa H2=>Q (.ref a) H2
section
variable {X:Cx}{N:List Str}{fr:List Nat}{x:Str}{scope:Scope}{pins:List (ai×Obj)}{σ:St}{H:Hp}{s:ah}
def comp_inv(S:CompSc X N fr x scope){fp:List ai}{h₁:aT}{tk:Nat}(I:Inv X pins σ H s)(hf:∀b∈fp,zfx X pins H b)(hfo:∀b∈fp,b<s.heap.objs.size)
  (hns:h₁.Ns s.heap.objs.size λy=>([]:List (Str×af)).reverse.lookup y) (old:∀b o,s.heap.get? b=aa o->h₁.get? b=aa o) :
  Inv (cxC X N scope s.heap.objs.size s H fp) [] (ab::zfo fr σ) H { s with heap:=h₁,toks:=tk}:=by
 have sub:∀y c,(zjZ X.env scope.names).lookup y=aa c->X.env.cells.lookup y=aa c:=ziu scope.names [] (λ_ _ z=>by cases z);have has:∀y,(y,bB)∈scope.names->∃c,(zjZ X.env scope.names).lookup y=aa c:=λy hy=>cl_has scope.names [] y (I.ok.has y (S.free _ hy rfl)) (.inr hy);have celK:∀c v,s.heap.IsCell c v->h₁.IsCell c v:=λc v ⟨o,ho,hd⟩=>⟨o,old c o ho,hd⟩
 have hlen:N.length=fr.length+1:=by
  have:=congrArg fQ S.nm;simpa using this
 refine⟨⟨I.ok.mod,S.kind,I.ok.glob,I.ok.blt,am _,λy z c h1 h2=>I.ok.inj y z c (sub y c h1) (sub z c h2),λy hy=>?_,λy c hy _=>(by cases hy),I.ok.hd,I.ok.frames,.inl rfl,λb hb=>⟨aL (hfo b hb),λy c e=>(hf b hb).2.2.2.2.1 y c (sub y c e)⟩,
  I.bs,aS I.ok.bsz I.sz,λb o e hb=>?_,λb hb hfs=>?_,I.stack,I.stkFree⟩,rfl,I.bare,Un.kept old,⟨_,hns,λi y v e1 e2 e3=>?_⟩,λy c e=>?_,I.hok.fresh (am _),λy c e=>I.freeC y c (sub y c e),λp hp=>absurd (show p∈([]:List (ai×Obj))from hp) (by simp),I.hok.kept old,?_⟩
 ·exact has y (bW (zef S.ncell hy))
 ·rcases (hf b hb).2.2.2.1 with z|z
  ·exact I.ok.noex b o e z
  ·exact absurd (aW (aC e) (aS I.ok.bsz z)) (bK _)
 ·rcases aF.mp (I.stkSub b hfs)with z|z
  ·exact(hf b hb).2.1 z
  ·exact(hf b hb).2.2.1 z
 ·cases i with
  |zero=>simp at e2
  |succ j=>
   have e1':N[j+1]? =aa y:=e1;have q1:(N.map aa)[j+1]? =aa (aa y):=by rw[aB,e1'];rfl
   rw[S.nm,fI,aB]at q1;have e2':(zfo fr σ)[j]? =aa (aa v):=by simpa using e2
   unfold zfo at e2';rw[aB]at e2';cases q:fr[j]? with
   |none=>rw[q]at q1;cases q1
   |some i'=>
    rw[q]at q1 e2';have n1:X.N[i']? =aa y:=aR q1;have n2:(σ[i']?).join=aa v:=aR e2';have n3:σ[i']? =aa (aa v):=by
     cases q':σ[i']? with
     |none=>rw[q']at n2;cases n2
     |some o=>rw[q']at n2;rw[show o=aa v from n2]
    have hy:y∈N.tail:=by
     have:N.tail[j]? =aa y:=by rw[List.getElem?_tail];exact e1'
     exact bR this
    have hfree:scope.names.lookup y=aa .free:=zaU (bH.mp S.nf y hy);have hk:=S.free _ (bW hfree) rfl;obtain⟨m,hn,hl⟩:=I.loc;obtain⟨u,r,l⟩:=hl i' y v n1 n3 (hk.elim (λz=>.inr (.inl z)) λz=>.inr (.inr z));refine⟨u,r,.inr ⟨zed hfree,?_⟩⟩;rcases l with ⟨k,_⟩|⟨k,c,ec,hc⟩
    ·rcases hk with z|z <;> (rw[show X.env.kindOf y=aa .local from k]at z;cases z)
    ·obtain⟨c',ec'⟩:=has y (bW hfree);have:c'=c:=aR ((sub y c' ec').symm.trans ec);rw[this]at ec';exact⟨c,ec',celK c _ hc⟩
 ·obtain⟨v,z⟩:=I.cell y c (sub y c e);exact⟨v,celK c v z⟩
 ·show(ab::zfo fr σ).length=N.length;rw[hlen];simp[zfo]
def zgK{fp:List ai}{σ':St}{pins':List (ai×Obj)}{H':Hp}{s':ah}{C:ai}(I:Inv X pins σ H s)(hf:∀b∈fp,zfx X pins H b)(J:Inv (cxC X N scope C s H fp) pins' σ' H' s'):Inv X pins σ H' s':=
 Inv.call' (ch:=fp) I J.os J.base J.hok J.bare λb hb=>⟨(hf b hb).2.2.2.1,(hf b hb).2.1,(hf b hb).2.2.2.2.1,(hf b hb).2.2.2.2.2⟩
end
section
variable {X:Cx}{N:List Str}{fr:List Nat}{x:Str}{scope:Scope}{iter elt:Expr}{ifs:List Expr}{px pos:Pos}{wi:TI}{te:TE}{tt:TT}
def comp_core(S:CompSc X N fr x scope)(hc:X.calm=true)
  (ht:∀(C:ai) (s₀:ah) (H₀:Hp) (fp:List ai),PTs (cxC X N scope C s₀ H₀ fp) ifs tt) (he:∀(C:ai) (s₀:ah) (H₀:Hp) (fp:List ai),PE (cxC X N scope C s₀ H₀ fp) elt te)
  {pins:List (ai×Obj)} {σ:St} {H3:Hp} {s3:ah} {R:ai->Hp->Prop} {RR:af->ai->Result->ah->Prop} {it D:ai} {fp:List ai} {tn:Nat->aT->Prop} {J:It} {h₁:aT} {o₁:Obj} {tk:Nat} {W:Nat->Nat->List V->Hp->Prop}
  (I3:Inv X pins σ H3 s3) (T:Turn X.prog X.w X.K (.Name x px) J fp it tn) (st3:tn 0 s3.heap) (hf3:∀b∈fp,zfx X pins H3 b) (hns₁:h₁.Ns s3.heap.objs.size λy=>([]:List (Str×af)).reverse.lookup y) (hsb₁:dJ s3.heap.objs.size (s3.heap.push o₁) h₁)
  (w0:∃ m,W 0 m [] H3) (turn:∀ i m ys H,W i m ys H ->
   (J.stop i H/\R D H)\/(J.go i H/\∀x H',J.yld i H x H'->tt (aa x::zfo fr σ) H' λb H2=>
    if b=true then te (aa x::zfo fr σ) H2 λy H3=>H3 D=aa (.lst ys)/\ys.length<aX/\∃m',m'<m/\W (i+1) m' (ys++[y]) (upd H3 D (.lst (ys++[y])))
    else ∃m',m'<m/\W (i+1) m' ys H2))
  (hRR:∀(D C:ai) (H':Hp) (s':ah) (m:Str->Option af),s'.heap.Ns C m->C≠X.env.locals->H' C=ab->X.s₀.heap.objs.size<=C->(∀y c,X.env.cells.lookup y=aa c->c≠C)->(∀p∈X.pn++pins,p.1≠C)->Inv X pins σ H' s'->R D H'->RR (.ref D) C (.ok .next) s') :
  codeAny (model X.prog X.w) X.A (.compStart (.ListComp elt [⟨.Name x px,iter,ifs,0⟩] scope pos) 0 (.ref it) (.ref D) (compEnvC scope (zjZ X.env scope.names) s3.heap.objs.size X.env)) (RR (.ref D) s3.heap.objs.size) { s3 with heap:=h₁,toks:=tk}:=by
 obtain⟨m0,w0⟩:=w0;have hfo3:∀b∈fp,b<s3.heap.objs.size:=λb hb=>by
  obtain⟨o,e,_⟩:=T.obj 0 _ st3 b hb;exact aC e
 have old:∀b o,s3.heap.get? b=aa o->h₁.get? b=aa o:=λb o e=>hsb₁.extBut b o (aL (aC e)) (aj _ e);have st1:tn 0 h₁:=T.keep 0 s3.heap h₁ st3 λb hb o e=>old b o e;have stat:∀{pins':List (ai×Obj)} {H':Hp},(∀b∈fp,H' b=ab)->(∀b∈fp,∀p∈pins',p.1≠b)->∀b∈fp,zfx (cxC X N scope s3.heap.objs.size s3 H3 fp) pins' H' b:=fun {pins' H'} hn hp b hb=>by
  refine⟨hn b hb,aL (hfo3 b hb),λz=>?_,.inl hb,λy c e=>(hf3 b hb).2.2.2.2.1 y c (ziu scope.names [] (λ_ _ z=>by cases z) y c e),λp hp'=>hp b hb p (by simpa [cxC] using hp')⟩;rcases aF.mp (I3.stkSub b z)with z|z
  ·exact(hf3 b hb).2.1 z
  ·exact(hf3 b hb).2.2.1 z
 have loop:∀s4:ah,Inv (cxC X N scope s3.heap.objs.size s3 H3 fp) [] (ab::zfo fr σ) H3 s4->tn 0 s4.heap ->
   codeAny (model X.prog X.w) X.A (.compLoop (.ListComp elt [⟨.Name x px,iter,ifs,0⟩] scope pos) 0 (.ref it) (.ref D) (compEnvC scope (zjZ X.env scope.names) s3.heap.objs.size X.env)) (RR (.ref D) s3.heap.objs.size) s4:=by
  intro s4 I4 st4;refine codeAny_compLoop_tests (λn s'=>∃i ys H' v0,Inv (cxC X N scope s3.heap.objs.size s3 H3 fp) [] (v0::zfo fr σ) H' s'/\tn i s'.heap/\(∀b∈fp,H' b=ab)/\W i n ys H') ?_ m0
   ⟨0,[],_,ab,I4,st4,λb hb=>(hf3 b hb).1,w0⟩
  rintro n s5 ⟨i,ys,H5,v0,I5,st5,fr5,w5⟩;rcases turn i n ys H5 w5 with ⟨stop,qn⟩|⟨go,step⟩
  ·refine cf (T.done (cxC X N scope s3.heap.objs.size s3 H3 fp) rfl rfl rfl hc i [] s5 _ H5 (λ_ _=>False) I5 (stat fr5 (by simp)) st5 stop) (λr s6 hr6=>?_) λ_ _ z=>z.elim;obtain⟨hr,I6⟩:=hr6;subst hr;obtain⟨m,hn,_⟩:=id I6.loc;refine hRR _ _ H5 s6 m hn ?_ I6.free ?_ ?_ ?_ (zgK I3 hf3 I6) qn
   ·exact eV I3.lt
   ·exact I3.sz
   ·intro y c e z;obtain⟨v,q⟩:=I3.cell y c e;exact absurd q.lt (by rw[z];exact bK _)
   ·intro p hp z;exact absurd (aC (I3.pin p hp).1) (by rw[z];exact bK _)
  ·refine cf (T.item (cxC X N scope s3.heap.objs.size s3 H3 fp) rfl rfl rfl hc i [] s5 _ H5 (λ_ _=>False) I5 (stat fr5 (by simp)) st5 go) (λr s6 hr6=>?_) λ_ _ z=>z.elim;obtain⟨u,hr,h6⟩:=hr6;subst hr;show av _ _ (assign (.Name x px) _ u) _ _ s6;have el:∀env:Env,(assign (.Name x px) env u)=(letOwnedTupleGo (.Name x px) (.ref it) u >>= λ_=>assign (.Name x px) env u):=λenv=>by
    rw[show letOwnedTupleGo (.Name x px) (.ref it) u=pure ()from rfl,pure_bind]
   rw[el];refine ae (cf h6 (λ_ s7 h7=>?_) λ_ _ z=>z.elim);obtain⟨y,H7,I7,r7,y7,st7,fr7⟩:=h7;have I7':=I7.pinned (stat fr7 (by simp)) (T.obj _ _ st7);have lx:(relabel scope X.env).names.lookup x=aa .local:=lookup_relabel_local S.tg;have hN0:N[0]? =aa x:=by
    have:=congrArg (λl=>l[0]?) S.nm;simp only[aB,fJ]at this;cases q:N[0]? with
    |none=>rw[q]at this;cases this
    |some z=>rw[q]at this;exact aR this
   refine wpAny_assign_Name (zhj (i:=0) (v:=y) I7' S.nd hN0 (.inl lx) r7 (λs8 I8=>?_) (.inr lx));have I8':Inv (cxC X N scope s3.heap.objs.size s3 H3 fp) ([]++zf5 fp s7.heap) (aa y::zfo fr σ) H7 s8:=I8;refine cf (ht _ _ _ _ _ s8 _ H7 _ I8' (step y H7 y7)) (λok s9 h9=>?_) λ_ _ z=>z.elim;obtain⟨H9,I9,q9⟩:=h9;have again:∀{s':ah} {H':Hp},Inv (cxC X N scope s3.heap.objs.size s3 H3 fp) ([]++zf5 fp s7.heap) (aa y::zfo fr σ) H' s' ->
     Inv (cxC X N scope s3.heap.objs.size s3 H3 fp) [] (aa y::zfo fr σ) H' s'/\tn (i+1) s'.heap/\∀b∈fp,H' b=ab:=fun {s' H'} I'=>by
    refine⟨I'.unpinned,T.keep _ _ _ st7 λb hb o e=>(I'.pin (b,o) (aI _ (aI _ (zc1 hb e)))).1,λb hb=>?_⟩;obtain⟨o,e,d⟩:=T.obj _ _ st7 b hb;exact(I'.pin (b,o) (aI _ (aI _ (zc1 hb e)))).2.1
   cases ok with
   |false=>
    rw[if_neg aP]at q9 ⊢;obtain⟨m',hm,w9⟩:=q9;obtain⟨a1,a2,a3⟩:=again I9;exact⟨m',hm,i+1,ys,H9,aa y,a1,a2,a3,w9⟩
   |true=>
    rw[if_pos rfl]at q9 ⊢;refine cf (he _ _ _ _ _ s9 _ H9 _ I9 q9) (λzv s10 h10=>?_) λ_ _ z=>z.elim;obtain⟨z,H10,I10,rz,hz,hlt,m',hm,w10⟩:=h10;refine cf (ze8 (X:=cxC X N scope s3.heap.objs.size s3 H3 fp) _ s10 _ H10 (.ref D) [z] (.ref D) [zv] (λ_ H'=>H'=upd H10 D (.lst (ys++[z]))) I10 rfl (.cons rz .nil)
     ⟨_,ys,z,rfl,rfl,hz,hlt,rfl⟩) (λ_ s11 h11=>?_) λ_ _ z=>z.elim
    obtain⟨_,H11,I11,_,e11⟩:=h11;subst e11;obtain⟨a1,a2,a3⟩:=again I11;exact⟨m',hm,i+1,ys++[z],_,aa y,a1,a2,a3,w10⟩
 have I4:=comp_inv S (tk:=tk) I3 hf3 hfo3 hns₁ old;exact codeAny_compStart_list (loop _ I4 st1) (T.self _ 0 _ _ _ st1 (loop _ I4 st1))
def zjA(S:CompSc X N fr x scope)(hc:X.calm=true)
  (ht:∀(C:ai) (s₀:ah) (H₀:Hp) (fp:List ai),PTs (cxC X N scope C s₀ H₀ fp) ifs tt) (he:∀(C:ai) (s₀:ah) (H₀:Hp) (fp:List ai),PE (cxC X N scope C s₀ H₀ fp) elt te)
  {pins:List (ai×Obj)} {σ:St} {H:Hp} {s:ah} {R:ai->Hp->Prop} {RR:af->ai->Result->ah->Prop} {it:ai} {fp:List ai} {tn:Nat->aT->Prop} {J:It} {E:af->ah->Prop}
  (I:Inv X pins σ H s) (T:Turn X.prog X.w X.K (.Name x px) J fp it tn) (st:tn 0 s.heap) (hf:∀b∈fp,zfx X pins H b) (h:lcW fr tt te J σ H R)
  (hRR:∀(D C:ai) (H':Hp) (s':ah) (m:Str->Option af),s'.heap.Ns C m->C≠X.env.locals->H' C=ab->X.s₀.heap.objs.size<=C->(∀y c,X.env.cells.lookup y=aa c->c≠C)->(∀p∈X.pn++pins,p.1≠C)->Inv X pins σ H' s'->R D H'->RR (.ref D) C (.ok .next) s') :
  av (model X.prog X.w) X.A (newList []) (λacc s₃=>av (model X.prog X.w) X.A (newFunctionEnv scope X.env.globals (zjZ X.env scope.names) [] X.env.qual ab .none (aa X.env)) (λcenv s₄=>
   codeAny (model X.prog X.w) X.A (.compStart (.ListComp elt [⟨.Name x px,iter,ifs,0⟩] scope pos) 0 (.ref it) acc { cenv with scope:=relabel scope X.env}) (RR acc cenv.locals) s₄) E s₃) E s:=by
 refine wpAny_newObj_type (wpAny_newFunctionEnv S.ncell (by intro y hy;simp at hy) (λh₁ hns₁ hsb₁=>?_) S.kind);have hD:H s.heap.objs.size=ab:=I.hok.fresh (am _);obtain⟨W,w0,turn⟩:=h _ hD;have I3:Inv X pins σ (upd H s.heap.objs.size (.lst [])) { s with heap:=s.heap.push { cls:=.type "list",dict:=ab,data:=.seq ([]:List af).toArray}}:=
  I.laid (t':=s.toks) (λb o e=>aj _ e) (am _) ⟨aU _,[],_,.nil,ay _ rfl⟩
 have hfo:∀b∈fp,b<s.heap.objs.size:=λb hb=>by
  obtain⟨o,e,_⟩:=T.obj 0 _ st b hb;exact aC e
 have hf3:∀b∈fp,zfx X pins (upd H s.heap.objs.size (.lst [])) b:=λb hb=>by
  obtain⟨f0,f1⟩:=hf b hb;exact⟨by rw[zar (aL (hfo b hb))];exact f0,f1⟩
 exact comp_core S hc ht he I3 T (T.keep 0 s.heap _ st λb hb o e=>aj _ e) hf3 hns₁ hsb₁ w0 turn hRR
def CompSc.clos(S:CompSc X N fr x scope){pins:List (ai×Obj)}{σ:St}{H:Hp}{s:ah}(I:Inv X pins σ H s):closureFor scope X.env=pure (zjZ X.env scope.names):=
 zgW λy hy e=>I.ok.has y.1 (S.free y hy e)
def pe_lc(S:CompSc X N fr x scope)(hc:X.calm=true)(hi:PI X (.Name x px) iter wi)
  (ht:∀(C:ai) (s₀:ah) (H₀:Hp) (fp:List ai),PTs (cxC X N scope C s₀ H₀ fp) ifs tt) (he:∀(C:ai) (s₀:ah) (H₀:Hp) (fp:List ai),PE (cxC X N scope C s₀ H₀ fp) elt te)
  (hs:∀z,ci iter X.env z=pure z:=by intro _;rfl):PE X (.ListComp elt [⟨.Name x px,iter,ifs,0⟩] scope pos) (tLC fr wi tt te):=by
 intro pins s σ H Q I h;rw[eval_ListComp];refine wpAny_comprehension_free (use:=ab) (cl:=zjZ X.env scope.names) rfl hs (S.clos I) S.kind S.loc (thn (hi pins s σ H _ I h) λxv s1 h1=>thn h1 λitv s2 h2=>?_);obtain⟨it,fp,tn,J,H2,e,I2,T,st2,f2,q⟩:=h2;subst e;refine zjA (RR:=λacc C=>compPost (model X.prog X.w) X.A X.xe ab (EP X pins σ Q) acc C) S hc ht he I2 T st2 f2 q ?_;intro D C H' s' m hn c1 c2 c3 c4 c5 I' r;refine⟨m,hn,λh' hsb=>⟨.ref D,H',?_,rfl,r⟩⟩;exact I'.turned (t':=s'.toks) (λb o hb e=>(hsb.2 b hb).trans e) c2 c1 (.inr c3) c4 c5
def ps_setlc{i:Nat}{y:Str}{py spos:Pos}(hN:X.N.Nodup)(hi':X.N[i]? =aa y)(hy:Loc X.env.scope y)(S:CompSc X N fr x scope)(hc:X.calm=true)(hi:PI X (.Name x px) iter wi)
  (ht:∀(C:ai) (s₀:ah) (H₀:Hp) (fp:List ai),PTs (cxC X N scope C s₀ H₀ fp) ifs tt) (he:∀(C:ai) (s₀:ah) (H₀:Hp) (fp:List ai),PE (cxC X N scope C s₀ H₀ fp) elt te)
  (hsw:swapsWith (.ListComp elt [⟨.Name x px,iter,ifs,0⟩] scope pos) (aa (.Name y py)) spos.line X.env=pure true:=by rfl)
  (hs:∀z,ci iter X.env z=pure z:=by intro _;rfl)
  (hf:X.fn y=true\/X.env.scope.names.lookup y=aa .local:=by first|exact .inl rfl|exact .inr rfl|assumption) :
  PS X (.Assign [.Name y py] (.ListComp elt [⟨.Name x px,iter,ifs,0⟩] scope pos) spos) (tAsg (tLC fr wi tt te) (zhb i)):=by
 intro pins s σ H D I h;rw[exec_Assign_Name_used _ _ _ _ hsw];refine ae (wpAny_standAt (ae ?_));show av _ X.A (do let _ <- comprehension (.ListComp elt [⟨.Name x px,iter,ifs,0⟩] scope pos) scope X.env _ (newList []) false (eval iter X.env) (aa (assign (.Name y py) X.env))) _ _ s;refine ae (cf (wpAny_comprehension_free (use:=aa (assign (.Name y py) X.env)) (cl:=zjZ X.env scope.names) (Q:=λ_ s'=>SP X pins D .next s') rfl hs (S.clos I) S.kind S.loc
  (thn (hi pins s σ H _ I h) λxv s1 h1=>thn h1 λitv s2 h2=>?_)) (λ_ s' hq=>ak (ak hq)) λ_ _ e=>e)
 obtain⟨it,fp,tn,J,H2,e,I2,T,st2,f2,q⟩:=h2;subst e;refine zjA (RR:=λacc C=>compPost (model X.prog X.w) X.A X.xe (aa (assign (.Name y py) X.env)) (λ_ s'=>SP X pins D .next s') acc C) S hc ht he I2 T st2 f2 q ?_;intro D' C H' s' m hn c1 c2 c3 c4 c5 I' r;show av _ _ (assign (.Name y py) X.env (.ref D')) _ _ s';refine wpAny_assign_Name (zin (v:=.ref D') I' hN hi' hy rfl (λs'' I'' hc'=>?_) hf);obtain⟨c,hsb,hcc⟩:=hc';have hne:C≠c:=by
  rcases hcc with z|z
  ·rw[z];exact c1
  ·exact λe=>c4 y c z e.symm
 refine⟨m,hn.sameBut hsb hne,λh' hsb'=>⟨_,H',?_,r⟩⟩;exact I''.turned (t':=s''.toks) (λb o hb e=>(hsb'.2 b hb).trans e) c2 c1 (.inr c3) c4 c5
end
end L2

namespace L2
open PySem PySem.Spec PyProof.Rows
def Same.alloc{H:Hp}{p:ai}{o:HO}(h:H p=ab):Same H (upd H p o):=λb u e=>by rw[zar (zaC e h)];exact e
def kTup(H:Hp)(zs:List V)(Q:VK):Prop:=∀a H',Same H H'->H' a=aa (.tup zs)->Q (.ref a) H'
section
variable {X:Cx}
def op_catTU:OpR X (binaryOp .Add) (λx y H Q=>∃a b xs ys,x=.ref a/\y=.ref b/\H a=aa (.tup xs)/\H b=aa (.tup ys)/\xs.length+ys.length<=aX/\kTup H (xs++ys) Q):=by
 intro pins s σ H x y v u Q I rx ry h;obtain⟨a,b,xs,ys,rfl,rfl,ha,hb,hz,q⟩:=h;by_cases hx:xs=[]
 ·subst hx;cases rx;cases ry;obtain⟨its,r1,p1,_⟩:=I.tuple (SqT.of ha);obtain⟨its2,r2,p2,_⟩:=I.tuple (SqT.of hb);obtain⟨⟨cls,dd,data,sl⟩,ho,hc,n,hd⟩:=id p1;obtain⟨⟨cls2,dd2,data2,sl2⟩,ho2,hc2,n2,hd2⟩:=id p2;simp only at hc hd hc2 hd2;subst hc hd hc2 hd2;have e:its=[]:=r1.nil_iff.mpr rfl;exact concat_meets ⟨_,ho,rfl⟩ ⟨_,ho2,rfl⟩ noFill_tuple_add seq_tuple_add fR fH (eW _ _)
   (tuple_addW0 a b its.toArray its2.toArray n n2 dd dd2 sl sl2 (by rw[e];rfl)) ⟨ho,ho2,⟨.ref b,H,I,rfl,q b H (Same.refl H) hb⟩⟩
 ·exact op_catT pins s σ H _ _ v u Q I rx ry ⟨a,b,xs,ys,rfl,rfl,SqT.of ha,SqT.of hb,hx,hz,λe=>q a H (Same.refl H) (by rw[e,bp];exact ha),λ_ p hp=>q p _ (Same.alloc hp) zam⟩
def rIsi(K:ag):List V->Hp->VK->Prop:=λxs H Q=>∃x n t b,xs=[x,.ty n]/\TyOf K H x t/\iZ K t (.type n)=aa b/\Q (.bl b) H
def call_isi:zfv X (.builtin "isinstance") (rIsi X.K):=by
 intro pins s σ H xs us Q I r h;obtain⟨x,n,t,b,rfl,ty,e,q⟩:=h;obtain⟨u,w',rfl,rx,ry⟩:=vals2 r;cases (show w'=cR n from ry);exact isinst_ok I rx ty e λtk=>⟨.bl b,H,I.tok tk,rfl,q⟩
def call_allB(hc:X.calm=true):zfv X (.builtin "all") (λxs H Q=>∃(p:ai) (bs:List Bool),xs=[.ref p]/\SqL X.K H p (bs.map V.bl)/\Q (.bl (bs.all λb=>b)) H):=by
 intro pins s σ H xs us Q I r h;obtain⟨p,bs,rfl,hq,q⟩:=h;obtain⟨u,rfl,rx⟩:=zf4 r;cases rx;obtain⟨its,r',pl,hz⟩:=I.list hq;have hl:=r'.length;rw[aw]at hl;refine call_all_walk (wpAny_pyIter_list pl.isList ?_);have hp:p<s.heap.objs.size:=by obtain⟨o,e,_⟩:=pl.isList;exact aC e
 refine⟨s.heap.objs.size,_,_,_,_,_,λi=>bs.getD i true,rfl,jY (A:=X.A.in1) (I.ok.hd hc) _ p (aL hp) its.toArray,⟨⟨_,ay _ rfl,rfl,rfl⟩,pl.isList.push _⟩,?_,?_⟩
 ·intro i v s' Q' E' hv hQ';have hv':its[i]? =aa v:=by simpa using hv
  have hi:i<bs.length:=by rw[hl];exact(a7.mp hv').1
  have hb:(bs.map V.bl)[i]? =aa (V.bl bs[i]):=by simp[hi]
  obtain⟨u,hu,ru⟩:=r'.get hb;rw[hv']at hu;cases hu;cases (show v=gb bs[i]from ru);have:bs.getD i true=bs[i]:=by simp[hi]
  have hQ2:Q' bs[i] s':=by rw[<- this];exact hQ'
  exact wpAny_truthy_bool hQ2
 ·intro h' tk kp;have e:((au its.toArray.size).all λi=>bs.getD i true)=bs.all λb=>b:=by
   rw[a9,<- hl];rw[eQ,bH,bH];constructor
   ·intro h b hb;obtain⟨i,hi,rfl⟩:=gj.mp hb;have:=h i (c8.mpr hi);simpa [hi] using this
   ·intro h i hi;have hi':=c8.mp hi;have:=h bs[i] (eD hi');simpa [hi'] using this
  rw[e];refine⟨.bl _,H,?_,rfl,q⟩;have I1:Inv X pins σ H { s with heap:=s.heap.push { cls:=.type "list_iterator",data:=.fields #[.ref p,.int 0 0]}}:=I.kept (t':=s.toks) λb o e=>aj _ e;exact I.kept (t':=tk) λb o e=>kp b o (by simp only[bn];exact aL (aC e)) (aj _ e)
end
def pe_gl{X:Cx}{x:Str}{v:V}{pos:Pos}(hg:Gl X x)(h:∃u,X.mg x=aa u/\RelV v u)(hd:(x==("__debug__" : Str))=false:=by decide):PE X (.Name x pos) (tC v):=by
 obtain⟨u,hm,r⟩:=h;exact pe_glob hg hm r hd
end L2
namespace HT
open PySem PyProof.Rows
section
variable {prog:aK}{w:aO}{A:aQ}{E:af->ah->Prop}{s:ah}
def getItem_tuple_whole{t sl:ai}{items:Array af}{vl vu:af}{lo hi:Option Int}{Q:af->ah->Prop}(ht:IsTup s.heap t items)(hs:s.heap.IsSliceOf sl vl vu .none)(pl:IsPart vl lo)(pu:IsPart vu hi)
  (hw:sIx items.size 0 lo=0/\sIx items.size items.size hi=items.size) (h:Q (.ref t) s):av (model prog w) A (getItem (.ref t) (.ref sl)) Q E s:=by
 obtain⟨os,hos,hcs,hds⟩:=id hs;have hTs:s.TypeIs (.ref sl) "slice" :=⟨os,hos,hcs⟩
 unfold getItem
 try with_reducible refine cA ?_
 first|refine ae (ak ?_)|skip
 refine ae (wpAny_sequenceKey ht.typeIs (by decide) ?_);refine ae (wpAny_callSpecial?_slot (name:=bT "__getitem__") ht.typeIs bu
  (wpAny_call_entry bu ht.typeIs entry_tuple_getitem ?_ (args_tuple_getitem _ _)))
 show av _ _ (eI (.ref t) >>= _) _ _ s;refine ae (tupleItemsOf_ ht ?_);refine ae (wpAny_typeOf hTs ?_);rw[if_pos (by decide)];refine ae (zd6 hs pl pu ?_);have hyes:(((sIx items.size 0 lo:Nat):Int)==0&&(1:Int)==1&&(sIx items.size items.size hi-sIx items.size 0 lo)==items.size)=true:=by
  rw[hw.1,hw.2];simp
 show av _ _ (if (((sIx items.size 0 lo:Nat):Int)==0&&(1:Int)==1&&(sIx items.size items.size hi-sIx items.size 0 lo)==items.size)=true then _ else _) _ _ s;rw[if_pos hyes];refine ae (m:=gU _) ?_;unfold gU;refine ae (wpAny_typeOf ht.typeIs (ak ?_));rw[if_pos (by decide)];refine ae (wpAny_rule ?_)
 first
  |exact ak ⟨_,rfl,ak h⟩
  |exact ae (ak (ak ⟨_,rfl,ak h⟩))
  |exact ae (ak ⟨_,rfl,ak h⟩)
end
end HT
namespace L2
open PySem PySem.Spec PyProof.Rows
section
variable {X:Cx}
def sl_tupU:SlR X (λx lo hi H Q=>∃a xs,x=.ref a/\H a=aa (.tup xs)/\kTup H (cutV xs lo hi) Q):=by
 intro pins s σ H x v vl vu lo hi sl Q I rx hs pl pu h;obtain⟨a,xs,rfl,hx,q⟩:=h;by_cases hw:HT.sIx xs.length 0 lo=0/\HT.sIx xs.length xs.length hi=xs.length
 ·cases rx;obtain⟨its,r,ht,hz⟩:=I.tuple (SqT.of hx);have hlen:its.toArray.size=xs.length:=by rw[a9];exact r.length.symm
  refine⟨"tuple",_,bu.lookup,ht.typeIs,?_⟩;refine HT.getItem_tuple_whole ht hs pl pu (by rw[hlen];exact hw) ⟨.ref a,H,I,rfl,q a H (Same.refl H) ?_⟩;unfold cutV;rw[hw.1,hw.2];simp[hx]
 ·exact sl_tup pins s σ H _ v vl vu lo hi sl Q I rx hs pl pu ⟨a,xs,rfl,SqT.of hx,hw,λp hp=>q p _ (Same.alloc hp) zam⟩
end
end L2
namespace L2
open PySem PySem.Spec PyProof.Rows
section
variable {X:Cx}{pins:List (ai×Obj)}{σ:St}{H:Hp}{s:ah}{pos:Pos}
end
end L2

namespace L2
open PySem PySem.Spec PyProof.Rows
def zaj:Expr->Bool
 |.Starred _ _=>false
 | _=>true
def zak{e:Expr}{es:List Expr}{env:Env}(h:zaj e=true):aY (e::es) env=(false,eval e env)::aY es env:=by
 cases e <;> first|rfl|(exact absurd h (by decide))|(cases h)
def zcd{env:Env}{pos:Pos}:∀{es:List Expr},es.all zaj=true->(backTo pos (aY es env)).any (·.1)=false
 |[],_=>rfl
 |e::es,h=>by
  rw[eJ,cc]at h;rw[zak h.1];show(false || (backTo pos (aY es env)).any (·.1))=false;rw[zcd h.2];rfl
def zho{env:Env}{pos:Pos}:∀{es:List Expr},es.all zaj=true->(backTo pos (aY es env)).all (λx=>!x.1)=true
 |[],_=>rfl
 |e::es,h=>by
  rw[eJ,cc]at h;rw[zak h.1];show(true&&(backTo pos (aY es env)).all (λx=>!x.1))=true;rw[zho h.2];rfl
section
variable {X:Cx}{e o:Expr}{es:List Expr}{te to:TE}{t:TA}{x:Str}{p pos:Pos}
structure Def(K:ag)(mg:Str->Option af)(x:Str)(st:Stmt)(ps:List Str)(f:ai)(fd:bF):Prop where
 fn:Fun K x x st f fd
 mg:mg x=aa (.ref f)
 b:Binds K fd ps []
def pbm{T id:String}{name:Str}{apos cpos:Pos}{r:V->List V->Hp->VK->Prop}(pa:PlainAttrs T)(slot:Slot T name id)(hty:typeOf (.builtin id)=pure (.type "method_descriptor"))(hm:MtR X id r)(ho:PE X o to)(ha:PA X (e::es) t)
  (hbase:b9 o name X.env (eval o X.env)=eval o X.env:=by rfl) (hl:decide ((e::es).length+0+0<30)=true:=by rfl) (hline:(apos.endLine==cpos.line)=true:=by rfl)
  (h1:zaj e=true:=by rfl) (h2:es.all zaj=true:=by rfl):PE X (.Call (.Attribute o name apos) (e::es) [] cpos) (tBM X.K T r to t):=by
 refine pe_bm pa slot hty hm ho ha hbase ?_ hline (zak h1) (zcd h2);rw[zho (es:=e::es) (by rw[eJ,h1,h2];rfl)];exact hl
end
end L2

namespace L2
open PySem PySem.Spec PyProof.Rows
structure WE(X:Cx)(e:Expr)(t:TE):Prop where
 h:PE X e t
structure WT(X:Cx)(e:Expr)(t:TT):Prop where
 h:PT X e t
structure WW(X:Cx)(e:Expr)(t:TT):Prop where
 h:PW X e t
structure WA(X:Cx)(es:List Expr)(t:TA):Prop where
 h:PA X es t
structure WS(X:Cx)(s:Stmt)(t:TS):Prop where
 h:PS X s t
structure WSs(X:Cx)(s:List Stmt)(t:TS):Prop where
 h:PSs X s t
structure WI(X:Cx)(tg e:Expr)(t:TI):Prop where
 h:PI X tg e t
structure WG(X:Cx)(e:Expr)(t:TG):Prop where
 h:PG X e t
structure WGs(X:Cx)(es:List Expr)(t:TGs):Prop where
 h:PGs X es t
structure WO(X:Cx)(e:Option Expr)(t:TO):Prop where
 h:PO X e t
structure WTs(X:Cx)(es:List Expr)(t:TT):Prop where
 h:PTs X es t
section
variable {X:Cx}{a b c e o:Expr}{es rest:List Expr}{pos pos' p p2:Pos}{ta tb tc te to:TE}{tA tB':TT}{t:TA}{x:Str}{r r':R2}
def wv(i:Nat)(hN:X.N[i]? =aa x:=by rfl)(hv:Vis X.env.scope x:=by first|exact aD rfl|exact bA (aD rfl)|exact bA (bA rfl))(hd:(x==("__debug__" : Str))=false:=by decide)
  (hcd:(x==("__classdict__" : Str))=false:=by decide):WE X (.Name x pos) (tVar i):=⟨pe_var hN hv hd hcd⟩
def wint{i:Int}{j:Nat}:WE X (.Constant (.int i) j pos) (tC (.int i)):=⟨pe_int⟩
def wbl{i:Bool}{j:Nat}:WE X (.Constant (.bool i) j pos) (tC (.bl i)):=⟨pe_bl⟩
def wnon{j:Nat}:WE X (.Constant .none j pos) (tC .non):=⟨pe_non⟩
def wstr{i:Str}{j:Nat}:WE X (.Constant (.str i) j pos) (tC (.str i)):=⟨pe_str⟩
def wgl{v:V}(hg:Gl X x)(h:∃u,X.mg x=aa u/\RelV v u)(hd:(x==("__debug__" : Str))=false:=by decide):WE X (.Name x pos) (tC v):=⟨pe_gl hg h hd⟩
def wbt{n:String}(hg:Gl X x)(hm:X.mg x=ab)(hv:aM x=aa (.type n))(hn:x≠ "__name__" :=by decide)(hd:(x==("__debug__" : Str))=false:=by decide):WE X (.Name x pos) (tC (.ty n)):=⟨pe_bltn (v:=.ty n) hg hm hv rfl hn hd⟩
def wop{op:Operator}(ho:OpR X (binaryOp op) r)(ha:WE X a ta)(hb:WE X b tb):WE X (.BinOp a op b pos) (tOp r ta tb):=⟨pe_op ho ha.h hb.h⟩
def wun{op:UnaryOp}{q:V->Hp->VK->Prop}(ho:UnR X (unaryOp op) q)(ha:WE X a ta):WE X (.UnaryOp op a pos) (tUn q ta):=⟨pe_un ho ha.h⟩
def wcmp{op:CmpOp}(ho:OpR X (bC op) r)(ha:WE X a ta)(hb:WE X b tb)(hm:behindInMarks op b=false):WE X (.Compare a [op] [b] pos) (tOp r ta tb):=⟨pe_cmpR ho ha.h hb.h hm⟩
def wone{op:BoolOp}(h:WE X a ta):WE X (.BoolOp op [a] pos) ta:=⟨pe_one h.h⟩
def wand(ha:WE X a ta)(hb:WE X (.BoolOp .And (b::rest) pos) tb):WE X (.BoolOp .And (a::b::rest) pos) (tAndV ta tb):=⟨pe_and ha.h hb.h⟩
def wor(ha:WE X a ta)(hb:WE X (.BoolOp .Or (b::rest) pos) tb):WE X (.BoolOp .Or (a::b::rest) pos) (tOrV ta tb):=⟨pe_or ha.h hb.h⟩
def wnotV(ha:WE X a ta):WE X (.UnaryOp .Not a pos) (tNotV ta):=⟨pe_not ha.h⟩
def wif(hc:WT X c tA)(ha:WE X a ta)(hb:WE X b tb):WE X (.IfExp c a b pos) (tIf tA ta tb):=⟨pe_ifExp hc.h ha.h hb.h⟩
def wtup{x1:Nat}(h:WA X es t):WE X (.Tuple es x1 pos) (tTup t):=⟨pe_tup h.h⟩
def wlst(h:WA X es t):WE X (.List es pos) (tLst t):=⟨pe_lst h.h⟩
def wix{r:R2}(hr:IxR X r)(ha:WE X a ta)(hb:WE X b tb)(hs:zjm b):WE X (.Subscript a b pos) (tOp r ta tb):=⟨pe_ix hr ha.h hb.h hs⟩
def wslice{lo hi:Option Expr}{tl th:TO}{r:V->Option Int->Option Int->Hp->VK->Prop}(hr:SlR X r)(he:WE X e te)(hl:WO X lo tl)(hu:WO X hi th):WE X (.Subscript e (.Slice lo hi ab p2) pos) (tSl r te tl th):=⟨pe_slice hr he.h hl.h hu.h⟩
def wnil:WA X [] tNil:=⟨pa_nil⟩
def wac(ha:WE X e te)(hr:WA X es t)(h:zaj e=true:=by rfl):WA X (e::es) (tCons te t):=⟨zjk ha.h hr.h (zak h)⟩
def won:WO X ab tNoPart:=⟨po_none⟩
def wos(h:WE X e te):WO X (aa e) (tPart te):=⟨po_some h.h⟩
def wcb{id:String}{r:List V->Hp->VK->Prop}(hc:zfv X (.builtin id) r)(hg:Gl X x)(hm:X.mg x=ab)(hv:aM x=aa (.builtin id))(ha:WA X (e::es) t)(hn:x≠ "__name__" :=by decide)(hdb:(x==("__debug__" : Str))=false:=by decide)
  (h1:zaj e=true:=by rfl) (h2:es.all zaj=true:=by rfl):WE X (.Call (.Name x p) (e::es) [] pos) (tCB r t):=⟨pe_callB hc hg hm hv ha.h hn hdb (zak h1) (zcd h2)⟩
def wct{T:String}{r:List V->Hp->VK->Prop}(hc:zfv X (.type T) r)(hg:Gl X x)(hm:X.mg x=ab)(hv:aM x=aa (.type T))(ha:WA X (e::es) t)(hn:x≠ "__name__" :=by decide)(hdb:(x==("__debug__" : Str))=false:=by decide)
  (h1:zaj e=true:=by rfl) (h2:es.all zaj=true:=by rfl):WE X (.Call (.Name x p) (e::es) [] pos) (tCB r t):=⟨pe_callTy hc hg hm hv ha.h hn hdb (zak h1) (zcd h2)⟩
def wcl{CX:CXT}{k j:Nat}{f:ai}{fd:bF}{ps:List Str}{sp:Sp}{st:Stmt}{E:XK}(F:FnOk X.prog X.w X.K X.mg X.base CX k f fd ps sp)(D:Def X.K X.mg x st ps f fd)(hr:Room j X.A)(hg:Gl X x)(hx:zcK CX X E)
  (ha:WA X (e::es) t) (hjk:k<=j:=by decide) (hdb:(x==("__debug__" : Str))=false:=by decide) (h1:zaj e=true:=by rfl) (h2:es.all zaj=true:=by rfl) :
  WE X (.Call (.Name x p) (e::es) [] pos) (tCall sp [] E t):=⟨zi7 F (hr.mono hjk) hg D.mg D.fn.kp D.b .nil hx ha.h hdb (zak h1) (zcd h2)⟩
def wbm{T id:String}{name:Str}{apos cpos:Pos}{r:V->List V->Hp->VK->Prop}(pa:PlainAttrs T)(slot:Slot T name id)(hty:typeOf (.builtin id)=pure (.type "method_descriptor"))(hm:MtR X id r)(ho:WE X o to)(ha:WA X (e::es) t)
  (hbase:b9 o name X.env (eval o X.env)=eval o X.env:=by rfl) (hl:decide ((e::es).length+0+0<30)=true:=by rfl) (hline:(apos.endLine==cpos.line)=true:=by rfl)
  (h1:zaj e=true:=by rfl) (h2:es.all zaj=true:=by rfl):WE X (.Call (.Attribute o name apos) (e::es) [] cpos) (tBM X.K T r to t):=⟨pbm pa slot hty hm ho.h ha.h hbase hl hline h1 h2⟩
def tcmp{op:CmpOp}(ho:OpR X (bC op) r)(ha:WE X a ta)(hb:WE X b tb)(hm:behindInMarks op b=false):WT X (.Compare a [op] [b] pos) (tTest (tOp r ta tb)):=⟨pt_cmpR ho ha.h hb.h hm⟩
def tand1(ha:WT X a tA):WW X (.BoolOp .And [a] pos) tA:=⟨pw_and1 ha.h⟩
def tor1(ha:WT X a tA):WW X (.BoolOp .Or [a] pos) tA:=⟨pw_or1 ha.h⟩
def tand(ha:WT X a tA)(hb:WW X (.BoolOp .And (b::rest) pos) tB'):WW X (.BoolOp .And (a::b::rest) pos) (tAnd tA tB'):=⟨pw_and ha.h hb.h⟩
def tor(ha:WT X a tA)(hb:WW X (.BoolOp .Or (b::rest) pos) tB'):WW X (.BoolOp .Or (a::b::rest) pos) (tOr tA tB'):=⟨pw_or ha.h hb.h⟩
def tw(h:WW X a tA):WT X a tA:=⟨h.h.pt⟩
def tnot(ha:WT X a tA):WT X (.UnaryOp .Not a pos) (tNot tA):=⟨pt_not ha.h⟩
def tval(h:WE X e te)(he:∀whole,isTrue e X.env whole=(do let v <- whole;standAt e.pos;holding [v] (truthy v)):=by intro _;rfl):WT X e (tB te):=⟨pt_val h.h he⟩
def ifs0:WTs X [] tNoIf:=⟨pts_nil⟩
def ifs1(h:WT X c tA):WTs X [c] tA:=⟨pts_one h.h⟩
end
section
variable {X:Cx}{e c tg iter:Expr}{es:List Expr}{pos pos' p:Pos}{te:TE}{tc:TT}{ta:TA}{x:Str}{st:Stmt}{sr body els:List Stmt}{t u tb:TS}{wi:TI}{g:TG}{gs:TGs}
def il(h:WE X e te):WI X tg e (iList X.K te):=⟨pi_list h.h⟩
def it(h:WE X e te):WI X tg e (iTup X.K te):=⟨pi_tup h.h⟩
def ir1(hg:Gl X "range")(hm:X.mg "range" =ab)(ha:WA X [e] ta)(h1:zaj e=true:=by rfl):WI X tg (.Call (.Name "range" p) [e] [] pos) (iRng1 ta):=⟨pi_range1 hg hm ha.h (zak h1)⟩
def ir2{b:Expr}(hg:Gl X "range")(hm:X.mg "range" =ab)(ha:WA X [e,b] ta)(h1:zaj e=true:=by rfl)(h2:zaj b=true:=by rfl):WI X tg (.Call (.Name "range" p) [e,b] [] pos) (iRng2 ta):=⟨pi_range2 hg hm ha.h (by rw[zak h1,zak h2];rfl) (by rw[zak h2];rfl)⟩
def gn{i:Nat}(hN:X.N.Nodup)(hi:X.N[i]? =aa x)(hx:Loc X.env.scope x)(hf:X.fn x=true\/X.env.scope.names.lookup x=aa .local:=by first|exact .inl rfl|exact .inr rfl|assumption):WG X (.Name x pos) (zhb i):=⟨zjd hN hi hx hf⟩
def gs0:WGs X [] gNil:=⟨pgs_nil⟩
def gs1(h1:WG X e g)(h2:WGs X es gs)(hs:(cH (e::es) X.env).map (·.2)=assign e X.env::(cH es X.env).map (·.2):=by rfl):WGs X (e::es) (gCons g gs):=⟨zhr h1.h h2.h hs⟩
def gt{k n:Nat}(hc:X.calm=true)(h:WGs X es gs)(hn:(cH es X.env).length=n:=by rfl)(hst:(cH es X.env).findIdx? (·.1)=ab:=by rfl):WG X (.Tuple es k pos) (gTup X.K n gs):=⟨pg_tup hc h.h hn hst⟩
def s0:WSs X [] tNext:=⟨pss_nil⟩
def sc(h1:WS X st t)(h2:WSs X sr u):WSs X (st::sr) (tSeq t u):=⟨pss_cons h1.h h2.h⟩
def s1(h1:WS X st t):WSs X [st] t:=⟨pss_one h1.h⟩
def ssn:WSs X sr zjW:=⟨pss_never⟩
def snev:WS X st zjW:=⟨ps_never⟩
def sex(he:WE X e te)(hs:swapsWith e ab pos.line X.env=pure false:=by rfl):WS X (.Expr e pos) (tDrop te):=⟨ps_expr he.h hs⟩
def sret(he:WE X e te):WS X (.Return (aa e) pos) (tRet te):=⟨ps_ret he.h⟩
def sif(hc:WT X c tc)(ha:WSs X body t)(hb:WSs X els u):WS X (.If c body els pos) (tIfS tc t u):=⟨ps_if hc.h ha.h hb.h⟩
def sset{i:Nat}(hN:X.N.Nodup)(hi:X.N[i]? =aa x)(hx:Loc X.env.scope x)(he:WE X e te)(hs:swapsWith e (aa (.Name x pos')) pos.line X.env=pure false:=by rfl)(hf:X.fn x=true\/X.env.scope.names.lookup x=aa .local:=by first|exact .inl rfl|exact .inr rfl|assumption) :
  WS X (.Assign [.Name x pos'] e pos) (tAsg te (zhb i)):=⟨ps_set hN hi hx he.h hs hf⟩
def sasg(he:WE X e te)(hg:WG X tg g)(hs:swapsWithSole [tg] e pos.line X.env=pure false:=by rfl)(hw:swappedStores [tg] e X.env=pure ab:=by rfl)(h1:(cH [tg] X.env).map (·.2)=[assign tg X.env]:=by rfl):WS X (.Assign [tg] e pos) (tAsg te g):=⟨ps_asg he.h hg.h hs hw h1⟩
def sfor(hp:PassesOwn (model X.prog X.w) X.A X.env X.xe)(hc:X.calm=true)(hi:WI X tg iter wi)(hg:WG X tg g)(hb:WSs X body tb)(hs:∀z,ci iter X.env z=pure z:=by intro _;rfl):WS X (.For tg iter body [] pos) (tFor wi g tb):=⟨ps_for hp hc hi.h hg.h hb.h hs⟩
def swhile(hp:PassesOwn (model X.prog X.w) X.A X.env X.xe)(hc:WT X c tc)(hb:WSs X body tb):WS X (.While c body [] pos) (tWhile tc tb):=⟨ps_while hp hc.h hb.h⟩
end
section
variable {X:Cx}{N:List Str}{fr:List Nat}{x:Str}{scope:Scope}{iter elt:Expr}{ifs:List Expr}{px pos:Pos}{wi:TI}{te:TE}{tt:TT}
def wlc(S:CompSc X N fr x scope)(hc:X.calm=true)(hi:WI X (.Name x px) iter wi)
  (ht:∀(C:ai) (s₀:ah) (H₀:Hp) (fp:List ai),WTs (cxC X N scope C s₀ H₀ fp) ifs tt) (he:∀(C:ai) (s₀:ah) (H₀:Hp) (fp:List ai),WE (cxC X N scope C s₀ H₀ fp) elt te)
  (hs:∀z,ci iter X.env z=pure z:=by intro _;rfl):WE X (.ListComp elt [⟨.Name x px,iter,ifs,0⟩] scope pos) (tLC fr wi tt te):=⟨pe_lc S hc hi.h (λC s₀ H₀ fp=>(ht C s₀ H₀ fp).h) (λC s₀ H₀ fp=>(he C s₀ H₀ fp).h) hs⟩
def ssetlc{i:Nat}{y:Str}{py spos:Pos}(hN:X.N.Nodup)(hi':X.N[i]? =aa y)(hy:Loc X.env.scope y)(S:CompSc X N fr x scope)(hc:X.calm=true)(hi:WI X (.Name x px) iter wi)
  (ht:∀(C:ai) (s₀:ah) (H₀:Hp) (fp:List ai),WTs (cxC X N scope C s₀ H₀ fp) ifs tt) (he:∀(C:ai) (s₀:ah) (H₀:Hp) (fp:List ai),WE (cxC X N scope C s₀ H₀ fp) elt te)
  (hsw:swapsWith (.ListComp elt [⟨.Name x px,iter,ifs,0⟩] scope pos) (aa (.Name y py)) spos.line X.env=pure true:=by rfl)
  (hs:∀z,ci iter X.env z=pure z:=by intro _;rfl)
  (hf:X.fn y=true\/X.env.scope.names.lookup y=aa .local:=by first|exact .inl rfl|exact .inr rfl|assumption) :
  WS X (.Assign [.Name y py] (.ListComp elt [⟨.Name x px,iter,ifs,0⟩] scope pos) spos) (tAsg (tLC fr wi tt te) (zhb i)):=
 ⟨ps_setlc hN hi' hy S hc hi.h (λC s₀ H₀ fp=>(ht C s₀ H₀ fp).h) (λC s₀ H₀ fp=>(he C s₀ H₀ fp).h) hsw hs hf⟩
end
end L2

set_option maxRecDepth 100000
set_option maxHeartbeats 4000000
namespace L2
open PySem PySem.Spec PyProof.Rows
def knO(l:ai)(o:Obj):HO:=.ext λh=>h.get? l=aa o
def kBk:af->Key
 |.int i _=>.inl i
 |.str x _=>.inr x
 | _=>.inl 0
def kBk_is{k:Key}{v:af}(h:keyIs k v=true):kBk v=k:=by
 rcases zaX h with ⟨i,t,rfl,rfl⟩|⟨x,t,rfl,rfl⟩ <;> rfl
def vBk:af->V
 |.bool b=>.bl b
 |.int i _=>.int i
 |.str x _=>.str x
 |.bytes b _=>.byt b
 |.float b _=>.flt b
 |.ref a=>.ref a
 |.type n=>.ty n
 | _=>.non
def vBk_rel{v:V}{u:af}(h:RelV v u):vBk u=v:=by
 cases v <;> first|(cases h;rfl)|(obtain⟨_,rfl⟩:=h;rfl)
def DiD(l:ai)(o:Obj)(kvs:List (Key×V)):Prop:=(l==sysModules)=false/\kvs.length<=aX /\
 ∃(P:aK) (w:aO) (es:Array DictEntry) (ep:Nat) (us:List (Key×af)),o.ExactDict/\o.data=.dict es ep/\PySem.KeysOf (zfT P w) es/\Pairs (zfT P w) es.toList us/\(us.map (·.1)).Nodup/\KV kvs us
def kv_back{kvs:List (Key×V)}{us:List (Key×af)}(r:KV kvs us):kvs=us.map λp=>(p.1,vBk p.2):=by
 unfold KV at r
 induction r with
 |nil=>rfl
 |cons h _ ih=>rw[aH,<- ih,<- h.1,vBk_rel h.2]
def zgO{P:aK}{w:aO}{es:List DictEntry}{us:List (Key×af)}(r:Pairs (zfT P w) es us):us=es.map λe=>(kBk e.key,e.val):=by
 induction r with
 |nil=>rfl
 |cons h1 h2 _ ih=>rw[aH,<- ih,kBk_is h1,h2]
def DiD.inj{l:ai}{o:Obj}{kvs kvs':List (Key×V)}(h:DiD l o kvs)(h':DiD l o kvs'):kvs=kvs':=by
 obtain⟨_,_,P,w,es,ep,us,_,h1,_,h2,_,h3⟩:=h;obtain⟨_,_,P',w',es',ep',us',_,h1',_,h2',_,h3'⟩:=h';rw[h1]at h1';cases h1';rw[kv_back h3,kv_back h3',zgO h2,zgO h2']
def knO_inj{l:ai}{o o':Obj}{kvs:List (Key×V)}(h:knO l o=knO l o')(d:DiD l o kvs):o=o':=by
 obtain⟨_,_,_,_,es,ep,_,_,h1,_⟩:=d;have g:=ay ⟨iJ l o,{}⟩ (o:=o) (by cases o;cases h1;rfl);rw[show(⟨iJ l o,{}⟩:aT).objs.size=l from Array.size_replicate]at g;have z:=congrFun (HO.ext.inj h) ((⟨iJ l o,{}⟩:aT).push o);exact aR (g.symm.trans (z.mp g))
end L2

namespace L3
open PySem PySem.Spec PyProof.Rows L2
inductive D where
 |non|bl (b:Bool)|int (i:Int)|str (x:Str)|tup (l:List D)|lst (l:List D)|dic (ks:List Str) (l:List D)|ins (C:ai) (ns:List Str) (l:List D)|dcI (ks:List Int) (l:List D)|dcS (ks:List Str) (l:List D)
inductive OT where
 |val (d:D)|lst (l:List D)|ins (c:Str) (ns:List Str) (l:List OT)|dcI (ks:List Int) (l:List OT)|dcS (ks:List Str) (l:List OT)|los (l:List OT)
inductive Ent where
 |val (d:D)|own (l:List D)|bor (l:List D)|vw (l:List D)|obj (o:OT)|bt (l:List D)
abbrev En:=List (Option Ent)
abbrev Sg:=L2.St
mutual
inductive Rep(F:Hp):V->D->Prop
 |non:Rep F .non .non
 |bl (b:Bool):Rep F (.bl b) (.bl b)
 |int (i:Int):Rep F (.int i) (.int i)
 |str (x:Str):Rep F (.str x) (.str x)
 |tup {a:ai} {vs:List V} {ds:List D}:F a=aa (.tup vs)->Reps F vs ds->Rep F (.ref a) (.tup ds)
 |lst {a:ai} {vs:List V} {ds:List D}:F a=aa (.lst vs)->Reps F vs ds->Rep F (.ref a) (.lst ds)
 |dic {a:ai} {o:Obj} {ks:List Str} {vs:List V} {ds:List D}:F a=aa (.frz o (.dK ((ks.map fw).zip vs)))->ks.length=vs.length->Reps F vs ds->Rep F (.ref a) (.dic ks ds)
 |ins {a C dx:ai} {ns:List Str} {vs:List V} {ds:List D}:F a=aa (.ins C dx (ns.zip vs))->ns.length=vs.length->Reps F vs ds->Rep F (.ref a) (.ins C ns ds)
 |dcI {a:ai} {o:Obj} {ks:List Int} {vs:List V} {ds:List D}:F a=aa (knO a o)->DiD a o ((ks.map f6).zip vs)->ks.length=vs.length->Reps F vs ds->Rep F (.ref a) (.dcI ks ds)
 |dcS {a:ai} {ks:List Str} {vs:List V} {ds:List D}:F a=aa (.dK ((ks.map fw).zip vs))->ks.length=vs.length->Reps F vs ds->Rep F (.ref a) (.dcS ks ds)
inductive Reps(F:Hp):List V->List D->Prop
 |nil:Reps F [] []
 |cons {v:V} {d:D} {vs:List V} {ds:List D}:Rep F v d->Reps F vs ds->Reps F (v::vs) (d::ds)
end
section
variable {F F':Hp}{v:V}{d:D}{vs ws:List V}{ds es:List D}
def Rep.mono(s:Same F F'){v:V}{d:D}(h:Rep F v d):Rep F' v d:=
 Rep.rec (motive_1:=λv d _=>Rep F' v d) (motive_2:=λvs ds _=>Reps F' vs ds) .non .bl .int .str (λe _ ih=>.tup (s _ _ e) ih) (λe _ ih=>.lst (s _ _ e) ih) (λe l _ ih=>.dic (s _ _ e) l ih) (λe l _ ih=>.ins (s _ _ e) l ih) (λe d l _ ih=>.dcI (s _ _ e) d l ih) (λe l _ ih=>.dcS (s _ _ e) l ih) .nil (λ_ _ h t=>.cons h t) h
def Reps.mono(s:Same F F'){vs:List V}{ds:List D}(h:Reps F vs ds):Reps F' vs ds:=
 Reps.rec (motive_1:=λv d _=>Rep F' v d) (motive_2:=λvs ds _=>Reps F' vs ds) .non .bl .int .str (λe _ ih=>.tup (s _ _ e) ih) (λe _ ih=>.lst (s _ _ e) ih) (λe l _ ih=>.dic (s _ _ e) l ih) (λe l _ ih=>.ins (s _ _ e) l ih) (λe d l _ ih=>.dcI (s _ _ e) d l ih) (λe l _ ih=>.dcS (s _ _ e) l ih) .nil (λ_ _ h t=>.cons h t) h
def Reps.ind{P:List V->List D->Prop}(h0:P [] [])(h1:∀{v d vs ds},Rep F v d->Reps F vs ds->P vs ds->P (v::vs) (d::ds)){vs:List V}{ds:List D}(h:Reps F vs ds):P vs ds:=
 Reps.rec (motive_1:=λ_ _ _=>True) (motive_2:=λvs ds _=>P vs ds) trivial (λ_=>trivial) (λ_=>trivial) (λ_=>trivial) (λ_ _ _=>trivial) (λ_ _ _=>trivial) (λ_ _ _ _=>trivial) (λ_ _ _ _=>trivial) (λ_ _ _ _ _=>trivial) (λ_ _ _ _=>trivial) h0 (λa b _ t=>h1 a b t) h
def Reps.length{vs:List V}{ds:List D}(h:Reps F vs ds):vs.length=ds.length:=h.ind (P:=λvs ds=>vs.length=ds.length) rfl λ_ _ t=>congrArg (· + 1) t
def Reps.get{vs:List V}{ds:List D}{i:Nat}{d:D}(h:Reps F vs ds):ds[i]? =aa d->∃v,vs[i]? =aa v/\Rep F v d:=
 h.ind (P:=λvs ds=>∀i,ds[i]? =aa d->∃v,vs[i]? =aa v/\Rep F v d) (λ_ e=>nomatch (show ab=aa _ from e)) (fun {v _ _ _} r _ t i e=>by
  cases i with
  |zero=>cases e;exact⟨v,rfl,r⟩
  |succ i=>exact t i e) i
def Reps.getV{vs:List V}{ds:List D}{i:Nat}{v:V}(h:Reps F vs ds):vs[i]? =aa v->∃d,ds[i]? =aa d/\Rep F v d:=
 h.ind (P:=λvs ds=>∀i,vs[i]? =aa v->∃d,ds[i]? =aa d/\Rep F v d) (λ_ e=>nomatch (show ab=aa _ from e)) (fun {_ d _ _} r _ t i e=>by
  cases i with
  |zero=>cases e;exact⟨d,rfl,r⟩
  |succ i=>exact t i e) i
def Reps.append{vs ws:List V}{ds es:List D}(h:Reps F vs ds)(s:Reps F ws es):Reps F (vs++ws) (ds++es):=h.ind (P:=λvs ds=>Reps F (vs++ws) (ds++es)) s λr _ t=>.cons r t
def Reps.take{vs:List V}{ds:List D}(n:Nat)(h:Reps F vs ds):Reps F (vs.take n) (ds.take n):=
 h.ind (P:=λvs ds=>∀n,Reps F (vs.take n) (ds.take n)) (λn=>by rw[ki,ki];exact .nil) (λr _ t n=>by
  cases n with
  |zero=>exact .nil
  |succ n=>exact .cons r (t n)) n
def Reps.drop{vs:List V}{ds:List D}(n:Nat)(h:Reps F vs ds):Reps F (vs.drop n) (ds.drop n):=
 h.ind (P:=λvs ds=>∀n,Reps F (vs.drop n) (ds.drop n)) (λn=>by rw[kj,kj];exact .nil) (λr h t n=>by
  cases n with
  |zero=>exact .cons r h
  |succ n=>exact t n) n
def Reps.one(h:Rep F v d):Reps F [v] [d]:=.cons h .nil
def Reps.rev{vs:List V}{ds:List D}(h:Reps F vs ds):Reps F vs.reverse ds.reverse:=h.ind (P:=λvs ds=>Reps F vs.reverse ds.reverse) .nil λh _ t=>by rw[dD,dD];exact t.append (.one h)
def Reps.ints(ns:List Int):Reps F (ns.map V.int) (ns.map D.int):=by
 induction ns with
 |nil=>exact .nil
 |cons n r ih=>exact .cons (.int n) ih
end
def isT:HO->Bool
 |.tup _=>true
 | _=>false
def zfG(K:ag)(c:Str)(C:ai):Prop:=be K aV c=aa (aa (.ref C))
mutual
inductive TR(K:ag)(F H:Hp):V->OT->List ai->Prop
 |val {v:V} {d:D}:Rep F v d->TR K F H v (.val d) []
 |lst {l:ai} {vs:List V} {ds:List D}:H l=aa (.lst vs)->Reps F vs ds->TR K F H (.ref l) (.lst ds) [l]
 |ins {a dx C:ai} {c:Str} {ns:List Str} {vs:List V} {os:List OT} {A:List ai}:zfG K c C->H a=aa (.ins C dx (ns.zip vs))->H dx=aa (.own a)->ns.length=vs.length->TRs K F H vs os A->TR K F H (.ref a) (.ins c ns os) (a::dx::A)
 |dcI {l:ai} {o:Obj} {ks:List Int} {vs:List V} {os:List OT} {A:List ai}:H l=aa (knO l o)->DiD l o ((ks.map f6).zip vs)->ks.length=vs.length->TRs K F H vs os A->TR K F H (.ref l) (.dcI ks os) (l::A)
 |dcS {l:ai} {ks:List Str} {vs:List V} {os:List OT} {A:List ai}:H l=aa (.dK ((ks.map fw).zip vs))->ks.length=vs.length->TRs K F H vs os A->TR K F H (.ref l) (.dcS ks os) (l::A)
 |los {l:ai} {vs:List V} {os:List OT} {A:List ai}:H l=aa (.lst vs)->TRs K F H vs os A->TR K F H (.ref l) (.los os) (l::A)
inductive TRs(K:ag)(F H:Hp):List V->List OT->List ai->Prop
 |nil:TRs K F H [] [] []
 |cons {v:V} {o:OT} {vs:List V} {os:List OT} {A A':List ai}:TR K F H v o A->TRs K F H vs os A'->TRs K F H (v::vs) (o::os) (A++A')
end
section
variable {K:ag}{F H F' H':Hp}
def TR.move(s:Same F F'){v:V}{o:OT}{A:List ai}(t:TR K F H v o A):(∀a∈A,H' a=H a)->TR K F' H' v o A:=
 TR.rec (motive_1:=λv o A _=>(∀a∈A,H' a=H a)->TR K F' H' v o A) (motive_2:=λvs os A _=>(∀a∈A,H' a=H a)->TRs K F' H' vs os A) (λr _=>.val (Rep.mono s r)) (λe r h=>.lst ((h _ ax).trans e) (r.mono s))
  (λhc e1 e2 hl _ ih h=>.ins hc ((h _ ax).trans e1) ((h _ (aq _ ax)).trans e2) hl (ih λa ha=>h a (aq _ (aq _ ha))))
  (λe d l _ ih h=>.dcI ((h _ ax).trans e) d l (ih λa ha=>h a (aq _ ha))) (λe l _ ih h=>.dcS ((h _ ax).trans e) l (ih λa ha=>h a (aq _ ha))) (λe _ ih h=>.los ((h _ ax).trans e) (ih λa ha=>h a (aq _ ha))) (λ_=>.nil)
  (λ_ _ i1 i2 h=>.cons (i1 λa ha=>h a (bQ _ ha)) (i2 λa ha=>h a (aI _ ha))) t
def TRs.nil_{os:List OT}{A:List ai}(h:TRs K F H [] os A):os=[]/\A=[]:=by cases h;exact⟨rfl,rfl⟩
def TRs.cons_{v:V}{vs:List V}{os:List OT}{A:List ai}(h:TRs K F H (v::vs) os A):∃o os' A1 A2,os=o::os'/\A=A1++A2/\TR K F H v o A1/\TRs K F H vs os' A2:=by cases h with|cons t ts=>exact⟨_,_,_,_,rfl,rfl,t,ts⟩
def TRs.move(s:Same F F'):∀{vs:List V} {os:List OT} {A:List ai},TRs K F H vs os A->(∀a∈A,H' a=H a)->TRs K F' H' vs os A:=by
 intro vs
 induction vs with
 |nil=>intro os A t h;obtain⟨rfl,rfl⟩:=t.nil_;exact .nil
 |cons v vs ih=>
  intro os A t h;obtain⟨o,os',A1,A2,rfl,rfl,t1,t2⟩:=t.cons_;exact .cons (t1.move s λa ha=>h a (bQ _ ha)) (ih t2 λa ha=>h a (aI _ ha))
def lies1{l:ai}{u:HO}(e:H l=aa u)(hu:isT u=false):∀a∈[l],∃u,H a=aa u/\isT u=false:=λa h=>by
 cases bn.mp h;exact⟨u,e,hu⟩
def liesC{l:ai}{u:HO}{A:List ai}(e:H l=aa u)(hu:isT u=false)(h:∀a∈A,∃u,H a=aa u/\isT u=false):∀a∈l::A,∃u,H a=aa u/\isT u=false:=λa ha=>
 (aF.mp ha).elim (λz=>⟨u,z ▸ e,hu⟩) (h a)
def TR.lies{v:V}{o:OT}{A:List ai}(t:TR K F H v o A):∀a∈A,∃u,H a=aa u/\isT u=false:=
 TR.rec (motive_1:=λ_ _ A _=>∀a∈A,∃u,H a=aa u/\isT u=false) (motive_2:=λ_ _ A _=>∀a∈A,∃u,H a=aa u/\isT u=false) (λ_ a h=>nomatch h) (λe _=>lies1 e rfl) (λ_ e1 e2 _ _ ih=>liesC e1 rfl (liesC e2 rfl ih)) (λe _ _ _ ih=>liesC e rfl ih) (λe _ _ ih=>liesC e rfl ih) (λe _ ih=>liesC e rfl ih) (λa h=>nomatch h)
  (λ_ _ i1 i2 a h=>(br.mp h).elim (i1 a) (i2 a)) t
def TRs.lies:∀{vs:List V} {os:List OT} {A:List ai},TRs K F H vs os A->∀a∈A,∃u,H a=aa u/\isT u=false:=by
 intro vs
 induction vs with
 |nil=>intro os A t a h;obtain⟨rfl,rfl⟩:=t.nil_;cases h
 |cons v vs ih=>
  intro os A t a h;obtain⟨o,os',A1,A2,rfl,rfl,t1,t2⟩:=t.cons_;exact(br.mp h).elim (t1.lies a) (ih t2 a)
def zhd{α:Type}{ns:List α}:∀{vs ws:List V},ns.length=vs.length->ns.length=ws.length->ns.zip vs=ns.zip ws->vs=ws:=by
 intro vs ws h1 h2 h;have a:=congrArg (λl=>l.map Prod.snd) h;simp only[ij (d8 h1.symm),ij (d8 h2.symm)]at a;exact a
def TR.det{v:V}{o:OT}{A:List ai}(t:TR K F H v o A):∀{A':List ai},TR K F H v o A'->A=A':=by
 refine TR.rec (motive_1:=λv o A _=>∀{A':List ai},TR K F H v o A'->A=A') (motive_2:=λvs os A _=>∀{A':List ai},TRs K F H vs os A'->A=A') ?_ ?_ ?_ ?_ ?_ ?_ ?_ ?_ t
 ·intro _ _ _ _ h;cases h;rfl
 ·intro _ _ _ _ _ _ h;cases h;rfl
 ·intro _ _ _ _ _ _ _ _ _ e1 _ hl _ ih _ h;cases h with
  |ins _ e1' _ hl' t'=>
   have z:=aR (e1.symm.trans e1');injection z with _ z2 z3;subst z2;cases zhd hl hl' z3;rw[ih t']
 ·intro _ _ _ _ _ _ e d l _ ih _ h;cases h with
  |dcI e' d' l' t'=>
   cases knO_inj (aR (e.symm.trans e')) d;cases zhd (by rw[aw];exact l) (by rw[aw];exact l') (d.inj d');rw[ih t']
 ·intro _ _ _ _ _ e l _ ih _ h;cases h with
  |dcS e' l' t'=>
   cases zhd (by rw[aw];exact l) (by rw[aw];exact l') (HO.dK.inj (aR (e.symm.trans e')));rw[ih t']
 ·intro _ _ _ _ e _ ih _ h;cases h with
  |los e' t'=>
   cases HO.lst.inj (aR (e.symm.trans e'));rw[ih t']
 ·intro _ h;exact h.nil_.2.symm
 ·intro _ _ _ _ _ _ _ _ i1 i2 _ h;obtain⟨_,_,_,_,e,rfl,t1,t2⟩:=h.cons_;cases e;rw[i1 t1,i2 t2]
end
structure Bd where
 hp:Hp
 pin:Option V
instance:Coe Bd Hp:=⟨Bd.hp⟩
structure Ex(F H F' H':Hp):Prop where
 ff:Same F F'
 fh:Same F' H'
 hh:Same H H'
 nw:∀a o,H a=aa o->isT o=false->F' a=F a
section
variable {K:ag}{B:Bd}{F H F' H' F2 H2 H0:Hp}{v:V}{p:ai}{o:HO}{e:Ent}{σ:Sg}{δ:En}
def Ex.refl(h:Same F H):Ex F H F H:=⟨Same.refl F,h,Same.refl H,λ_ _ _ _=>rfl⟩
def Ex.trans(a:Ex F H F' H')(b:Ex F' H' F2 H2):Ex F H F2 H2:=⟨a.ff.trans b.ff,b.fh,a.hh.trans b.hh,λx o e t=>(b.nw x o (a.hh x o e) t).trans (a.nw x o e t)⟩
def same_upd2(h:Same F H)(hp:H p=ab):Same (upd F p o) (upd H p o):=λb u e=>by
 by_cases hb:b=p
 ·subst hb;rw[zam]at e ⊢;exact e
 ·rw[zar hb]at e ⊢;exact h b u e
def Ex.alloc(h:Same F H)(hp:H p=ab):Ex F H (upd F p o) (upd H p o):=
 ⟨Same.alloc (h.free hp),same_upd2 h hp,Same.alloc hp,λa u e _=>zar (zaC e hp)⟩
def Ex.lay(h:Same F H)(hp:H p=ab):Ex F H F (upd H p o):=⟨Same.refl F,h.trans (Same.alloc hp),Same.alloc hp,λ_ _ _ _=>rfl⟩
def Ex.freeze(x:Ex F H F' H')(h0:H p=ab)(h1:H' p=aa o)(h2:F' p=ab):Ex F H (upd F' p o) H':=by
 refine⟨x.ff.trans (Same.alloc h2),λb u e=>?_,x.hh,λa u e t=>?_⟩
 ·by_cases hb:b=p
  ·subst hb;rw[zam]at e;cases e;exact h1
  ·rw[zar hb]at e;exact x.fh b u e
 ·rw[zar (zaC e h0)];exact x.nw a u e t
def Ex.tupF{zs:List V}(x:Ex F H F' H')(h1:H' p=aa (.tup zs)):∃F2,Ex F H F2 H'/\Same F' F2/\F2 p=aa (.tup zs):=by
 cases q:F' p with
 |some u=>
  have:=x.fh _ _ q;rw[h1]at this;cases this;exact⟨F',x,Same.refl _,q⟩
 |none=>
  refine⟨upd F' p (.tup zs),⟨x.ff.trans (Same.alloc q),λb u e=>?_,x.hh,λa u e t=>?_⟩,Same.alloc q,zam⟩
  ·by_cases hb:b=p
   ·subst hb;rw[zam]at e;cases e;exact h1
   ·rw[zar hb]at e;exact x.fh b u e
  ·by_cases hb:a=p
   ·subst hb;rw[x.hh _ _ e]at h1;cases h1;cases t
   ·rw[zar hb];exact x.nw a u e t
inductive ROwn(H0 F H:Hp)(v:V)(ds:List D):Prop
 |mk (l:ai) (vs:List V):v=.ref l->H0 l=ab->H l=aa (.lst vs)->Reps F vs ds->F l=ab->ROwn H0 F H v ds
inductive NOwn(B F H:Hp)(v:V)(ds:List D):Prop
 |mk (l:ai) (vs:List V):v=.ref l->H l=aa (.lst vs)->Reps F vs ds->F l=ab->B l=ab->NOwn B F H v ds
inductive RBor(K:ag)(F H:Hp)(v:V)(ds:List D):Prop
 |mk (l:ai) (vs:List V):v=.ref l->SqL K H l vs->Reps F vs ds->RBor K F H v ds
inductive RVw(F H:Hp)(v:V)(ds:List D):Prop
 |mk (l:ai) (vs:List V):v=.ref l->H l=aa (.lst vs)->Reps F vs ds->RVw F H v ds
inductive RBt(K:ag)(F H:Hp)(v:V)(ds:List D):Prop
 |mk (l:ai) (vs:List V):v=.ref l->SqT K H l vs->Reps F vs ds->RBt K F H v ds
inductive RObj(K:ag)(H0 F H:Hp)(v:V)(o:OT):Prop
 |mk (z:∃l,v=.ref l) (A:List ai):TR K F H v o A->A.Nodup->(∀a∈A,F a=ab/\H0 a=ab)->RObj K H0 F H v o
inductive NObj(K:ag)(B F H:Hp)(v:V)(o:OT):Prop
 |mk (A:List ai):TR K F H v o A->A.Nodup->(∀a∈A,F a=ab/\B a=ab)->NObj K B F H v o
def RepR(K:ag)(H0 F H:Hp)(v:V):Ent->Prop
 |.val d=>Rep F v d
 |.own ds=>ROwn H0 F H v ds
 |.bor ds=>RBor K F H v ds
 |.vw ds=>RVw F H v ds
 |.obj o=>RObj K H0 F H v o
 |.bt ds=>RBt K F H v ds
def _root_.L2.Same.seqT{K:ag}{H H':Hp}{l:ai}{vs:List V}(s:Same H H')(h:SqT K H l vs):SqT K H' l vs:=by
 rcases h with (h|⟨o,h⟩)|h
 ·exact .inl (.inl (s _ _ h))
 ·exact .inl (.inr ⟨o,s _ _ h⟩)
 ·exact .inr h
def TR.ext{o:OT}{A:List ai}(r:TR K F H v o A)(x:Ex F H F' H'):TR K F' H' v o A/\∀a∈A,F' a=F a:=
 ⟨r.move x.ff λa ha=>let⟨_,h1,_⟩:=r.lies a ha;(x.hh _ _ h1).trans h1.symm,λa ha=>let⟨_,h1,h2⟩:=r.lies a ha;x.nw _ _ h1 h2⟩
def RepR.ext(r:RepR K H0 F H v e)(x:Ex F H F' H'):RepR K H0 F' H' v e:=by
 cases e with
 |val d=>exact Rep.mono x.ff r
 |own ds=>
  obtain⟨l,vs,e,h0,h1,rs,h2⟩:=r;exact⟨l,vs,e,h0,x.hh _ _ h1,rs.mono x.ff,(x.nw _ _ h1 rfl).trans h2⟩
 |bor ds=>obtain⟨l,vs,e,h,rs⟩:=r;exact⟨l,vs,e,x.hh.seq h,rs.mono x.ff⟩
 |vw ds=>obtain⟨l,vs,e,h,rs⟩:=r;exact⟨l,vs,e,x.hh _ _ h,rs.mono x.ff⟩
 |obj o=>obtain⟨z,A,t,n,h⟩:=r;exact⟨z,A,(t.ext x).1,n,λa ha=>⟨((t.ext x).2 a ha).trans (h a ha).1,(h a ha).2⟩⟩
 |bt ds=>obtain⟨l,vs,e,h,rs⟩:=r;exact⟨l,vs,e,x.hh.seqT h,rs.mono x.ff⟩
def RepR.earlier(r:RepR K H F' H' v e)(s:Same H0 H):RepR K H0 F' H' v e:=by
 cases e with
 |own ds=>obtain⟨l,vs,e,h0,h1,h2,h3⟩:=r;exact⟨l,vs,e,s.free h0,h1,h2,h3⟩
 |obj o=>obtain⟨z,A,t,n,h⟩:=r;exact⟨z,A,t,n,λa ha=>⟨(h a ha).1,s.free (h a ha).2⟩⟩
 | _=>exact r
def RepN(K:ag)(B F H:Hp)(v:V):Ent->Prop
 |.val d=>Rep F v d
 |.own ds=>NOwn B F H v ds
 |.bor ds=>RBor K F B v ds
 |.vw ds=>RVw F H v ds
 |.obj o=>NObj K B F H v o
 |.bt ds=>RBt K F B v ds
def Ent.lk:Ent->Bool
 |.own _=>true
 |.vw _=>true
 | _=>false
def Occ(K:ag)(F H:Hp)(v:V):Ent->ai->Prop
 |.own _,a=>v=.ref a
 |.vw _,a=>v=.ref a
 |.obj o,a=>∃A,TR K F H v o A/\a∈A
 | _,_=>False
def Ent.isO:Ent->Bool
 |.obj _=>true
 | _=>false
structure RS(K:ag)(B:Bd)(F H:Hp)(σ:Sg)(δ:En):Prop where
 fh:Same F H
 bh:Same B H
 len:σ.length=δ.length
 ent:∀(i:Nat) (e:Ent),δ[i]? =aa (aa e)->∃v,σ[i]? =aa (aa v)/\RepN K B F H v e
 ap:∀(i j:Nat) (l:ai) (ds:List D) (e:Ent),i≠j->δ[i]? =aa (aa (.own ds))->σ[i]? =aa (aa (.ref l))->δ[j]? =aa (aa e)->e.lk=true->σ[j]?≠aa (aa (.ref l))
 ao:∀(i j:Nat) (e e':Ent) (v w:V) (a:ai),i≠j->δ[i]? =aa (aa e)->σ[i]? =aa (aa v)->δ[j]? =aa (aa e')->σ[j]? =aa (aa w)->e.isO=true->Occ K F H v e a->Occ K F H w e' a->False
 pn:∀(v:V) (o:OT),B.pin=aa v->δ[0]? =aa (aa (.obj o))->σ[0]? =aa (aa v)
def RepN.ext(r:RepN K B F H v e)(x:Ex F H F' H'):RepN K B F' H' v e:=by
 cases e with
 |val d=>exact Rep.mono x.ff r
 |own ds=>obtain⟨l,vs,e,h1,rs,h2,h3⟩:=r;exact⟨l,vs,e,x.hh _ _ h1,rs.mono x.ff,(x.nw _ _ h1 rfl).trans h2,h3⟩
 |bor ds=>obtain⟨l,vs,e,h,rs⟩:=r;exact⟨l,vs,e,h,rs.mono x.ff⟩
 |vw ds=>obtain⟨l,vs,e,h,rs⟩:=r;exact⟨l,vs,e,x.hh _ _ h,rs.mono x.ff⟩
 |obj o=>obtain⟨A,t,n,h⟩:=r;exact⟨A,(t.ext x).1,n,λa ha=>⟨((t.ext x).2 a ha).trans (h a ha).1,(h a ha).2⟩⟩
 |bt ds=>obtain⟨l,vs,e,h,rs⟩:=r;exact⟨l,vs,e,h,rs.mono x.ff⟩
def Occ.back{a:ai}(r:RepN K B F H v e)(m:∀o A,e=.obj o->TR K F H v o A->TR K F' H' v o A)(h:Occ K F' H' v e a):Occ K F H v e a:=by
 cases e with
 |obj o=>
  obtain⟨A,t,_⟩:=r;obtain⟨A',t',h'⟩:=h;rw[t'.det (m o A rfl t)]at h';exact⟨A,t,h'⟩
 | _=>exact h
def Occ.backX{a:ai}(r:RepN K B F H v e)(x:Ex F H F' H')(h:Occ K F' H' v e a):Occ K F H v e a:=h.back r λ_ _ _ t=>(t.ext x).1
def RepN.lies{a:ai}(r:RepN K B F H v e)(h:Occ K F H v e a):∃u,H a=aa u:=by
 cases e with
 |own ds=>obtain⟨l,vs,e,h1,_⟩:=r;cases e;cases (show V.ref l=.ref a from h);exact⟨_,h1⟩
 |vw ds=>obtain⟨l,vs,e,h1,_⟩:=r;cases e;cases (show V.ref l=.ref a from h);exact⟨_,h1⟩
 |obj o=>obtain⟨A,t,h'⟩:=h;obtain⟨u,h1,_⟩:=t.lies a h';exact⟨u,h1⟩
 | _=>exact h.elim
def RS.occ{i:Nat}{a:ai}(s:RS K B F H σ δ)(h:δ[i]? =aa (aa e))(q:σ[i]? =aa (aa v))(o:Occ K F H v e a):∃u,H a=aa u:=by
 obtain⟨w,h1,h2⟩:=s.ent i e h;rw[q]at h1;cases h1;exact h2.lies o
def RS.at{i:Nat}(s:RS K B F H σ δ)(h:δ[i]? =aa (aa e))(q:σ[i]? =aa (aa v)):RepN K B F H v e:=by
 obtain⟨w,h1,h2⟩:=s.ent i e h;rw[q]at h1;cases h1;exact h2
def RS.ext(s:RS K B F H σ δ)(x:Ex F H F' H'):RS K B F' H' σ δ:=
 ⟨x.fh,s.bh.trans x.hh,s.len,λi e h=>let⟨v,h1,h2⟩:=s.ent i e h;⟨v,h1,h2.ext x⟩,s.ap,
  λi j e e' v w a hij h1 h2 h3 h4 h5 h6 h7=>s.ao i j e e' v w a hij h1 h2 h3 h4 h5 (h6.backX (s.at h1 h2) x) (h7.backX (s.at h3 h4) x),s.pn⟩
def asV:Ent->Option D
 |.val d=>aa d
 |.own ds=>aa (.lst ds)
 | _=>ab
def asL:Ent->Option (List D)
 |.val (.lst ds)=>aa ds
 |.own ds=>aa ds
 |.bor ds=>aa ds
 |.vw ds=>aa ds
 | _=>ab
def RepR.toL{ds:List D}(r:RepR K H0 F H v e)(h:Same F H)(q:asL e=aa ds):RBor K F H v ds:=by
 cases e with
 |val d=>
  cases d with
  |lst es=>
   cases q;cases (show Rep F v (.lst _)from r)with
   |lst e rs=>exact⟨_,_,rfl,SqL.of (h _ _ e),rs⟩
  | _=>cases q
 |own es=>cases q;obtain⟨l,vs,e,_,h1,rs,_⟩:=r;exact⟨l,vs,e,SqL.of h1,rs⟩
 |bor es=>cases q;exact r
 |vw es=>cases q;obtain⟨l,vs,e,h1,rs⟩:=r;exact⟨l,vs,e,SqL.of h1,rs⟩
 |obj o=>cases q
 |bt ds=>cases q
def asLt:Ent->Option (List D)
 |.val (.lst ds)=>aa ds
 |.own ds=>aa ds
 |.vw ds=>aa ds
 | _=>ab
def RepR.toLt{ds:List D}(r:RepR K H0 F H v e)(h:Same F H)(q:asLt e=aa ds):RVw F H v ds:=by
 cases e with
 |val d=>
  cases d with
  |lst es=>
   cases q;cases (show Rep F v (.lst _)from r)with
   |lst e rs=>exact⟨_,_,rfl,h _ _ e,rs⟩
  | _=>cases q
 |own es=>cases q;obtain⟨l,vs,e,_,h1,rs,_⟩:=r;exact⟨l,vs,e,h1,rs⟩
 |bor es=>cases q
 |vw es=>cases q;exact r
 |obj o=>cases q
 |bt ds=>cases q
end
end L3

namespace L3
open PySem PySem.Spec PyProof.Rows L2
abbrev FE:=En->Option Ent
abbrev FT:=En->Option Bool
abbrev FA:=En->Option (List Ent)
inductive RepRs(K:ag)(H0 F H:Hp):List V->List Ent->Prop
 |nil:RepRs K H0 F H [] []
 |cons {v:V} {e:Ent} {vs:List V} {es:List Ent}:RepR K H0 F H v e->RepRs K H0 F H vs es->RepRs K H0 F H (v::vs) (e::es)
section
variable {K:ag}{B:Bd}{F H F' H' F2 H2 H0:Hp}
def RepRs.earlier(s:Same H0 H){vs:List V}{es:List Ent}(h:RepRs K H F' H' vs es):RepRs K H0 F' H' vs es:=h.rec .nil λr _ t=>.cons (r.earlier s) t
def RepRs.length{vs:List V}{es:List Ent}(h:RepRs K H0 F H vs es):vs.length=es.length:=h.rec (motive:=λvs es _=>vs.length=es.length) rfl λ_ _ t=>congrArg (· + 1) t
def zd5:List Ent->Option (List D)
 |[]=>aa []
 |e::es=>(asV e).bind λd=>(zd5 es).map λds=>d::ds
def RepR.frz{v:V}{e:Ent}{d:D}(x:Ex F H F' H')(s:Same F2 F')(r:RepR K H F2 H' v e)(q:asV e=aa d):∃F3,Ex F H F3 H'/\Same F' F3/\Rep F3 v d:=by
 cases e with
 |val d'=>cases q;exact⟨F',x,Same.refl _,Rep.mono s r⟩
 |own ds=>
  cases q;obtain⟨l,vs,e,h0,h1,rs,h2⟩:=r;subst e;cases z:F' l with
  |none=>exact⟨upd F' l (.lst vs),x.freeze h0 h1 z,Same.alloc z,.lst zam (rs.mono (s.trans (Same.alloc z)))⟩
  |some o=>
   have:=x.fh _ _ z;rw[h1]at this;cases this;exact⟨F',x,Same.refl _,.lst z (rs.mono s)⟩
 | _=>cases q
def RepRs.frz{vs:List V}{es:List Ent}{ds:List D}{F':Hp}(x:Ex F H F' H')(s:Same F2 F')(h:RepRs K H F2 H' vs es)(q:zd5 es=aa ds):∃F3,Ex F H F3 H'/\Same F' F3/\Reps F3 vs ds:=by
 induction h generalizing ds F' with
 |nil=>cases q;exact⟨F',x,Same.refl _,.nil⟩
 |@cons _ e _ es r t ih=>
  simp only[zd5]at q;cases h1:asV e with
  |none=>rw[h1]at q;cases q
  |some d=>
   cases h2:zd5 es with
   |none=>rw[h1,h2]at q;cases q
   |some ds'=>
    rw[h1,h2]at q;cases q;obtain⟨F3,x3,s3,r3⟩:=r.frz x s h1;obtain⟨F4,x4,s4,r4⟩:=ih x3 (s.trans s3) h2;exact⟨F4,x4,s3.trans s4,.cons (Rep.mono s4 r3) r4⟩
end
def SemE(K:ag)(t:TE)(f:FE):Prop:=∀(B:Bd) (F H:Hp) (σ:Sg) (δ:En) (r:Ent) (Q:VK),RS K B F H σ δ->f δ=aa r->(∀v F' H',Ex F H F' H'->RepR K H F' H' v r->Q v H')->t σ H Q
def SemT(K:ag)(t:TT)(f:FT):Prop:=∀(B:Bd) (F H:Hp) (σ:Sg) (δ:En) (b:Bool) (Q:Bool->Hp->Prop),RS K B F H σ δ->f δ=aa b->(∀F' H',Ex F H F' H'->Q b H')->t σ H Q
def SemA(K:ag)(t:TA)(f:FA):Prop:=∀(B:Bd) (F H:Hp) (σ:Sg) (δ:En) (rs:List Ent) (Q:List V->Hp->Prop),RS K B F H σ δ->f δ=aa rs->(∀vs F' H',Ex F H F' H'->RepRs K H F' H' vs rs->Q vs H')->t σ H Q
structure VE(X:Cx)(e:Expr)(f:FE):Prop where
 h:∃t,WE X e t/\SemE X.K t f
structure VT(X:Cx)(e:Expr)(f:FT):Prop where
 h:∃t,WT X e t/\SemT X.K t f
structure VW(X:Cx)(e:Expr)(f:FT):Prop where
 h:∃t,WW X e t/\SemT X.K t f
structure VA(X:Cx)(es:List Expr)(f:FA):Prop where
 h:∃t,WA X es t/\SemA X.K t f
structure VTs(X:Cx)(es:List Expr)(f:FT):Prop where
 h:∃t,WTs X es t/\SemT X.K t f
def zab(i:Nat):FE:=λδ=>match δ[i]? with
 |some (aa (.own ds))=>aa (.vw ds)
 |some (aa (.obj _))=>ab
 |some (aa e)=>aa e
 | _=>ab
def eC(d:D):FE:=λ_=>aa (.val d)
def ex1(g:Ent->Option Ent)(fa:FE):FE:=λδ=>(fa δ).bind g
def ex2(g:Ent->Ent->Option Ent)(fa fb:FE):FE:=λδ=>(fa δ).bind λx=>(fb δ).bind λy=>g x y
def bOf:Ent->Option Bool
 |.val (.bl b)=>aa b
 | _=>ab
def eAnd(fa fb:FE):FE:=λδ=>((fa δ).bind bOf).bind λb=>if b=true then fb δ else aa (.val (.bl false))
def eOr(fa fb:FE):FE:=λδ=>((fa δ).bind bOf).bind λb=>if b=true then aa (.val (.bl true))else fb δ
def gNot:Ent->Option Ent:=λe=>(bOf e).map λb=>.val (.bl (!b))
def tOf(fe:FE):FT:=λδ=>(fe δ).bind bOf
def zh4(ft fu:FT):FT:=λδ=>(ft δ).bind λb=>if b=true then fu δ else aa false
def fOr(ft fu:FT):FT:=λδ=>(ft δ).bind λb=>if b=true then aa true else fu δ
def zgR(ft:FT):FT:=λδ=>(ft δ).map λb=>!b
def zdD:FT:=λ_=>aa true
def eIf(ft:FT)(fa fb:FE):FE:=λδ=>(ft δ).bind λb=>if b=true then fa δ else fb δ
def zae:FA:=λ_=>aa []
def zaa(fe:FE)(fa:FA):FA:=λδ=>(fe δ).bind λx=>(fa δ).map λxs=>x::xs
def zhM(fa:FA):FE:=λδ=>(fa δ).bind λrs=>if rs.length<=1000 then (zd5 rs).map λds=>.val (.tup ds)else ab
def zde(fa:FA):FE:=λδ=>(fa δ).bind λrs=>if rs.length<=1000 then (zd5 rs).map λds=>.own ds else ab
def SemR1(K:ag)(r:V->Hp->VK->Prop)(g:Ent->Option Ent):Prop:=∀(H0 F H:Hp) (x:V) (e res:Ent) (Q:VK),Same F H->Same H0 H->RepR K H0 F H x e->g e=aa res ->
 (∀v F' H',Ex F H F' H'->RepR K H0 F' H' v res->Q v H')->r x H Q
def zkF(K:ag)(r:R2)(g:Ent->Ent->Option Ent):Prop:=∀(H0 F H:Hp) (x y:V) (e e' res:Ent) (Q:VK),Same F H->Same H0 H->RepR K H0 F H x e->RepR K H0 F H y e'->g e e'=aa res ->
 (∀v F' H',Ex F H F' H'->RepR K H0 F' H' v res->Q v H')->r x y H Q
def SemC(K:ag)(r:List V->Hp->VK->Prop)(g:List Ent->Option Ent):Prop:=∀(H0 F H:Hp) (vs:List V) (es:List Ent) (res:Ent) (Q:VK),Same F H->Same H0 H->RepRs K H0 F H vs es->g es=aa res ->
 (∀v F' H',Ex F H F' H'->RepR K H0 F' H' v res->Q v H')->r vs H Q
def bind_some{α β:Type}{o:Option α}{f:α->Option β}{b:β}(h:o.bind f=aa b):∃a,o=aa a/\f a=aa b:=by
 cases o with
 |none=>cases h
 |some a=>exact⟨a,rfl,h⟩
def map_some{α β:Type}{o:Option α}{f:α->β}{b:β}(h:o.map f=aa b):∃a,o=aa a/\f a=b:=by
 cases o with
 |none=>cases h
 |some a=>exact⟨a,rfl,aR h⟩
def zhh{α:Type}{c:Prop}[Decidable c]{o:Option α}{b:α}(h:(if c then o else ab)=aa b):c/\o=aa b:=by
 by_cases hc:c
 ·rw[if_pos hc]at h;exact⟨hc,h⟩
 ·rw[if_neg hc]at h;cases h
noncomputable def gif{α:Type}(c:Prop)(a:Option α):Option α:=@ite _ c (k9 c) a ab
def zaf{α:Type}(a:Option α):gif True a=a:=by unfold gif;exact if_pos trivial
def zhx{α:Type}{c:Prop}{a:Option α}(h:c):gif c a=a:=by unfold gif;exact if_pos h
def zaO{α:Type}{c:Prop}{o:Option α}{b:α}(h:gif c o=aa b):c/\o=aa b:=by
 unfold gif at h;by_cases hc:c
 ·rw[if_pos hc]at h;exact⟨hc,h⟩
 ·rw[if_neg hc]at h;cases h
def sz(n:Nat):Prop:=n<=1000000
def zao{n:Nat}(h:n<=1000000):sz n=True:=eq_true h
def OpD(X:Cx)(f:af->af->Sem af)(g:Ent->Ent->Option Ent):Prop:=∃r,OpR X f r/\zkF X.K r g
def UnD(X:Cx)(f:af->Sem af)(g:Ent->Option Ent):Prop:=∃r,UnR X f r/\SemR1 X.K r g
def zhE(X:Cx)(f:af)(g:List Ent->Option Ent):Prop:=∃r,zfv X f r/\SemC X.K r g
def IxD(X:Cx)(g:Ent->Ent->Option Ent):Prop:=∃r,IxR X r/\zkF X.K r g
def zfL{e:Ent}{b:Bool}(h:bOf e=aa b):e=.val (.bl b):=by
 cases e with
 |val d=>cases d <;> first|(cases h;rfl)|(cases h)
 | _=>cases h
def zg2{F:Hp}{v:V}{b:Bool}(h:Rep F v (.bl b)):v=.bl b:=by cases h;rfl
def zbH{F:Hp}{v:V}{i:Int}(h:Rep F v (.int i)):v=.int i:=by cases h;rfl
def za1{F:Hp}{v:V}{i:Str}(h:Rep F v (.str i)):v=.str i:=by cases h;rfl
def zjb{F:Hp}{v:V}(h:Rep F v .non):v=.non:=by cases h;rfl
section
variable {X:Cx}{a b c e:Expr}{es rest:List Expr}{pos p:Pos}{fa fb fc:FE}{ft fu:FT}{fs:FA}{x:Str}
def vv(i:Nat)(hN:X.N[i]? =aa x:=by rfl)(hv:Vis X.env.scope x:=by first|exact aD rfl|exact bA (aD rfl)|exact bA (bA rfl))(hd:(x==("__debug__" : Str))=false:=by decide)
  (hcd:(x==("__classdict__" : Str))=false:=by decide):VE X (.Name x pos) (zab i):=by
 refine⟨_,wv i hN hv hd hcd,λB F H σ δ r Q s q k=>?_⟩;unfold zab at q;split at q
 ·rename_i ds e;cases q;obtain⟨v,h1,l,vs,e,h2,h3,_⟩:=s.ent i _ e;exact⟨v,h1,k v F H (Ex.refl s.fh) ⟨l,vs,e,h2,h3⟩⟩
 ·cases q
 ·rename_i ee hne hno e;cases q;obtain⟨v,h1,h2⟩:=s.ent i _ e;refine⟨v,h1,k v F H (Ex.refl s.fh) ?_⟩;cases r with
  |val d=>exact h2
  |own ds=>exact(hne ds rfl).elim
  |bor ds=>obtain⟨l,vs,e,h,rs⟩:=h2;exact⟨l,vs,e,s.bh.seq h,rs⟩
  |vw ds=>exact h2
  |obj o=>exact(hno o rfl).elim
  |bt ds=>obtain⟨l,vs,e,h,rs⟩:=h2;exact⟨l,vs,e,s.bh.seqT h,rs⟩
 ·cases q
def SemE.cst{K:ag}{v:V}{d:D}(h:∀F,Rep F v d):SemE K (tC v) (eC d):=λB F H σ δ r Q s q k=>by
 cases q;exact k v F H (Ex.refl s.fh) (h F)
def zaq{i:Int}{j:Nat}:VE X (.Constant (.int i) j pos) (eC (.int i)):=⟨_,wint,.cst λ_=>.int i⟩
def vbl{i:Bool}{j:Nat}:VE X (.Constant (.bool i) j pos) (eC (.bl i)):=⟨_,wbl,.cst λ_=>.bl i⟩
def zhN{j:Nat}:VE X (.Constant .none j pos) (eC .non):=⟨_,wnon,.cst λ_=>.non⟩
def zfI{i:Str}{j:Nat}:VE X (.Constant (.str i) j pos) (eC (.str i)):=⟨_,wstr,.cst λ_=>.str i⟩
def vglI{i:Int}(hg:Gl X x)(h:∃u,X.mg x=aa u/\RelV (.int i) u)(hd:(x==("__debug__" : Str))=false:=by decide):VE X (.Name x pos) (eC (.int i)):=⟨_,wgl hg h hd,.cst λ_=>.int i⟩
def vglS{i:Str}(hg:Gl X x)(h:∃u,X.mg x=aa u/\RelV (.str i) u)(hd:(x==("__debug__" : Str))=false:=by decide):VE X (.Name x pos) (eC (.str i)):=⟨_,wgl hg h hd,.cst λ_=>.str i⟩
def SemE.op{K:ag}{r:R2}{ta tb:TE}{g:Ent->Ent->Option Ent}(hr:zkF K r g)(ha:SemE K ta fa)(hb:SemE K tb fb):SemE K (tOp r ta tb) (ex2 g fa fb):=λB F H σ δ res Q s q k=>by
 obtain⟨ex1,q1,q⟩:=bind_some q;obtain⟨ex2,q2,q⟩:=bind_some q;refine ha B F H σ δ ex1 _ s q1 λv F1 H1 x1 r1=>?_;refine hb B F1 H1 σ δ ex2 _ (s.ext x1) q2 λw F2 H2 x2 r2=>?_;exact hr H F2 H2 v w ex1 ex2 res Q x2.fh (x1.trans x2).hh (r1.ext x2) (r2.earlier x1.hh) q λv' F' H' x3 r3=>k v' F' H' ((x1.trans x2).trans x3) r3
def vop{op:Operator}{g:Ent->Ent->Option Ent}(ho:OpD X (binaryOp op) g)(ha:VE X a fa)(hb:VE X b fb):VE X (.BinOp a op b pos) (ex2 g fa fb):=
 let⟨_,wa,sa⟩:=ha.h;let⟨_,wb,sb⟩:=hb.h;let⟨_,h1,h2⟩:=ho;⟨_,wop h1 wa wb,.op h2 sa sb⟩
def zjc{op:CmpOp}{g:Ent->Ent->Option Ent}(ho:OpD X (bC op) g)(ha:VE X a fa)(hb:VE X b fb)(hm:behindInMarks op b=false):VE X (.Compare a [op] [b] pos) (ex2 g fa fb):=
 let⟨_,wa,sa⟩:=ha.h;let⟨_,wb,sb⟩:=hb.h;let⟨_,h1,h2⟩:=ho;⟨_,wcmp h1 wa wb hm,.op h2 sa sb⟩
def SemE.test{K:ag}{ta:TE}(ha:SemE K ta fa):SemT K (tB ta) (tOf fa):=λB F H σ δ b Q s q k=>by
 obtain⟨e,q1,q⟩:=bind_some q;cases zfL q;refine ha B F H σ δ _ _ s q1 λv F1 H1 x1 r1=>?_;exact⟨b,zg2 r1,k F1 H1 x1⟩
def tcm{op:CmpOp}{g:Ent->Ent->Option Ent}(ho:OpD X (bC op) g)(ha:VE X a fa)(hb:VE X b fb)(hm:behindInMarks op b=false):VT X (.Compare a [op] [b] pos) (tOf (ex2 g fa fb)):=
 let⟨_,wa,sa⟩:=ha.h;let⟨_,wb,sb⟩:=hb.h;let⟨_,h1,h2⟩:=ho;⟨_,tcmp h1 wa wb hm,SemE.test (.op h2 sa sb)⟩
def tva(h:VE X e fa)(he:∀whole,isTrue e X.env whole=(do let v <- whole;standAt e.pos;holding [v] (truthy v)):=by intro _;rfl):VT X e (tOf fa):=
 let⟨_,wa,sa⟩:=h.h;⟨_,tval wa he,SemE.test sa⟩
def vun{op:UnaryOp}{g:Ent->Option Ent}(ho:UnD X (unaryOp op) g)(ha:VE X a fa):VE X (.UnaryOp op a pos) (ex1 g fa):=by
 obtain⟨ta,wa,sa⟩:=ha.h;obtain⟨rr,ho1,ho2⟩:=ho;refine⟨_,wun ho1 wa,λB F H σ δ res Q s q k=>?_⟩;obtain⟨ex1,q1,q⟩:=bind_some q;exact sa B F H σ δ ex1 _ s q1 λv F1 H1 x1 r1=>ho2 H F1 H1 v ex1 res Q x1.fh x1.hh r1 q λv' F' H' x2 r2=>k v' F' H' (x1.trans x2) r2
def vone{op:BoolOp}(h:VE X a fa):VE X (.BoolOp op [a] pos) fa:=let⟨_,wa,sa⟩:=h.h;⟨_,wone wa,sa⟩
def vand(ha:VE X a fa)(hb:VE X (.BoolOp .And (b::rest) pos) fb):VE X (.BoolOp .And (a::b::rest) pos) (eAnd fa fb):=by
 obtain⟨ta,wa,sa⟩:=ha.h;obtain⟨tb,wb,sb⟩:=hb.h;refine⟨_,wand wa wb,λB F H σ δ res Q s q k=>?_⟩;obtain⟨bb,q1,q⟩:=bind_some q;obtain⟨eb,q1,q2⟩:=bind_some q1;cases zfL q2;refine sa B F H σ δ _ _ s q1 λv F1 H1 x1 r1=>⟨bb,zg2 r1,?_⟩
 cases bb with
 |true=>exact iteT (sb B F1 H1 σ δ res Q (s.ext x1) q λv' F' H' x2 r2=>k v' F' H' (x1.trans x2) (r2.earlier x1.hh))
 |false=>cases q;exact iteF (k _ F1 H1 x1 (.bl false))
def vor(ha:VE X a fa)(hb:VE X (.BoolOp .Or (b::rest) pos) fb):VE X (.BoolOp .Or (a::b::rest) pos) (eOr fa fb):=by
 obtain⟨ta,wa,sa⟩:=ha.h;obtain⟨tb,wb,sb⟩:=hb.h;refine⟨_,wor wa wb,λB F H σ δ res Q s q k=>?_⟩;obtain⟨bb,q1,q⟩:=bind_some q;obtain⟨eb,q1,q2⟩:=bind_some q1;cases zfL q2;refine sa B F H σ δ _ _ s q1 λv F1 H1 x1 r1=>⟨bb,zg2 r1,?_⟩
 cases bb with
 |false=>exact iteF (sb B F1 H1 σ δ res Q (s.ext x1) q λv' F' H' x2 r2=>k v' F' H' (x1.trans x2) (r2.earlier x1.hh))
 |true=>cases q;exact iteT (k _ F1 H1 x1 (.bl true))
def vnot(ha:VE X a fa):VE X (.UnaryOp .Not a pos) (ex1 gNot fa):=by
 obtain⟨ta,wa,sa⟩:=ha.h;refine⟨_,wnotV wa,λB F H σ δ res Q s q k=>?_⟩;obtain⟨ex1,q1,q⟩:=bind_some q;obtain⟨bb,q2,q⟩:=map_some q;cases zfL q2;cases q;exact sa B F H σ δ _ _ s q1 λv F1 H1 x1 r1=>⟨bb,zg2 r1,k _ F1 H1 x1 (.bl _)⟩
def tan1(ha:VT X a ft):VW X (.BoolOp .And [a] pos) ft:=let⟨_,wa,sa⟩:=ha.h;⟨_,tand1 wa,sa⟩
def zeS(ha:VT X a ft):VW X (.BoolOp .Or [a] pos) ft:=let⟨_,wa,sa⟩:=ha.h;⟨_,tor1 wa,sa⟩
def tan(ha:VT X a ft)(hb:VW X (.BoolOp .And (b::rest) pos) fu):VW X (.BoolOp .And (a::b::rest) pos) (zh4 ft fu):=by
 obtain⟨ta,wa,sa⟩:=ha.h;obtain⟨tb,wb,sb⟩:=hb.h;refine⟨_,tand wa wb,λB F H σ δ res Q s q k=>?_⟩;obtain⟨bb,q1,q⟩:=bind_some q;refine sa B F H σ δ bb _ s q1 λF1 H1 x1=>?_;cases bb with
 |true=>exact iteT (sb B F1 H1 σ δ res Q (s.ext x1) q λF' H' x2=>k F' H' (x1.trans x2))
 |false=>cases q;exact iteF (k F1 H1 x1)
def zjF(ha:VT X a ft)(hb:VW X (.BoolOp .Or (b::rest) pos) fu):VW X (.BoolOp .Or (a::b::rest) pos) (fOr ft fu):=by
 obtain⟨ta,wa,sa⟩:=ha.h;obtain⟨tb,wb,sb⟩:=hb.h;refine⟨_,tor wa wb,λB F H σ δ res Q s q k=>?_⟩;obtain⟨bb,q1,q⟩:=bind_some q;refine sa B F H σ δ bb _ s q1 λF1 H1 x1=>?_;cases bb with
 |false=>exact iteF (sb B F1 H1 σ δ res Q (s.ext x1) q λF' H' x2=>k F' H' (x1.trans x2))
 |true=>cases q;exact iteT (k F1 H1 x1)
def tww(h:VW X a ft):VT X a ft:=let⟨_,wa,sa⟩:=h.h;⟨_,tw wa,sa⟩
def tnt(ha:VT X a ft):VT X (.UnaryOp .Not a pos) (zgR ft):=by
 obtain⟨ta,wa,sa⟩:=ha.h;refine⟨_,tnot wa,λB F H σ δ res Q s q k=>?_⟩;obtain⟨bb,q1,q⟩:=map_some q;cases q;exact sa B F H σ δ bb _ s q1 λF1 H1 x1=>k F1 H1 x1
def vif(hc:VT X c ft)(ha:VE X a fa)(hb:VE X b fb):VE X (.IfExp c a b pos) (eIf ft fa fb):=by
 obtain⟨tc,wc,sc⟩:=hc.h;obtain⟨ta,wa,sa⟩:=ha.h;obtain⟨tb,wb,sb⟩:=hb.h;refine⟨_,wif wc wa wb,λB F H σ δ res Q s q k=>?_⟩;obtain⟨bb,q1,q⟩:=bind_some q;refine sc B F H σ δ bb _ s q1 λF1 H1 x1=>?_;cases bb with
 |true=>exact iteT (sa B F1 H1 σ δ res Q (s.ext x1) q λv' F' H' x2 r2=>k v' F' H' (x1.trans x2) (r2.earlier x1.hh))
 |false=>exact iteF (sb B F1 H1 σ δ res Q (s.ext x1) q λv' F' H' x2 r2=>k v' F' H' (x1.trans x2) (r2.earlier x1.hh))
def if0:VTs X [] zdD:=⟨_,ifs0,λB F H σ δ b Q s q k=>by cases q;exact k F H (Ex.refl s.fh)⟩
def if1(h:VT X c ft):VTs X [c] ft:=let⟨_,wc,sc⟩:=h.h;⟨_,ifs1 wc,sc⟩
def zan:VA X [] zae:=⟨_,wnil,λB F H σ δ rs Q s q k=>by cases q;exact k [] F H (Ex.refl s.fh) .nil⟩
def zac(ha:VE X e fa)(hr:VA X es fs)(h:zaj e=true:=by rfl):VA X (e::es) (zaa fa fs):=by
 obtain⟨ta,wa,sa⟩:=ha.h;obtain⟨tb,wb,sb⟩:=hr.h;refine⟨_,wac wa wb h,λB F H σ δ rs Q s q k=>?_⟩;obtain⟨ex1,q1,q⟩:=bind_some q;obtain⟨es',q2,q⟩:=map_some q;cases q;refine sa B F H σ δ ex1 _ s q1 λv F1 H1 x1 r1=>?_;exact sb B F1 H1 σ δ es' _ (s.ext x1) q2 λvs F2 H2 x2 r2=>k _ F2 H2 (x1.trans x2) (.cons (r1.ext x2) (r2.earlier x1.hh))
def zjC{n:Nat}(h:n<=1000):n<=aX:=bz (small1000 h)
def vtup{x1:Nat}(h:VA X es fs):VE X (.Tuple es x1 pos) (zhM fs):=by
 obtain⟨t,w,sm⟩:=h.h;refine⟨_,wtup w,λB F H σ δ res Q s q k=>?_⟩;obtain⟨rs,q1,q⟩:=bind_some q;split at q
 ·rename_i hl;obtain⟨ds,q2,q⟩:=map_some q;cases q;refine sm B F H σ δ rs _ s q1 λvs F1 H1 x1 r1=>⟨by rw[r1.length];exact zjC hl,λp hp=>?_⟩
  obtain⟨F2,x2,_,r2⟩:=RepRs.frz x1 (Same.refl _) r1 q2;exact k _ _ _ (x2.trans (Ex.alloc x2.fh hp)) (.tup zam (r2.mono (Same.alloc (x2.fh.free hp))))
 ·cases q
def zha(h:VA X es fs):VE X (.List es pos) (zde fs):=by
 obtain⟨t,w,sm⟩:=h.h;refine⟨_,wlst w,λB F H σ δ res Q s q k=>?_⟩;obtain⟨rs,q1,q⟩:=bind_some q;split at q
 ·rename_i hl;obtain⟨ds,q2,q⟩:=map_some q;cases q;refine sm B F H σ δ rs _ s q1 λvs F1 H1 x1 r1=>⟨by rw[r1.length];exact zjC hl,λp hp=>?_⟩
  obtain⟨F2,x2,_,r2⟩:=RepRs.frz x1 (Same.refl _) r1 q2;exact k _ _ _ (x2.trans (Ex.lay x2.fh hp)) ⟨p,vs,rfl,x2.hh.free hp,zam,r2,x2.fh.free hp⟩
 ·cases q
def vix{g:Ent->Ent->Option Ent}(hr:IxD X g)(ha:VE X a fa)(hb:VE X b fb)(hs:zjm b):VE X (.Subscript a b pos) (ex2 g fa fb):=
 let⟨_,wa,sa⟩:=ha.h;let⟨_,wb,sb⟩:=hb.h;let⟨_,h1,h2⟩:=hr;⟨_,wix h1 wa wb hs,.op h2 sa sb⟩
def eCB(g:List Ent->Option Ent)(fs:FA):FE:=λδ=>(fs δ).bind g
def SemE.cb{K:ag}{t:TA}{q:List V->Hp->VK->Prop}{g:List Ent->Option Ent}(hc:SemC K q g)(ha:SemA K t fs):SemE K (tCB q t) (eCB g fs):=λB F H σ δ res Q s q k=>by
 obtain⟨rs,q1,q⟩:=bind_some q;exact ha B F H σ δ rs _ s q1 λvs F1 H1 x1 r1=>hc H F1 H1 vs rs res Q x1.fh x1.hh r1 q λv' F' H' x2 r2=>k v' F' H' (x1.trans x2) r2
def vcb{id:String}{g:List Ent->Option Ent}(hc:zhE X (.builtin id) g)(hg:Gl X x)(hm:X.mg x=ab)(hv:aM x=aa (.builtin id))(ha:VA X (e::es) fs)(hn:x≠ "__name__" :=by decide)(hdb:(x==("__debug__" : Str))=false:=by decide)
  (h1:zaj e=true:=by rfl) (h2:es.all zaj=true:=by rfl):VE X (.Call (.Name x p) (e::es) [] pos) (eCB g fs):=
 let⟨_,wa,sa⟩:=ha.h;let⟨_,h3,h4⟩:=hc;⟨_,wcb h3 hg hm hv wa hn hdb h1 h2,.cb h4 sa⟩
def vct{T:String}{g:List Ent->Option Ent}(hc:zhE X (.type T) g)(hg:Gl X x)(hm:X.mg x=ab)(hv:aM x=aa (.type T))(ha:VA X (e::es) fs)(hn:x≠ "__name__" :=by decide)(hdb:(x==("__debug__" : Str))=false:=by decide)
  (h1:zaj e=true:=by rfl) (h2:es.all zaj=true:=by rfl):VE X (.Call (.Name x p) (e::es) [] pos) (eCB g fs):=
 let⟨_,wa,sa⟩:=ha.h;let⟨_,h3,h4⟩:=hc;⟨_,wct h3 hg hm hv wa hn hdb h1 h2,.cb h4 sa⟩
end
end L3

namespace L3
open PySem PySem.Spec PyProof.Rows L2
inductive Out where
 |nx (δ:En)|rt (r:Ent) (δ:En)|bk (δ:En)|ct (δ:En)
abbrev FS:=En->Option Out
structure FX(B F F':Hp):Prop where
 ff:Same F F'
 nw:∀a o,B a=aa o->isT o=false->F' a=F a
section
variable {K:ag}{B:Bd}{F H F' H' F2 H2 H0:Hp}{σ:Sg}{δ:En}{v:V}{d:D}{e:Ent}{l:ai}{vs:List V}{ds:List D}{DD:Ends}{out:Out}
def FX.refl:FX B F F:=⟨Same.refl F,λ_ _ _ _=>rfl⟩
def FX.trans(a:FX B F F')(b:FX B F' F2):FX B F F2:=⟨a.ff.trans b.ff,λx o e t=>(b.nw x o e t).trans (a.nw x o e t)⟩
def FX.of(x:Ex F H F' H')(s:Same B H):FX B F F':=⟨x.ff,λa o e t=>x.nw a o (s _ _ e) t⟩
def EndOk(K:ag)(B:Bd)(F:Hp)(DD:Ends):Out->Prop
 |.nx δ'=>∀σ' F' H',RS K B F' H' σ' δ'->FX B F F'->DD.nx σ' H'
 |.rt r δ'=>∀v σ' F' H',RS K B F' H' σ' δ'->FX B F F'->RepR K B F' H' v r->DD.rt v H'
 |.bk δ'=>∀σ' F' H',RS K B F' H' σ' δ'->FX B F F'->DD.bk σ' H'
 |.ct δ'=>∀σ' F' H',RS K B F' H' σ' δ'->FX B F F'->DD.ct σ' H'
def EndOk.mono(h:EndOk K B F DD out)(x:FX B F F'):EndOk K B F' DD out:=by
 cases out with
 |nx δ'=>exact λσ' F2 H2 s y=>h σ' F2 H2 s (x.trans y)
 |rt r δ'=>exact λv σ' F2 H2 s y z=>h v σ' F2 H2 s (x.trans y) z
 |bk δ'=>exact λσ' F2 H2 s y=>h σ' F2 H2 s (x.trans y)
 |ct δ'=>exact λσ' F2 H2 s y=>h σ' F2 H2 s (x.trans y)
def RS.put(s:RS K B F H σ δ)(i:Nat)(r:RepN K B F H v e)(hne:e.lk=true->∀j e',j≠i->δ[j]? =aa (aa e')->e'.lk=true->∀l,v=.ref l->σ[j]?≠aa (aa (.ref l)))
  (hpn:e.isO=true->0<i\/(∀p,B.pin≠aa p)\/B.pin=aa v) (hno:∀j e' w a,j≠i->δ[j]? =aa (aa e')->σ[j]? =aa (aa w)->(e.isO=true\/e'.isO=true)->Occ K F H v e a->Occ K F H w e' a->False) :
  RS K B F H (σ.set i (aa v)) (δ.set i (aa e)):=by
 have hl:=s.len;refine⟨s.fh,s.bh,by simp[hl],λj e' h=>?_,λa b l ds e' hab h1 h2 h3 h4 h5=>?_,λa b e1 e2 v1 v2 ad hab h1 h2 h3 h4 h5 h6 h7=>?_,λw o hw ho=>?_⟩
 ·rw[bg]at h ⊢;by_cases hij:i=j
  ·subst hij;rw[if_pos rfl]at h ⊢;by_cases hi:i<δ.length
   ·rw[if_pos hi]at h;cases h;exact⟨v,by rw[if_pos (by lia)],r⟩
   ·rw[if_neg hi]at h;cases h
  ·rw[if_neg hij]at h ⊢;exact s.ent j e' h
 ·rw[bg]at h1 h2 h3 h5;by_cases hia:i=a
  ·subst hia;rw[if_pos rfl]at h1 h2;rw[if_neg hab]at h3 h5;by_cases hi:i<δ.length
   ·rw[if_pos hi]at h1;rw[if_pos (by lia)]at h2;cases h1;cases h2;exact hne rfl b e' (cN hab) h3 h4 l rfl h5
   ·rw[if_neg hi]at h1;cases h1
  ·rw[if_neg hia]at h1 h2;by_cases hib:i=b
   ·subst hib;rw[if_pos rfl]at h3 h5;by_cases hi:i<δ.length
    ·rw[if_pos hi]at h3;rw[if_pos (by lia)]at h5;cases h3;cases h5;exact hne h4 a _ hab h1 rfl l rfl h2
    ·rw[if_neg hi]at h3;cases h3
   ·rw[if_neg hib]at h3 h5;exact s.ap a b l ds e' hab h1 h2 h3 h4 h5
 ·rw[bg]at h1 h2 h3 h4;by_cases hia:i=a
  ·subst hia;rw[if_pos rfl]at h1 h2;rw[if_neg hab]at h3 h4;by_cases hi:i<δ.length
   ·rw[if_pos hi]at h1;rw[if_pos (by lia)]at h2;cases h1;cases h2;exact hno b _ _ ad (cN hab) h3 h4 (.inl h5) h6 h7
   ·rw[if_neg hi]at h1;cases h1
  ·rw[if_neg hia]at h1 h2;by_cases hib:i=b
   ·subst hib;rw[if_pos rfl]at h3 h4;by_cases hi:i<δ.length
    ·rw[if_pos hi]at h3;rw[if_pos (by lia)]at h4;cases h3;cases h4;exact hno a _ _ ad hab h1 h2 (.inr h5) h7 h6
    ·rw[if_neg hi]at h3;cases h3
   ·rw[if_neg hib]at h3 h4;exact s.ao a b e1 e2 v1 v2 ad hab h1 h2 h3 h4 h5 h6 h7
 ·rw[bg]at ho ⊢;by_cases hi:i=0
  ·subst hi;rw[if_pos rfl]at ho ⊢;split at ho
   ·cases ho;rw[if_pos (by lia)];rcases hpn rfl with z|z|z
    ·lia
    ·exact absurd hw (z w)
    ·rw[hw]at z;exact congrArg (λx=>aa x) z.symm
   ·cases ho
  ·rw[if_neg hi]at ho ⊢;exact s.pn w o hw ho
def RS.putV(s:RS K B F H σ δ)(i:Nat)(r:Rep F v d):RS K B F H (σ.set i (aa v)) (δ.set i (aa (.val d))):=s.put i r (λh=>by cases h) (λh=>by cases h) λ_ _ _ _ _ _ _ _ h _=>h
def RS.drop(s:RS K B F H σ δ)(i:Nat):RS K B F H σ (δ.set i ab):=by
 refine⟨s.fh,s.bh,by simp[s.len],λj e h=>?_,λa b l ds e hab h1 h2 h3 h4=>?_,λa b e1 e2 v1 v2 ad hab h1 h2 h3 h4 h5 h6 h7=>?_,λw o hw ho=>?_⟩
 ·rw[bg]at h;split at h
  ·split at h <;> cases h
  ·exact s.ent j e h
 ·rw[bg]at h1 h3;split at h1
  ·split at h1 <;> cases h1
  ·split at h3
   ·split at h3 <;> cases h3
   ·exact s.ap a b l ds e hab h1 h2 h3 h4
 ·rw[bg]at h1 h3;split at h1
  ·split at h1 <;> cases h1
  ·split at h3
   ·split at h3 <;> cases h3
   ·exact s.ao a b e1 e2 v1 v2 ad hab h1 h2 h3 h4 h5 h6 h7
 ·rw[bg]at ho;split at ho
  ·split at ho <;> cases ho
  ·exact s.pn w o hw ho
def RS.lies{i:Nat}(s:RS K B F H σ δ)(h:δ[i]? =aa (aa e))(k:e.lk=true)(q:σ[i]? =aa (aa (.ref l))):∃o,H l=aa o:=by
 obtain⟨v,h1,h2⟩:=s.ent i e h;rw[q]at h1;cases h1;cases e with
 |own ds=>obtain⟨l',vs,e,h3,_⟩:=h2;cases e;exact⟨_,h3⟩
 |vw ds=>obtain⟨l',vs,e,h3,_⟩:=h2;cases e;exact⟨_,h3⟩
 | _=>cases k
def toN:Ent->Option Ent
 |.val d=>aa (.val d)
 |.own ds=>aa (.own ds)
 | _=>ab
def RS.putR{e':Ent}(s:RS K B F H σ δ)(x:Ex F H F' H')(i:Nat)(r:RepR K H F' H' v e)(q:toN e=aa e'):RS K B F' H' (σ.set i (aa v)) (δ.set i (aa e')):=by
 cases e with
 |val d=>cases q;exact(s.ext x).putV i r
 |own ds=>
  cases q;obtain⟨l,vs,e,h0,h1,rs,h2⟩:=r;refine(s.ext x).put i ⟨l,vs,e,h1,rs,h2,s.bh.free h0⟩ (λ_ j e' _ h3 h4 l' ex2 h5=>?_) (λz=>by cases z) λj e' w a _ h3 h4 _ h5 h6=>?_
  ·rw[e]at ex2;cases ex2;obtain⟨o,h6⟩:=s.lies h3 h4 h5;rw[h0]at h6;cases h6
  ·obtain⟨u,h7⟩:=s.occ h3 h4 (h6.backX (s.at h3 h4) x);rw[e]at h5;cases (show V.ref l=.ref a from h5);rw[h0]at h7;cases h7
 | _=>cases q
def RS.putO{o:OT}(s:RS K B F H σ δ)(x:Ex F H F' H')(i:Nat)(h0:0<i)(r:RepR K H F' H' v (.obj o)):RS K B F' H' (σ.set i (aa v)) (δ.set i (aa (.obj o))):=by
 obtain⟨_,A,t,n,h⟩:=r;refine(s.ext x).put i ⟨A,t,n,λa ha=>⟨(h a ha).1,s.bh.free (h a ha).2⟩⟩ (λz=>by cases z) (λ_=>.inl h0) λj e' w a _ h3 h4 _ h5 h6=>?_;obtain⟨u,h7⟩:=s.occ h3 h4 (h6.backX (s.at h3 h4) x);obtain⟨A',t',h5⟩:=h5;rw[t'.det t]at h5;rw[(h a h5).2]at h7;cases h7
def RS.mut{i:Nat}{ds':List D}{vs':List V}(s:RS K B F H σ δ)(hi:δ[i]? =aa (aa (.own ds)))(hs:σ[i]? =aa (aa (.ref l)))(r:Reps F vs' ds'):RS K B F (upd H l (.lst vs')) σ (δ.set i (aa (.own ds'))):=by
 obtain⟨v,h1,l',vs,e,h2,h3,h4,h5⟩:=s.ent i _ hi;rw[hs]at h1;cases h1;cases e;have mv:∀(j:Nat) (w:V) (o:OT) (A:List ai),i≠j->δ[j]? =aa (aa (.obj o))->σ[j]? =aa (aa w)->TR K F H w o A->TR K F (upd H l (.lst vs')) w o A:=λj w o A hij q q' t=>
  t.move (Same.refl F) λa ha=>zar λz=>by subst z;exact s.ao j i _ _ _ _ a (cN hij) q q' hi hs rfl ⟨A,t,ha⟩ rfl
 refine⟨λb o q=>?_,λb o q=>?_,by simp[s.len],λj e q=>?_,λa b l2 es e' hab q1 q2 q3 q4=>?_,λa b e1 e2 v1 v2 ad hab q1 q2 q3 q4 q5 q6 q7=>?_,λw o hw ho=>?_⟩
 ·rw[zar (zaC q h4)];exact s.fh b o q
 ·rw[zar (zaC q h5)];exact s.bh b o q
 ·rw[bg]at q;by_cases hij:i=j
  ·subst hij;rw[if_pos rfl]at q;split at q
   ·cases q;exact⟨_,hs,l,vs',rfl,zam,r,h4,h5⟩
   ·cases q
  ·rw[if_neg hij]at q;obtain⟨w,p1,p2⟩:=s.ent j e q;refine⟨w,p1,?_⟩;cases e with
   |val d=>exact p2
   |bor ds=>exact p2
   |own es=>
    obtain⟨l2,ws,ex2,p3,p4,p5,p6⟩:=p2;refine⟨l2,ws,ex2,?_,p4,p5,p6⟩;rw[zar (λz=>s.ap i j l ds _ hij hi hs q rfl (by rw[p1,ex2,z]))];exact p3
   |vw es=>
    obtain⟨l2,ws,ex2,p3,p4⟩:=p2;refine⟨l2,ws,ex2,?_,p4⟩;rw[zar (λz=>s.ap i j l ds _ hij hi hs q rfl (by rw[p1,ex2,z]))];exact p3
   |obj o=>
    obtain⟨A,t,n,h⟩:=p2;exact⟨A,mv j w o A hij q p1 t,n,h⟩
   |bt ds=>exact p2
 ·rw[bg]at q1 q3;by_cases hia:i=a
  ·subst hia;rw[if_neg hab]at q3;exact s.ap i b l2 ds e' hab hi q2 q3 q4
  ·rw[if_neg hia]at q1;by_cases hib:i=b
   ·subst hib;exact s.ap a i l2 es _ hab q1 q2 hi rfl
   ·rw[if_neg hib]at q3;exact s.ap a b l2 es e' hab q1 q2 q3 q4
 ·rw[bg]at q1 q3;have bk:∀(j:Nat) (e:Ent) (w:V),i≠j->δ[j]? =aa (aa e)->σ[j]? =aa (aa w)->Occ K F (upd H l (.lst vs')) w e ad->Occ K F H w e ad:=λj e w hij z1 z2 z3=>z3.back (s.at z1 z2) λo A he t=>by
   subst he;exact mv j w o A hij z1 z2 t
  by_cases hia:i=a
  ·subst hia;rw[if_pos rfl]at q1;split at q1
   ·cases q1;cases q5
   ·cases q1
  ·rw[if_neg hia]at q1;by_cases hib:i=b
   ·subst hib;rw[if_pos rfl]at q3;split at q3
    ·cases q3;rw[hs]at q4;cases q4;exact s.ao a i e1 _ v1 _ ad hab q1 q2 hi hs q5 (bk a e1 v1 hia q1 q2 q6) q7
    ·cases q3
   ·rw[if_neg hib]at q3;exact s.ao a b e1 e2 v1 v2 ad hab q1 q2 q3 q4 q5 (bk a e1 v1 hia q1 q2 q6) (bk b e2 v2 hib q3 q4 q7)
 ·rw[bg]at ho;split at ho
  ·split at ho <;> cases ho
  ·exact s.pn w o hw ho
def RS.frz{i:Nat}(s:RS K B F H σ δ)(hi:δ[i]? =aa (aa (.own ds))):∃F',FX B F F'/\RS K B F' H σ (δ.set i (aa (.val (.lst ds)))):=by
 obtain⟨v,h1,l,vs,e,h2,h3,h4,h5⟩:=s.ent i _ hi;subst e;refine⟨upd F l (.lst vs),⟨Same.alloc h4,λa o e _=>zar (zaC e h5)⟩,?_⟩;have sm:Same F (upd F l (.lst vs)):=Same.alloc h4;refine⟨λb o q=>?_,s.bh,by simp[s.len],λj e q=>?_,λa b l2 es e' hab q1 q2 q3 q4=>?_,λa b e1 e2 v1 v2 ad hab q1 q2 q3 q4 q5 q6 q7=>?_,λw o hw ho=>?_⟩
 ·by_cases hb:b=l
  ·subst hb;rw[zam]at q;cases q;exact h2
  ·rw[zar hb]at q;exact s.fh b o q
 ·rw[bg]at q;by_cases hij:i=j
  ·subst hij;rw[if_pos rfl]at q;split at q
   ·cases q;exact⟨_,h1,.lst zam (h3.mono sm)⟩
   ·cases q
  ·rw[if_neg hij]at q;obtain⟨w,p1,p2⟩:=s.ent j e q;refine⟨w,p1,?_⟩;cases e with
   |val d=>exact Rep.mono sm p2
   |bor es=>obtain⟨l2,ws,ex2,p3,p4⟩:=p2;exact⟨l2,ws,ex2,p3,p4.mono sm⟩
   |own es=>
    obtain⟨l2,ws,ex2,p3,p4,p5,p6⟩:=p2;refine⟨l2,ws,ex2,p3,p4.mono sm,?_,p6⟩;rw[zar (λz=>s.ap i j l ds _ hij hi h1 q rfl (by rw[p1,ex2,z]))];exact p5
   |vw es=>obtain⟨l2,ws,ex2,p3,p4⟩:=p2;exact⟨l2,ws,ex2,p3,p4.mono sm⟩
   |obj o=>
    obtain⟨A,t,n,h⟩:=p2;refine⟨A,t.move sm λ_ _=>rfl,n,λa ha=>⟨?_,(h a ha).2⟩⟩;rw[zar (λz=>by subst z;exact s.ao j i _ _ _ _ a (cN hij) q p1 hi h1 rfl ⟨A,t,ha⟩ rfl)];exact(h a ha).1
   |bt es=>obtain⟨l2,ws,ex2,p3,p4⟩:=p2;exact⟨l2,ws,ex2,p3,p4.mono sm⟩
 ·rw[bg]at q1 q3;by_cases hia:i=a
  ·subst hia;rw[if_pos rfl]at q1;split at q1 <;> cases q1
  ·rw[if_neg hia]at q1;by_cases hib:i=b
   ·subst hib;rw[if_pos rfl]at q3;split at q3
    ·cases q3;cases q4
    ·cases q3
   ·rw[if_neg hib]at q3;exact s.ap a b l2 es e' hab q1 q2 q3 q4
 ·rw[bg]at q1 q3;by_cases hia:i=a
  ·subst hia;rw[if_pos rfl]at q1;split at q1
   ·cases q1;cases q5
   ·cases q1
  ·rw[if_neg hia]at q1;have b1:=q6.back (s.at q1 q2) λo A _ t=>t.move sm λ_ _=>rfl;by_cases hib:i=b
   ·subst hib;rw[if_pos rfl]at q3;split at q3
    ·cases q3;exact q7
    ·cases q3
   ·rw[if_neg hib]at q3;exact s.ao a b e1 e2 v1 v2 ad hab q1 q2 q3 q4 q5 b1 (q7.back (s.at q3 q4) λo A _ t=>t.move sm λ_ _=>rfl)
 ·rw[bg]at ho;split at ho
  ·split at ho <;> cases ho
  ·exact s.pn w o hw ho
end
def SemS(K:ag)(t:TS)(f:FS):Prop:=∀(B:Bd) (F H:Hp) (σ:Sg) (δ:En) (out:Out) (DD:Ends),RS K B F H σ δ->f δ=aa out->EndOk K B F DD out->t DD σ H
structure VS(X:Cx)(s:Stmt)(f:FS):Prop where
 h:∃t,WS X s t/\SemS X.K t f
structure VSs(X:Cx)(s:List Stmt)(f:FS):Prop where
 h:∃t,WSs X s t/\SemS X.K t f
def fNx:FS:=λδ=>aa (.nx δ)
def fNev:FS:=λ_=>ab
def sqO(g:FS):Out->Option Out
 |.nx δ=>g δ
 |o=>aa o
def zah(f g:FS):FS:=λδ=>(f δ).bind (sqO g)
def zaE(i:Nat)(fe:FE):FS:=λδ=>(fe δ).bind λr=>(toN r).map λe=>.nx (δ.set i (aa e))
def fIf(ft:FT)(f g:FS):FS:=λδ=>(ft δ).bind λb=>if b=true then f δ else g δ
def zaH(fe:FE):FS:=λδ=>(fe δ).bind λr=>(toN r).map λe=>.rt e δ
def zcU(i:Nat):FS:=λδ=>match δ[i]? with
 |some (aa (.own ds))=>aa (.rt (.own ds) (δ.set i ab))
 |some (aa (.val d))=>aa (.rt (.val d) δ)
 | _=>ab
def fFrz(i:Nat)(g:FS):FS:=λδ=>match δ[i]? with
 |some (aa (.own ds))=>g (δ.set i (aa (.val (.lst ds))))
 | _=>ab
noncomputable def zhw(i:Nat)(fe:FE):FS:=λδ=>match δ[i]? with
 |some (aa (.own ds))=>((fe δ).bind asV).bind λd=>gif (sz (ds.length+1)) (aa (.nx (δ.set i (aa (.own (ds++[d]))))))
 | _=>ab
def iOf:Ent->Option Int
 |.val (.int i)=>aa i
 | _=>ab
def zbD{e:Ent}{i:Int}(h:iOf e=aa i):e=.val (.int i):=by
 cases e with
 |val d=>cases d <;> first|(cases h;rfl)|(cases h)
 | _=>cases h
abbrev FG:=D->En->Option En
def lpO(lp:En->Option Out):Out->Option Out
 |.nx δ=>lp δ
 |.ct δ=>lp δ
 |.bk δ=>aa (.nx δ)
 |o=>aa o
def loop(tg:FG)(f:FS):List D->En->Option Out
 |[],δ=>aa (.nx δ)
 |d::ds,δ=>(tg d δ).bind λδ1=>(f δ1).bind (lpO (loop tg f ds))
abbrev FI:=En->Option (List D)
def zd4(fi:FI)(tg:FG)(f:FS):FS:=λδ=>(fi δ).bind λds=>loop tg f ds δ
def whl(c:FT)(f:FS):Nat->En->Option Out
 |0,_=>ab
 |n+1,δ=>(c δ).bind λb=>if b=true then (f δ).bind (lpO (whl c f n))else aa (.nx δ)
def gNm(i:Nat):FG:=λd δ=>aa (δ.set i (aa (.val d)))
abbrev FGs:=List D->En->Option En
def zfH:FGs:=λds δ=>match ds with
 |[]=>aa δ
 | _=>ab
def zbM(g:FG)(gs:FGs):FGs:=λds δ=>match ds with
 |d::r=>(g d δ).bind (gs r)
 |[]=>ab
def gTp(gs:FGs):FG:=λd δ=>match d with
 |.tup ds=>gs ds δ
 | _=>ab
def SemG(K:ag)(g:TG)(tg:FG):Prop:=∀(B:Bd) (F H:Hp) (σ:Sg) (δ δ':En) (v:V) (d:D) (Q:L2.St->Hp->Prop),RS K B F H σ δ->Rep F v d->tg d δ=aa δ'->(∀σ',RS K B F H σ' δ'->Q σ' H)->g v σ H Q
def SemGs(K:ag)(g:TGs)(tg:FGs):Prop:=∀(B:Bd) (F H:Hp) (σ:Sg) (δ δ':En) (vs:List V) (ds:List D) (Q:L2.St->Hp->Prop),RS K B F H σ δ->Reps F vs ds->tg ds δ=aa δ'->(∀σ',RS K B F H σ' δ'->Q σ' H)->g vs σ H Q
structure VG(X:Cx)(e:Expr)(f:FG):Prop where
 h:∃t,WG X e t/\SemG X.K t f
structure VGs(X:Cx)(es:List Expr)(f:FGs):Prop where
 h:∃t,WGs X es t/\SemGs X.K t f
def ItOk(B F0:Hp)(J:It)(ds:List D):Prop:=∀F H,Same F0 F->Same F H->Same B H->J.stop ds.length H/\∀(i:Nat) (d:D),ds[i]? =aa d->J.go i H/\∀x H',J.yld i H x H'->∃F',Ex F H F' H'/\Rep F' x d
def SemI(K:ag)(t:TI)(fi:FI):Prop:=∀(B:Bd) (F H:Hp) (σ:Sg) (δ:En) (ds:List D) (R:It->Hp->Prop),RS K B F H σ δ->fi δ=aa ds->(∀J F' H',Ex F H F' H'->ItOk B F' J ds->R J H')->t σ H R
structure VI(X:Cx)(tg e:Expr)(f:FI):Prop where
 h:∃t,WI X tg e t/\SemI X.K t f
section
variable {X:Cx}{e c tg iter:Expr}{es:List Expr}{pos pos' p:Pos}{fe fa:FE}{ft:FT}{x:Str}{st:Stmt}{sr body els:List Stmt}{f g:FS}{fi:FI}{tgf:FG}{tgs:FGs}
def ss0:VSs X [] fNx:=⟨_,s0,λB F H σ δ out DD s q k=>by cases q;exact k σ F H s FX.refl⟩
def ss1(h:VS X st f):VSs X [st] f:=let⟨_,w,s⟩:=h.h;⟨_,s1 w,s⟩
def ssc(h1:VS X st f)(h2:VSs X sr g):VSs X (st::sr) (zah f g):=by
 obtain⟨t,w1,m1⟩:=h1.h;obtain⟨u,w2,m2⟩:=h2.h;refine⟨_,sc w1 w2,λB F H σ δ out DD s q k=>?_⟩;obtain⟨o,q1,q⟩:=bind_some q;refine m1 B F H σ δ o _ s q1 ?_;cases o with
 |nx δ'=>exact λσ' F' H' s' y=>m2 B F' H' σ' δ' out DD s' q (k.mono y)
 |rt r δ'=>cases q;exact k
 |bk δ'=>cases q;exact k
 |ct δ'=>cases q;exact k
def sNev:VS X st fNev:=⟨_,snev,λB F H σ δ out DD s q k=>by cases q⟩
def ssNev:VSs X sr fNev:=⟨_,ssn,λB F H σ δ out DD s q k=>by cases q⟩
def sFrz(i:Nat)(h:VSs X sr g):VSs X sr (fFrz i g):=by
 obtain⟨u,w2,m2⟩:=h.h;refine⟨_,w2,λB F H σ δ out DD s q k=>?_⟩;unfold fFrz at q;split at q
 ·rename_i ds hi;obtain⟨F',x,s'⟩:=s.frz hi;exact m2 B F' H σ _ out DD s' q (k.mono x)
 ·cases q
def SemE.ret{K:ag}{t:TE}(m:SemE K t fe):SemS K (tRet t) (zaH fe):=λB F H σ δ out DD s q k=>by
 obtain⟨r,q1,q⟩:=bind_some q;obtain⟨e,q2,q⟩:=map_some q;cases q;refine m B F H σ δ r _ s q1 λv F' H' x z=>k v σ F' H' (s.ext x) (.of x s.bh) ?_;cases r with
 |val d=>cases q2;exact z
 |own ds=>cases q2;exact RepR.earlier z s.bh
 | _=>cases q2
def zbx(he:VE X e fe):VS X (.Return (aa e) pos) (zaH fe):=let⟨_,w,m⟩:=he.h;⟨_,sret w,m.ret⟩
def ziZ(i:Nat)(hN:X.N[i]? =aa x:=by rfl)(hv:Vis X.env.scope x:=by first|exact aD rfl|exact bA (aD rfl)|exact bA (bA rfl))(hd:(x==("__debug__" : Str))=false:=by decide)
  (hcd:(x==("__classdict__" : Str))=false:=by decide):VS X (.Return (aa (.Name x p)) pos) (zcU i):=by
 refine⟨_,sret (wv i hN hv hd hcd),λB F H σ δ out DD s q k=>?_⟩;unfold zcU at q;split at q
 ·rename_i ds e;cases q;obtain⟨v,h1,h2⟩:=s.ent i _ e;refine⟨v,h1,k v σ F H (s.drop i) .refl ?_⟩;obtain⟨l,vs,e,h3,h4,h5,h6⟩:=h2;exact⟨l,vs,e,h6,h3,h4,h5⟩
 ·rename_i d e;cases q;obtain⟨v,h1,h2⟩:=s.ent i _ e;exact⟨v,h1,k v σ F H s .refl h2⟩
 ·cases q
def sIf(hc:VT X c ft)(ha:VSs X body f)(hb:VSs X els g):VS X (.If c body els pos) (fIf ft f g):=by
 obtain⟨t,w,m⟩:=hc.h;obtain⟨t1,w1,m1⟩:=ha.h;obtain⟨t2,w2,m2⟩:=hb.h;refine⟨_,sif w w1 w2,λB F H σ δ out DD s q k=>?_⟩;obtain⟨b,q1,q⟩:=bind_some q;refine m B F H σ δ b _ s q1 λF' H' x=>?_;cases b with
 |true=>exact iteT (m1 B F' H' σ δ out DD (s.ext x) q (k.mono (.of x s.bh)))
 |false=>exact iteF (m2 B F' H' σ δ out DD (s.ext x) q (k.mono (.of x s.bh)))
def SemE.set{K:ag}{t:TE}(i:Nat)(m:SemE K t fe):SemS K (tAsg t (zhb i)) (zaE i fe):=λB F H σ δ out DD s q k=>by
 obtain⟨r,q1,q⟩:=bind_some q;obtain⟨e,q2,q⟩:=map_some q;cases q;exact m B F H σ δ r _ s q1 λv F' H' x z=>k _ F' H' (s.putR x i z q2) (.of x s.bh)
def zbZ{i:Nat}(hN:X.N.Nodup)(hi:X.N[i]? =aa x)(hx:Loc X.env.scope x)(he:VE X e fe)(hs:swapsWith e (aa (.Name x pos')) pos.line X.env=pure false:=by rfl)(hf:X.fn x=true\/X.env.scope.names.lookup x=aa .local:=by first|exact .inl rfl|exact .inr rfl|assumption) :
  VS X (.Assign [.Name x pos'] e pos) (zaE i fe):=let⟨_,w,m⟩:=he.h;⟨_,sset hN hi hx w hs hf,m.set i⟩
def fAsg(tg:FG)(fe:FE):FS:=λδ=>((fe δ).bind asV).bind λd=>(tg d δ).map .nx
def sAsg(he:VE X e fe)(hg:VG X tg tgf)(hs:swapsWithSole [tg] e pos.line X.env=pure false:=by rfl)(hw:swappedStores [tg] e X.env=pure ab:=by rfl)(h1:(cH [tg] X.env).map (·.2)=[assign tg X.env]:=by rfl):VS X (.Assign [tg] e pos) (fAsg tgf fe):=by
 obtain⟨t,w,m⟩:=he.h;obtain⟨t1,w1,m1⟩:=hg.h;refine⟨_,sasg w w1 hs hw h1,λB F H σ δ out DD s q k=>?_⟩;obtain⟨d,q1,q⟩:=bind_some q;obtain⟨δ',q2,q⟩:=map_some q;obtain⟨r,q3,q4⟩:=bind_some q1;cases q;refine m B F H σ δ r _ s q3 λv F' H' x z=>?_;obtain⟨F2,x2,_,r2⟩:=RepR.frz x (Same.refl _) z q4;exact m1 B F2 H' σ δ δ' v d _ (s.ext x2) r2 q2 λσ' s'=>k σ' F2 H' s' (.of x2 s.bh)
def gnm{i:Nat}(hN:X.N.Nodup)(hi:X.N[i]? =aa x)(hx:Loc X.env.scope x)(hf:X.fn x=true\/X.env.scope.names.lookup x=aa .local:=by first|exact .inl rfl|exact .inr rfl|assumption):VG X (.Name x pos) (gNm i):=
 ⟨_,gn hN hi hx hf,λB F H σ δ δ' v d Q s r q k=>by cases q;exact k _ (s.putV i r)⟩
def gns0:VGs X [] zfH:=⟨_,gs0,λB F H σ δ δ' vs ds Q s r q k=>by
 cases r with
 |nil=>cases q;exact⟨rfl,k σ s⟩
 |cons _ _=>cases q⟩
def zj9(h1:VG X e tgf)(h2:VGs X es tgs)(hs:(cH (e::es) X.env).map (·.2)=assign e X.env::(cH es X.env).map (·.2):=by rfl):VGs X (e::es) (zbM tgf tgs):=by
 obtain⟨t,w,m⟩:=h1.h;obtain⟨t1,w1,m1⟩:=h2.h;refine⟨_,gs1 w w1 hs,λB F H σ δ δ' vs ds Q s r q k=>?_⟩;cases r with
 |nil=>cases q
 |cons r1 r2=>
  obtain⟨δ1,q1,q⟩:=bind_some q;exact⟨_,_,rfl,m B F H σ δ δ1 _ _ _ s r1 q1 λσ' s'=>m1 B F H σ' δ1 δ' _ _ _ s' r2 q k⟩
def gtp{k n:Nat}(hc:X.calm=true)(h:VGs X es tgs)(hn:(cH es X.env).length=n:=by rfl)(hst:(cH es X.env).findIdx? (·.1)=ab:=by rfl)(hl:∀ds δ δ',tgs ds δ=aa δ'->ds.length=n:=by intro ds δ δ' h;match ds,h with|[_],_=>rfl|[_,_],_=>rfl|[_,_,_],_=>rfl|[_,_,_,_],_=>rfl):VG X (.Tuple es k pos) (gTp tgs):=by
 obtain⟨t,w,m⟩:=h.h;refine⟨_,gt hc w hn hst,λB F H σ δ δ' v d Q s r q k=>?_⟩;cases d with
 |tup ds=>
  cases r with
  |tup e rs=>exact⟨_,_,rfl,SqT.of (s.fh _ _ e),by rw[rs.length];exact hl _ _ _ q,m B F H σ δ δ' _ ds _ s rs q k⟩
 | _=>cases q
def SemS.for{K:ag}{wi:TI}{g:TG}{tb:TS}(mi:SemI K wi fi)(mg:SemG K g tgf)(mb:SemS K tb f):SemS K (tFor wi g tb) (zd4 fi tgf f):=λB F H σ δ out DD s q k=>by
 obtain⟨ds,q1,q⟩:=bind_some q;refine mi B F H σ δ ds _ s q1 λJ F1 H1 x1 io=>?_;have k1:EndOk K B F1 DD out:=k.mono (.of x1 s.bh);refine⟨λi m σ' H'=>m=ds.length-i/\i<=ds.length/\∃F' δ',RS K B F' H' σ' δ'/\FX B F1 F'/\loop tgf f (ds.drop i) δ'=aa out,⟨_,rfl,aU _,F1,δ,s.ext x1,.refl,q⟩,?_⟩;rintro i m σ' H' ⟨rfl,hi,F',δ',s',y',q'⟩;obtain⟨hstop,hgo⟩:=io F' H' y'.ff s'.fh s'.bh;by_cases hlt:i<ds.length
 ·right;have hd:ds[i]? =aa ds[i]:=by simp[hlt]
  obtain⟨g1,g2⟩:=hgo i _ hd;rw[bq hlt]at q';obtain⟨δ1,q2,q'⟩:=bind_some q';obtain⟨o,q3,q'⟩:=bind_some q';refine⟨g1,λσ2 H2=>ds.length-(i+1)=ds.length-(i+1)/\i+1<=ds.length/\∃F' δ',RS K B F' H2 σ2 δ'/\FX B F1 F'/\loop tgf f (ds.drop (i+1)) δ'=aa out,λσ2 H2 hN=>⟨_,by lia,hN⟩,λv H2 yl=>?_⟩;obtain⟨F2,x2,r2⟩:=g2 v H2 yl;refine mg B F2 H2 σ' δ' δ1 v _ _ (s'.ext x2) r2 q2 λσ3 s3=>?_;have y2:FX B F1 F2:=y'.trans (.of x2 s'.bh)
  refine mb B F2 H2 σ3 δ1 o _ s3 q3 ?_;cases o with
  |nx δ2=>exact λσ4 F4 H4 s4 y4=>⟨rfl,hlt,F4,δ2,s4,y2.trans y4,q'⟩
  |ct δ2=>exact λσ4 F4 H4 s4 y4=>⟨rfl,hlt,F4,δ2,s4,y2.trans y4,q'⟩
  |bk δ2=>cases q';exact λσ4 F4 H4 s4 y4=>k1 σ4 F4 H4 s4 (y2.trans y4)
  |rt r δ2=>cases q';exact λv σ4 F4 H4 s4 y4 z=>k1 v σ4 F4 H4 s4 (y2.trans y4) z
 ·left;have e:i=ds.length:=by lia
  subst e;rw[ik]at q';cases q';exact⟨hstop,k1 σ' F' H' s' y'⟩
def zhK(hi:VI X tg iter fi)(hg:VG X tg tgf)(hb:VSs X body f)(hp:PassesOwn (model X.prog X.w) X.A X.env X.xe:=by exact jZ)(hc:X.calm=true:=by rfl)(hs:∀z,ci iter X.env z=pure z:=by intro _;rfl):VS X (.For tg iter body [] pos) (zd4 fi tgf f):=
 let⟨_,wi,mi⟩:=hi.h;let⟨_,wg,mg⟩:=hg.h;let⟨_,wb,mb⟩:=hb.h;⟨_,sfor hp hc wi wg wb hs,.for mi mg mb⟩
def sWhl(n:Nat)(hc:VT X c ft)(hb:VSs X body f)(hp:PassesOwn (model X.prog X.w) X.A X.env X.xe:=by exact jZ):VS X (.While c body [] pos) (whl ft f n):=by
 obtain⟨tc,wc,mc⟩:=hc.h;obtain⟨tb,wb,mb⟩:=hb.h;refine⟨_,swhile hp wc wb,λB F H σ δ out DD s q k=>?_⟩;refine⟨λm σ' H'=>∃F' δ',RS X.K B F' H' σ' δ'/\FX B F F'/\whl ft f m δ'=aa out,⟨n,F,δ,s,.refl,q⟩,?_⟩;rintro m σ' H' ⟨F',δ',s',y',q'⟩;cases m with
 |zero=>cases q'
 |succ m=>
  obtain⟨b,q1,q'⟩:=bind_some q';refine mc B F' H' σ' δ' b _ s' q1 λF1 H1 x1=>?_;have y1:FX B F F1:=y'.trans (.of x1 s'.bh)
  cases b with
  |false=>cases q';exact iteF (k σ' F1 H1 (s'.ext x1) y1)
  |true=>
   refine iteT ?_;obtain⟨o,q3,q'⟩:=bind_some q';refine⟨λσ2 H2=>∃F' δ',RS X.K B F' H2 σ2 δ'/\FX B F F'/\whl ft f m δ'=aa out,λσ2 H2 hN=>⟨m,cP m,hN⟩,?_⟩;refine mb B F1 H1 σ' δ' o _ (s'.ext x1) q3 ?_;cases o with
   |nx δ2=>exact λσ4 F4 H4 s4 y4=>⟨F4,δ2,s4,y1.trans y4,q'⟩
   |ct δ2=>exact λσ4 F4 H4 s4 y4=>⟨F4,δ2,s4,y1.trans y4,q'⟩
   |bk δ2=>cases q';exact λσ4 F4 H4 s4 y4=>k σ4 F4 H4 s4 (y1.trans y4)
   |rt r δ2=>cases q';exact λv σ4 F4 H4 s4 y4 z=>k v σ4 F4 H4 s4 (y1.trans y4) z
def sApp(i:Nat){apos cpos:Pos}(he:VE X e fe)(hN:X.N[i]? =aa x:=by rfl)(hv:Vis X.env.scope x:=by first|exact aD rfl|exact bA (aD rfl)|exact bA (bA rfl))(hd:(x==("__debug__" : Str))=false:=by decide)(hcd:(x==("__classdict__" : Str))=false:=by decide)
  (hbase:b9 (.Name x p) "append" X.env (eval (.Name x p) X.env)=eval (.Name x p) X.env:=by rfl) (hline:(apos.endLine==cpos.line)=true:=by rfl) (h1:zaj e=true:=by rfl)
  (hs:swapsWith (.Call (.Attribute (.Name x p) "append" apos) [e] [] cpos) ab pos.line X.env=pure false:=by rfl) :
  VS X (.Expr (.Call (.Attribute (.Name x p) "append" apos) [e] [] cpos) pos) (zhw i fe):=by
 obtain⟨t,w,m⟩:=he.h;refine⟨_,sex (wbm fK im ip ze8 (wv i hN hv hd hcd) (wac w wnil h1) hbase rfl hline h1 rfl) hs,λB F H σ δ out DD s q k=>?_⟩;unfold zhw at q;split at q
 ·rename_i ds hi;obtain⟨d,q1,q⟩:=bind_some q;obtain⟨r,q2,q3⟩:=bind_some q1;obtain⟨hl,qz⟩:=zaO q;cases qz;obtain⟨v,h1,l,vs,e,h2,h3,h4,h5⟩:=s.ent i _ hi;subst e;refine⟨_,h1,.inl ⟨rfl,vs,SqL.of h2⟩,?_⟩;refine m B F H σ δ r _ s q2 λy F1 H1 x1 z=>?_;obtain⟨F2,x2,sm,r2⟩:=RepR.frz x1 (Same.refl _) z q3;refine⟨l,vs,y,rfl,rfl,x2.hh _ _ h2,?_,?_⟩
  ·rw[h3.length,cq];unfold sz at hl;lia
  ·exact k σ F2 _ ((s.ext x2).mut hi h1 ((h3.mono x2.ff).append (.one r2))) (.of x2 s.bh)
 ·cases q
end
def capt:Ent->Option Ent
 |.own ds=>aa (.vw ds)
 |.obj _=>ab
 |e=>aa e
def cEn(fr:List Nat)(δ:En)(d:D):En:=aa (.val d)::fr.map λi=>((δ[i]?).join).bind capt
def zdc(ft:D->Option Bool)(fe:D->Option Ent):List D->Option (List D)
 |[]=>aa []
 |d::ds=>(ft d).bind λb=>if b=true then ((fe d).bind asV).bind λy=>(zdc ft fe ds).map λys=>y::ys else zdc ft fe ds
def eLC(fr:List Nat)(fi:FI)(ft:FT)(fe:FE):FE:=λδ=>(fi δ).bind λds=>(zdc (λd=>ft (cEn fr δ d)) (λd=>fe (cEn fr δ d)) ds).bind λout=>if out.length<=1000000 then aa (.own out)else ab
def RS.cap{K:ag}{B:Bd}{F H:Hp}{σ:Sg}{δ:En}{v:V}{d:D}(s:RS K B F H σ δ)(fr:List Nat)(r:Rep F v d):RS K B F H (aa v::zfo fr σ) (cEn fr δ d):=by
 have key:∀(j:Nat) (e:Ent),(cEn fr δ d)[j+1]? =aa (aa e)->∃i e',fr[j]? =aa i/\δ[i]? =aa (aa e')/\capt e'=aa e:=λj e h=>by
  unfold cEn at h;rw[fI,aB]at h;cases q:fr[j]? with
  |none=>rw[q]at h;cases h
  |some i=>
   rw[q]at h;have h':((δ[i]?).join).bind capt=aa e:=aR h;obtain⟨e',h1,h2⟩:=bind_some h';refine⟨i,e',rfl,?_,h2⟩;cases z:δ[i]? with
   |none=>rw[z]at h1;cases h1
   |some o=>rw[z]at h1;rw[show o=aa e' from h1]
 refine⟨s.fh,s.bh,by simp[cEn,zfo],λj e h=>?_,λa b l ds e hab h1=>?_,λa b e1 e2 v1 v2 ad hab q1 _ _ _ q5=>?_,λw o _ ho=>by cases ho⟩
 ·cases j with
  |zero=>cases h;exact⟨v,rfl,r⟩
  |succ j=>
   obtain⟨i,e',h1,h2,h0⟩:=key j e h;obtain⟨w,h3,h4⟩:=s.ent i e' h2;refine⟨w,?_,?_⟩
   ·show(zfo fr σ)[j]? =aa (aa w);unfold zfo;rw[aB,h1];show aa ((σ[i]?).join)=_;rw[h3];rfl
   ·cases e' with
    |own ds=>cases h0;obtain⟨l,vs,e,h5,h6,_⟩:=h4;exact⟨l,vs,e,h5,h6⟩
    |obj o=>cases o <;> first|(cases h0;obtain⟨A,t,_⟩:=h4;exact⟨A,t⟩)|cases h0
    | _=>cases h0;exact h4
 ·cases a with
  |zero=>cases h1
  |succ a=>
   obtain⟨i,e',_,_,z⟩:=key a _ h1;cases e' with
   |obj o=>cases o <;> cases z
   | _=>cases z
 ·cases a with
  |zero=>cases q1;cases q5
  |succ a=>
   obtain⟨i,e',_,_,z⟩:=key a _ q1;cases e' with
   |obj o=>cases o <;> first|(cases z;cases q5)|cases z
   | _=>cases z <;> cases q5
def SemE.lc{K:ag}{fr:List Nat}{wi:TI}{tt:TT}{te:TE}{fi:FI}{ft:FT}{fe:FE}(mi:SemI K wi fi)(mt:SemT K tt ft)(me:SemE K te fe):SemE K (tLC fr wi tt te) (eLC fr fi ft fe):=λB F H σ δ res Q s q k=>by
 obtain⟨ds,q1,q⟩:=bind_some q;obtain⟨out,q2,q⟩:=bind_some q;split at q
 ·rename_i hlen;cases q;refine mi B F H σ δ ds _ s q1 λJ F1 H1 x1 io=>?_;intro a ha;refine⟨λi m ys H'=>m=ds.length-i/\i<=ds.length/\∃F' done rest,Ex F1 H1 F' H'/\F' a=ab/\H' a=aa (.lst ys)/\Reps F' ys done/\zdc (λd=>ft (cEn fr δ d)) (λd=>fe (cEn fr δ d)) (ds.drop i)=aa rest/\out=done++rest,
   ⟨_,rfl,aU _,F1,[],out,Ex.lay x1.fh ha,x1.fh.free ha,zam,.nil,q2,rfl⟩,?_⟩
  rintro i m ys H' ⟨rfl,hi,F',dn,rest,x',fa,hH,rs,q',eo⟩;have s':=(s.ext x1).ext x';obtain⟨hstop,hgo⟩:=io F' H' x'.ff x'.fh s'.bh;by_cases hlt:i<ds.length
  ·right;have hd:ds[i]? =aa ds[i]:=by simp[hlt]
   obtain⟨g1,g2⟩:=hgo i _ hd;rw[bq hlt]at q';obtain⟨b,q3,q'⟩:=bind_some q';refine⟨g1,λv H2 yl=>?_⟩;obtain⟨F2,x2,r2⟩:=g2 v H2 yl;have sc:=(s'.ext x2).cap fr r2;refine mt B F2 H2 _ _ b _ sc q3 λF3 H3 x3=>?_;have nn:∀{Fz Hz:Hp},Ex F' H' Fz Hz->Fz a=ab:=λx=>(x.nw _ _ hH rfl).trans fa;cases b with
   |false=>
    refine iteF ⟨ds.length-(i+1),by lia,rfl,hlt,F3,dn,rest,(x'.trans x2).trans x3,nn (x2.trans x3),(x2.trans x3).hh _ _ hH,rs.mono (x2.trans x3).ff,q',eo⟩
   |true=>
    refine iteT ?_;obtain⟨y,q4,q'⟩:=bind_some q';obtain⟨r,q5,q6⟩:=bind_some q4;obtain⟨rest',q7,q'⟩:=map_some q';cases q';refine me B F3 H3 _ _ r _ (sc.ext x3) q5 λw F4 H4 x4 z4=>?_;obtain⟨F5,x5,_,r5⟩:=RepR.frz x4 (Same.refl _) z4 q6;have xx:Ex F' H' F5 H4:=(x2.trans x3).trans x5;have hy:ys.length<aX:=by
     rw[rs.length,cq];have:out.length=dn.length+(rest'.length+1):=by rw[eo];simp
     lia
    refine⟨xx.hh _ _ hH,hy,ds.length-(i+1),by lia,rfl,hlt,F5,dn++[y],rest',?_,nn xx,zam,(rs.mono xx.ff).append (.one r5),q7,by rw[eo];simp⟩;have xo:=x'.trans xx;exact⟨xo.ff,λb o e=>by rw[zar (zaC e (nn xx))];exact xo.fh b o e,λb o e=>by rw[zar (zaC e ha)];exact xo.hh b o e,xo.nw⟩
  ·left;have e:i=ds.length:=by lia
   subst e;rw[ik]at q';cases q';rw[bp]at eo;subst eo;refine⟨hstop,k _ F' H' (x1.trans x') ⟨a,ys,rfl,x1.hh.free ha,hH,rs,fa⟩⟩
 ·cases q
def tD(K:ag)(f:FE):TE:=λσ H Q=>∃B F δ r,RS K B F H σ δ/\f δ=aa r/\∀v F' H',Ex F H F' H'->RepR K H F' H' v r->Q v H'
def tDT(K:ag)(f:FT):TT:=λσ H Q=>∃B F δ b,RS K B F H σ δ/\f δ=aa b/\∀F' H',Ex F H F' H'->Q b H'
def ziQ{K:ag}{f:FE}:SemE K (tD K f) f:=λB F _ _ δ r _ s q k=>⟨B,F,δ,r,s,q,k⟩
def zi1{K:ag}{f:FT}:SemT K (tDT K f) f:=λB F _ _ δ r _ s q k=>⟨B,F,δ,r,s,q,k⟩
def VE.uni{X:Cx}{e:Expr}{f:FE}(h:VE X e f):WE X e (tD X.K f):=
 let⟨_,w,m⟩:=h.h;⟨λpins s σ H Q I z=>let⟨B,F,δ,r,s',q,k⟩:=z;w.h pins s σ H Q I (m B F H σ δ r Q s' q k)⟩
def VTs.uni{X:Cx}{es:List Expr}{f:FT}(h:VTs X es f):WTs X es (tDT X.K f):=
 let⟨_,w,m⟩:=h.h;⟨λpins s σ H Q I z=>let⟨B,F,δ,r,s',q,k⟩:=z;w.h pins s σ H Q I (m B F H σ δ r Q s' q k)⟩
section
variable {X:Cx}{N:List Str}{fr:List Nat}{x:Str}{scope:Scope}{iter elt:Expr}{ifs:List Expr}{px pos:Pos}{fi:FI}{fe:FE}{ft:FT}
def vlc(S:CompSc X N fr x scope)(hi:VI X (.Name x px) iter fi)
  (ht:∀(C:ai) (s₀:ah) (H₀:Hp) (fp:List ai),VTs (cxC X N scope C s₀ H₀ fp) ifs ft) (he:∀(C:ai) (s₀:ah) (H₀:Hp) (fp:List ai),VE (cxC X N scope C s₀ H₀ fp) elt fe)
  (hc:X.calm=true:=by rfl) (hs:∀z,ci iter X.env z=pure z:=by intro _;rfl):VE X (.ListComp elt [⟨.Name x px,iter,ifs,0⟩] scope pos) (eLC fr fi ft fe):=
 let⟨_,w1,m1⟩:=hi.h;⟨_,wlc S hc w1 (λC s₀ H₀ fp=>(ht C s₀ H₀ fp).uni) (λC s₀ H₀ fp=>(he C s₀ H₀ fp).uni) hs,.lc m1 zi1 ziQ⟩
def sSetLC{i:Nat}{y:Str}{py spos:Pos}(hN:X.N.Nodup)(hi':X.N[i]? =aa y)(hy:Loc X.env.scope y)(S:CompSc X N fr x scope)(hi:VI X (.Name x px) iter fi)
  (ht:∀(C:ai) (s₀:ah) (H₀:Hp) (fp:List ai),VTs (cxC X N scope C s₀ H₀ fp) ifs ft) (he:∀(C:ai) (s₀:ah) (H₀:Hp) (fp:List ai),VE (cxC X N scope C s₀ H₀ fp) elt fe)
  (hc:X.calm=true:=by rfl) (hsw:swapsWith (.ListComp elt [⟨.Name x px,iter,ifs,0⟩] scope pos) (aa (.Name y py)) spos.line X.env=pure true:=by rfl)
  (hs:∀z,ci iter X.env z=pure z:=by intro _;rfl)
  (hf:X.fn y=true\/X.env.scope.names.lookup y=aa .local:=by first|exact .inl rfl|exact .inr rfl|assumption) :
  VS X (.Assign [.Name y py] (.ListComp elt [⟨.Name x px,iter,ifs,0⟩] scope pos) spos) (zaE i (eLC fr fi ft fe)):=
 let⟨_,w1,m1⟩:=hi.h;⟨_,ssetlc hN hi' hy S hc w1 (λC s₀ H₀ fp=>(ht C s₀ H₀ fp).uni) (λC s₀ H₀ fp=>(he C s₀ H₀ fp).uni) hsw hs hf,SemE.set i (.lc m1 zi1 ziQ)⟩
end
inductive Kd where
 |v|b|t
def ArgOk(K:ag)(F H:Hp)(v:V):Kd->D->Prop
 |.v,d=>Rep F v d
 |.b,.lst ds=>RBor K F H v ds
 |.b,_=>False
 |.t,.tup ds=>RBt K F H v ds
 |.t,_=>False
inductive ArgsOk(K:ag)(F H:Hp):List Kd->List V->List D->Prop
 |nil:ArgsOk K F H [] [] []
 |cons {k:Kd} {v:V} {d:D} {ks:List Kd} {vs:List V} {ds:List D}:ArgOk K F H v k d->ArgsOk K F H ks vs ds->ArgsOk K F H (k::ks) (v::vs) (d::ds)
inductive SpD(K:ag)(ks:List Kd)(g:List D->Option Ent)(vs:List V)(H:Hp)(Q:VK):Prop
 |mk (F:Hp) (ds:List D) (r:Ent):Same F H->ArgsOk K F H ks vs ds->g ds=aa r->(∀v F' H',Ex F H F' H'->RepR K H F' H' v r->Q v H')->SpD K ks g vs H Q
def spD(K:ag)(ks:List Kd)(g:List D->Option Ent):Sp:=λvs H Q _=>SpD K ks g vs H Q
def asT:Ent->Option (List D)
 |.val (.tup ds)=>aa ds
 |.bt ds=>aa ds
 | _=>ab
def RepR.toT{K:ag}{H0 F H:Hp}{v:V}{e:Ent}{ds:List D}(r:RepR K H0 F H v e)(h:Same F H)(q:asT e=aa ds):RBt K F H v ds:=by
 cases e with
 |val d=>
  cases d with
  |tup es=>
   cases q;cases (show Rep F v (.tup _)from r)with
   |tup e rs=>exact⟨_,_,rfl,SqT.of (h _ _ e),rs⟩
  | _=>cases q
 |bt es=>cases q;exact r
 | _=>cases q
def zbn:Kd->Ent->Option D
 |.v,e=>asV e
 |.b,e=>(asL e).map .lst
 |.t,e=>(asT e).map .tup
def zaA:List Kd->List Ent->Option (List D)
 |[],[]=>aa []
 |k::ks,e::es=>(zbn k e).bind λd=>(zaA ks es).map λds=>d::ds
 | _,_=>ab
section
variable {K:ag}{F H F' H' F2 H2:Hp}
def RepRs.args{ks:List Kd}{vs:List V}{es:List Ent}{ds:List D}{F':Hp}(x:Ex F H F' H')(s:Same F2 F')(h:RepRs K H F2 H' vs es)(q:zaA ks es=aa ds):∃F3,Ex F H F3 H'/\Same F' F3/\ArgsOk K F3 H' ks vs ds:=by
  induction h generalizing ks ds F' with
  |nil=>
    cases ks with
    |nil=>cases q;exact⟨F',x,Same.refl _,.nil⟩
    |cons _ _=>cases q
  |@cons _ e _ es r t ih=>
   cases ks with
   |nil=>cases q
   |cons k ks=>
    simp only[zaA]at q;obtain⟨d,q1,q⟩:=bind_some q;obtain⟨ds',q2,q⟩:=map_some q;cases q;cases k with
    |v=>
      obtain⟨F3,x3,s3,r3⟩:=r.frz x s q1;obtain⟨F4,x4,s4,r4⟩:=ih x3 (s.trans s3) q2;exact⟨F4,x4,s3.trans s4,.cons (Rep.mono s4 r3) r4⟩
    |b=>
      obtain⟨ls,q3,q4⟩:=map_some q1;cases q4;obtain⟨F4,x4,s4,r4⟩:=ih x s q2;refine⟨F4,x4,s4,.cons (k:=.b) ?_ r4⟩;obtain⟨l,vs,e,h1,h2⟩:=RepR.toL r (s.trans x.fh) q3;exact⟨l,vs,e,h1,h2.mono (s.trans s4)⟩
    |t=>
      obtain⟨ls,q3,q4⟩:=map_some q1;cases q4;obtain⟨F4,x4,s4,r4⟩:=ih x s q2;refine⟨F4,x4,s4,.cons (k:=.t) ?_ r4⟩;obtain⟨l,vs,e,h1,h2⟩:=RepR.toT r (s.trans x.fh) q3;exact⟨l,vs,e,h1,h2.mono (s.trans s4)⟩
end
def zag(ks:List Kd)(g:List D->Option Ent)(fs:FA):FE:=λδ=>((fs δ).bind (zaA ks)).bind g
section
variable {X:Cx}{es:List Expr}{e:Expr}{fs:FA}{x:Str}{p pos:Pos}{ks:List Kd}{g:List D->Option Ent}
def SemE.call{K:ag}{t:TA}{dvs:List V}{E:XK}(m:SemA K t fs)(hd:dvs=[]):SemE K (tCall (spD K ks g) dvs E t) (zag ks g fs):=λB F H σ δ res Q s q k=>by
 subst hd;obtain⟨ds,q1,q⟩:=bind_some q;obtain⟨rs,q2,q3⟩:=bind_some q1;refine m B F H σ δ rs _ s q2 λvs F1 H1 x1 r1=>?_;obtain⟨F2,x2,_,a2⟩:=RepRs.args x1 (Same.refl _) r1 q3;rw[bp];exact⟨F2,ds,res,x2.fh,a2,q,λv F' H' x3 r3=>k v F' H' (x2.trans x3) (r3.earlier x2.hh)⟩
def vcl{CX:CXT}{k j:Nat}{f:ai}{fd:bF}{ps:List Str}{st:Stmt}{E:XK}(F:FnOk X.prog X.w X.K X.mg X.base CX k f fd ps (spD X.K ks g))(D:Def X.K X.mg x st ps f fd)(hr:Room j X.A)(hg:Gl X x)(hx:zcK CX X E)
  (ha:VA X (e::es) fs) (hjk:k<=j:=by decide) (hdb:(x==("__debug__" : Str))=false:=by decide) (h1:zaj e=true:=by rfl) (h2:es.all zaj=true:=by rfl) :
  VE X (.Call (.Name x p) (e::es) [] pos) (zag ks g fs):=let⟨_,w,m⟩:=ha.h;⟨_,wcl F D hr hg hx w hjk hdb h1 h2,.call m rfl⟩
end
def stN:Kd->D->Option Ent
 |.v,d=>aa (.val d)
 |.b,.lst ds=>aa (.bor ds)
 |.b,_=>ab
 |.t,.tup ds=>aa (.bt ds)
 |.t,_=>ab
def stE:List Kd->List D->Option En
 |[],[]=>aa []
 |k::ks,d::ds=>(stN k d).bind λe=>(stE ks ds).map λes=>aa e::es
 | _,_=>ab
def zdg:Out->Option Ent
 |.rt r _=>aa r
 |.nx _=>aa (.val .non)
 | _=>ab
def zbb(ks:List Kd)(m:Nat)(f:FS)(ds:List D):Option Ent:=(stE ks ds).bind λes=>(f (es++az m ab)).bind zdg
def ArgsOk.start{K:ag}{F H:Hp}{ks:List Kd}{vs:List V}{ds:List D}{es:En}(h0:ArgsOk K F H ks vs ds)(q:stE ks ds=aa es):vs.length=es.length/\∀(i:Nat) (e:Ent),es[i]? =aa (aa e)->(∃v,vs[i]? =aa v/\RepN K H F H v e)/\e.lk=false/\e.isO=false:=by
 induction h0 generalizing es with
 |nil=>cases q;exact⟨rfl,λi e h=>by simp at h⟩
 |@cons k v d ks vs ds a t ih0=>
  simp only[stE]at q;obtain⟨e0,q1,q⟩:=bind_some q;obtain⟨es',q2,q⟩:=map_some q;cases q;obtain⟨hl,ih⟩:=ih0 q2;refine⟨by simp[hl],λi e h=>?_⟩;cases i with
  |succ i=>simpa using ih i e (by simpa using h)
  |zero=>
   have h':e0=e:=by simpa using h
   subst h';cases k with
   |v=>cases q1;exact⟨⟨v,rfl,a⟩,rfl,rfl⟩
   |b=>
    cases d with
    |lst ls=>
     cases q1;obtain⟨l,ws,e,h1,h2⟩:=a;exact⟨⟨v,rfl,l,ws,e,h1,h2⟩,rfl,rfl⟩
    | _=>cases q1
   |t=>
    cases d with
    |tup ls=>
     cases q1;obtain⟨l,ws,e,h1,h2⟩:=a;exact⟨⟨v,rfl,l,ws,e,h1,h2⟩,rfl,rfl⟩
    | _=>cases q1
def ArgsOk.length{K:ag}{F H:Hp}{ks:List Kd}{vs:List V}{ds:List D}(h:ArgsOk K F H ks vs ds):vs.length=ks.length:=h.rec (motive:=λks vs _ _=>vs.length=ks.length) rfl λ_ _ t=>congrArg (· + 1) t
section
variable {P:aK}{w:aO}{K:ag}{mg:Str->Option af}{base:aT}{x qual:Str}{st:Stmt}{f:ai}{fd:bF}{N ps:List Str}{k:Nat}{ks:List Kd}{g:List D->Option Ent}
end
end L3

namespace L3
open PySem PySem.Spec PyProof.Rows L2
def pI0(g:Int->Int->D):Ent->Ent->Option Ent:=λx y=>(iOf x).bind λi=>(iOf y).map λj=>.val (g i j)
noncomputable def pI(c:Int->Int->Prop)(g:Int->Int->D):Ent->Ent->Option Ent:=λx y=>(iOf x).bind λi=>(iOf y).bind λj=>gif (c i j) (aa (.val (g i j)))
def b64(i:Int):Prop:=-18446744073709551616<i/\i<18446744073709551616
def zdo{i:Int}(h:-18446744073709551616<i/\i<18446744073709551616):b64 i=True:=eq_true h
def psI(j:Int):Prop:=0<j
def zaN{j:Int}(h:0<j):psI j=True:=eq_true h
def dvI(j:Int):Prop:=0<j/\j<1073741824
def zca{j:Int}(h:0<j/\j<1073741824):dvI j=True:=eq_true h
def b64_of{i:Int}(h:-18446744073709551616<i/\i<18446744073709551616):b64 i:=h
section
variable {K:ag}
def semI0{g':Int->Int->V}{g:Int->Int->D}(h:∀i j F,Rep F (g' i j) (g i j)):zkF K (rI0 g') (pI0 g):=λH0 F H x y e e' res Q fh hh rx ry q k=>by
 obtain⟨i,q1,q⟩:=bind_some q;obtain⟨j,q2,q⟩:=map_some q;cases zbD q1;cases zbD q2;cases q;cases zbH rx;cases zbH ry;exact⟨i,j,rfl,rfl,k _ F H (Ex.refl fh) (h i j F)⟩
def semI{C c:Int->Int->Prop}{g':Int->Int->V}{g:Int->Int->D}(hc:∀i j,c i j->C i j)(h:∀i j F,Rep F (g' i j) (g i j)):zkF K (rI C g') (pI c g):=λH0 F H x y e e' res Q fh hh rx ry q k=>by
 obtain⟨i,q1,q⟩:=bind_some q;obtain⟨j,q2,q⟩:=bind_some q;obtain⟨hij,qz⟩:=zaO q;cases zbD q1;cases zbD q2;cases qz;cases zbH rx;cases zbH ry;exact⟨i,j,rfl,rfl,hc i j hij,k _ F H (Ex.refl fh) (h i j F)⟩
end
def zci:=pI0 λi j=>.int (i+j)
def zhI:=pI0 λi j=>.int (i-j)
noncomputable def zfA:=pI (λi j=>b64 i\/b64 j) λi j=>.int (i*j)
noncomputable def zc2:=pI (λ_ j=>psI j) λi j=>.int (i%j)
noncomputable def zeF:=pI (λ_ j=>dvI j) λi j=>.int (i / j)
def gLt:=pI0 λi j=>.bl (decide (i<j))
def gLe:=pI0 λi j=>.bl (decide (i<=j))
def gGt:=pI0 λi j=>.bl (decide (j<i))
def zd8:Ent->Option Ent:=λx=>(iOf x).map λi=>.val (.int (-i))
section
variable {X:Cx}
def zdh:OpD X (binaryOp .Add) zci:=⟨_,op_add,semI0 λ_ _ _=>.int _⟩
def zfy:OpD X (binaryOp .Sub) zhI:=⟨_,op_sub,semI0 λ_ _ _=>.int _⟩
def zfi:OpD X (binaryOp .Mult) zfA:=⟨_,op_mul,semI (λ_ _ h=>h) λ_ _ _=>.int _⟩
def zdb:OpD X (binaryOp .Mod) zc2:=⟨_,op_mod,semI (λ_ _ h=>h) λ_ _ _=>.int _⟩
def zgk:OpD X (binaryOp .FloorDiv) zeF:=⟨_,op_fdiv,semI (λ_ _ h=>h) λ_ _ _=>.int _⟩
def o_lt:OpD X (bC .Lt) gLt:=⟨_,op_lt,semI0 λ_ _ _=>.bl _⟩
def o_le:OpD X (bC .LtE) gLe:=⟨_,op_le,semI0 λ_ _ _=>.bl _⟩
def o_gt:OpD X (bC .Gt) gGt:=⟨_,op_gt,semI0 λ_ _ _=>.bl _⟩
def zdL:UnD X (unaryOp .USub) zd8:=⟨_,un_neg,λH0 F H x e res Q fh hh r q k=>by
 obtain⟨i,q1,q⟩:=map_some q;cases zbD q1;cases q;cases zbH r;exact⟨i,rfl,k _ F H (Ex.refl fh) (.int _)⟩⟩
end
def dvD:D->Option V
 |.non=>aa .non
 |.bl b=>aa (.bl b)
 |.int i=>aa (.int i)
 |.str z=>aa (.str z)
 | _=>ab
def scEq(d d':D):Option Bool:=(dvD d).bind λx=>(dvD d').bind λy=>if scal x y=true then aa (decide (x=y))else ab
def dec_iff{p q:Prop}[Decidable p][Decidable q](h:p ↔ q):aa (decide p)=aa (decide q):=congrArg aa (decide_eq_decide.mpr h)
def zaG(i j:Int):scEq (.int i) (.int j)=aa (decide (i=j)):=dec_iff ⟨V.int.inj,congrArg _⟩
def zdR(i j:Str):scEq (.str i) (.str j)=aa (decide (i=j)):=dec_iff ⟨V.str.inj,congrArg _⟩
def dvD_ok{F:Hp}{x z:V}{d:D}(r:Rep F x d)(q:dvD d=aa z):x=z:=by
 cases r <;> first|(cases q;rfl)|cases q
def gEq:Ent->Ent->Option Ent
 |.val d,.val d'=>(scEq d d').map λb=>.val (.bl b)
 | _,_=>ab
def gNe:Ent->Ent->Option Ent
 |.val d,.val d'=>(scEq d d').map λb=>.val (.bl (!b))
 | _,_=>ab
def scEq_ok{F:Hp}{x y:V}{d d':D}{b:Bool}(rx:Rep F x d)(ry:Rep F y d')(q:scEq d d'=aa b):scal x y=true/\decide (x=y)=b:=by
 obtain⟨x',q1,q⟩:=bind_some q;obtain⟨y',q2,q⟩:=bind_some q;cases dvD_ok rx q1;cases dvD_ok ry q2;obtain⟨h,q⟩:=zhh q;exact⟨h,aR q⟩
def isN:Ent->Bool
 |.val .non=>true
 | _=>false
def zjQ:Ent->Ent->Option Ent
 |x,.val .non=>aa (.val (.bl (isN x)))
 | _,_=>ab
def gNoN:Ent->Ent->Option Ent
 |x,.val .non=>aa (.val (.bl (!isN x)))
 | _,_=>ab
def isN_ok{K:ag}{H0 F H:Hp}{x:V}{e:Ent}(r:RepR K H0 F H x e):decide (x=.non)=isN e:=by
 cases e with
 |val d=>cases r <;> simp[isN]
 |own ds=>obtain⟨l,vs,e,_⟩:=r;subst e;simp[isN]
 |bor ds=>obtain⟨l,vs,e,_⟩:=r;subst e;simp[isN]
 |vw ds=>obtain⟨l,vs,e,_⟩:=r;subst e;simp[isN]
 |bt ds=>obtain⟨l,vs,e,_⟩:=r;subst e;simp[isN]
 |obj o=>obtain⟨⟨l,e⟩,_⟩:=r;subst e;simp[isN]
def sOf:Ent->Option Str
 |.val (.str i)=>aa i
 | _=>ab
def zaB{e:Ent}{i:Str}(h:sOf e=aa i):e=.val (.str i):=by
 cases e with
 |val d=>cases d <;> first|(cases h;rfl)|(cases h)
 | _=>cases h
def inS(i j:Str):Bool:=!(fG j i 0 j.length 1).isEmpty
def gInS:Ent->Ent->Option Ent:=λx y=>(sOf x).bind λi=>(sOf y).map λj=>.val (.bl (inS i j))
def gNiS:Ent->Ent->Option Ent:=λx y=>(sOf x).bind λi=>(sOf y).map λj=>.val (.bl (!inS i j))
noncomputable def zeE:Ent->Ent->Option Ent:=λx y=>(sOf x).bind λi=>(sOf y).bind λj=>gif (sz (i.length+j.length)) (aa (.val (.str (i++j))))
def zdO{n:Nat}(h:n<=1000000):n<=aX:=by rw[cq];lia
section
variable {X:Cx}
def zfM:OpD X (bC .Eq) gEq:=⟨_,op_eq,λH0 F H x y e e' res Q fh hh rx ry q k=>by
 cases e with
 |val d=>
  cases e' with
  |val d'=>
   obtain⟨b,q1,q⟩:=map_some q;cases q;obtain⟨h1,h2⟩:=scEq_ok rx ry q1;exact⟨h1,by rw[h2];exact k _ F H (Ex.refl fh) (.bl _)⟩
  | _=>cases q
 | _=>cases q⟩
def o_ne:OpD X (bC .NotEq) gNe:=⟨_,op_ne,λH0 F H x y e e' res Q fh hh rx ry q k=>by
 cases e with
 |val d=>
  cases e' with
  |val d'=>
   obtain⟨b,q1,q⟩:=map_some q;cases q;obtain⟨h1,h2⟩:=scEq_ok rx ry q1;exact⟨h1,by rw[h2];exact k _ F H (Ex.refl fh) (.bl _)⟩
  | _=>cases q
 | _=>cases q⟩
def o_isN:OpD X (bC .Is) zjQ:=⟨_,op_isN,λH0 F H x y e e' res Q fh hh rx ry q k=>by
 unfold zjQ at q;split at q
 ·cases q;exact⟨zjb ry,by rw[isN_ok rx];exact k _ F H (Ex.refl fh) (.bl _)⟩
 ·cases q⟩
def o_noN:OpD X (bC .IsNot) gNoN:=⟨_,op_notN,λH0 F H x y e e' res Q fh hh rx ry q k=>by
 unfold gNoN at q;split at q
 ·cases q;exact⟨zjb ry,by rw[isN_ok rx];exact k _ F H (Ex.refl fh) (.bl _)⟩
 ·cases q⟩
def o_inS:OpD X (bC .In) gInS:=⟨_,op_in_str,λH0 F H x y e e' res Q fh hh rx ry q k=>by
 obtain⟨i,q1,q⟩:=bind_some q;obtain⟨j,q2,q⟩:=map_some q;cases zaB q1;cases zaB q2;cases q;exact⟨i,j,za1 rx,za1 ry,k _ F H (Ex.refl fh) (.bl _)⟩⟩
def o_niS:OpD X (bC .NotIn) gNiS:=⟨_,zie,λH0 F H x y e e' res Q fh hh rx ry q k=>by
 obtain⟨i,q1,q⟩:=bind_some q;obtain⟨j,q2,q⟩:=map_some q;cases zaB q1;cases zaB q2;cases q;exact⟨i,j,za1 rx,za1 ry,k _ F H (Ex.refl fh) (.bl _)⟩⟩
def zfB:OpD X (binaryOp .Add) zeE:=⟨_,zkN,λH0 F H x y e e' res Q fh hh rx ry q k=>by
 obtain⟨i,q1,q⟩:=bind_some q;obtain⟨j,q2,q⟩:=bind_some q;obtain⟨hl,qz⟩:=zaO q;cases zaB q1;cases zaB q2;cases qz;exact⟨i,j,za1 rx,za1 ry,zdO hl,k _ F H (Ex.refl fh) (.str _)⟩⟩
end
def zdF:Ent->Ent->Option Ent:=λx y=>(asL x).bind λds=>(iOf y).bind λi=>(atI ds i).map .val
def zcJ:Ent->Option (List D)
 |.val (.tup ds)=>aa ds
 | _=>ab
def zbu{e:Ent}{ds:List D}(h:zcJ e=aa ds):e=.val (.tup ds):=by
 cases e with
 |val d=>cases d <;> first|(cases h;rfl)|(cases h)
 | _=>cases h
def zch:Ent->Ent->Option Ent:=λx y=>(zcJ x).bind λds=>(iOf y).bind λi=>(atI ds i).map .val
def mkS(l:List Nat):Str:=⟨l.toArray⟩
noncomputable def zhi:Ent->Ent->Option Ent:=λx y=>(sOf x).bind λz=>(iOf y).bind λi=>gif (sz z.length) ((atI z.cps.toList i).map λc=>.val (.str (mkS [c])))
def atI_rep{F:Hp}{vs:List V}{ds:List D}{i:Int}{d:D}(r:Reps F vs ds)(q:atI ds i=aa d):∃v,atI vs i=aa v/\Rep F v d:=by
 unfold atI at q ⊢;obtain⟨j,q1,q⟩:=bind_some q;obtain⟨v,h1,h2⟩:=r.get q;exact⟨v,by rw[r.length,q1];exact h1,h2⟩
section
variable {X:Cx}
def zcL:IxD X zdF:=⟨_,ix_list,λH0 F H x y e e' res Q fh hh rx ry q k=>by
 obtain⟨ds,q1,q⟩:=bind_some q;obtain⟨i,q2,q⟩:=bind_some q;obtain⟨d,q3,q⟩:=map_some q;cases q;cases zbD q2;obtain⟨l,vs,e,h1,h2⟩:=RepR.toL rx fh q1;obtain⟨v,h3,h4⟩:=atI_rep h2 q3;exact⟨l,vs,i,v,e,zbH ry,h1,h3,k v F H (Ex.refl fh) h4⟩⟩
def zbG:IxD X zch:=⟨_,ix_tup,λH0 F H x y e e' res Q fh hh rx ry q k=>by
 obtain⟨ds,q1,q⟩:=bind_some q;obtain⟨i,q2,q⟩:=bind_some q;obtain⟨d,q3,q⟩:=map_some q;cases q;cases zbD q2;cases zbu q1;cases (show Rep F x (.tup ds)from rx)with
 |tup e rs=>
  obtain⟨v,h3,h4⟩:=atI_rep rs q3;exact⟨_,_,i,v,rfl,zbH ry,SqT.of (fh _ _ e),h3,k v F H (Ex.refl fh) h4⟩⟩
def zhC:IxD X zhi:=⟨_,ix_str,λH0 F H x y e e' res Q fh hh rx ry q k=>by
 obtain⟨z,q1,q⟩:=bind_some q;obtain⟨i,q2,q⟩:=bind_some q;obtain⟨hl,qz⟩:=zaO q;obtain⟨c,q3,qz⟩:=map_some qz;cases qz;cases zbD q2;cases zaB q1;exact⟨z,i,c,za1 rx,zbH ry,zdO hl,q3,k _ F H (Ex.refl fh) (.str _)⟩⟩
end
noncomputable def gCatT:Ent->Ent->Option Ent:=λx y=>(zcJ x).bind λds=>(zcJ y).bind λes=>gif (sz (ds.length+es.length)) (aa (.val (.tup (ds++es))))
section
variable {X:Cx}
def kTup_ok{K:ag}{H0 F H:Hp}{zs:List V}{ds:List D}{Q:VK}(fh:Same F H)(r:Reps F zs ds)(k:∀v F' H',Ex F H F' H'->RepR K H0 F' H' v (.val (.tup ds))->Q v H'):kTup H zs Q:=λa H' s e=>by
 have x0:Ex F H F H':=⟨Same.refl F,fh.trans s,s,λ_ _ _ _=>rfl⟩
 obtain⟨F2,x2,s2,h2⟩:=x0.tupF e;exact k _ F2 H' x2 (.tup h2 (r.mono s2))
def o_catT:OpD X (binaryOp .Add) gCatT:=⟨_,op_catTU,λH0 F H x y e e' res Q fh hh rx ry q k=>by
 obtain⟨ds,q1,q⟩:=bind_some q;obtain⟨es,q2,q⟩:=bind_some q;obtain⟨hl,qz⟩:=zaO q;cases qz;cases zbu q1;cases zbu q2;cases (show Rep F x (.tup ds)from rx)with
 |tup ex1 r1=>
  cases (show Rep F y (.tup es)from ry)with
  |tup ex2 r2=>exact⟨_,_,_,_,rfl,rfl,fh _ _ ex1,fh _ _ ex2,by rw[r1.length,r2.length];exact zdO hl,kTup_ok fh (r1.append r2) k⟩⟩
end
abbrev FO:=En->Option (Option Int)
def oNo:FO:=λ_=>aa ab
def oSo(fe:FE):FO:=λδ=>((fe δ).bind iOf).map aa
def SemO(K:ag)(t:TO)(f:FO):Prop:=∀(B:Bd) (F H:Hp) (σ:Sg) (δ:En) (o:Option Int) (Q:Option Int->Hp->Prop),RS K B F H σ δ->f δ=aa o->(∀F' H',Ex F H F' H'->Q o H')->t σ H Q
structure VO(X:Cx)(e:Option Expr)(f:FO):Prop where
 h:∃t,WO X e t/\SemO X.K t f
def SemL(K:ag)(r:V->Option Int->Option Int->Hp->VK->Prop)(g:Ent->Option Int->Option Int->Option Ent):Prop:=∀(H0 F H:Hp) (x:V) (lo hi:Option Int) (e res:Ent) (Q:VK),Same F H->Same H0 H->RepR K H0 F H x e->g e lo hi=aa res ->
 (∀v F' H',Ex F H F' H'->RepR K H0 F' H' v res->Q v H')->r x lo hi H Q
def SlD(X:Cx)(g:Ent->Option Int->Option Int->Option Ent):Prop:=∃r,SlR X r/\SemL X.K r g
def eSl(g:Ent->Option Int->Option Int->Option Ent)(fe:FE)(fl fu:FO):FE:=λδ=>(fe δ).bind λx=>(fl δ).bind λl=>(fu δ).bind λu=>g x l u
def zfP{α:Type}(xs:List α)(lo hi:Option Int):List α:=(xs.drop (HT.sIx xs.length 0 lo)).take (HT.sIx xs.length xs.length hi-HT.sIx xs.length 0 lo)
def gSlL:Ent->Option Int->Option Int->Option Ent:=λx lo hi=>(asL x).map λds=>.own (zfP ds lo hi)
def gSlT:Ent->Option Int->Option Int->Option Ent:=λx lo hi=>(zcJ x).map λds=>.val (.tup (zfP ds lo hi))
def Reps.cut{F:Hp}{vs:List V}{ds:List D}(r:Reps F vs ds)(lo hi:Option Int):Reps F (cutV vs lo hi) (zfP ds lo hi):=by
 unfold cutV zfP;rw[r.length];exact(r.drop _).take _
section
variable {X:Cx}{e:Expr}{lo hi:Option Expr}{fe:FE}{fl fu:FO}{pos p2:Pos}
def von:VO X ab oNo:=⟨_,won,λB F H σ δ o Q s q k=>by cases q;exact k F H (Ex.refl s.fh)⟩
def vos(h:VE X e fe):VO X (aa e) (oSo fe):=by
 obtain⟨t,w,m⟩:=h.h;refine⟨_,wos w,λB F H σ δ o Q s q k=>?_⟩;obtain⟨i,q1,q⟩:=map_some q;cases q;obtain⟨r,q2,q3⟩:=bind_some q1;cases zbD q3;exact m B F H σ δ _ _ s q2 λv F1 H1 x1 r1=>⟨i,zbH r1,k F1 H1 x1⟩
def vsl{g:Ent->Option Int->Option Int->Option Ent}(hr:SlD X g)(he:VE X e fe)(hl:VO X lo fl)(hu:VO X hi fu):VE X (.Subscript e (.Slice lo hi ab p2) pos) (eSl g fe fl fu):=by
 obtain⟨t,w,m⟩:=he.h;obtain⟨t1,w1,m1⟩:=hl.h;obtain⟨t2,w2,m2⟩:=hu.h;obtain⟨rr,hr1,hr2⟩:=hr;refine⟨_,wslice hr1 w w1 w2,λB F H σ δ res Q s q k=>?_⟩;obtain⟨x,q1,q⟩:=bind_some q;obtain⟨l,q2,q⟩:=bind_some q;obtain⟨u,q3,q⟩:=bind_some q;refine m B F H σ δ x _ s q1 λv F1 H1 x1 r1=>?_;refine m1 B F1 H1 σ δ l _ (s.ext x1) q2 λF2 H2 x2=>?_;refine m2 B F2 H2 σ δ u _ ((s.ext x1).ext x2) q3 λF3 H3 x3=>?_;have xx:=(x1.trans x2).trans x3;exact hr2 H F3 H3 v l u x res Q xx.fh xx.hh ((r1.ext x2).ext x3) q λv' F' H' x4 r4=>k v' F' H' (xx.trans x4) r4
def l_list:SlD X gSlL:=⟨_,sl_list,λH0 F H x lo hi e res Q fh hh rx q k=>by
 obtain⟨ds,q1,q⟩:=map_some q;cases q;obtain⟨l,vs,e,h1,h2⟩:=RepR.toL rx fh q1;exact⟨l,vs,e,h1,λp hp=>k _ _ _ (Ex.lay fh hp) ⟨p,_,rfl,hh.free hp,zam,h2.cut lo hi,fh.free hp⟩⟩⟩
def l_tup:SlD X gSlT:=⟨_,sl_tupU,λH0 F H x lo hi e res Q fh hh rx q k=>by
 obtain⟨ds,q1,q⟩:=map_some q;cases q;cases zbu q1;cases (show Rep F x (.tup ds)from rx)with
 |tup ex1 r1=>exact⟨_,_,rfl,fh _ _ ex1,kTup_ok fh (r1.cut lo hi) k⟩⟩
end
def zbk:List Ent->Option Ent
 |[x]=>match zcJ x with
  |some ds=>aa (.val (.int ds.length))
  |none=>(asL x).map λds=>.val (.int ds.length)
 | _=>ab
noncomputable def zdf:List Ent->Option Ent
 |[x]=>(sOf x).bind λz=>gif (sz z.length) (aa (.val (.int z.length)))
 | _=>ab
def zcF:List Ent->Option Ent
 |[x]=>(asL x).map λds=>.val (.tup ds)
 | _=>ab
def zkC:List Ent->Option Ent
 |[.val (.int i)]=>aa (.val (.int i))
 |[.val (.bl b)]=>aa (.val (.int (if b then 1 else 0)))
 | _=>ab
def zdK{K:ag}{H0 F H:Hp}{vs:List V}{x:Ent}(r:RepRs K H0 F H vs [x]):∃v,vs=[v]/\RepR K H0 F H v x:=by
 cases r with
 |cons h t=>cases t;exact⟨_,rfl,h⟩
def zgQ{g:List Ent->Option Ent}{es:List Ent}{res:Ent}(h0:g []=ab)(h2:∀a b r,g (a::b::r)=ab)(q:g es=aa res):∃x,es=[x]:=by
 match es,q with
 |[],q=>rw[h0]at q;cases q
 |[x],_=>exact⟨x,rfl⟩
 |a::b::r,q=>rw[h2]at q;cases q
def RepR.seq{K:ag}{H0 F H:Hp}{v:V}{x:Ent}{ds:List D}(r:RepR K H0 F H v x)(fh:Same F H)(q:zcJ x=aa ds\/asL x=aa ds):∃l vs,v=.ref l/\(SqL K H l vs\/SqT K H l vs)/\Reps F vs ds:=by
 rcases q with q|q
 ·cases zbu q;cases (show Rep F v (.tup ds)from r)with
  |tup e rs=>exact⟨_,_,rfl,.inr (SqT.of (fh _ _ e)),rs⟩
 ·obtain⟨l,vs,e,h1,h2⟩:=RepR.toL r fh q;exact⟨l,vs,e,.inl h1,h2⟩
section
variable {X:Cx}
def zb0:zhE X (.builtin "len") zbk:=⟨_,zij,λH0 F H vs es res Q fh hh r q k=>by
 obtain⟨x,rfl⟩:=zgQ rfl (λ_ _ _=>rfl) q;obtain⟨v,rfl,rz⟩:=zdK r;have go:∀ds,(zcJ x=aa ds\/asL x=aa ds)->res=.val (.int ds.length)->∃p ys,[v]=[V.ref p]/\(SqL X.K H p ys\/SqT X.K H p ys)/\Q (.int ys.length) H:=λds h e=>by
  obtain⟨l,ws,e',h1,h2⟩:=RepR.seq rz fh h;subst e e';exact⟨l,ws,rfl,h1,by rw[h2.length];exact k _ F H (Ex.refl fh) (.int _)⟩
 simp only[zbk]at q;split at q
 ·rename_i ds h;exact go ds (.inl h) (aR q).symm
 ·obtain⟨ds,h,q⟩:=map_some q;exact go ds (.inr h) q.symm⟩
def zfg:zhE X (.builtin "len") zdf:=⟨_,ziC,λH0 F H vs es res Q fh hh r q k=>by
 obtain⟨x,rfl⟩:=zgQ rfl (λ_ _ _=>rfl) q;obtain⟨v,rfl,rz⟩:=zdK r;obtain⟨z,q1,q⟩:=bind_some q;obtain⟨hl,qz⟩:=zaO q;cases qz;cases zaB q1;cases za1 rz;exact⟨z,rfl,zdO hl,k _ F H (Ex.refl fh) (.int _)⟩⟩
def zej:zhE X (.type "tuple") zcF:=⟨_,zhF,λH0 F H vs es res Q fh hh r q k=>by
 obtain⟨x,rfl⟩:=zgQ rfl (λ_ _ _=>rfl) q;obtain⟨v,rfl,rz⟩:=zdK r;obtain⟨ds,q1,q⟩:=map_some q;cases q;obtain⟨l,ws,e',h1,h2⟩:=RepR.toL rz fh q1;subst e';exact⟨l,ws,rfl,.inl ⟨h1,λp hp=>k _ _ _ (Ex.alloc fh hp) (.tup zam (h2.mono (Same.alloc (fh.free hp))))⟩⟩⟩
def c_int1:zhE X (.type "int") zkC:=⟨_,call_int1,λH0 F H vs es res Q fh hh r q k=>by
 unfold zkC at q;split at q
 ·cases q;obtain⟨v,rfl,rz⟩:=zdK r;cases zbH rz;exact .inl ⟨_,rfl,k _ F H (Ex.refl fh) (.int _)⟩
 ·cases q;obtain⟨v,rfl,rz⟩:=zdK r;cases zg2 rz;exact .inr ⟨_,rfl,k _ F H (Ex.refl fh) (.int _)⟩
 ·cases q⟩
end
def tyN:D->String
 |.non=> "NoneType"|.bl _=> "bool"|.int _=> "int"|.str _=> "str"|.tup _=> "tuple"|.lst _=> "list"|.dic _ _=> "dict"|.ins _ _ _=> ""|.dcI _ _=> ""|.dcS _ _=> ""
def obD:D->Bool
 |.ins _ _ _=>true|.dcI _ _=>true|.dcS _ _=>true|.non=>false|.bl _=>false|.int _=>false|.str _=>false|.tup _=>false|.lst _=>false|.dic _ _=>false
def isiD(T:String)(d:D):Bool:=tyN d==T || (T == "int" && tyN d == "bool")
def gIsi(T:String):Ent->Option Ent
 |.val d=>if obD d=true then ab else aa (.val (.bl (isiD T d)))
 | _=>ab
def kit_all{K:ag}{T:String}(hT:T = "bool" \/ T = "int" \/ T = "str" \/ T = "tuple" \/ T = "list")(d:D)(h:obD d=false):iZ K (.type (tyN d)) (.type T)=aa (isiD T d):=by
 rcases hT with rfl|rfl|rfl|rfl|rfl <;> cases d <;> first|(cases h;done)|kernel_rfl
def rep_ty{K:ag}{F H:Hp}{v:V}{d:D}(fh:Same F H)(r:Rep F v d)(h:obD d=false):TyOf K H v (.type (tyN d)):=by
 cases r with
 |non=>exact .non
 |bl b=>exact .bl b
 |int i=>exact .int i
 |str z=>exact .str z
 |tup e _=>exact .tup (fh _ _ e)
 |lst e _=>exact .lst (fh _ _ e)
 |dic e _ _=>exact .dK (.inr ⟨_,fh _ _ e⟩)
 |ins _ _ _=>cases h
 |dcI _ _ _ _=>cases h
 |dcS _ _ _=>cases h
section
variable {X:Cx}{a:Expr}{fa:FE}{x:Str}{p p1 pos:Pos}{T:String}{Tn:Str}
def zkJ(ha:VE X a fa)(hg:Gl X "isinstance")(hm:X.mg "isinstance" =ab)(hb:aM "isinstance" =aa (.builtin "isinstance"))(hgT:Gl X Tn)(hmT:X.mg Tn=ab)(hbT:aM Tn=aa (.type T))(hT:T = "bool" \/ T = "int" \/ T = "str" \/ T = "tuple" \/ T = "list" :=by decide)
  (h1:zaj a=true:=by rfl) (hn:Tn≠ "__name__" :=by decide) (hd:(Tn==("__debug__" : Str))=false:=by decide):VE X (.Call (.Name "isinstance" p) [a,.Name Tn p1] [] pos) (ex1 (gIsi T) fa):=by
 obtain⟨t,w,m⟩:=ha.h;refine⟨_,wcb call_isi hg hm hb (wac w (wac (wbt hgT hmT hbT hn hd) wnil) h1) (h1:=h1),λB F H σ δ res Q s q k=>?_⟩;obtain⟨e,q1,q⟩:=bind_some q;cases e with
 |val d=>
  have q':(if obD d=true then ab else aa (Ent.val (.bl (isiD T d))))=aa res:=q;cases ho:obD d with
  |true=>rw[if_pos ho]at q';cases q'
  |false=>
   rw[if_neg (by rw[ho];exact aP)]at q';cases q';exact m B F H σ δ _ _ s q1 λv F1 H1 x1 r1=>⟨v,T,_,_,rfl,rep_ty x1.fh r1 ho,kit_all hT d ho,k _ F1 H1 x1 (.bl _)⟩
 | _=>cases q
end
def iL(fe:FE):FI:=λδ=>(fe δ).bind λx=>match x with
 |.val (.lst ds)=>aa ds
 |.own ds=>aa ds
 | _=>ab
def iB(i:Nat):FI:=λδ=>match δ[i]? with
 |some (aa (.bor ds))=>aa ds
 | _=>ab
def iT(fe:FE):FI:=λδ=>(fe δ).bind zcJ
def b62(j:Int):Prop:=-(2 ^ 62)<=j/\j<2 ^ 62
def zeG{j:Int}(h:-1000000000<j/\j<1000000000):b62 j:=by unfold b62;lia
def zds{j:Int}(h:-1000000000<j/\j<1000000000):b62 j=True:=eq_true (zeG h)
noncomputable def iR1(fa:FA):FI:=λδ=>(fa δ).bind λes=>match es with
 |[e]=>(iOf e).bind λj=>gif (b62 j) (aa ((au j.toNat).map λ(i:Nat)=>D.int (0+i)))
 | _=>ab
noncomputable def iR2(fa:FA):FI:=λδ=>(fa δ).bind λes=>match es with
 |[e,e']=>(iOf e).bind λi=>(iOf e').bind λj=>gif (b62 i/\b62 j) (aa ((au (j-i).toNat).map λ(k:Nat)=>D.int (i+k)))
 | _=>ab
def ze2{K:ag}{B F0:Hp}{a:ai}{vs:List V}{ds:List D}(h:∀F H,Same F0 F->Same F H->Same B H->SqL K H a vs)(r:Reps F0 vs ds):ItOk B F0 (Itl K a) ds:=λF H s1 s2 s3=>by
 have hq:=h F H s1 s2 s3;refine⟨⟨vs,hq,by rw[r.length];exact am _⟩,λi d e=>?_⟩;obtain⟨v,h1,h2⟩:=r.get e;refine⟨⟨vs,v,hq,h1⟩,λx H' y=>?_⟩;obtain⟨e',y⟩:=y;subst e';have:=y vs hq;rw[h1]at this;cases this;exact⟨F,Ex.refl s2,Rep.mono s1 h2⟩
def itOk_tup{K:ag}{B F0:Hp}{a:ai}{vs:List V}{ds:List D}(h:F0 a=aa (.tup vs))(r:Reps F0 vs ds):ItOk B F0 (Itt K a) ds:=λF H s1 s2 s3=>by
 have hq:SqT K H a vs:=SqT.of (s2 _ _ (s1 _ _ h));refine⟨⟨vs,hq,by rw[r.length];exact am _⟩,λi d e=>?_⟩;obtain⟨v,h1,h2⟩:=r.get e;refine⟨⟨vs,v,hq,h1⟩,λx H' y=>?_⟩;obtain⟨e',y⟩:=y;subst e';have:=y vs hq;rw[h1]at this;cases this;exact⟨F,Ex.refl s2,Rep.mono s1 h2⟩
def zjY{B F0:Hp}{lo:Int}{n:Nat}:ItOk B F0 (Itr lo n) ((au n).map λ(i:Nat)=>D.int (lo+i)):=λF H s1 s2 s3=>by
 refine⟨by simp[Itr],λi d e=>?_⟩;rw[aB]at e;by_cases hi:i<n
 ·rw[cg hi]at e;cases e;refine⟨hi,λx H' y=>?_⟩;obtain⟨e',y⟩:=y;subst e' y;exact⟨F,Ex.refl s2,.int _⟩
 ·rw[dz (by simp;lia)]at e;cases e
section
variable {X:Cx}{tg e b:Expr}{es:List Expr}{fe:FE}{fa:FA}{p pos:Pos}{x:Str}
def iil(h:VE X e fe):VI X tg e (iL fe):=by
 obtain⟨t,w,m⟩:=h.h;refine⟨_,il w,λB F H σ δ ds R s q k=>?_⟩;obtain⟨r,q1,q⟩:=bind_some q;refine m B F H σ δ r _ s q1 λv F1 H1 x1 r1=>?_;split at q
 ·cases q;cases (show Rep F1 v (.lst ds)from r1)with
  |lst e rs=>exact⟨_,rfl,⟨_,SqL.of (x1.fh _ _ e)⟩,k _ F1 H1 x1 (ze2 (λF H s1 s2 _=>SqL.of (s2 _ _ (s1 _ _ e))) rs)⟩
 ·cases q;obtain⟨F2,x2,_,r2⟩:=RepR.frz x1 (Same.refl _) r1 rfl;cases r2 with
  |lst e rs=>exact⟨_,rfl,⟨_,SqL.of (x2.fh _ _ e)⟩,k _ F2 H1 x2 (ze2 (λF H s1 s2 _=>SqL.of (s2 _ _ (s1 _ _ e))) rs)⟩
 ·cases q
def iib(i:Nat)(hN:X.N[i]? =aa x:=by rfl)(hv:Vis X.env.scope x:=by first|exact aD rfl|exact bA (aD rfl)|exact bA (bA rfl))(hd:(x==("__debug__" : Str))=false:=by decide)
  (hcd:(x==("__classdict__" : Str))=false:=by decide):VI X tg (.Name x pos) (iB i):=by
 refine⟨_,il (wv i hN hv hd hcd),λB F H σ δ ds R s q k=>?_⟩;unfold iB at q;split at q
 ·rename_i es e;cases q;obtain⟨v,h1,l,vs,e,h2,h3⟩:=s.ent i _ e;exact⟨v,h1,l,e,⟨vs,s.bh.seq h2⟩,k _ F H (Ex.refl s.fh) (ze2 (λF H _ _ s3=>s3.seq h2) h3)⟩
 ·cases q
def iit(h:VE X e fe):VI X tg e (iT fe):=by
 obtain⟨t,w,m⟩:=h.h;refine⟨_,it w,λB F H σ δ ds R s q k=>?_⟩;obtain⟨r,q1,q⟩:=bind_some q;refine m B F H σ δ r _ s q1 λv F1 H1 x1 r1=>?_;cases zbu q;cases (show Rep F1 v (.tup ds)from r1)with
 |tup e rs=>exact⟨_,rfl,⟨_,SqT.of (x1.fh _ _ e)⟩,k _ F1 H1 x1 (itOk_tup e rs)⟩
def iir1(hg:Gl X "range")(hm:X.mg "range" =ab)(ha:VA X [e] fa)(h1:zaj e=true:=by rfl):VI X tg (.Call (.Name "range" p) [e] [] pos) (iR1 fa):=by
 obtain⟨t,w,m⟩:=ha.h;refine⟨_,ir1 hg hm w h1,λB F H σ δ ds R s q k=>?_⟩;obtain⟨es,q1,q⟩:=bind_some q;refine m B F H σ δ es _ s q1 λvs F1 H1 x1 r1=>?_;split at q
 ·obtain⟨j,q2,q⟩:=bind_some q;obtain⟨hj,qz⟩:=zaO q;cases qz;cases zbD q2;obtain⟨v,rfl,rz⟩:=zdK r1;cases zbH rz;exact⟨j,rfl,hj.1,hj.2,k _ F1 H1 x1 zjY⟩
 ·cases q
def iir2(hg:Gl X "range")(hm:X.mg "range" =ab)(ha:VA X [e,b] fa)(h1:zaj e=true:=by rfl)(h2:zaj b=true:=by rfl):VI X tg (.Call (.Name "range" p) [e,b] [] pos) (iR2 fa):=by
 obtain⟨t,w,m⟩:=ha.h;refine⟨_,ir2 hg hm w h1 h2,λB F H σ δ ds R s q k=>?_⟩;obtain⟨es,q1,q⟩:=bind_some q;refine m B F H σ δ es _ s q1 λvs F1 H1 x1 r1=>?_;split at q
 ·obtain⟨i,q2,q⟩:=bind_some q;obtain⟨j,q3,q⟩:=bind_some q;obtain⟨hj,qz⟩:=zaO q;cases qz;cases zbD q2;cases zbD q3;cases r1 with
  |cons ra rt=>
   obtain⟨w',rfl,rb⟩:=zdK rt;cases zbH ra;cases zbH rb;exact⟨i,j,rfl,⟨hj.1.1,hj.1.2,hj.2.1,hj.2.2⟩,k _ F1 H1 x1 zjY⟩
 ·cases q
end
end L3

namespace L3
open PySem PySem.Spec PyProof.Rows L2
section
variable {prog:aK}{w:aO}{A:aQ}{R:Result->ah->Prop}{I:ai}{fp wr:List ai}{n:Nat}{P:Nat->af->Prop}{St:Nat->aT->Prop}{kw:List (Str×af)}
def mloop(W:Walks prog w A.in1 I fp wr n P St)(bt:Nat->Nat->Bool)(hc:CmpOf prog w A.in1 .Lt P bt)(S:ai)(hSf:S∉fp) :
  ∀(k j:Nat) (s:ah) (vb:af) (c:Nat),n-(j+1)=k->j+1<=n->St (j+1) s.heap->P (argBest bt j) vb ->
  s.heap.get? S=aa { cls:=.type "list",dict:=ab,data:=.seq #[vb,vb] c,slots:=#[]} ->
  (∀v h' tk,P (argBest bt (n-1)) v->(∀b o,b∉wr->b≠S->s.heap.get? b=aa o->h'.get? b=aa o)->R (.ok (.ret v)) { s with heap:=h',toks:=tk}) ->
  codeAny (model prog w) A (.builtin "min.loop" ⟨[.ref I,.none,.ref S],kw⟩) R s:=by
 have hSw:S∉wr:=λh=>hSf (W.sub _ h);have hnm:(toString "min" ++ toString ".loop" : String) = "min.loop" :=by decide
 intro k
 induction k with
 |zero=>
  intro j s vb c hk hj hst hPb hS hR;have hin:j+1=n:=by lia
  refine codeAny_builtin d3 ?_;rw[bS b6 _];show av _ A.in1 (seqItems? (.ref S) >>= _) _ _ s;refine ae (wpAny_seqItems hS rfl ?_);show av _ A.in1 (tryCatch (pyNext (.ref I)) _ >>= _) _ _ s;refine ae (wpAny_tryCatch (W.done s _ _ (hin ▸ hst) λh' tk hk'=>?_));have hS':=hk' S _ hSw hS;show av _ A.in1 (updateSeq S (λ_=>#[]) >>= _) _ _ _;refine ae ?_;refine wpAny_updateSeq hS' rfl (ae (wpAny_letGo (ak ?_)));exact hR vb _ tk (by rw[<- hin];exact hPb) λb o hbw hbS e=>(cw _ _ (cN hbS)).trans (hk' b o hbw e)
 |succ k ih=>
  intro j s vb c hk hj hst hPb hS hR;have hlt:j+1<n:=by lia
  refine codeAny_builtin d3 ?_;rw[bS b6 _];show av _ A.in1 (seqItems? (.ref S) >>= _) _ _ s;refine ae (wpAny_seqItems hS rfl ?_);show av _ A.in1 (tryCatch (pyNext (.ref I)) _ >>= _) _ _ s;refine ae (wpAny_tryCatch (W.item (j+1) s _ _ hlt hst λv h' tk hP hst' hk'=>?_));have hS':=hk' S _ hSw hS;show av _ A.in1 (tryCatch (holding [v,v] (richCompare .Lt v vb >>= _)) _ >>= _) _ _ _;refine ae (wpAny_tryCatch (cA (ae (hc (j+1) (argBest bt j) v vb _ _ _ hP hPb ?_))));refine ae (cA (wpAny_truthy_bool ?_));refine ae (wpAny_letGo (ak ?_));cases hb:bt (j+1) (argBest bt j)with
  |true=>
   simp only[if_true];refine ae ?_;refine wpAny_updateSeq hS' rfl (ae (wpAny_letGo ?_));rw[hnm];refine ak ⟨plainId_quiet b6 _,ih (j+1) _ v _ (by lia) hlt (W.frame _ _ _ hst' λb hbf o e=>?_) (by simp only[argBest,hb,if_true];exact hP) (da _ hS' rfl) λv' h'' tk'' hP' hk''=>?_⟩
   ·exact(cw _ _ (λh:S=b=>hSf (by rw[h];exact hbf))).trans e
   ·exact hR v' h'' tk'' hP' λb o hbw hbS e=>hk'' b o hbw hbS ((cw _ _ (cN hbS)).trans (hk' b o hbw e))
  |false=>
   simp only[bm,if_false];refine ae (wpAny_letGo ?_);rw[hnm];refine ak ⟨plainId_quiet b6 _,ih (j+1) _ vb c (by lia) hlt hst' (by simp only[argBest,hb,bm,if_false];exact hPb) hS' λv' h'' tk'' hP' hk''=>?_⟩;exact hR v' h'' tk'' hP' λb o hbw hbS e=>hk'' b o hbw hbS (hk' b o hbw e)
def mloop1(W:Walks prog w A.in1 I fp wr n P St)(bt:Nat->Nat->Bool)(hc:CmpOf prog w A.in1 .Lt P bt)(S:ai)(hSf:S∉fp)(hn:0<n){s:ah}{c:Nat}(hst:St 0 s.heap)
  (hS:s.heap.get? S=aa { cls:=.type "list",dict:=ab,data:=.seq #[] c,slots:=#[]})
  (hR:∀v h' tk,P (argBest bt (n-1)) v->(∀b o,b∉wr->b≠S->s.heap.get? b=aa o->h'.get? b=aa o)->R (.ok (.ret v)) { s with heap:=h',toks:=tk}) :
  codeAny (model prog w) A (.builtin "min.loop" ⟨[.ref I,.none,.ref S],kw⟩) R s:=by
 have hSw:S∉wr:=λh=>hSf (W.sub _ h);have hnm:(toString "min" ++ toString ".loop" : String) = "min.loop" :=by decide
 refine codeAny_builtin d3 ?_;rw[bS b6 _];show av _ A.in1 (seqItems? (.ref S) >>= _) _ _ s;refine ae (wpAny_seqItems hS rfl ?_);show av _ A.in1 (tryCatch (pyNext (.ref I)) _ >>= _) _ _ s;refine ae (wpAny_tryCatch (W.item 0 s _ _ hn hst λv h' tk hP hst' hk'=>?_));have hS':=hk' S _ hSw hS;show av _ A.in1 (updateSeq S (λ_=>#[v,v]) >>= _) _ _ _;refine ae ?_;refine wpAny_updateSeq hS' rfl ?_;rw[hnm];refine ak ⟨plainId_quiet b6 _,mloop W bt hc S hSf _ 0 _ v _ rfl hn (W.frame _ _ _ hst' λb hbf o e=>?_) hP (da _ hS' rfl) λv' h'' tk'' hP' hk''=>?_⟩
 ·exact(cw _ _ (λh:S=b=>hSf (by rw[h];exact hbf))).trans e
 ·exact hR v' h'' tk'' hP' λb o hbw hbS e=>hk'' b o hbw hbS ((cw _ _ (cN hbS)).trans (hk' b o hbw e))
def mloop0{d:af}{kn:Str}(W:Walks prog w A.in1 I fp wr n P St)(S:ai)(hSf:S∉fp)(hn:n=0){s:ah}{c:Nat}(hst:St 0 s.heap)
  (hS:s.heap.get? S=aa { cls:=.type "list",dict:=ab,data:=.seq #[] c,slots:=#[]})
  (hR:∀h' tk,(∀b o,b∉wr->b≠S->s.heap.get? b=aa o->h'.get? b=aa o)->R (.ok (.ret d)) { s with heap:=h',toks:=tk}) :
  codeAny (model prog w) A (.builtin "min.loop" ⟨[.ref I,.none,.ref S],[(kn,d)]⟩) R s:=by
 refine codeAny_builtin d3 ?_;rw[bS b6 _];show av _ A.in1 (seqItems? (.ref S) >>= _) _ _ s;refine ae (wpAny_seqItems hS rfl ?_);show av _ A.in1 (tryCatch (pyNext (.ref I)) _ >>= _) _ _ s;refine ae (wpAny_tryCatch (W.done s _ _ (hn ▸ hst) λh' tk hk'=>?_));show av _ A.in1 (rule _ >>= _) _ _ _;refine ae (wpAny_rule ?_);exact ak (hR h' tk λb o hbw _ e=>hk' b o hbw e)
end
section
variable {prog:aK}{w:aO}{A:aQ}{E:af->ah->Prop}{s:ah}{l:ai}{xs:Array (Int×Tok)}{d:af}
def argsMinD(a d:af):argsOk "min" ⟨[a],[(bT "default",d)]⟩:=by unfold argsOk;kernel_rfl
def call_minD{Q:af->ah->Prop}(hh:A.handled=ab)(hl:s.heap.IsList l (intItems xs))
  (h1:∀v h' tk,0<xs.size->(intItems xs)[argBest (λi j=>decide (numAt xs i<numAt xs j)) (xs.size-1)]? =aa v->(∀b o,s.heap.get? b=aa o->h'.get? b=aa o)->Q v { s with heap:=h',toks:=tk})
  (h2:∀h' tk,xs.size=0->(∀b o,s.heap.get? b=aa o->h'.get? b=aa o)->Q d { s with heap:=h',toks:=tk}) :
  av (model prog w) A (call (.builtin "min") [.ref l] [(bT "default",d)]) Q E s:=by
 have hnm:(toString "min" ++ toString ".loop" : String) = "min.loop" :=by decide
 refine kmb_tree PySem.F.kind_min PySem.F.plain_min PySem.F.entry_min (argsMinD _ _) ?_;show av _ A.in1 (gJ "min" ["key","default"] 0 ⟨[],[(bT "default",d)]⟩ >>= _) _ _ s;refine ae (wpAny_of_eq (show gJ "min" ["key","default"] 0 ⟨[],[(bT "default",d)]⟩=pure [ab,aa d]from rfl) ?_);refine ae (ak ?_);refine ae (iter_intList hl λs₂ e st hfp hlI=>?_);subst e;refine ae (wpAny_newObj_type ?_);rw[hnm];have W:=jY (prog:=prog) (w:=w) (A:=A.in1) hh s.heap.objs.size l hlI (intItems xs);have hsz:(intItems xs).size=xs.size:=by simp[intItems]
 have hSf:(s.heap.push { cls:=.type "list_iterator",data:=.fields #[.ref l,.int 0 0]}).objs.size∉[s.heap.objs.size,l]:=λhm=>bK _ (hfp _ hm);have keep:∀h':aT,(∀b o,b∉[s.heap.objs.size]->b≠(s.heap.push { cls:=.type "list_iterator",data:=.fields #[.ref l,.int 0 0]}).objs.size->((s.heap.push { cls:=.type "list_iterator",data:=.fields #[.ref l,.int 0 0]}).push { cls:=.type "list",data:=.seq ([]:List af).toArray}).get? b=aa o->h'.get? b=aa o)->∀b o,s.heap.get? b=aa o->h'.get? b=aa o:=λh' hk b o e=>by
  refine hk b o (λhm=>?_) (λhb=>?_) (aj _ (aj _ e))
  ·exact absurd (aC e) (by rw[bn.mp hm];exact bK _)
  ·have h1:=aC e;rw[bD]at hb;exact absurd h1 (by rw[hb];exact ic.mpr (cY _))
 by_cases hx:xs.size=0
 ·refine ak ⟨plainId_quiet b6 _,mloop0 W _ hSf (by rw[hsz];exact hx) (W.frame _ _ _ st λb _ o e=>aj _ e) (ay _ rfl) λh' tk hk=>?_⟩;exact h2 h' tk hx (keep h' hk)
 ·refine ak ⟨plainId_quiet b6 _,mloop1 W _ (CmpOf.ints_lt (numAt xs) (λ_ _=>intItems_at)) _ hSf (by lia) (W.frame _ _ _ st λb _ o e=>aj _ e) (ay _ rfl) λv h' tk hP hk=>?_⟩;exact h1 v h' tk (by lia) (by simpa [intItems] using hP) (keep h' hk)
end
def isI:D->Option Int
 |.int i=>aa i
 | _=>ab
def zgE:List D->Option (List Int)
 |[]=>aa []
 |d::ds=>(isI d).bind λi=>(zgE ds).map λis=>i::is
def minI:List Int->Option Int
 |[]=>ab
 |i::is=>aa (is.foldl (λa b=>if b<a then b else a) i)
def zjU{F:Hp}{vs:List V}{ds:List D}{ns:List Int}(h:Reps F vs ds)(q:zgE ds=aa ns):vs=ns.map V.int:=by
 refine h.ind (P:=λvs ds=>∀ns,zgE ds=aa ns->vs=ns.map V.int) (λns q=>?_) (fun {v d vs ds} r t ih ns q=>?_) ns q
 ·cases q;rfl
 ·simp only[zgE]at q;obtain⟨i,q1,q⟩:=bind_some q;obtain⟨is,q2,q⟩:=map_some q;cases q;cases d <;> cases q1;cases r;rw[aH,ih _ q2]
def zfb:∀{ns:List Int} {us:List af},Vals (ns.map V.int) us->∃l:List (Int×Tok),us=l.map (λp=>f7 p.1 p.2)/\l.map (·.1)=ns
 |[],us,r=>by
  rw[dj]at r;cases r;exact⟨[],rfl,rfl⟩
 |n::ns,us,r=>by
  rw[aH]at r;cases r with
  |cons h t=>
   obtain⟨tk,e⟩:=h;subst e;obtain⟨l,ex1,ex2⟩:=zfb t;exact⟨(n,tk)::l,by rw[ex1];rfl,by rw[aH,ex2]⟩
def zgI(val:Nat->Int):∀k,val (argBest (λi j=>decide (val i<val j)) k)=((au k).map λi=>val (i+1)).foldl (λa b=>if b<a then b else a) (val 0)
 |0=>rfl
 |k+1=>by
  rw[dk,cC,List.foldl_append,<- zgI val k];have e:argBest (λi j=>decide (val i<val j)) (k+1)=if decide (val (k+1)<val (argBest (λi j=>decide (val i<val j)) k))=true then k+1 else argBest (λi j=>decide (val i<val j)) k:=rfl
  rw[e];generalize argBest (λi j=>decide (val i<val j)) k=z;simp only[decide_eq_true_eq,aH,dj,dU,List.foldl_nil];split <;> rfl
def minI_best{l:List (Int×Tok)}(hn:0<l.length):minI (l.map (·.1))=aa (numAt l.toArray (argBest (λi j=>decide (numAt l.toArray i<numAt l.toArray j)) (l.length-1))):=by
 cases l with
 |nil=>simp at hn
 |cons p l=>
  rw[zgI (numAt (p::l).toArray)];show aa _=aa _;congr 1;rw[show(p::l).length-1=l.length by simp];have e0:numAt (p::l).toArray 0=p.1:=by simp[numAt]
  have ex1:(au l.length).map (λi=>numAt (p::l).toArray (i+1))=l.map (·.1):=by
   apply dM
   ·simp
   ·intro i h1 h2;simp at h1;simp[numAt,h1]
  rw[e0,ex1]
section
variable {X:Cx}
def ziV{pins:List (ai×Obj)}{σ:L2.St}{H:Hp}{s:ah}{p:ai}{ns:List Int}(I:Inv X pins σ H s)(h:SqL X.K H p (ns.map V.int)):∃l:List (Int×Tok),s.heap.IsList p (intItems l.toArray)/\l.map (·.1)=ns:=by
 obtain⟨its,r,pl,_⟩:=I.list h;obtain⟨l,ex1,ex2⟩:=zfb r;refine⟨l,?_,ex2⟩;have:=pl.isList;rw[ex1]at this;simpa [intItems] using this
def gMinD:Ent->Ent->Option Ent:=λx y=>(asL x).bind λds=>(zgE ds).bind λns=>match minI ns with
 |some m=>aa (.val (.int m))
 |none=>match y with
  |.val d=>aa (.val d)
  | _=>ab
def rMinD(K:ag):R2:=λx y H Q=>∃(q:ai) (ns:List Int),x=.ref q/\SqL K H q (ns.map V.int)/\Q (match minI ns with|some m=>.int m|none=>y) H
def vminD{a d:Expr}{fa fd:FE}{p pos kpos:Pos}(ha:VE X a fa)(hd:VE X d fd)(hg:Gl X "min")(hm:X.mg "min" =ab)(hb:aM "min" =aa (.builtin "min"))(hc:X.calm=true:=by rfl)(hs:zaj a=true:=by rfl) :
  VE X (.Call (.Name "min" p) [a] [⟨aa "default",d,kpos⟩] pos) (ex2 gMinD fa fd):=by
 obtain⟨ta,wa,ma⟩:=ha.h;obtain⟨td,wd,md⟩:=hd.h;refine⟨tOp (rMinD X.K) ta td,⟨?_⟩,.op ?_ ma md⟩
 ·intro pins s σ H Q I h;refine cF (zd7 I hg hm hb ?_ (by decide) (by decide));have hA:=(wac wa wnil hs).h pos pins s σ H (λxs H1=>match xs with|[x]=>td σ H1 λy H2=>rMinD X.K x y H2 Q | _=>False) I h;refine kW (thn hA λus s1 h1=>?_) (by rw[zak hs];rfl) (by rw[zak hs];rfl);obtain⟨vs,H1,I1,r1,q1⟩:=h1;cases r1 with
  |nil=>exact cy q1
  |cons rx rt=>
   cases rt with
   |cons _ _=>exact cy q1
   |nil=>
    have hK:=pk_cons (nm:=aa (bT "default")) (kpos:=kpos) wd.h pk_nil pos pins s1 σ H1 (λys H2=>match ys with|[y]=>rMinD X.K _ y H2 Q | _=>False) I1 q1;refine thn hK λws s2 h2=>?_;obtain⟨zs,H2,I2,r2,q2⟩:=h2;cases r2 with
    |nil=>exact cy q2
    |cons ry rt2=>
     cases rt2 with
     |cons _ _=>exact cy q2
     |nil=>
      obtain⟨q,ns,rfl,hq,q2⟩:=q2;cases rx;obtain⟨l,hl,e⟩:=ziV I2 hq;subst e;refine call_minD (I2.ok.hd hc) hl (λv h' tk hn hv kp=>?_) λh' tk hn kp=>?_
      ·obtain⟨t,e⟩:=intItems_at hv;subst e;rw[minI_best (by simpa using hn)]at q2;exact⟨.int _,H2,I2.kept (t':=tk) kp,⟨t,by simp⟩,q2⟩
      ·have e:l=[]:=d6 (by simpa using hn);subst e;exact⟨_,H2,I2.kept (t':=tk) kp,ry,q2⟩
 ·intro H0 F H x y e e' res Q fh hh rx ry q k;obtain⟨ds,q1,q⟩:=bind_some q;obtain⟨ns,q2,q⟩:=bind_some q;obtain⟨l,ws,el,h1,h2⟩:=RepR.toL rx fh q1;rw[zjU h2 q2]at h1;refine⟨l,ns,el,h1,?_⟩;cases hm:minI ns with
  |some m=>simp only[hm]at q ⊢;cases q;exact k _ F H (Ex.refl fh) (.int _)
  |none=>
   simp only[hm]at q ⊢;cases e' with
   |val d=>cases q;exact k _ F H (Ex.refl fh) ry
   | _=>cases q
end
end L3

namespace L3
open PySem PySem.Spec PyProof.Rows L2
def sgn(z:Str):List Str:=z.cps.toList.map λc=>⟨#[c]⟩
def zaY(l:List Nat):(mkS l).cps.toList=l:=by simp[mkS]
def mkS_cps(z:Str):mkS z.cps.toList=z:=by cases z;simp[mkS]
def zau(l:List Nat):(mkS l).length=l.length:=by simp[mkS,gi]
def clp(n:Int)(v:Option Int)(d:Int):Int:=match v with
 |none=>d
 |some i=>max 0 (min (if i<0 then i+n else i) n)
def clp_ok(n:Nat)(v:Option Int)(d:Nat):clp n v d=((HT.sIx n d v:Nat):Int):=by
 cases v with
 |none=>rfl
 |some i=>
  show max 0 (min (if i<0 then i+(n:Int)else i) n)=(((if i<0 then (i+(n:Int)).toNat else min i.toNat n:Nat)):Int)
  by_cases h:i<0
  ·rw[if_pos h,if_pos h];lia
  ·rw[if_neg h,if_neg h];lia
def strIx(lo hi:Option Int)(n:Nat):cX lo hi 1 n=cX (aa ((HT.sIx n 0 lo:Nat):Int)) (aa ((HT.sIx n n hi:Nat):Int)) 1 n:=by
 have ex1:∀a:Nat,a<=n->max (0:Int) (min (if (a:Int)<0 then (a:Int)+n else a) n)=a:=λa h=>by
  rw[if_neg (by lia)];lia
 unfold cX;simp only[show((1:Int) > 0)=True from by simp,if_true];rw[ex1 _ (HT.sIx_le n 0 (aU n) lo),ex1 _ (HT.sIx_le n n (am n) hi)];show sliceRange (clp n lo ((0:Nat):Int)) (clp n hi (n:Int)) 1=_;rw[clp_ok,clp_ok]
def slice_cut(x:Str)(lo hi:Option Int):kg x lo hi=mkS (zfP x.cps.toList lo hi):=by
 have hl:x.cps.toList.length=x.length:=by simp[gi]
 unfold kg zfP;rw[strIx,hl];have h1:=HT.sIx_le x.length 0 (aU _) lo;have h2:=HT.sIx_le x.length x.length (am _) hi;generalize HT.sIx x.length 0 lo=a at h1;generalize HT.sIx x.length x.length hi=b at h2;by_cases hab:a<=b
 ·rw[gw hab h2];split
  ·rename_i h;have hz:b-a=x.length:=by simpa using h
   have ha:a=0:=by lia
   subst ha;rw[fD,hz,<- hl,iq,mkS_cps]
  ·rw[<- gw hab h2,StrLaws.sliced_plain x hab h2];rfl
 ·have e:cX (aa (a:Int)) (aa (b:Int)) 1 x.length=[]:=by
   have n1:¬ ((a:Int)<0):=by lia
   have n2:¬ ((b:Int)<0):=by lia
   have ex1:max (0:Int) (min (a:Int) (x.length:Int))=a:=by lia
   have ex2:max (0:Int) (min (b:Int) (x.length:Int))=b:=by lia
   simp only[cX,n1,n2,if_false,ex1,ex2,show((1:Int) > 0)=True from by simp,if_true,sliceRange];rw[if_neg (by lia)];simp
  rw[e];split
  ·rename_i h;have hz:0=x.length:=by simpa using h
   lia
  ·rw[show b-a=0 by lia,i4];rfl
section
variable {X:Cx}
def sl_str:SlR X (λx lo hi H Q=>∃z,x=.str z/\z.length<=aX/\Q (.str (mkS (zfP z.cps.toList lo hi))) H):=by
 intro pins s σ H x v vl vu lo hi sl Q I rx hs pl pu h;obtain⟨z,rfl,hz,q⟩:=h;obtain⟨t,rfl⟩:=rx;obtain⟨o,ho,hc,hd⟩:=hs;refine⟨"str",_,iu.lookup,typeIs_str _ _ _,?_⟩;have fin:∀t' k,EP X pins σ Q (.str (kg z lo hi) t') { s with toks:=k}:=λt' k=>⟨.str _,H,I.tok k,⟨t',rfl⟩,by rw[slice_cut];exact q⟩
 cases pl with
 |none=>
  cases pu with
  |none=>exact wpAny_getItem_str_slice (l:=ab) (u:=ab) (st:=ab) ⟨o,ho,hc,hd⟩ rfl (post_val_or_str ⟨aS (iw z _ _) hz,fin⟩)
  |int j u=>exact wpAny_getItem_str_slice (l:=ab) (u:=aa (j,u)) (st:=ab) ⟨o,ho,hc,hd⟩ rfl (post_val_or_str ⟨aS (iw z _ _) hz,fin⟩)
 |int i u=>
  cases pu with
  |none=>exact wpAny_getItem_str_slice (l:=aa (i,u)) (u:=ab) (st:=ab) ⟨o,ho,hc,hd⟩ rfl (post_val_or_str ⟨aS (iw z _ _) hz,fin⟩)
  |int j u'=>exact wpAny_getItem_str_slice (l:=aa (i,u)) (u:=aa (j,u')) (st:=ab) ⟨o,ho,hc,hd⟩ rfl (post_val_or_str ⟨aS (iw z _ _) hz,fin⟩)
noncomputable def gSlS:Ent->Option Int->Option Int->Option Ent:=λx lo hi=>(sOf x).bind λz=>gif (sz z.length) (aa (.val (.str (mkS (zfP z.cps.toList lo hi)))))
def l_str:SlD X gSlS:=⟨_,sl_str,λH0 F H x lo hi e res Q fh hh rx q k=>by
 obtain⟨z,q1,q⟩:=bind_some q;obtain⟨hl,qz⟩:=zaO q;cases qz;cases zaB q1;exact⟨z,za1 rx,zdO hl,k _ F H (Ex.refl fh) (.str _)⟩⟩
def zgU{z:Str}:∀{acc:List af} {k:Nat},(∀j v,acc[j]? =aa v->SignAt z (k+j) v)->Vals (((z.cps.toList.drop k).take acc.length).map λc=>V.str ⟨#[c]⟩) acc
 |[],k,_=>by simp;exact .nil
 |v::r,k,h=>by
  obtain⟨c,u,hc,rfl⟩:=h 0 v rfl;have hk:k<z.cps.toList.length:=by
   have:=(eK.mp hc).1;simpa using this
  rw[bq hk,aJ,gB,aH];have e:z.cps.toList[k]=c:=by
   have:=eK.mp hc;simpa using this.2
  rw[e];refine .cons ⟨u,rfl⟩ (zgU (k:=k+1) λj v hv=>?_);have:=h (j+1) v (by simpa using hv);rwa [show k+(j+1)=k+1+j by lia]at this
def vals_all{z:Str}{acc:Array af}(h:ItemsOf (SignAt z) acc z.cps.size):Vals ((sgn z).map V.str) acc.toList:=by
 obtain⟨h1,h2⟩:=h;have:=zgU (z:=z) (acc:=acc.toList) (k:=0) (λj v e=>by rw[bv];exact h2 j v (by simpa using e));rw[fD,show acc.toList.length=z.cps.toList.length by simpa using h1,iq]at this;unfold sgn;rw[bN];exact this
def call_lstS(hc:X.calm=true):zfv X (.type "list") (λxs H Q=>∃z,xs=[.str z]/\z.length<=1000000/\∀p,H p=ab->Q (.ref p) (upd H p (.lst ((sgn z).map V.str)))):=by
 intro pins s σ H xs us Q I r h;obtain⟨z,rfl,hz,q⟩:=h;obtain⟨u,rfl,t,rfl⟩:=zf4 r;refine call_list_str (I.ok.hd hc) z t (λh' tk acc c kp e ha=>?_) (zdO hz);refine⟨.ref s.heap.objs.size,_,I.laid (t':=tk) (o:=.lst ((sgn z).map V.str)) kp (am _) ⟨?_,acc.toList,c,vals_all ha,by simpa using e⟩,rfl,q _ (I.hok.fresh (am _))⟩;rw[aw];unfold sgn;rw[aw];exact zdO hz
def zgb{F:Hp}:∀(zs:List Str),Reps F (zs.map V.str) (zs.map D.str)
 |[]=>.nil
 |z::zs=>.cons (.str z) (zgb zs)
noncomputable def gListS:List Ent->Option Ent
 |[x]=>(sOf x).bind λz=>gif (sz z.length) (aa (.own ((sgn z).map .str)))
 | _=>ab
def c_listS(hc:X.calm=true:=by rfl):zhE X (.type "list") gListS:=⟨_,call_lstS hc,λH0 F H vs es res Q fh hh r q k=>by
 obtain⟨x,rfl⟩:=zgQ rfl (λ_ _ _=>rfl) q;obtain⟨v,rfl,rz⟩:=zdK r;obtain⟨z,q1,q⟩:=bind_some q;obtain⟨hl,qz⟩:=zaO q;cases qz;cases zaB q1;cases za1 rz;exact⟨z,rfl,hl,λp hp=>k _ _ _ (Ex.lay fh hp) ⟨p,_,rfl,hh.free hp,zam,zgb _,fh.free hp⟩⟩⟩
end
def eBM(g:Ent->List Ent->Option Ent)(fo:FE)(fs:FA):FE:=λδ=>(fo δ).bind λx=>(fs δ).bind λes=>g x es
structure MtD(X:Cx)(T:String)(name:Str)(g:Ent->List Ent->Option Ent):Prop where
 h:∃id r,PlainAttrs T/\Slot T name id/\typeOf (.builtin id)=pure (.type "method_descriptor")/\MtR X id r /\
  (∀(H0 F H:Hp) (x:V) (e:Ent) (es:List Ent) (res:Ent),Same F H->RepR X.K H0 F H x e->g e es=aa res->tyV X.K T x H) /\
  ∀(H0 F H:Hp) (x:V) (vs:List V) (e:Ent) (es:List Ent) (res:Ent) (Q:VK),Same F H->Same H0 H->RepR X.K H0 F H x e->RepRs X.K H0 F H vs es->g e es=aa res->(∀v F' H',Ex F H F' H'->RepR X.K H0 F' H' v res->Q v H')->r x vs H Q
section
variable {X:Cx}{T:String}{name:Str}{g:Ent->List Ent->Option Ent}{o e:Expr}{es:List Expr}{fo:FE}{fs:FA}{apos cpos:Pos}
def vbm(M:MtD X T name g)(ho:VE X o fo)(ha:VA X (e::es) fs)(hbase:b9 o name X.env (eval o X.env)=eval o X.env:=by rfl)(hl:decide ((e::es).length+0+0<30)=true:=by rfl)(hline:(apos.endLine==cpos.line)=true:=by rfl)
  (h1:zaj e=true:=by rfl) (h2:es.all zaj=true:=by rfl):VE X (.Call (.Attribute o name apos) (e::es) [] cpos) (eBM g fo fs):=by
 obtain⟨t,wo,mo⟩:=ho.h;obtain⟨ta,wa,ma⟩:=ha.h;obtain⟨id,r,pa,sl,ht,hm,hty,hsem⟩:=M.h;refine⟨_,wbm pa sl ht hm wo wa hbase hl hline h1 h2,λB F H σ δ res Q s q k=>?_⟩;obtain⟨x,q1,q⟩:=bind_some q;obtain⟨rs,q2,q⟩:=bind_some q;refine mo B F H σ δ x _ s q1 λv F1 H1 x1 r1=>⟨hty H F1 H1 v x rs res x1.fh r1 q,?_⟩
 refine ma B F1 H1 σ δ rs _ (s.ext x1) q2 λvs F2 H2 x2 r2=>?_;exact hsem H F2 H2 v vs x rs res Q x2.fh (x1.trans x2).hh (r1.ext x2) (r2.earlier x1.hh) q λv' F' H' x3 r3=>k v' F' H' ((x1.trans x2).trans x3) r3
end
def isS:D->Option Str
 |.str i=>aa i
 | _=>ab
def zgi:List D->Option (List Str)
 |[]=>aa []
 |d::ds=>(isS d).bind λi=>(zgi ds).map λis=>i::is
def zjx{F:Hp}{vs:List V}{ds:List D}{ns:List Str}(h:Reps F vs ds)(q:zgi ds=aa ns):vs=ns.map V.str:=by
 refine h.ind (P:=λvs ds=>∀ns,zgi ds=aa ns->vs=ns.map V.str) (λns q=>?_) (fun {v d vs ds} r t ih ns q=>?_) ns q
 ·cases q;rfl
 ·simp only[zgi]at q;obtain⟨i,q1,q⟩:=bind_some q;obtain⟨is,q2,q⟩:=map_some q;cases q;cases d <;> cases q1;cases r;rw[aH,ih _ q2]
def zel:∀{ns:List Str} {us:List af},Vals (ns.map V.str) us->StrsAre us ns
 |[],us,r=>by rw[dj]at r;cases r;exact .nil
 |n::ns,us,r=>by
  rw[aH]at r;cases r with
  |cons h t=>
   obtain⟨tk,e⟩:=h;subst e;exact .cons n tk (zel t)
section
variable {X:Cx}
def mt_join:MtR X "str.join" (λx xs H Q=>∃(z:Str) (p:ai) (zs:List Str),x=.str z/\xs=[.ref p]/\SqL X.K H p (zs.map V.str)/\(zs.map (·.length)).sum+zs.length*z.length<=16777216/\Q (.str (ix z zs)) H):=by
 intro pins s σ H x xs v us Q I rx r h;obtain⟨z,p,zs,rfl,rfl,hq,hl,q⟩:=h;obtain⟨t,rfl⟩:=rx;obtain⟨u,rfl,ru⟩:=zf4 r;cases ru;obtain⟨its,r',pl,_⟩:=I.list hq;exact join_list pl.isList (by simpa using zel r') hl λt' k=>⟨.str _,H,I.tok k,⟨t',rfl⟩,q⟩
noncomputable def zgF:Ent->List Ent->Option Ent
 |x,[y]=>(sOf x).bind λz=>(asL y).bind λds=>(zgi ds).bind λzs=>gif (sz ((zs.map (·.length)).sum+zs.length*z.length)) (aa (.val (.str (ix z zs))))
 | _,_=>ab
def m_join:MtD X "str" "join" zgF:=by
 refine⟨_,_,fS,PySem.F.slot_str_join,PySem.F.type_str_join,mt_join,?_,?_⟩
 ·intro H0 F H x e es res fh r q;unfold zgF at q;split at q
  ·obtain⟨z,q1,q⟩:=bind_some q;cases zaB q1;cases za1 r;rfl
  ·cases q
 ·intro H0 F H x vs e es res Q fh hh r rs q k;unfold zgF at q;split at q
  ·obtain⟨z,q1,q⟩:=bind_some q;obtain⟨ds,q2,q⟩:=bind_some q;obtain⟨zs,q3,q⟩:=bind_some q;obtain⟨hl,qz⟩:=zaO q;cases qz;cases zaB q1;cases za1 r;obtain⟨w',rfl,rz⟩:=zdK rs;obtain⟨l,ws,e',h1,h2⟩:=RepR.toL rz fh q2;subst e';rw[zjx h2 q3]at h1;exact⟨z,l,zs,rfl,rfl,h1,by unfold sz at hl;lia,k _ F H (Ex.refl fh) (.str _)⟩
  ·cases q
end
end L3

namespace L3
open PySem PySem.Spec PyProof.Rows L2
def lenS{α:Type}{us:List α}{n:Nat}(h:us.length=n+1):∃a t,us=a::t/\t.length=n:=by
 cases us with
 |nil=>cases h
 |cons a t=>exact⟨a,t,rfl,kX h⟩
def len1{α:Type}{us:List α}(h:us.length=1):∃a0,us=[a0]:=by
 obtain⟨a,t,rfl,h2⟩:=lenS h;cases d6 h2;exact⟨a,rfl⟩
def len2{α:Type}{us:List α}(h:us.length=2):∃a0 a1,us=[a0,a1]:=by
 obtain⟨a0,t,rfl,h2⟩:=lenS h;obtain⟨a1,rfl⟩:=len1 h2;exact⟨a0,a1,rfl⟩
def len3{α:Type}{us:List α}(h:us.length=3):∃a0 a1 a2,us=[a0,a1,a2]:=by
 obtain⟨a0,t,rfl,h2⟩:=lenS h;obtain⟨a1,a2,rfl⟩:=len2 h2;exact⟨a0,a1,a2,rfl⟩
def len4{α:Type}{us:List α}(h:us.length=4):∃a0 a1 a2 a3,us=[a0,a1,a2,a3]:=by
 obtain⟨a0,t,rfl,h2⟩:=lenS h;obtain⟨a1,a2,a3,rfl⟩:=len3 h2;exact⟨a0,a1,a2,a3,rfl⟩
def len5{α:Type}{us:List α}(h:us.length=5):∃a0 a1 a2 a3 a4,us=[a0,a1,a2,a3,a4]:=by
 obtain⟨a0,t,rfl,h2⟩:=lenS h;obtain⟨a1,a2,a3,a4,rfl⟩:=len4 h2;exact⟨a0,a1,a2,a3,a4,rfl⟩
def len6{α:Type}{us:List α}(h:us.length=6):∃a0 a1 a2 a3 a4 a5,us=[a0,a1,a2,a3,a4,a5]:=by
 obtain⟨a0,t,rfl,h2⟩:=lenS h;obtain⟨a1,a2,a3,a4,a5,rfl⟩:=len5 h2;exact⟨a0,a1,a2,a3,a4,a5,rfl⟩
def len7{α:Type}{us:List α}(h:us.length=7):∃a0 a1 a2 a3 a4 a5 a6,us=[a0,a1,a2,a3,a4,a5,a6]:=by
 obtain⟨a0,t,rfl,h2⟩:=lenS h;obtain⟨a1,a2,a3,a4,a5,a6,rfl⟩:=len6 h2;exact⟨a0,a1,a2,a3,a4,a5,a6,rfl⟩
inductive FunE(K:ag)(x qual:Str)(st:Stmt)(f:ai)(fd:bF):Prop
 |mk (oc:af) (od:Option ai) (dV kV doc pm:af) (an:Option ai) (cdv ct:af) (osl:Array (Option af)):fd=bV x qual (zbI st) (zbl st) (zad st) dV kV doc pm an cdv ct->K.lookup f=aa ⟨oc,od,.func fd,osl⟩->ck K cdv qual=true->FunE K x qual st f fd
structure FunA(K:ag)(x qual:Str)(st:Stmt)(f:ai)(fd:bF):Prop where
 ex:FunE K x qual st f fd
 kp:bJ K (.ref f)=true
def FunA.of{K:ag}{x qual:Str}{st:Stmt}{f:ai}{fd:bF}(F:Fun K x qual st f fd):FunA K x qual st f fd:=by
 obtain⟨oc,od,kV,doc,pm,an,cdv,ct,osl,e,l,c⟩:=F.ex;exact⟨⟨oc,od,.none,kV,doc,pm,an,cdv,ct,osl,e,l,c⟩,F.kp⟩
section
variable {P:aK}{w:aO}{K:ag}{mg:Str->Option af}{base:aT}{x qual:Str}{st:Stmt}{f:ai}{fd:bF}{N ps:List Str}{k:Nat}{ks:List Kd}{g:List D->Option Ent}
def zaz(F:FunA K x qual st f fd)(S:FnScope N ps (zad st))(fb:FS)(hk:ks.length=ps.length)(hg:∀ds r,g ds=aa r->zbb ks (N.length-ps.length) fb ds=aa r)
  (hbody:∀(cdv:af) (A:aQ) (outer:List Env) (s:ah) (H:Hp) (E:XK),Room k (A.deeper (envOfC qual (zad st) s.heap.objs.size f cdv))->VSs (cxOf CX0 P w K mg base N qual (zad st) f cdv A outer s H E).nox (zbl st) fb) :
  FnOk P w K mg base CX0 (k+1) f fd ps (spD K ks g):=by
 obtain⟨oc,od,dV,kV,doc,pm,an,cdv,ct,osl,rfl,lk,hcd⟩:=F.ex;refine fn_of lk hcd S (λvs H Q E h=>?_) λA outer s H vs Q E hr h=>?_
 ·obtain⟨F,ds,r,_,a,_⟩:=h;rw[a.length,hk]
 ·obtain⟨F,ds,r,fh,a,q,kk⟩:=h;obtain⟨t,wt,m⟩:=(hbody cdv A outer s H E hr).h;refine⟨t,wt.h.nox,?_⟩;obtain⟨es,q1,q2⟩:=bind_some (hg ds r q);obtain⟨out,q3,q4⟩:=bind_some q2;obtain⟨hl,he⟩:=a.start q1;have hvs:=a.length;have hap:∀(i:Nat) (e:Ent),(es++az (N.length-ps.length) ab)[i]? =aa (aa e)->es[i]? =aa (aa e):=λi e h=>by
   by_cases hi:i<es.length
   ·rwa [bO hi]at h
   ·rw[bL (by lia),dQ]at h;split at h <;> cases h
  have s0:RS K ⟨H,ab⟩ F H (L2.start N vs) (es++az (N.length-ps.length) ab):=by
   refine⟨fh,Same.refl H,?_,λi e h=>?_,λa b l ds e hab h1=>?_,λa b e1 e2 v1 v2 ad hab q1 _ _ _ q5 _ _=>?_,λw o hw _=>by cases hw⟩
   ·unfold L2.start;simp only[a8,aw,c9];lia
   ·obtain⟨⟨v,h1,h2⟩,_⟩:=he i e (hap i e h);refine⟨v,?_,h2⟩;unfold L2.start;rw[bO (by rw[aw];exact(a7.mp h1).1),aB,h1];rfl
   ·have:=(he a _ (hap a _ h1)).2.1;cases this
   ·obtain⟨_,_,ho⟩:=he a _ (hap a _ q1);rw[ho]at q5;cases q5
  refine m ⟨H,ab⟩ F H (L2.start N vs) _ out _ s0 q3 ?_;cases out with
  |nx δ'=>cases q4;exact λσ' F' H' s' y=>kk .non F' H' ⟨y.ff,s'.fh,s'.bh,y.nw⟩ .non
  |rt r' δ'=>cases q4;exact λv σ' F' H' s' y z=>kk v F' H' ⟨y.ff,s'.fh,s'.bh,y.nw⟩ z
  |bk δ'=>cases q4
  |ct δ'=>cases q4
end
def gK{α:Type}(n:Nat)(us ws:List α):List α:=if us.length=n/\ws.length=1 then us++ws else []
def gK_shape{α:Type}{n m:Nat}{us ws:List α}(h:(gK n us ws).length=m+1):us.length=n/\ws.length=1/\gK n us ws=us++ws:=by
 unfold gK at h ⊢;split at h
 ·rename_i hc;rw[if_pos hc];exact⟨hc.1,hc.2,rfl⟩
 ·cases h
def gK_rel{n:Nat}{vs:List V}{us:List af}{zs:List V}{ws:List af}(r:Vals vs us)(rz:Vals zs ws):Vals (gK n vs zs) (gK n us ws):=by
 unfold gK;rw[r.length,rz.length];split
 ·exact r.append rz
 ·exact .nil
structure DefD(K:ag)(mg:Str->Option af)(x:Str)(st:Stmt)(ps:List Str)(f:ai)(fd:bF):Prop where
 fn:FunA K x x st f fd
 mg:mg x=aa (.ref f)
 b:Binds K fd ps []
 b1:Binds K fd ps [.bool false]
 kb:KBinds K fd ps [ps.getLastD ""] (gK (ps.length-1)) (gK (ps.length-1))
def DfOk(K:ag)(df:af):Prop:=∃(T:ai) (o:Obj) (n:Nat),df=.ref T/\K.lookup T=aa o/\o.data=.seq #[.bool false] n
section
variable {X:Cx}{es:List Expr}{e d:Expr}{fs:FA}{fk:FE}{x:Str}{p pos kpos:Pos}{ks:List Kd}{g:List D->Option Ent}
def zgc(ks:List Kd)(g:List D->Option Ent)(fs:FA)(d:D):FE:=λδ=>((fs δ).bind λrs=>zaA ks (rs++[.val d])).bind g
def RepRs.snoc{K:ag}{H0 F H:Hp}{v:V}{e:Ent}(r:RepR K H0 F H v e):∀{vs:List V} {es:List Ent},RepRs K H0 F H vs es->RepRs K H0 F H (vs++[v]) (es++[e])
 | _,_,.nil=>.cons r .nil
 | _,_,.cons h t=>.cons h (RepRs.snoc r t)
def vclF{CX:CXT}{k j:Nat}{f:ai}{fd:bF}{ps:List Str}{st:Stmt}{E:XK}(F:FnOk X.prog X.w X.K X.mg X.base CX k f fd ps (spD X.K ks g))(D:DefD X.K X.mg x st ps f fd)(hr:Room j X.A)(hg:Gl X x)(hx:zcK CX X E)
  (ha:VA X (e::es) fs) (hjk:k<=j:=by decide) (hdb:(x==("__debug__" : Str))=false:=by decide) (h1:zaj e=true:=by rfl) (h2:es.all zaj=true:=by rfl) :
  VE X (.Call (.Name x p) (e::es) [] pos) (zag ks g fs):=let⟨_,w,m⟩:=ha.h;⟨_,⟨zi7 F (hr.mono hjk) hg D.mg D.fn.kp D.b .nil hx w.h hdb (zak h1) (zcd h2)⟩,.call m rfl⟩
def vclD{CX:CXT}{k j:Nat}{f:ai}{fd:bF}{ps:List Str}{st:Stmt}{E:XK}(F:FnOk X.prog X.w X.K X.mg X.base CX k f fd ps (spD X.K ks g))(D:DefD X.K X.mg x st ps f fd)(hr:Room j X.A)(hg:Gl X x)(hx:zcK CX X E)
  (ha:VA X (e::es) fs) (hjk:k<=j:=by decide) (hdb:(x==("__debug__" : Str))=false:=by decide) (h1:zaj e=true:=by rfl) (h2:es.all zaj=true:=by rfl) :
  VE X (.Call (.Name x p) (e::es) [] pos) (zgc ks g fs (.bl false)):=by
 obtain⟨t,w,m⟩:=ha.h;refine⟨_,⟨zi7 F (hr.mono hjk) hg D.mg D.fn.kp D.b1 (dvs:=[.bl false]) (.cons rfl .nil) hx w.h hdb (zak h1) (zcd h2)⟩,λB F H σ δ res Q s q k=>?_⟩;obtain⟨ds,q1,q⟩:=bind_some q;obtain⟨rs,q2,q3⟩:=bind_some q1;refine m B F H σ δ rs _ s q2 λvs F1 H1 x1 r1=>?_;have r2:=RepRs.snoc (K:=X.K) (H0:=H) (F:=F1) (H:=H1) (v:=.bl false) (e:=.val (.bl false)) (.bl false) r1;obtain⟨F2,x2,_,a2⟩:=RepRs.args x1 (Same.refl _) r2 q3;exact⟨F2,ds,res,x2.fh,a2,q,λv F' H' x3 r3=>k v F' H' (x2.trans x3) (r3.earlier x2.hh)⟩
end
end L3

namespace L3
open PySem L2
def zbY{f g:FS}{δ δ':En}(h:f δ=aa (.nx δ')):zah f g δ=g δ':=by
 unfold zah;rw[h];rfl
def fIfT{ft:FT}{f g:FS}{δ:En}(h:ft δ=aa true):fIf ft f g δ=f δ:=by unfold fIf;rw[h];rfl
def ziF{ft:FT}{f g:FS}{δ:En}(h:ft δ=aa false):fIf ft f g δ=g δ:=by unfold fIf;rw[h];rfl
def zaV{tg:FG}{f:FS}{d:D}{ds:List D}{δ δ1 δ2:En}(h1:tg d δ=aa δ1)(h2:f δ1=aa (.nx δ2)):loop tg f (d::ds) δ=loop tg f ds δ2:=by
 show((tg d δ).bind λδ1=>(f δ1).bind (lpO (loop tg f ds)))=_;rw[h1];show(f δ1).bind (lpO (loop tg f ds))=_;rw[h2];rfl
def ze9(I:Nat->En->Prop){tg:FG}{f:FS}:∀(ds:List D) (k:Nat) (δ:En),
  (∀i d δ,ds[i]? =aa d->I (k+i) δ->∃δ1 δ2,tg d δ=aa δ1/\(f δ1=aa (.nx δ2)\/f δ1=aa (.ct δ2))/\I (k+i+1) δ2)->I k δ ->
  ∃δ',loop tg f ds δ=aa (.nx δ')/\I (k+ds.length) δ'
 |[],k,δ,_,h0=>⟨δ,rfl,h0⟩
 |d::ds,k,δ,h,h0=>by
  obtain⟨δ1,δ2,h1,h2,h3⟩:=h 0 d δ rfl h0;obtain⟨s',h4,h5⟩:=ze9 I ds (k+1) δ2 (λi d' s hd hi=>by
   have:=h (i+1) d' s (by simpa using hd) (by rw[show k+(i+1)=k+1+i by lia];exact hi);rwa [show k+(i+1)=k+1+i by lia]at this) h3
  refine⟨s',?_,by rw[aJ,show k+(ds.length+1)=k+1+ds.length by lia];exact h5⟩;show((tg d δ).bind λδ1=>(f δ1).bind (lpO (loop tg f ds)))=_;rw[h1];show(f δ1).bind (lpO (loop tg f ds))=_;rcases h2 with h2|h2
  ·rw[h2];exact h4
  ·rw[h2];exact h4
def ze5{ft:D->Option Bool}{fe:D->Option Ent}(ds out:List D)(hl:out.length=ds.length)(h1:∀d∈ds,ft d=aa true)(h2:∀(i:Nat) (d:D),ds[i]? =aa d->∃y,(fe d).bind asV=aa y/\out[i]? =aa y):zdc ft fe ds=aa out:=by
 induction ds generalizing out with
 |nil=>cases out with
  |nil=>rfl
  |cons _ _=>simp at hl
 |cons d ds ih=>
  cases out with
  |nil=>simp at hl
  |cons y out=>
   obtain⟨y',ex1,ex2⟩:=h2 0 d rfl;cases ex2;simp only[zdc];rw[h1 d ax,ex1,ih out (by simpa using hl) (λx hx=>h1 x (aq _ hx)) λi x hx=>by simpa using h2 (i+1) x (by simpa using hx)];rfl
def zfc{fr:List Nat}{fi:FI}{ft:FT}{fe:FE}{δ:En}{ds out:List D}(hi:fi δ=aa ds)(hc:zdc (λd=>ft (cEn fr δ d)) (λd=>fe (cEn fr δ d)) ds=aa out)(hl:out.length<=1000000):eLC fr fi ft fe δ=aa (.own out):=by
 unfold eLC;rw[hi];show(zdc _ _ ds).bind _=_;rw[hc];show(if out.length<=1000000 then aa (Ent.own out)else ab)=_;rw[if_pos hl]
def ixN_nat{n i:Nat}(h:i<n):ixN n (i:Int)=aa i:=by
 unfold ixN;rw[if_pos (by lia),if_pos (by lia)];simp
def zib{α:Type}{xs:List α}{i:Nat}{x:α}(h:xs[i]? =aa x):atI xs (i:Int)=aa x:=by
 unfold atI;rw[ixN_nat (a7.mp h).1];exact h
def zeH{α:Type}{xs:List α}{i:Int}{x:α}(h0:0<=i)(h:xs[i.toNat]? =aa x):atI xs i=aa x:=by
 obtain⟨n,rfl⟩:=iD h0;exact zib (by simpa using h)
def zft{α β:Type}(f:α->β)(d:α){xs:List α}{i:Int}(h0:0<=i)(h:i.toNat<xs.length):atI (xs.map f) i=aa (f (xs.getD i.toNat d)):=by
 refine zeH h0 ?_;rw[aB,aN h];simp[h]
def atI_m1{α:Type}{xs:List α}{x:α}(h:xs.getLast? =aa x):atI xs (-1)=aa x:=by
 have hne:xs≠[]:=by rintro rfl;simp at h
 have hl:0<xs.length:=List.length_pos_iff.mpr hne;unfold atI ixN;rw[if_neg (by lia),if_pos (by lia)];show xs[(-1+(xs.length:Int)).toNat]? =_;rw[show(-1+(xs.length:Int)).toNat=xs.length-1 by lia,<- ie];exact h
def cutG_to{α:Type}(xs:List α)(j:Nat):zfP xs ab (aa (j:Int))=xs.take j:=by
 unfold zfP;rw[HT.sIx_none,HT.sIx_nat,fD,du];by_cases h:j<=xs.length
 ·rw[dW h]
 ·rw[Nat.min_eq_right (by lia),iq,d5 (by lia)]
def zkf{α:Type}(xs:List α){j:Int}(h:0<=j):zfP xs ab (aa j)=xs.take j.toNat:=by
 obtain⟨n,rfl⟩:=iD h;rw[cutG_to];simp
def zeh(a b:List Nat):mkS a++mkS b=mkS (a++b):=by
 show(⟨a.toArray++b.toArray⟩:Str)=⟨(a++b).toArray⟩
 simp
def zfp{a b:List Nat}(h:mkS a=mkS b):a=b:=by
 have:=congrArg (λz:Str=>z.cps.toList) h;simpa [mkS] using this
def sgn_mkS(l:List Nat):sgn (mkS l)=l.map λc=>mkS [c]:=by simp[sgn,mkS]
def zeP(zs:List Str):zgi (zs.map .str)=aa zs:=by
 induction zs with
 |nil=>rfl
 |cons z zs ih=>simp[zgi,isS,ih]
def intsD_map(zs:List Int):zgE (zs.map .int)=aa zs:=by
 induction zs with
 |nil=>rfl
 |cons z zs ih=>simp[zgE,isI,ih]
def zjL(ls:List (List Nat)):ix (mkS []) (ls.map mkS)=mkS ls.flatten:=by
 have e:∀zs:List Str,ix (mkS []) zs=kY (mkS []) zs:=λzs=>StrLaws.glued_eq_join (mkS []) zs;rw[e]
 induction ls with
 |nil=>rfl
 |cons a r ih=>
  cases r with
  |nil=>simp[kY]
  |cons b r=>
   rw[aH]at ih ⊢;show mkS a++mkS []++kY (mkS []) (mkS b::r.map mkS)=_;rw[ih,zeh,zeh];simp
def zg1(w:List Nat):ix (mkS []) (w.map λc=>mkS [c])=mkS w:=by
 have:=zjL (w.map λc=>[c]);rw[bN]at this;rw[show(w.map λc=>mkS [c])=w.map (mkS ∘ λc=>[c])from rfl,this];congr 1;clear this
 induction w with
 |nil=>rfl
 |cons c w ih=>simp[ih]
end L3

namespace L3
open PySem PySem.Spec PyProof.Rows L2
def flD:D->Bool
 |.non=>true
 |.bl _=>true
 |.int _=>true
 |.str _=>true
 | _=>false
def eqF:D->D->Bool
 |.non,.non=>true
 |.bl a,.bl b=>a==b
 |.bl a,.int b=>(if a then 1 else 0)==b
 |.int a,.bl b=>a==(if b then 1 else 0)
 |.int a,.int b=>a==b
 |.str a,.str b=>a==b
 | _,_=>false
def zgA(f:D->D->Option Bool):List D->List D->Option Bool
 |[],[]=>aa true
 |d::ds,e::es=>(f d e).bind λb=>(zgA f ds es).map λc=>b&&c
 | _,_=>aa false
def eqD:Nat->D->D->Option Bool
 |n+1,.tup a,.tup b=>zgA (eqD n) a b
 |n+1,.lst a,.lst b=>zgA (eqD n) a b
 | _,d,d'=>if (flD d&&flD d')=true then aa (eqF d d')else ab
def ziT{F:Hp}{x y:V}{d d':D}(rx:Rep F x d)(ry:Rep F y d')(h:(flD d&&flD d')=true):zfm x=true/\zfm y=true/\eqV x y=eqF d d':=by
 rw[cc]at h;obtain⟨h1,h2⟩:=h;cases rx <;> first|(cases h1;done)|(cases ry <;> first|(cases h2;done)|exact⟨rfl,rfl,rfl⟩)
def zeQ{f:D->D->Option Bool}:∀{ds es:List D} {b:Bool},zgA f ds es=aa b->∀j (h1:j<ds.length) (h2:j<es.length),∃c,f ds[j] es[j]=aa c
 |[],_,_,_,j,h1,_=>by simp at h1
 | _::_,[],_,_,j,_,h2=>by simp at h2
 |d::ds,e::es,b,q,j,h1,h2=>by
  simp only[zgA]at q;obtain⟨c,q1,q⟩:=bind_some q;obtain⟨c',q2,q⟩:=map_some q;cases j with
  |zero=>exact⟨c,q1⟩
  |succ j=>
   simp only[aJ]at h1 h2;exact zeQ q2 j (by lia) (by lia)
def eAt(f:D->D->Option Bool)(ds es:List D)(j:Nat):Bool:=(f (ds.getD j .non) (es.getD j .non)).getD false
def ze1{f:D->D->Option Bool}:∀{ds es:List D} {b:Bool},zgA f ds es=aa b->b=((au (min ds.length es.length)).all (eAt f ds es)&&ds.length==es.length)
 |[],[],b,q=>by cases q;rfl
 |[],_::_,b,q=>by cases q;simp
 | _::_,[],b,q=>by cases q;simp
 |d::ds,e::es,b,q=>by
  simp only[zgA]at q;obtain⟨c,q1,q⟩:=bind_some q;obtain⟨c',q2,q⟩:=map_some q;subst q;have ih:=ze1 q2;have e1:min (d::ds).length (e::es).length=min ds.length es.length+1:=by simp only[aJ];lia
  have e2:((d::ds).length==(e::es).length)=(ds.length==es.length):=by simp
  have e3:eAt f (d::ds) (e::es) 0=c:=by unfold eAt;simp[q1]
  have e4:(eAt f (d::ds) (e::es)) ∘ Nat.succ=eAt f ds es:=by funext j;unfold eAt;simp
  rw[e1,e2,List.range_succ_eq_map,eJ,List.all_map,e3,e4,ih,Bool.and_assoc]
def Reps.getE{F:Hp}{vs:List V}{ds:List D}(h:Reps F vs ds)(j:Nat)(h1:j<vs.length)(h2:j<ds.length):Rep F vs[j] ds[j]:=by
 obtain⟨v,e,r⟩:=h.get (aN h2);rw[aN h1]at e;cases e;exact r
def Vals.getE{vs:List V}{us:List af}(h:Vals vs us):∀j (h1:j<vs.length) (h2:j<us.length),RelV vs[j] us[j]:=by
 induction h with
 |nil=>intro j h;cases h
 |cons r t ih=>
  intro j h1 h2;cases j with
  |zero=>exact r
  |succ j=>exact ih j (iV h1) (iV h2)
def Reps.nil_{F:Hp}{ds:List D}(h:Reps F [] ds):ds=[]:=by cases h;rfl
def Reps.cons_{F:Hp}{v:V}{vs:List V}{ds:List D}(h:Reps F (v::vs) ds):∃d ds',ds=d::ds'/\Rep F v d/\Reps F vs ds':=by cases h with|cons r t=>exact⟨_,_,rfl,r,t⟩
def zeT{F:Hp}{v:V}{d d':D}{b:Bool}(rx:Rep F v d)(ry:Rep F v d')(q:(if (flD d&&flD d')=true then aa (eqF d d')else ab)=aa b):b=true:=by
 obtain⟨h,q⟩:=zhh q;cases q;obtain⟨h1,_,h3⟩:=ziT rx ry h;rw[<- h3];cases v <;> first|(cases h1;done)|simp[eqV]
def zjz{f:D->D->Option Bool}{F:Hp}(ih:∀{v:V} {d d':D} {b:Bool},Rep F v d->Rep F v d'->f d d'=aa b->b=true){vs:List V}{ds es:List D}{b:Bool}(h:Reps F vs ds)(h':Reps F vs es)(q:zgA f ds es=aa b):b=true:=by
 refine h.ind (P:=λvs ds=>∀es b,Reps F vs es->zgA f ds es=aa b->b=true) (λes b h' q=>?_) (fun {v d vs ds} r _ t es b h' q=>?_) es b h' q
 ·cases h'.nil_;cases q;rfl
 ·obtain⟨d',es',rfl,r',t'⟩:=h'.cons_;simp only[zgA]at q;obtain⟨c,q1,q⟩:=bind_some q;obtain⟨c',q2,q⟩:=map_some q;subst q;rw[ih r r' q1,t es' c' t' q2];rfl
def eqD_rep{F:Hp}(n:Nat):∀{v:V} {d d':D} {b:Bool},Rep F v d->Rep F v d'->eqD n d d'=aa b->b=true:=by
 induction n with
 |zero=>intro v d d' b rx ry q;exact zeT rx ry q
 |succ n ih=>
  intro v d d' b rx ry q;cases d with
  |tup a=>
   cases d' with
   |tup a'=>
    cases rx with
    |tup e r=>
     cases ry with
     |tup e' r'=>
      cases HO.tup.inj (aR (e.symm.trans e'));exact zjz ih r r' q
   | _=>exact zeT rx ry q
  |lst a=>
   cases d' with
   |lst a'=>
    cases rx with
    |lst e r=>
     cases ry with
     |lst e' r'=>
      cases HO.lst.inj (aR (e.symm.trans e'));exact zjz ih r r' q
   | _=>exact zeT rx ry q
  | _=>exact zeT rx ry q
section
variable {X:Cx}{pins:List (ai×Obj)}{s:ah}{σ:L2.St}{H F:Hp}
def zjS(I:Inv X pins σ H s)(fh:Same F H):∀(n:Nat) (A:aQ),A.units+n<cLine->∀{x y:V} {u v:af} {d d':D} {b:Bool},Rep F x d->Rep F y d'->RelV x u->RelV y v->eqD n d d'=aa b->fC A s u v b
 |0,A,hu,x,y,u,v,d,d',b,rx,ry,ru,rv,q=>by
  have q':(if (flD d&&flD d')=true then aa (eqF d d')else ab)=aa b:=q;split at q'
  ·rename_i h;cases q';obtain⟨h1,h2,h3⟩:=ziT rx ry h;rw[<- h3];exact eqAt_V ru rv h1 h2
  ·cases q'
 |n+1,A,hu,x,y,u,v,d,d',b,rx,ry,ru,rv,q=>by
  have hin:A.in1.units+n<cLine:=by show A.units+1+n<cLine;lia
  have hA:A.units<cLine:=by lia
  have flat:(if (flD d&&flD d')=true then aa (eqF d d')else ab)=aa b->fC A s u v b:=λq'=>by
   split at q'
   ·rename_i h;cases q';obtain⟨h1,h2,h3⟩:=ziT rx ry h;rw[<- h3];exact eqAt_V ru rv h1 h2
   ·cases q'
  cases rx with
  |@tup a xs ds e r=>
   cases ry with
   |@tup a' ys es e' r'=>
    cases ru;cases rv;by_cases hne:a=a'
    ·subst hne;rw[eqD_rep (n+1) (.tup e r) (.tup e' r') q];exact iH _
    ·obtain⟨its,rr,ht,_⟩:=I.tuple (SqT.of (fh _ _ e));obtain⟨its',rr',ht',_⟩:=I.tuple (SqT.of (fh _ _ e'));have q':zgA (eqD n) ds es=aa b:=q;have l1:=r.length;have l2:=r'.length;have l3:=rr.length;have l4:=rr'.length;have:=lY (A:=A) (e:=eAt (eqD n) ds es) ht ht' hA λj h1 h2=>by
      have g1:j<its.length:=by simpa using h1
      have g2:j<its'.length:=by simpa using h2
      obtain⟨c,hc⟩:=zeQ q' j (by lia) (by lia);have:eAt (eqD n) ds es j=c:=by unfold eAt;simp[show j<ds.length by lia,show j<es.length by lia,hc]
      rw[this];exact zjS I fh n A.in1 hin (r.getE j (by lia) (by lia)) (r'.getE j (by lia) (by lia)) (Vals.getE rr j (by lia) g1) (Vals.getE rr' j (by lia) g2) hc
     rw[ze1 q'];have e1:its.toArray.size=ds.length:=by simp;lia
     have e2:its'.toArray.size=es.length:=by simp;lia
     rw[e1,e2]at this;exact gL hne this
   | _=>exact flat q
  |@lst a xs ds e r=>
   cases ry with
   |@lst a' ys es e' r'=>
    cases ru;cases rv;by_cases hne:a=a'
    ·subst hne;rw[eqD_rep (n+1) (.lst e r) (.lst e' r') q];exact iH _
    ·obtain⟨its,rr,ht,_⟩:=I.list (SqL.of (fh _ _ e));obtain⟨its',rr',ht',_⟩:=I.list (SqL.of (fh _ _ e'));have q':zgA (eqD n) ds es=aa b:=q;have l1:=r.length;have l2:=r'.length;have l3:=rr.length;have l4:=rr'.length;have e1:its.toArray.size=ds.length:=by simp;lia
     have e2:its'.toArray.size=es.length:=by simp;lia
     rw[ze1 q'];by_cases hs:ds.length=es.length
     ·have:=l8 (A:=A) (e:=eAt (eqD n) ds es) ht.isList ht'.isList (by rw[e1,e2,hs]) hA λj h1 h2=>by
       have g1:j<its.length:=by simpa using h1
       have g2:j<its'.length:=by simpa using h2
       obtain⟨c,hc⟩:=zeQ q' j (by lia) (by lia);have:eAt (eqD n) ds es j=c:=by unfold eAt;simp[show j<ds.length by lia,show j<es.length by lia,hc]
       rw[this];exact zjS I fh n A.in1 hin (r.getE j (by lia) (by lia)) (r'.getE j (by lia) (by lia)) (Vals.getE rr j (by lia) g1) (Vals.getE rr' j (by lia) g2) hc
      rw[e1]at this;rw[<- hs,jz,beq_self_eq_true,jk];exact gL hne this
     ·rw[beq_eq_false_iff_ne.mpr hs,d9];exact gL hne (kZ ht.isList ht'.isList (by rw[e1,e2];simpa using hs) hA)
   | _=>exact flat q
  | _=>cases ry <;> exact flat q
def rEqD(K:ag)(neg:Bool):R2:=λx y H Q=>∃(F:Hp) (a a':ai) (xs ys:List V) (ds es:List D) (b:Bool),Same F H/\x=.ref a/\y=.ref a'/\((SqL K H a xs/\SqL K H a' ys)\/(SqT K H a xs/\SqT K H a' ys)) /\
 Reps F xs ds/\Reps F ys es/\zgA (eqD 8) ds es=aa b/\Q (.bl (if neg=true then !b else b)) H
def op_eqD{k:Nat}(hr:Room k X.A):OpR X (bC .Eq) (rEqD X.K false):=by
 intro pins s σ H x y v u Q I rx ry h;obtain⟨F,a,a',xs,ys,ds,es,b,fh,rfl,rfl,hq,r,r',q,k⟩:=h;cases rx;cases ry;have hA:X.A.units+9<cLine:=by have:=hr.un;lia
 have hin:X.A.in1.units+8<cLine:=by show X.A.units+1+8<cLine;lia
 have l1:=r.length;have l2:=r'.length;have he:∀{its its':List af},Vals xs its->Vals ys its'->∀j (h1:j<its.toArray.size) (h2:j<its'.toArray.size),fC X.A.in1 s its.toArray[j] its'.toArray[j] (eAt (eqD 8) ds es j):=fun {its its'} rr rr' j h1 h2=>by
  have l3:=rr.length;have l4:=rr'.length;have g1:j<its.length:=by simpa using h1
  have g2:j<its'.length:=by simpa using h2
  obtain⟨c,hc⟩:=zeQ q j (by lia) (by lia);have:eAt (eqD 8) ds es j=c:=by unfold eAt;simp[show j<ds.length by lia,show j<es.length by lia,hc]
  rw[this];exact zjS I fh 8 X.A.in1 hin (r.getE j (by lia) (by lia)) (r'.getE j (by lia) (by lia)) (Vals.getE rr j (by lia) g1) (Vals.getE rr' j (by lia) g2) hc
 rw[ze1 q]at k;rcases hq with ⟨h1,h2⟩|⟨h1,h2⟩
 ·obtain⟨its,rr,ht,_⟩:=I.list h1;obtain⟨its',rr',ht',_⟩:=I.list h2;have l3:=rr.length;have l4:=rr'.length;have e1:its.toArray.size=ds.length:=by simp;lia
  have e2:its'.toArray.size=es.length:=by simp;lia
  by_cases hs:ds.length=es.length
  ·refine SeqAt.eq_listAt (e:=eAt (eqD 8) ds es) ht.isList ht'.isList (by rw[e1,e2,hs]) (by lia) (he rr rr') ⟨.bl _,H,I,rfl,?_⟩;rw[e1];rw[<- hs,jz,beq_self_eq_true,jk]at k;exact k
  ·refine SeqAt.eq_list_lengthsAt ht.isList ht'.isList (by rw[e1,e2];simpa using hs) (by lia) ⟨.bl _,H,I,rfl,?_⟩;rw[beq_eq_false_iff_ne.mpr hs,d9]at k;exact k
 ·obtain⟨its,rr,ht,_⟩:=I.tuple h1;obtain⟨its',rr',ht',_⟩:=I.tuple h2;have l3:=rr.length;have l4:=rr'.length;have e1:its.toArray.size=ds.length:=by simp;lia
  have e2:its'.toArray.size=es.length:=by simp;lia
  refine SeqAt.eq_tupleAt (e:=eAt (eqD 8) ds es) ht ht' (by lia) (he rr rr') ⟨.bl _,H,I,rfl,?_⟩;rw[e1,e2];exact k
def op_neD{k:Nat}(hr:Room k X.A):OpR X (bC .NotEq) (rEqD X.K true):=by
 intro pins s σ H x y v u Q I rx ry h;obtain⟨F,a,a',xs,ys,ds,es,b,fh,rfl,rfl,hq,r,r',q,k⟩:=h;cases rx;cases ry;have hA:X.A.units+9<cLine:=by have:=hr.un;lia
 have hin:X.A.in1.units+8<cLine:=by show X.A.units+1+8<cLine;lia
 have l1:=r.length;have l2:=r'.length;have he:∀{its its':List af},Vals xs its->Vals ys its'->∀j (h1:j<its.toArray.size) (h2:j<its'.toArray.size),fC X.A.in1 s its.toArray[j] its'.toArray[j] (eAt (eqD 8) ds es j):=fun {its its'} rr rr' j h1 h2=>by
  have l3:=rr.length;have l4:=rr'.length;have g1:j<its.length:=by simpa using h1
  have g2:j<its'.length:=by simpa using h2
  obtain⟨c,hc⟩:=zeQ q j (by lia) (by lia);have:eAt (eqD 8) ds es j=c:=by unfold eAt;simp[show j<ds.length by lia,show j<es.length by lia,hc]
  rw[this];exact zjS I fh 8 X.A.in1 hin (r.getE j (by lia) (by lia)) (r'.getE j (by lia) (by lia)) (Vals.getE rr j (by lia) g1) (Vals.getE rr' j (by lia) g2) hc
 rw[ze1 q]at k;rcases hq with ⟨h1,h2⟩|⟨h1,h2⟩
 ·obtain⟨its,rr,ht,_⟩:=I.list h1;obtain⟨its',rr',ht',_⟩:=I.list h2;have l3:=rr.length;have l4:=rr'.length;have e1:its.toArray.size=ds.length:=by simp;lia
  have e2:its'.toArray.size=es.length:=by simp;lia
  by_cases hs:ds.length=es.length
  ·refine lS (e:=eAt (eqD 8) ds es) ht.isList ht'.isList (by rw[e1,e2,hs]) (by lia) (he rr rr') _ _ _ _ ⟨.bl _,H,I,rfl,?_⟩;rw[e1];rw[<- hs,jz,beq_self_eq_true,jk]at k;exact k
  ·refine kl ht.isList ht'.isList (by rw[e1,e2];simpa using hs) (by lia) _ _ _ _ ⟨.bl _,H,I,rfl,?_⟩;rw[beq_eq_false_iff_ne.mpr hs,d9]at k;exact k
 ·obtain⟨its,rr,ht,_⟩:=I.tuple h1;obtain⟨its',rr',ht',_⟩:=I.tuple h2;have l3:=rr.length;have l4:=rr'.length;have e1:its.toArray.size=ds.length:=by simp;lia
  have e2:its'.toArray.size=es.length:=by simp;lia
  refine lN (e:=eAt (eqD 8) ds es) ht ht' (by lia) (he rr rr') _ _ _ _ ⟨.bl _,H,I,rfl,?_⟩;rw[e1,e2];exact k
def sqOf(x y:Ent):Option (List D×List D):=match asL x,asL y with
 |some ds,aa es=>aa (ds,es)
 | _,_=>match zcJ x,zcJ y with
  |some ds,aa es=>aa (ds,es)
  | _,_=>ab
def gEqD:Ent->Ent->Option Ent:=λx y=>(sqOf x y).bind λp=>(zgA (eqD 8) p.1 p.2).map λb=>.val (.bl b)
def gNeD:Ent->Ent->Option Ent:=λx y=>(sqOf x y).bind λp=>(zgA (eqD 8) p.1 p.2).map λb=>.val (.bl (!b))
def sqOf_ok{K:ag}{H0 F H:Hp}{x y:V}{e e':Ent}{p:List D×List D}(fh:Same F H)(rx:RepR K H0 F H x e)(ry:RepR K H0 F H y e')(q:sqOf e e'=aa p) :
  ∃(a a':ai) (xs ys:List V),x=.ref a/\y=.ref a'/\((SqL K H a xs/\SqL K H a' ys)\/(SqT K H a xs/\SqT K H a' ys))/\Reps F xs p.1/\Reps F ys p.2:=by
 unfold sqOf at q;split at q
 ·rename_i ds es h1 h2;cases q;obtain⟨l,vs,e1,s1,r1⟩:=rx.toL fh h1;obtain⟨l',vs',e2,s2,r2⟩:=ry.toL fh h2;exact⟨l,l',vs,vs',e1,e2,.inl ⟨s1,s2⟩,r1,r2⟩
 ·split at q
  ·rename_i ds es h1 h2;cases q;cases zbu h1;cases zbu h2;cases (show Rep F x (.tup _)from rx)with
   |tup e r=>
    cases (show Rep F y (.tup _)from ry)with
    |tup e' r'=>exact⟨_,_,_,_,rfl,rfl,.inr ⟨SqT.of (fh _ _ e),SqT.of (fh _ _ e')⟩,r,r'⟩
  ·cases q
def o_eqD{k:Nat}(hr:Room k X.A):OpD X (bC .Eq) gEqD:=⟨_,op_eqD hr,λH0 F H x y e e' res Q fh hh rx ry q k=>by
 obtain⟨p,q1,q⟩:=bind_some q;obtain⟨b,q2,q⟩:=map_some q;cases q;obtain⟨a,a',xs,ys,e1,e2,h,r,r'⟩:=sqOf_ok fh rx ry q1;exact⟨F,a,a',xs,ys,_,_,b,fh,e1,e2,h,r,r',q2,k _ F H (Ex.refl fh) (.bl _)⟩⟩
def o_neD{k:Nat}(hr:Room k X.A):OpD X (bC .NotEq) gNeD:=⟨_,op_neD hr,λH0 F H x y e e' res Q fh hh rx ry q k=>by
 obtain⟨p,q1,q⟩:=bind_some q;obtain⟨b,q2,q⟩:=map_some q;cases q;obtain⟨a,a',xs,ys,e1,e2,h,r,r'⟩:=sqOf_ok fh rx ry q1;exact⟨F,a,a',xs,ys,_,_,b,fh,e1,e2,h,r,r',q2,k _ F H (Ex.refl fh) (.bl _)⟩⟩
end
end L3

namespace L2
open PySem PySem.Spec PyProof.Rows
def ItS(x:Str):It:=⟨λi _=>i<x.cps.size,λi H v H'=>H'=H/\∃c,x.cps[i]? =aa c/\v=.str ⟨#[c]⟩,λi _=>i=x.cps.size⟩
def zjK{P:aK}{w:aO}{K:ag}{tg:Expr}(it:ai)(x:Str)(t:Tok)(k:String)(hk:["enumerate","zip","dict_itemiterator","dict_reverseitemiterator","odict_iterator","itertools.zip_longest","itertools.pairwise"].contains k=false)
  (W:∀A:aQ,A.handled=ab->Walks P w A it [it] [it] x.cps.size (SignAt x) (λi h=>h.IsStrIter it k x t i))
  (S:∀(A:aQ) (i:Nat) (s:ah) (Q:af->ah->Prop) (E:af->ah->Prop),s.heap.IsStrIter it k x t i->Q (.ref it) s->av (model P w) A (pyIter (.ref it)) Q E s) :
  Turn P w K tg (ItS x) [it] it (λi h=>h.IsStrIter it k x t i) where
 mem:=by simp
 obj:=λi h st b hb=>by
  have e:b=it:=by simpa using hb
  subst e;obtain⟨o,e,c,d⟩:=st;exact⟨o,e,λv z=>by rw[d]at z;cases z⟩
 keep:=λi h h' st k=>let⟨o,ho,r⟩:=st;⟨o,k it (by simp) o ho,r⟩
 item:=by
  intro X hP hw hK hc i pins s σ H E I hf st hg;subst hP hw hK;obtain⟨f0,f1,f2,f3,f4,f5⟩:=hf it (by simp);refine(W X.A (I.ok.hd hc)).item i s _ _ hg st λv h' tk hv st' kk=>?_;obtain⟨c,u,hc,rfl⟩:=hv;have I1:Inv X pins σ H { s with heap:=h',toks:=tk}:=I.turned (λb o hb e=>kk b o (by simpa using hb) e) f0 f1 f3 f4 f5;obtain⟨o,e,c',d⟩:=id st';exact⟨_,rfl,go_of (s:={ s with heap:=h',toks:=tk}) e c' d hk ⟨.str ⟨#[c]⟩,H,I1,⟨u,rfl⟩,⟨rfl,c,hc,rfl⟩,st',λb hb=>(hf b hb).1⟩⟩
 done:=by
  intro X hP hw hK hc i pins s σ H E I hf st hg;subst hP hw hK;obtain⟨f0,f1,f2,f3,f4,f5⟩:=hf it (by simp);have hg':i=x.cps.size:=hg;subst hg';exact(W X.A (I.ok.hd hc)).done s _ _ st λh' tk eb=>⟨rfl,I.turned (λb o hb e=>eb b o (by simpa using hb) e) f0 f1 f3 f4 f5⟩
 self:=S
def iStr(tl:TE):TI:=λσ H R=>tl σ H λx H1=>∃z,x=.str z/\R (ItS z) H1
def pi_str{X:Cx}{tg l:Expr}{tl:TE}(hl:PE X l tl):PI X tg l (iStr tl):=by
 intro pins s σ H R I h;refine thn (hl pins s σ H _ I h) ?_;rintro v s1 ⟨x,H1,I1,r1,q1⟩;obtain⟨z,e,q⟩:=q1;subst e;obtain⟨t,rfl⟩:=r1;cases ha:z.cps.all (·<128)
 ·refine wpAny_pyIter_wide ha ?_;refine⟨s1.heap.objs.size,[s1.heap.objs.size],_,_,H1,rfl,I1.kept (t':=s1.toks) λb o e=>aj _ e,zjK _ z t "str_iterator" (by decide) (λA hA=>Walks.strWide hA _ z t) (λA i s Q E st h=>wpAny_pyIter_striter_wide st h),⟨_,ay _ rfl,rfl,rfl⟩,λb hb=>?_,q⟩;have e:b=s1.heap.objs.size:=by simpa using hb
  subst e;exact I1.fpOk (am _) (I1.hok.fresh (am _))
 ·refine wpAny_pyIter_ascii ha ?_;refine⟨s1.heap.objs.size,[s1.heap.objs.size],_,_,H1,rfl,I1.kept (t':=s1.toks) λb o e=>aj _ e,zjK _ z t "str_ascii_iterator" (by decide) (λA hA=>Walks.strAscii hA _ z t) (λA i s Q E st h=>wpAny_pyIter_striter_ascii st h),⟨_,ay _ rfl,rfl,rfl⟩,λb hb=>?_,q⟩;have e:b=s1.heap.objs.size:=by simpa using hb
  subst e;exact I1.fpOk (am _) (I1.hok.fresh (am _))
end L2
namespace L3
open PySem PySem.Spec PyProof.Rows L2
def iS(fe:FE):FI:=λδ=>(fe δ).bind λx=>(sOf x).map λz=>z.cps.toList.map λc=>D.str (mkS [c])
def itOk_str{B F0:Hp}{z:Str}:ItOk B F0 (ItS z) (z.cps.toList.map λc=>D.str (mkS [c])):=λF H s1 s2 s3=>by
 refine⟨by simp[ItS],λi d e=>?_⟩;rw[aB]at e;obtain⟨c,e1,e2⟩:=cZ.mp e;have e1':z.cps[i]? =aa c:=by rw[cO]at e1;exact e1
 refine⟨?_,λx H' y=>?_⟩
 ·show i<z.cps.size;obtain⟨h,_⟩:=eK.mp e1';exact h
 ·obtain⟨e',c',h1,h2⟩:=y;subst e' h2;rw[e1']at h1;cases h1;subst e2;exact⟨F,Ex.refl s2,.str _⟩
def iis{X:Cx}{tg e:Expr}{fe:FE}(h:VE X e fe):VI X tg e (iS fe):=by
 obtain⟨t,w,m⟩:=h.h;refine⟨_,⟨pi_str w.h⟩,λB F H σ δ ds R s q k=>?_⟩;obtain⟨r,q1,q⟩:=bind_some q;obtain⟨z,q2,q⟩:=map_some q;subst q;refine m B F H σ δ r _ s q1 λv F1 H1 x1 r1=>?_;cases zaB q2;cases (show Rep F1 v (.str z)from r1);exact⟨z,rfl,k _ F1 H1 x1 itOk_str⟩
end L3
namespace L2
open PySem PySem.Spec PyProof.Rows
section
variable {prog:aK}{w:aO}{A:aQ}{E:af->ah->Prop}
end
end L2
namespace L3
open PySem PySem.Spec PyProof.Rows L2
def gl0:∀(ds:List D) (δ δ':En),zfH ds δ=aa δ'->ds.length=0:=λds δ δ' h=>by
 match ds,h with
 |[],_=>rfl
def gl1{g:FG}{gs:FGs}{n:Nat}(hn:∀(ds:List D) (δ δ':En),gs ds δ=aa δ'->ds.length=n):∀(ds:List D) (δ δ':En),zbM g gs ds δ=aa δ'->ds.length=n+1:=λds δ δ' h=>by
 match ds,h with
 |d::ds,h=>
  obtain⟨δ1,_,q⟩:=bind_some (show(g d δ).bind (gs ds)=aa δ' from h);rw[aJ,hn ds δ1 δ' q]
end L3

namespace TS
open PySem
def lay_led(t:SetTable)(es:Array (Int×af))(h:Int)(x:af):(layNew t es h x).2.1.led=t.led/\((layNew t es h x).2.1.plain=true->t.plain=true):=by
 unfold layNew;split
 ·rename_i q;dsimp only;unfold SetTable.orStandIn;split
  ·exact⟨rfl,id⟩
  ·exact⟨rfl,λz=>by cases z⟩
 ·exact⟨rfl,λz=>by cases z⟩
def relay_led(t:SetTable)(es:Array (Int×af))(n:Nat):(relayAll t es n).2.1.led=t.led/\((relayAll t es n).2.1.plain=true->t.plain=true):=by
 unfold relayAll;split
 ·rename_i t' order q;have:t'.led=t.led/\t'.plain=t.plain:=by
   unfold SetTable.relaid SetTable.laid at q;simp only[Option.bind_eq_bind,Option.bind_eq_some_iff]at q;obtain⟨o,_,q⟩:=q;cases q;exact⟨rfl,rfl⟩
  dsimp only;split
  ·exact⟨this.1,λz=>by rw[<- this.2];exact z⟩
  ·exact⟨rfl,λz=>by cases z⟩
 ·exact⟨rfl,λz=>by cases z⟩
end TS
namespace TS
open PySem
def bt(w:aO):Bool:=w.params.followText "set-order"
def txt:af->Str
 |.str z _=>z
 | _=> ""
structure IsS(w:aO)(h:aT)(a:ai)(zs:List Str):Prop where
 ex:∃(o:Obj) (es:Array (Int×af)) (ep:Nat) (t:SetTable),h.get? a=aa o/\o.ExactSet/\o.data=.set es ep t/\(∀e∈es.toList,∃z u,e=(hashStr w z,cE z u))/\t.fits es.size=true/\t.led=!bt w/\(es.size≠0->t.plain=false)/\(es.toList.map λe=>txt e.2).Perm zs
 nd:zs.Nodup
variable {prog:aK}{w:aO}{A:aQ}{E:af->ah->Prop}{s:ah}{a:ai}{zs:List Str}
def elemsS{es:List (Int×af)}(h:∀e∈es,∃z u,e=(hashStr w z,cE z u)):ElemsOf (strKind prog w) es:=λe he=>by
 obtain⟨z,u,rfl⟩:=h e he;exact⟨⟨z,by simp[strKind,gR],rfl⟩,rfl⟩
def freshS:IsS w (s.heap.push { cls:=.type "set",dict:=ab,data:=.set #[] 0 (.fresh 0 0 (!bt w))}) s.heap.objs.size []:=
 ⟨⟨_,#[],0,_,ay _ rfl,⟨rfl,rfl,rfl⟩,rfl,(λe he=>by simp at he),rfl,rfl,(λz=>absurd rfl z),.nil⟩,.nil⟩
def IsS.mono{h h':aT}(i:IsS w h a zs)(k:∀o,h.get? a=aa o->h'.get? a=aa o):IsS w h' a zs:=
 let⟨o,es,ep,t,go,r⟩:=i.ex;⟨⟨o,es,ep,t,k o go,r⟩,i.nd⟩
def put(zs:List Str)(z:Str):List Str:=if z∈zs then zs else zs++[z]
def put_lenS(zs:List Str)(z:Str):(put zs z).length<=zs.length+1:=by unfold put;split <;> simp
def relaidS{o:Obj}{es:Array (Int×af)}{ep:Nat}{t:SetTable}{h:aT}(go:h.get? a=aa o)(gx:o.ExactSet)(gd:o.data=.set es ep t){es':Array (Int×af)}{t':SetTable}
  (ge:∀e∈es'.toList,∃z u,e=(hashStr w z,cE z u)) (gf:t'.fits es'.size=true) (gl:t'.led=!bt w) (gp:t'.plain=false) (gm:(es'.toList.map λe=>txt e.2).Perm zs) (nd:zs.Nodup) :
  (h.update a (jd es' t')).get? a=aa { o with data:=.set es' (ep+1) t'}/\IsS w (h.update a (jd es' t')) a zs:=by
 have g:=da (jd es' t') go (by rw[putSet_of es' t' gd];rfl);rw[putSet_of es' t' gd]at g;exact⟨g,⟨_,es',ep+1,t',g,gx,rfl,ge,gf,gl,λ_=>gp,gm⟩,nd⟩
def tailS{g:Bool->Sem Unit}(hg:∀(b:Bool) (s₁:ah) (R:Unit->ah->Prop),R () s₁->av (model prog w) A (g b) R E s₁){o:Obj}{es es1:Array (Int×af)}{ep n:Nat}{t t2:SetTable}{c x:Bool}{R:Option Bool->ah->Prop}
  (go:s.heap.get? a=aa o) (gx:o.ExactSet) (gd:o.data=.set es ep t) (ge:∀e∈es1.toList,∃z u,e=(hashStr w z,cE z u)) (gf:t2.fits es1.size=true) (gl:t2.led=!bt w) (gp:t2.plain=false)
  (gm:(es1.toList.map λe=>txt e.2).Perm zs) (nd:zs.Nodup) (hz:es1.size<scanBound) (k:∀h',dJ a s.heap h'->IsS w h' a zs->R (aa true) { s with heap:=h'}) :
  av (model prog w) A (do
   storeSet a es1 t2
   if c=true then do
    g x
    storeSet a (relayAll t2 es1 n).1 (relayAll t2 es1 n).2.1
    pure (aa true)
   else pure (aa true)) R E s:=by
 have up:=eM s.heap a (jd es1 t2);refine ae (wpAny_storeSet_of go gd ?_ (fits_of_scanBound hz));obtain⟨g1,i1⟩:=relaidS (w:=w) go gx gd ge gf gl gp gm nd;split
 ·refine ae (hg _ _ _ ?_);have r1:=relayAll_perm t2 es1 n;have r2:=relayAll_fits t2 es1 n;have r3:=relay_led t2 es1 n;generalize relayAll t2 es1 n=L at r1 r2 r3 ⊢;obtain⟨es2,t3,gv⟩:=L;dsimp only at r1 r2 r3 ⊢;have rs:es2.size=es1.size:=by have:=r1.length_eq;simpa using this
  refine ae (wpAny_storeSet_of g1 rfl ?_ (fits_of_scanBound (by lia)));obtain⟨_,i2⟩:=relaidS (w:=w) (zs:=zs) g1 gx rfl (es':=es2) (t':=t3) (λe he=>ge e (r1.mem_iff.mp he)) r2 (r3.1.trans gl) (by
   cases hp:t3.plain with
   |false=>rfl
   |true=>rw[r3.2 hp]at gp;cases gp) ((r1.map _).trans gm) nd
  exact ak (k _ (up.trans (eM ..)) i2)
 ·exact ak (k _ up i1)
def addSS{z:Str}{u:Tok}{Q:Bool->ah->Prop}(i:IsS w s.heap a zs)(hz:zs.length+1<scanBound)
  (k:∀b h',dJ a s.heap h'->IsS w h' a (put zs z)->Q b { s with heap:=h'}):av (model prog w) A (setAddHashed a (.str z u) (hashStr w z)) Q E s:=by
 obtain⟨o,es,ep,t,go,gx,gd,ge,gf,gl,gp,gm⟩:=i.ex;have gE:=elemsS (prog:=prog) ge;have hk:(strKind prog w).is z (.str z u)=true:=by simp[strKind,gR]
 have sc:(cE z u).scannable=true:=rfl;have gn:es.size=zs.length:=by rw[<- gm.length_eq,aw,aE]
 unfold setAddHashed setAddHashedIn;refine cA (ae (wpAny_setState_of go gd gf ?_));dsimp only;rw[byScan_of (knd:=strKind prog w) sc (by lia) gE];simp only[↓reduceIte];unfold setAddByScan;refine ae (ae (wpAny_rule (ae ?_)));refine wpAny_setScan_of (knd:=strKind prog w) hk go gd gf gE ?_;cases hr:List.findIdx? (λe=>(strKind prog w).is z e.2) es.toList with
 |some j=>
  dsimp only;obtain⟨hj,hp,_⟩:=c6.mp hr;have hin:z∈zs:=by
   refine gm.mem_iff.mp (bY.mpr ⟨es.toList[j],eD hj,?_⟩);obtain⟨v,e'⟩:=gy hp;rw[e'];rfl
  refine ak (ak ?_);have:=k false s.heap (.refl ..) (by unfold put;rw[if_pos hin];exact i);exact this
 |none=>
  dsimp only;have hnot:z∉zs:=λhin=>by
   obtain⟨e,he,hq⟩:=bY.mp (gm.mem_iff.mpr hin);obtain⟨y,v,rfl⟩:=ge e he;have q:=ig.mp hr _ he;have:y=z:=hq;subst this;simp[strKind,gR]at q
  have hput:put zs z=zs++[z]:=if_neg hnot;rw[hput]at k;have nd:(zs++[z]).Nodup:=bP.mpr ⟨i.nd,by simp,λx hx y hy=>by simp at hy;subst hy;exact λe=>hnot (e ▸ hx)⟩;have way:∀(b:Bool) {s₁:ah} {R:Unit->ah->Prop},R () s₁->av (model prog w) A (match b with|true=>rule "set.scan.the-table-gave-way"|false=>pure ()) R E s₁:=λb _ _ q=>by cases b <;> first|exact ak q|exact wpAny_rule q
  have l1:=layNew_perm t es (hashStr w z) (.str z u);have l2:=layNew_fits t es (hashStr w z) (.str z u);have l3:=lay_led t es (hashStr w z) (.str z u);show av _ _ (match layNew t es (hashStr w z) (.str z u)with|(es,t,wasDummy,gave)=>_) _ _ _;generalize layNew t es (hashStr w z) (.str z u)=L at l1 l2 l3;obtain⟨es1,t1,wd,gv⟩:=L;dsimp only at l1 l2 l3 ⊢;have m1:∀e∈es1.toList,∃z u,e=(hashStr w z,cE z u):=λe he=>by
   rcases br.mp ((dE ▸ l1).mem_iff.mp he)with q|q
   ·exact ge e q
   ·rw[bn.mp q];exact⟨z,u,rfl⟩
  have m2:(es1.toList.map λe=>txt e.2).Perm (zs++[z]):=by
   refine(l1.map _).trans ?_;rw[dE,cC];exact gm.append_right _
  have m3:es1.size<scanBound:=by
   have:=l1.length_eq;simp only[aE,Array.size_push]at this;lia
  refine ae ?_;refine way _ ?_;split
  ·refine ae ?_;rw[hashByValue_scannable 8 sc];refine ak ?_;refine tailS (λb s₁ R q=>by cases b <;> first|exact ak q|exact wpAny_rule q) go gx gd m1 (SetTable.fits_plain_off l2) (l3.1.trans gl) rfl m2 nd m3 λh' sb i'=>?_;exact ak (k true h' sb i')
  ·rename_i hpl;refine ae (ak ?_);simp only[↓reduceIte];refine tailS (λb s₁ R q=>by cases b <;> first|exact ak q|exact wpAny_rule q) go gx gd m1 l2 (l3.1.trans gl) (by simpa using hpl) m2 nd m3 λh' sb i'=>?_;exact ak (k true h' sb i')
end TS
namespace TS
open PySem PyProof.Rows
section
variable {prog:aK}{w:aO}{A:aQ}{R:Result->ah->Prop}{I:ai}{fp wr:List ai}{G:Array GenState->Array GenState->Prop}{n:Nat}{P:Nat->af->Prop}{St:Nat->ah->Prop}
def updS(W:WalksS prog w A.in1 I fp wr G n P St)(S:ai)(hS:S∉fp)(val:Nat->Str)(hv:∀i v,P i v->∃t,v=.str (val i) t)(k:Nat) :
  ∀(i:Nat) (s:ah) (zs:List Str),i+k=n->St i s->IsS w s.heap S zs->zs.length+k+1<scanBound ->
   (∀s',Moved (S::wr) G s s'->IsS w s'.heap S (((cJ i k).map val).foldl put zs)->R (.ok (.ret .none)) s')->codeAny (model prog w) A (.builtin "set.update.loop" ⟨[.ref S,.ref I],[]⟩) R s:=by
 have nw:S∉wr:=λh=>hS (W.sub _ h);have sb:∀b∈wr,b∈S::wr:=λb hb=>.tail _ hb
 induction k with
 |zero=>
  intro i s zs hi st is hz kk;have e:i=n:=by lia
  subst e;refine codeAny_builtin F.entry_set_update_loop ?_;rw[bS F.plain_set_update_loop _];refine ae (m:=pyNext (.ref I)) (W.done s _ _ st λs' mv=>?_);exact ak (kk s' (mv.mono sb) (is.mono λo e=>mv.heap S o nw e))
 |succ k ih=>
  intro i s zs hi st is hz kk;refine codeAny_builtin F.entry_set_update_loop ?_;rw[bS F.plain_set_update_loop _];refine ae (m:=pyNext (.ref I)) (W.item i s _ _ (by lia) st λv s' hp st' mv=>?_);obtain⟨t,rfl⟩:=hv i v hp;refine ae (m:=holding [cE (val i) t] (setAdd S (.str (val i) t))) (cA ?_);unfold setAdd;refine cA (ae (wpAny_pyHash_str ?_));refine addSS (s:={ s' with toks:=s'.toks+1}) (zs:=zs) (is.mono λo e=>mv.heap S o nw e) (by lia) λb h' same is'=>?_;have old:∀b o,b≠S->s'.heap.get? b=aa o->h'.get? b=aa o:=λb o hb e=>(same.2 b hb).trans e;refine ak ⟨plainId_quiet F.plain_set_update_loop _,ih (i+1) _ (put zs (val i)) (by lia) ?_ is' (by have:=put_lenS zs (val i);lia) λs2 mv2 is2=>?_⟩
  ·exact W.frame _ s' h' _ st' (cY _) λb hb o e=>old b o (λq=>hS (q ▸ hb)) e
  ·refine kk s2 (Moved.trans W.gtrans ((mv.mono sb).then_heap (cY _) λb o hb e=>old b o (λq=>hb (q ▸ .head _)) e) mv2) ?_;rw[fU,aH,dU];exact is2
end
end TS
namespace TS
open PySem PyProof.Rows
section
variable {prog:aK}{w:aO}{A:aQ}{E:af->ah->Prop}{s:ah}
def new(w:aO):Obj:={ cls:=.type "set",dict:=ab,data:=.set #[] 0 (.fresh 0 0 (!bt w))}
def code_new(v:af){R:af->ah->Prop}(k:R (.ref s.heap.objs.size) { s with heap:=s.heap.push (new w)}):codeAny (model prog w) A (.call (.builtin "set.__new__") ⟨[.type "set",v],[]⟩) (wants R E) s:=by
 refine codeAny_of_tree ?_;show av _ A.in1 (checkBuiltinCall "set.__new__" ⟨[.type "set",v],[]⟩ >>= λ_=>again (.builtin "set.__new__" ⟨[.type "set",v],[]⟩)) _ _ s;refine ae (wpAny_of_eq (F.newCall_set_1 v) (ak ⟨plainId_quiet F.plain_set_new _,?_⟩));refine codeAny_builtin F.entry_set_new ?_;rw[bS F.plain_set_new _];unfold Builtin.«set.__new__» km;have sub:=sub_set_self;obtain⟨hp,g,d,tk,os⟩:=s;dsimp only
 wp_walk
 refine wpAny_askSetting (ak ?_);dsimp only;simp only[newObj];refine ae (wpAny_alloc (ak ?_));exact ak k
set_option maxRecDepth 100000 in
def zjO{v:af}{Q:af->ah->Prop}{P:ah->Prop}(hh:A.handled=ab)
  (ini:∀(B:aQ),B.handled=ab->av (model prog w) B (Builtin.«set.__init__» ⟨[.ref s.heap.objs.size,v],[]⟩) (λf s2=>f=.done (.ret .none)/\P s2) E { s with heap:=s.heap.push (new w)})
  (k:∀s2,P s2->Q (.ref s.heap.objs.size) s2):av (model prog w) A (call (.type "set") [v]) Q E s:=by
 obtain⟨c,tl,mro⟩:=F.called_set.mro;have made:=F.called_set.made;have sub:=F.called_set.sub;refine wpAny_call (codeAny_of_tree ?_);show av _ _ (callAny (.type "set") _) _ _ _;refine ak ⟨Code.quiet_builtin _ (by decide +kernel),?_⟩;refine codeAny_builtin F.entry_type_call ?_;rw[Around.under_plain (weight_type_call_type "set" [v] []) rfl];have n1:=F.called_set.notType;have n2:=F.called_set.canCreate;have n3:=F.typeCall_set_1 v
 repeat any_goals first|assumption|wp_step
 refine codeAny_mono (code_new v (E:=E) (R:=λx s1=>x=.ref s.heap.objs.size/\s1={ s with heap:=s.heap.push (new w)}) ⟨rfl,rfl⟩) λr s1 hr=>?_
 match r,hr with
 |.error e,hr=>exact hr
 |.ok (.ret x),hr=>
  obtain⟨rfl,rfl⟩:=hr;have g0:(s.heap.push (new w)).get? s.heap.objs.size=aa (new w):=ay _ rfl;have ty:gW { s with heap:=s.heap.push (new w)} (.ref s.heap.objs.size) "set" :=⟨_,g0,rfl⟩
  have li:=F.called_set.init.lookup;have bi:=F.called_set.init.bind (.ref s.heap.objs.size)
  repeat any_goals first|assumption|wp_step
  refine codeAny_mono (codeAny_call_builtin (R:=wants (λr s2=>r=.none/\P s2) E) F.called_set.init.plain F.entry_set_init (check_set_init_1 ty ?_)) λr2 s2 hr2=>?_
  ·exact cf (ini A.in1.in1 hh) (λf s2 q=>by obtain⟨rfl,p⟩:=q;exact⟨rfl,p⟩) λ_ _ q=>q
  ·match r2,hr2 with
   |.error e,hr2=>exact hr2
   |.ok (.ret x),hr2=>
    obtain⟨rfl,hq⟩:=hr2
    repeat any_goals first|assumption|wp_step
    exact k _ hq
end
end TS
namespace TS
open PySem PyProof.Rows
namespace Fx
def str_set:isSubtype (.type "str") (.type "set")=pure false:=by rw[isSubtype_type];kernel_rfl
def str_fro:isSubtype (.type "str") (.type "frozenset")=pure false:=by rw[isSubtype_type];kernel_rfl
end Fx
section
variable {prog:aK}{w:aO}{A:aQ}{E:af->ah->Prop}{s:ah}
structure LeftS(w:aO)(s:ah)(zs:List Str)(s2:ah):Prop where
 is:IsS w s2.heap s.heap.objs.size zs
 old:∀b o,b<s.heap.objs.size->s.heap.get? b=aa o->s2.heap.get? b=aa o
 sh:∃h' tk,s2={ s with heap:=h',toks:=tk}
def zju{fp:List ai}{it:Obj}{s':ah}{zs:List Str}(hf:∀b∈fp,b=(s.heap.push (new w)).objs.size)(mv:Moved (s.heap.objs.size::fp) (λa b=>b=a) { s with heap:=(s.heap.push (new w)).push it} s')(is:IsS w s'.heap s.heap.objs.size zs):LeftS w s zs s':=by
 refine⟨is,λb o hb e=>mv.heap b o (λq=>?_) (aj _ (aj _ e)),?_⟩
 ·rcases aF.mp q with q|q
  ·exact absurd hb (q ▸ bK _)
  ·have:=hf b q;rw[bD]at this;exact absurd hb (ic.mpr (this ▸ cY _))
 ·obtain⟨h',g',d',tk',os'⟩:=s';have eg:g'=s.gens:=mv.gens;have ed:d'=s.drawn:=mv.drawn;have eo:os'=s.os:=mv.os;subst eg ed eo;exact⟨h',tk',rfl⟩
set_option maxRecDepth 100000 in
def zkH{l:ai}{items:Array af}{zs:List Str}(hh:A.handled=ab)(hl:s.heap.IsList l items)(hi:∀(i:Nat) (v:af),items[i]? =aa v->∃t,v=cE (zs.getD i "") t)(hz:items.size+1<scanBound) :
  av (model prog w) A (Builtin.«set.__init__» ⟨[.ref s.heap.objs.size,.ref l],[]⟩) (λf s2=>f=.done (.ret .none)/\LeftS w s (((cJ 0 items.size).map λi=>zs.getD i "").foldl put []) s2) E { s with heap:=s.heap.push (new w)}:=by
 obtain⟨o,go,oc,m,od⟩:=id hl;obtain⟨ocls,odict,odata,oslots⟩:=o;simp only at oc od;subst oc od;have g1:(s.heap.push (new w)).get? s.heap.objs.size=aa (new w):=ay _ rfl;have g2:(s.heap.push (new w)).get? l=aa { cls:=.type "list",dict:=odict,data:=.seq items m,slots:=oslots}:=aj _ go;have b1:=F.sub_list_set;have b2:=F.sub_list_frozenset;have b3:(cR "list" == cR "dict")=false:=by decide
 have hl1:(s.heap.push (new w)).IsList l items:=⟨_,g2,rfl,m,rfl⟩
 unfold new at g1 g2 ⊢;unfold Builtin.«set.__init__» noKeywords gG;generalize hPI:pyIter=PI
 wp_walk
 subst hPI;refine wpAny_pyIter_list hl1 (ae (wpAny_runValue ?_));have ll:l<s.heap.objs.size:=aC go;have ne:l≠(s.heap.push (new w)).objs.size:=by rw[bD];exact aL (cW ll)
 refine updS ((jY (by simp[hh]) _ l ne items).toS) s.heap.objs.size ?_ (λi=>zs.getD i "") hi items.size 0 _ [] (by lia) ⟨⟨_,ay _ rfl,rfl,rfl⟩,hl1.push _⟩ ?_ (by simpa using hz) λs' mv is=>?_
 ·rw[bD];simp only[aF,bI,or_false,not_or];exact⟨aL (cP _),eV ll⟩
 ·exact(freshS (w:=w) (s:=s)).mono λo e=>aj _ e
 ·refine ak ?_;exact ak ⟨rfl,zju (fp:=[(s.heap.push (new w)).objs.size]) (λb hb=>bn.mp hb) mv is⟩
set_option maxRecDepth 100000 in
def init_strS{x:Str}{t:Tok}(hh:A.handled=ab)(hz:x.cps.size+1<scanBound) :
  av (model prog w) A (Builtin.«set.__init__» ⟨[.ref s.heap.objs.size,.str x t],[]⟩) (λf s2=>f=.done (.ret .none)/\LeftS w s (((cJ 0 x.cps.size).map λi=>(⟨#[x.cps.getD i 0]⟩:Str)).foldl put []) s2) E { s with heap:=s.heap.push (new w)}:=by
 have g1:(s.heap.push (new w)).get? s.heap.objs.size=aa (new w):=ay _ rfl;have b1:=Fx.str_set;have b2:=Fx.str_fro;have b3:(cR "str" == cR "dict")=false:=by decide
 unfold new at g1 ⊢;unfold Builtin.«set.__init__» noKeywords gG;generalize hPI:pyIter=PI
 wp_walk
 subst hPI;refine wpAny_pyIter_str λo St W st=>ae (wpAny_runValue ?_);refine updS ((W _ (by simp[hh])).toS) s.heap.objs.size ?_ (λi=>(⟨#[x.cps.getD i 0]⟩:Str)) ?_ x.cps.size 0 _ [] (by lia) st ?_ (by simpa using hz) λs' mv is=>?_
 ·exact λq=>absurd (bn.mp q) (by show s.heap.objs.size≠(s.heap.push (new w)).objs.size;rw[bD];exact aL (cP _))
 ·intro i v hv;obtain⟨c,u,hc,rfl⟩:=hv;exact⟨u,by simp[hc]⟩
 ·exact(freshS (w:=w) (s:=s)).mono λo e=>aj _ e
 ·refine ak ?_;exact ak ⟨rfl,zju (fp:=[(s.heap.push (new w)).objs.size]) (λb hb=>bn.mp hb) mv is⟩
end
end TS
namespace TS
open PySem PyProof.Rows
def zjG{α:Type}{l:List α}{i:Nat}(h:i<l.length):(l[i]::l.eraseIdx i).Perm l:=by
 rw[List.eraseIdx_eq_take_drop_succ];refine List.perm_middle.symm.trans ?_;rw[<- bq h,ef]
section
variable {prog:aK}{w:aO}{A:aQ}{E:af->ah->Prop}
def ch{src:Source}{n:Nat}{s:ah}{Q:Nat->ah->Prop}(hn:n≠0)(k:∀i d,i<n->Q i { s with drawn:=d}):av (model prog w) A (choose src n) Q E s:=λΓ p _=>by
 unfold choose;rw[Sem.wp_choose];exact⟨hn,by rw[Sem.wp_pure];exact k _ _ (lD _ (Nat.pos_of_ne_zero hn))⟩
def draw_perm{α:Type}(n:Nat):∀(xs:List α) (s:ah) (Q:List α->ah->Prop),xs.length=n->(∀ys d,ys.Perm xs->Q ys { s with drawn:=d})->av (model prog w) A (drawOrder n xs) Q E s:=by
 induction n with
 |zero=>
  intro xs s Q hl k;have e:xs=[]:=fL.mp hl;subst e;exact ak (k [] s.drawn .nil)
 |succ n ih=>
  intro xs s Q hl k
  match xs,hl with
  |x::xs,hl=>
   refine ae (m:=choose .order (x::xs).length) (ch (by simp) λi d hi=>?_);have e:(x::xs)[i]? =aa (x::xs)[i]:=aN hi;simp only[e];refine ae (ih _ _ _ (by rw[gX hi];lia) λys d' hp=>ak ?_);exact k _ _ ((hp.cons _).trans (zjG hi))
end
def pick_go{α:Type}(nx:Nat->Nat)(f:Nat):∀(k:Nat) (left:List α) (out:Array α),left.length=f->(pickOrder.go nx f k left out).toList.Perm (out.toList++left):=by
 induction f with
 |zero=>
  intro k left out hl;have e:left=[]:=fL.mp hl;subst e;simp[pickOrder.go]
 |succ f ih=>
  intro k left out hl;have hi:nx k%left.length<left.length:=lD _ (by lia);have e:left[nx k%left.length]? =aa left[nx k%left.length]:=aN hi;unfold pickOrder.go;simp only[e];refine(ih _ _ _ (by rw[gX hi];lia)).trans ?_;rw[dE,bw];exact(zjG hi).append_left _
def pick_perm{α:Type}(nx:Nat->Nat)(xs:Array α):(pickOrder nx xs).toList.Perm xs.toList:=by
 have:=pick_go nx xs.size 0 xs.toList #[] (by simp);simpa [pickOrder] using this
namespace Fx
def iter_of:entryFor table "set.__iter__" =aa Builtin.«frozenset.__iter__» :=entryFor_alias (id':= "frozenset.__iter__") (by kernel_rfl) rfl (by decide +kernel) (by kernel_rfl)
def next_of:entryFor table "set_iterator.__next__" =aa Builtin.«set_iterator.__next__» :=entryFor_of_tree (by kernel_rfl)
def next_slot:Slot "set_iterator" "__next__" "set_iterator.__next__" :=.of (owner:= "set_iterator") (n:= "__next__") (by rw[typeLookup_type,builtinLookup_eq_fast];kernel_rfl) (by decide +kernel) (by decide +kernel) (by decide +kernel) (by first|exact .inl (by decide +kernel)|exact .inr (by decide +kernel)) (by rw[isSubtype_type];kernel_rfl)
def next_args(v:af):argsOk "set_iterator.__next__" ⟨[v],[]⟩:=by unfold argsOk;kernel_rfl
end Fx
end TS
namespace TS
open PySem PyProof.Rows
def itO(f0:af)(i:Nat)(a:ai)(n ep:Nat):Obj:={ cls:=.type "set_iterator",data:=.fields #[f0,rawInt i,.ref a,rawInt n,rawInt ep]}
section
variable {prog:aK}{w:aO}{A:aQ}{E:af->ah->Prop}{s:ah}{I a:ai}{o:Obj}{es:Array (Int×af)}{ep:Nat}{t:SetTable}
def next1{i slot slot':Nat}{v:af}{Q:Option af->ah->Prop}(hI:s.heap.get? I=aa (itO (rawInt slot) i a es.size ep))(ho:s.heap.get? a=aa o)(hd:o.data=.set es ep t)(hf:t.fits es.size=true)
  (nx':∀(A:aQ) (E:af->ah->Prop) (R:Option (af×Nat)->ah->Prop),R (aa (v,slot')) s->av (model prog w) A (setNext a slot i ep) R E s)
  (k:∀h',h'.get? I=aa (itO (rawInt slot') (i+1) a es.size ep)->(∀b o,b≠I->s.heap.get? b=aa o->h'.get? b=aa o)->Q (aa v) { s with heap:=h'}):av (model prog w) A (pyNext (.ref I)) Q E s:=by
 have ty:s.TypeIs (.ref I) "set_iterator" :=⟨_,hI,rfl⟩
 unfold pyNext;refine ae (wpAny_attempt (wpAny_callSpecial?_slot (name:=bT "__next__") ty Fx.next_slot (wpAny_call_entry Fx.next_slot ty Fx.next_of ?_ (Fx.next_args _))));unfold Builtin.«set_iterator.__next__» slotArgs;simp only[eE,eL,bm,↓reduceIte,bind_assoc,dA,bne_self_eq_false];refine ae (ak (ae (wpAny_fieldsOf hI rfl ?_)));show av _ _ (setEntries a >>= _) _ _ _;refine ae (wpAny_setEntries_of ho hd hf ?_);rw[if_neg (by simp)];show av _ _ (setNext a slot i ep >>= _) _ _ _;refine ae (nx' _ _ _ ?_);refine ae (wpAny_setField_rec hI (by simp) λh1 g1 b1=>?_);refine ae (wpAny_setField_rec (s:={ s with heap:=h1}) g1 (by simp) λh2 g2 b2=>?_);refine ak ⟨v,rfl,ak (k h2 ?_ λb o hb e=>?_)⟩
 ·rw[g2];rfl
 ·exact(b2.2 b hb).trans ((b1.2 b hb).trans e)
def stop{B:aQ}{α:Type}(hh:B.handled=ab){R:α->ah->Prop}{E':af->ah->Prop}(k:∀e h',(∀b o,s.heap.get? b=aa o->h'.get? b=aa o)->gW { s with heap:=h'} e "StopIteration" -> E' e { s with heap:=h'}) :
  av (model prog w) B (newExc (.type "StopIteration") [] >>= λe=>raiseNew e) R E' s:=by
 refine ae ?_;simp only[newExc,newTuple];refine ae (wpAny_newObj_type ?_ (by size_fits));refine ae (m:=firstArgMember _ _) (wpAny_of_eq (a:=de) (by first|rfl|(simp only[firstArgMember];rfl)) (wpAny_newObj_type ?_ (by size_fits)));simp only[raiseNew];refine ae (wpAny_handled ?_);rw[hh];refine ae (ak (wpAny_throw ?_));exact k _ _ (λb o e=>aj _ (aj _ e)) ⟨_,ay _ rfl,rfl⟩
def end1{i slot:Nat}{Q:Option af->ah->Prop}(hh:A.handled=ab)(hI:s.heap.get? I=aa (itO (rawInt slot) i a es.size ep))(ho:s.heap.get? a=aa o)(hd:o.data=.set es ep t)(hf:t.fits es.size=true)
  (nx:∀(A:aQ) (E:af->ah->Prop) (R:Option (af×Nat)->ah->Prop),R ab s->av (model prog w) A (setNext a slot i ep) R E s)
  (k:∀h',(∀b o,b≠I->s.heap.get? b=aa o->h'.get? b=aa o)->Q ab { s with heap:=h'}):av (model prog w) A (pyNext (.ref I)) Q E s:=by
 have ty:s.TypeIs (.ref I) "set_iterator" :=⟨_,hI,rfl⟩
 unfold pyNext;refine ae (wpAny_attempt (wpAny_callSpecial?_slot (name:=bT "__next__") ty Fx.next_slot (wpAny_call_entry Fx.next_slot ty Fx.next_of ?_ (Fx.next_args _))));unfold Builtin.«set_iterator.__next__» slotArgs;simp only[eE,eL,bm,↓reduceIte,bind_assoc,dA,bne_self_eq_false];refine ae (ak (ae (wpAny_fieldsOf hI rfl ?_)));show av _ _ (setEntries a >>= _) _ _ _;refine ae (wpAny_setEntries_of ho hd hf ?_);rw[if_neg (by simp)];show av _ _ (setNext a slot i ep >>= _) _ _ _;refine ae (nx _ _ _ ?_);refine ae (wpAny_setField_rec hI (by simp) λh1 g1 b1=>?_);refine stop (B:=A.in1) (s:={ s with heap:=h1}) hh λe h' old te=>?_;refine ae (wpAny_isInstance (b:=true) te isSubtype_stop ?_);exact ak (k h' λb o hb e=>old b o ((b1.2 b hb).trans e))
def next2{i p:Nat}{T:ai}{ps:Array af}{hv:Int×af}{Q:Option af->ah->Prop}(hI:s.heap.get? I=aa (itO (.ref T) i a es.size ep))(ho:s.heap.get? a=aa o)(hd:o.data=.set es ep t)(hf:t.fits es.size=true)(hT:IsTup s.heap T ps)
  (hp:ps[i]? =aa (rawInt p)) (he:es[p]? =aa hv)
  (k:∀h',h'.get? I=aa (itO (.ref T) (i+1) a es.size ep)->(∀b o,b≠I->s.heap.get? b=aa o->h'.get? b=aa o)->Q (aa hv.2) { s with heap:=h'}):av (model prog w) A (pyNext (.ref I)) Q E s:=by
 have ty:s.TypeIs (.ref I) "set_iterator" :=⟨_,hI,rfl⟩
 obtain⟨ot,got,_,nt,dt⟩:=hT;unfold pyNext;refine ae (wpAny_attempt (wpAny_callSpecial?_slot (name:=bT "__next__") ty Fx.next_slot (wpAny_call_entry Fx.next_slot ty Fx.next_of ?_ (Fx.next_args _))));unfold Builtin.«set_iterator.__next__» slotArgs;simp only[eE,eL,bm,↓reduceIte,bind_assoc,dA,bne_self_eq_false];refine ae (ak (ae (wpAny_fieldsOf hI rfl ?_)));show av _ _ (setEntries a >>= _) _ _ _;refine ae (wpAny_setEntries_of ho hd hf ?_);rw[if_neg (by simp)];show av _ _ (seqItems? (.ref T) >>= _) _ _ _;refine ae (wpAny_seqItems got dt ?_);simp only[cV,hp,rawInt];unfold setNextDrawn;refine ae (ae (wpAny_setState_of ho hd hf ?_));simp only[bne_self_eq_false,bm,↓reduceIte,he];refine ak ?_;refine ae (wpAny_setField_rec hI (by simp) λh1 g1 b1=>?_);refine ak ⟨_,rfl,ak (k h1 ?_ λb o hb e=>(b1.2 b hb).trans e)⟩;rw[g1];rfl
def end2{i:Nat}{T:ai}{ps:Array af}{Q:Option af->ah->Prop}(hh:A.handled=ab)(hI:s.heap.get? I=aa (itO (.ref T) i a es.size ep))(ho:s.heap.get? a=aa o)(hd:o.data=.set es ep t)(hf:t.fits es.size=true)(hT:IsTup s.heap T ps)
  (hp:ps[i]? =ab) (k:∀h',(∀b o,b≠I->s.heap.get? b=aa o->h'.get? b=aa o)->Q ab { s with heap:=h'}):av (model prog w) A (pyNext (.ref I)) Q E s:=by
 have ty:s.TypeIs (.ref I) "set_iterator" :=⟨_,hI,rfl⟩
 obtain⟨ot,got,_,nt,dt⟩:=hT;unfold pyNext;refine ae (wpAny_attempt (wpAny_callSpecial?_slot (name:=bT "__next__") ty Fx.next_slot (wpAny_call_entry Fx.next_slot ty Fx.next_of ?_ (Fx.next_args _))));unfold Builtin.«set_iterator.__next__» slotArgs;simp only[eE,eL,bm,↓reduceIte,bind_assoc,dA,bne_self_eq_false];refine ae (ak (ae (wpAny_fieldsOf hI rfl ?_)));show av _ _ (setEntries a >>= _) _ _ _;refine ae (wpAny_setEntries_of ho hd hf ?_);rw[if_neg (by simp)];show av _ _ (seqItems? (.ref T) >>= _) _ _ _;refine ae (wpAny_seqItems got dt ?_);simp only[cV,hp];refine ae (wpAny_setField_rec hI (by simp) λh1 g1 b1=>?_);refine ae (wpAny_setField_rec (s:={ s with heap:=h1}) g1 (by simp) λh2 g2 b2=>?_);refine stop (B:=A.in1) (s:={ s with heap:=h2}) hh λe h' old te=>?_;refine ae (wpAny_isInstance (b:=true) te isSubtype_stop ?_);exact ak (k h' λb o hb e=>old b o ((b2.2 b hb).trans ((b1.2 b hb).trans e)))
end
end TS
namespace TS
open PySem PyProof.Rows
namespace Fx
def self_slot:Slot "set_iterator" "__iter__" "set_iterator.__iter__" :=.of (owner:= "set_iterator") (n:= "__iter__") (by rw[typeLookup_type,builtinLookup_eq_fast];kernel_rfl) (by decide +kernel) (by decide +kernel) (by decide +kernel) (by first|exact .inl (by decide +kernel)|exact .inr (by decide +kernel)) (by rw[isSubtype_type];kernel_rfl)
def self_of:entryFor table "set_iterator.__iter__" =aa Builtin.«dict_keyiterator.__iter__» :=entryFor_alias (id':= "dict_keyiterator.__iter__") (by kernel_rfl) rfl (by decide +kernel) (by kernel_rfl)
def self_args(v:af):argsOk "set_iterator.__iter__" ⟨[v],[]⟩:=by unfold argsOk;kernel_rfl
end Fx
section
variable {prog:aK}{w:aO}{A:aQ}{E:af->ah->Prop}{s:ah}{I a:ai}{o:Obj}{es:Array (Int×af)}{ep:Nat}{t:SetTable}
def self{f0:af}{i n:Nat}{Q:af->ah->Prop}(hI:s.heap.get? I=aa (itO f0 i a n ep))(k:Q (.ref I) s):av (model prog w) A (pyIter (.ref I)) Q E s:=by
 have ty:s.TypeIs (.ref I) "set_iterator" :=⟨_,hI,rfl⟩
 refine wpAny_pyIter_slot ty Fx.self_slot (wpAny_call_entry Fx.self_slot ty Fx.self_of ?_ (Fx.self_args _));show av _ _ (ret (.ref I)) _ _ s;exact ak ⟨_,rfl,"set_iterator",_,ty,Fx.next_slot.lookup,k⟩
def walk1(hh:A.handled=ab)(hne:a≠I)(hd:o.data=.set es ep t)(hf:t.fits es.size=true)(val:Nat->af)(slots:Nat->Nat)
  (nx:∀(i:Nat) (s:ah) (A:aQ) (E:af->ah->Prop) (R:Option (af×Nat)->ah->Prop),i<es.size->s.heap.get? a=aa o->R (aa (val i,slots (i+1))) s->av (model prog w) A (setNext a (slots i) i ep) R E s)
  (en:∀(s:ah) (A:aQ) (E:af->ah->Prop) (R:Option (af×Nat)->ah->Prop),s.heap.get? a=aa o->R ab s->av (model prog w) A (setNext a (slots es.size) es.size ep) R E s) :
  Walks prog w A I [I,a] [I] es.size (λi v=>v=val i) (λi h=>h.get? I=aa (itO (rawInt (slots i)) i a es.size ep)/\h.get? a=aa o) where
 sub:=λb hb=>by simp at hb;simp[hb]
 frame:=λ_ _ _ st kk=>⟨kk I (by simp) _ st.1,kk a (by simp) _ st.2⟩
 item:=λi s Q E hi st k=>by
  refine next1 st.1 st.2 hd hf (λA E R r=>nx i s A E R hi st.2 r) λh' g old=>?_;exact k _ h' s.toks rfl ⟨g,old a o hne st.2⟩ λb o hb e=>old b o (by simpa using hb) e
 done:=λs Q E st k=>end1 hh st.1 st.2 hd hf (λA E R r=>en s A E R st.2 r) λh' old=>k h' s.toks λb o hb e=>old b o (by simpa using hb) e
 self:=λi s Q E st k=>self st.1 k
def walk2{T:ai}{ps:Array af}(hh:A.handled=ab)(hne:a≠I)(hnt:T≠I)(hd:o.data=.set es ep t)(hf:t.fits es.size=true)(val:Nat->af)(pl:Nat->Nat)(hl:ps.size=es.size)
  (hp:∀i,i<es.size->ps[i]? =aa (rawInt (pl i))/\∃h,es[pl i]? =aa (h,val i)) :
  Walks prog w A I [I,a,T] [I] es.size (λi v=>v=val i) (λi h=>h.get? I=aa (itO (.ref T) i a es.size ep)/\h.get? a=aa o/\IsTup h T ps) where
 sub:=λb hb=>by simp at hb;simp[hb]
 frame:=λ_ _ _ st kk=>⟨kk I (by simp) _ st.1,kk a (by simp) _ st.2.1,let⟨o,ho,r⟩:=st.2.2;⟨o,kk T (by simp) _ ho,r⟩⟩
 item:=λi s Q E hi st k=>by
  obtain⟨h1,h,h2⟩:=hp i hi;refine next2 st.1 st.2.1 hd hf st.2.2 h1 h2 λh' g old=>?_;obtain⟨ot,got,r⟩:=st.2.2;exact k _ h' s.toks rfl ⟨g,old a o hne st.2.1,ot,old T _ hnt got,r⟩ λb o hb e=>old b o (by simpa using hb) e
 done:=λs Q E st k=>end2 hh st.1 st.2.1 hd hf st.2.2 (by simp[hl]) λh' old=>k h' s.toks λb o hb e=>old b o (by simpa using hb) e
 self:=λi s Q E st k=>self st.1 k
end
end TS
namespace TS
open PySem PyProof.Rows
section
variable {prog:aK}{w:aO}{A:aQ}{E:af->ah->Prop}{s:ah}{a:ai}{o:Obj}{es:Array (Int×af)}{ep:Nat}{t:SetTable}
def zjJ{Q:Bool->ah->Prop}(k:Q (bt w) s):av (model prog w) A setsByText Q E s:=ae (wpAny_askSetting (ak k))
def nextA{i:Nat}{R:Option (af×Nat)->ah->Prop}(ho:s.heap.get? a=aa o)(hd:o.data=.set es ep t)(hf:t.fits es.size=true)(hb:bt w=true)
  (k:R (((pickOrder (w.params.setOrder a ep) es)[i]?).map λe=>(e.2,0)) s):av (model prog w) A (setNext a 0 i ep) R E s:=by
 unfold setNext;refine ae (wpAny_setState_of ho hd hf ?_);refine ae (zjJ ?_);rw[hb];simp only[bne_self_eq_false,bm,↓reduceIte];unfold setWalk;refine ae (ae (wpAny_setState_of ho hd hf ?_));refine ae (zjJ ?_);rw[hb];simp only[↓reduceIte];exact ae (wpAny_askSetting (ak (ak k)))
def nextB{i slot:Nat}{R:Option (af×Nat)->ah->Prop}(ho:s.heap.get? a=aa o)(hd:o.data=.set es ep t)(hf:t.fits es.size=true)(hb:bt w=false)(hl:t.led=true)(hz:es.size<=1)
  (k:R (match es[em t.place slot]?,t.place[em t.place slot]? with
   |some (_,x),aa j=>aa (x,j+1)
   | _,_=>ab) s):av (model prog w) A (setNext a slot i ep) R E s:=by
 unfold setNext;refine ae (wpAny_setState_of ho hd hf ?_);refine ae (zjJ ?_);rw[hb];simp only[bm,↓reduceIte];rw[if_neg (by show ¬ ((!t.plain&&decide (es.size > 1))=true);simp;lia)];refine ae (wpAny_of_eq (a:=()) ?_ (ak k));obtain⟨mask,place,dummies,finger,led,moves,plain⟩:=t;have hl':led=true:=hl;subst hl';rfl
end
def below0(p:Nat):em #[p] 0=0:=by simp[em,jH]
def below1(p:Nat):em #[p] (p+1)=1:=by simp[em,jH]
end TS
namespace TS
open PySem PyProof.Rows
section
variable {prog:aK}{w:aO}{A:aQ}{E:af->ah->Prop}{s:ah}{a:ai}{o:Obj}{es:Array (Int×af)}{ep:Nat}{t:SetTable}
def _root_.PySem.Walks.weak{I:ai}{fp wr:List ai}{n:Nat}{P P':Nat->af->Prop}{St:Nat->aT->Prop}(W:Walks prog w A I fp wr n P St)(h:∀i v,i<n->P i v->P' i v):Walks prog w A I fp wr n P' St:=
 ⟨W.sub,W.frame,λi s Q E hi st k=>W.item i s Q E hi st λv h' tk p=>k v h' tk (h i v hi p),W.done,W.self⟩
structure WkS(prog:aK)(w:aO)(a n0:Nat)(zs:List Str)(I:ai)(h:aT):Prop where
 ex:∃(ys:List Str) (fp:List ai) (St:Nat->aT->Prop),ys.Perm zs/\I∈fp/\(∀b∈fp,b<h.objs.size/\(b=a\/n0<=b))/\St 0 h/\∀B:aQ,B.handled=ab->Walks prog w B I fp [I] ys.length (λi v=>∃u,v=cE (ys.getD i "") u) St
def WkS.of{n0:Nat}{zs:List Str}{I:ai}{h:aT}{ord:Array (Int×af)}{fp:List ai}{St:Nat->aT->Prop}(hp:ord.toList.Perm es.toList)(ge:∀e∈es.toList,∃z u,e=(hashStr w z,cE z u))(gm:(es.toList.map λe=>txt e.2).Perm zs)
  (hI:I∈fp) (hb:∀b∈fp,b<h.objs.size/\(b=a\/n0<=b)) (st:St 0 h) (W:∀B:aQ,B.handled=ab->Walks prog w B I fp [I] es.size (λi v=>v=(ord.getD i (0,.none)).2) St):WkS prog w a n0 zs I h:=by
 have hl:ord.size=es.size:=by simpa using hp.length_eq
 refine⟨ord.toList.map λe=>txt e.2,fp,St,(hp.map _).trans gm,hI,hb,st,λB hB=>?_⟩;rw[aw,aE,hl];refine(W B hB).weak λi v hi e=>?_;have hi':i<ord.size:=by lia
 obtain⟨z,u,hz⟩:=ge ord[i] (hp.mem_iff.mp (by simp));subst e;refine⟨u,?_⟩;simp[hi',hz,txt]
def iterS{zs:List Str}{Q:af->ah->Prop}(is:IsS w s.heap a zs)(hzs:zs.length<scanBound)
  (k:∀I h' d,s.heap.objs.size<=I->WkS prog w a s.heap.objs.size zs I h'->(∀b o,s.heap.get? b=aa o->h'.get? b=aa o)->Q (.ref I) { s with heap:=h',drawn:=d}):av (model prog w) A (pyIter (.ref a)) Q E s:=by
 obtain⟨o,es,ep,t,ho,gx,hd,ge,hf,gl,gp,gm⟩:=is.ex;have hsb:es.size<scanBound:=by have:=gm.length_eq;simp at this;lia
 have ty:s.TypeIs (.ref a) "set" :=⟨o,ho,gx.1⟩
 have la:a<s.heap.objs.size:=aC ho;refine wpAny_pyIter_slot ty F.slot_set_iter (wpAny_call_entry F.slot_set_iter ty Fx.iter_of ?_ (F.args_set_iter_1 _));unfold Builtin.«frozenset.__iter__» lb slotArgs;simp only[eE,eL,bm,↓reduceIte,bind_assoc,dA,bne_self_eq_false];unfold k5 k6;refine ae (ak (ae (ak ?_)));refine ae (ae (wpAny_setEntries_of ho hd hf (ak ?_)));unfold setDrawn;refine ae (ae (wpAny_setState_of ho hd hf ?_));refine ae (zjJ (ak ?_));show av _ _ (if (!bt w&&(!t.plain&&decide (es.size > 1)))=true then _ else _) _ _ _;have plain:∀(ord:Array (Int×af)) (slots:Nat->Nat),slots 0=0->ord.toList.Perm es.toList ->
   (∀(i:Nat) (s:ah) (A:aQ) (E:af->ah->Prop) (R:Option (af×Nat)->ah->Prop),i<es.size->s.heap.get? a=aa o->R (aa ((ord.getD i (0,.none)).2,slots (i+1))) s->av (model prog w) A (setNext a (slots i) i ep) R E s) ->
   (∀(s:ah) (A:aQ) (E:af->ah->Prop) (R:Option (af×Nat)->ah->Prop),s.heap.get? a=aa o->R ab s->av (model prog w) A (setNext a (slots es.size) es.size ep) R E s) ->
   av (model prog w) A.in1 (pure (rawInt 0) >>= λfirst=>setEpoch a >>= λe=>newFields "set_iterator" [first,rawInt 0,.ref a,rawInt es.size,rawInt e] >>= λr=>ret r)
    (λfin s'=>∃v,fin=.done (.ret v)/\∃T' r,s'.TypeIs v T'/\typeLookup (.type T') (bT "__next__")=pure (aa r)/\Q v s') E s:=by
  intro ord slots s0 hp nx en;refine ae (ak (ae (wpAny_setEpoch_of ho hd hf ?_)));refine ae (wpAny_newObj_type ?_);have g0:=ay s.heap (o:=itO (rawInt 0) 0 a es.size ep) rfl;refine ak ⟨_,rfl,"set_iterator",_,⟨_,g0,rfl⟩,Fx.next_slot.lookup,?_⟩;have hne:a≠s.heap.objs.size:=aL la;refine k _ _ s.drawn (am _) (WkS.of hp ge gm (fp:=[s.heap.objs.size,a]) (by simp) (λb hb=>?_) ?_ λB hB=>walk1 hB hne hd hf _ slots nx en) λb o e=>aj _ e
  ·rw[bD];rcases aF.mp hb with rfl|hb
   ·exact⟨cP _,.inr (am _)⟩
   ·rw[bn.mp hb];exact⟨cW la,.inl rfl⟩
  ·rw[s0];exact⟨g0,aj _ ho⟩
 cases hb:bt w with
 |true=>
  have hp:=pick_perm (w.params.setOrder a ep) es;have hl:(pickOrder (w.params.setOrder a ep) es).size=es.size:=by simpa using hp.length_eq
  refine plain (pickOrder (w.params.setOrder a ep) es) (λ_=>0) rfl hp (λi s A E R hi g r=>nextA g hd hf hb ?_) λs A E R g r=>nextA g hd hf hb ?_
  ·have:i<(pickOrder (w.params.setOrder a ep) es).size:=by lia
   simpa [this] using r
  ·simpa [hl] using r
 |false=>
  have led:t.led=true:=by rw[gl,hb];rfl
  by_cases hz:es.size<=1
  ·rw[if_neg (by simp;lia)];have hpl:t.place.size=es.size:=by
    unfold SetTable.fits at hf;simp at hf;exact hf.1
   refine plain es (λi=>if i=0 then 0 else t.place.getD 0 0+1) rfl .rfl (λi s A E R hi g r=>nextB g hd hf hb led hz ?_) λs A E R g r=>nextB g hd hf hb led hz ?_
   ·have h0:i=0:=by lia
    subst h0;obtain⟨p,hp⟩:∃p,t.place=#[p]:=by
     match hq:t.place,hpl with
     |⟨[p]⟩,_=>exact⟨p,rfl⟩
     |⟨[]⟩,hpl=>simp at hpl;lia
     |⟨_::_::_⟩,hpl=>simp at hpl;lia
    obtain⟨e,he⟩:∃e,es[0]? =aa e:=⟨es[0],by simp[hi]⟩;simp only[hp]at r ⊢;simp only[↓reduceIte,below0,he]at r ⊢;simpa [gM,he] using r
   ·by_cases h0:es.size=0
    ·have hp:t.place=#[]:=gk (by lia);have he:es=#[]:=gk h0;simp only[hp,he];simpa using r
    ·obtain⟨p,hp⟩:∃p,t.place=#[p]:=by
      match hq:t.place,hpl with
      |⟨[p]⟩,_=>exact⟨p,rfl⟩
      |⟨[]⟩,hpl=>simp at hpl;lia
      |⟨_::_::_⟩,hpl=>simp at hpl;lia
     have h1:es.size=1:=by lia
     have he:es[1]? =ab:=by simp[h1]
     simp only[hp,h1,he,below1,gM];simpa [below1,he] using r
  ·have pl:t.plain=false:=gp (by lia);rw[if_pos (by simp[pl];lia)];refine ae (draw_perm es.size _ _ _ (by simp) λys d hp=>?_);have yl:ys.length=es.size:=by simpa using hp.length_eq
   have yb:∀p∈ys,p<es.size:=λp hm=>by simpa using hp.mem_iff.mp hm
   refine ae (wpAny_newTuple ?_ (by rw[aw,yl];exact fits_of_scanBound hsb));refine ae (wpAny_setEpoch_of (aj _ ho) hd hf ?_);refine ae (wpAny_newObj_type ?_);generalize hth:s.heap.push (seqObj "tuple" (ys.map λ(i:Nat)=>rawInt i).toArray 0)=th;have tt:IsTup th s.heap.objs.size (ys.map λ(i:Nat)=>rawInt i).toArray:=by rw[<- hth];exact⟨_,ay _ rfl,rfl,0,rfl⟩
   have ts:th.objs.size=s.heap.objs.size+1:=by rw[<- hth,bD]
   have oo:th.get? a=aa o:=by rw[<- hth];exact aj _ ho
   have g0:=ay th (o:=itO (.ref s.heap.objs.size) 0 a es.size ep) rfl;have hne:a≠th.objs.size:=by rw[ts];exact aL (cW la)
   have hnt:s.heap.objs.size≠th.objs.size:=by rw[ts];exact aL (cP _)
   show av _ _ _ _ _ { s with heap:=th.push (itO (.ref s.heap.objs.size) 0 a es.size ep),drawn:=d};refine ak ⟨_,rfl,"set_iterator",_,⟨_,g0,rfl⟩,Fx.next_slot.lookup,?_⟩;refine k _ _ d (by rw[ts];exact cY _) (WkS.of (ord:=(ys.map λp=>es.getD p (0,.none)).toArray) ?_ ge gm (fp:=[th.objs.size,a,s.heap.objs.size]) ax (λb hb=>?_) ⟨g0,aj _ oo,?_⟩ λB hB=>walk2 (ps:=(ys.map λ(i:Nat)=>rawInt i).toArray) hB hne hnt hd hf _ (λi=>ys.getD i 0) (by simp[yl]) λi hi=>?_) λb o e=>aj _ (by rw[<- hth];exact aj _ e)
   ·have:(au es.size).map (λp=>es.getD p (0,.none))=es.toList:=by
     apply dM
     ·simp
     ·intro i h1 h2;simp at h1;simp[h1]
    rw[<- this];exact hp.map _
   ·rw[bD,ts];simp only[aF,bI,or_false]at hb;rcases hb with rfl|rfl|rfl
    ·rw[ts];exact⟨cP _,.inr (cY _)⟩
    ·exact⟨cW (cW la),.inl rfl⟩
    ·exact⟨cW (cP _),.inr (am _)⟩
   ·have hi':i<ys.length:=by lia
    have hq:ys[i]<es.size:=yb _ (eD hi');refine⟨by simp[hi'],es[ys[i]].1,?_⟩;simp[hi',hq]
   ·obtain⟨ot,got,r⟩:=tt;exact⟨ot,aj _ got,r⟩
end
end TS
namespace TS
open PySem PyProof.Rows
namespace Fx
def len_of:typeLookup (.type "set") "__len__" =pure (aa (.builtin "set.__len__")):=by rw[typeLookup_type,builtinLookup_eq_fast];kernel_rfl
end Fx
section
variable {prog:aK}{w:aO}{A:aQ}{E:af->ah->Prop}{s:ah}{a:ai}{zs:List Str}
set_option maxRecDepth 100000 in
def collS{Q:List af->ah->Prop}(hh:A.handled=ab)(is:IsS w s.heap a zs)(hz:zs.length<scanBound)
  (k:∀(vs:Array af) (ys:List Str) s',ItemsOf (λi v=>∃u,v=cE (ys.getD i "") u) vs ys.length->ys.Perm zs->(∀b o,s.heap.get? b=aa o->s'.heap.get? b=aa o)->s'.gens=s.gens->s'.os=s.os->Q vs.toList s') :
  av (model prog w) A (collect (.ref a)) Q E s:=by
 have la:a<s.heap.objs.size:=let⟨_,_,_,_,g,_⟩:=is.ex;aC g;unfold collect;refine ae (wpAny_runValue (codeAny_builtin F.entry_proto_collect ?_));rw[bS F.plain_proto_collect _];refine ae (m:=newList []) (wpAny_newObj_type ?_);refine ak ⟨plainId_quiet F.plain_list_iadd _,?_⟩;refine codeAny_builtin F.entry_list_iadd ?_;rw[bS F.plain_list_iadd _];generalize hL:s.heap.push { cls:=.type "list",data:=.seq ([]:List af).toArray}=L;have gl:L.get? s.heap.objs.size=aa { cls:=.type "list",data:=.seq ([]:List af).toArray}:=by rw[<- hL];exact ay _ rfl
 have ls:L.objs.size=s.heap.objs.size+1:=by rw[<- hL,bD]
 have il:IsS w L a zs:=is.mono λo e=>by rw[<- hL];exact aj _ e
 have ty:gW { s with heap:=L} (.ref a) "set" :=let⟨o,_,_,_,g,x,_⟩:=il.ex;⟨o,g,x.1⟩;show av _ A.in1 (dv (.ref s.heap.objs.size) (.ref a) (.ref s.heap.objs.size)) _ _ { s with heap:=L};have ns:dN (.ref s.heap.objs.size) (.ref a)=false:=by simp[dN];exact eV la
 unfold dv;refine ae (wpAny_typeOf ty ?_);rw[if_neg (by rw[ns];decide)];refine ae (iterS (s:={ s with heap:=L}) il hz λI h' d hI wk old=>?_);have ty':gW { s with heap:=h',drawn:=d} (.ref a) "set" :=let⟨o,_,_,_,g,x,_⟩:=il.ex;⟨o,old a o g,x.1⟩;refine ae (cA ?_);unfold ez;refine ae (wpAny_specialOf ty' Fx.len_of ?_)
 wp_delta
 refine ae (wpAny_isInstance (b:=true) ty' (by rw[isSubtype_type];kernel_rfl) ?_);show av _ A.in1 (typeOf (bj a) >>= _) _ _ _;refine ae (wpAny_typeOf ty' (ak ?_));rw[if_pos (by decide)];refine ae (wpAny_rule ?_);unfold lu lg;have gs:h'.get? s.heap.objs.size=aa { cls:=.type "list",data:=.seq ([]:List af).toArray}:=old _ _ gl;refine ae (ae (wpAny_updateSeq gs rfl ?_));have gs1:=da (cn (·.push de)) gs rfl;refine wpAny_updateSeq gs1 rfl ?_;have gs2:=da (cn (·.pop)) gs1 rfl;obtain⟨ys,fp,St,yp,If,fb,st,W⟩:=wk.ex;have nf:s.heap.objs.size∉fp:=λq=>by
  rcases (fb _ q).2 with e|e
  ·exact absurd la (e ▸ bK _)
  ·have e':L.objs.size<=s.heap.objs.size:=e;rw[ls]at e';exact absurd e' (Nat.not_succ_le_self _)
 have W1:=W A.in1 hh;have same:∀b o,b≠s.heap.objs.size->h'.get? b=aa o->((h'.update s.heap.objs.size (cn (·.push de))).update s.heap.objs.size (cn (·.pop))).get? b=aa o:=λb o hb e=>
  (cw _ _ (cN hb)).trans ((cw _ _ (cN hb)).trans e)
 have st':=W1.frame 0 h' _ st λb hb o e=>same b o (λq=>nf (q ▸ hb)) e;have yl:ys.length<=aX:=fits_of_scanBound (by rw[yp.length_eq];exact hz);refine ak ⟨plainId_quiet F.plain_extend_loop _,?_⟩;refine codeAny_extend_loopS W1.toS yl _ nf _ ys.length 0 _ _ _ rfl (aU _) st' gs2 (lv _) λs' acc c mv gS it=>?_;show av _ A (load s.heap.objs.size >>= _) _ _ s';refine ae (wpAny_load gS ?_);refine ak (k acc ys s' it yp (λb o e=>?_) mv.gens mv.os);have lt:=aC e;have hb:b≠s.heap.objs.size:=aL lt;refine mv.heap b o (λq=>?_) (same b o hb (old b o (by show L.get? b=_;rw[<- hL];exact aj _ e)));rcases aF.mp q with q|q
 ·exact hb q
 ·rw[bn.mp q]at lt;have e':L.objs.size<=I:=hI;rw[ls]at e';exact absurd lt (ic.mpr (Nat.le_of_succ_le e'))
end
end TS
namespace TS
open PySem PyProof.Rows
def strs_of{ys:List Str}{vs:Array af}(h:ItemsOf (λi v=>∃u,v=cE (ys.getD i "") u) vs ys.length):StrsAre vs.toList ys:=by
 obtain⟨hl,hv⟩:=h;have key:∀(l:List af) (y:List Str),l.length=y.length->(∀(j:Nat) (v:af),l[j]? =aa v->∃u,v=cE (y.getD j "") u)->StrsAre l y:=by
  intro l
  induction l with
  |nil=>
   intro y hl _
   match y,hl with
   |[],_=>exact .nil
  |cons v l ih=>
   intro y hl h
   match y,hl with
   |z::y,hl=>
    obtain⟨u,rfl⟩:=h 0 v rfl;exact .cons _ _ (ih y (by simpa using hl) λj v hv=>by simpa using h (j+1) v (by simpa using hv))
 exact key vs.toList ys (by simpa using hl) λj v e=>hv j v (by rw[cO]at e;exact e)
section
variable {prog:aK}{w:aO}{A:aQ}{E:af->ah->Prop}{s:ah}{a:ai}{zs:List Str}
def srtdS{Q:af->ah->Prop}(hh:A.handled=ab)(is:IsS w s.heap a zs)(hz:zs.length<64)
  (k:∀ (out:List af) (ss:List Str) (e:Nat) (s1:ah) (h':aT),StrsAre out ss->ss.Perm zs->sortedS ss=true->(∀ b o,s.heap.get? b=aa o->s1.heap.get? b=aa o)->s1.gens=s.gens->s1.os=s.os ->
   h'.get? s1.heap.objs.size=aa (seqObj "list" out.toArray e)->(∀b o,s1.heap.get? b=aa o->h'.get? b=aa o)->Q (.ref s1.heap.objs.size) { s1 with heap:=h'}) :
  av (model prog w) A (call (.builtin "sorted") [.ref a]) Q E s:=by
 refine ii kind_sorted plain_sorted entry_sorted (args_sorted1 _) ?_;unfold Builtin.«sorted»;refine ae (m:=checkCount "sorted" 1 1 _) (ak ?_);refine ae (collS hh is (by have:scanBound=4096:=rfl;lia) λvs ys s1 it yp old eg eo=>?_);have sv:=strs_of it;have vl:vs.toList.length<64:=by have:=it.1;have:=yp.length_eq;simp;lia
 have g0:(s1.heap.push (seqObj "list" vs.toList.toArray 0)).get? s1.heap.objs.size=aa (seqObj "list" vs.toList.toArray 0):=ay _ rfl;refine ae (wpAny_newList ?_ (fits_of_scanBound (by have:scanBound=4096:=rfl;lia)));show av _ _ _ _ _ { s1 with heap:=s1.heap.push (seqObj "list" vs.toList.toArray 0)};have sz:(s1.heap.push (seqObj "list" vs.toList.toArray 0)).objs.size=s1.heap.objs.size+1:=by rw[bD]
 refine ae (cA (wpAny_call_entry slot_list_sort ⟨_,g0,rfl⟩ entry_list_sort (list_sort_treeK strKind_oneLt g0 sv.keysOf (λv1 v2 rest e=>keyKind_strs (by rw[<- e];exact sv)) vl λst a1 a2=>⟨_,rfl,?_⟩) (args_list_sort _)));obtain⟨ss,h1,h2,h3⟩:=sorted_out_str sv a1 a2;obtain⟨e,he⟩:=sortedHeap_at (out:=(arrOf st).map (·.2)) g0;refine ak ⟨_,rfl,?_⟩;refine k ((arrOf st).map (·.2)).toList ss e s1 _ h1 (h2.trans yp) h3 old eg eo (by rw[je];exact he) λb o eb=>?_;have lt:=aC eb;rw[sortedHeap_old (aL lt) (by rw[sz];exact cW lt)];exact aj _ eb
end
end TS
namespace TS
open PySem PySem.Spec PyProof.Rows
def lt_anti:∀(a b:List Nat),ltCps a b=false->ltCps b a=false->a=b
 |[],[],_,_=>rfl
 |[],_::_,h,_=>by cases h
 | _::_,[],_,h=>by cases h
 |a::r,b::t,h1,h2=>by
  simp only[ltCps,jf,decide_eq_false_iff_not,i5,beq_iff_eq]at h1 h2;have e:a=b:=by lia
  subst e;rw[lt_anti r t (h1.2 rfl) (h2.2 rfl)]
def lt_trans:∀(a b c:List Nat),ltCps b a=false->ltCps c b=false->ltCps c a=false
 |[],_,[],_,_=>rfl
 |[],[],_::_,_,_=>by simp[ltCps]
 |[],_::_,_::_,_,_=>by simp[ltCps]
 | _::_,[],_,h,_=>by cases h
 | _::_,_::_,[],_,h=>by cases h
 |a::r,b::t,c::u,h1,h2=>by
  simp only[ltCps,jf,decide_eq_false_iff_not,i5,beq_iff_eq]at h1 h2 ⊢;refine⟨by lia,λe=>?_⟩;have e1:b=a:=by lia
  have e2:c=b:=by lia
  exact lt_trans r t u (h1.2 e1) (h2.2 e2)
def le(a b:Str):Prop:=ltCps b.cps.toList a.cps.toList=false
def le_anti{a b:Str}(h1:le a b)(h2:le b a):a=b:=by
 have:=lt_anti b.cps.toList a.cps.toList h1 h2;cases a;cases b;simp only[Str.mk.injEq]at this ⊢;exact(jT.mp this).symm
def rise:∀(x:Str) (l:List Str),risingS x l=true->(x::l).Pairwise le
 |x,[],_=>.cons (by simp) .nil
 |x,y::l,h=>by
  simp only[risingS,cc,hJ]at h;have ih:=rise y l h.2;refine .cons (λz hz=>?_) ih;rcases aF.mp hz with rfl|hz
  ·exact h.1
  ·exact lt_trans _ _ _ h.1 (cx ih hz)
def pair:∀{l:List Str},sortedS l=true->l.Pairwise le
 |[],_=>.nil
 |x::l,h=>rise x l h
def uniqS:∀{l m:List Str},l.Pairwise le->m.Pairwise le->l.Perm m->l=m
 |[],m,_,_,p=>(List.nil_perm.mp p).symm
 | _::_,[],_,_,p=>absurd p.length_eq (by simp)
 |x::l,y::m,h1,h2,p=>by
  have hx:x∈y::m:=p.mem_iff.mp ax;have hy:y∈x::l:=p.mem_iff.mpr ax;have e:x=y:=by
   rcases aF.mp hx with e|hx
   ·exact e
   ·rcases aF.mp hy with e|hy
    ·exact e.symm
    ·exact le_anti (cx h1 hy) (cx h2 hx)
  subst e;rw[uniqS (db h1) (db h2) p.cons_inv]
open Classical in
noncomputable def srt(zs:List Str):List Str:=if h:∃ss:List Str,ss.Pairwise le/\ss.Perm zs then h.choose else []
def srt_eq{zs ss:List Str}(h:ss.Pairwise le)(p:ss.Perm zs):srt zs=ss:=by
 have hx:∃ss:List Str,ss.Pairwise le/\ss.Perm zs:=⟨ss,h,p⟩
 unfold srt;rw[dif_pos hx];exact uniqS hx.choose_spec.1 h (hx.choose_spec.2.trans p.symm)
def ddp(zs:List Str):List Str:=zs.foldl put []
end TS
namespace L2
open PySem PySem.Spec PyProof.Rows TS
def Inv.drawn{X:Cx}{pins:List (ai×Obj)}{σ:List (Option V)}{H:Hp}{s s1:ah}(I:Inv X pins σ H s)(eh:∀b o,s.heap.get? b=aa o->s1.heap.get? b=aa o)(eg:s1.gens=s.gens)(eo:s1.os=s.os):Inv X pins σ H s1:=by
 obtain⟨h,g,d,tk,os⟩:=s1;have eg':g=s.gens:=eg;have eo':os=s.os:=eo;subst eg' eo';have J:Inv X pins σ H { s with heap:=h,toks:=tk}:=I.kept (t':=tk) eh;exact⟨J.ok,J.os,J.bare,J.base,J.loc,J.cell,J.free,J.freeC,J.pin,J.hok,J.len⟩
def TxtIn(K:ag)(H:Hp)(x:V)(zs:List Str):Prop:=(∃a xs,x=.ref a/\SqL K H a xs/\xs=zs.map V.str)\/(∃z,x=.str z/\zs=z.cps.toList.map λc=>(⟨#[c]⟩:Str))
def tSS(K:ag)(t:TE):TE:=λσ H Q=>t σ H λx H1=>∃zs,TxtIn K H1 x zs/\zs.length<4000/\(ddp zs).length<64/\∀r,H1 r=ab->Q (.ref r) (upd H1 r (.lst ((srt (ddp zs)).map V.str)))
end L2
namespace L2
open PySem PySem.Spec PyProof.Rows TS
section
variable {X:Cx}{e:Expr}{t:TE}{p p1 pos pos1:Pos}
def all_at(zs:List Str)(n:Nat)(h:n=zs.length):(cJ 0 n).map (λi=>zs.getD i "")=zs:=by
 subst h;apply dM
 ·simp
 ·intro i h1 h2;simp[h2]
def all_cp(z:Str):(cJ 0 z.cps.size).map (λi=>(⟨#[z.cps.getD i 0]⟩:Str))=z.cps.toList.map λc=>(⟨#[c]⟩:Str):=by
 apply dM
 ·simp
 ·intro i h1 h2;simp at h2;simp[h2]
def set_of{pins:List (ai×Obj)}{σ:St}{H:Hp}{s:ah}{x:V}{u:af}{zs:List Str}{Q:af->ah->Prop}(hc:X.calm=true)(I:Inv X pins σ H s)(r:RelV x u)(ht:TxtIn X.K H x zs)(hz:zs.length<4000)
  (k:∀s2,LeftS X.w s (ddp zs) s2->Q (.ref s.heap.objs.size) s2):av (model X.prog X.w) X.A (call (.type "set") [u]) Q X.xe s:=by
 have hh:=I.ok.hd hc;have sb:scanBound=4096:=rfl;rcases ht with ⟨a,xs,rfl,hq,rfl⟩|⟨z,rfl,rfl⟩
 ·cases r;obtain⟨its,rv,pl,_⟩:=I.list hq;have hl:its.toArray.size=zs.length:=by have:=rv.length;simp at this;simp;lia
  have hi:∀(i:Nat) (v:af),its.toArray[i]? =aa v->∃t,v=cE (zs.getD i "") t:=λi v hv=>by
   have hv':its[i]? =aa v:=by simpa using hv
   obtain⟨hi,e⟩:=a7.mp hv';have hz':i<zs.length:=by simp at hl;lia
   have:=L3.Vals.getE rv i (by simpa using hz') hi;rw[e]at this;simp only[iy]at this;obtain⟨t,e'⟩:=this;exact⟨t,by rw[e'];simp[hz']⟩
  refine zjO (P:=LeftS X.w s (ddp zs)) hh (λB hB=>?_) k;have:=zkH (prog:=X.prog) (w:=X.w) (E:=X.xe) hB pl.isList hi (by lia);rw[all_at zs _ hl]at this;exact this
 ·obtain⟨tk,rfl⟩:=r;refine zjO (P:=LeftS X.w s (ddp _)) hh (λB hB=>?_) k;have:=init_strS (prog:=X.prog) (w:=X.w) (E:=X.xe) (s:=s) (x:=z) (t:=tk) hB (by simp at hz;lia);rw[all_cp]at this;exact this
def one(R:V->Hp->Prop):List V->Hp->Prop:=λxs H=>match xs with
 |[x]=>R x H
 | _=>False
def zke{R:V->Hp->Prop}{xs:List V}{H:Hp}(h:one R xs H):∃x,xs=[x]/\R x H:=by
 match xs,h with
 |[x],h=>exact⟨x,rfl,h⟩
def zel:∀{out:List af} {ss:List Str},StrsAre out ss->Vals (ss.map V.str) out
 | _,_,.nil=>.nil
 | _,_,.cons _ _ h=>.cons ⟨_,rfl⟩ (zel h)
def zky(hc:X.calm=true)(he:PE X e t)(hg:Gl X "sorted")(hm:X.mg "sorted" =ab)(hv:aM "sorted" =aa (.builtin "sorted"))(hg1:Gl X "set")(hm1:X.mg "set" =ab)(hv1:aM "set" =aa (.type "set"))
  (h1:aY [e] X.env=(false,eval e X.env)::aY [] X.env) (h2:aY [lT (.Name "set" p1) [e] [] pos1] X.env=(false,eval (.Call (.Name "set" p1) [e] [] pos1) X.env)::aY [] X.env) :
  PE X (.Call (.Name "sorted" p) [.Call (.Name "set" p1) [e] [] pos1] [] pos) (tSS X.K t):=by
 intro pins s σ H Q I h;refine cF (zd7 I hg hm hv ?_ (by decide) (by decide));refine gh ?_ h2 rfl;rw[h2];refine gH (rest:=backTo pos (aY [] X.env)) ?_;refine cF (zd7 I hg1 hm1 hv1 ?_ (by decide) (by decide));refine bU ?_ h1 rfl;refine thn (zjk he pa_nil h1 pos1 pins s σ H (one λx H1=>∃zs,TxtIn X.K H1 x zs/\zs.length<4000/\(ddp zs).length<64/\∀r,H1 r=ab->Q (.ref r) (upd H1 r (.lst ((srt (ddp zs)).map V.str)))) I ?_) ?_
 ·exact(show t σ H _ from h)
 ·rintro us s1 ⟨xs,H1,I1,r1,qx⟩;obtain⟨x,rfl,zs,ht,hz,hd,kk⟩:=zke qx;cases r1 with
  |cons r1 rn=>
   cases rn;refine set_of hc I1 r1 ht hz λs2 lf=>?_;refine hG ?_;have I2:Inv X pins σ H1 s2:=by
    obtain⟨h',tk,rfl⟩:=lf.sh;exact I1.kept (t':=tk) λb o e=>lf.old b o (aC e) e
   refine srtdS (I.ok.hd hc) lf.is hd λout ss ep s3 h' so sp srt' old eg eo gr old2=>?_;have I3:Inv X pins σ H1 s3:=I2.drawn old eg eo;have hf:H1 s3.heap.objs.size=ab:=I3.hok.fresh (am _);have e:srt (ddp zs)=ss:=srt_eq (pair srt') sp;have kq:=kk s3.heap.objs.size hf;rw[e]at kq;refine⟨.ref s3.heap.objs.size,_,I3.laid (t':=s3.toks) (o:=.lst (ss.map V.str)) old2 (am _) ?_,rfl,kq⟩;have sl:ss.length<64:=by rw[sp.length_eq];exact hd
   exact⟨by rw[aw,cq];lia,out,ep,zel so,gr⟩
end
end L2
namespace L3
open PySem PySem.Spec PyProof.Rows L2 TS
noncomputable def ssO(zs:List Str):Option Ent:=gif (zs.length<4000/\(ddp zs).length<64) (aa (.own ((srt (ddp zs)).map D.str)))
noncomputable def zfY:Ent->Option Ent:=λx=>(asL x).bind λds=>(zgi ds).bind ssO
noncomputable def zfX:Ent->Option Ent:=λx=>(sOf x).bind λz=>ssO (z.cps.toList.map λc=>(⟨#[c]⟩:Str))
section
variable {X:Cx}{e:Expr}{fe:FE}{p p1 pos pos1:Pos}
def vSS{g:Ent->Option Ent}(hx:∀{H0 F H:Hp} {v:V} {en:Ent} {res:Ent},Same F H->RepR X.K H0 F H v en->g en=aa res->∃zs,TxtIn X.K H v zs/\ssO zs=aa res)(he:VE X e fe)(hg:Gl X "sorted")(hm:X.mg "sorted" =ab)(hv:aM "sorted" =aa (.builtin "sorted"))
  (hg1:Gl X "set") (hm1:X.mg "set" =ab) (hv1:aM "set" =aa (.type "set")) (hc:X.calm=true) (h1:zaj e=true):VE X (.Call (.Name "sorted" p) [.Call (.Name "set" p1) [e] [] pos1] [] pos) (ex1 g fe):=by
 obtain⟨t,w,m⟩:=he.h;refine⟨_,⟨zky hc w.h hg hm hv hg1 hm1 hv1 (zak h1) (zak rfl)⟩,λB F H σ δ res Q s q k=>?_⟩;obtain⟨en,q1,q⟩:=bind_some q;refine m B F H σ δ en _ s q1 λv F1 H1 x1 r1=>?_;obtain⟨zs,ht,q2⟩:=hx x1.fh r1 q;obtain⟨hz,q3⟩:=zaO q2;cases q3;refine⟨zs,ht,hz.1,hz.2,λr hr=>?_⟩;exact k _ _ _ (x1.trans (Ex.lay x1.fh hr)) ⟨r,_,rfl,x1.hh.free hr,zam,zgb _,x1.fh.free hr⟩
def vSortSetL(he:VE X e fe)(hg:Gl X "sorted")(hm:X.mg "sorted" =ab)(hv:aM "sorted" =aa (.builtin "sorted"))(hg1:Gl X "set")(hm1:X.mg "set" =ab)(hv1:aM "set" =aa (.type "set"))(hc:X.calm=true:=by rfl)(h1:zaj e=true:=by rfl) :
  VE X (.Call (.Name "sorted" p) [.Call (.Name "set" p1) [e] [] pos1] [] pos) (ex1 zfY fe):=
 vSS (fun {H0 F H v en res} fh r q=>by
  obtain⟨ds,q1,q⟩:=bind_some q;obtain⟨zs,q2,q⟩:=bind_some q;obtain⟨l,vs,e1,h1,h2⟩:=r.toL fh q1;exact⟨zs,.inl ⟨l,vs,e1,h1,zjx h2 q2⟩,q⟩) he hg hm hv hg1 hm1 hv1 hc h1
def vSortSetS(he:VE X e fe)(hg:Gl X "sorted")(hm:X.mg "sorted" =ab)(hv:aM "sorted" =aa (.builtin "sorted"))(hg1:Gl X "set")(hm1:X.mg "set" =ab)(hv1:aM "set" =aa (.type "set"))(hc:X.calm=true:=by rfl)(h1:zaj e=true:=by rfl) :
  VE X (.Call (.Name "sorted" p) [.Call (.Name "set" p1) [e] [] pos1] [] pos) (ex1 zfX fe):=
 vSS (fun {H0 F H v en res} fh r q=>by
  obtain⟨z,q1,q⟩:=bind_some q;cases zaB q1;cases (show Rep F v (.str z)from r);exact⟨_,.inr ⟨z,rfl,rfl⟩,q⟩) he hg hm hv hg1 hm1 hv1 hc h1
end
end L3

namespace L2
open PySem PySem.Spec PyProof.Rows
def SqQ(K:ag):Bool->Hp->ai->List V->Prop
 |true=>SqT K
 |false=>SqL K
def SIt:Bool->aT->ai->ai->Nat->Prop
 |true,h,it,a,i=>h.IsTupleIter it a i
 |false,h,it,a,i=>h.IsListIter it a i
def QAt:Bool->aT->ai->Array af->Prop
 |true,h,a,xs=>h.IsTuple a xs
 |false,h,a,xs=>h.IsList a xs
def itN:Bool->String
 |true=> "tuple_iterator"
 |false=> "list_iterator"
def SIt.out{k:Bool}{h:aT}{it a:ai}{i:Nat}(st:SIt k h it a i):∃o,h.get? it=aa o/\o.cls=.type (itN k)/\o.data=.fields #[.ref a,.int i 0]:=by cases k <;> exact st
def SIt.mk{k:Bool}{h:aT}{it a:ai}{i:Nat}(st:∃o,h.get? it=aa o/\o.cls=.type (itN k)/\o.data=.fields #[.ref a,.int i 0]):SIt k h it a i:=by cases k <;> exact st
def SIt.at{k:Bool}{h h':aT}{it a:ai}{i:Nat}(st:SIt k h it a i)(e:∀o,h.get? it=aa o->h'.get? it=aa o):SIt k h' it a i:=by
 obtain⟨o,h1,h2⟩:=st.out;exact .mk ⟨o,e o h1,h2⟩
def Inv.turn1{X:Cx}{pins:List (ai×Obj)}{σ:St}{H:Hp}{s:ah}{h':aT}{b:ai}(I:Inv X pins σ H s)(f:zfx X pins H b)(k:∀c o,c≠b->s.heap.get? c=aa o->h'.get? c=aa o):Inv X pins σ H { s with heap:=h'}:=
 I.turned (t':=s.toks) k f.1 f.2.1 f.2.2.2.1 f.2.2.2.2.1 f.2.2.2.2.2
def Inv.seqQ{X:Cx}{pins:List (ai×Obj)}{σ:St}{H:Hp}{s:ah}{k:Bool}{a:ai}{xs:List V}(I:Inv X pins σ H s)(h:SqQ X.K k H a xs):∃its:List af,Vals xs its/\QAt k s.heap a its.toArray:=by
 cases k with
 |true=>obtain⟨its,r,p,_⟩:=I.tuple h;exact⟨its,r,p⟩
 |false=>obtain⟨its,r,p,_⟩:=I.list h;exact⟨its,r,p.isList⟩
def Inv.seqQ_inj{X:Cx}{pins:List (ai×Obj)}{σ:St}{H:Hp}{s:ah}{k:Bool}{a:ai}{xs ys:List V}(I:Inv X pins σ H s)(h:SqQ X.K k H a xs)(h':SqQ X.K k H a ys):xs=ys:=by
 cases k with
 |true=>exact I.tuple_inj h h'
 |false=>exact I.list_inj h h'
section
variable {prog:aK}{w:aO}{A:aQ}{E:af->ah->Prop}{s:ah}
def pyIterQ{k:Bool}{a:ai}{xs:Array af}{Q:af->ah->Prop}(h:QAt k s.heap a xs)(q:Q (.ref s.heap.objs.size) { s with heap:=s.heap.push { cls:=.type (itN k),data:=.fields #[.ref a,.int 0 0]}}):av (model prog w) A (pyIter (.ref a)) Q E s:=by
 cases k with
 |true=>exact wpAny_pyIter_tuple h q
 |false=>exact wpAny_pyIter_list h q
def zgP{it t:ai}{i:Nat}{its:Array af}{u:af}{Q:af->ah->Prop}(st:s.heap.IsTupleIter it t i)(ht:s.heap.IsTuple t its)(hu:its[i]? =aa u)
  (k:∀h',h'.IsTupleIter it t (i+1)->dJ it s.heap h'->Q u { s with heap:=h'}):av (model prog w) A (bE (.ref it)) Q E s:=by
 obtain⟨p,e1,c1,d1⟩:=id st;obtain⟨q,e2,_,m,d2⟩:=ht;unfold bE;refine ae (wpAny_callSpecial?_slot (name:=bT "__next__") st.typeIs F.slot_tuple_iterator_next (wpAny_call_entry F.slot_tuple_iterator_next st.typeIs F.entry_tuple_iterator_next ?_ (F.args_tuple_iterator_next_1 _)));show av _ _ (field (.ref it) 0 >>= _) _ _ _;refine ae (wpAny_field e1 d1 (x:=.ref t) rfl ?_);show av _ _ (if (bj t==de)=true then _ else _) _ _ _;have hnn:¬ ((bj t==de)=true):=aP;rw[if_neg hnn];show av _ _ (field (.ref it) 1 >>= _) _ _ _;refine ae (wpAny_field e1 d1 (x:=.int i 0) rfl ?_);show av _ _ (seqItems? (.ref t) >>= _) _ _ _;refine ae (wpAny_seqItems e2 d2 ?_);simp only[cV,hu];refine ae (wpAny_setField e1 d1 (by simp) (ak ⟨u,rfl,ak (k _ ⟨_,da _ e1 (Obj.isFreed_of_fields (jA d1 _)),(Obj.cls_mapFields ..).trans c1,?_⟩ (eM ..))⟩));rw[jA d1];simp[rawInt]
def zf7{it t:ai}{i:Nat}{its:Array af}{Q:af->ah->Prop}(hh:A.handled=ab)(st:s.heap.IsTupleIter it t i)(ht:s.heap.IsTuple t its)(hu:its[i]? =ab)
  (k:∀h' e,jN it s.heap h'->(∃o,h'.get? e=aa o/\o.cls=.type "StopIteration")->E (.ref e) { s with heap:=h'}):av (model prog w) A (bE (.ref it)) Q E s:=by
 obtain⟨p,e1,c1,d1⟩:=id st;obtain⟨q,e2,_,m,d2⟩:=ht;unfold bE;refine ae (wpAny_callSpecial?_slot (name:=bT "__next__") st.typeIs F.slot_tuple_iterator_next (wpAny_call_entry F.slot_tuple_iterator_next st.typeIs F.entry_tuple_iterator_next ?_ (F.args_tuple_iterator_next_1 _)));show av _ _ (field (.ref it) 0 >>= _) _ _ _;refine ae (wpAny_field e1 d1 (x:=.ref t) rfl ?_);show av _ _ (if (bj t==de)=true then _ else _) _ _ _;have hnn:¬ ((bj t==de)=true):=aP;rw[if_neg hnn];show av _ _ (field (.ref it) 1 >>= _) _ _ _;refine ae (wpAny_field e1 d1 (x:=.int i 0) rfl ?_);show av _ _ (seqItems? (.ref t) >>= _) _ _ _;refine ae (wpAny_seqItems e2 d2 ?_);simp only[cV,hu];refine ae (wpAny_rule (ae (wpAny_setField e1 d1 (by simp) ?_)));show av _ _ (newExc (.type "StopIteration") [] >>= _) _ _ _;refine ae (by
  simp only[newExc,newTuple];refine ae (wpAny_newObj_type (ae (m:=firstArgMember _ _) (wpAny_of_eq (a:=de) (by first|rfl|(simp only[firstArgMember];rfl)) (wpAny_newObj_type ?_ (by size_fits)))) (by size_fits));simp only[raiseNew];refine ae (wpAny_handled (by
   rw[show A.in1.handled=ab from hh];exact ae (ak (wpAny_throw (k _ _ (((eM ..).extBut.push _).push _) ⟨_,ay _ rfl,rfl⟩))))))
end
section
variable {X:Cx}{A:aQ}{pins:List (ai×Obj)}{σ:St}{H:Hp}{s:ah}{E:af->ah->Prop}{k k1 k2:Bool}{it a b z TI TO i1 i2:ai}{i:Nat}{xs ys:List V}{x y:V}
def zfq{Q:af->ah->Prop}(I:Inv X pins σ H s)(f:zfx X pins H it)(st:SIt k s.heap it a i)(hq:SqQ X.K k H a xs)(hx:xs[i]? =aa x)
  (go:∀u h',RelV x u->SIt k h' it a (i+1)->dJ it s.heap h'->Inv X pins σ H { s with heap:=h'}->Q u { s with heap:=h'}):av (model X.prog X.w) A (bE (.ref it)) Q E s:=by
 obtain⟨its,rv,p⟩:=I.seqQ hq;obtain⟨u,hu,ru⟩:=rv.get hx;cases k with
 |true=>exact zgP st p (u:=u) (by simpa using hu) λh' st' sb=>go u h' ru st' sb (I.turn1 f λc o hc e=>(sb.2 c hc).trans e)
 |false=>exact wpAny_nextOf_list_item st p (x:=u) (by simpa using hu) λh' st' sb=>go u h' ru st' sb (I.turn1 f λc o hc e=>(sb.2 c hc).trans e)
def zix{Q:af->ah->Prop}(hh:A.handled=ab)(I:Inv X pins σ H s)(f:zfx X pins H it)(st:SIt k s.heap it a i)(hq:SqQ X.K k H a xs)(hx:xs.length<=i)
  (go:∀h' e,jN it s.heap h'->(∃o,h'.get? e=aa o/\o.cls=.type "StopIteration")->Inv X pins σ H { s with heap:=h'}->E (.ref e) { s with heap:=h'}):av (model X.prog X.w) A (bE (.ref it)) Q E s:=by
 obtain⟨its,rv,p⟩:=I.seqQ hq;have hl:=rv.length;cases k with
 |true=>exact zf7 hh st p (by simp;lia) λh' e sb he=>go h' e sb he (I.turn1 f λc o hc e=>sb c o hc e)
 |false=>exact wpAny_nextOf_list_end hh st p (by simp;lia) λh' e sb he=>go h' e sb he (I.turn1 f λc o hc e=>sb c o hc e)
structure ZSt(k1 k2:Bool)(z TI TO i1 i2 a b:ai)(i:Nat)(f0:af)(h:aT):Prop where
 hz:IsZip h z TI TO f0
 hi:IsPair h TI (.ref i1) (.ref i2)
 ho:∃x y,IsPair h TO x y
 s1:SIt k1 h i1 a i
 s2:SIt k2 h i2 b i
structure ZNe(z TI TO i1 i2:ai):Prop where
 n1:TI≠z
 n2:TO≠z
 n3:i1≠z
 n4:i2≠z
 n5:TI≠TO
 n6:TI≠i1
 n7:TI≠i2
 n8:TO≠i1
 n9:TO≠i2
 n10:i1≠i2
def ZSt.keep{f0:af}{h h':aT}(st:ZSt k1 k2 z TI TO i1 i2 a b i f0 h)(kk:∀c∈[z,TI,TO,i1,i2],∀o,h.get? c=aa o->h'.get? c=aa o):ZSt k1 k2 z TI TO i1 i2 a b i f0 h':=
 ⟨kk z (by simp) _ st.hz,kk TI (by simp) _ st.hi,let⟨x,y,e⟩:=st.ho;⟨x,y,kk TO (by simp) _ e⟩,st.s1.at λo e=>kk i1 (by simp) o e,st.s2.at λo e=>kk i2 (by simp) o e⟩
def zipQ_item{Q:af->ah->Prop}(N:ZNe z TI TO i1 i2)(I:Inv X pins σ H s)(hf:∀b∈[z,TI,TO,i1,i2],zfx X pins H b)(st:ZSt k1 k2 z TI TO i1 i2 a b i .none s.heap)(q1:SqQ X.K k1 H a xs)(q2:SqQ X.K k2 H b ys)
  (hx:xs[i]? =aa x) (hy:ys[i]? =aa y)
  (go:∀h',ZSt k1 k2 z TI TO i1 i2 a b (i+1) (rawInt s.heap.objs.size) h'->Inv X pins σ (upd H s.heap.objs.size (.tup [x,y])) { s with heap:=h'}->Q (.ref s.heap.objs.size) { s with heap:=h'}) :
  av (model X.prog X.w) A (Builtin.«zip.__next__» ⟨[.ref z],[]⟩) (λfin s'=>∃v,fin=.done (.ret v)/\Q v s') E s:=by
 obtain⟨hz,hTI,⟨oa,ob,hTO⟩,h1,h2⟩:=st;have fz:=hf z (by simp);have fO:=hf TO (by simp);have f1:=hf i1 (by simp);have f2:=hf i2 (by simp);show av _ _ (field (.ref z) 2 >>= _) _ _ _;refine ae (wpAny_field hz rfl (x:=.bool false) rfl ?_);show av _ _ (field (.ref z) 3 >>= _) _ _ _;refine ae (wpAny_field hz rfl (x:=.ref TI) rfl (ae (wpAny_seqItems hTI rfl ?_)));show av _ _ (cS (.ref z) >>= _) _ _ _;refine ae ?_;unfold cS;refine ae (wpAny_field hz rfl (x:=.none) rfl (ak ?_));simp only[if_true];refine ae (wpAny_rule (ae (wpAny_field hz rfl (x:=.ref TO) rfl (ae (wpAny_setField_rec hz (by simp) λg1 z1 b1=>?_)))));replace z1:IsZip g1 z TI TO .ellipsis:=z1;have I1:Inv X pins σ H { s with heap:=g1}:=I.turn1 fz b1.extBut;refine ae ?_;simp only[fV,j4,dS,gF];refine ae (ae (wpAny_onRaise ?_));show av _ _ (bE (.ref i1) >>= _) _ _ _;refine ae (zfq I1 f1 (h1.at λo e=>b1.extBut _ o N.n3 e) q1 hx λu1 g2 r1 t1 b2 I2=>ak ?_);have O2:IsPair g2 TO oa ob:=b2.extBut _ _ N.n8 (b1.extBut _ _ N.n2 hTO);refine ae (wpAny_seqItems O2 rfl (ae (wpAny_updateSeq_pair O2 λg3 O3 b3=>?_)));replace O3:IsPair g3 TO u1 ob:=O3;have I3:Inv X pins σ H { s with heap:=g3}:=I2.turn1 fO b3.extBut;refine ae (wpAny_letGo (ak (ae (ae (wpAny_onRaise ?_)))));show av _ _ (bE (.ref i2) >>= _) _ _ _;have h2':SIt k2 g3 i2 b i:=h2.at λo e=>b3.extBut _ o N.n9.symm (b2.extBut _ o N.n10.symm (b1.extBut _ o N.n4 e));refine ae (zfq I3 f2 h2' q2 hy λu2 g4 r2 t2 b4 I4=>ak ?_);have O4:IsPair g4 TO u1 ob:=b4.extBut _ _ N.n9 O3;refine ae (wpAny_seqItems O4 rfl (ae (wpAny_updateSeq_pair O4 λg5 O5 b5=>?_)));replace O5:IsPair g5 TO u1 u2:=O5;have I5:Inv X pins σ H { s with heap:=g5}:=I4.turn1 fO b5.extBut;refine ae (wpAny_letGo (ak (ak (ae (wpAny_seqItems O5 rfl (ae (wpAny_newTuple ?_)))))));have hsz:g5.objs.size=s.heap.objs.size:=by rw[b5.1,b4.1,b3.1,b2.1,b1.1]
 have z5:IsZip g5 z TI TO .ellipsis:=b5.extBut _ _ N.n2.symm (b4.extBut _ _ N.n4.symm (b3.extBut _ _ N.n2.symm (b2.extBut _ _ N.n3.symm z1)));have TI5:IsPair g5 TI (.ref i1) (.ref i2):=b5.extBut _ _ N.n5 (b4.extBut _ _ N.n7 (b3.extBut _ _ N.n5 (b2.extBut _ _ N.n6 (b1.extBut _ _ N.n1 hTI))));have t15:SIt k1 g5 i1 a (i+1):=t1.at λo e=>b5.extBut _ o N.n8.symm (b4.extBut _ o N.n10 (b3.extBut _ o N.n8.symm e));have t25:SIt k2 g5 i2 b (i+1):=t2.at λo e=>b5.extBut _ o N.n9.symm e;have hzlt:z<g5.objs.size:=aC z5;show av _ _ (eZ (.ref z) (.ref g5.objs.size) >>= _) _ _ _;refine ae ?_;unfold eZ;have I6:Inv X pins σ (upd H g5.objs.size (.tup [x,y])) { s with heap:=g5.push { cls:=.type "tuple",data:=.seq #[u1,u2]}}:=
  I5.laid (t':=s.toks) (o:=.tup [x,y]) (λc o e=>aj _ e) (am _) ⟨by show 2<=aX;rw[cq];lia,[u1,u2],.cons r1 (.cons r2 .nil),⟨_,ay _ rfl,rfl,0,by simp⟩⟩
 have fz6:zfx X pins (upd H g5.objs.size (.tup [x,y])) z:=⟨by rw[zar (aL hzlt)];exact fz.1,fz.2⟩
 have z6:IsZip (g5.push { cls:=.type "tuple",data:=.seq #[u1,u2]}) z TI TO .ellipsis:=aj _ z5;refine ae (wpAny_setField_rec z6 (by simp) λg7 z7 b7=>?_);replace z7:IsZip g7 z TI TO (rawInt g5.objs.size):=z7;have I7:Inv X pins σ (upd H g5.objs.size (.tup [x,y])) { s with heap:=g7}:=I6.turn1 fz6 b7.extBut;refine wpAny_setField_rec z7 (by simp) λg8 z8 b8=>?_;replace z8:IsZip g8 z TI TO (rawInt g5.objs.size):=z8;have I8:Inv X pins σ (upd H g5.objs.size (.tup [x,y])) { s with heap:=g8}:=I7.turn1 fz6 b8.extBut;have up:∀c o,c≠z->g5.get? c=aa o->g8.get? c=aa o:=λc o c1 e=>b8.extBut _ _ c1 (b7.extBut _ _ c1 (aj _ e));refine ak ⟨_,rfl,?_⟩;show Q (.ref g5.objs.size) _;have S8:ZSt k1 k2 z TI TO i1 i2 a b (i+1) (rawInt g5.objs.size) g8:=⟨z8,up _ _ N.n1 TI5,⟨_,_,up _ _ N.n2 O5⟩,t15.at λo e=>up _ o N.n3 e,t25.at λo e=>up _ o N.n4 e⟩
 rw[hsz]at S8 I8 ⊢;exact go g8 S8 I8
def zipQ_end{Q:Fin->ah->Prop}(hh:A.handled=ab)(N:ZNe z TI TO i1 i2)(I:Inv X pins σ H s)(hf:∀b∈[z,TI,TO,i1,i2],zfx X pins H b)(st:ZSt k1 k2 z TI TO i1 i2 a b i .none s.heap)(q1:SqQ X.K k1 H a xs)(q2:SqQ X.K k2 H b ys)
  (hx:xs.length<=i\/ys.length<=i)
  (go:∀h' e,(∃o,h'.get? e=aa o/\o.cls=.type "StopIteration")->Inv X pins σ H { s with heap:=h'}->E (.ref e) { s with heap:=h'}) :
  av (model X.prog X.w) A (Builtin.«zip.__next__» ⟨[.ref z],[]⟩) Q E s:=by
 obtain⟨hz,hTI,⟨oa,ob,hTO⟩,h1,h2⟩:=st;have fz:=hf z (by simp);have fO:=hf TO (by simp);have f1:=hf i1 (by simp);have f2:=hf i2 (by simp);show av _ _ (field (.ref z) 2 >>= _) _ _ _;refine ae (wpAny_field hz rfl (x:=.bool false) rfl ?_);show av _ _ (field (.ref z) 3 >>= _) _ _ _;refine ae (wpAny_field hz rfl (x:=.ref TI) rfl (ae (wpAny_seqItems hTI rfl ?_)));show av _ _ (cS (.ref z) >>= _) _ _ _;refine ae ?_;unfold cS;refine ae (wpAny_field hz rfl (x:=.none) rfl (ak ?_));simp only[if_true];refine ae (wpAny_rule (ae (wpAny_field hz rfl (x:=.ref TO) rfl (ae (wpAny_setField_rec hz (by simp) λg1 z1 b1=>?_)))));replace z1:IsZip g1 z TI TO .ellipsis:=z1;have I1:Inv X pins σ H { s with heap:=g1}:=I.turn1 fz b1.extBut;refine ae ?_;simp only[fV,j4,dS,gF];refine ae (ae (wpAny_onRaise ?_));show av _ _ (bE (.ref i1) >>= _) _ _ _;have h1':SIt k1 g1 i1 a i:=h1.at λo e=>b1.extBut _ o N.n3 e;by_cases hl:xs.length<=i
 ·refine ae (zix hh I1 f1 h1' q1 hl λg2 e b2 he I2=>?_);obtain⟨oe,e1,e2⟩:=he;have z2:IsZip g2 z TI TO .ellipsis:=b2 _ _ N.n3.symm z1;have hez:e≠z:=λq=>by subst q;rw[z2]at e1;cases e1;simp at e2
  exact wpAny_setField_rec z2 (by simp) λg3 _ b3=>go g3 e ⟨oe,b3.extBut _ _ hez e1,e2⟩ (I2.turn1 fz b3.extBut)
 ·have hl2:ys.length<=i:=hx.resolve_left hl;refine ae (zfq I1 f1 h1' q1 (x:=xs[i]'(by lia)) (aN (by lia)) λu1 g2 r1 t1 b2 I2=>ak ?_);have O2:IsPair g2 TO oa ob:=b2.extBut _ _ N.n8 (b1.extBut _ _ N.n2 hTO);refine ae (wpAny_seqItems O2 rfl (ae (wpAny_updateSeq_pair O2 λg3 O3 b3=>?_)));have I3:Inv X pins σ H { s with heap:=g3}:=I2.turn1 fO b3.extBut;refine ae (wpAny_letGo (ak (ae (ae (wpAny_onRaise ?_)))));show av _ _ (bE (.ref i2) >>= _) _ _ _;have h2':SIt k2 g3 i2 b i:=h2.at λo e=>b3.extBut _ o N.n9.symm (b2.extBut _ o N.n10.symm (b1.extBut _ o N.n4 e));refine ae (zix hh I3 f2 h2' q2 hl2 λg4 e b4 he I4=>?_);obtain⟨oe,e1,e2⟩:=he;have z4:IsZip g4 z TI TO .ellipsis:=b4 _ _ N.n4.symm (b3.extBut _ _ N.n2.symm (b2.extBut _ _ N.n3.symm z1));have hez:e≠z:=λq=>by subst q;rw[z4]at e1;cases e1;simp at e2
  exact wpAny_setField_rec z4 (by simp) λg5 _ b5=>go g5 e ⟨oe,b5.extBut _ _ hez e1,e2⟩ (I4.turn1 fz b5.extBut)
end
def Itz(K:ag)(k1 k2:Bool)(a b:ai):It:=
  ⟨λi H=>∃xs ys x y,SqQ K k1 H a xs/\SqQ K k2 H b ys/\xs[i]? =aa x/\ys[i]? =aa y,
   λi H v H'=>∃p,H p=ab/\v=.ref p/\∀xs ys,SqQ K k1 H a xs->SqQ K k2 H b ys->∃x y,xs[i]? =aa x/\ys[i]? =aa y/\H'=upd H p (.tup [x,y]),
   λi H=>∃xs ys,SqQ K k1 H a xs/\SqQ K k2 H b ys/\(xs.length<=i\/ys.length<=i)⟩
def turn_zip{P:aK}{w:aO}{K:ag}{es:List Expr}{n:Nat}{pos:Pos}(k1 k2:Bool)(z TI TO i1 i2 a b:ai)(N:ZNe z TI TO i1 i2) :
  Turn P w K (.Tuple es n pos) (Itz K k1 k2 a b) [z,TI,TO,i1,i2] z (λi h=>ZSt k1 k2 z TI TO i1 i2 a b i .none h) where
 mem:=by simp
 obj:=λi h st c hc=>by
  obtain⟨hz,hTI,⟨oa,ob,hTO⟩,h1,h2⟩:=st;obtain⟨o1,e1,_,d1⟩:=h1.out;obtain⟨o2,e2,_,d2⟩:=h2.out;simp only[aF,bI,or_false]at hc;rcases hc with rfl|rfl|rfl|rfl|rfl
  ·exact⟨_,hz,λv q=>by cases (show jM _=iE v from q)⟩
  ·exact⟨_,hTI,λv q=>by cases (show jQ _ _=iE v from q)⟩
  ·exact⟨_,hTO,λv q=>by cases (show jQ _ _=iE v from q)⟩
  ·exact⟨o1,e1,λv q=>by rw[d1]at q;cases q⟩
  ·exact⟨o2,e2,λv q=>by rw[d2]at q;cases q⟩
 keep:=λi h h' st k=>st.keep k
 item:=by
  intro X hP hw hK hc i pins s σ H E I hf st hg;subst hP hw hK;obtain⟨xs,ys,x,y,q1,q2,hx,hy⟩:=hg;have hT:s.TypeIs (.ref z) "zip" :=⟨_,st.hz,rfl⟩
  unfold pyNext;refine ae (wpAny_attempt (wpAny_callSpecial?_slot (name:=bT "__next__") hT F.slot_zip_next (wpAny_call_entry F.slot_zip_next hT F.entry_zip_next (zipQ_item N I hf st q1 q2 hx hy λg S2 I2=>ak ⟨_,rfl,?_⟩) (F.args_zip_next_1 _))));have hlt:∀c∈[z,TI,TO,i1,i2],c≠s.heap.objs.size:=λc hc=>by
   obtain⟨hz,hTI,⟨oa,ob,hTO⟩,h1,h2⟩:=st;obtain⟨o1,e1,_⟩:=h1.out;obtain⟨o2,e2,_⟩:=h2.out;simp only[aF,bI,or_false]at hc;rcases hc with rfl|rfl|rfl|rfl|rfl
   ·exact aL (aC hz)
   ·exact aL (aC hTI)
   ·exact aL (aC hTO)
   ·exact aL (aC e1)
   ·exact aL (aC e2)
  have hn:∀c∈[z,TI,TO,i1,i2],upd H s.heap.objs.size (.tup [x,y]) c=ab:=λc hc=>by rw[zar (hlt c hc)];exact(hf c hc).1
  have fz:zfx X pins (upd H s.heap.objs.size (.tup [x,y])) z:=⟨hn z (by simp),(hf z (by simp)).2⟩
  refine wpAny_letOwnedTupleGo_zip S2.hz λg' z' b'=>⟨.ref s.heap.objs.size,_,I2.turn1 fz b'.extBut,rfl,⟨_,I.hok.fresh (am _),rfl,λus vs u1 u2=>?_⟩,?_,hn⟩
  ·rw[I.seqQ_inj u1 q1,I.seqQ_inj u2 q2];exact⟨x,y,hx,hy,rfl⟩
  ·obtain⟨_,hTI,⟨oa,ob,hTO⟩,h1,h2⟩:=S2;exact⟨z',b'.extBut _ _ N.n1 hTI,⟨oa,ob,b'.extBut _ _ N.n2 hTO⟩,h1.at λo e=>b'.extBut _ o N.n3 e,h2.at λo e=>b'.extBut _ o N.n4 e⟩
 done:=by
  intro X hP hw hK hc i pins s σ H E I hf st hg;subst hP hw hK;obtain⟨xs,ys,q1,q2,hx⟩:=hg;have hT:s.TypeIs (.ref z) "zip" :=⟨_,st.hz,rfl⟩
  unfold pyNext;refine ae (wpAny_attempt (wpAny_callSpecial?_slot (name:=bT "__next__") hT F.slot_zip_next (wpAny_call_entry F.slot_zip_next hT F.entry_zip_next (zipQ_end (I.ok.hd hc) N I hf st q1 q2 hx λg e he I2=>?_) (F.args_zip_next_1 _))));obtain⟨o,e1,e2⟩:=he;exact ae (wpAny_isInstance (T:= "StopIteration") (b:=true) ⟨o,e1,e2⟩ isSubtype_stop (ak ⟨rfl,I2⟩))
 self:=λA i s Q E st h=>wpAny_pyIter_zip st.hz h
abbrev zA(h:aT)(k:Bool)(a:ai):aT:=h.push { cls:=.type (itN k),data:=.fields #[.ref a,.int 0 0]}
abbrev zB(h:aT)(k1 k2:Bool)(a b:ai):aT:=zA (zA h k1 a) k2 b
abbrev zC(h:aT)(k1 k2:Bool)(a b:ai):aT:=(zB h k1 k2 a b).push { cls:=.type "tuple",data:=.seq #[.ref h.objs.size,.ref (zA h k1 a).objs.size]}
abbrev zD(h:aT)(k1 k2:Bool)(a b:ai):aT:=(zC h k1 k2 a b).push { cls:=.type "tuple",data:=.seq #[.none,.none]}
abbrev zE(h:aT)(k1 k2:Bool)(a b:ai):aT:=(zD h k1 k2 a b).push { cls:=.type "zip",data:=.fields #[.none,.bool false,.bool false,.ref (zB h k1 k2 a b).objs.size,.ref (zC h k1 k2 a b).objs.size]}
def QAt.push{k:Bool}{h:aT}{a:ai}{xs:Array af}(p:QAt k h a xs)(o:Obj):QAt k (h.push o) a xs:=by
 cases k with
 |true=>exact lZ p o
 |false=>exact l9 p o
def zkv(k1 k2:Bool)(a b:ai)(xs ys:Array af) :
  Meets (Builtin.«zip.__new__» ⟨[.type "zip",.ref a,.ref b],[]⟩) (λ_ R s=>QAt k1 s.heap a xs/\QAt k2 s.heap b ys/\R (.ok (.ret (.ref (zD s.heap k1 k2 a b).objs.size))) { s with heap:=zE s.heap k1 k2 a b}):=
 .of_wp λprog w A R s h=>by
  obtain⟨hp,g,d,tk,os⟩:=s;obtain⟨p1,p2,h⟩:=h;have hsub:=sub_zip;have P1:QAt k1 (iW ⟨hp,g,d,tk,os⟩) a xs:=p1;have P2:QAt k2 (iW ⟨zA hp k1 a,g,d,tk,os⟩) b ys:=p2.push _
  wp_walk using pyIterQ P1,pyIterQ P2
  exact⟨_,rfl,h⟩
def callQ_zip{prog:aK}{w:aO}{A:aQ}{E:af->ah->Prop}{s:ah}{k1 k2:Bool}{a b:ai}{xs ys:Array af}{Q:af->ah->Prop}(p1:QAt k1 s.heap a xs)(p2:QAt k2 s.heap b ys)
  (h:∀h',ZSt k1 k2 (s.heap.objs.size+4) (s.heap.objs.size+2) (s.heap.objs.size+3) s.heap.objs.size (s.heap.objs.size+1) a b 0 .none h'->(∀c o,s.heap.get? c=aa o->h'.get? c=aa o)->Q (.ref (s.heap.objs.size+4)) { s with heap:=h'}) :
  av (model prog w) A (call (.type "zip") [.ref a,.ref b]) Q E s:=by
 refine callType_new F.called_zip (by decide) (F.typeCall_zip_2 _ _) (F.newCall_zip_2 _ _) (λobj=>F.args_object_init_3 obj _ _) F.entry_zip_new (zkv k1 k2 a b xs ys) ⟨p1,p2,?_⟩;have y1:(zA s.heap k1 a).objs.size=s.heap.objs.size+1:=bD ..;have y2:(zB s.heap k1 k2 a b).objs.size=s.heap.objs.size+2:=by rw[bD,y1]
 have y3:(zC s.heap k1 k2 a b).objs.size=s.heap.objs.size+3:=by rw[bD,y2]
 have y4:(zD s.heap k1 k2 a b).objs.size=s.heap.objs.size+4:=by rw[bD,y3]
 have up:∀c o,s.heap.get? c=aa o->(zE s.heap k1 k2 a b).get? c=aa o:=λc o x=>aj _ (aj _ (aj _ (aj _ (aj _ x))));have g5:(zE s.heap k1 k2 a b).get? (zD s.heap k1 k2 a b).objs.size=aa _:=ay _ rfl;have g4:(zE s.heap k1 k2 a b).get? (zC s.heap k1 k2 a b).objs.size=aa _:=aj _ (ay _ rfl);have g3:(zE s.heap k1 k2 a b).get? (zB s.heap k1 k2 a b).objs.size=aa _:=aj _ (aj _ (ay _ rfl));have g2:(zE s.heap k1 k2 a b).get? (zA s.heap k1 a).objs.size=aa _:=aj _ (aj _ (aj _ (ay _ rfl)));have g1:(zE s.heap k1 k2 a b).get? s.heap.objs.size=aa _:=aj _ (aj _ (aj _ (aj _ (ay _ rfl))));show _/\_;rw[y2,y3,y4]at g5;rw[y1,y2]at g3;rw[y3]at g4;rw[y1]at g2;rw[y4];exact⟨⟨_,g5,rfl⟩,h _ ⟨g5,g3,⟨_,_,g4⟩,.mk ⟨_,g1,rfl,rfl⟩,.mk ⟨_,g2,rfl,rfl⟩⟩ up⟩
def zne(n:Nat):ZNe (n+4) (n+2) (n+3) n (n+1):=
  ⟨by intro h;have:n+2=n+4:=h;lia,by intro h;have:n+3=n+4:=h;lia,by intro h;have:n=n+4:=h;lia,by intro h;have:n+1=n+4:=h;lia,by intro h;have:n+2=n+3:=h;lia,
   by intro h;have:n+2=n:=h;lia,by intro h;have:n+2=n+1:=h;lia,by intro h;have:n+3=n:=h;lia,by intro h;have:n+3=n+1:=h;lia,by intro h;have:n=n+1:=h;lia⟩
def iZp(K:ag)(ta:TA):TI:=λσ H R=>ta σ H λvs H1=>∃k1 k2 a b,vs=[.ref a,.ref b]/\(∃xs,SqQ K k1 H1 a xs)/\(∃ys,SqQ K k2 H1 b ys)/\R (Itz K k1 k2 a b) H1
def pi_zip{X:Cx}{es:List Expr}{n:Nat}{tpos p pos:Pos}{a b:Expr}{ta:TA}(hg:Gl X "zip")(hm:X.mg "zip" =ab)(hb:aM "zip" =aa (.type "zip"))(ha:PA X [a,b] ta)(hs:aY [a,b] X.env=[(false,eval a X.env),(false,eval b X.env)]:=by rfl)(hs2:aY [b] X.env=[(false,eval b X.env)]:=by rfl) :
  PI X (.Tuple es n tpos) (.Call (.Name "zip" p) [a,b] [] pos) (iZp X.K ta):=by
 intro pins s σ H R I h;refine Call_ (zd7 I hg hm hb (bU (thn (ha pos pins s σ H _ I h) ?_) (by rw[hs,hs2]) (by rw[hs2];rfl)));rintro us s1 ⟨vs,H1,I1,r1,q1⟩;obtain⟨k1,k2,u,v,e,⟨xs,w1⟩,⟨ys,w2⟩,q⟩:=q1;subst e;cases r1 with
 |cons r rr=>
  cases rr with
  |cons r' rr=>
   cases rr;cases r;cases r';obtain⟨i1,v1,p1⟩:=I1.seqQ w1;obtain⟨i2,v2,p2⟩:=I1.seqQ w2;refine callQ_zip p1 p2 λg st up=>wpAny_pyIter_zip st.hz ?_;have I2:Inv X pins σ H1 { s1 with heap:=g}:=I1.kept (t':=s1.toks) up;refine⟨_,_,_,_,H1,rfl,I2,turn_zip k1 k2 _ _ _ _ _ u v (zne _),st,λc hc=>?_,q⟩;have hc':s1.heap.objs.size<=c:=by
    simp only[aF,bI,or_false]at hc;rcases hc with rfl|rfl|rfl|rfl|rfl
    ·exact cI _ _
    ·exact cI _ _
    ·exact cI _ _
    ·exact am _
    ·exact cI _ _
   exact I1.fpOk hc' (I1.hok.fresh hc')
end L2
namespace L3
open PySem PySem.Spec PyProof.Rows L2
def qOf:Ent->Option (List D)
 |.val (.lst ds)=>aa ds
 |.val (.tup ds)=>aa ds
 |.own ds=>aa ds
 | _=>ab
def qV(fe:FE):FI:=λδ=>(fe δ).bind qOf
def iZip(fa fb:FI):FI:=λδ=>(fa δ).bind λxs=>(fb δ).bind λys=>aa ((xs.zip ys).map λp=>D.tup [p.1,p.2])
def Stays(K:ag)(B F:Hp)(v:V)(ds:List D):Prop:=∃k a vs,v=.ref a/\(∀F2 H2,Same F F2->Same F2 H2->Same B H2->SqQ K k H2 a vs)/\Reps F vs ds
def SemQ(K:ag)(t:TE)(f:FI):Prop:=∀(B:Bd) (F H:Hp) (σ:Sg) (δ:En) (ds:List D) (Q:VK),RS K B F H σ δ->f δ=aa ds->(∀v F' H',Ex F H F' H'->Stays K B F' v ds->Q v H')->t σ H Q
structure VQ(X:Cx)(e:Expr)(f:FI):Prop where
 h:∃t,WE X e t/\SemQ X.K t f
def itOk_zip{K:ag}{B F0:Hp}{k1 k2:Bool}{a b:ai}{vs ws:List V}{ds es:List D}(h1:∀F H,Same F0 F->Same F H->Same B H->SqQ K k1 H a vs)(h2:∀F H,Same F0 F->Same F H->Same B H->SqQ K k2 H b ws)(r1:Reps F0 vs ds)(r2:Reps F0 ws es) :
  ItOk B F0 (Itz K k1 k2 a b) ((ds.zip es).map λp=>D.tup [p.1,p.2]):=λF H s1 s2 s3=>by
 have q1:=h1 F H s1 s2 s3;have q2:=h2 F H s1 s2 s3;have l1:=r1.length;have l2:=r2.length;refine⟨⟨vs,ws,q1,q2,?_⟩,λi d e=>?_⟩
 ·rw[aw,iM];lia
 ·rw[aB]at e;obtain⟨p,e1,e2⟩:=cZ.mp e;obtain⟨e3,e4⟩:=List.getElem?_zip_eq_some.mp e1;obtain⟨v,g1,g2⟩:=r1.get e3;obtain⟨w,g3,g4⟩:=r2.get e4;refine⟨⟨vs,ws,v,w,q1,q2,g1,g3⟩,λx H' y=>?_⟩;obtain⟨pp,hp,ex,y⟩:=y;obtain⟨v',w',y1,y2,eH⟩:=y vs ws q1 q2;rw[g1]at y1;rw[g3]at y2;cases y1;cases y2;subst ex eH e2;have sm:Same F (upd F pp (.tup [v,w])):=Same.alloc (s2.free hp);exact⟨_,Ex.alloc s2 hp,.tup zam (.cons (Rep.mono (s1.trans sm) g2) (.cons (Rep.mono (s1.trans sm) g4) .nil))⟩
section
variable {X:Cx}{e e':Expr}{fe:FE}{fa fb:FI}{p pos tpos:Pos}{x:Str}{es:List Expr}{n:Nat}
def zqv(h:VE X e fe):VQ X e (qV fe):=by
 obtain⟨t,w,m⟩:=h.h;refine⟨_,w,λB F H σ δ ds Q s q k=>?_⟩;obtain⟨r,q1,q⟩:=bind_some q;refine m B F H σ δ r _ s q1 λv F1 H1 x1 r1=>?_;unfold qOf at q;split at q
 ·cases q;cases (show Rep F1 v (.lst ds)from r1)with
  |lst e rs=>exact k _ F1 H1 x1 ⟨false,_,_,rfl,λF2 H2 a b _=>SqL.of (b _ _ (a _ _ e)),rs⟩
 ·cases q;cases (show Rep F1 v (.tup ds)from r1)with
  |tup e rs=>exact k _ F1 H1 x1 ⟨true,_,_,rfl,λF2 H2 a b _=>SqT.of (b _ _ (a _ _ e)),rs⟩
 ·cases q;obtain⟨F2,x2,_,r2⟩:=RepR.frz x1 (Same.refl _) r1 rfl;cases r2 with
  |lst e rs=>exact k _ F2 H1 x2 ⟨false,_,_,rfl,λF3 H3 a b _=>SqL.of (b _ _ (a _ _ e)),rs⟩
 ·cases q
def iizip(h1:VQ X e fa)(h2:VQ X e' fb)(hg:Gl X "zip")(hm:X.mg "zip" =ab)(hb:aM "zip" =aa (.type "zip"))(n1:zaj e=true:=by rfl)(n2:zaj e'=true:=by rfl):VI X (.Tuple es n tpos) (.Call (.Name "zip" p) [e,e'] [] pos) (iZip fa fb):=by
 obtain⟨t1,w1,m1⟩:=h1.h;obtain⟨t2,w2,m2⟩:=h2.h;refine⟨_,⟨pi_zip hg hm hb (wac w1 (wac w2 wnil n2) n1).h (by rw[zak n1,zak n2];rfl) (by rw[zak n2];rfl)⟩,λB F H σ δ ds R s q k=>?_⟩;obtain⟨xs,q1,q⟩:=bind_some q;obtain⟨ys,q2,q⟩:=bind_some q;cases q;refine m1 B F H σ δ xs _ s q1 ?_;rintro v F1 H1 x1 ⟨k1,a,vs,ev,p1,r1⟩;refine m2 B F1 H1 σ δ ys _ (s.ext x1) q2 ?_;rintro v' F2 H2 x2 ⟨k2,b,ws,ew,p2,r2⟩;subst ev ew;have bh:=s.bh.trans (x1.trans x2).hh;exact⟨k1,k2,a,b,rfl,⟨vs,p1 F2 H2 x2.ff x2.fh bh⟩,⟨ws,p2 F2 H2 (Same.refl _) x2.fh bh⟩,k _ F2 H2 (x1.trans x2) (itOk_zip (λF H a b c=>p1 F H (x2.ff.trans a) b c) p2 (r1.mono x2.ff) r2)⟩
end
end L3

namespace L3
open PySem PySem.Spec PyProof.Rows L2
def isB:D->Option Bool
 |.bl b=>aa b
 | _=>ab
def blsD:List D->Option (List Bool)
 |[]=>aa []
 |d::ds=>(isB d).bind λb=>(blsD ds).map λbs=>b::bs
def blsD_ok{F:Hp}:∀{vs:List V} {ds:List D} {ns:List Bool},Reps F vs ds->blsD ds=aa ns->vs=ns.map V.bl
 | _,_,_,.nil,q=>by cases q;rfl
 | _,d::ds,ns,.cons r t,q=>by
  simp only[blsD]at q;obtain⟨i,q1,q⟩:=bind_some q;obtain⟨is,q2,q⟩:=map_some q;cases q;cases d <;> cases q1;cases r;rw[aH,blsD_ok t q2]
def blsD_map(bs:List Bool):blsD (bs.map .bl)=aa bs:=by
 induction bs with
 |nil=>rfl
 |cons z zs ih=>simp[blsD,isB,ih]
def gAll:List Ent->Option Ent
 |[x]=>(asL x).bind λds=>(blsD ds).map λbs=>.val (.bl (bs.all λb=>b))
 | _=>ab
section
variable {X:Cx}
def c_all(hc:X.calm=true:=by rfl):zhE X (.builtin "all") gAll:=⟨_,call_allB hc,λH0 F H vs es res Q fh hh r q k=>by
 obtain⟨x,rfl⟩:=zgQ rfl (λ_ _ _=>rfl) q;obtain⟨v,rfl,rz⟩:=zdK r;obtain⟨ds,q1,q⟩:=bind_some q;obtain⟨bs,q2,qz⟩:=map_some q;cases qz;obtain⟨l,ws,e',h1,h2⟩:=RepR.toL rz fh q1;subst e';rw[blsD_ok h2 q2]at h1;exact⟨l,bs,rfl,h1,k _ F H (Ex.refl fh) (.bl _)⟩⟩
def mt_find:MtR X "str.find" (λx xs H Q=>∃(z y:Str) (i:Int),x=.str z/\xs=[.str y,.int i]/\Q (.int (gN z y i)) H):=by
 intro pins s σ H x xs v us Q I rx r h;obtain⟨z,y,i,rfl,rfl,q⟩:=h;obtain⟨t,rfl⟩:=rx;cases r with
 |cons r1 r=>
  cases r with
  |cons r2 r=>
   cases r;obtain⟨t1,rfl⟩:=r1;obtain⟨t2,rfl⟩:=r2;exact SC.find3 ⟨.int _,H,I.tok _,⟨_,rfl⟩,q⟩
def gFind:Ent->List Ent->Option Ent
 |x,[y,i]=>(sOf x).bind λz=>(sOf y).bind λu=>(iOf i).map λj=>.val (.int (gN z u j))
 | _,_=>ab
def m_find:MtD X "str" "find" gFind:=by
 refine⟨_,_,fS,PySem.F.slot_str_find,PySem.F.type_str_find,mt_find,?_,?_⟩
 ·intro H0 F H x e es res fh r q;unfold gFind at q;split at q
  ·obtain⟨z,q1,q⟩:=bind_some q;cases zaB q1;cases za1 r;rfl
  ·cases q
 ·intro H0 F H x vs e es res Q fh hh r rs q k;unfold gFind at q;split at q
  ·obtain⟨z,q1,q⟩:=bind_some q;obtain⟨u,q2,q⟩:=bind_some q;obtain⟨j,q3,q⟩:=map_some q;cases q;cases zaB q1;cases zaB q2;cases zbD q3;cases za1 r;cases rs with
   |cons r1 rs=>
    cases rs with
    |cons r2 rs=>
     cases rs;cases za1 r1;cases zbH r2;exact⟨z,u,j,rfl,rfl,k _ F H (Ex.refl fh) (.int _)⟩
  ·cases q
def mt_strip:MtR X "str.strip" (λx xs H Q=>∃(z y:Str),x=.str z/\xs=[.str y]/\z.length<=aX/\Q (.str (dI z y)) H):=by
 intro pins s σ H x xs v us Q I rx r h;obtain⟨z,y,rfl,rfl,hz,q⟩:=h;obtain⟨t,rfl⟩:=rx;obtain⟨u,rfl,t1,rfl⟩:=zf4 r;exact SC.stripChars (λt' k=>⟨.str _,H,I.tok _,⟨_,rfl⟩,q⟩) hz
noncomputable def zgM:Ent->List Ent->Option Ent
 |x,[y]=>(sOf x).bind λz=>(sOf y).bind λu=>gif (sz z.length) (aa (.val (.str (dI z u))))
 | _,_=>ab
def m_strip:MtD X "str" "strip" zgM:=by
 refine⟨_,_,fS,PySem.F.slot_str_strip,PySem.F.type_str_strip,mt_strip,?_,?_⟩
 ·intro H0 F H x e es res fh r q;unfold zgM at q;split at q
  ·obtain⟨z,q1,q⟩:=bind_some q;cases zaB q1;cases za1 r;rfl
  ·cases q
 ·intro H0 F H x vs e es res Q fh hh r rs q k;unfold zgM at q;split at q
  ·obtain⟨z,q1,q⟩:=bind_some q;obtain⟨u,q2,q⟩:=bind_some q;obtain⟨hl,qz⟩:=zaO q;cases qz;cases zaB q1;cases zaB q2;cases za1 r;obtain⟨w',rfl,rz⟩:=zdK rs;cases za1 rz;exact⟨z,u,rfl,rfl,zdO hl,k _ F H (Ex.refl fh) (.str _)⟩
  ·cases q
end
end L3

namespace L2
open PySem PySem.Spec PyProof.Rows
def Itq(K:ag):Bool->ai->It
 |true=>Itt K
 |false=>Itl K
def iSq(K:ag)(tl:TE):TI:=λσ H R=>tl σ H λx H1=>∃k a,x=.ref a/\(∃xs,SqQ K k H1 a xs)/\R (Itq K k a) H1
def pi_seq{X:Cx}{tg l:Expr}{tl:TE}(hl:PE X l tl):PI X tg l (iSq X.K tl):=by
 intro pins s σ H R I h;refine thn (hl pins s σ H _ I h) ?_;rintro v s1 ⟨x,H1,I1,r1,q1⟩;obtain⟨k,a,e,⟨xs,hq⟩,q⟩:=q1;subst e;cases r1;have fp:∀b∈[s1.heap.objs.size],zfx X pins H1 b:=λb hb=>by
  cases bn.mp hb;exact I1.fpOk (am _) (I1.hok.fresh (am _))
 obtain⟨its,rv,p⟩:=I1.seqQ hq;cases k with
 |true=>exact wpAny_pyIter_tuple p ⟨s1.heap.objs.size,[s1.heap.objs.size],_,_,H1,rfl,I1.kept (t':=s1.toks) λb o e=>aj _ e,zgS a _,⟨_,ay _ rfl,rfl,rfl⟩,fp,q⟩
 |false=>exact wpAny_pyIter_list p ⟨s1.heap.objs.size,[s1.heap.objs.size],_,_,H1,rfl,I1.kept (t':=s1.toks) λb o e=>aj _ e,ziH a _,⟨_,ay _ rfl,rfl,rfl⟩,fp,q⟩
end L2
namespace L3
open PySem PySem.Spec PyProof.Rows L2
def itOk_seq{K:ag}{B F0:Hp}{k:Bool}{a:ai}{vs:List V}{ds:List D}(h:∀F H,Same F0 F->Same F H->Same B H->SqQ K k H a vs)(r:Reps F0 vs ds):ItOk B F0 (Itq K k a) ds:=by
 cases k with
 |false=>exact ze2 h r
 |true=>
  intro F H s1 s2 s3;have hq:SqT K H a vs:=h F H s1 s2 s3;refine⟨⟨vs,hq,by rw[r.length];exact am _⟩,λi d e=>?_⟩;obtain⟨v,h1,h2⟩:=r.get e;refine⟨⟨vs,v,hq,h1⟩,λx H' y=>?_⟩;obtain⟨e',y⟩:=y;subst e';have z:=y vs hq;rw[h1]at z;cases z;exact⟨F,Ex.refl s2,Rep.mono s1 h2⟩
def iiq{X:Cx}{tg e:Expr}{fe:FE}(h:VE X e fe):VI X tg e (qV fe):=by
 obtain⟨t,w,m⟩:=(zqv h).h;exact⟨_,⟨pi_seq w.h⟩,λB F H σ δ ds R s q k=>m B F H σ δ ds _ s q λv F1 H1 x1 ⟨kk,a,vs,e,p,r⟩=>⟨kk,a,e,⟨vs,p F1 H1 (Same.refl _) x1.fh (s.bh.trans x1.hh)⟩,k _ F1 H1 x1 (itOk_seq p r)⟩⟩
end L3
namespace L2
open PySem PySem.Spec PyProof.Rows
section
variable {X:Cx}
def FstAt(vs:List V)(y:V)(j:Nat):Prop:=(∃v,vs[j]? =aa v/\eqV v y=true)/\∀m v,m<j->vs[m]? =aa v->eqV v y=false
end
end L2
namespace L3
open PySem PySem.Spec PyProof.Rows L2
def idxD(ds:List D)(d:D):Option Ent:=if (flD d&&ds.all flD)=true then (ds.findIdx? λe=>eqF e d).map λ(j:Nat)=>Ent.val (.int (j:Int))else ab
def vOf:Ent->Option D
 |.val d=>aa d
 | _=>ab
def gIdxT:Ent->List Ent->Option Ent
 |x,[y]=>(zcJ x).bind λds=>(vOf y).bind λd=>idxD ds d
 | _,_=>ab
end L3
namespace L2
open PySem PySem.Spec PyProof.Rows
open PySem.AutoSeq1 (wpAny_loadPart')
open PySem.MeetsSeq PySem.MeetsSeq2 PySem.MeetsSeq3
def wp_rng{M:Model}{A:aQ}{E:af->ah->Prop}{s:ah}{β:Type}(f:Nat->β->Sem (ForInStep β))(I:List Nat->β->ah->Prop)(Q:β->ah->Prop)
  (turn:∀x rest b s,I (x::rest) b s->av M A (f x b) (λr s'=>match r with|.yield b'=>I rest b' s'|.done b'=>Q b' s') E s)
  (fin:∀b s,I [] b s->Q b s) (n:Nat) (b:β) (h:I (cJ 0 n) b s):av M A (forIn [0:n] b f) Q E s:=by
 rw[jm];exact wpAny_forIn_list f I Q turn fin _ b (by simpa using h)
def tup_index(l:ai)(items:Array af)(n:Nat)(dd:Option ai)(sl:Array (Option af))(x:af)(e:af->Bool)(j:Nat)(hj:j<items.size)(hit:e items[j]=true)(hno:∀m (hm:m<items.size),m<j->e items[m]=false) :
  Meets (Builtin.«tuple.index» ⟨[.ref l,x],[]⟩)
   (λA R s=>s.heap.get? l=aa { cls:=.type "tuple",dict:=dd,data:=.seq items n,slots:=sl}/\(∀y,y∈items->fC A.in1 s y x (e y))/\R (.ok (.ret (.int j s.toks))) { s with toks:=s.toks+1}):=
 .of_wp λprog w A R s h=>by
  obtain⟨hp,g,d,tk,os⟩:=s;obtain⟨hl,he,h⟩:=h
  wp_walk using wpAny_loadPart' hl,wp_rng _ (λrest b s'=>b.1=ab/\s'=⟨hp,g,d,tk,os⟩/\∃k,k<=j/\rest=cJ k (items.size-k)) _
  case turn=>
   rintro y rest b s' ⟨hb,rfl,k,hk,hr⟩;rw[show items.size-k=items.size-(k+1)+1 by lia,fU]at hr;injection hr with e1 e2;subst e1 e2;have hi:items[y]? =aa (items[y]'(by lia)):=eR (by lia);rw[hi];refine ae (he _ (bo _) prog w _ _ ?_);by_cases hyj:y=j
   ·subst hyj;rw[hit]
    wp_walk
    exact⟨_,rfl,h⟩
   ·rw[hno y (by lia) (by lia)]
    wp_walk
    exact⟨rfl,rfl,y+1,by lia,rfl⟩
  case fin=>
   rintro b s' ⟨hb,rfl,k,hk,hr⟩;have:=congrArg fQ hr;simp at this;lia
  all_goals exact⟨rfl,rfl,0,aU _,by simp⟩
section
variable {X:Cx}
def mt_idxT:MtR X "tuple.index" (λx xs H Q=>∃(p:ai) (vs:List V) (y:V) (j:Nat),x=.ref p/\xs=[y]/\SqT X.K H p vs/\zfm y=true/\vs.all zfm=true/\FstAt vs y j/\Q (.int j) H):=by
 intro pins s σ H x xs v us Q I rx r h;obtain⟨p,vs,y,j,rfl,rfl,hq,fy,fv,⟨⟨v0,hv,he⟩,hno⟩,q⟩:=h;cases rx;obtain⟨u,rfl,ru⟩:=zf4 r;obtain⟨its,r',pl,hz⟩:=I.tuple hq;obtain⟨⟨cls,dd,data,sl⟩,ho,hc,n,hd⟩:=pl;simp only at hc hd;subst hc hd;have hlen:=r'.length;have flat:∀m v,vs[m]? =aa v->zfm v=true:=λm v e=>bH.mp fv v (bR e);have hj:j<vs.length:=(a7.mp hv).1;have ans:∀m (hm:m<its.toArray.size) v,vs[m]? =aa v->eqU y its.toArray[m]=eqV v y:=λm hm v e=>by
  obtain⟨u',e1,e2⟩:=r'.get e;have e3:its.toArray[m]=u':=by
   have:=a7.mp e1;simpa using this.2
  rw[e3];exact eqU_of e2 (flat m v e)
 refine call_meets iz ⟨_,ho,rfl⟩ PySem.F.entry_tuple_index (PySem.F.args_tuple_index_2 _ _)
  (tup_index p its.toArray n dd sl u (eqU y) j (by simp;lia) ?_ ?_) ⟨ho,λw hw=>zjp ru fy r' fv w (by simpa using hw),⟨.int j,H,I.tok _,⟨_,rfl⟩,q⟩⟩
 ·rw[ans j _ v0 hv];exact he
 ·intro m hm hlt;have e:=aN (show m<vs.length by lia);rw[ans m hm _ e];exact hno m _ hlt e
def tBMT(r:V->List V->Hp->VK->Prop)(to:TE)(t:TA):TE:=λσ H Q=>to σ H λx H1=>(∃p xs,x=.ref p/\H1 p=aa (.tup xs))/\t σ H1 λxs H2=>r x xs H2 Q
def pbmT{id:String}{name:Str}{apos cpos:Pos}{o e:Expr}{es:List Expr}{to:TE}{t:TA}{r:V->List V->Hp->VK->Prop}(slot:Slot "tuple" name id)(hty:typeOf (.builtin id)=pure (.type "method_descriptor"))(hm:MtR X id r)(ho:PE X o to)(ha:PA X (e::es) t)
  (hbase:b9 o name X.env (eval o X.env)=eval o X.env) (hl:decide ((e::es).length+0+0<30)=true) (hline:(apos.endLine==cpos.line)=true)
  (h1:zaj e=true) (h2:es.all zaj=true):PE X (.Call (.Attribute o name apos) (e::es) [] cpos) (tBMT r to t):=by
 intro pins s σ H Q I h;refine wpAny_Call_method_late hbase (by rw[zho (es:=e::es) (by rw[eJ,h1,h2];rfl)];exact hl) hline rfl (thn (ho pins s σ H _ I h) ?_);rintro v s1 ⟨x,H1,I1,r1,⟨p,zs,ex,hp⟩,q1⟩;subst ex;cases r1;obtain⟨_,its,_,tn⟩:=I1.hok p _ hp;have tn2:=tn;obtain⟨ob,e1,e2,_⟩:=tn2;refine⟨"tuple",id,PySem.F.plainAttrs_tuple,slot,hty,⟨ob,e1,e2⟩,λa e=>by cases e;exact tn.nod,?_⟩;have hA:=ha cpos pins s1 σ H1 _ I1 q1;rw[zak h1]at hA ⊢;refine iU (by show(false || (backTo cpos (aY es X.env)).any (·.1))=false;rw[zcd h2];rfl) (jc (thn hA λus s2 ⟨vs,H2,I2,r2,q2⟩=>hm pins s2 σ H2 (.ref p) vs _ us Q I2 rfl r2 q2))
end
end L2
namespace L3
open PySem PySem.Spec PyProof.Rows L2
def flV{F:Hp}{v:V}{d:D}(r:Rep F v d)(h:flD d=true):zfm v=true:=by
 cases r <;> first|rfl|cases h
def eqVF{F:Hp}{v w:V}{d e:D}(r:Rep F v d)(q:Rep F w e)(h:flD d=true)(k:flD e=true):eqV v w=eqF d e:=by
 cases r <;> first|(cases h;done)|(cases q <;> first|rfl|(cases k;done))
def fst_at{F:Hp}{vs:List V}{ds:List D}{y:V}{d:D}{j:Nat}(r:Reps F vs ds)(ry:Rep F y d)(h:(flD d&&ds.all flD)=true)(e:ds.findIdx? (λe=>eqF e d)=aa j):zfm y=true/\vs.all zfm=true/\FstAt vs y j:=by
 rw[cc]at h;obtain⟨h1,h2⟩:=h;have fl:∀(m:Nat) (e:D),ds[m]? =aa e->flD e=true:=λm e q=>bH.mp h2 e (bR q);refine⟨flV ry h1,bH.mpr λv hv=>?_,?_,λm v hm hv=>?_⟩
 ·obtain⟨m,hm⟩:=List.mem_iff_getElem?.mp hv;obtain⟨e,q1,q2⟩:=r.getV hm;exact flV q2 (fl m e q1)
 ·obtain⟨hj,q,_⟩:=c6.mp e;obtain⟨v,q1,q2⟩:=r.get (aN hj);refine⟨v,q1,?_⟩;rw[eqVF q2 ry (fl j _ (aN hj)) h1];exact q
 ·obtain⟨hj,_,q⟩:=c6.mp e;obtain⟨e',q1,q2⟩:=r.getV hv;rw[eqVF q2 ry (fl m _ q1) h1];obtain⟨hm',q3⟩:=a7.mp q1;have:=q m hm;rw[q3]at this;simpa using this
def vOf_some{e:Ent}{d:D}(h:vOf e=aa d):e=.val d:=by
 cases e with
 |val d'=>cases h;rfl
 | _=>cases h
section
variable {X:Cx}
end
structure MtT(X:Cx)(name:Str)(g:Ent->List Ent->Option Ent):Prop where
 h:∃id r,Slot "tuple" name id/\typeOf (.builtin id)=pure (.type "method_descriptor")/\MtR X id r /\
  (∀(F:Hp) (v:V) (e:Ent) (es:List Ent) (res:Ent),g e es=aa res->∃ds,e=.val (.tup ds)) /\
  ∀(H0 F H:Hp) (x:V) (vs:List V) (e:Ent) (es:List Ent) (res:Ent) (Q:VK),Same F H->Same H0 H->RepR X.K H0 F H x e->RepRs X.K H0 F H vs es->g e es=aa res->(∀v F' H',Ex F H F' H'->RepR X.K H0 F' H' v res->Q v H')->r x vs H Q
section
variable {X:Cx}{name:Str}{g:Ent->List Ent->Option Ent}{o e:Expr}{es:List Expr}{fo:FE}{fs:FA}{apos cpos:Pos}
def vbt(M:MtT X name g)(ho:VE X o fo)(ha:VA X (e::es) fs)(hbase:b9 o name X.env (eval o X.env)=eval o X.env:=by rfl)(hl:decide ((e::es).length+0+0<30)=true:=by rfl)(hline:(apos.endLine==cpos.line)=true:=by rfl)
  (h1:zaj e=true:=by rfl) (h2:es.all zaj=true:=by rfl):VE X (.Call (.Attribute o name apos) (e::es) [] cpos) (eBM g fo fs):=by
 obtain⟨t,wo,mo⟩:=ho.h;obtain⟨ta,wa,ma⟩:=ha.h;obtain⟨id,r,sl,ht,hm,hty,hsem⟩:=M.h;refine⟨_,⟨pbmT sl ht hm wo.h wa.h hbase hl hline h1 h2⟩,λB F H σ δ res Q s q k=>?_⟩;obtain⟨x,q1,q⟩:=bind_some q;obtain⟨rs,q2,q⟩:=bind_some q;obtain⟨ds,rfl⟩:=hty F .non x rs res q;refine mo B F H σ δ _ _ s q1 λv F1 H1 x1 r1=>⟨?_,?_⟩
 ·cases (show Rep F1 v (.tup ds)from r1)with
  |tup e _=>exact⟨_,_,rfl,x1.fh _ _ e⟩
 ·refine ma B F1 H1 σ δ rs _ (s.ext x1) q2 λvs F2 H2 x2 r2=>?_;exact hsem H F2 H2 v vs _ rs res Q x2.fh (x1.trans x2).hh (r1.ext x2) (r2.earlier x1.hh) q λv' F' H' x3 r3=>k v' F' H' ((x1.trans x2).trans x3) r3
def m_idxT:MtT X "index" gIdxT:=by
 refine⟨_,_,iz,PySem.F.type_tuple_index,mt_idxT,?_,?_⟩
 ·intro F v e es res q;unfold gIdxT at q;split at q
  ·obtain⟨ds,q1,q⟩:=bind_some q;exact⟨ds,zbu q1⟩
  ·cases q
 ·intro H0 F H x vs e es res Q fh hh r rs q k;unfold gIdxT at q;split at q
  ·obtain⟨ds,q1,q⟩:=bind_some q;obtain⟨d,q2,q⟩:=bind_some q;unfold idxD at q;obtain⟨hf,q⟩:=zhh q;obtain⟨j,q3,q⟩:=map_some q;cases q;cases vOf_some q2;obtain⟨y,rfl,ry⟩:=zdK rs;cases zbu q1;cases (show Rep F x (.tup ds)from r)with
   |tup e rs'=>
    obtain⟨f1,f2,f3⟩:=fst_at rs' ry hf q3;exact⟨_,_,y,j,rfl,rfl,SqT.of (fh _ _ e),f1,f2,f3,k _ F H (Ex.refl fh) (.int _)⟩
  ·cases q
end
end L3

namespace L2
open PySem PySem.Spec PyProof.Rows PyProof.Rows.KTD
def tabI(D:List (Str×Int)):List (Str×Dat):=D.map λp=>(p.1,Dat.flat (.int p.2))
def ziK(z:Str):List (Str×Int)->Option Int
 |[]=>ab
 |(x,i)::D=>if z=x then aa i else ziK z D
def zit(z:Str):∀D:List (Str×Int),inKeys z (tabI D)=(ziK z D).isSome
 |[]=>rfl
 |(x,i)::D=>by
  show(decide (z=x) || inKeys z (tabI D))=(if z=x then aa i else ziK z D).isSome;by_cases h:z=x
  ·rw[if_pos h,decide_eq_true h];rfl
  ·rw[if_neg h,decide_eq_false h,zit z D];rfl
def zig{h:aT}{z:Str}{P:af->Prop}{i:Int}(k:∀t,P (.int i t)):∀D:List (Str×Int),ziK z D=aa i->EachL h z P (tabI D)
 |[],_=>trivial
 |(x,j)::D,e=>by
  have e':(if z=x then aa j else ziK z D)=aa i:=e;by_cases hx:z=x
  ·rw[if_pos hx]at e';cases e';exact eachL_hit hx k
  ·rw[if_neg hx]at e';exact eachL_miss hx (zig k D e')
def zkD(D:List (Str×Int)):((tabI D).all λp=>plain p.2)=true:=by
 rw[bH];intro p hp;obtain⟨q,_,rfl⟩:=bY.mp hp;rfl
def RowsK(K:ag)(es:Array DictEntry)(D:List (Str×Int)):Prop:=rowsLook (datLooks λb=>K.lookup b) es.toList (tabI D)=true
def TabK(K:ag)(a:ai)(D:List (Str×Int)):Prop:=tabLook (datLooks λb=>K.lookup b) (λb=>K.lookup b) a (tabI D)=true
def zi8{K:ag}{a:ai}{es:Array DictEntry}{ep:Nat}{D:List (Str×Int)}(l:K.lookup a=aa ⟨.type "dict",ab,.dict es ep,#[]⟩)(c:RowsK K es D)(m:(a==sysModules)=false):TabK K a D:=by
 unfold TabK tabLook;unfold RowsK at c;simp only[l,c,m];rfl
section
variable {X:Cx}{a:ai}{D:List (Str×Int)}
def Inv.tabK{pins:List (ai×Obj)}{σ:St}{H:Hp}{s:ah}(I:Inv X pins σ H s)(T:TabK X.K a D):Here s.heap s.heap a (tabI D):=⟨text_of_look (λb o e=>I.kIn b o e) T,λ_ _ e=>e⟩
def ix_tab(T:TabK X.K a D):IxR X (λx y H Q=>∃z i,x=.ref a/\y=.str z/\ziK z D=aa i/\Q (.int i) H):=by
 intro value slice pins s σ H x y v u Q I rx ry h hs;obtain⟨z,i,rfl,rfl,hi,q⟩:=h;cases rx;obtain⟨t,rfl⟩:=ry;exact item_textA (I.tabK T) (zkD D) (by rw[zit,hi];rfl) (zig (λt=>⟨.int i,H,I.tok _,⟨t,rfl⟩,q⟩) D hi) hs
end
section
variable {X:Cx}
end
inductive PrsOf:List Str->List V->List (af×af)->Prop
 |nil:PrsOf [] [] []
 |cons {z:Str} {t:Tok} {v:V} {u:af} {ks:List Str} {vs:List V} {ws:List (af×af)}:RelV v u->PrsOf ks vs ws->PrsOf (z::ks) (v::vs) ((.str z t,u)::ws)
def PDs(X:Cx)(pos:Pos)(keys:List (Option Expr))(values:List Expr)(ks:List Str)(t:TA):Prop:=
 ∀(pins:List (ai×Obj)) (s:ah) (σ:St) (H:Hp) (Q:List V->Hp->Prop),Inv X pins σ H s->t σ H Q ->
  av (model X.prog X.w) X.A (evalPairs (pairTrees keys values X.env pos)) (λws s'=>∃vs H',Inv X pins σ H' s'/\PrsOf ks vs ws/\Q vs H') X.xe s
end L2
namespace L3
open PySem PySem.Spec PyProof.Rows L2
def zkP(T:List (Str×Int)):Ent->Option Ent:=λy=>(sOf y).bind λz=>(ziK z T).map λi=>.val (.int i)
section
variable {X:Cx}
structure VD(X:Cx)(pos:Pos)(keys:List (Option Expr))(values:List Expr)(ks:List Str)(fs:FA):Prop where
 h:∃t,PDs X pos keys values ks t/\SemA X.K t fs
variable {pos kp p:Pos}{z x:Str}{j:Nat}{v sl:Expr}{keys:List (Option Expr)}{values:List Expr}{ks:List Str}{fv fe:FE}{fs:FA}
def GTab(X:Cx)(x:Str)(T:List (Str×Int)):Prop:=∃a,X.mg x=aa (.ref a)/\TabK X.K a T
def vgx{T:List (Str×Int)}(hg:Gl X x)(hT:GTab X x T)(he:VE X sl fe)(hs:∀ov iv,subscripted sl false ov iv=operate [ov,iv] (getItem ov iv):=by intro _ _;rfl)(hd:(x==("__debug__" : Str))=false:=by decide) :
  VE X (.Subscript (.Name x p) sl pos) (ex1 (zkP T) fe):=by
 obtain⟨t,w,m⟩:=he.h;obtain⟨a,hm,hk⟩:=hT;refine⟨_,wix (ix_tab hk) (wgl (v:=.ref a) hg ⟨_,hm,rfl⟩ hd) w hs,λB F H σ δ res Q s q k=>?_⟩;obtain⟨e,q1,q⟩:=bind_some q;obtain⟨z,q2,q⟩:=bind_some q;obtain⟨i,q3,q⟩:=map_some q;subst q;cases zaB q2;exact m B F H σ δ _ _ s q1 λv F1 H1 x1 r1=>⟨z,i,rfl,za1 r1,q3,k _ F1 H1 x1 (.int _)⟩
end
end L3

namespace L2
open PySem PySem.Spec PyProof.Rows
end L2
namespace L3
open PySem PySem.Spec PyProof.Rows L2
section
variable {X:Cx}{e:Expr}{fe:FE}{x:Str}{p pos:Pos}
end
end L3

namespace L3
open PySem L2 PyProof.Rows
noncomputable def fExtV(i:Nat)(fe:FE):FS:=λδ=>match δ[i]? with
 |some (aa (.own ds))=>(fe δ).bind λr=>(asLt r).bind λes=>gif (sz (ds.length+es.length)) (aa (.nx (δ.set i (aa (.own (ds++es))))))
 | _=>ab
section
variable {X:Cx}{e:Expr}{fe:FE}{x:Str}{p pos:Pos}
def sExtV(i:Nat){apos cpos:Pos}(he:VE X e fe)(hN:X.N[i]? =aa x:=by rfl)(hv:Vis X.env.scope x:=by first|exact aD rfl|exact bA (aD rfl)|exact bA (bA rfl))(hd:(x==("__debug__" : Str))=false:=by decide)
  (hcd:(x==("__classdict__" : Str))=false:=by decide)
  (hbase:b9 (.Name x p) "extend" X.env (eval (.Name x p) X.env)=eval (.Name x p) X.env:=by rfl) (hline:(apos.endLine==cpos.line)=true:=by rfl) (h1:zaj e=true:=by rfl)
  (hs:swapsWith (.Call (.Attribute (.Name x p) "extend" apos) [e] [] cpos) ab pos.line X.env=pure false:=by rfl) :
  VS X (.Expr (.Call (.Attribute (.Name x p) "extend" apos) [e] [] cpos) pos) (fExtV i fe):=by
 obtain⟨t,w,m⟩:=he.h;refine⟨_,sex (wbm fK PySem.F.slot_list_extend PySem.F.type_list_extend mt_extend (wv i hN hv hd hcd) (wac w wnil h1) hbase rfl hline h1 rfl) hs,λB F H σ δ out DD s q k=>?_⟩;unfold fExtV at q;split at q
 ·rename_i ds hi;obtain⟨r,q2,q⟩:=bind_some q;obtain⟨es,q3,q⟩:=bind_some q;obtain⟨hl,qz⟩:=zaO q;cases qz;obtain⟨v,h1,l,vs,e,h2,h3,h4,h5⟩:=s.ent i _ hi;subst e;refine⟨_,h1,.inl ⟨rfl,vs,SqL.of h2⟩,?_⟩;refine m B F H σ δ _ _ s q2 λy F1 H1 x1 z=>?_;obtain⟨l2,ws,ey,z1,z2⟩:=RepR.toLt z (s.ext x1).fh q3;subst ey;refine⟨l,l2,vs,ws,rfl,rfl,x1.hh _ _ h2,z1,?_,?_⟩
  ·rw[h3.length,z2.length,cq];unfold sz at hl;lia
  ·exact k σ F1 _ ((s.ext x1).mut hi h1 ((h3.mono x1.ff).append z2)) (.of x1 s.bh)
 ·cases q
end
end L3

namespace L2
open PySem PySem.Spec PyProof.Rows
namespace RV
def lri_len:typeLookup (.type "list_reverseiterator") "__len__" =pure ab:=by rw[typeLookup_type,builtinLookup_eq_fast];kernel_rfl
def lri_hint:typeLookup (.type "list_reverseiterator") "__length_hint__" =pure (aa (.builtin "list_reverseiterator.__length_hint__")):=by rw[typeLookup_type,builtinLookup_eq_fast];kernel_rfl
end RV
section
variable {prog:aK}{w:aO}{A:aQ}{E:af->ah->Prop}{s:ah}
set_option maxRecDepth 100000
def hint_rev{I l:ai}{i:Int}{Q:Bool->ah->Prop}(hit:s.heap.IsRevIter I l i)(q:Q false s):av (model prog w) A (ez (.ref I)) Q E s:=by
 unfold ez;refine ae (wpAny_specialOf hit.typeIs RV.lri_len ?_)
 wp_delta
 refine ae (wpAny_specialOf hit.typeIs RV.lri_hint ?_)
 wp_delta
 refine ae (wpAny_isInstance (T:= "list_reverseiterator") (b:=true) hit.typeIs (by rw[isSubtype_type];kernel_rfl) ?_);show av _ A (pure false) Q E s;exact ak q
def ziN{I l:ai}{items:Array af}{Q:List af->ah->Prop}(hh:A.handled=ab)(hne:l≠I)(hit:s.heap.IsRevIter I l ((items.size:Int)-1))(hl:s.heap.IsList l items)
  (hQ:∀s' acc,(∀b o,b≠I->s.heap.get? b=aa o->s'.heap.get? b=aa o)->s'.gens=s.gens->s'.drawn=s.drawn->s'.os=s.os->ItemsOf (λi v=>items[items.size-1-i]? =aa v) acc items.size->Q acc.toList s') (hn:items.size<=aX) :
  av (model prog w) A (collect (.ref I)) Q E s:=by
 have hI:I<s.heap.objs.size:=by obtain⟨o,e,_⟩:=hit;exact aC e
 have hL:l<s.heap.objs.size:=by obtain⟨o,e,_⟩:=hl;exact aC e
 unfold collect;refine ae (wpAny_runValue (codeAny_builtin F.entry_proto_collect ?_));rw[bS F.plain_proto_collect _];show av _ A.in1 (newList [] >>= λx=>again (.builtin "list.__iadd__" ⟨[x,.ref I],[]⟩)) _ _ s;refine ae (wpAny_newObj_type ?_);refine ak ⟨plainId_quiet F.plain_list_iadd _,codeAny_builtin F.entry_list_iadd ?_⟩;rw[bS F.plain_list_iadd _];show av _ A.in1 (dv (.ref s.heap.objs.size) (.ref I) (.ref s.heap.objs.size)) _ _ _;generalize hH:s.heap.push { cls:=.type "list",data:=.seq ([]:List af).toArray}=H;have up:∀b o,s.heap.get? b=aa o->H.get? b=aa o:=λb o e=>hH ▸ aj _ e;have hit':H.IsRevIter I l ((items.size:Int)-1):=hit.at λo e=>up _ o e;have hl':H.IsList l items:=hl.at λo e=>up _ o e;have hS:H.get? s.heap.objs.size=aa { cls:=.type "list",data:=.seq ([]:List af).toArray}:=hH ▸ ay _ rfl;unfold dv;refine ae (wpAny_typeOf (s:={ s with heap:=H}) hit'.typeIs ?_);have h1:dN (.ref s.heap.objs.size) (.ref I)=false:=by
  unfold dN;simp;exact eV hI
 have h2:(cR "list_reverseiterator" == cR "list")=false:=by decide
 have h3:(cR "list_reverseiterator" == cR "tuple")=false:=by decide
 simp only[h1,h2,h3,jj,bm,if_false];refine ae (wpAny_pyIter_revIter hit' ?_);refine ae (cA ?_);refine hint_rev (s:={ s with heap:=H}) hit' ?_;rw[if_neg (by decide)];have hSf:s.heap.objs.size∉[I,l]:=λhm=>by
  rcases aF.mp hm with h|h
  ·exact absurd hI (h ▸ bK _)
  ·exact absurd hL (bn.mp h ▸ bK _)
 have st0:0<=items.size/\H.IsRevIter I l ((items.size:Int)-1-((0:Nat):Int))/\H.IsList l items:=⟨aU _,by simpa using hit',hl'⟩
 refine ak ⟨plainId_quiet F.plain_extend_loop _,codeAny_extend_loopS (Walks.listRev (A:=A.in1) hh I l hne items).toS hn _ hSf _ items.size 0 _ _ _ rfl (aU _) st0 hS (lv _) λs' acc' c' hm hS' hacc=>?_⟩;show av _ A (load s.heap.objs.size >>= _) _ _ s';refine ae (wpAny_load hS' ?_);refine ak (hQ s' acc' (λb ob hb e=>hm.heap b ob (λhc=>?_) (up b ob e)) hm.gens hm.drawn hm.os hacc);have hlt:=aC e;rcases aF.mp hc with h|h
 ·exact absurd hlt (h ▸ bK _)
 ·exact hb (bn.mp h)
def zfS(I l:ai)(items:Array af)(hne:l≠I)(hsz:items.size<=aX) :
  Meets (Builtin.«tuple.__new__» ⟨[.type "tuple",.ref I],[]⟩)
   (fun A R s=>A.handled=ab/\s.heap.IsRevIter I l ((items.size:Int) - 1)/\s.heap.IsList l items/\∀ (s':ah) (acc:Array af),(∀ b o,b ≠ I->s.heap.get? b=aa o->s'.heap.get? b=aa o)->s'.gens=s.gens->s'.drawn=s.drawn->s'.os=s.os->ItemsOf (fun i v=>items[items.size - 1 - i]? = aa v) acc items.size ->
    R (.ok (.ret (.ref s'.heap.objs.size))) { s' with heap:=s'.heap.push { cls:=.type "tuple",data:=.seq acc}}):=
 .of_wp λprog w A R s h=>by
  obtain⟨hh,hit,hl,h⟩:=h;have hsub:=sub_tuple_self;have hinit:=init_tuple_lookup;have hmh:=madeHere_tuple;have hT:s.TypeIs (.ref I) "list_reverseiterator" :=hit.typeIs;have hh1:A.in1.handled=ab:=hh
  wp_walk using wpAny_typeOf hT,ziN (hn:=hsz) hh1 hne hit hl
  intro s' acc hk hg hd hos hacc;show av _ _ (bG acc.toList.toArray >>= λv=>ret v) _ _ _;unfold bG;refine ae (wpAny_newObj_type (ak ⟨_,rfl,?_⟩) (show acc.toList.toArray.size<=aX by simp only[je];rw[hacc.1];exact hsz));have e:acc.toList.toArray=acc:=by simp
  rw[e];exact h s' acc hk hg hd hos hacc
def zgv{Q:af->ah->Prop}{I l:ai}{items:Array af}(hh:A.handled=ab)(hne:l≠I)(hit:s.heap.IsRevIter I l ((items.size:Int)-1))(hl:s.heap.IsList l items)(hsz:items.size<=aX)
  (h:∀(h':aT) (tk:Nat) (acc:Array af),(∀b o,b≠I->s.heap.get? b=aa o->h'.get? b=aa o)->ItemsOf (λi v=>items[items.size-1-i]? =aa v) acc items.size->Q (.ref h'.objs.size) { s with heap:=h'.push { cls:=.type "tuple",data:=.seq acc},toks:=tk}) :
  av (model prog w) A (call (.type "tuple") [.ref I]) Q E s:=by
 refine callType_new F.called_tuple (by decide) (F.typeCall_tuple_1 _) (F.newCall_tuple_1 _) (λobj=>F.args_object_init_2 obj _) F.entry_tuple_new
  (zfS I l items hne hsz) ⟨hh,hit,hl,λs' acc hk hg hd hos hacc=>⟨⟨_,ay _ rfl,rfl⟩,?_⟩⟩
 obtain⟨h',g',d',tk',os'⟩:=s';cases (show g'=s.gens from hg);cases (show d'=s.drawn from hd);cases (show os'=s.os from hos);exact h h' tk' acc hk hacc
end
end L2
namespace L2
open PySem PySem.Spec PyProof.Rows
section
variable {X:Cx}{e:Expr}{t:TE}{p p1 pos pos1:Pos}
def rev_vals{xs:List V}{its:List af}(r:Vals xs its){acc:Array af}(h:ItemsOf (λi v=>its.toArray[its.toArray.size-1-i]? =aa v) acc its.toArray.size):Vals xs.reverse acc.toList:=by
 obtain⟨h1,h2⟩:=h;have e:acc.toList=its.reverse:=by
  apply jI;intro j;by_cases hj:j<its.length
  ·have hs:acc.size=its.length:=by simpa using h1
   have:=h2 j acc[j] (by simp[hs,hj]);rw[i6 hj];simp only[a9,i7]at this;rw[this];simp[hs,hj]
  ·have hs:acc.size=its.length:=by simpa using h1
   rw[dz (by simp[hs];lia),dz (by simp;lia)]
 rw[e];clear h1 h2 e
 induction r with
 |nil=>exact .nil
 |cons h t ih=>
  rw[dD,dD];exact ih.append (.cons h .nil)
def tTR(K:ag)(t:TE):TE:=λσ H Q=>t σ H λx H1=>∃a xs,x=.ref a/\SqL K H1 a xs/\∀q,H1 q=ab->Q (.ref q) (upd H1 q (.tup xs.reverse))
def pe_tr(hc:X.calm=true)(he:PE X e t)(hg:Gl X "tuple")(hm:X.mg "tuple" =ab)(hv:aM "tuple" =aa (.type "tuple"))(hg1:Gl X "reversed")(hm1:X.mg "reversed" =ab)(hv1:aM "reversed" =aa (.type "reversed"))
  (h1:aY [e] X.env=(false,eval e X.env)::aY [] X.env) (h2:aY [lT (.Name "reversed" p1) [e] [] pos1] X.env=(false,eval (.Call (.Name "reversed" p1) [e] [] pos1) X.env)::aY [] X.env) :
  PE X (.Call (.Name "tuple" p) [.Call (.Name "reversed" p1) [e] [] pos1] [] pos) (tTR X.K t):=by
 intro pins s σ H Q I h;refine cF (zd7 I hg hm hv ?_ (by decide) (by decide));refine bU ?_ h2 rfl;rw[h2];refine gH (rest:=backTo pos (aY [] X.env)) ?_;refine cF (zd7 I hg1 hm1 hv1 ?_ (by decide) (by decide));refine bU ?_ h1 rfl;refine thn (zjk he pa_nil h1 pos1 pins s σ H (one λx H1=>∃a xs,x=.ref a/\SqL X.K H1 a xs/\∀q,H1 q=ab->Q (.ref q) (upd H1 q (.tup xs.reverse))) I ?_) ?_
 ·exact(show t σ H _ from h)
 ·rintro us s1 ⟨xs,H1,I1,r1,qx⟩;obtain⟨x,rfl,a,vs,rfl,hq,kk⟩:=zke qx;cases r1 with
  |cons r1 rn=>
   cases rn;cases r1;obtain⟨its,rv,pl,hz⟩:=I1.list hq;have hs:its.toArray.size<=aX:=by have:=rv.length;simp;lia
   have hl:=pl.isList;have hlt:a<s1.heap.objs.size:=by obtain⟨o,e,_⟩:=hl;exact aC e
   refine call_reversed_list hl ?_;refine hG ?_;refine zgv (I:=s1.heap.objs.size) (l:=a) (items:=its.toArray) (I.ok.hd hc) (aL hlt) ⟨_,ay _ rfl,rfl,rfl⟩ (hl.at λo e=>aj _ e) hs λh' tk acc old ha=>?_;have old':∀b o,s1.heap.get? b=aa o->h'.get? b=aa o:=λb o e=>old b o (aL (aC e)) (aj _ e);have I2:=I1.kept (t':=tk) old';refine⟨.ref h'.objs.size,_,I2.laid (t':=tk) (o:=.tup vs.reverse) (λb o e=>aj _ e) (am _) ⟨?_,acc.toList,rev_vals rv ha,⟨_,ay _ rfl,rfl,0,by simp⟩⟩,rfl,kk _ (I2.hok.fresh (am _))⟩;rw[eN];exact hz
end
end L2
namespace L3
open PySem PySem.Spec PyProof.Rows L2
def zi4:Ent->Option Ent:=λx=>(asL x).bind λds=>aa (.val (.tup ds.reverse))
section
variable {X:Cx}{e:Expr}{fe:FE}{p p1 pos pos1:Pos}
def vTupRev(he:VE X e fe)(hg:Gl X "tuple")(hm:X.mg "tuple" =ab)(hv:aM "tuple" =aa (.type "tuple"))(hg1:Gl X "reversed")(hm1:X.mg "reversed" =ab)(hv1:aM "reversed" =aa (.type "reversed"))(hc:X.calm=true:=by rfl)(h1:zaj e=true:=by rfl) :
  VE X (.Call (.Name "tuple" p) [.Call (.Name "reversed" p1) [e] [] pos1] [] pos) (ex1 zi4 fe):=by
 obtain⟨t,w,m⟩:=he.h;refine⟨_,⟨pe_tr hc w.h hg hm hv hg1 hm1 hv1 (zak h1) (zak rfl)⟩,λB F H σ δ res Q s q k=>?_⟩;obtain⟨en,q1,q⟩:=bind_some q;refine m B F H σ δ en _ s q1 λv F1 H1 x1 r1=>?_;obtain⟨ds,q2,q3⟩:=bind_some q;cases q3;obtain⟨l,vs,rfl,hs,rs⟩:=r1.toL x1.fh q2;refine⟨l,vs,rfl,hs,λr hr=>?_⟩;exact k _ _ _ (x1.trans (Ex.alloc x1.fh hr)) (.tup zam (rs.rev.mono (Same.alloc (x1.fh.free hr))))
end
end L3

namespace L2
open PySem PySem.Spec PyProof.Rows PyProof.Rows.KTD
inductive EKs(w:aO):List DictEntry->List Str->Prop
 |nil:EKs w [] []
 |cons {e:DictEntry} {z:Str} {es:List DictEntry} {ks:List Str}:(∃t,e.key=.str z t/\e.hash=hashStr w z)->EKs w es ks->EKs w (e::es) (z::ks)
def KeysK(w:aO)(K:ag)(a:ai)(ks:List Str):Prop:=
 (a==sysModules)=false/\ks.Nodup/\∃(es:Array DictEntry) (ep:Nat),K.lookup a=aa ⟨.type "dict",ab,.dict es ep,#[]⟩/\EKs w es.toList ks
def ziw{w:aO}{L:Dat->af->Bool}:∀{es:List DictEntry} {D:List (Str×Dat)},rowsLook L es D=true->es.map (·.hash)=(D.map (·.1)).map (hashStr w) ->
  EKs w es (D.map (·.1))
 |[],[],_,_=>.nil
 |e::es,(x,d)::D,h,hh=>by
  simp only[rowsLook,cc]at h;obtain⟨⟨h1,_⟩,h3⟩:=h;simp only[aH,iN]at hh;refine .cons ?_ (ziw h3 hh.2);split at h1
  ·rename_i y t hk;obtain rfl:=beq_iff_eq.mp h1;exact⟨t,hk,hh.1⟩
  ·cases h1
 |[],_::_,h,_=>by simp[rowsLook]at h
 | _::_,[],h,_=>by simp[rowsLook]at h
def keysK_of{w:aO}{K:ag}{a:ai}{es:Array DictEntry}{ep:Nat}{D:List (Str×Int)}(l:K.lookup a=aa ⟨.type "dict",ab,.dict es ep,#[]⟩)(c:RowsK K es D)(m:(a==sysModules)=false)
  (hh:es.toList.map (·.hash)=(D.map (·.1)).map (hashStr w)) (nd:(D.map (·.1)).Nodup):KeysK w K a (D.map (·.1)):=by
 refine⟨m,nd,es,ep,l,?_⟩;have e:(tabI D).map (·.1)=D.map (·.1):=by unfold tabI;rw[bN];rfl
 have:=ziw (w:=w) (D:=tabI D) c (by rw[e];exact hh);rwa [e]at this
def zgZ{P:aK}{w:aO}:∀{es:List DictEntry} {ks:List Str},EKs w es ks ->
  (∀e∈es,∃k,(dq P w).is k e.key=true/\e.hash=(dq P w).hash k)/\∃kvs:List (Str×af),Pairs (dq P w) es kvs/\kvs.map (·.1)=ks
 | _,_,.nil=>⟨λ_ h=>(nomatch h),[],.nil,rfl⟩
 |e::_,z::_,.cons ⟨t,hk,hh⟩ r=>by
  obtain⟨h1,kvs,h2,h3⟩:=zgZ (P:=P) r;have hi:(dq P w).is z e.key=true:=by rw[hk];exact strKind_is P w z t
  refine⟨λe' he=>?_,(z,e.val)::kvs,.cons hi rfl h2,by rw[aH,h3]⟩;rcases aF.mp he with q|q
  ·subst q;exact⟨z,hi,hh⟩
  ·exact h1 e' q
def KeysK.at{P:aK}{w:aO}{K:ag}{a:ai}{ks:List Str}(h:KeysK w K a ks):∃(kvs:List (Str×af)) (ep:Nat),kvs.map (·.1)=ks/\∀hp:aT,(∀b o,K.lookup b=aa o->hp.get? b=aa o)->hp.DictAt (dq P w) a kvs ep:=by
 obtain⟨_,nd,es,ep,l,f⟩:=h;obtain⟨h1,kvs,h2,h3⟩:=zgZ (P:=P) f;exact⟨kvs,ep,h3,λhp k=>⟨_,es,k _ _ l,⟨rfl,rfl,rfl⟩,rfl,λe he=>h1 e (by simpa using he),h2,by rw[h3];exact nd⟩⟩
def Itk(ks:List Str):It:=⟨λi _=>i<ks.length,λi H x H'=>H'=H/\∃z,ks[i]? =aa z/\x=.str z,λi _=>ks.length<=i⟩
def turn_keys{P:aK}{w:aO}{K:ag}{tg:Expr}{a it:ai}{ks:List Str}{kvs:List (Str×af)}{ep:Nat}(e:kvs.map (·.1)=ks)(hd:∀hp:aT,(∀b o,K.lookup b=aa o->hp.get? b=aa o)->hp.DictAt (dq P w) a kvs ep) :
  Turn P w K tg (Itk ks) [it] it (λi h=>h.IsKeyIter it a i kvs.length ep) where
 mem:=by simp
 obj:=λi h st b hb=>by
  have e:b=it:=by simpa using hb
  subst e;obtain⟨o,e,c,d⟩:=st;exact⟨o,e,λv z=>by rw[d]at z;cases z⟩
 keep:=λi h h' st k=>st.at λo e=>k it (by simp) o e
 item:=by
  intro X hP hw hK hc i pins s σ H E I hf st hg;subst hP hw hK;obtain⟨f0,f1,f2,f3,f4,f5⟩:=hf it (by simp);have hl:i<kvs.length:=by have h1:i<ks.length:=hg;rw[<- e,aw]at h1;exact h1
  refine wpAny_pyNext_dict_item (knd:=dq X.prog X.w) (k:=kvs[i].1) (v:=kvs[i].2) st (hd s.heap λb o e=>I.kIn b o e) (by rw[aN hl]) λkey h' hk st' sb=>?_;obtain⟨t,rfl⟩:=gy hk;have I1:Inv X pins σ H { s with heap:=h'}:=I.turned (t':=s.toks) (λb o hb e=>(sb.2 b hb).trans e) f0 f1 f3 f4 f5;exact⟨_,rfl,letGo_keyiter (s':={ s with heap:=h'}) st' ⟨.str kvs[i].1,H,I1,⟨t,rfl⟩,⟨rfl,_,by rw[<- e,aB,aN hl];rfl,rfl⟩,st',λb hb=>(hf b hb).1⟩⟩
 done:=by
  intro X hP hw hK hc i pins s σ H E I hf st hg;subst hP hw hK;obtain⟨f0,f1,f2,f3,f4,f5⟩:=hf it (by simp);have hl:kvs.length<=i:=by have h1:ks.length<=i:=hg;rw[<- e,aw]at h1;exact h1
  exact wpAny_pyNext_dict_end (knd:=dq X.prog X.w) (I.ok.hd hc) st (hd s.heap λb o e=>I.kIn b o e) (dz hl) λh' eb=>⟨rfl,I.turned (t':=s.toks) (λb o hb e=>eb b o hb e) f0 f1 f3 f4 f5⟩
 self:=λ_ _ _ _ _ st h=>wpAny_pyIter_keyiter st h
section
variable {X:Cx}{tg:Expr}
def iKeys(a:ai)(ks:List Str)(tl:TE):TI:=λσ H R=>tl σ H λx H1=>x=.ref a/\R (Itk ks) H1
def pi_keys{l:Expr}{tl:TE}{a:ai}{ks:List Str}(hk:KeysK X.w X.K a ks)(hl:PE X l tl):PI X tg l (iKeys a ks tl):=by
 intro pins s σ H R I h;refine thn (hl pins s σ H _ I h) ?_;rintro v s1 ⟨x,H1,I1,r1,q1⟩;obtain⟨e,q⟩:=q1;subst e;cases r1;obtain⟨kvs,ep,e,hd⟩:=hk.at (P:=X.prog);refine wpAny_pyIter_dict (knd:=dq X.prog X.w) hk.1 (hd s1.heap λb o e=>I1.kIn b o e) ?_;refine⟨s1.heap.objs.size,[s1.heap.objs.size],_,_,H1,rfl,I1.kept (t':=s1.toks) λb o e=>aj _ e,turn_keys e hd,⟨_,ay _ rfl,rfl,rfl⟩,λb hb=>?_,q⟩;have e:b=s1.heap.objs.size:=by simpa using hb
 subst e;exact I1.fpOk (am _) (I1.hok.fresh (am _))
end
end L2
namespace L3
open PySem PySem.Spec PyProof.Rows L2
def iK(ks:List Str):FI:=λ_=>aa (ks.map D.str)
def itOk_keys{B F0:Hp}{ks:List Str}:ItOk B F0 (Itk ks) (ks.map D.str):=λF H s1 s2 s3=>by
 refine⟨by simp[Itk],λi d e=>?_⟩;rw[aB]at e;by_cases hi:i<ks.length
 ·rw[aN hi]at e;cases e;refine⟨hi,λx H' y=>?_⟩;obtain⟨e',z,hz,y⟩:=y;rw[aN hi]at hz;cases hz;subst e' y;exact⟨F,Ex.refl s2,.str _⟩
 ·rw[dz (by lia)]at e;cases e
def GKeys(X:Cx)(x:Str)(ks:List Str):Prop:=∃a,X.mg x=aa (.ref a)/\KeysK X.w X.K a ks
def iik{X:Cx}{tg:Expr}{x:Str}{p:Pos}{ks:List Str}(hg:Gl X x)(hT:GKeys X x ks)(hd:(x==("__debug__" : Str))=false:=by decide):VI X tg (.Name x p) (iK ks):=by
 obtain⟨a,hm,hk⟩:=hT;refine⟨_,⟨pi_keys hk (wgl (v:=.ref a) hg ⟨_,hm,rfl⟩ hd).h⟩,λB F H σ δ ds R s q k=>?_⟩;cases q;exact⟨rfl,k _ F H (Ex.refl s.fh) itOk_keys⟩
end L3

namespace HT
open PySem PySem.Spec PyProof.Rows L2
section
variable {prog:aK}{w:aO}{A:aQ}{E:af->ah->Prop}{s:ah}
def zku(n:Nat):dc ab ab (-1) (n:Int)=((n:Int)-1,-1):=rfl
def zkO(n:Nat):bZ ((n:Int)-1) (-1) (-1)=n:=by
 unfold bZ;have h1:¬ ((-1:Int) > 0):=by lia
 simp only[h1,if_false];rw[show(- -1:Int)=1 by decide,kU];split <;> lia
def zjg{sl:ai}{vk:af}{n:Nat}{Q:Int×Int×Nat->ah->Prop}(hs:s.heap.IsSliceOf sl .none .none vk)(pk:IsPart vk (aa (-1)))
  (h:Q ((n:Int)-1,-1,n) s):av (model prog w) A (dC (.ref sl) (pure (n:Int))) Q E s:=by
 obtain⟨os,hos,hcs,hds⟩:=id hs;unfold dC hZ;refine ae (ae (wpAny_field hos hds (x:=.none) rfl (ae (wpAny_field hos hds (x:=.none) rfl (ae (wpAny_field hos hds (x:=vk) rfl (ak ?_)))))));refine ae (zfk pk ?_);show av _ _ (if ((-1:Int)==0)=true then _ else _) _ _ s;rw[if_neg (by decide)];refine ae (slicePart_none (ae (slicePart_none (ae (ak ?_)))));show av _ _ (match dc ab ab (-1) (n:Int)with|(lo,hi)=>pure (lo,(-1:Int),bZ lo hi (-1))) _ _ s;rw[zku];show av _ _ (pure ((n:Int)-1,(-1:Int),bZ ((n:Int)-1) (-1) (-1))) _ _ s;rw[zkO];exact ak h
def range_rev(n:Nat):(au n).map (λm=>n-1-m)=(au n).reverse:=by
 apply dM
 ·simp
 ·intro i h1 h2;simp
def pick_rev(xs:Array af):((au xs.size).filterMap λ(m:Nat)=>xs[((xs.size:Int)-1+(m:Int)*(-1)).toNat]?).toArray=xs.toList.reverse.toArray:=by
 have e:(λ(m:Nat)=>xs[((xs.size:Int)-1+(m:Int)*(-1)).toNat]?)=(λi=>xs[i]?) ∘ λm=>xs.size-1-m:=by
  funext m;show _=xs[xs.size-1-m]?;rw[show((xs.size:Int)-1+(m:Int)*(-1)).toNat=xs.size-1-m by lia]
 have g:=zjT xs 0 xs.size;have e0:(λ(m:Nat)=>xs[(((0:Nat):Int)+(m:Int)*1).toNat]?)=λi=>xs[i]?:=by
  funext m;rw[show(((0:Nat):Int)+(m:Int)*1).toNat=m by lia]
 rw[e0,fD,d5 (by simp)]at g;have g':(au xs.size).filterMap (λi=>xs[i]?)=xs.toList:=by have:=congrArg ju g;simpa using this
 rw[e,<- jx,range_rev,List.filterMap_reverse,g']
def getItem_tuple_rev{t sl:ai}{items:Array af}{vk:af}{Q:af->ah->Prop}(ht:IsTup s.heap t items)(hs:s.heap.IsSliceOf sl .none .none vk)(pk:IsPart vk (aa (-1)))
  (h:Q (.ref s.heap.objs.size) { s with heap:=s.heap.push { cls:=.type "tuple",data:=.seq items.toList.reverse.toArray}})
  (hsz:items.size<=aX):av (model prog w) A (getItem (.ref t) (.ref sl)) Q E s:=by
 have htake:sizeOk (.seq items.toList.reverse.toArray):=by
  show items.toList.reverse.toArray.size<=aX;simpa using hsz
 obtain⟨os,hos,hcs,hds⟩:=id hs;have hTs:s.TypeIs (.ref sl) "slice" :=⟨os,hos,hcs⟩
 unfold getItem
 try with_reducible refine cA ?_
 first|refine ae (ak ?_)|skip
 refine ae (wpAny_sequenceKey ht.typeIs (by decide) ?_);refine ae (wpAny_callSpecial?_slot (name:=bT "__getitem__") ht.typeIs bu
  (wpAny_call_entry bu ht.typeIs entry_tuple_getitem ?_ (args_tuple_getitem _ _)))
 show av _ _ (eI (.ref t) >>= _) _ _ s;refine ae (tupleItemsOf_ ht ?_);refine ae (wpAny_typeOf hTs ?_);rw[if_pos (by decide)];refine ae (zjg hs pk ?_);show av _ _ (if (((items.size:Int)-1)==0&&(-1:Int)==1&&items.size==items.size)=true then _ else _) _ _ s;rw[if_neg (by rw[show((-1:Int)==1)=false from rfl,d9,gC];decide),pick_rev]
 first
  |exact ae (m:=bG _) (wpAny_newObj_type (ak ⟨_,rfl,ak h⟩) htake)
  |exact ae (m:=bG _) (wpAny_newObj_type (ae (ak (ak ⟨_,rfl,ak h⟩))) htake)
  |exact ae (ae (m:=bG _) (wpAny_newObj_type (ak (ak ⟨_,rfl,ak h⟩)) htake))
  |exact ae (ae (m:=bG _) (wpAny_newObj_type (ak ⟨_,rfl,ak h⟩) htake))
end
end HT
namespace L2
open PySem PySem.Spec PyProof.Rows
def rev_text(z:Str)(u:Tok):jO z ab ab (-1,u)=L3.mkS z.cps.toList.reverse:=by
 have h:=step_rev_list z u;have e:(au z.length).map (λk=>z.cps.getD (z.length-1-k) 0)=z.cps.toList.reverse:=by
  apply dM
  ·simp[gi]
  ·intro i h1 h2;have h3:i<z.cps.size:=by simpa using h2
   have h4:z.cps.size-1-i<z.cps.size:=by lia
   simp[gi,Array.getD,h4]
 rw[e]at h;generalize jO z ab ab (-1,u)=y at h;obtain⟨⟨l⟩⟩:=y;cases h;rfl
def SvR(X:Cx)(r:V->Hp->VK->Prop):Prop:=
 ∀(pins:List (ai×Obj)) (s:ah) (σ:St) (H:Hp) (x:V) (v:af) (t:Tok) (sl:ai) (Q:VK),Inv X pins σ H s->RelV x v->s.heap.IsSliceOf sl .none .none (.int (-1) t)->r x H Q ->
  ∃T id,typeLookup (.type T) "__getitem__" =pure (aa (.builtin id))/\s.TypeIs v T/\av (model X.prog X.w) X.A (getItem v (.ref sl)) (EP X pins σ Q) X.xe s
section
variable {X:Cx}{e m:Expr}{te tm:TE}{pos p2:Pos}
def tSv(r:V->Hp->VK->Prop)(te tm:TE):TE:=λσ H Q=>te σ H λx H1=>tm σ H1 λk H2=>k=.int (-1)/\r x H2 Q
def pe_sv{r:V->Hp->VK->Prop}(hr:SvR X r)(he:PE X e te)(hm:PE X m tm):PE X (.Subscript e (.Slice ab ab (aa m) p2) pos) (tSv r te tm):=by
 intro pins s σ H Q I h;refine Subscript_ (thn (he pins s σ H _ I h) ?_);rintro v s1 ⟨x,H1,I1,r1,q1⟩;refine wpAny_Slice ?_;rw[evalPart_none];refine ak (ak ?_);rw[evalPart_some];refine thn (hm pins s1 σ H1 _ I1 q1) ?_;rintro u s2 ⟨k,H2,I2,r2,ek,q2⟩;subst ek;obtain⟨t,rfl⟩:=r2;have I4:Inv X pins σ H2 { s2 with heap:=s2.heap.push { cls:=.type "slice",data:=.fields #[.none,.none,.int (-1) t]}}:=I2.kept (t':=s2.toks) λb ob q=>aj _ q;obtain⟨T,id,hT,ht,hg⟩:=hr pins { s2 with heap:=s2.heap.push { cls:=.type "slice",data:=.fields #[.none,.none,.int (-1) t]}} σ H2 x v t s2.heap.objs.size Q I4 r1 (jy ..) q2;show av (model X.prog X.w) X.A (subscriptTail e (.Slice ab ab (aa m) p2) v (.ref s2.heap.objs.size)) (EP X pins σ Q) X.xe { s2 with heap:=s2.heap.push { cls:=.type "slice",data:=.fields #[.none,.none,.int (-1) t]}};exact tail_any (ops:=[v,.ref s2.heap.objs.size]) ht hT hg rfl
def sv_tup:SvR X (λx H Q=>∃a xs,x=.ref a/\SqT X.K H a xs/\∀p,H p=ab->Q (.ref p) (upd H p (.tup xs.reverse))):=by
 intro pins s σ H x v t sl Q I rx hs h;obtain⟨a,xs,rfl,hx,q⟩:=h;cases rx;obtain⟨its,r,ht,hz⟩:=I.tuple hx;have hlen:its.toArray.size=xs.length:=by rw[a9];exact r.length.symm
 refine⟨"tuple",_,bu.lookup,ht.typeIs,?_⟩;refine HT.getItem_tuple_rev ht hs (.int (-1) t) ?_ (by rw[hlen];exact hz);refine⟨.ref s.heap.objs.size,_,I.laid (t':=s.toks) (o:=.tup xs.reverse) (λb ob q=>aj _ q) (am _) ?_,rfl,q _ (I.hok.fresh (am _))⟩;have rr:Vals xs.reverse its.reverse:=by
  clear hx q hlen ht hz
  induction r with
  |nil=>exact .nil
  |cons h t ih=>
   rw[dD,dD];exact ih.append (.cons h .nil)
 exact⟨by rw[eN];exact hz,_,rr,TupN.new _ _⟩
def sv_str:SvR X (λx H Q=>∃z,x=.str z/\z.length<=aX/\Q (.str (L3.mkS z.cps.toList.reverse)) H):=by
 intro pins s σ H x v t sl Q I rx hs h;obtain⟨z,rfl,hz,q⟩:=h;obtain⟨tz,rfl⟩:=rx;obtain⟨o,ho,hc,hd⟩:=hs;refine⟨"str",_,iu.lookup,typeIs_str _ _ _,?_⟩;have fin:∀t' k,EP X pins σ Q (.str (jO z ab ab (-1,t)) t') { s with toks:=k}:=λt' k=>⟨.str _,H,I.tok k,⟨t',rfl⟩,by rw[rev_text];exact q⟩
 exact wpAny_getItem_str_slice (l:=ab) (u:=ab) (st:=aa (-1,t)) ⟨o,ho,hc,hd⟩ rfl (post_val_or_str ⟨aS (Txt.sliceBy_le z _ _ (-1,t) (show(-1:Int)≠0 by decide)) hz,fin⟩)
end
end L2
namespace L3
open PySem PySem.Spec PyProof.Rows L2
def gRvT:Ent->Option Ent:=λx=>(zcJ x).map λds=>.val (.tup ds.reverse)
noncomputable def gRvS:Ent->Option Ent:=λx=>(sOf x).bind λz=>gif (sz z.length) (aa (.val (.str (mkS z.cps.toList.reverse))))
section
variable {X:Cx}{e m:Expr}{fe:FE}{pos p2:Pos}
def vRvT(he:VE X e fe)(hm:VE X m (ex1 zd8 (eC (.int 1)))):VE X (.Subscript e (.Slice ab ab (aa m) p2) pos) (ex1 gRvT fe):=by
 obtain⟨t,w,q0⟩:=he.h;obtain⟨tm,wm,qm⟩:=hm.h;refine⟨_,⟨pe_sv sv_tup w.h wm.h⟩,λB F H σ δ res Q s q k=>?_⟩;obtain⟨en,q1,q⟩:=bind_some q;obtain⟨ds,q2,q⟩:=map_some q;cases q;cases zbu q2;refine q0 B F H σ δ _ _ s q1 λv F1 H1 x1 r1=>?_;refine qm B F1 H1 σ δ (.val (.int (-1))) _ (s.ext x1) rfl λu F2 H2 x2 r2=>⟨zbH r2,?_⟩
 cases (show Rep F1 v (.tup ds)from r1)with
 |tup e rs=>
  have xx:=x1.trans x2;refine⟨_,_,rfl,SqT.of (x2.hh _ _ (x1.fh _ _ e)),λr hr=>?_⟩;exact k _ _ _ (xx.trans (Ex.alloc xx.fh hr)) (.tup zam ((rs.rev.mono x2.ff).mono (Same.alloc (xx.fh.free hr))))
def vRvS(he:VE X e fe)(hm:VE X m (ex1 zd8 (eC (.int 1)))):VE X (.Subscript e (.Slice ab ab (aa m) p2) pos) (ex1 gRvS fe):=by
 obtain⟨t,w,q0⟩:=he.h;obtain⟨tm,wm,qm⟩:=hm.h;refine⟨_,⟨pe_sv sv_str w.h wm.h⟩,λB F H σ δ res Q s q k=>?_⟩;obtain⟨en,q1,q⟩:=bind_some q;obtain⟨z,q2,q⟩:=bind_some q;obtain⟨hl,qz⟩:=zaO q;cases qz;cases zaB q2;refine q0 B F H σ δ _ _ s q1 λv F1 H1 x1 r1=>?_;refine qm B F1 H1 σ δ (.val (.int (-1))) _ (s.ext x1) rfl λu F2 H2 x2 r2=>⟨zbH r2,?_⟩
 have xx:=x1.trans x2;exact⟨z,za1 r1,zdO hl,k _ F2 H2 xx (.str _)⟩
end
end L3

namespace L2
open PySem PySem.Spec PyProof.Rows
def Inv.turned2{X:Cx}{pins:List (ai×Obj)}{σ:St}{H:Hp}{s:ah}{h':aT}{t':Nat}{e it:ai}(I:Inv X pins σ H s)(k:∀b o,b≠e->b≠it->s.heap.get? b=aa o->h'.get? b=aa o)(fe:zfx X pins H e)(fi:zfx X pins H it) :
  Inv X pins σ H { s with heap:=h',toks:=t'}:=by
 have n1:∀b u,H b=aa u->b≠e:=λb u q z=>by rw[z,fe.1]at q;cases q
 have n2:∀b u,H b=aa u->b≠it:=λb u q z=>by rw[z,fi.1]at q;cases q
 have kc:∀b o,b∉[e,it]->s.heap.get? b=aa o->h'.get? b=aa o:=λb o hc q=>k b o (λz=>hc (by simp[z])) (λz=>hc (by simp[z])) q;refine I.step (g':=s.gens) (d':=s.drawn) (ch:=[e,it]) (λb hb=>?_) (λb o _ _ hc q _=>kc b o hc q) (λb o _ _ hc q _=>⟨o.slots,kc b o hc q⟩) (λ_ _ _ _ n=>n)
  (λb o hc q=>⟨o,kc b o hc q⟩) (λ_ _ q=>q) (λ_ _ _ q=>q) (λb ps q=>⟨#[],by rw[q];simp⟩) (λm hm=>?_) (λb u q=>?_) I.bare
 ·simp only[aF,bI,or_false]at hb;rcases hb with rfl|rfl
  ·exact⟨fe.2.2.2.1,fe.2.1,fe.2.2.2.2.1,fe.2.2.2.2.2⟩
  ·exact⟨fi.2.2.2.1,fi.2.1,fi.2.2.2.2.1,fi.2.2.2.2.2⟩
 ·obtain⟨o,es,ep,ho,r⟩:=hm;exact⟨o,es,ep,k _ o (cN fe.2.1) (cN fi.2.1) ho,r⟩
 ·refine(I.hok b u q).stay (λc v hc q'=>?_) (λ_ q=>q) λ_ _ q=>q;rcases hc with z|z
  ·rw[z]at q' ⊢;exact k b v (n1 b u q) (n2 b u q) q'
  ·exact k c v (n1 c _ z) (n2 c _ z) q'
structure ESt(e it a:ai)(i:Nat)(h:aT):Prop where
 he:∃old,IsEnum h e it (i:Int) old
 hi:h.IsListIter it a i
end L2
namespace L3
open PySem PySem.Spec PyProof.Rows L2
def enuD(ds:List D):List D:=ds.zipIdx.map λp=>D.tup [.int (p.2:Int),p.1]
section
variable {X:Cx}{e:Expr}{fe:FE}{p pos tpos:Pos}{es:List Expr}{n:Nat}
end
end L3

namespace L2
open PySem PySem.Spec PyProof.Rows
def drawsT{P:aK}{w:aO}{A:aQ}{it a:ai}{its:Array af}(hh:A.handled=ab)(hn:a≠it):Draws P w A.in1 it [it,a] its.size (λi x=>its[i]? =aa x) λi h=>h.IsTupleIter it a i/\h.IsTuple a its where
 live:=λi h st=>let⟨o,e,_⟩:=st.1;⟨o,e⟩
 frame:=λi h h' st k=>by
  obtain⟨⟨o,e,r⟩,o2,e2,r2⟩:=st;exact⟨⟨o,k it (by simp) o e,r⟩,o2,k a (by simp) o2 e2,r2⟩
 item:=λi s Q E hi st k=>zgP st.1 st.2 (eR hi) λh' st' sb=>k _ h' s.toks (eR hi) ⟨st',st.2.extBut sb.extBut hn⟩ sb
 done:=λs Q E st k=>zf7 hh st.1 st.2 (by simp) k
def endT{P:aK}{w:aO}{A:aQ}{E:af->ah->Prop}{s:ah}{e it a:ai}{i:Nat}{its:Array af}{old:af}{Q:Option af->ah->Prop}(hh:A.handled=ab)(hn:a≠it)
  (he:IsEnum s.heap e it (i:Int) old) (hi:s.heap.IsTupleIter it a i) (pl:s.heap.IsTuple a its) (hl:its.size<=i) (k:∀h',jN it s.heap h'->Q ab { s with heap:=h'}):av (model P w) A (pyNext (.ref e)) Q E s:=by
 have D:Draws P w A.in1 it [it,a] i (λ_ _=>False) λj h=>j=i/\h.IsTupleIter it a i/\h.IsTuple a its:=by
  refine⟨λj h st=>?_,λj h h' st k=>?_,λj s Q E hj st _=>?_,λs Q E st k=>zf7 hh st.2.1 st.2.2 (by simpa using hl) k⟩
  ·obtain⟨o,e,_⟩:=st.2.1;exact⟨o,e⟩
  ·obtain⟨ej,⟨o,e,r⟩,o2,e2,r2⟩:=st;exact⟨ej,⟨o,k it (by simp) o e,r⟩,o2,k a (by simp) o2 e2,r2⟩
  ·exact absurd st.1 (aL hj)
 exact wpAny_pyNext_enum_endD D he ⟨rfl,hi,pl⟩ k
set_option maxRecDepth 100000 in
def newT(a:ai)(its:Array af)(n:Nat)(dct:Option ai)(sl:Array (Option af)):Meets (Builtin.«enumerate.__new__» ⟨[.type "enumerate",.ref a],[]⟩) λ_ R s=>s.heap.get? a=aa ⟨.type "tuple",dct,.seq its n,sl⟩ /\
  R (.ok (.ret (.ref (s.heap.push { cls:=.type "tuple_iterator",data:=.fields #[.ref a,.int 0 0]}).objs.size))) { s with heap:=(s.heap.push { cls:=.type "tuple_iterator",data:=.fields #[.ref a,.int 0 0]}).push { cls:=.type "enumerate",data:=.fields #[.none,.bool false,.ref s.heap.objs.size,rawInt 0,.none,.none]}}:=by
 refine .of_wp λP w A R s h=>?_;obtain⟨hp,g,d,tk,os⟩:=s;obtain⟨ha,h⟩:=h;have hsub:=sub_enumerate;have hT:Heap.IsTuple (iW ⟨hp,g,d,tk,os⟩) a its:=⟨_,ha,rfl,n,rfl⟩
 wp_walk using e9 ha
 refine wpAny_stack_any λst=>ak ?_;split
 ·rename_i c _ _ _ _ _;cases (c==cR "enumerate") <;> (wp_walk using e9 ha,wpAny_pyIter_tuple hT;exact⟨_,rfl,h⟩)
 ·wp_walk using e9 ha,wpAny_pyIter_tuple hT
  exact⟨_,rfl,h⟩
def call_enuT{P:aK}{w:aO}{A:aQ}{E:af->ah->Prop}{s:ah}{a:ai}{its:Array af}{Q:af->ah->Prop}(hT:s.heap.IsTuple a its)
  (k:∀h',IsEnum h' (s.heap.objs.size+1) s.heap.objs.size 0 .none->h'.IsTupleIter s.heap.objs.size a 0->h'.objs.size=s.heap.objs.size+2->(∀b o,s.heap.get? b=aa o->h'.get? b=aa o)->Q (.ref (s.heap.objs.size+1)) { s with heap:=h'}):av (model P w) A (call (.type "enumerate") [.ref a]) Q E s:=by
 obtain⟨⟨c,dct,dt,sl⟩,ha,hc,n,hd⟩:=hT;have hc':c=.type "tuple" :=hc;have hd':dt=.seq its n:=hd;subst hc' hd';refine callType_new F.called_enumerate (by decide) (F.typeCall_enumerate_1 _) (F.newCall_enumerate_1 _) (λo=>F.args_object_init_2 o _) F.entry_enumerate_new (newT a its n dct sl) ⟨ha,?_⟩;have hz:(s.heap.push { cls:=.type "tuple_iterator",data:=.fields #[.ref a,.int 0 0]}).objs.size=s.heap.objs.size+1:=bD ..;have he:=ay (s.heap.push { cls:=.type "tuple_iterator",data:=.fields #[.ref a,.int 0 0]}) (o:={ cls:=.type "enumerate",data:=.fields #[.none,.bool false,.ref s.heap.objs.size,rawInt 0,.none,.none]}) rfl;show _/\_;rw[hz]at he ⊢;exact⟨⟨_,he,rfl⟩,k _ he ⟨_,aj _ (ay _ rfl),rfl,rfl⟩ (by rw[bD,hz]) λb o x=>aj _ (aj _ x)⟩
def IteT(K:ag)(a:ai):It:=
  ⟨λi H=>∃xs x,SqT K H a xs/\xs[i]? =aa x,
   λi H v H'=>∃p,H p=ab/\v=.ref p/\∀xs,SqT K H a xs->∃x,xs[i]? =aa x/\H'=upd H p (.tup [.int i,x]),
   λi H=>∃xs,SqT K H a xs/\xs.length<=i⟩
structure EStT(e it a:ai)(i:Nat)(h:aT):Prop where
 he:∃old,IsEnum h e it (i:Int) old
 hi:h.IsTupleIter it a i
def zkA{P:aK}{w:aO}{K:ag}{es:List Expr}{n:Nat}{pos:Pos}(e it a:ai)(ne:e≠it) :
  Turn P w K (.Tuple es n pos) (IteT K a) [e,it] e (λi h=>EStT e it a i h) where
 mem:=by simp
 obj:=λi h st c hc=>by
  obtain⟨⟨old,he⟩,o1,e1,_,d1⟩:=st;simp only[aF,bI,or_false]at hc;rcases hc with rfl|rfl
  ·exact⟨_,he,λv q=>by cases (show jM _=iE v from q)⟩
  ·exact⟨o1,e1,λv q=>by rw[d1]at q;cases q⟩
 keep:=λi h h' st k=>by
  obtain⟨⟨old,he⟩,o1,e1,r⟩:=st;exact⟨⟨old,k e (by simp) _ he⟩,o1,k it (by simp) _ e1,r⟩
 item:=by
  intro X hP hw hK hc i pins s σ H E I hf st hg;subst hP hw hK;obtain⟨xs,x,q1,hx⟩:=hg;obtain⟨⟨old,he⟩,hi⟩:=st;obtain⟨its,rv,pl,_⟩:=I.tuple q1;obtain⟨u,hu,ru⟩:=rv.get hx;have fe:=hf e (by simp);have fi:=hf it (by simp);have le:e<s.heap.objs.size:=aC he;have li:it<s.heap.objs.size:=by obtain⟨o1,e1,_⟩:=hi;exact aC e1
  have hp:a≠it:=λz=>by
   obtain⟨o1,e1,_,d1⟩:=hi;obtain⟨o2,e2,_,m2,d2⟩:=pl;rw[z,e1]at e2;cases e2;rw[d1]at d2;cases d2
  have hae:e≠a:=λz=>by
   obtain⟨o2,e2,_,m2,d2⟩:=pl;rw[<- z,he]at e2;cases e2;cases d2
  refine wpAny_pyNext_enum_itemD (drawsT (I.ok.hd hc) hp) he ⟨hi,pl⟩ (by have:=(a7.mp hu).1;simpa using this) ne (by simp[ne,hae]) λx' h1 tk hx' ho hi1 ht hz hk=>⟨_,rfl,?_⟩
  have hx2:x'=u:=by rw[i7,hu]at hx';exact(aR hx').symm
  subst hx2;have I1:Inv X pins σ (upd H s.heap.objs.size (.tup [.int i,x])) { s with heap:=s.heap.push { cls:=.type "tuple",data:=.seq #[.int i tk,x']},toks:=tk+1}:=
   I.laid (t':=tk+1) (o:=.tup [.int i,x]) (λc o q=>aj _ q) (am _) ⟨by show 2<=aX;rw[cq];lia,[.int i tk,x'],.cons ⟨_,rfl⟩ (.cons ru .nil),⟨_,ay _ rfl,rfl,0,by simp⟩⟩
  have hn:∀c∈[e,it],upd H s.heap.objs.size (.tup [.int i,x]) c=ab:=λc hc=>by
   have:c≠s.heap.objs.size:=by
    simp only[aF,bI,or_false]at hc;rcases hc with rfl|rfl
    ·exact aL le
    ·exact aL li
   rw[zar this];exact(hf c hc).1
  have fe1:zfx X pins (upd H s.heap.objs.size (.tup [.int i,x])) e:=⟨hn e (by simp),fe.2⟩
  have fi1:zfx X pins (upd H s.heap.objs.size (.tup [.int i,x])) it:=⟨hn it (by simp),fi.2⟩
  have I2:Inv X pins σ (upd H s.heap.objs.size (.tup [.int i,x])) { s with heap:=h1,toks:=tk+1}:=
   I1.turned2 (t':=tk+1) (h':=h1) (λb o h1' h2' q=>by
    by_cases hb:b=s.heap.objs.size
    ·subst hb;have:=ay s.heap (o:={ cls:=.type "tuple",data:=.seq #[.int i tk,x']}) rfl;rw[show(iW { s with heap:=s.heap.push { cls:=.type "tuple",data:=.seq #[.int i tk,x']},toks:=tk+1}).get? s.heap.objs.size=_ from this]at q;cases q;exact ht
    ·refine hk b o h1' h2' ?_;have q':(s.heap.push { cls:=.type "tuple",data:=.seq #[.int i tk,x']}).get? b=aa o:=q;rwa [hU _ _ _ hb]at q') fe1 fi1
  refine wpAny_letOwnedTupleGo_enum ho λh2 he2 hs2=>⟨.ref s.heap.objs.size,_,I2.turn1 fe1 hs2.extBut,rfl,⟨_,I.hok.fresh (am _),rfl,λys qy=>?_⟩,?_,hn⟩
  ·rw[I.tuple_inj qy q1];exact⟨x,hx,rfl⟩
  ·refine⟨⟨_,by rw[show((i+1:Nat):Int)=(i:Int)+1 by lia];exact he2⟩,?_⟩;exact hi1.1.extBut hs2.extBut (cN ne)
 done:=by
  intro X hP hw hK hc i pins s σ H E I hf st hg;subst hP hw hK;obtain⟨xs,q1,hx⟩:=hg;obtain⟨⟨old,he⟩,hi⟩:=st;obtain⟨its,rv,pl,_⟩:=I.tuple q1;have hl:=rv.length;have hp:a≠it:=λz=>by
   obtain⟨o1,e1,_,d1⟩:=hi;obtain⟨o2,e2,_,m2,d2⟩:=pl;rw[z,e1]at e2;cases e2;rw[d1]at d2;cases d2
  exact endT (I.ok.hd hc) hp he hi pl (by simp;lia) λh' ex=>⟨rfl,I.turn1 (hf it (by simp)) ex⟩
 self:=λA i s Q E st h=>let⟨_,he⟩:=st.he;wpAny_pyIter_enum he h
def iEnT(K:ag)(ta:TA):TI:=λσ H R=>ta σ H λvs H1=>∃a,vs=[.ref a]/\(∃xs,SqT K H1 a xs)/\R (IteT K a) H1
def pi_enumT{X:Cx}{es:List Expr}{n:Nat}{tpos p pos:Pos}{a:Expr}{ta:TA}(hg:Gl X "enumerate")(hm:X.mg "enumerate" =ab)(hb:aM "enumerate" =aa (.type "enumerate"))(ha:PA X [a] ta)(hs:aY [a] X.env=[(false,eval a X.env)]:=by rfl) :
  PI X (.Tuple es n tpos) (.Call (.Name "enumerate" p) [a] [] pos) (iEnT X.K ta):=by
 intro pins s σ H R I h;refine Call_ (zd7 I hg hm hb (bU (thn (ha pos pins s σ H _ I h) ?_) (by rw[hs];rfl) (by rfl)));rintro us s1 ⟨vs,H1,I1,r1,q1⟩;obtain⟨u,e,⟨xs,w1⟩,q⟩:=q1;subst e;cases r1 with
 |cons r rr=>
  cases rr;cases r;obtain⟨i1,v1,p1,_⟩:=I1.tuple w1;refine call_enuT p1 λg he hi hz up=>wpAny_pyIter_enum he ?_;have I2:Inv X pins σ H1 { s1 with heap:=g}:=I1.kept (t':=s1.toks) up;refine⟨_,_,_,_,H1,rfl,I2,zkA (s1.heap.objs.size+1) s1.heap.objs.size u (Nat.succ_ne_self _),⟨⟨_,he⟩,hi⟩,λc hc=>?_,q⟩;have hc':s1.heap.objs.size<=c:=by
   simp only[aF,bI,or_false]at hc;rcases hc with rfl|rfl
   ·exact cY _
   ·exact am _
  exact I1.fpOk hc' (I1.hok.fresh hc')
end L2
namespace L3
open PySem PySem.Spec PyProof.Rows L2
def zkr{K:ag}{B F0:Hp}{a:ai}{vs:List V}{ds:List D}(h1:∀F H,Same F0 F->Same F H->Same B H->SqT K H a vs)(r1:Reps F0 vs ds):ItOk B F0 (IteT K a) (enuD ds):=λF H s1 s2 s3=>by
 have q1:=h1 F H s1 s2 s3;have l1:=r1.length;refine⟨⟨vs,q1,?_⟩,λi d e=>?_⟩
 ·simp[enuD,l1]
 ·unfold enuD at e;rw[aB,List.getElem?_zipIdx]at e;cases z:ds[i]? with
  |none=>rw[z]at e;cases e
  |some d0=>
   rw[z]at e;simp only[eS,l5,bv]at e;obtain⟨v,g1,g2⟩:=r1.get z;refine⟨⟨vs,v,q1,g1⟩,λx H' y=>?_⟩;obtain⟨pp,hp,ex,y⟩:=y;obtain⟨v',y1,eH⟩:=y vs q1;rw[g1]at y1;cases y1;subst ex eH e;have sm:Same F (upd F pp (.tup [.int i,v])):=Same.alloc (s2.free hp);exact⟨_,Ex.alloc s2 hp,.tup zam (.cons (.int _) (.cons (Rep.mono (s1.trans sm) g2) .nil))⟩
def iEnuT(fe:FE):FI:=λδ=>((fe δ).bind zcJ).map enuD
def iienut{X:Cx}{e:Expr}{fe:FE}{p pos tpos:Pos}{es:List Expr}{n:Nat}(h:VE X e fe)(hg:Gl X "enumerate")(hm:X.mg "enumerate" =ab)(hb:aM "enumerate" =aa (.type "enumerate"))(n1:zaj e=true:=by rfl):VI X (.Tuple es n tpos) (.Call (.Name "enumerate" p) [e] [] pos) (iEnuT fe):=by
 obtain⟨t,w,m⟩:=h.h;refine⟨_,⟨pi_enumT hg hm hb (wac w wnil n1).h (by rw[zak n1];rfl)⟩,λB F H σ δ ds R s q k=>?_⟩;obtain⟨xs,q0,q2⟩:=map_some q;subst q2;obtain⟨r,q1,q3⟩:=bind_some q0;refine m B F H σ δ r _ s q1 λv F1 H1 x1 r1=>?_;unfold zcJ at q3;split at q3
 ·cases q3;cases r1 with
  |@tup a vs _ e rs=>exact⟨a,rfl,⟨vs,SqT.of (x1.fh _ _ e)⟩,k _ F1 H1 x1 (zkr (λF3 H3 a b _=>SqT.of (b _ _ (a _ _ e))) rs)⟩
 ·cases q3
end L3

namespace L3
open PySem PySem.Spec PyProof.Rows L2
def zhL(H:Hp)(A:List ai):Hp:=λa=>if a∈A then ab else H a
section
variable {K:ag}{B:Bd}{F H F' H' H0:Hp}{σ:Sg}{δ:En}{v:V}{A A':List ai}{a:ai}{u:HO}{i:Nat}{o o':OT}
def zec(h:a∈A):zhL H A a=ab:=if_pos h
def zg7(h:a∉A):zhL H A a=H a:=if_neg h
def zdd(h:zhL H A a=aa u):a∉A/\H a=aa u:=by
 by_cases q:a∈A
 ·rw[zec q]at h;cases h
 ·rw[zg7 q]at h;exact⟨q,h⟩
def zcG(h:a∉A)(e:H a=aa u):zhL H A a=aa u:=(zg7 h).trans e
structure Chg(H F F' H':Hp)(A:List ai):Prop where
 ff:Same F F'
 fh:Same F' H'
 st:Same (zhL H A) H'
 nw:∀a u,zhL H A a=aa u->isT u=false->F' a=F a
def TR.far{Aj:List ai}{w:V}{p:OT}(t:TR K F H w p Aj)(c:Chg H F F' H' A)(h:∀a∈Aj,a∉A):TR K F' H' w p Aj/\∀a∈Aj,F' a=F a:=
 ⟨t.move c.ff λa ha=>let⟨_,h1,_⟩:=t.lies a ha;(c.st _ _ (zcG (h a ha) h1)).trans h1.symm,λa ha=>let⟨_,h1,h2⟩:=t.lies a ha;c.nw _ _ (zcG (h a ha) h1) h2⟩
def RS.chg(s:RS K B F H σ δ)(hi:δ[i]? =aa (aa (.obj o)))(hs:σ[i]? =aa (aa v))(t:TR K F H v o A)(c:Chg H F F' H' A)(t':TR K F' H' v o' A')(n':A'.Nodup)(f':∀a∈A',F' a=ab/\zhL H A a=ab) :
  RS K B F' H' σ (δ.set i (aa (.obj o')))/\FX B F F':=by
 obtain⟨A0,t0,n0,f0⟩:=s.at hi hs;cases t0.det t;have hB:∀a u,(B:Hp) a=aa u->zhL H A a=aa u:=λa u h=>zcG (λha=>by rw[(f0 a ha).2]at h;cases h) (s.bh _ _ h);have far:∀(j:Nat) (e:Ent) (w:V) (a:ai),i≠j->δ[j]? =aa (aa e)->σ[j]? =aa (aa w)->Occ K F H w e a->a∉A:=λj e w a hij h1 h2 h3 ha=>s.ao i j _ e v w a hij hi hs h1 h2 rfl ⟨A,t,ha⟩ h3;have mv:∀(j:Nat) (w:V) (p:OT) (Aj:List ai),i≠j->δ[j]? =aa (aa (.obj p))->σ[j]? =aa (aa w)->TR K F H w p Aj->TR K F' H' w p Aj/\∀a∈Aj,F' a=F a:=λj w p Aj hij h1 h2 tj=>
  tj.far c λa ha=>far j _ w a hij h1 h2 ⟨Aj,tj,ha⟩
 have bk:∀(j:Nat) (e:Ent) (w:V) (a:ai),i≠j->δ[j]? =aa (aa e)->σ[j]? =aa (aa w)->Occ K F' H' w e a->Occ K F H w e a:=λj e w a hij z1 z2 z3=>z3.back (s.at z1 z2) λp Aj he tj=>by
  subst he;exact(mv j w p Aj hij z1 z2 tj).1
 refine⟨⟨c.fh,λa u h=>c.st a u (hB a u h),by simp[s.len],λj e q=>?_,λa b l2 es e' hab q1 q2 q3 q4=>?_,λa b e1 e2 v1 v2 ad hab q1 q2 q3 q4 q5 q6 q7=>?_,λw p hw hp=>?_⟩,⟨c.ff,λa u h ht=>c.nw a u (hB a u h) ht⟩⟩
 ·rw[bg]at q;by_cases hij:i=j
  ·subst hij;rw[if_pos rfl]at q;split at q
   ·cases q;exact⟨v,hs,A',t',n',λa ha=>⟨(f' a ha).1,by
     cases z:(B:Hp) a with
     |none=>rfl
     |some u=>have:=hB a u z;rw[(f' a ha).2]at this;cases this⟩⟩
   ·cases q
  ·rw[if_neg hij]at q;obtain⟨w,p1,p2⟩:=s.ent j e q;refine⟨w,p1,?_⟩;cases e with
   |val d=>exact Rep.mono c.ff p2
   |bor ds=>obtain⟨l,vs,e,p3,p4⟩:=p2;exact⟨l,vs,e,p3,p4.mono c.ff⟩
   |own es=>
    obtain⟨l,vs,e,p3,p4,p5,p6⟩:=p2;have hl:=far j _ w l hij q p1 e;exact⟨l,vs,e,c.st _ _ (zcG hl p3),p4.mono c.ff,(c.nw _ _ (zcG hl p3) rfl).trans p5,p6⟩
   |vw es=>
    obtain⟨l,vs,e,p3,p4⟩:=p2;have hl:=far j _ w l hij q p1 e;exact⟨l,vs,e,c.st _ _ (zcG hl p3),p4.mono c.ff⟩
   |obj p=>
    obtain⟨Aj,tj,nj,fj⟩:=p2;obtain⟨m1,m2⟩:=mv j w p Aj hij q p1 tj;exact⟨Aj,m1,nj,λa ha=>⟨(m2 a ha).trans (fj a ha).1,(fj a ha).2⟩⟩
   |bt ds=>obtain⟨l,vs,e,p3,p4⟩:=p2;exact⟨l,vs,e,p3,p4.mono c.ff⟩
 ·rw[bg]at q1 q3;by_cases hia:i=a
  ·subst hia;rw[if_pos rfl]at q1;split at q1 <;> cases q1
  ·rw[if_neg hia]at q1;by_cases hib:i=b
   ·subst hib;rw[if_pos rfl]at q3;split at q3
    ·cases q3;cases q4
    ·cases q3
   ·rw[if_neg hib]at q3;exact s.ap a b l2 es e' hab q1 q2 q3 q4
 ·have key:∀(j:Nat) (e:Ent) (w:V),i≠j->δ[j]? =aa (aa e)->σ[j]? =aa (aa w)->Occ K F' H' w e ad->Occ K F' H' v (.obj o') ad->False:=λj e w hij z1 z2 z3 z4=>by
   have z5:=bk j e w ad hij z1 z2 z3;obtain⟨u,hu⟩:=s.occ z1 z2 z5;obtain⟨A2,t2,h2⟩:=z4;rw[t2.det t']at h2;have:=(f' ad h2).2;rw[zcG (far j e w ad hij z1 z2 z5) hu]at this;cases this
  rw[bg]at q1 q3;by_cases hia:i=a
  ·subst hia;rw[if_pos rfl]at q1;rw[if_neg hab]at q3;split at q1
   ·cases q1;rw[hs]at q2;cases q2;exact key b e2 v2 hab q3 q4 q7 q6
   ·cases q1
  ·rw[if_neg hia]at q1;by_cases hib:i=b
   ·subst hib;rw[if_pos rfl]at q3;split at q3
    ·cases q3;rw[hs]at q4;cases q4;exact key a e1 v1 hia q1 q2 q6 q7
    ·cases q3
   ·rw[if_neg hib]at q3;exact s.ao a b e1 e2 v1 v2 ad hab q1 q2 q3 q4 q5 (bk a e1 v1 ad hia q1 q2 q6) (bk b e2 v2 ad hib q3 q4 q7)
 ·rw[bg]at hp;by_cases hi0:i=0
  ·subst hi0;exact s.pn w o hw hi
  ·rw[if_neg hi0]at hp;exact s.pn w p hw hp
def TRs.focus:∀{vs:List V} {os:List OT} {A:List ai} {k:Nat} {x:OT},TRs K F H vs os A->os[k]? =aa x->∃v A1,vs[k]? =aa v/\TR K F H v x A1/\(∀a∈A1,a∈A)/\(A.Nodup->A1.Nodup) /\
  ∀(F' H':Hp) (x':OT) (A1':List ai),A.Nodup->Same F F'->(∀a∈A,a∉A1->H' a=H a)->TR K F' H' v x' A1'->A1'.Nodup->(∀a∈A1',a∈A1\/a∉A)->∃A',TRs K F' H' vs (os.set k x') A'/\A'.Nodup/\∀a∈A',(a∈A/\a∉A1)\/a∈A1'
 | _,_,_,k,x,.nil,h=>by simp at h
 | _,_,_,0,x,.cons (A:=A0) (A':=A2) t ts,h=>by
  simp at h;subst h;refine⟨_,A0,rfl,t,λa ha=>bQ _ ha,λn=>(bP.mp n).1,λF' H' x' A1' n sf hh t' n' hd=>?_⟩;obtain⟨n0,n2,nd⟩:=bP.mp n;refine⟨A1'++A2,.cons t' (ts.move sf λa ha=>hh a (aI _ ha) λh0=>nd a h0 a ha rfl),bP.mpr ⟨n',n2,λa ha b hb e=>?_⟩,λa ha=>?_⟩
  ·subst e;rcases hd a ha with h|h
   ·exact nd a h a hb rfl
   ·exact h (aI _ hb)
  ·rcases br.mp ha with h|h
   ·exact .inr h
   ·exact .inl ⟨aI _ h,λh0=>nd a h0 a h rfl⟩
 | _,_,_,k+1,x,.cons (A:=A0) (A':=A2) t ts,h=>by
  obtain⟨v,A1,h1,h2,h3,h3n,h4⟩:=TRs.focus (k:=k) (x:=x) ts (by simpa using h)
  refine⟨v,A1,by simpa using h1,h2,λa ha=>aI _ (h3 a ha),λn=>h3n (bP.mp n).2.1,λF' H' x' A1' n sf hh t' n' hd=>?_⟩;obtain⟨n0,n2,nd⟩:=bP.mp n;obtain⟨A',m1,m2,m3⟩:=h4 F' H' x' A1' n2 sf (λa ha hn=>hh a (aI _ ha) hn) t' n' λa ha=>(hd a ha).imp id λz q=>z (aI _ q);refine⟨A0++A',.cons (t.move sf λa ha=>hh a (bQ _ ha) λz=>nd a ha a (h3 a z) rfl) m1,bP.mpr ⟨n0,m2,λa ha b hb e=>?_⟩,λa ha=>?_⟩
  ·subst e;rcases m3 a hb with h|h
   ·exact nd a ha a h.1 rfl
   ·rcases hd a h with h|h
    ·exact nd a ha a (h3 a h) rfl
    ·exact h (bQ _ ha)
  ·rcases br.mp ha with h|h
   ·exact .inl ⟨bQ _ h,λz=>nd a h a (h3 a z) rfl⟩
   ·exact(m3 a h).imp (λz=>⟨aI _ z.1,z.2⟩) id
def TRs.put{y:V}{x:OT}{A1:List ai}(ty:TR K F H y x A1):∀{vs:List V} {os:List OT} {A:List ai} {k:Nat},TRs K F H vs os A->k<os.length->A.Nodup->A1.Nodup->(∀a∈A1,a∉A)->∃A',TRs K F H (vs.set k y) (os.set k x) A'/\A'.Nodup/\∀a∈A',a∈A\/a∈A1
 | _,_,_,k,.nil,h,_,_,_=>by simp at h
 | _,_,_,0,.cons (A:=A0) (A':=A2) t ts,_,n,n1,hd=>by
  obtain⟨n0,n2,nd⟩:=bP.mp n;refine⟨A1++A2,.cons ty ts,bP.mpr ⟨n1,n2,λa ha b hb e=>?_⟩,λa ha=>?_⟩
  ·subst e;exact hd a ha (aI _ hb)
  ·exact(br.mp ha).elim .inr λz=>.inl (aI _ z)
 | _,_,_,k+1,.cons (A:=A0) (A':=A2) t ts,h,n,n1,hd=>by
  obtain⟨n0,n2,nd⟩:=bP.mp n;obtain⟨A',m1,m2,m3⟩:=TRs.put ty (k:=k) ts (by simpa using h) n2 n1 λa ha z=>hd a ha (aI _ z);refine⟨A0++A',.cons t m1,bP.mpr ⟨n0,m2,λa ha b hb e=>?_⟩,λa ha=>?_⟩
  ·subst e;rcases m3 a hb with z|z
   ·exact nd a ha a z rfl
   ·exact hd a z (bQ _ ha)
  ·rcases br.mp ha with z|z
   ·exact .inl (bQ _ z)
   ·exact(m3 a z).imp (aI _) id
def TRs.add{y:V}{x:OT}{A1:List ai}(ty:TR K F H y x A1):∀{vs:List V} {os:List OT} {A:List ai},TRs K F H vs os A->∃A',TRs K F H (vs++[y]) (os++[x]) A'/\A'=A++A1
 | _,_,_,.nil=>⟨A1,by simpa using TRs.cons ty .nil,by simp⟩
 | _,_,_,.cons (A:=A0) t ts=>by
  obtain⟨A',m1,m2⟩:=TRs.add ty ts;exact⟨A0++A',.cons t m1,by rw[m2,bw]⟩
def zeC:∀{ns:List Str} {vs:List V} {k:Nat} {f:Str} {v:V},ns.Nodup->ns[k]? =aa f->vs[k]? =aa v->(ns.zip vs).lookup f=aa v
 |[],_,_,_,_,_,h,_=>by simp at h
 | _::_,[],_,_,_,_,_,h=>by simp at h
 |n::ns,w::vs,0,f,v,_,h1,h2=>by
  simp at h1 h2;subst h1;subst h2;simp[cj]
 |n::ns,w::vs,k+1,f,v,nd,h1,h2=>by
  have h1':ns[k]? =aa f:=by simpa using h1
  have hne:(f==n)=false:=by
   rw[beq_eq_false_iff_ne];intro e;subst e;exact(aZ.mp nd).1 (bR h1')
  rw[dX,cj,hne];exact zeC (aZ.mp nd).2 h1' (by simpa using h2)
def zf0:∀{ns:List Str} {vs:List V} {f:Str},f∉ns->(ns.zip vs).lookup f=ab
 |[],_,_,_=>rfl
 | _::_,[],_,_=>rfl
 |n::ns,w::vs,f,h=>by
  have hne:(f==n)=false:=by
   rw[beq_eq_false_iff_ne];intro e;exact h (by simp[e])
  rw[dX,cj,hne];exact zf0 λz=>h (aq _ z)
def zj6:∀{ns:List Str} {vs:List V} {k:Nat} {f:Str} {y:V},ns.Nodup->ns[k]? =aa f->ns.length=vs.length->zgy f y (ns.zip vs)=ns.zip (vs.set k y)
 |[],_,_,_,_,_,h,_=>by simp at h
 | _::_,[],_,_,_,_,_,h=>by simp at h
 |n::ns,w::vs,0,f,y,_,h,_=>by
  simp at h;subst h;simp[zgy]
 |n::ns,w::vs,k+1,f,y,nd,h,hl=>by
  have h':ns[k]? =aa f:=by simpa using h
  have hne:¬ n=f:=λe=>by subst e;exact(aZ.mp nd).1 (bR h')
  rw[dX,zgy,if_neg hne,zj6 (aZ.mp nd).2 h' (by simpa using hl)];rfl
def putF_new{ns:List Str}{vs:List V}{f:Str}{y:V}(h:f∉ns)(hl:ns.length=vs.length):zgy f y (ns.zip vs)=(ns++[f]).zip (vs++[y]):=by
 induction ns generalizing vs with
 |nil=>
  cases vs with
  |nil=>rfl
  |cons w vs=>simp at hl
 |cons n ns ih=>
  cases vs with
  |nil=>simp at hl
  |cons w vs=>
   have hne:¬ n=f:=λe=>h (by simp[e]);rw[dX,zgy,if_neg hne,ih (λz=>h (aq _ z)) (by simpa using hl)];rfl
def toO:Ent->Option OT
 |.val d=>aa (.val d)
 |.own ds=>aa (.lst ds)
 |.obj o=>aa o
 | _=>ab
def RepR.toO{e:Ent}{x:OT}(r:RepR K H0 F H v e)(q:toO e=aa x):NObj K H0 F H v x:=by
 cases e with
 |val d=>cases q;exact⟨[],.val r,.nil,λa h=>by cases h⟩
 |own ds=>cases q;obtain⟨l,vs,e,h0,h1,rs,h2⟩:=r;subst e;exact⟨[l],.lst h1 rs,by simp,λa h=>by simp at h;subst h;exact⟨h2,h0⟩⟩
 |obj o=>cases q;obtain⟨_,A,t,n,h⟩:=r;exact⟨A,t,n,h⟩
 | _=>cases q
end
noncomputable def isC(c:Str)(ns:List Str):OT->Option (List OT)
 |.ins c' ns' l=>gif (c'=c/\ns'=ns) (aa l)
 | _=>ab
def zce{c:Str}{ns:List Str}{l:List OT}:isC c ns (.ins c ns l)=aa l:=zhx ⟨rfl,rfl⟩
def zd0{c:Str}{ns:List Str}{o:OT}{l:List OT}(h:isC c ns o=aa l):o=.ins c ns l:=by
 cases o with
 |ins c' ns' l'=>
  obtain⟨⟨h1,h2⟩,h3⟩:=zaO h;cases h3;rw[h1,h2]
 | _=>cases h
def oAt(i:Nat):En->Option OT:=λδ=>match δ[i]? with
 |some (aa (.obj o))=>aa o
 | _=>ab
def zbE{i:Nat}{δ:En}{o:OT}(h:oAt i δ=aa o):δ[i]? =aa (aa (.obj o)):=by
 unfold oAt at h;split at h
 ·rename_i o' e;cases h;exact e
 ·cases h
def fE:OT->Option Ent
 |.val d=>aa (.val d)
 |.lst ds=>aa (.vw ds)
 | _=>ab
noncomputable def zhT(i:Nat)(c:Str)(ns:List Str)(k:Nat):FE:=λδ=>((oAt i δ).bind (isC c ns)).bind λl=>(l[k]?).bind fE
structure ClsF(K:ag)(c:Str)(ns:List Str):Prop where
 h:∀C,zfG K c C->Cls K C/\∀f∈ns,NoAttr K C f
def zb8{K:ag}{c:Str}{C C':ai}(h:zfG K c C)(h':zfG K c C'):C=C':=by
 have:=h.symm.trans h';simp at this;exact this
section
variable {X:Cx}{e:Expr}{pos pos' p:Pos}{fe:FE}{x f c:Str}{i k:Nat}{ns nsF:List Str}
def vFld(i k:Nat)(hc:ClsF X.K c nsF)(hf:f∈nsF:=by decide +kernel)(hk:ns[k]? =aa f:=by rfl)(hn:ns.Nodup:=by decide +kernel)(hN:X.N[i]? =aa x:=by rfl)(hv:Vis X.env.scope x:=by first|exact aD rfl|exact bA (aD rfl)|exact bA (bA rfl))(hd:(x==("__debug__" : Str))=false:=by decide)
  (hcd:(x==("__classdict__" : Str))=false:=by decide) (hb:b9 (.Name x p) f X.env (eval (.Name x p) X.env)=eval (.Name x p) X.env:=by rfl):VE X (.Attribute (.Name x p) f pos) (zhT i c ns k):=by
 refine⟨_,⟨zj2 (wv i hN hv hd hcd).h hb⟩,λB F H σ δ r Q s q kk=>?_⟩;obtain⟨l,q1,q⟩:=bind_some q;obtain⟨o,q0,q1⟩:=bind_some q1;obtain⟨x1,q2,q⟩:=bind_some q;cases zd0 q1;obtain⟨v,h1,A,t,_,_⟩:=s.ent i _ (zbE q0);cases t with
 |ins hcl e1 e2 hl ts=>
  obtain⟨w,A1,h2,h3,_⟩:=ts.focus q2
  obtain⟨g1,g2⟩:=hc.h _ hcl;refine⟨_,h1,_,_,_,_,w,rfl,e1,g1,g2 f hf,zeC hn hk h2,?_⟩;cases x1 with
  |val d=>cases q;cases h3 with|val h3=>exact kk w F H (Ex.refl s.fh) h3
  |lst ds=>cases q;cases h3 with|lst h3 h4=>exact kk _ F H (Ex.refl s.fh) ⟨_,_,rfl,h3,h4⟩
  |ins _ _ _=>cases q
  |dcI _ _=>cases q
  |dcS _ _=>cases q
  |los _=>cases q
end
section
variable {K:ag}{B:Bd}{F H F1 H1 F' H' H0:Hp}{σ:Sg}{δ:En}{v w:V}{A A' A1 A1':List ai}{a dx C:ai}{i k:Nat}{o x' x1:OT}{c:Str}{ns ns':List Str}{vs vs':List V}{l l':List OT}
def RS.fld(s:RS K B F H σ δ)(x:Ex F H F1 H1)(hi:δ[i]? =aa (aa (.obj (.ins c ns l))))(hs:σ[i]? =aa (aa (.ref a)))(hcl:zfG K c C)(e1:H a=aa (.ins C dx (ns.zip vs)))(e2:H dx=aa (.own a))(hl:ns.length=vs.length)(ts:TRs K F H vs l A)(n:(a::dx::A).Nodup)
  (hl':ns'.length=vs'.length) (ts':TRs K F1 H1 vs' l' A') (n':A'.Nodup) (hA:∀b∈A',b∈A\/(F1 b=ab/\H b=ab)) :
  RS K B F1 (upd H1 a (.ins C dx (ns'.zip vs'))) σ (δ.set i (aa (.obj (.ins c ns' l'))))/\FX B F F1:=by
 have t:TR K F H (.ref a) (.ins c ns l) (a::dx::A):=.ins hcl e1 e2 hl ts;obtain⟨A0,t0,n0,f0⟩:=s.at hi hs;cases t0.det t;have fA:∀b∈a::dx::A,F1 b=ab:=λb hb=>((t.ext x).2 b hb).trans (f0 b hb).1;have hadx:a≠dx:=λe=>(aZ.mp n).1 (by rw[e];exact ax);have haA:a∉A:=λe=>(aZ.mp n).1 (aq _ e);have hdA:dx∉A:=(aZ.mp (aZ.mp n).2).1;have ha':a∉A':=λe=>(hA a e).elim haA λz=>by rw[e1]at z;cases z.2
 have hd':dx∉A':=λe=>(hA dx e).elim hdA λz=>by rw[e2]at z;cases z.2
 refine s.chg hi hs t ⟨x.ff,λb u h=>?_,λb u h=>?_,λb u h ht=>?_⟩ (.ins hcl zam (by rw[zar (cN hadx)];exact x.hh _ _ e2) hl' (ts'.move (Same.refl _) λb hb=>zar λe=>ha' (e ▸ hb))) ?_ λb hb=>?_
 ·rw[zar λe=>by subst e;rw[fA b ax]at h;cases h];exact x.fh _ _ h
 ·obtain⟨h1,h2⟩:=zdd h;rw[zar λe=>h1 (by rw[e];exact ax)];exact x.hh _ _ h2
 ·exact x.nw _ _ (zdd h).2 ht
 ·refine aZ.mpr ⟨λh=>?_,aZ.mpr ⟨hd',n'⟩⟩;rcases aF.mp h with e|e
  ·exact hadx e
  ·exact ha' e
 ·rcases aF.mp hb with e|hb
  ·subst e;exact⟨fA b ax,zec ax⟩
  ·rcases aF.mp hb with e|hb
   ·subst e;exact⟨fA b (aq _ ax),zec (aq _ ax)⟩
   ·rcases hA b hb with z|z
    ·exact⟨fA b (aq _ (aq _ z)),zec (aq _ (aq _ z))⟩
    ·refine⟨z.1,?_⟩;unfold zhL;split
     ·rfl
     ·exact z.2
def RS.sub(s:RS K B F H σ δ)(hi:δ[i]? =aa (aa (.obj (.ins c ns l))))(hs:σ[i]? =aa (aa (.ref a)))(hcl:zfG K c C)(e1:H a=aa (.ins C dx (ns.zip vs)))(e2:H dx=aa (.own a))(hl:ns.length=vs.length)(ts:TRs K F H vs l A)
  (hk:l[k]? =aa x1) (hv:vs[k]? =aa w) (t1:TR K F H w x1 A1) (ch:Chg H F F' H' A1) (t':TR K F' H' w x' A1') (n':A1'.Nodup) (f':∀b∈A1',F' b=ab/\zhL H A1 b=ab) :
  RS K B F' H' σ (δ.set i (aa (.obj (.ins c ns (l.set k x')))))/\FX B F F':=by
 have t:TR K F H (.ref a) (.ins c ns l) (a::dx::A):=.ins hcl e1 e2 hl ts;obtain⟨A0,t0,n,f0⟩:=s.at hi hs;cases t0.det t;obtain⟨w',B1,hw,tb,sb,_,go⟩:=ts.focus hk
 rw[hv]at hw;cases hw;cases tb.det t1;have haA:a∉A:=λe=>(aZ.mp n).1 (aq _ e);have hadx:a≠dx:=λe=>(aZ.mp n).1 (by rw[e];exact ax);have hdA:dx∉A:=(aZ.mp (aZ.mp n).2).1;have nA:A.Nodup:=(aZ.mp (aZ.mp n).2).2;have stay:∀b u,b∉A1->H b=aa u->H' b=aa u:=λb u hb hu=>ch.st _ _ (zcG hb hu);have new:∀b∈A1',∀u,b∉A1->H b≠aa u:=λb hb u h1 h2=>by have:=(f' b hb).2;rw[zcG h1 h2]at this;cases this
 obtain⟨A2,m1,m2,m3⟩:=go F' H' x' A1' nA ch.ff (λb hb hn=>by
  obtain⟨u,hu,_⟩:=ts.lies b hb;rw[stay b u hn hu,hu]) t' n' λb hb=>by
   by_cases h1:b∈A1
   ·exact .inl h1
   ·exact .inr λh2=>by obtain⟨u,hu,_⟩:=ts.lies b h2;exact new b hb u h1 hu
 have ha1:a∉A1:=λe=>haA (sb a e);have hd1:dx∉A1:=λe=>hdA (sb dx e);have ha2:a∉A2:=λe=>(m3 a e).elim (λz=>haA z.1) λz=>new a z _ ha1 e1;have hd2:dx∉A2:=λe=>(m3 dx e).elim (λz=>hdA z.1) λz=>new dx z _ hd1 e2;refine s.chg hi hs t ⟨ch.ff,ch.fh,λb u h=>?_,λb u h ht=>?_⟩ (.ins hcl (stay _ _ ha1 e1) (stay _ _ hd1 e2) hl m1) ?_ λb hb=>?_
 ·obtain⟨h1,h2⟩:=zdd h;exact stay b u (λe=>h1 (aq _ (aq _ (sb b e)))) h2
 ·obtain⟨h1,h2⟩:=zdd h;exact ch.nw b u (zcG (λe=>h1 (aq _ (aq _ (sb b e)))) h2) ht
 ·refine aZ.mpr ⟨λh=>?_,aZ.mpr ⟨hd2,m2⟩⟩;rcases aF.mp h with e|e
  ·exact hadx e
  ·exact ha2 e
 ·have old:∀b u,b∈a::dx::A->b∉A1->H b=aa u->isT u=false->F' b=ab/\zhL H (a::dx::A) b=ab:=λb u h1 h2 h3 h4=>⟨(ch.nw b u (zcG h2 h3) h4).trans (f0 b h1).1,zec h1⟩
  rcases aF.mp hb with e|hb
  ·subst e;exact old b _ ax ha1 e1 rfl
  ·rcases aF.mp hb with e|hb
   ·subst e;exact old b _ (aq _ ax) hd1 e2 rfl
   ·rcases m3 b hb with z|z
    ·obtain⟨u,hu,hu'⟩:=ts.lies b z.1;exact old b u (aq _ (aq _ z.1)) z.2 hu hu'
    ·refine⟨(f' b z).1,?_⟩;by_cases h1:b∈A1
     ·exact zec (aq _ (aq _ (sb b h1)))
     ·have:=(f' b z).2;rw[zg7 h1]at this;unfold zhL;split
      ·rfl
      ·exact this
end
noncomputable def zgw(i:Nat)(c:Str)(ns:List Str)(k:Nat)(fe:FE):FS:=λδ=>((fe δ).bind toO).bind λy=>((oAt i δ).bind (isC c ns)).bind λl=>if k<l.length then aa (.nx (δ.set i (aa (.obj (.ins c ns (l.set k y))))))else ab
noncomputable def zgf(i:Nat)(c:Str)(ns:List Str)(f:Str)(fe:FE):FS:=λδ=>((fe δ).bind toO).bind λy=>((oAt i δ).bind (isC c ns)).bind λl=>aa (.nx (δ.set i (aa (.obj (.ins c (ns++[f]) (l++[y]))))))
def lOf:OT->Option (List D)
 |.lst ds=>aa ds
 | _=>ab
noncomputable def fFApp(i:Nat)(c:Str)(ns:List Str)(k:Nat)(fe:FE):FS:=λδ=>((oAt i δ).bind (isC c ns)).bind λl=>((l[k]?).bind lOf).bind λds=>((fe δ).bind asV).bind λd=>gif (sz (ds.length+1)) (aa (.nx (δ.set i (aa (.obj (.ins c ns (l.set k (.lst (ds++[d])))))))))
section
variable {X:Cx}{e:Expr}{pos pos' p:Pos}{fe:FE}{x f c:Str}{i k:Nat}{ns nsF:List Str}
def sFSet(i k:Nat)(hc:ClsF X.K c nsF)(he:VE X e fe)(hf:f∈nsF:=by decide +kernel)(hk:ns[k]? =aa f:=by rfl)(hn:ns.Nodup:=by decide +kernel)(hfew:ns.length<1000:=by decide)(hN:X.N[i]? =aa x:=by rfl)(hv:Vis X.env.scope x:=by first|exact aD rfl|exact bA (aD rfl)|exact bA (bA rfl))(hd:(x==("__debug__" : Str))=false:=by decide)
  (hcd:(x==("__classdict__" : Str))=false:=by decide) (hs:swapsWith e (aa (.Attribute (.Name x p) f pos')) pos.line X.env=pure false:=by rfl):VS X (.Assign [.Attribute (.Name x p) f pos'] e pos) (zgw i c ns k fe):=by
 obtain⟨t,w,m⟩:=he.h;refine⟨_,⟨ps_fld (wv i hN hv hd hcd).h w.h hs⟩,λB F H σ δ out DD s q kk=>?_⟩;obtain⟨y,q1,q⟩:=bind_some q;obtain⟨r,q1,q2⟩:=bind_some q1;obtain⟨l,q3,q⟩:=bind_some q;obtain⟨o,q3,q4⟩:=bind_some q3;split at q
 ·rename_i hlt;cases q;cases zd0 q4;refine m B F H σ δ r _ s q1 λyv F1 H1 x1 z=>?_;obtain⟨v,h1,A,t,n,h⟩:=s.ent i _ (zbE q3);cases t with
  |ins hcl e1 e2 hl ts=>
   obtain⟨g1,g2⟩:=hc.h _ hcl;obtain⟨A1,ty,n1,f1⟩:=z.toO q2;have nA:=(aZ.mp (aZ.mp n).2).2;obtain⟨A',m1,m2,m3⟩:=TRs.put ty (ts.move x1.ff λb hb=>let⟨u,hu,_⟩:=ts.lies b hb;(x1.hh _ _ hu).trans hu.symm) hlt nA n1 λb hb hb'=>by
    obtain⟨u,hu,_⟩:=ts.lies b hb';rw[(f1 b hb).2]at hu;cases hu
   obtain⟨r1,r2⟩:=s.fld (ns':=ns) x1 (zbE q3) h1 hcl e1 e2 hl ts n (by rw[List.length_set];exact hl) m1 m2 λb hb=>(m3 b hb).imp id λz=>f1 b z;refine⟨_,h1,_,_,_,_,rfl,x1.hh _ _ e1,g1,g2 f hf,?_,?_⟩
   ·rw[iM];lia
   ·rw[zj6 hn hk hl];exact kk σ F1 _ r1 r2
 ·cases q
def zh3(i:Nat)(hc:ClsF X.K c nsF)(he:VE X e fe)(hf:f∈nsF:=by decide +kernel)(hn:f∉ns:=by decide +kernel)(hfew:ns.length<1000:=by decide)(hN:X.N[i]? =aa x:=by rfl)(hv:Vis X.env.scope x:=by first|exact aD rfl|exact bA (aD rfl)|exact bA (bA rfl))(hd:(x==("__debug__" : Str))=false:=by decide)
  (hcd:(x==("__classdict__" : Str))=false:=by decide) (hs:swapsWith e (aa (.Attribute (.Name x p) f pos')) pos.line X.env=pure false:=by rfl):VS X (.Assign [.Attribute (.Name x p) f pos'] e pos) (zgf i c ns f fe):=by
 obtain⟨t,w,m⟩:=he.h;refine⟨_,⟨ps_fld (wv i hN hv hd hcd).h w.h hs⟩,λB F H σ δ out DD s q kk=>?_⟩;obtain⟨y,q1,q⟩:=bind_some q;obtain⟨r,q1,q2⟩:=bind_some q1;obtain⟨l,q3,q⟩:=bind_some q;obtain⟨o,q3,q4⟩:=bind_some q3;cases q;cases zd0 q4;refine m B F H σ δ r _ s q1 λyv F1 H1 x1 z=>?_;obtain⟨v,h1,A,t,n,h⟩:=s.ent i _ (zbE q3);cases t with
 |ins hcl e1 e2 hl ts=>
  obtain⟨g1,g2⟩:=hc.h _ hcl;obtain⟨A1,ty,n1,f1⟩:=z.toO q2;have nA:=(aZ.mp (aZ.mp n).2).2;obtain⟨A',m1,m2⟩:=TRs.add ty (ts.move x1.ff λb hb=>let⟨u,hu,_⟩:=ts.lies b hb;(x1.hh _ _ hu).trans hu.symm);subst m2;obtain⟨r1,r2⟩:=s.fld (ns':=ns++[f]) x1 (zbE q3) h1 hcl e1 e2 hl ts n (by simp[hl]) m1 (bP.mpr ⟨nA,n1,λb hb b' hb' e=>by
   subst e;obtain⟨u,hu,_⟩:=ts.lies b hb;rw[(f1 b hb').2]at hu;cases hu⟩) λb hb=>(br.mp hb).imp id λz=>f1 b z
  refine⟨_,h1,_,_,_,_,rfl,x1.hh _ _ e1,g1,g2 f hf,?_,?_⟩
  ·rw[iM];lia
  ·rw[putF_new hn hl];exact kk σ F1 _ r1 r2
def sFApp(i k:Nat){apos cpos:Pos}(hc:ClsF X.K c nsF)(he:VE X e fe)(hf:f∈nsF:=by decide +kernel)(hk:ns[k]? =aa f:=by rfl)(hn:ns.Nodup:=by decide +kernel)(hN:X.N[i]? =aa x:=by rfl)(hv:Vis X.env.scope x:=by first|exact aD rfl|exact bA (aD rfl)|exact bA (bA rfl))(hd:(x==("__debug__" : Str))=false:=by decide)
  (hcd:(x==("__classdict__" : Str))=false:=by decide) (hb:b9 (.Name x p) f X.env (eval (.Name x p) X.env)=eval (.Name x p) X.env:=by rfl)
  (hbase:b9 (.Attribute (.Name x p) f pos') "append" X.env (eval (.Attribute (.Name x p) f pos') X.env)=eval (.Attribute (.Name x p) f pos') X.env:=by rfl) (hline:(apos.endLine==cpos.line)=true:=by rfl) (h1:zaj e=true:=by rfl)
  (hs:swapsWith (.Call (.Attribute (.Attribute (.Name x p) f pos') "append" apos) [e] [] cpos) ab pos.line X.env=pure false:=by rfl) :
  VS X (.Expr (.Call (.Attribute (.Attribute (.Name x p) f pos') "append" apos) [e] [] cpos) pos) (fFApp i c ns k fe):=by
 obtain⟨t,w,m⟩:=he.h;refine⟨_,sex (wbm fK im ip ze8 ⟨zj2 (wv i hN hv hd hcd).h hb⟩ (wac w wnil h1) hbase rfl hline h1 rfl) hs,λB F H σ δ out DD s q kk=>?_⟩;obtain⟨l,q3,q⟩:=bind_some q;obtain⟨o,q3,q4⟩:=bind_some q3;obtain⟨ds,q5,q⟩:=bind_some q;obtain⟨x1,q5,q6⟩:=bind_some q5;obtain⟨d,q1,q⟩:=bind_some q;obtain⟨r,q1,q2⟩:=bind_some q1;obtain⟨hlen,qz⟩:=zaO q;cases qz;cases zd0 q4;obtain⟨v,h1,A,t,n,h⟩:=s.ent i _ (zbE q3);cases t with
 |ins hcl e1 e2 hl ts=>
  obtain⟨g1,g2⟩:=hc.h _ hcl;obtain⟨w,A1,h2,h3,h4,_⟩:=ts.focus q5
  refine⟨_,h1,_,_,_,_,w,rfl,e1,g1,g2 f hf,zeC hn hk h2,?_⟩;cases x1 with
  |val _=>cases q6
  |ins _ _ _=>cases q6
  |dcI _ _=>cases q6
  |dcS _ _=>cases q6
  |los _=>cases q6
  |lst _=>
   cases q6;cases h3 with
   |@lst ad vs _ h5 h6=>
    refine⟨.inl ⟨rfl,_,SqL.of h5⟩,?_⟩;refine m B F H σ δ r _ s q1 λy F1 H1 x1 z=>?_;obtain⟨F2,x2,sm,r2⟩:=RepR.frz x1 (Same.refl _) z q2;refine⟨ad,vs,y,rfl,rfl,x2.hh _ _ h5,?_,?_⟩
    ·rw[h6.length,cq];unfold sz at hlen;lia
    ·have fl:F2 ad=ab:=(x2.nw _ _ h5 rfl).trans (h ad (aq _ (aq _ (h4 ad (by simp))))).1;obtain⟨z1,z2⟩:=s.sub (A1:=[ad]) (H':=upd H1 ad (.lst (vs++[y]))) (x':=.lst (ds++[d])) (zbE q3) h1 hcl e1 e2 hl ts q5 h2 (.lst h5 h6) ⟨x2.ff,λb u hb=>by
       rw[zar λe=>by subst e;rw[fl]at hb;cases hb];exact x2.fh _ _ hb,λb u hb=>by
       obtain⟨z1,z2⟩:=zdd hb;rw[zar λe=>z1 (by simp[e])];exact x2.hh _ _ z2,λb u hb ht=>x2.nw _ _ (zdd hb).2 ht⟩
      (.lst zam ((h6.mono x2.ff).append (.one r2))) (by simp) λb hb=>by
       simp at hb;subst hb;exact⟨fl,zec (by simp)⟩
     exact kk σ F2 _ z1 z2
end
end L3

namespace L3
open PySem PySem.Spec PyProof.Rows L2
abbrev FXE:=En->Option (D×En)
abbrev FXT:=En->Option (Bool×En)
abbrev FXA:=En->Option (List D×En)
abbrev GM:=OT->List D->Option (D×OT)
def SemX(K:ag)(t:TE)(f:FXE):Prop:=∀(B:Bd) (F H:Hp) (σ:Sg) (δ:En) (d:D) (δ':En) (Q:VK),RS K B F H σ δ->f δ=aa (d,δ')->(∀v F' H',RS K B F' H' σ δ'->FX B F F'->Rep F' v d->Q v H')->t σ H Q
def SemXT(K:ag)(t:TT)(f:FXT):Prop:=∀(B:Bd) (F H:Hp) (σ:Sg) (δ:En) (b:Bool) (δ':En) (Q:Bool->Hp->Prop),RS K B F H σ δ->f δ=aa (b,δ')->(∀F' H',RS K B F' H' σ δ'->FX B F F'->Q b H')->t σ H Q
def SemXA(K:ag)(t:TA)(f:FXA):Prop:=∀(B:Bd) (F H:Hp) (σ:Sg) (δ:En) (ds:List D) (δ':En) (Q:List V->Hp->Prop),RS K B F H σ δ->f δ=aa (ds,δ')->(∀vs F' H',RS K B F' H' σ δ'->FX B F F'->Reps F' vs ds->Q vs H')->t σ H Q
structure VX(X:Cx)(e:Expr)(f:FXE):Prop where
 h:∃t,WE X e t/\SemX X.K t f
structure VXT(X:Cx)(e:Expr)(f:FXT):Prop where
 h:∃t,WT X e t/\SemXT X.K t f
structure VXA(X:Cx)(es:List Expr)(f:FXA):Prop where
 h:∃t,WA X es t/\SemXA X.K t f
def xP(fe:FE):FXE:=λδ=>((fe δ).bind asV).map λd=>(d,δ)
def x2(g:Ent->Ent->Option Ent)(fa fb:FXE):FXE:=λδ=>(fa δ).bind λp=>(fb p.2).bind λq=>((g (.val p.1) (.val q.1)).bind asV).map λd=>(d,q.2)
section
variable {X:Cx}{a b c e:Expr}{es rest:List Expr}{pos p:Pos}{fa fb:FXE}{fs:FXA}{ft:FXT}{fe:FE}{x:Str}
def xpure(he:VE X e fe):VX X e (xP fe):=by
 obtain⟨t,w,m⟩:=he.h;refine⟨t,w,λB F H σ δ d δ' Q s q k=>?_⟩;obtain⟨d',q1,q⟩:=map_some q;cases q;obtain⟨r,q1,q2⟩:=bind_some q1;refine m B F H σ δ r _ s q1 λv F1 H1 x1 z=>?_;obtain⟨F2,x2,_,r2⟩:=RepR.frz x1 (Same.refl _) z q2;exact k v F2 H1 (s.ext x2) (.of x2 s.bh) r2
def SemX.op{K:ag}{r:R2}{ta tb:TE}{g:Ent->Ent->Option Ent}(hr:zkF K r g)(ha:SemX K ta fa)(hb:SemX K tb fb):SemX K (tOp r ta tb) (x2 g fa fb):=λB F H σ δ d δ' Q s q k=>by
 obtain⟨p1,q1,q⟩:=bind_some q;obtain⟨p2,q2,q⟩:=bind_some q;obtain⟨d',q3,q⟩:=map_some q;cases q;obtain⟨res,q3,q4⟩:=bind_some q3;refine ha B F H σ δ p1.1 p1.2 _ s q1 λv F1 H1 s1 y1 r1=>?_;refine hb B F1 H1 σ p1.2 p2.1 p2.2 _ s1 q2 λw F2 H2 s2 y2 r2=>?_;refine hr H2 F2 H2 v w (.val p1.1) (.val p2.1) res Q s2.fh (Same.refl _) (Rep.mono y2.ff r1) r2 q3 λv' F' H' x3 r3=>?_;obtain⟨F4,x4,_,r4⟩:=RepR.frz x3 (Same.refl _) r3 q4;exact k v' F4 H' (s2.ext x4) ((y1.trans y2).trans (.of x4 s2.bh)) r4
def xop{op:Operator}{g:Ent->Ent->Option Ent}(ho:OpD X (binaryOp op) g)(ha:VX X a fa)(hb:VX X b fb):VX X (.BinOp a op b pos) (x2 g fa fb):=
 let⟨_,wa,sa⟩:=ha.h;let⟨_,wb,sb⟩:=hb.h;let⟨_,h1,h2⟩:=ho;⟨_,wop h1 wa wb,.op h2 sa sb⟩
end
def fX(fx:FXE):FS:=λδ=>(fx δ).map λp=>.nx p.2
def fXSet(i:Nat)(fx:FXE):FS:=λδ=>(fx δ).map λp=>.nx (p.2.set i (aa (.val p.1)))
def fXRet(fx:FXE):FS:=λδ=>(fx δ).map λp=>.rt (.val p.1) p.2
def fSetO(i:Nat)(fe:FE):FS:=λδ=>(fe δ).bind λr=>match r with
 |.obj o=>aa (.nx (δ.set i (aa (.obj o))))
 | _=>ab
section
variable {X:Cx}{e c:Expr}{pos pos' p:Pos}{fx:FXE}{ft:FXT}{fe:FE}{x:Str}{body els:List Stmt}{f g:FS}
def sX(h:VX X e fx)(hs:swapsWith e ab pos.line X.env=pure false:=by rfl):VS X (.Expr e pos) (fX fx):=by
 obtain⟨t,w,m⟩:=h.h;refine⟨_,sex w hs,λB F H σ δ out DD s q k=>?_⟩;obtain⟨p1,q1,q⟩:=map_some q;cases q;exact m B F H σ δ p1.1 p1.2 _ s q1 λv F1 H1 s1 y1 _=>k σ F1 H1 s1 y1
def sXSet{i:Nat}(hN:X.N.Nodup)(hi:X.N[i]? =aa x)(hx:Loc X.env.scope x)(h:VX X e fx)(hs:swapsWith e (aa (.Name x pos')) pos.line X.env=pure false:=by rfl)(hf:X.fn x=true\/X.env.scope.names.lookup x=aa .local:=by first|exact .inl rfl|exact .inr rfl|assumption) :
  VS X (.Assign [.Name x pos'] e pos) (fXSet i fx):=by
 obtain⟨t,w,m⟩:=h.h;refine⟨_,sset hN hi hx w hs hf,λB F H σ δ out DD s q k=>?_⟩;obtain⟨p1,q1,q⟩:=map_some q;cases q;exact m B F H σ δ p1.1 p1.2 _ s q1 λv F1 H1 s1 y1 r1=>k _ F1 H1 (s1.putV i r1) y1
def sXRet(h:VX X e fx):VS X (.Return (aa e) pos) (fXRet fx):=by
 obtain⟨t,w,m⟩:=h.h;refine⟨_,sret w,λB F H σ δ out DD s q k=>?_⟩;obtain⟨p1,q1,q⟩:=map_some q;cases q;exact m B F H σ δ p1.1 p1.2 _ s q1 λv F1 H1 s1 y1 r1=>k v σ F1 H1 s1 y1 r1
def sSetO{i:Nat}(h0:0<i)(hN:X.N.Nodup)(hi:X.N[i]? =aa x)(hx:Loc X.env.scope x)(he:VE X e fe)(hs:swapsWith e (aa (.Name x pos')) pos.line X.env=pure false:=by rfl)(hf:X.fn x=true\/X.env.scope.names.lookup x=aa .local:=by first|exact .inl rfl|exact .inr rfl|assumption) :
  VS X (.Assign [.Name x pos'] e pos) (fSetO i fe):=by
 obtain⟨t,w,m⟩:=he.h;refine⟨_,sset hN hi hx w hs hf,λB F H σ δ out DD s q k=>?_⟩;obtain⟨r,q1,q⟩:=bind_some q;cases r with
 |obj o=>cases q;exact m B F H σ δ _ _ s q1 λv F' H' x z=>k _ F' H' (s.putO x i h0 z) (.of x s.bh)
 | _=>cases q
end
inductive SpM(K:ag)(g:GM)(vs:List V)(H:Hp)(Q:VK):Prop
 |mk (v:V) (ws:List V) (F:Hp) (o:OT) (A:List ai) (ds:List D) (d:D) (o':OT):vs=v::ws->Same F H->TR K F H v o A->A.Nodup->(∀a∈A,F a=ab)->Reps F ws ds->g o ds=aa (d,o') ->
 (∀x F' H' A',Chg H F F' H' A->TR K F' H' v o' A'->A'.Nodup->(∀a∈A',F' a=ab/\zhL H A a=ab)->Rep F' x d->Q x H')->SpM K g vs H Q
def spM(K:ag)(g:GM):Sp:=λvs H Q _=>SpM K g vs H Q
def endM:Out->Option (D×OT)
 |.rt (.val d) δ=>(oAt 0 δ).map λo=>(d,o)
 |.nx δ=>(oAt 0 δ).map λo=>(.non,o)
 | _=>ab
def zhV(n m:Nat)(f:FS)(o:OT)(ds:List D):Option (D×OT):=if ds.length=n then (f (aa (.obj o)::(ds.map λd=>aa (.val d))++az m ab)).bind endM else ab
section
variable {P:aK}{w:aO}{K:ag}{mg:Str->Option af}{base:aT}{x qual:Str}{st:Stmt}{f:ai}{fd:bF}{N ps:List Str}{k n:Nat}{g:GM}
def zgG(F:FunA K x qual st f fd)(S:FnScope N ps (zad st))(fb:FS)(hk:ps.length=n+1)(hg:∀o ds r,g o ds=aa r->zhV n (N.length-ps.length) fb o ds=aa r)
  (hbody:∀(cdv:af) (A:aQ) (outer:List Env) (s:ah) (H:Hp) (E:XK),Room k (A.deeper (envOfC qual (zad st) s.heap.objs.size f cdv))->VSs (cxOf CX0 P w K mg base N qual (zad st) f cdv A outer s H E).nox (zbl st) fb) :
  FnOk P w K mg base CX0 (k+1) f fd ps (spM K g):=by
 obtain⟨oc,od,dV,kV,doc,pm,an,cdv,ct,osl,rfl,lk,hcd⟩:=F.ex;refine fn_of lk hcd S (λvs H Q E h=>?_) λA outer s H vs Q E hr h=>?_
 ·obtain⟨v,ws,F,o,A,ds,d,o',rfl,_,_,_,_,rs,q,_⟩:=h;have:=hg _ _ _ q;unfold zhV at this;split at this
  ·rename_i hl;rw[aJ,rs.length,hl,hk]
  ·cases this
 ·obtain⟨v,ws,F,o,A,ds,d,o',rfl,fh,t,nd,fA,rs,q,kk⟩:=h;obtain⟨tt,wt,m⟩:=(hbody cdv _ outer s H E hr).h;refine⟨tt,wt.h.nox,?_⟩;have q2:=hg _ _ _ q;unfold zhV at q2;split at q2
  ·rename_i hl;obtain⟨out,q3,q4⟩:=bind_some q2;have hws:=rs.length;have ent:∀(i:Nat) (e:Ent),(aa (Ent.obj o)::(ds.map λd=>aa (Ent.val d))++az (N.length-ps.length) ab)[i]? =aa (aa e)->(i=0/\e=.obj o)\/∃j d,i=j+1/\ds[j]? =aa d/\e=.val d:=λi e h=>by
    cases i with
    |zero=>simp at h;exact .inl ⟨rfl,h.symm⟩
    |succ j=>
     rw[jU,fI]at h;by_cases hj:j<(ds.map λd=>aa (Ent.val d)).length
     ·rw[bO hj,aB]at h;cases z:ds[j]? with
      |none=>rw[z]at h;cases h
      |some d=>rw[z]at h;cases h;exact .inr ⟨j,d,rfl,z,rfl⟩
     ·rw[bL (by lia),dQ]at h;split at h <;> cases h
   have sv:∀(i:Nat) (y:V),(v::ws)[i]? =aa y->(L2.start N (v::ws))[i]? =aa (aa y):=λi y h=>by
    unfold L2.start;rw[bO (by rw[aw];exact(a7.mp h).1),aB,h];rfl
   have s0:RS K ⟨zhL H A,aa v⟩ F H (L2.start N (v::ws)) (aa (.obj o)::(ds.map λd=>aa (.val d))++az (N.length-ps.length) ab):=by
    refine⟨fh,λa u h=>(zdd h).2,?_,λi e h=>?_,λa b l es e hab h1=>?_,λa b e1 e2 v1 v2 ad hab q1 q2 q3 q4 q5 q6 q7=>?_,λw p hw _=>?_⟩
    ·unfold L2.start;simp only[a8,aw,c9,aJ];lia
    ·rcases ent i e h with ⟨rfl,rfl⟩|⟨j,d,rfl,hd,rfl⟩
     ·exact⟨v,sv 0 v rfl,A,t,nd,λa ha=>⟨fA a ha,zec ha⟩⟩
     ·obtain⟨y,hy,ry⟩:=rs.get hd;exact⟨y,sv (j+1) y (by simpa using hy),ry⟩
    ·rcases ent a _ h1 with ⟨_,z⟩|⟨j,d,_,_,z⟩ <;> cases z
    ·rcases ent a _ q1 with ⟨rfl,rfl⟩|⟨j,d,_,_,rfl⟩
     ·rcases ent b _ q3 with ⟨rfl,_⟩|⟨j,d,_,_,rfl⟩
      ·exact hab rfl
      ·exact q7
     ·cases q5
    ·cases hw;exact sv 0 v rfl
   have fin:∀(δ':En) (σ':Sg) (F' H':Hp) (y:V),RS K ⟨zhL H A,aa v⟩ F' H' σ' δ'->FX (zhL H A) F F'->oAt 0 δ'=aa o'->Rep F' y d->Q y H':=λδ' σ' F' H' y s' y' ho ry=>by
    have h0:=s'.pn v o' rfl (zbE ho);obtain⟨A',t',n',f'⟩:=s'.at (zbE ho) h0;exact kk y F' H' A' ⟨y'.ff,s'.fh,s'.bh,y'.nw⟩ t' n' f' ry
   refine m ⟨zhL H A,aa v⟩ F H (L2.start N (v::ws)) _ out _ s0 q3 ?_;cases out with
   |nx δ'=>
    obtain⟨o2,h1,h2⟩:=map_some q4;cases h2;exact λσ' F' H' s' y=>fin δ' σ' F' H' .non s' y h1 .non
   |rt r' δ'=>
    cases r' with
    |val d'=>
     obtain⟨o2,h1,h2⟩:=map_some q4;cases h2;exact λy σ' F' H' s' yy z=>fin δ' σ' F' H' y s' yy h1 z
    | _=>cases q4
   |bk δ'=>cases q4
   |ct δ'=>cases q4
  ·cases q2
end
structure MethD(K:ag)(c:Str)(m:Str)(st:Stmt)(qual:Str)(ps:List Str)(f:ai)(fd:bF):Prop where
 fn:FunA K m qual st f fd
 at_:∀C,zfG K c C->Meth K C m f
 b:Binds K fd ps []
noncomputable def xM(i:Nat)(c:Str)(ns:List Str)(g:GM)(fa:FA):FXE:=λδ=>(oAt i δ).bind λo=>(isC c ns o).bind λ_=>((fa δ).bind zd5).bind λds=>(g o ds).map λp=>(p.1,δ.set i (aa (.obj p.2)))
noncomputable def xMF(i:Nat)(c:Str)(ns:List Str)(k:Nat)(c2:Str)(ns2:List Str)(g:GM)(fa:FA):FXE:=λδ=>((oAt i δ).bind (isC c ns)).bind λl=>(l[k]?).bind λo=>(isC c2 ns2 o).bind λ_=>((fa δ).bind zd5).bind λds=>(g o ds).map λp=>(p.1,δ.set i (aa (.obj (.ins c ns (l.set k p.2)))))
section
variable {X:Cx}{e:Expr}{es:List Expr}{pos pos' p apos:Pos}{fa:FA}{x f m c c2 qual:Str}{ns nsF ns2 nsF2 ps:List Str}{g:GM}{fd:bF}{fm:ai}{st:Stmt}{kk j:Nat}{pl:Sem Bool}
def SemM.at{K:ag}{C:ai}{t:TA}{E:XK}{i:Nat}(sm:SemA K t fa)(hcl:zfG K c C)(hm:m∉ns):SemX K (tMeth C m (spM K g) [] E (tVar i) t) (xM i c ns g fa):=λB F H σ δ d δ' Q s q k=>by
 obtain⟨o,q0,q⟩:=bind_some q;obtain⟨l,q1,q⟩:=bind_some q;obtain⟨ds,q2,q⟩:=bind_some q;obtain⟨rs,q2,q3⟩:=bind_some q2;obtain⟨p1,q4,q⟩:=map_some q;cases q;cases zd0 q1;obtain⟨v,h1,A,t0,n0,f0⟩:=s.ent i _ (zbE q0);cases t0 with
 |ins hcl' e1 e2 hl ts=>
  cases zb8 hcl hcl';refine⟨_,h1,_,_,_,rfl,e1,zf0 hm,?_⟩;refine sm B F H σ δ rs _ s q2 λvs F1 H1 x1 r1=>?_;obtain⟨F2,x2,_,r2⟩:=RepRs.frz x1 (Same.refl _) r1 q3;have s2:=s.ext x2;have tt:=((TR.ins hcl' e1 e2 hl ts).ext x2)
  rw[bp];refine⟨_,vs,F2,_,_,ds,p1.1,p1.2,rfl,s2.fh,tt.1,n0,λa ha=>(tt.2 a ha).trans (f0 a ha).1,r2,q4,λy F' H' A' ch t' n' f' ry=>?_⟩;obtain⟨z1,z2⟩:=s2.chg (zbE q0) h1 tt.1 ch t' n' f';exact k y F' H' z1 ((FX.of x2 s.bh).trans z2) ry
def SemM.sub{K:ag}{C2:ai}{t:TA}{E:XK}{i k:Nat}(sm:SemA K t fa)(hc:ClsF K c nsF)(hcl2:zfG K c2 C2)(hm:m∉ns2)(hf:f∈nsF)(hk:ns[k]? =aa f)(hn:ns.Nodup):SemX K (tMeth C2 m (spM K g) [] E (tFld K (tVar i) f) t) (xMF i c ns k c2 ns2 g fa):=λB F H σ δ d δ' Q s q kk=>by
 obtain⟨l,q0,q⟩:=bind_some q;obtain⟨o,q0,q1⟩:=bind_some q0;obtain⟨o1,q5,q⟩:=bind_some q;obtain⟨l2,q6,q⟩:=bind_some q;obtain⟨ds,q2,q⟩:=bind_some q;obtain⟨rs,q2,q3⟩:=bind_some q2;obtain⟨p1,q4,q⟩:=map_some q;cases q;cases zd0 q1;cases zd0 q6;obtain⟨v,h1,A,t0,n0,f0⟩:=s.ent i _ (zbE q0);cases t0 with
 |ins hcl e1 e2 hl ts=>
  obtain⟨g1,g2⟩:=hc.h _ hcl;obtain⟨w,A1,h2,h3,h4,h4n,_⟩:=ts.focus q5
  have nA:=(aZ.mp (aZ.mp n0).2).2;refine⟨_,h1,_,_,_,_,w,rfl,e1,g1,g2 f hf,zeC hn hk h2,?_⟩;cases h3 with
  |ins hcl' d1 d2 dl us=>
   cases zb8 hcl2 hcl';refine⟨_,_,_,rfl,d1,zf0 hm,?_⟩;refine sm B F H σ δ rs _ s q2 λvs F1 H1 x1 r1=>?_;obtain⟨F2,x2,_,r2⟩:=RepRs.frz x1 (Same.refl _) r1 q3;have s2:=s.ext x2;have tt:=((TR.ins hcl' d1 d2 dl us).ext x2)
   have ts2:=ts.move (H':=H1) x2.ff λb hb=>let⟨u,hu,_⟩:=ts.lies b hb;(x2.hh _ _ hu).trans hu.symm;rw[bp];refine⟨_,vs,F2,_,_,ds,p1.1,p1.2,rfl,s2.fh,tt.1,h4n nA,λa ha=>(tt.2 a ha).trans (f0 a (aq _ (aq _ (h4 a ha)))).1,r2,q4,λy F' H' A' ch t' n' f' ry=>?_⟩;obtain⟨z1,z2⟩:=s2.sub (zbE q0) h1 hcl (x2.hh _ _ e1) (x2.hh _ _ e2) hl ts2 q5 h2 tt.1 ch t' n' f';exact kk y F' H' z1 ((FX.of x2 s.bh).trans z2) ry
def semNil{K:ag}:SemA K tNil zae:=λB F H σ δ rs Q s q k=>by cases q;exact k [] F H (Ex.refl s.fh) .nil
variable {CX:CXT}{E:XK}
structure ClsD(K:ag)(mg:Str->Option af)(c:Str)(nsF:List Str)(C:ai):Prop where
 at_:zfG K c C
 mg:mg c=aa (.ref C)
 cl:Cls K C
 no:∀f∈nsF,NoAttr K C f
def ClsD.toF{K:ag}{mg:Str->Option af}{C:ai}(D:ClsD K mg c nsF C):ClsF K c nsF:=⟨λC' h=>by cases zb8 D.at_ h;exact⟨D.cl,D.no⟩⟩
def xmeth{C:ai}(i:Nat)(DC:ClsD X.K X.mg c nsF C)(D:MethD X.K c m st qual ps fm fd)(F:FnOk X.prog X.w X.K X.mg X.base CX kk fm fd ps (spM X.K g))(hr:Room j X.A)(hx:zcK CX X E)(ha:VA X (e::es) fa)(hm:m∉ns:=by decide +kernel)(hjk:kk<=j:=by decide)
  (hN:X.N[i]? =aa x:=by rfl) (hv:Vis X.env.scope x:=by first|exact aD rfl|exact bA (aD rfl)|exact bA (bA rfl)) (hd:(x==("__debug__" : Str))=false:=by decide) (hcd:(x==("__classdict__" : Str))=false:=by decide)
  (h1:zaj e=true:=by rfl) (h2:es.all zaj=true:=by rfl)
  (ht:eval (.Call (.Attribute (.Name x p) m apos) (e :: es) [] pos) X.env=(do
   let ov <- eval (.Name x p) X.env
   standAt apos.atName
   let (f,first) <- holding [ov] (getMethod ov m pl)
   callWith pos f first (backTo pos (aY (e::es) X.env)) (backToKw pos (keywordEach [] X.env))):=by rfl) :
  VX X (.Call (.Attribute (.Name x p) m apos) (e::es) [] pos) (xM i c ns g fa):=
 let⟨_,w,sm⟩:=ha.h;⟨_,⟨pe_meth (wv i hN hv hd hcd).h DC.cl (D.at_ _ DC.at_) F (hr.mono hjk) D.b .nil hx w.h (zak h1) (zcd h2) ht⟩,SemM.at sm DC.at_ hm⟩
def xmeth0{C:ai}(i:Nat)(DC:ClsD X.K X.mg c nsF C)(D:MethD X.K c m st qual ps fm fd)(F:FnOk X.prog X.w X.K X.mg X.base CX kk fm fd ps (spM X.K g))(hr:Room j X.A)(hx:zcK CX X E)(hm:m∉ns:=by decide +kernel)(hjk:kk<=j:=by decide)
  (hN:X.N[i]? =aa x:=by rfl) (hv:Vis X.env.scope x:=by first|exact aD rfl|exact bA (aD rfl)|exact bA (bA rfl)) (hd:(x==("__debug__" : Str))=false:=by decide) (hcd:(x==("__classdict__" : Str))=false:=by decide)
  (ht:eval (.Call (.Attribute (.Name x p) m apos) [] [] pos) X.env=(do
   let ov <- eval (.Name x p) X.env
   standAt apos.atName
   let (f,first) <- holding [ov] (getMethod ov m pl)
   callWith pos f first (backTo pos (aY [] X.env)) (backToKw pos (keywordEach [] X.env))):=by rfl) :
  VX X (.Call (.Attribute (.Name x p) m apos) [] [] pos) (xM i c ns g zae):=
 ⟨_,⟨zkb (wv i hN hv hd hcd).h DC.cl (D.at_ _ DC.at_) F (hr.mono hjk) D.b .nil hx ht⟩,SemM.at semNil DC.at_ hm⟩
def xmethF{C C2:ai}(i k:Nat)(DC:ClsD X.K X.mg c nsF C)(DC2:ClsD X.K X.mg c2 nsF2 C2)(D:MethD X.K c2 m st qual ps fm fd)(F:FnOk X.prog X.w X.K X.mg X.base CX kk fm fd ps (spM X.K g))(hr:Room j X.A)(hx:zcK CX X E)(ha:VA X (e::es) fa)(hm:m∉ns2:=by decide +kernel)(hjk:kk<=j:=by decide)
  (hf:f∈nsF:=by decide +kernel) (hk:ns[k]? =aa f:=by rfl) (hn:ns.Nodup:=by decide +kernel)
  (hN:X.N[i]? =aa x:=by rfl) (hv:Vis X.env.scope x:=by first|exact aD rfl|exact bA (aD rfl)|exact bA (bA rfl)) (hd:(x==("__debug__" : Str))=false:=by decide) (hcd:(x==("__classdict__" : Str))=false:=by decide)
  (hb:b9 (.Name x p) f X.env (eval (.Name x p) X.env)=eval (.Name x p) X.env:=by rfl) (h1:zaj e=true:=by rfl) (h2:es.all zaj=true:=by rfl)
  (ht:eval (.Call (.Attribute (.Attribute (.Name x p) f pos') m apos) (e :: es) [] pos) X.env=(do
   let ov <- eval (.Attribute (.Name x p) f pos') X.env
   standAt apos.atName
   let (f,first) <- holding [ov] (getMethod ov m pl)
   callWith pos f first (backTo pos (aY (e::es) X.env)) (backToKw pos (keywordEach [] X.env))):=by rfl) :
  VX X (.Call (.Attribute (.Attribute (.Name x p) f pos') m apos) (e::es) [] pos) (xMF i c ns k c2 ns2 g fa):=
 let⟨_,w,sm⟩:=ha.h;⟨_,⟨pe_meth (zj2 (wv i hN hv hd hcd).h hb) DC2.cl (D.at_ _ DC2.at_) F (hr.mono hjk) D.b .nil hx w.h (zak h1) (zcd h2) ht⟩,SemM.sub sm DC.toF DC2.at_ hm hf hk hn⟩
def xmethF0{C C2:ai}(i k:Nat)(DC:ClsD X.K X.mg c nsF C)(DC2:ClsD X.K X.mg c2 nsF2 C2)(D:MethD X.K c2 m st qual ps fm fd)(F:FnOk X.prog X.w X.K X.mg X.base CX kk fm fd ps (spM X.K g))(hr:Room j X.A)(hx:zcK CX X E)(hm:m∉ns2:=by decide +kernel)(hjk:kk<=j:=by decide)
  (hf:f∈nsF:=by decide +kernel) (hk:ns[k]? =aa f:=by rfl) (hn:ns.Nodup:=by decide +kernel)
  (hN:X.N[i]? =aa x:=by rfl) (hv:Vis X.env.scope x:=by first|exact aD rfl|exact bA (aD rfl)|exact bA (bA rfl)) (hd:(x==("__debug__" : Str))=false:=by decide) (hcd:(x==("__classdict__" : Str))=false:=by decide)
  (hb:b9 (.Name x p) f X.env (eval (.Name x p) X.env)=eval (.Name x p) X.env:=by rfl)
  (ht:eval (.Call (.Attribute (.Attribute (.Name x p) f pos') m apos) [] [] pos) X.env=(do
   let ov <- eval (.Attribute (.Name x p) f pos') X.env
   standAt apos.atName
   let (f,first) <- holding [ov] (getMethod ov m pl)
   callWith pos f first (backTo pos (aY [] X.env)) (backToKw pos (keywordEach [] X.env))):=by rfl) :
  VX X (.Call (.Attribute (.Attribute (.Name x p) f pos') m apos) [] [] pos) (xMF i c ns k c2 ns2 g zae):=
 ⟨_,⟨zkb (zj2 (wv i hN hv hd hcd).h hb) DC2.cl (D.at_ _ DC2.at_) F (hr.mono hjk) D.b .nil hx ht⟩,SemM.sub semNil DC.toF DC2.at_ hm hf hk hn⟩
end
def ziv(c:Str)(g:GM)(fa:FA):FE:=λδ=>((fa δ).bind zd5).bind λds=>(g (.ins c [] []) ds).bind λp=>match p.1 with
 |.non=>aa (.obj p.2)
 | _=>ab
structure MakeD(K:ag)(c:Str)(st:Stmt)(qual:Str)(ps:List Str)(f:ai)(fd:bF):Prop where
 fn:FunA K "__init__" qual st f fd
 at_:∀C,zfG K c C->Mk K C f
 b:Binds K fd ps []
section
variable {X:Cx}{e:Expr}{es:List Expr}{pos p:Pos}{fa:FA}{c qual:Str}{nsF ps:List Str}{g:GM}{fd:bF}{fm:ai}{st:Stmt}{kk j:Nat}{CX:CXT}{E:XK}
def SemE.make{K:ag}{C:ai}{t:TA}{E:XK}(sm:SemA K t fa)(hcl:zfG K c C):SemE K (tMake C (spM K g) [] E t) (ziv c g fa):=λB F H σ δ res Q s q k=>by
 obtain⟨ds,q1,q⟩:=bind_some q;obtain⟨rs,q1,q2⟩:=bind_some q1;obtain⟨p1,q3,q⟩:=bind_some q;refine sm B F H σ δ rs _ s q1 λvs F1 H1 x1 r1=>?_;obtain⟨F2,x2,_,r2⟩:=RepRs.frz x1 (Same.refl _) r1 q2;intro a dx ha hdx hne;have fa0:F2 a=ab:=x2.fh.free ha;have fd0:F2 dx=ab:=x2.fh.free hdx;have sH:Same H1 (upd (upd H1 dx (.own a)) a (.ins C dx [])):=(Same.alloc hdx).trans (Same.alloc (by rw[zar (cN hne)];exact ha))
 rw[bp];refine⟨_,vs,F2,.ins c [] [],[a,dx],ds,p1.1,p1.2,rfl,x2.fh.trans sH,?_,by simp[cN hne],λb hb=>?_,r2,q3,λy F' H' A' ch t' n' f' ry=>?_⟩
 ·exact .ins (vs:=[]) (A:=[]) hcl zam (by rw[zar hne];exact zam) rfl .nil
 ·simp at hb;rcases hb with rfl|rfl
  ·exact fa0
  ·exact fd0
 ·obtain⟨d0,o0⟩:=p1;cases d0 with
  |non=>
   cases q;have st:∀b u,H1 b=aa u->zhL (upd (upd H1 dx (.own a)) a (.ins C dx [])) [a,dx] b=aa u:=λb u hb=>zcG (λz=>by
    simp at z;rcases z with rfl|rfl
    ·rw[ha]at hb;cases hb
    ·rw[hdx]at hb;cases hb) (sH _ _ hb)
   refine⟨zjb ry,k _ F' H' ⟨x2.ff.trans ch.ff,ch.fh,λb u hb=>ch.st _ _ (st b u (x2.hh _ _ hb)),λb u hb ht=>(ch.nw b u (st b u (x2.hh _ _ hb)) ht).trans (x2.nw b u hb ht)⟩ ⟨⟨a,rfl⟩,A',t',n',λb hb=>⟨(f' b hb).1,?_⟩⟩⟩;cases z:H b with
   |none=>rfl
   |some u=>have:=st b u (x2.hh _ _ z);rw[(f' b hb).2]at this;cases this
  | _=>cases q
def vmake{C:ai}(DC:ClsD X.K X.mg c nsF C)(D:MakeD X.K c st qual ps fm fd)(F:FnOk X.prog X.w X.K X.mg X.base CX kk fm fd ps (spM X.K g))(hr:Room j X.A)(hg:Gl X c)(hx:zcK CX X E)(ha:VA X (e::es) fa)(hjk:kk+1<=j:=by decide)(hdb:(c==("__debug__" : Str))=false:=by decide)
  (h1:zaj e=true:=by rfl) (h2:es.all zaj=true:=by rfl):VE X (.Call (.Name c p) (e::es) [] pos) (ziv c g fa):=
 let⟨_,w,sm⟩:=ha.h;⟨_,⟨pe_make (D.at_ _ DC.at_) F (hr.mono hjk) hg DC.mg D.b .nil hx w.h hdb (zak h1) (zcd h2)⟩,.make sm DC.at_⟩
end
end L3

namespace L2
open PySem PySem.Spec PyProof.Rows
structure CompSk(X:Cx)(N:List Str)(k:Nat)(fr:List Nat)(scope:Scope):Prop where
 kind:scope.kind=.function
 chk:(scope.names.all λy=>match y.2 with
  |.cell=>false
  |.local=>scope.names.lookup y.1==aa .local
  |.free=>X.env.scope.names.lookup y.1==aa .cell || X.env.scope.names.lookup y.1==aa .free
  | _=>true)=true
 len:N.length=k+fr.length
 nm:(N.drop k).map aa=fr.map (λi=>X.N[i]?)
 nf:((N.drop k).all λy=>scope.names.lookup y==aa .free)=true
section
variable {prog:aK}{w:aO}{A:aQ}{R:Result->ah->Prop}{s:ah}
def zjh{elt tg iter:Expr}{ifs:List Expr}{scope:Scope}{pos:Pos}{it acc:af}{env:Env}(J:Nat->ah->Prop)
  (one:∀k z,J k z->av (model prog w) A (pyNext it) (λgot z1=>match got with
   |none=>R (.ok .next) z1
   |some u=>av (model prog w) A (letOwnedTupleGo tg it u) (λ_ z2=>av (model prog w) A (assign tg env u) (λ_ z3=>
     av (model prog w) A (forIn ifs true λc r=>if r=true then do let ok <- isTrue c env (eval c env);pure (dy ok)else pure (dy r)) (λyes z4=>
      if yes=true then av (model prog w) A (eval elt env) (λy z5=>av (model prog w) A (call (.builtin "list.append") [acc,y]) (λ_ z6=>∃j,j<k/\J j z6) (notedBy (model prog w) A env λx z'=>R (.error x) z') z5) (notedBy (model prog w) A env λx z'=>R (.error x) z') z4
      else ∃j,j<k/\J j z4) (notedBy (model prog w) A env λx z'=>R (.error x) z') z3) (notedBy (model prog w) A env λx z'=>R (.error x) z') z2) (notedBy (model prog w) A env λx z'=>R (.error x) z') z1) (notedBy (model prog w) A env λx z'=>R (.error x) z') z)
  (k:Nat) (h:J k s):codeAny (model prog w) A (.compLoop (.ListComp elt [⟨tg,iter,ifs,0⟩] scope pos) 0 it acc env) R s:=by
 refine codeAny_loop rfl J (λk z hz=>?_) k h;show av _ A ((compTurn (.ListComp elt [⟨tg,iter,ifs,0⟩] scope pos) 0 it acc env).onRaise _) _ _ z;refine wpAny_noted ?_;rw[compTurn_list];refine ae (wpAny_standAt (ae (thn (one k z hz) λgot z1 h1=>?_)));cases got with
 |none=>exact ak h1
 |some u=>
  refine ae (thn h1 λ_ z2 h2=>ae (thn h2 λ_ z3 h3=>ae (thn h3 λyes z4 h4=>?_)));cases yes with
  |false=>exact ak ⟨rfl,h4⟩
  |true=>exact ae (ae (thn h4 λy z5 h5=>ae (thn h5 λ_ z6 h6=>ak (ak ⟨rfl,h6⟩))))
end
section
variable {X:Cx}{N:List Str}{k:Nat}{fr:List Nat}{scope:Scope}
def CompSk.ncell(S:CompSk X N k fr scope):∀y∈scope.names,y.2≠.cell:=λy hy e=>by
 have h:=bH.mp S.chk y hy;obtain⟨n,q⟩:=y;cases (show q=.cell from e);exact absurd h (by simp)
def CompSk.loc(S:CompSk X N k fr scope):∀y∈scope.names,y.2=.local->scope.names.lookup y.1=aa .local:=λy hy e=>by
 have h:=bH.mp S.chk y hy;obtain⟨n,q⟩:=y;cases (show q=.local from e);exact zaU h
def CompSk.free(S:CompSk X N k fr scope):∀y∈scope.names,y.2=.free->X.env.kindOf y.1=aa .cell\/X.env.kindOf y.1=aa .free:=λy hy e=>by
 have h:=bH.mp S.chk y hy;obtain⟨n,q⟩:=y;cases (show q=.free from e);exact(jl.mp (show(X.env.scope.names.lookup n==aa .cell || X.env.scope.names.lookup n==aa .free)=true from h)).imp zaU zaU
variable {pins:List (ai×Obj)}{σ:St}{H:Hp}{s:ah}
def comp_invK(S:CompSk X N k fr scope){fp:List ai}{h₁:aT}{tk:Nat}(I:Inv X pins σ H s)(hf:∀b∈fp,zfx X pins H b)(hfo:∀b∈fp,b<s.heap.objs.size)
  (hns:h₁.Ns s.heap.objs.size λy=>([]:List (Str×af)).reverse.lookup y) (old:∀b o,s.heap.get? b=aa o->h₁.get? b=aa o) :
  Inv (cxC X N scope s.heap.objs.size s H fp) [] (az k ab++zfo fr σ) H { s with heap:=h₁,toks:=tk}:=by
 have sub:∀y c,(zjZ X.env scope.names).lookup y=aa c->X.env.cells.lookup y=aa c:=ziu scope.names [] (λ_ _ z=>by cases z);have has:∀y,(y,bB)∈scope.names->∃c,(zjZ X.env scope.names).lookup y=aa c:=λy hy=>cl_has scope.names [] y (I.ok.has y (S.free _ hy rfl)) (.inr hy);have celK:∀c v,s.heap.IsCell c v->h₁.IsCell c v:=λc v ⟨o,ho,hd⟩=>⟨o,old c o ho,hd⟩
 refine⟨⟨I.ok.mod,S.kind,I.ok.glob,I.ok.blt,am _,λy z c h1 h2=>I.ok.inj y z c (sub y c h1) (sub z c h2),λy hy=>has y (bW (zef S.ncell hy)),λy c hy _=>(by cases hy),I.ok.hd,I.ok.frames,.inl rfl,λb hb=>⟨aL (hfo b hb),λy c e=>(hf b hb).2.2.2.2.1 y c (sub y c e)⟩,
  I.bs,aS I.ok.bsz I.sz,λb o e hb=>?_,λb hb hfs=>?_,I.stack,I.stkFree⟩,rfl,I.bare,Un.kept old,⟨_,hns,λi y v e1 e2 e3=>?_⟩,λy c e=>?_,I.hok.fresh (am _),λy c e=>I.freeC y c (sub y c e),λp hp=>absurd (show p∈([]:List (ai×Obj))from hp) (by simp),I.hok.kept old,?_⟩
 ·rcases (hf b hb).2.2.2.1 with z|z
  ·exact I.ok.noex b o e z
  ·exact absurd (aW (aC e) (aS I.ok.bsz z)) (bK _)
 ·exact(aF.mp (I.stkSub b hfs)).elim (hf b hb).2.1 (hf b hb).2.2.1
 ·by_cases hi:i<k
  ·rw[bO (by rw[c9];exact hi),dQ,if_pos hi]at e2;cases e2
  ·rw[bL (by rw[c9];lia),c9]at e2;have e1':N[i]? =aa y:=e1;have d1:(N.drop k)[i-k]? =aa y:=by rw[gO,show k+(i-k)=i by lia];exact e1'
   have q1:((N.drop k).map aa)[i-k]? =aa (aa y):=by rw[aB,d1];rfl
   rw[S.nm,aB]at q1;unfold zfo at e2;rw[aB]at e2;cases q:fr[i-k]? with
   |none=>rw[q]at q1;cases q1
   |some i'=>
    rw[q]at q1 e2;have n1:X.N[i']? =aa y:=aR q1;have n2:(σ[i']?).join=aa v:=aR e2;have n3:σ[i']? =aa (aa v):=by
     cases q':σ[i']? with
     |none=>rw[q']at n2;cases n2
     |some o=>rw[q']at n2;rw[show o=aa v from n2]
    have hfree:scope.names.lookup y=aa .free:=zaU (bH.mp S.nf y (bR d1));have hk:=S.free _ (bW hfree) rfl;obtain⟨m,hn,hl⟩:=I.loc;obtain⟨u,r,l⟩:=hl i' y v n1 n3 (hk.elim (λz=>.inr (.inl z)) λz=>.inr (.inr z));refine⟨u,r,.inr ⟨zed hfree,?_⟩⟩;rcases l with ⟨kd,_⟩|⟨_,c,ec,hc⟩
    ·rcases hk with z|z <;> (rw[show X.env.kindOf y=aa .local from kd]at z;cases z)
    ·obtain⟨c',ec'⟩:=has y (bW hfree);cases (aR ((sub y c' ec').symm.trans ec));exact⟨_,ec',celK _ _ hc⟩
 ·obtain⟨v,z⟩:=I.cell y c (sub y c e);exact⟨v,celK c v z⟩
 ·show(az k ab++zfo fr σ).length=N.length;rw[S.len];simp[zfo]
end
def lcG(k:Nat)(fr:List Nat)(g:TG)(tt:TT)(te:TE)(J:It)(σ:St)(H1:Hp)(R:ai->Hp->Prop):Prop:=
 ∀a,H1 a=ab->∃W:Nat->Nat->List V->St->Hp->Prop,(∃m,W 0 m [] (az k ab++zfo fr σ) (upd H1 a (.lst [])))/\∀i m ys τ H,W i m ys τ H ->
  (J.stop i H/\R a H)\/(J.go i H/\∀x H',J.yld i H x H'->g x τ H' λτ' H2=>tt τ' H2 λb H3=>
   if b=true then te τ' H3 λy H4=>H4 a=aa (.lst ys)/\ys.length<aX/\∃m',m'<m/\W (i+1) m' (ys++[y]) τ' (upd H4 a (.lst (ys++[y])))
   else ∃m',m'<m/\W (i+1) m' ys τ' H3)
def tLG(k:Nat)(fr:List Nat)(wi:TI)(g:TG)(tt:TT)(te:TE):TE:=λσ H Q=>wi σ H λJ H1=>lcG k fr g tt te J σ H1 λa H2=>Q (.ref a) H2
section
variable {X:Cx}{N:List Str}{k:Nat}{fr:List Nat}{scope:Scope}{iter elt tg:Expr}{ifs:List Expr}{pos:Pos}{wi:TI}{g:TG}{te:TE}{tt:TT}
def pe_lg(S:CompSk X N k fr scope)(hc:X.calm=true)(hi:PI X tg iter wi)
  (hg:∀(C:ai) (s₀:ah) (H₀:Hp) (fp:List ai),PG (cxC X N scope C s₀ H₀ fp) tg g)
  (ht:∀(C:ai) (s₀:ah) (H₀:Hp) (fp:List ai),PTs (cxC X N scope C s₀ H₀ fp) ifs tt) (he:∀(C:ai) (s₀:ah) (H₀:Hp) (fp:List ai),PE (cxC X N scope C s₀ H₀ fp) elt te)
  (hs:∀z,ci iter X.env z=pure z:=by intro _;rfl):PE X (.ListComp elt [⟨tg,iter,ifs,0⟩] scope pos) (tLG k fr wi g tt te):=by
 intro pins s σ H Q I h;rw[eval_ListComp];refine wpAny_comprehension_free (use:=ab) (cl:=zjZ X.env scope.names) rfl hs (zgW λy hy e=>I.ok.has y.1 (S.free y hy e)) S.kind S.loc (thn (hi pins s σ H _ I h) λxv s1 h1=>thn h1 λitv s2 h2=>?_);obtain⟨it,fp,tn,J,H2,e,I2,T,st2,f2,q⟩:=h2;subst e;refine wpAny_newObj_type (wpAny_newFunctionEnv S.ncell (by intro y hy;simp at hy) (λh₁ hns₁ hsb₁=>?_) S.kind);obtain⟨W,⟨m0,w0⟩,turn⟩:=q _ (I2.hok.fresh (am _));have hfo:∀b∈fp,b<s2.heap.objs.size:=λb hb=>let⟨_,e,_⟩:=T.obj 0 _ st2 b hb;aC e;have I3:Inv X pins σ (upd H2 s2.heap.objs.size (.lst [])) { s2 with heap:=s2.heap.push { cls:=.type "list",dict:=ab,data:=.seq ([]:List af).toArray}}:=
  I2.laid (t':=s2.toks) (λb o e=>aj _ e) (am _) ⟨aU _,[],_,.nil,ay _ rfl⟩
 have f3:∀b∈fp,zfx X pins (upd H2 s2.heap.objs.size (.lst [])) b:=λb hb=>⟨by rw[zar (aL (hfo b hb))];exact(f2 b hb).1,(f2 b hb).2⟩
 have st3:tn 0 (s2.heap.push { cls:=.type "list",dict:=ab,data:=.seq ([]:List af).toArray}):=T.keep 0 s2.heap _ st2 λb hb o e=>aj _ e;generalize hs3:({ s2 with heap:=s2.heap.push { cls:=.type "list",dict:=ab,data:=.seq ([]:List af).toArray}}:ah)=s3 at *;replace st3:tn 0 s3.heap:=by rw[<- hs3];exact st3
 generalize hHD:upd H2 s2.heap.objs.size (.lst [])=H3 at *;generalize hD:s2.heap.objs.size=D at *;have hfo3:∀b∈fp,b<s3.heap.objs.size:=λb hb=>let⟨_,e,_⟩:=T.obj 0 _ st3 b hb;aC e;have old:∀b o,s3.heap.get? b=aa o->h₁.get? b=aa o:=λb o e=>hsb₁.extBut b o (aL (aC e)) (aj _ e);have st1:tn 0 h₁:=T.keep 0 s3.heap h₁ st3 λb hb o e=>old b o e;have stat:∀{pins':List (ai×Obj)} {H':Hp},(∀b∈fp,H' b=ab)->(∀b∈fp,∀p∈pins',p.1≠b)->∀b∈fp,zfx (cxC X N scope s3.heap.objs.size s3 H3 fp) pins' H' b:=fun {pins' H'} hn hp b hb=>by
  refine⟨hn b hb,aL (hfo3 b hb),λz=>?_,.inl hb,λy c e=>(f3 b hb).2.2.2.2.1 y c (ziu scope.names [] (λ_ _ z=>by cases z) y c e),λp hp'=>hp b hb p (by simpa [cxC] using hp')⟩;exact(aF.mp (I3.stkSub b z)).elim (f3 b hb).2.1 (f3 b hb).2.2.1
 have loop:∀s4:ah,Inv (cxC X N scope s3.heap.objs.size s3 H3 fp) [] (az k ab++zfo fr σ) H3 s4->tn 0 s4.heap ->
   codeAny (model X.prog X.w) X.A (.compLoop (.ListComp elt [⟨tg,iter,ifs,0⟩] scope pos) 0 (.ref it) (.ref D) (compEnvC scope (zjZ X.env scope.names) s3.heap.objs.size X.env)) (compPost (model X.prog X.w) X.A X.xe ab (EP X pins σ Q) (.ref D) s3.heap.objs.size) s4:=by
  intro s4 I4 st4;refine zjh (λn s'=>∃i ys τ H',Inv (cxC X N scope s3.heap.objs.size s3 H3 fp) [] τ H' s'/\tn i s'.heap/\(∀b∈fp,H' b=ab)/\W i n ys τ H') ?_ m0
   ⟨0,[],_,_,I4,st4,λb hb=>(f3 b hb).1,w0⟩
  rintro n s5 ⟨i,ys,τ,H5,I5,st5,fr5,w5⟩;rcases turn i n ys τ H5 w5 with ⟨stop,qn⟩|⟨go,step⟩
  ·refine cf (T.done (cxC X N scope s3.heap.objs.size s3 H3 fp) rfl rfl rfl hc i [] s5 _ H5 (λ_ _=>False) I5 (stat fr5 (by simp)) st5 stop) (λr s6 hr6=>?_) λ_ _ z=>z.elim;obtain⟨hr,I6⟩:=hr6;subst hr;obtain⟨m,hn,_⟩:=id I6.loc;refine⟨m,hn,λh' hsb=>⟨.ref D,H5,?_,rfl,qn⟩⟩;refine(zgK I3 f3 I6).turned (t':=s6.toks) (λb o hb e=>(hsb.2 b hb).trans e) I6.free (eV I3.lt) (.inr I3.sz) ?_ ?_
   ·intro y c e z;obtain⟨v,qc⟩:=I3.cell y c e;exact absurd qc.lt (by rw[z];exact bK _)
   ·intro p hp z;exact absurd (aC (I3.pin p hp).1) (by rw[z];exact bK _)
  ·refine cf (T.item (cxC X N scope s3.heap.objs.size s3 H3 fp) rfl rfl rfl hc i [] s5 _ H5 (λ_ _=>False) I5 (stat fr5 (by simp)) st5 go) (λr s6 hr6=>?_) λ_ _ z=>z.elim;obtain⟨u,hr,h6⟩:=hr6;subst hr;refine cf h6 (λ_ s7 h7=>?_) λ_ _ z=>z.elim;obtain⟨y,H7,I7,r7,y7,st7,fr7⟩:=h7;have I7':=I7.pinned (stat fr7 (by simp)) (T.obj _ _ st7);refine cf (hg _ _ _ _ _ s7 _ H7 y u _ I7' r7 (step y H7 y7)) (λ_ s8 h8=>?_) λ_ _ z=>z.elim;obtain⟨τ8,H8,I8,q8⟩:=h8;refine cf (ht _ _ _ _ _ s8 _ H8 _ I8 q8) (λok s9 h9=>?_) λ_ _ z=>z.elim;obtain⟨H9,I9,q9⟩:=h9;have again:∀{s':ah} {H':Hp},Inv (cxC X N scope s3.heap.objs.size s3 H3 fp) ([]++zf5 fp s7.heap) τ8 H' s' ->
     Inv (cxC X N scope s3.heap.objs.size s3 H3 fp) [] τ8 H' s'/\tn (i+1) s'.heap/\∀b∈fp,H' b=ab:=fun {s' H'} I'=>by
    refine⟨I'.unpinned,T.keep _ _ _ st7 λb hb o e=>(I'.pin (b,o) (aI _ (aI _ (zc1 hb e)))).1,λb hb=>?_⟩;obtain⟨o,e,d⟩:=T.obj _ _ st7 b hb;exact(I'.pin (b,o) (aI _ (aI _ (zc1 hb e)))).2.1
   cases ok with
   |false=>
    rw[if_neg aP]at q9 ⊢;obtain⟨m',hm,w9⟩:=q9;obtain⟨a1,a2,a3⟩:=again I9;exact⟨m',hm,i+1,ys,τ8,H9,a1,a2,a3,w9⟩
   |true=>
    rw[if_pos rfl]at q9 ⊢;refine cf (he _ _ _ _ _ s9 _ H9 _ I9 q9) (λzv s10 h10=>?_) λ_ _ z=>z.elim;obtain⟨z,H10,I10,rz,hz,hlt,m',hm,w10⟩:=h10;refine cf (ze8 (X:=cxC X N scope s3.heap.objs.size s3 H3 fp) _ s10 _ H10 (.ref D) [z] (.ref D) [zv] (λ_ H'=>H'=upd H10 D (.lst (ys++[z]))) I10 rfl (.cons rz .nil)
     ⟨_,ys,z,rfl,rfl,hz,hlt,rfl⟩) (λ_ s11 h11=>?_) λ_ _ z=>z.elim
    obtain⟨_,H11,I11,_,e11⟩:=h11;subst e11;obtain⟨a1,a2,a3⟩:=again I11;exact⟨m',hm,i+1,ys++[z],τ8,_,a1,a2,a3,w10⟩
 have I4:=comp_invK S (tk:=s3.toks) I3 f3 hfo3 hns₁ old;exact codeAny_compStart_list (loop _ I4 st1) (T.self _ 0 _ _ _ st1 (loop _ I4 st1))
end
end L2
namespace L3
open PySem PySem.Spec PyProof.Rows L2
def two:D->Option (D×D)
 |.tup [a,b]=>aa (a,b)
 | _=>ab
def two_some{d:D}{p:D×D}(h:two d=aa p):d=.tup [p.1,p.2]:=by
 unfold two at h;split at h
 ·cases h;rfl
 ·cases h
def cEn2(fr:List Nat)(δ:En)(d d':D):En:=aa (.val d)::aa (.val d')::fr.map λi=>((δ[i]?).join).bind capt
def eL2(fr:List Nat)(fi:FI)(ft:FT)(fe:FE):FE:=λδ=>(fi δ).bind λds=>(zdc (λd=>(two d).bind λp=>ft (cEn2 fr δ p.1 p.2)) (λd=>(two d).bind λp=>fe (cEn2 fr δ p.1 p.2)) ds).bind λout=>if out.length<=1000000 then aa (.own out)else ab
def RS.cap2{K:ag}{B:Bd}{F H:Hp}{σ:Sg}{δ:En}{v v':V}{d d':D}(s:RS K B F H σ δ)(fr:List Nat)(r:Rep F v d)(r':Rep F v' d'):RS K B F H (aa v::aa v'::zfo fr σ) (cEn2 fr δ d d'):=by
 have c:=s.cap fr r';refine⟨c.fh,c.bh,by simp[cEn2,zfo],λj e h=>?_,λa b l ds e hab h1 h2 h3 h4=>?_,λa b e1 e2 v1 v2 ad hab q1 q2 q3 q4 q5=>?_,λw o _ ho=>by cases ho⟩
 ·cases j with
  |zero=>cases h;exact⟨v,rfl,r⟩
  |succ j=>exact c.ent j e h
 ·cases a with
  |zero=>cases h1
  |succ a=>
   cases b with
   |zero=>cases h3;cases h4
   |succ b=>exact c.ap a b l ds e (λz=>hab (by rw[z])) h1 h2 h3 h4
 ·cases a with
  |zero=>cases q1;cases q5
  |succ a=>
   cases b with
   |zero=>cases q3;exact λ_ z=>z
   |succ b=>exact c.ao a b e1 e2 v1 v2 ad (λz=>hab (by rw[z])) q1 q2 q3 q4 q5
def SemE.l2{K:ag}{fr:List Nat}{wi:TI}{tt:TT}{te:TE}{fi:FI}{ft:FT}{fe:FE}(mi:SemI K wi fi)(mt:SemT K tt ft)(me:SemE K te fe):SemE K (tLG 2 fr wi (gTup K 2 (gCons (zhb 0) (gCons (zhb 1) gNil))) tt te) (eL2 fr fi ft fe):=λB F H σ δ res Q s q k=>by
 obtain⟨ds,q1,q⟩:=bind_some q;obtain⟨out,q2,q⟩:=bind_some q;split at q
 ·rename_i hlen;cases q;refine mi B F H σ δ ds _ s q1 λJ F1 H1 x1 io=>?_;intro a ha;refine⟨λi m ys τ H'=>m=ds.length-i/\i<=ds.length/\(∃o1 o2,τ=o1::o2::zfo fr σ)/\∃F' done rest,Ex F1 H1 F' H'/\F' a=ab/\H' a=aa (.lst ys)/\Reps F' ys done/\zdc (λd=>(two d).bind λp=>ft (cEn2 fr δ p.1 p.2)) (λd=>(two d).bind λp=>fe (cEn2 fr δ p.1 p.2)) (ds.drop i)=aa rest/\out=done++rest,
   ⟨_,rfl,aU _,⟨ab,ab,rfl⟩,F1,[],out,Ex.lay x1.fh ha,x1.fh.free ha,zam,.nil,q2,rfl⟩,?_⟩
  rintro i m ys τ H' ⟨rfl,hi,⟨o1,o2,rfl⟩,F',dn,rest,x',fa,hH,rs,q',eo⟩;have s':=(s.ext x1).ext x';obtain⟨hstop,hgo⟩:=io F' H' x'.ff x'.fh s'.bh;by_cases hlt:i<ds.length
  ·right;have hd:ds[i]? =aa ds[i]:=by simp[hlt]
   obtain⟨g1,g2⟩:=hgo i _ hd;rw[bq hlt]at q';obtain⟨b,q3,q'⟩:=bind_some q';obtain⟨p,qt,q3⟩:=bind_some q3;have et:=two_some qt;refine⟨g1,λv H2 yl=>?_⟩;obtain⟨F2,x2,r2⟩:=g2 v H2 yl;rw[et]at r2;cases r2 with
   |tup e2 rs2=>
    cases rs2 with
    |cons ra rs3=>
     cases rs3 with
     |cons rb rs4=>
      cases rs4;refine⟨_,_,rfl,SqT.of (x2.fh _ _ e2),rfl,_,_,rfl,_,_,rfl,rfl,?_⟩;have sc:=(s'.ext x2).cap2 fr ra rb;refine mt B F2 H2 _ _ b _ sc q3 λF3 H3 x3=>?_;have nn:∀{Fz Hz:Hp},Ex F' H' Fz Hz->Fz a=ab:=λx=>(x.nw _ _ hH rfl).trans fa;cases b with
      |false=>
       refine iteF ⟨ds.length-(i+1),by lia,rfl,hlt,⟨_,_,rfl⟩,F3,dn,rest,(x'.trans x2).trans x3,nn (x2.trans x3),(x2.trans x3).hh _ _ hH,rs.mono (x2.trans x3).ff,q',eo⟩
      |true=>
       refine iteT ?_;obtain⟨y,q4,q'⟩:=bind_some q';obtain⟨r,q5,q6⟩:=bind_some q4;replace q5:(two ds[i]).bind (λp=>fe (cEn2 fr δ p.1 p.2))=aa r:=q5;rw[qt]at q5;obtain⟨rest',q7,q'⟩:=map_some q';cases q';refine me B F3 H3 _ _ r _ (sc.ext x3) q5 λw F4 H4 x4 z4=>?_;obtain⟨F5,x5,_,r5⟩:=RepR.frz x4 (Same.refl _) z4 q6;have xx:Ex F' H' F5 H4:=(x2.trans x3).trans x5;have hy:ys.length<aX:=by
        rw[rs.length,cq];have:out.length=dn.length+(rest'.length+1):=by rw[eo];simp
        lia
       refine⟨xx.hh _ _ hH,hy,ds.length-(i+1),by lia,rfl,hlt,⟨_,_,rfl⟩,F5,dn++[y],rest',?_,nn xx,zam,(rs.mono xx.ff).append (.one r5),q7,by rw[eo];simp⟩;have xo:=x'.trans xx;exact⟨xo.ff,λb o e=>by rw[zar (zaC e (nn xx))];exact xo.fh b o e,λb o e=>by rw[zar (zaC e ha)];exact xo.hh b o e,xo.nw⟩
  ·left;have e:i=ds.length:=by lia
   subst e;rw[ik]at q';cases q';rw[bp]at eo;subst eo;refine⟨hstop,k _ F' H' (x1.trans x') ⟨a,ys,rfl,x1.hh.free ha,hH,rs,fa⟩⟩
 ·cases q
section
variable {X:Cx}{N:List Str}{fr:List Nat}{x x':Str}{scope:Scope}{iter elt:Expr}{ifs:List Expr}{px px' tpos pos:Pos}{fi:FI}{fe:FE}{ft:FT}{tn:Nat}
def vl2(S:CompSk X N 2 fr scope)(n0:N[0]? =aa x)(n1:N[1]? =aa x')(nd:N.Nodup)(t0:scope.names.lookup x=aa .local)(t1:scope.names.lookup x'=aa .local)(hi:VI X (.Tuple [.Name x px,.Name x' px'] tn tpos) iter fi)
  (ht:∀(C:ai) (s₀:ah) (H₀:Hp) (fp:List ai),VTs (cxC X N scope C s₀ H₀ fp) ifs ft) (he:∀(C:ai) (s₀:ah) (H₀:Hp) (fp:List ai),VE (cxC X N scope C s₀ H₀ fp) elt fe)
  (hc:X.calm=true:=by rfl) (hs:∀z,ci iter X.env z=pure z:=by intro _;rfl):VE X (.ListComp elt [⟨.Tuple [.Name x px,.Name x' px'] tn tpos,iter,ifs,0⟩] scope pos) (eL2 fr fi ft fe):=by
 obtain⟨_,w1,m1⟩:=hi.h;have l0:(relabel scope X.env).names.lookup x=aa .local:=lookup_relabel_local t0;have l1:(relabel scope X.env).names.lookup x'=aa .local:=lookup_relabel_local t1;refine⟨_,⟨pe_lg S hc w1.h (λC s₀ H₀ fp=>?_) (λC s₀ H₀ fp=>((ht C s₀ H₀ fp).uni).h) (λC s₀ H₀ fp=>((he C s₀ H₀ fp).uni).h) hs⟩,.l2 m1 zi1 ziQ⟩;exact pg_tup (X:=cxC X N scope C s₀ H₀ fp) hc (zhr (zjd nd n0 (.inl l0) (.inr l0)) (zhr (zjd nd n1 (.inl l1) (.inr l1)) pgs_nil))
end
end L3

namespace L2
open PySem PySem.Spec PyProof.Rows
def gal:Bool->Keyed->Array Keyed->Nat->Nat->Nat->StateT SortSt Sem (Option Nat):=sortPriv% PySem.Builtin.gallop
def mgLo:Array Keyed->Array Keyed->StateT SortSt Sem (Array Keyed):=sortPriv% PySem.Builtin.mergeLo
def mgHi:Array Keyed->Array Keyed->StateT SortSt Sem (Array Keyed):=sortPriv% PySem.Builtin.mergeHi
def setMG:Nat->StateT SortSt Sem Unit:=sortPriv% PySem.Builtin.setMinGallop
abbrev zcB(st:SortSt)(g:Nat):SortSt:=fF (kindOf st) (arrOf st) (bf st) g (failedOf st)
structure Rk(prog:aK)(w:aO)(A:aQ)(s:ah)(kd:SortKind)(D:Keyed->Prop)(rk:Keyed->Nat):Prop where
 lt:∀x y,D x->D y->∀(E:af->ah->Prop) (Q:Bool->ah->Prop),Q (decide (rk x<rk y)) s->av (model prog w) A (keyLt' kd x.1 y.1) Q E s
section
variable {prog:aK}{w:aO}{A:aQ}{E:af->ah->Prop}{s:ah}{kd:SortKind}{D:Keyed->Prop}{rk:Keyed->Nat}{st:SortSt}
def wpS_set{σ:Type}{M:Model}{x:σ}{Q:PUnit->σ->Prop}{st:σ}(h:Q ⟨⟩ x):wpS M A E s (set x:StateT σ Sem PUnit) Q st:=by
 unfold wpS;rw[StateT.run_set];exact ak ⟨rfl,h⟩
def wpS_q(R:Rk prog w A s kd D rk){x y:Keyed}{Q:Option Bool->SortSt->Prop}(hk:kindOf st=kd)(hx:D x)(hy:D y)(h:Q (aa (decide (rk x<rk y))) st):wpS (model prog w) A E s (lt' x y) Q st:=by
 rw[lt'_eq];refine aA (wpS_get ?_);rw[hk];refine aA (wpS_lift (wpAny_attempt (R.lt x y hx hy _ _ ⟨rfl,?_⟩)));exact aG h
def zbr{arr:Array Keyed}{i:Nat}{Q:Keyed->SortSt->Prop}(hi:i<arr.size)(h:Q arr[i] st):wpS (model prog w) A E s (elem' arr i) Q st:=by
 rw[elem'_eq,getElem?_pos arr i hi];exact aG h
def zeD{r:String}{Q:Unit->SortSt->Prop}(h:Q () st):wpS (model prog w) A E s (liftM (rule r):StateT SortSt Sem Unit) Q st:=wpS_lift (wpAny_rule ⟨rfl,h⟩)
def zhg{g:Nat}{Q:Unit->SortSt->Prop}(h:Q () (zcB st g)):wpS (model prog w) A E s (setMG g) Q st:=wpS_modify h
def beyB(rk:Keyed->Nat)(left:Bool)(key:Keyed)(arr:Array Keyed)(base i:Nat):Bool:=if left then decide ((arr[base+i]?.map rk).getD 0<rk key)else !decide (rk key<(arr[base+i]?.map rk).getD 0)
def wpS_bey(R:Rk prog w A s kd D rk){left:Bool}{key:Keyed}{arr:Array Keyed}{base i:Nat}{Q:Option Bool->SortSt->Prop}(hk:kindOf st=kd)(hD:∀x∈arr,D x)(hy:D key)(hi:base+i<arr.size)(h:Q (aa (beyB rk left key arr base i)) st) :
  wpS (model prog w) A E s (elem' arr (base+i) >>= λx=>if left=true then lt' x key else lt' key x >>= λq=>pure (lE (λb=>!b) q)) Q st:=by
 have e:arr[base+i]? =aa arr[base+i]:=getElem?_pos arr _ hi;unfold beyB at h;rw[e]at h;refine aA (zbr hi ?_);cases left with
 |true=>exact wpS_q R hk (hD _ (bo hi)) hy h
 |false=>exact aA (wpS_q R hk hy (hD _ (bo hi)) (aG h))
def gal_bs{n:Nat}{f:Nat->Option (Option Nat)×Nat×Nat->StateT SortSt Sem (ForInStep (Option (Option Nat)×Nat×Nat))}{g:Option (Option Nat)×Nat×Nat->StateT SortSt Sem (Option Nat)}{B:Nat->Bool}{Q:Option Nat->SortSt->Prop}{lo hi:Nat}
  (mono:∀i j,i<=j->j<n->B j=true->B i=true)
  (stop:∀x lo hi (P:ForInStep (Option (Option Nat)×Nat×Nat)->SortSt->Prop),lo ≥ hi->P (.done (ab,lo,hi)) st->wpS (model prog w) A E s (f x (ab,lo,hi)) P st)
  (go:∀x lo hi (P:ForInStep (Option (Option Nat)×Nat×Nat)->SortSt->Prop),¬ lo ≥ hi->hi<=n->(B (lo+(hi-lo) / 2)=true->P (.yield (ab,lo+(hi-lo) / 2+1,hi)) st)->(B (lo+(hi-lo) / 2)=false->P (.yield (ab,lo,lo+(hi-lo) / 2)) st)->wpS (model prog w) A E s (f x (ab,lo,hi)) P st)
  (out:∀k,Q (aa k) st->wpS (model prog w) A E s (g (ab,k,k)) Q st)
  (h1:lo<=hi) (h2:hi<=n) (h3:∀i,i<lo->B i=true) (h4:∀i,hi<=i->i<n->B i=false)
  (h:∀k,k<=n->(∀i,i<k->B i=true)->(∀i,k<=i->i<n->B i=false)->Q (aa k) st):wpS (model prog w) A E s (forIn [0:n] (ab,lo,hi) f >>= g) Q st:=by
 refine aA (wpS_mono (ce (I:=λx c st'=>st'=st/\∃lo hi,c=(ab,lo,hi)/\lo<=hi/\hi<=n/\hi-lo<=n-x/\(∀i,i<lo->B i=true)/\(∀i,hi<=i->i<n->B i=false))
  (Q:=λc st'=>st'=st/\∃k,c=(ab,k,k)/\k<=n/\(∀i,i<k->B i=true)/\(∀i,k<=i->i<n->B i=false)) ?step ?fin ⟨rfl,lo,hi,rfl,h1,h2,by lia,h3,h4⟩) ?post)
 case post=>
  rintro c st' ⟨rfl,k,rfl,k1,k2,k3⟩;exact out k (h k k1 k2 k3)
 case fin=>
  rintro c st' ⟨rfl,lo,hi,rfl,h1,h2,h3,h4,h5⟩;have:lo=hi:=by lia
  subst this;exact⟨rfl,lo,rfl,h2,h4,h5⟩
 case step=>
  rintro x c st' _ hx ⟨rfl,lo,hi,rfl,h1,h2,h3,h4,h5⟩;by_cases hge:lo ≥ hi
  ·have:lo=hi:=by lia
   subst this;exact stop x lo lo _ hge ⟨rfl,lo,rfl,h2,h4,h5⟩
  ·refine go x lo hi _ hge h2 (λhm=>?_) λhm=>?_
   ·exact⟨rfl,_,_,rfl,by lia,h2,by lia,λi hi'=>mono i (lo+(hi-lo) / 2) (by lia) (by lia) hm,h5⟩
   ·refine⟨rfl,_,_,rfl,by lia,by lia,by lia,h4,λi hi1 hi2=>?_⟩;cases hb:B i with
    |false=>rfl
    |true=>rw[mono _ i hi1 hi2 hb]at hm;cases hm
def wpS_gal(R:Rk prog w A s kd D rk){left:Bool}{key:Keyed}{arr:Array Keyed}{base n hint:Nat}{Q:Option Nat->SortSt->Prop}(hk:kindOf st=kd)(hD:∀x∈arr,D x)(hy:D key)(hn:base+n<=arr.size)(hh:hint<n)
  (mono:∀i j,i<=j->j<n->beyB rk left key arr base j=true->beyB rk left key arr base i=true)
  (h:∀k,k<=n->(∀i,i<k->beyB rk left key arr base i=true)->(∀i,k<=i->i<n->beyB rk left key arr base i=false)->Q (aa k) st) :
  wpS (model prog w) A E s (gal left key arr base n hint) Q st:=by
 generalize hB:beyB rk left key arr base=B at mono h;have ask:∀(i:Nat) (Q:Option Bool->SortSt->Prop),i<n->Q (aa (B i)) st->wpS (model prog w) A E s (elem' arr (base+i) >>= λx=>if left=true then lt' x key else lt' key x >>= λq=>pure (lE (λb=>!b) q)) Q st:=λi Q hi hq=>
  wpS_bey R hk hD hy (by lia) (by rw[hB];exact hq)
 refine aA (ask hint _ hh ?_);dsimp only;cases hr:B hint with
 |true=>
  rw[if_pos rfl];refine aA (wpS_mono (ce (I:=λx c st'=>st'=st/\∃la ofs,c=(ab,la,ofs)/\la<ofs/\x<ofs/\la<n-hint/\B (hint+la)=true)
   (Q:=λc st'=>st'=st/\∃la ofs,c=(ab,la,ofs)/\la<ofs/\la<n-hint/\B (hint+la)=true/\(ofs<n-hint->B (hint+ofs)=false)) ?step1 ?fin1 ⟨rfl,0,1,rfl,by lia,by lia,by lia,hr⟩) ?post1)
  case fin1=>
   rintro c st' ⟨rfl,la,ofs,rfl,h1,h2,h3,h4⟩;exact⟨rfl,la,ofs,rfl,h1,h3,h4,λh=>by lia⟩
  case step1=>
   rintro x c st' _ hx ⟨rfl,la,ofs,rfl,h1,h2,h3,h4⟩;dsimp only;by_cases hge:ofs ≥ n-hint
   ·rw[if_pos hge];exact aG ⟨rfl,la,ofs,rfl,h1,h3,h4,λh=>by lia⟩
   ·rw[if_neg hge];refine aA (ask _ _ (by lia) ?_);dsimp only;cases hm:B (hint+ofs)with
    |true=>
     simp only[eL,bm,if_false];exact aG ⟨rfl,_,_,rfl,by lia,by lia,by lia,hm⟩
    |false=>
     simp only[Bool.not_false,if_true];exact aG ⟨rfl,la,ofs,rfl,h1,h3,h4,λ_=>hm⟩
  case post1=>
   rintro c st' ⟨rfl,la,ofs,rfl,h1,h3,h4,h5⟩;dsimp only;refine gal_bs (lo:=hint+la+1) (hi:=hint+min ofs (n-hint)) mono (λx lo hi P hge hP=>by
    dsimp only;rw[if_pos hge];exact aG hP) (λx lo hi P hge h2 ht hf=>by
    dsimp only;rw[if_neg hge];refine aA (ask _ _ (by lia) ?_);dsimp only;cases hm:B (lo+(hi-lo) / 2)with
    |true=>rw[if_pos rfl];exact aG (ht hm)
    |false=>rw[if_neg (by simp)];exact aG (hf hm)) (λk hQ=>aG hQ) (by lia) (by lia) (λi hi=>mono i (hint+la) (by lia) (by lia) h4) (λi hi1 hi2=>?_) h
   have ho:ofs<n-hint:=by lia
   cases hb:B i with
   |false=>rfl
   |true=>have:=mono (hint+ofs) i (by lia) hi2 hb;rw[h5 ho]at this;cases this
 |false=>
  rw[if_neg (by simp)];refine aA (wpS_mono (ce (I:=λx c st'=>st'=st/\∃la ofs,c=(ab,la,ofs)/\la<ofs/\x<ofs/\la<hint+1/\B (hint-la)=false)
   (Q:=λc st'=>st'=st/\∃la ofs,c=(ab,la,ofs)/\la<ofs/\la<hint+1/\B (hint-la)=false/\(ofs<hint+1->B (hint-ofs)=true)) ?step2 ?fin2 ⟨rfl,0,1,rfl,by lia,by lia,by lia,hr⟩) ?post2)
  case fin2=>
   rintro c st' ⟨rfl,la,ofs,rfl,h1,h2,h3,h4⟩;exact⟨rfl,la,ofs,rfl,h1,h3,h4,λh=>by lia⟩
  case step2=>
   rintro x c st' _ hx ⟨rfl,la,ofs,rfl,h1,h2,h3,h4⟩;dsimp only;by_cases hge:ofs ≥ hint+1
   ·rw[if_pos hge];exact aG ⟨rfl,la,ofs,rfl,h1,h3,h4,λh=>by lia⟩
   ·rw[if_neg hge];refine aA (ask _ _ (by lia) ?_);dsimp only;cases hm:B (hint-ofs)with
    |true=>
     rw[if_pos rfl];exact aG ⟨rfl,la,ofs,rfl,h1,h3,h4,λ_=>hm⟩
    |false=>
     rw[if_neg (by simp)];exact aG ⟨rfl,_,_,rfl,by lia,by lia,by lia,hm⟩
  case post2=>
   rintro c st' ⟨rfl,la,ofs,rfl,h1,h3,h4,h5⟩;dsimp only;refine gal_bs (lo:=hint+1-min ofs (hint+1)) (hi:=hint-la) mono (λx lo hi P hge hP=>by
    dsimp only;rw[if_pos hge];exact aG hP) (λx lo hi P hge h2 ht hf=>by
    dsimp only;rw[if_neg hge];refine aA (ask _ _ (by lia) ?_);dsimp only;cases hm:B (lo+(hi-lo) / 2)with
    |true=>rw[if_pos rfl];exact aG (ht hm)
    |false=>rw[if_neg (by simp)];exact aG (hf hm)) (λk hQ=>aG hQ) (by lia) (by lia) (λi hi=>?_) (λi hi1 hi2=>?_) h
   ·exact mono i (hint-ofs) (by lia) (by lia) (h5 (by lia))
   ·cases hb:B i with
    |false=>rfl
    |true=>have:=mono (hint-la) i hi1 hi2 hb;rw[h4]at this;cases this
end
end L2

namespace L2
open PySem PySem.Spec PyProof.Rows
section
variable {prog:aK}{w:aO}{A:aQ}{E:af->ah->Prop}{s:ah}{kd:SortKind}{D:Keyed->Prop}{rk:Keyed->Nat}{st:SortSt}
def kA(rk:Keyed->Nat)(xs:Array Keyed)(i:Nat):Nat:=(xs[i]?.map rk).getD 0
def zc3{xs:Array Keyed}{i:Nat}(h:i<xs.size):kA rk xs i=rk xs[i]:=by
 unfold kA;rw[getElem?_pos xs i h];rfl
def Up(rk:Keyed->Nat)(xs:Array Keyed)(lo hi:Nat):Prop:=∀i j,lo<=i->i<=j->j<hi->kA rk xs i<=kA rk xs j
def zdZ{xs:Array Keyed}{lo hi:Nat}(h:hi<=xs.size):(xs.extract lo hi).size=hi-lo:=by rw[gP,dW h]
structure MgR(r:Keyed->Keyed->Prop)(all:List Keyed)(out:Array Keyed)(rest:List Keyed):Prop where
 perm:(out.toList++rest).Perm all
 srt:out.toList.Pairwise r
 low:∀x∈out.toList,∀y∈rest,r x y
abbrev Mg(rk:Keyed->Nat):=MgR λx y=>rk x<=rk y
def MgR.take{r:Keyed->Keyed->Prop}{all rest rest':List Keyed}{out c:Array Keyed}(M:MgR r all out rest)(p:rest.Perm (c.toList++rest'))(hs:c.toList.Pairwise r)(hl:∀x∈c.toList,∀y∈rest',r x y):MgR r all (out++c) rest':=by
 refine⟨?_,?_,?_⟩
 ·rw[dP,bw];exact(p.symm.append_left _).trans M.perm
 ·rw[dP,List.pairwise_append];exact⟨M.srt,hs,λx hx y hy=>M.low x hx y (p.mem_iff.mpr (bQ _ hy))⟩
 ·intro x hx y hy;rw[dP]at hx;rcases br.mp hx with hx|hx
  ·exact M.low x hx y (p.mem_iff.mpr (aI _ hy))
  ·exact hl x hx y hy
def MgR.swap{r:Keyed->Keyed->Prop}{all ra rb:List Keyed}{out:Array Keyed}(M:MgR r all out (ra++rb)):MgR r all out (rb++ra):=by
 have h:=M.take (c:=#[]) (rest':=rb++ra) ga .nil (λx hx=>by cases hx);rwa [dY]at h
def Mg.swap{all ra rb:List Keyed}{out:Array Keyed}(M:Mg rk all out (ra++rb)):Mg rk all out (rb++ra):=MgR.swap M
def zjy{xs:Array Keyed}{i:Nat}{x:Keyed}(h:x∈xs.toList.drop i):∃j,i<=j/\j<xs.size/\kA rk xs j=rk x:=by
 obtain⟨j,hj,rfl⟩:=gj.mp h;rw[eB]at hj;have hj':i+j<xs.size:=by have:xs.toList.length=xs.size:=aE;lia
 refine⟨i+j,by lia,hj',?_⟩;rw[zc3 hj',List.getElem_drop];rfl
def zfZ{xs:Array Keyed}{i k:Nat}{x:Keyed}(h:x∈(xs.extract i k).toList):∃j,i<=j/\j<k/\j<xs.size/\kA rk xs j=rk x:=by
 obtain⟨j,hj,rfl⟩:=gj.mp h;have hj2:j<(xs.extract i k).size:=by rw[aE]at hj;exact hj
 have hj3:=hj2;rw[gP]at hj3;have hj4:i+j<min k xs.size:=fg i j ▸ dF hj3;have hj':i+j<xs.size:=aW hj4 (fT _ _);refine⟨i+j,cI _ _,aW hj4 (j6 _ _),hj',?_⟩;rw[zc3 hj',dG,dB]
def ext_up{xs:Array Keyed}{i k:Nat}(h:Up rk xs i k):(xs.extract i k).toList.Pairwise λx y=>rk x<=rk y:=by
 rw[eU];intro a b ha hb hab;have h1:a<(xs.extract i k).size:=by rw[aE]at ha;exact ha
 have h2:b<(xs.extract i k).size:=by rw[aE]at hb;exact hb
 have h3:=h1;have h4:=h2;rw[gP]at h3 h4;have h5:i+a<min k xs.size:=fg i a ▸ dF h3;have h6:i+b<min k xs.size:=fg i b ▸ dF h4;have z:=h (i+a) (i+b) (cI _ _) (dO (bz hab) _) (aW h6 (j6 _ _));rw[zc3 (aW h5 (fT _ _)),zc3 (aW h6 (fT _ _))]at z;rw[dG,dG,dB,dB];exact z
def zeZ{xs:Array Keyed}{i k:Nat}(h:i<=k):xs.toList.drop i=(xs.extract i k).toList++xs.toList.drop k:=by
 rw[cU,cL];have:xs.toList.drop k=(xs.toList.drop i).drop (k-i):=by rw[j9];congr 1;lia
 rw[this,ef]
def Up.mono{xs:Array Keyed}{lo hi lo' hi':Nat}(h:Up rk xs lo hi)(h1:lo<=lo')(h2:hi'<=hi):Up rk xs lo' hi':=λi j a b c=>h i j (by lia) b (by lia)
def Mg.runA{all:List Keyed}{out a b:Array Keyed}{i j k:Nat}(M:Mg rk all out (a.toList.drop i++b.toList.drop j))(h:i<=k)(hk:k<=a.size)(sa:Up rk a 0 a.size)(hb:∀x y,i<=x->x<k->j<=y->y<b.size->kA rk a x<=kA rk b y):Mg rk all (out++a.extract i k) (a.toList.drop k++b.toList.drop j):=by
 refine M.take ?_ (ext_up (sa.mono (aU _) hk)) ?_
 ·rw[zeZ h,bw]
 ·intro x hx y hy;obtain⟨p,p1,p2,p3,p4⟩:=zfZ (rk:=rk) hx;rw[<- p4];rcases br.mp hy with hy|hy
  ·obtain⟨q,q1,q2,q3⟩:=zjy (rk:=rk) hy;rw[<- q3];exact sa p q (aU _) (by lia) q2
  ·obtain⟨q,q1,q2,q3⟩:=zjy (rk:=rk) hy;rw[<- q3];exact hb p q p1 p2 q1 q2
def Mg.oneA{all:List Keyed}{out a b:Array Keyed}{i j:Nat}(M:Mg rk all out (a.toList.drop i++b.toList.drop j))(hk:i<a.size)(sa:Up rk a 0 a.size)(hb:∀y,j<=y->y<b.size->kA rk a i<=kA rk b y):Mg rk all (out.push a[i]) (a.toList.drop (i+1)++b.toList.drop j):=by
 have h:=M.runA (k:=i+1) (by lia) hk sa (λx y h1 h2 h3 h4=>(show i=x by lia) ▸ hb y h3 h4);have e:out++a.extract i (i+1)=out.push a[i]:=by
  apply jg;rw[dP,dE,cU,cL,show i+1-i=1 by lia,bq (by simpa using hk)];simp
 rwa [e]at h
def Mg.end_{all:List Keyed}{out:Array Keyed}(M:Mg rk all out []):out.toList.Perm all/\out.toList.Pairwise λx y=>rk x<=rk y:=⟨by simpa using M.perm,M.srt⟩
def zhl(R:Rk prog w A s kd D rk){key:Keyed}{arr:Array Keyed}{base n hint:Nat}{Q:Option Nat->SortSt->Prop}(hk:kindOf st=kd)(hD:∀x∈arr,D x)(hy:D key)(hn:base+n<=arr.size)(hh:hint<n)(hu:Up rk arr base (base+n))
  (h:∀k,k<=n->(∀i,base<=i->i<base+k->kA rk arr i<=rk key)->(∀i,base+k<=i->i<base+n->rk key<kA rk arr i)->Q (aa k) st):wpS (model prog w) A E s (gal false key arr base n hint) Q st:=by
 have hb:∀i,beyB rk false key arr base i=!decide (rk key<kA rk arr (base+i)):=λi=>rfl;refine wpS_gal R hk hD hy hn hh (λi j hij hj hB=>?_) λk h1 h2 h3=>h k h1 (λi i1 i2=>?_) λi i1 i2=>?_
 ·rw[hb]at hB ⊢;have:=hu (base+i) (base+j) (by lia) (by lia) (by lia);simp only[hJ,decide_eq_false_iff_not]at hB ⊢;lia
 ·have:=h2 (i-base) (by lia);rw[hb,show base+(i-base)=i by lia]at this;simp only[hJ,decide_eq_false_iff_not]at this;lia
 ·have:=h3 (i-base) (by lia) (by lia);rw[hb,show base+(i-base)=i by lia]at this;simpa using this
def zg8(R:Rk prog w A s kd D rk){key:Keyed}{arr:Array Keyed}{base n hint:Nat}{Q:Option Nat->SortSt->Prop}(hk:kindOf st=kd)(hD:∀x∈arr,D x)(hy:D key)(hn:base+n<=arr.size)(hh:hint<n)(hu:Up rk arr base (base+n))
  (h:∀k,k<=n->(∀i,base<=i->i<base+k->kA rk arr i<rk key)->(∀i,base+k<=i->i<base+n->rk key<=kA rk arr i)->Q (aa k) st):wpS (model prog w) A E s (gal true key arr base n hint) Q st:=by
 have hb:∀i,beyB rk true key arr base i=decide (kA rk arr (base+i)<rk key):=λi=>rfl;refine wpS_gal R hk hD hy hn hh (λi j hij hj hB=>?_) λk h1 h2 h3=>h k h1 (λi i1 i2=>?_) λi i1 i2=>?_
 ·rw[hb]at hB ⊢;have:=hu (base+i) (base+j) (by lia) (by lia) (by lia);simp only[decide_eq_true_eq]at hB ⊢;lia
 ·have:=h2 (i-base) (by lia);rw[hb,show base+(i-base)=i by lia]at this;simpa using this
 ·have:=h3 (i-base) (by lia) (by lia);rw[hb,show base+(i-base)=i by lia]at this;simp only[decide_eq_false_iff_not]at this;lia
def zfn(rk:Keyed->Nat)(a b out:Array Keyed):Prop:=out.toList.Perm (a.toList++b.toList)/\out.toList.Pairwise λx y=>rk x<=rk y
def zeX{xs:Array Keyed}{k:Nat}(h:xs.size<=k):xs.toList.drop k=[]:=iX (by simpa using h)
def Mg.finB{a b out:Array Keyed}{i j:Nat}(M:Mg rk (a.toList++b.toList) out (a.toList.drop i++b.toList.drop j))(sa:Up rk a 0 a.size)(sb:Up rk b 0 b.size)(hi:i<=a.size)(hj:j=b.size):zfn rk a b (out++a.extract i a.size++b.extract j b.size):=by
 have M1:=(M.runA (k:=a.size) hi (am _) sa (λx y _ _ h3 h4=>by lia)).swap.runA (k:=b.size) (by lia) (am _) sb (λx y h1 h2 _ _=>by lia);rw[zeX (am _),zeX (am _)]at M1;exact M1.end_
def Mg.finA{a b out:Array Keyed}{i j:Nat}(M:Mg rk (a.toList++b.toList) out (a.toList.drop i++b.toList.drop j))(sa:Up rk a 0 a.size)(sb:Up rk b 0 b.size)(hi:i+1=a.size)(hj:j<=b.size)(hl:∀y,y<b.size->kA rk b y<kA rk a (a.size-1)):zfn rk a b (out++b.extract j b.size++a.extract i a.size):=by
 have M1:=(M.swap.runA (k:=b.size) hj (am _) sb (λx y h1 h2 h3 h4=>by
  have:y=a.size-1:=by lia
  subst this;exact bz (hl x h2))).swap.runA (k:=a.size) (by lia) (am _) sa (λx y h1 h2 h3 h4=>by lia)
 rw[zeX (am _),zeX (am _)]at M1;exact M1.end_
def ze4{xs:Array Keyed}{i:Nat}:xs.extract i i=#[]:=by
 apply jg;rw[cU,cL,dw,i4]
section
variable {M:Model}{α σ β γ:Type}{Q:α->σ->Prop}{st:σ}{c:Prop}{_:Decidable c}{c1 c2:γ->Prop}{_:∀x,Decidable (c1 x)}{_:∀x,Decidable (c2 x)}{p2:γ->Prop}{p1:γ->β->Prop}{r r2 f:β->γ->StateT σ Sem α}{y1:β}{y2:γ}
def zjq{b:β}{f:β->StateT σ Sem α}(h:∀g,wpS M A E s (f g) Q st):∀a,wpS M A E s (if c then f a else f b) Q st:=by
 intro a;split <;> exact h _
def zjP(h1:∀x1 x2,p2 x2->p1 x2 x1->c->c1 x2->wpS M A E s (r x1 x2) Q st)(h:∀z1 z2,(c/\p2 z2/\p1 z2 z1/\¬ c1 z2)\/(¬ c/\z1=y1/\z2=y2)->wpS M A E s (f z1 z2) Q st) :
  ∀x2,p2 x2->∀x1,p1 x2 x1->wpS M A E s (if c then if c1 x2 then r x1 x2 else f x1 x2 else f y1 y2) Q st:=by
 intro x2 q2 x1 q1;split
 ·rename_i e;split
  ·rename_i e1;exact h1 _ _ q2 q1 e e1
  ·rename_i e1;exact h _ _ (.inl ⟨e,q2,q1,e1⟩)
 ·rename_i e;exact h _ _ (.inr ⟨e,rfl,rfl⟩)
def zhP(h2:∀x2,p2 x2->c->¬ c2 x2)(h1:∀x1 x2,p2 x2->p1 x2 x1->c->c1 x2->wpS M A E s (r x1 x2) Q st)(h:∀z1 z2,(c/\p2 z2/\p1 z2 z1/\¬ c1 z2)\/(¬ c/\z1=y1/\z2=y2)->wpS M A E s (f z1 z2) Q st) :
  ∀x2,p2 x2->∀x1,p1 x2 x1->wpS M A E s (if c then if c1 x2 then r x1 x2 else if c2 x2 then r2 x1 x2 else f x1 x2 else f y1 y2) Q st:=by
 intro x2 q2 x1 q1;split
 ·rename_i e;rw[if_neg (h2 _ q2 e)];split
  ·rename_i e1;exact h1 _ _ q2 q1 e e1
  ·rename_i e1;exact h _ _ (.inl ⟨e,q2,q1,e1⟩)
 ·rename_i e;exact h _ _ (.inr ⟨e,rfl,rfl⟩)
end
def wpS_mgLo(R:Rk prog w A s kd D rk){a b:Array Keyed}{Q:Array Keyed->SortSt->Prop}(hk:kindOf st=kd)(hDa:∀x∈a,D x)(hDb:∀x∈b,D x)(sa:Up rk a 0 a.size)(sb:Up rk b 0 b.size)(ha:1<=a.size)(hb:1<=b.size)
  (h0:kA rk b 0<=kA rk a 0) (hl:∀y,y<b.size->kA rk b y<kA rk a (a.size-1))
  (h:∀out g,out.toList.Perm (a.toList++b.toList)->(out.toList.Pairwise λx y=>rk x<=rk y)->Q out (zcB st g)):wpS (model prog w) A E s (mgLo a b) Q st:=by
 refine aA (zeD ?_);refine aA (zbr hb ?_);have M0:Mg rk (a.toList++b.toList) #[b[0]] (a.toList.drop 0++b.toList.drop 1):=by
  have h1:Mg rk (a.toList++b.toList) #[] (b.toList.drop 0++a.toList.drop 0):=⟨by simpa using ga,.nil,λx hx=>by cases hx⟩
  exact(h1.oneA hb sb (λy _ hy=>aS h0 (sa 0 y (am _) (aU _) hy))).swap
 have good:∀{out:Array Keyed} {g:Nat},zfn rk a b out->Q out (zcB st g):=λhW=>h _ _ hW.1 hW.2;dsimp only;by_cases hb1:1=b.size
 ·rw[if_pos (by simpa using hb1)];exact aG (good (g:=gallopOf st) (M0.finB sa sb (aU _) hb1))
 rw[if_neg (by simpa using hb1)];by_cases ha1:0+1=a.size
 ·rw[if_pos (by simpa using ha1)];exact aG (good (g:=gallopOf st) (M0.finA sa sb ha1 hb hl))
 rw[if_neg (by simpa using ha1)];refine aA (wpS_get ?_);refine aA (wpS_mono (ce (I:=λx c st'=>(∃g,st'=zcB st g)/\∃out ia ib mg,c=(ab,out,ia,ib,mg)/\x+1<=ia+ib/\ia+1<a.size/\ib<b.size/\Mg rk (a.toList++b.toList) out (a.toList.drop ia++b.toList.drop ib))
  (Q:=λc st'=>(∃g,st'=zcB st g)/\∃r z,c=(aa r,z)/\zfn rk a b r) ?step ?fin ⟨⟨gallopOf st,rfl⟩,_,_,_,_,rfl,by lia,by lia,by lia,M0⟩) ?post)
 case post=>
  rintro c st' ⟨⟨g,rfl⟩,r,z,rfl,hW⟩;exact aG (good hW)
 case fin=>
  rintro c st' ⟨_,out,ia,ib,mg,rfl,h1,h2,h3,_⟩;exfalso;lia
 case step=>
  rintro x c st' _ hx ⟨⟨g,rfl⟩,out,ia,ib,mg,rfl,h1,h2,h3,M⟩;dsimp only;refine aA (wpS_mono (ce (I:=λy c st'=>st'=zcB st g/\∃out ia' ib' ac bc,c=(ab,out,ia',ib',ac,bc)/\ia+ib+y<=ia'+ib'/\ia'+1<a.size/\ib'<b.size/\Mg rk (a.toList++b.toList) out (a.toList.drop ia'++b.toList.drop ib'))
   (Q:=λc st'=>st'=zcB st g/\((∃out ia' ib' ac bc,c=(ab,out,ia',ib',ac,bc)/\ia+ib+1<=ia'+ib'/\ia'+1<a.size/\ib'<b.size/\Mg rk (a.toList++b.toList) out (a.toList.drop ia'++b.toList.drop ib'))\/∃r z,c=(aa r,z)/\zfn rk a b r)) ?step1 ?fin1 ⟨rfl,_,_,_,_,_,rfl,by lia,h2,h3,M⟩) ?post1)
  case fin1=>
   rintro c st' ⟨rfl,out,ia',ib',ac,bc,rfl,h1,h2,h3,M⟩;exact⟨rfl,.inl ⟨_,_,_,_,_,rfl,by lia,h2,h3,M⟩⟩
  case step1=>
   rintro y c st' _ hy ⟨rfl,out,ia',ib',ac,bc,rfl,h1,h2,h3,M⟩;dsimp only;have h2':ia'<a.size:=by lia
   refine aA (zbr h3 ?_);refine aA (zbr h2' ?_);refine aA (wpS_q R hk (hDb _ (bo h3)) (hDa _ (bo h2')) ?_);dsimp only;rw[<- zc3 (rk:=rk) h3,<- zc3 (rk:=rk) h2'];by_cases hw:kA rk b ib'<kA rk a ia'
   ·rw[decide_eq_true hw,if_pos rfl];refine aA (zbr h3 ?_);have M1:=(M.swap.oneA h3 sb (λy h1 h2=>aS (bz hw) (sa ia' y (aU _) h1 h2))).swap;by_cases he:ib'+1=b.size
    ·rw[if_pos (by simpa using he)];exact aG ⟨rfl,.inr ⟨_,_,rfl,M1.finB sa sb (by lia) he⟩⟩
    ·rw[if_neg (by simpa using he)];split
     ·exact aG ⟨rfl,.inl ⟨_,_,_,_,_,rfl,by lia,h2,by lia,M1⟩⟩
     ·exact aG ⟨rfl,_,_,_,_,_,rfl,by lia,h2,by lia,M1⟩
   ·rw[decide_eq_false hw,if_neg (by simp)];refine aA (zbr h2' ?_);have M1:=M.oneA h2' sa (λy h1 h2=>aS (by lia) (sb ib' y (aU _) h1 h2));by_cases he:ia'+1+1=a.size
    ·rw[if_pos (by simpa using he)];exact aG ⟨rfl,.inr ⟨_,_,rfl,M1.finA sa sb he (by lia) hl⟩⟩
    ·rw[if_neg (by simpa using he)];split
     ·exact aG ⟨rfl,.inl ⟨_,_,_,_,_,rfl,by lia,by lia,h3,M1⟩⟩
     ·exact aG ⟨rfl,_,_,_,_,_,rfl,by lia,by lia,h3,M1⟩
  case post1=>
   rintro c st' ⟨rfl,⟨out,ia',ib',ac,bc,rfl,h1,h2,h3,M⟩|⟨r,z,rfl,hW⟩⟩
   ·dsimp only;refine aA (zeD ?_);refine aA (wpS_mono (ce (I:=λy c st'=>(∃g,st'=zcB st g)/\∃out ia2 ib2 mg ac bc,c=(ab,out,ia2,ib2,mg,ac,bc)/\ia+ib+1<=ia2+ib2/\ia2+1<a.size/\ib2<b.size/\Mg rk (a.toList++b.toList) out (a.toList.drop ia2++b.toList.drop ib2))
     (Q:=λc st'=>(∃g,st'=zcB st g)/\((∃out ia2 ib2 mg ac bc,c=(ab,out,ia2,ib2,mg,ac,bc)/\ia+ib+1<=ia2+ib2/\ia2+1<a.size/\ib2<b.size/\Mg rk (a.toList++b.toList) out (a.toList.drop ia2++b.toList.drop ib2))\/∃r z,c=(aa r,z)/\zfn rk a b r)) ?step2 ?fin2 ⟨⟨g,rfl⟩,_,_,_,_,_,_,rfl,h1,h2,h3,M⟩) ?post2)
    case fin2=>
     rintro c st' ⟨hg,z⟩;exact⟨hg,.inl z⟩
    case post2=>
     rintro c st' ⟨⟨g,rfl⟩,⟨out,ia2,ib2,mg,ac,bc,rfl,h1,h2,h3,M⟩|⟨r,z,rfl,hW⟩⟩
     ·dsimp only;exact aA (zhg (aG ⟨⟨_,rfl⟩,_,_,_,_,rfl,by lia,h2,h3,M⟩))
     ·exact aG ⟨⟨_,rfl⟩,_,_,rfl,hW⟩
    case step2=>
     clear h1 h2 h3 M;rintro y c st' _ hy ⟨⟨g,rfl⟩,out,ia',ib',mg,ac,bc,rfl,h1,h2,h3,M⟩;dsimp only;have h2':ia'<a.size:=by lia
     generalize mg-1=mg';revert mg';refine zjq ?_;intro g';refine aA (zhg ?_);refine aA (zbr h3 ?_);refine aA (zhl R hk hDa (hDb _ (bo h3)) (by lia) (by lia) (sa.mono (aU _) (by lia)) λk k1 k2 k3=>?_);rw[<- zc3 (rk:=rk) h3]at k2 k3;have hkk:ia'+k<a.size:=by
      refine fW λhc=>?_;have e1:=k2 (a.size-1) (by lia) (by lia);have e2:=hl ib' h3;lia
     have M1:=M.runA (k:=ia'+k) (by lia) (by lia) sa (λx y x1 x2 y1 y2=>aS (k2 x x1 x2) (sb ib' y (aU _) y1 y2));have k4:∀y,ia'+k<=y->y<a.size->kA rk b ib'<=kA rk a y:=λy y1 y2=>bz (k3 y y1 (by lia));have z0:k=0->out++a.extract ia' (ia'+k)=out/\ia'+k=ia':=λe=>by
      subst e;rw[gq,ze4,dY];exact⟨rfl,rfl⟩
     clear k1 k2 k3;dsimp only;generalize hj1:ia'+k=j1;generalize ho1:out++a.extract ia' j1=o1;revert o1 j1;refine zhP (λj1 e1 _=>by subst e1;simp;lia) (λo1 j1 e1 e2 _ he=>?_) λo2 j2 hz=>?_
     ·subst e1;subst e2;exact aG ⟨⟨_,rfl⟩,.inr ⟨_,_,rfl,M1.finA sa sb (by simpa using he) (by lia) hl⟩⟩
     have hz':o2=out++a.extract ia' (ia'+k)/\j2=ia'+k/\¬ j2+1=a.size:=by
      rcases hz with ⟨_,e1,e2,he⟩|⟨he,e1,e2⟩
      ·subst e1;exact⟨e2.symm,rfl,by simpa using he⟩
      ·obtain⟨q1,q2⟩:=z0 (by lia);rw[q1,q2];exact⟨e1,e2,by lia⟩
     clear hz z0;obtain⟨e1,e2,he⟩:=hz';rw[<- e1,<- e2]at M1;rw[<- e2]at hkk k4;have hj2:ia'<=j2:=by lia
     clear e1 e2;refine aA (zbr h3 ?_);have M2:=(M1.swap.oneA h3 sb k4).swap;by_cases he2:ib'+1=b.size
     ·rw[if_pos (by simpa using he2)];exact aG ⟨⟨_,rfl⟩,.inr ⟨_,_,rfl,M2.finB sa sb (by lia) he2⟩⟩
     rw[if_neg (by simpa using he2)];refine aA (zbr hkk ?_);refine aA (zg8 R hk hDb (hDa _ (bo hkk)) (by lia) (by lia) (sb.mono (aU _) (by lia)) λl l1 l2 l3=>?_);rw[<- zc3 (rk:=rk) hkk]at l2 l3;have M3:=(M2.swap.runA (k:=ib'+1+l) (by lia) (by lia) sb (λx y x1 x2 y1 y2=>aS (bz (l2 x x1 x2)) (sa _ y (aU _) y1 y2))).swap;have l4:∀y,ib'+1+l<=y->y<b.size->kA rk a j2<=kA rk b y:=λy y1 y2=>l3 y y1 (by lia);have hll:ib'+1+l<=b.size:=by lia
     generalize o2.push b[ib']=o3 at M3 ⊢;have z0:l=0->o3++b.extract (ib'+1) (ib'+1+l)=o3/\ib'+1+l=ib'+1:=λe=>by
      subst e;rw[gq,ze4,dY];exact⟨rfl,rfl⟩
     clear l1 l2 l3 M2 M1;dsimp only;generalize hj3:ib'+1+l=j3;generalize ho4:o3++b.extract (ib'+1) j3=o4;revert o4 j3;refine zjP (λo4 j3 e1 e2 _ he=>?_) λo5 j5 hz=>?_
     ·subst e1;subst e2;exact aG ⟨⟨_,rfl⟩,.inr ⟨_,_,rfl,M3.finB sa sb (by lia) (by simpa using he)⟩⟩
     have hz':o5=o3++b.extract (ib'+1) (ib'+1+l)/\j5=ib'+1+l/\¬ j5=b.size:=by
      rcases hz with ⟨_,e1,e2,he⟩|⟨he,e1,e2⟩
      ·subst e1;exact⟨e2.symm,rfl,by simpa using he⟩
      ·obtain⟨q1,q2⟩:=z0 (by lia);rw[q1,q2];exact⟨e1,e2,by lia⟩
     clear hz z0;obtain⟨e1,e2,he3⟩:=hz';rw[<- e1,<- e2]at M3;rw[<- e2]at hll l4;have hj5:ib'+1<=j5:=by lia
     clear e1 e2;refine aA (zbr hkk ?_);have M4:=M3.oneA hkk sa l4;split
     ·rename_i he4;exact aG ⟨⟨_,rfl⟩,.inr ⟨_,_,rfl,M4.finA sa sb (by simpa using he4) (by lia) hl⟩⟩
     ·rename_i he4;have he5:¬ _=a.size:=λe=>he4 (beq_iff_eq.mpr e);have b1:ia+ib+1<=j2+1+j5:=by lia
      have b2:j2+1+1<a.size:=by lia
      have b3:j5<b.size:=by lia
      split
      ·exact aG ⟨⟨_,rfl⟩,.inl ⟨_,_,_,_,_,_,rfl,b1,b2,b3,M4⟩⟩
      ·exact aG ⟨⟨_,rfl⟩,_,_,_,_,_,_,rfl,b1,b2,b3,M4⟩
   ·exact aG ⟨⟨_,rfl⟩,_,_,rfl,hW⟩
end
end L2

namespace L2
open PySem PySem.Spec PyProof.Rows
section
variable {prog:aK}{w:aO}{A:aQ}{E:af->ah->Prop}{s:ah}{kd:SortKind}{D:Keyed->Prop}{rk:Keyed->Nat}{st:SortSt}
abbrev Mh(rk:Keyed->Nat):=MgR λx y=>rk y<=rk x
def Mh.swap{all ra rb:List Keyed}{out:Array Keyed}(M:Mh rk all out (ra++rb)):Mh rk all out (rb++ra):=MgR.swap M
def zjX{xs:Array Keyed}{n:Nat}{x:Keyed}(h:x∈xs.toList.take n):∃j,j<n/\j<xs.size/\kA rk xs j=rk x:=by
 have e:xs.toList.take n=(xs.extract 0 n).toList:=by rw[cU,cL];rfl
 rw[e]at h;obtain⟨j,_,h2,h3,h4⟩:=zfZ (rk:=rk) h;exact⟨j,h2,h3,h4⟩
def take_ext{xs:Array Keyed}{k n:Nat}(h:k<=n):xs.toList.take n=xs.toList.take k++(xs.extract k n).toList:=by
 rw[cU,cL,<- List.take_add,show k+(n-k)=n by lia]
def Mh.runA{all:List Keyed}{out a b:Array Keyed}{na nb k:Nat}(M:Mh rk all out (a.toList.take na++b.toList.take nb))(h:k<=na)(hk:na<=a.size)(sa:Up rk a 0 a.size)(hb:∀x y,k<=x->x<na->y<nb->y<b.size->kA rk b y<=kA rk a x):Mh rk all (out++(a.extract k na).reverse) (a.toList.take k++b.toList.take nb):=by
 refine M.take ?_ ?_ ?_
 ·rw[take_ext h,eF];refine(ga.append_right _).trans ?_;rw[bw];exact(jJ _).symm.append_right _
 ·rw[eF,i8];exact ext_up (sa.mono (aU _) hk)
 ·intro x hx y hy;rw[eF,iA]at hx;obtain⟨p,p1,p2,p3,p4⟩:=zfZ (rk:=rk) hx;rw[<- p4];rcases br.mp hy with hy|hy
  ·obtain⟨q,q1,q2,q3⟩:=zjX (rk:=rk) hy;rw[<- q3];exact sa q p (aU _) (by lia) p3
  ·obtain⟨q,q1,q2,q3⟩:=zjX (rk:=rk) hy;rw[<- q3];exact hb p q p1 p2 q1 q2
def Mh.oneA{all:List Keyed}{out a b:Array Keyed}{na nb k:Nat}(M:Mh rk all out (a.toList.take na++b.toList.take nb))(hn:k+1=na)(hk:k<a.size)(sa:Up rk a 0 a.size)(hb:∀y,y<nb->y<b.size->kA rk b y<=kA rk a k):Mh rk all (out.push a[k]) (a.toList.take k++b.toList.take nb):=by
 subst hn;have h:=M.runA (k:=k) (by lia) hk sa (λx y h1 h2 h3 h4=>(show k=x by lia) ▸ hb y h3 h4);have e:out++(a.extract k (k+1)).reverse=out.push a[k]:=by
  apply jg;rw[dP,dE,eF,cU,cL,show k+1-k=1 by lia,bq (by simpa using hk)];simp
 rwa [e]at h
def Mh.end_{a b out r:Array Keyed}(M:Mh rk (a.toList++b.toList) out [])(e:r.toList=out.toList.reverse):zfn rk a b r:=by
 refine⟨?_,?_⟩
 ·rw[e];exact(jJ _).trans (by simpa using M.perm)
 ·rw[e,i8];exact M.srt
def Mh.finA{a b out:Array Keyed}{na nb:Nat}(M:Mh rk (a.toList++b.toList) out (a.toList.take na++b.toList.take nb))(sa:Up rk a 0 a.size)(sb:Up rk b 0 b.size)(hn:na=0)(hb:nb<=b.size):zfn rk a b (a.extract 0 na++b.extract 0 nb++out.reverse):=by
 subst hn;have M1:=M.swap.runA (k:=0) (aU _) hb sb (λx y _ _ h _=>by lia);refine Mh.end_ M1 ?_;simp[ze4]
def Mh.finB{a b out:Array Keyed}{na nb:Nat}(M:Mh rk (a.toList++b.toList) out (a.toList.take na++b.toList.take nb))(sa:Up rk a 0 a.size)(sb:Up rk b 0 b.size)(hn:nb=1)(hb:1<=b.size)(ha:na<=a.size)(h0:kA rk b 0<kA rk a 0):zfn rk a b (b.extract 0 nb++a.extract 0 na++out.reverse):=by
 subst hn;have M1:=(M.runA (k:=0) (aU _) ha sa (λx y _ h2 h3 _=>by
  have:y=0:=by lia
  subst this;exact bz (aW h0 (sa 0 x (am _) (aU _) (by lia))))).swap.runA (k:=0) (aU _) hb sb (λx y _ _ h _=>by lia)
 refine Mh.end_ M1 ?_;simp
def wpS_mgHi(R:Rk prog w A s kd D rk){a b:Array Keyed}{Q:Array Keyed->SortSt->Prop}(hk:kindOf st=kd)(hDa:∀x∈a,D x)(hDb:∀x∈b,D x)(sa:Up rk a 0 a.size)(sb:Up rk b 0 b.size)(ha:1<=a.size)(hb:1<=b.size)
  (h0:kA rk b 0<kA rk a 0) (hl:∀y,y<b.size->kA rk b y<kA rk a (a.size-1))
  (h:∀out g,out.toList.Perm (a.toList++b.toList)->(out.toList.Pairwise λx y=>rk x<=rk y)->Q out (zcB st g)):wpS (model prog w) A E s (mgHi a b) Q st:=by
 refine aA (zeD ?_);have hz:a.size-1<a.size:=by lia
 refine aA (zbr hz ?_);have M0:Mh rk (a.toList++b.toList) #[a[a.size-1]] (a.toList.take (a.size-1)++b.toList.take b.size):=by
  have h1:Mh rk (a.toList++b.toList) #[] (a.toList.take a.size++b.toList.take b.size):=by
   rw[d5 (by simp),d5 (by simp)];exact⟨by simp,.nil,λx hx=>by cases hx⟩
  exact h1.oneA (by lia) hz sa (λy _ hy=>bz (hl y hy))
 have good:∀{out:Array Keyed} {g:Nat},zfn rk a b out->Q out (zcB st g):=λhW=>h _ _ hW.1 hW.2;dsimp only;by_cases ha1:a.size-1=0
 ·rw[if_pos (by simpa using ha1)];exact aG (good (g:=gallopOf st) (M0.finA sa sb ha1 (am _)))
 rw[if_neg (by simpa using ha1)];by_cases hb1:b.size=1
 ·rw[if_pos (by simpa using hb1)];exact aG (good (g:=gallopOf st) (M0.finB sa sb hb1 hb (by lia) h0))
 rw[if_neg (by simpa using hb1)];refine aA (wpS_get ?_);refine aA (wpS_mono (ce (I:=λx c st'=>(∃g,st'=zcB st g)/\∃na nb out mg,c=(ab,na,nb,out,mg)/\x+1+na+nb<=a.size+b.size/\1<=na/\na<a.size/\2<=nb/\nb<=b.size/\Mh rk (a.toList++b.toList) out (a.toList.take na++b.toList.take nb))
  (Q:=λc st'=>(∃g,st'=zcB st g)/\∃r z,c=(aa r,z)/\zfn rk a b r) ?step ?fin ⟨⟨gallopOf st,rfl⟩,_,_,_,_,rfl,by lia,by lia,by lia,by lia,by lia,M0⟩) ?post)
 case post=>
  rintro c st' ⟨⟨g,rfl⟩,r,z,rfl,hW⟩;exact aG (good hW)
 case fin=>
  rintro c st' ⟨_,na,nb,out,mg,rfl,h1,h2,h3,_⟩;exfalso;lia
 case step=>
  rintro x c st' _ hx ⟨⟨g,rfl⟩,na,nb,out,mg,rfl,h1,h2,h3,h4,h5,M⟩;dsimp only;refine aA (wpS_mono (ce (I:=λy c st'=>st'=zcB st g/\∃na' nb' out ac bc,c=(ab,na',nb',out,ac,bc)/\na'+nb'+y<=na+nb/\1<=na'/\na'<a.size/\2<=nb'/\nb'<=b.size/\Mh rk (a.toList++b.toList) out (a.toList.take na'++b.toList.take nb'))
   (Q:=λc st'=>st'=zcB st g/\((∃na' nb' out ac bc,c=(ab,na',nb',out,ac,bc)/\na'+nb'+1<=na+nb/\1<=na'/\na'<a.size/\2<=nb'/\nb'<=b.size/\Mh rk (a.toList++b.toList) out (a.toList.take na'++b.toList.take nb'))\/∃r z,c=(aa r,z)/\zfn rk a b r)) ?step1 ?fin1 ⟨rfl,_,_,_,_,_,rfl,by lia,h2,h3,h4,h5,M⟩) ?post1)
  case fin1=>
   rintro c st' ⟨rfl,na',nb',out,ac,bc,rfl,h1,h2,h3,h4,h5,M⟩;exact⟨rfl,.inl ⟨_,_,_,_,_,rfl,by lia,h2,h3,h4,h5,M⟩⟩
  case step1=>
   rintro y c st' _ hy ⟨rfl,na',nb',out,ac,bc,rfl,h1,h2,h3,h4,h5,M⟩;dsimp only;have ka:na'-1<a.size:=by lia
   have kb:nb'-1<b.size:=by lia
   refine aA (zbr kb ?_);refine aA (zbr ka ?_);refine aA (wpS_q R hk (hDb _ (bo kb)) (hDa _ (bo ka)) ?_);dsimp only;rw[<- zc3 (rk:=rk) kb,<- zc3 (rk:=rk) ka];by_cases hw:kA rk b (nb'-1)<kA rk a (na'-1)
   ·rw[decide_eq_true hw,if_pos rfl];refine aA (zbr ka ?_);have M1:=M.oneA (by lia) ka sa (λy h1 h2=>aS (sb y (nb'-1) (aU _) (by lia) kb) (bz hw));by_cases he:na'-1=0
    ·rw[if_pos (by simpa using he)];exact aG ⟨rfl,.inr ⟨_,_,rfl,M1.finA sa sb he h5⟩⟩
    ·rw[if_neg (by simpa using he)];split
     ·exact aG ⟨rfl,.inl ⟨_,_,_,_,_,rfl,by lia,by lia,by lia,h4,h5,M1⟩⟩
     ·exact aG ⟨rfl,_,_,_,_,_,rfl,by lia,by lia,by lia,h4,h5,M1⟩
   ·rw[decide_eq_false hw,if_neg (by simp)];refine aA (zbr kb ?_);have M1:=(M.swap.oneA (by lia) kb sb (λy h1 h2=>aS (sa y (na'-1) (aU _) (by lia) ka) (by lia))).swap;by_cases he:nb'-1=1
    ·rw[if_pos (by simpa using he)];exact aG ⟨rfl,.inr ⟨_,_,rfl,M1.finB sa sb he hb (by lia) h0⟩⟩
    ·rw[if_neg (by simpa using he)];split
     ·exact aG ⟨rfl,.inl ⟨_,_,_,_,_,rfl,by lia,h2,h3,by lia,by lia,M1⟩⟩
     ·exact aG ⟨rfl,_,_,_,_,_,rfl,by lia,h2,h3,by lia,by lia,M1⟩
  case post1=>
   rintro c st' ⟨rfl,⟨na',nb',out,ac,bc,rfl,h1,h2,h3,h4,h5,M⟩|⟨r,z,rfl,hW⟩⟩
   ·dsimp only;refine aA (zeD ?_);refine aA (wpS_mono (ce (I:=λy c st'=>(∃g,st'=zcB st g)/\∃na' nb' out mg ac bc,c=(ab,na',nb',out,mg,ac,bc)/\na'+nb'+1<=na+nb/\1<=na'/\na'<a.size/\2<=nb'/\nb'<=b.size/\Mh rk (a.toList++b.toList) out (a.toList.take na'++b.toList.take nb'))
     (Q:=λc st'=>(∃g,st'=zcB st g)/\((∃na' nb' out mg ac bc,c=(ab,na',nb',out,mg,ac,bc)/\na'+nb'+1<=na+nb/\1<=na'/\na'<a.size/\2<=nb'/\nb'<=b.size/\Mh rk (a.toList++b.toList) out (a.toList.take na'++b.toList.take nb'))\/∃r z,c=(aa r,z)/\zfn rk a b r)) ?step2 ?fin2 ⟨⟨g,rfl⟩,_,_,_,_,_,_,rfl,h1,h2,h3,h4,h5,M⟩) ?post2)
    case fin2=>
     rintro c st' ⟨hg,z⟩;exact⟨hg,.inl z⟩
    case post2=>
     rintro c st' ⟨⟨g,rfl⟩,⟨na',nb',out,mg,ac,bc,rfl,h1,h2,h3,h4,h5,M⟩|⟨r,z,rfl,hW⟩⟩
     ·dsimp only;exact aA (zhg (aG ⟨⟨_,rfl⟩,_,_,_,_,rfl,by lia,h2,h3,h4,h5,M⟩))
     ·exact aG ⟨⟨_,rfl⟩,_,_,rfl,hW⟩
    case step2=>
     clear h1 h2 h3 h4 h5 M;rintro y c st' _ hy ⟨⟨g,rfl⟩,na',nb',out,mg,ac,bc,rfl,h1,h2,h3,h4,h5,M⟩;dsimp only;have kb:nb'-1<b.size:=by lia
     generalize mg-1=mg';revert mg';refine zjq ?_;intro g';refine aA (zhg ?_);refine aA (zbr kb ?_);refine aA (zhl R hk hDa (hDb _ (bo kb)) (by lia) (by lia) (sa.mono (aU _) (by lia)) λk k1 k2 k3=>?_);rw[<- zc3 (rk:=rk) kb]at k2 k3;simp only[bv]at k2 k3;have M1:=M.runA (k:=k) k1 (by lia) sa (λx y x1 x2 y1 y2=>aS (sb y (nb'-1) (aU _) (by lia) kb) (bz (k3 x x1 x2)));have k4:∀y,y<k->y<a.size->kA rk a y<=kA rk b (nb'-1):=λy y1 y2=>k2 y (aU _) y1;have z0:¬ na'-k > 0->k=na'/\out++(a.extract k na').reverse=out:=λe=>by
      have:k=na':=by lia
      subst this;rw[ze4,jn,dY];exact⟨rfl,rfl⟩
     clear k2 k3;dsimp only;generalize na'-k=ac1 at z0 ⊢;generalize hx2:k=x2;generalize ho1:out++(a.extract x2 na').reverse=o1;revert o1 x2;refine zjP (λo1 x2 e1 e2 _ he=>?_) λo2 j2 hz=>?_
     ·subst e1;subst e2;exact aG ⟨⟨_,rfl⟩,.inr ⟨_,_,rfl,M1.finA sa sb (by simpa using he) h5⟩⟩
     have hz':o2=out++(a.extract k na').reverse/\j2=k/\¬ j2=0:=by
      rcases hz with ⟨_,e1,e2,he⟩|⟨he,e1,e2⟩
      ·subst e1;exact⟨e2.symm,rfl,by simpa using he⟩
      ·obtain⟨q1,q2⟩:=z0 he;rw[q2];exact⟨e1,by lia,by lia⟩
     clear hz z0;obtain⟨e1,e2,he⟩:=hz';subst e2;rw[<- e1]at M1;have ka:j2-1<a.size:=by lia
     have hj2:j2<=na':=k1;clear e1 k1;refine aA (zbr kb ?_);have M2:=(M1.swap.oneA (by lia) kb sb k4).swap;by_cases he2:nb'-1=1
     ·rw[if_pos (by simpa using he2)];exact aG ⟨⟨_,rfl⟩,.inr ⟨_,_,rfl,M2.finB sa sb he2 hb (by lia) h0⟩⟩
     rw[if_neg (by simpa using he2)];refine aA (zbr ka ?_);refine aA (zg8 R hk hDb (hDa _ (bo ka)) (by lia) (by lia) (sb.mono (aU _) (by lia)) λl l1 l2 l3=>?_);rw[<- zc3 (rk:=rk) ka]at l2 l3;simp only[bv]at l2 l3;have hl1:1<=l:=by
      refine fW λhc=>?_;have e1:=l3 0 (by lia) (by lia);have e2:=sa 0 (j2-1) (am _) (aU _) ka;lia
     have M3:=(M2.swap.runA (k:=l) l1 (by lia) sb (λx y x1 x2 y1 y2=>aS (sa y (j2-1) (aU _) (by lia) ka) (l3 x x1 x2))).swap;have l4:∀y,y<l->y<b.size->kA rk b y<=kA rk a (j2-1):=λy y1 y2=>bz (l2 y (aU _) y1);generalize o2.push b[nb'-1]=o3 at M3 ⊢;have z0:¬ nb'-1-l > 0->l=nb'-1/\o3++(b.extract l (nb'-1)).reverse=o3:=λe=>by
      have:l=nb'-1:=by lia
      subst this;rw[ze4,jn,dY];exact⟨rfl,rfl⟩
     clear l2 l3 M2 M1;dsimp only;generalize nb'-1-l=bc1 at z0 ⊢;generalize hx4:l=x4;generalize ho4:o3++(b.extract x4 (nb'-1)).reverse=o4;revert o4 x4;refine zhP (λx4 e1 _=>by subst e1;simp;lia) (λo4 x4 e1 e2 _ he=>?_) λo5 j5 hz=>?_
     ·subst e1;subst e2;exact aG ⟨⟨_,rfl⟩,.inr ⟨_,_,rfl,M3.finB sa sb (by simpa using he) hb (by lia) h0⟩⟩
     have hz':o5=o3++(b.extract l (nb'-1)).reverse/\j5=l/\¬ j5=1:=by
      rcases hz with ⟨_,e1,e2,he⟩|⟨he,e1,e2⟩
      ·subst e1;exact⟨e2.symm,rfl,by simpa using he⟩
      ·obtain⟨q1,q2⟩:=z0 he;rw[q2];exact⟨e1,by lia,by lia⟩
     clear hz z0;obtain⟨e1,e2,he3⟩:=hz';subst e2;rw[<- e1]at M3;refine aA (zbr ka ?_);have M4:=M3.oneA (by lia) ka sa l4;split
     ·rename_i he4;exact aG ⟨⟨_,rfl⟩,.inr ⟨_,_,rfl,M4.finA sa sb (by simpa using he4) (by lia)⟩⟩
     ·rename_i he4;have he5:¬ j2-1=0:=λe=>he4 (beq_iff_eq.mpr e);have b1:j2-1+j5+1<=na+nb:=by lia
      have b2:1<=j2-1:=by lia
      have b3:2<=j5:=by lia
      have b4:j5<=b.size:=by lia
      split
      ·exact aG ⟨⟨_,rfl⟩,.inl ⟨_,_,_,_,_,_,rfl,b1,b2,ka,b3,b4,M4⟩⟩
      ·exact aG ⟨⟨_,rfl⟩,_,_,_,_,_,_,rfl,b1,b2,ka,b3,b4,M4⟩
   ·exact aG ⟨⟨_,rfl⟩,_,_,rfl,hW⟩
end
end L2

namespace L2
open PySem PySem.Spec PyProof.Rows
section
variable {prog:aK}{w:aO}{A:aQ}{E:af->ah->Prop}{s:ah}{kd:SortKind}{D:Keyed->Prop}{rk:Keyed->Nat}{st:SortSt}{a₀:Array Keyed}
structure Sb(kd:SortKind)(a₀:Array Keyed)(st:SortSt):Prop where
 perm:(arrOf st).toList.Perm a₀.toList
 kind:kindOf st=kd
 failed:failedOf st=ab
def Sb.size(h:Sb kd a₀ st):(arrOf st).size=a₀.size:=by have:=h.perm.length_eq;simpa using this
def Sb.all(h:Sb kd a₀ st)(hD:∀x∈a₀,D x):∀x∈arrOf st,D x:=λx hx=>hD x (dh.mp (h.perm.mem_iff.mp (dh.mpr hx)))
abbrev Run:=Nat×Nat×Nat
def Runs(rk:Keyed->Nat)(arr:Array Keyed):List Run->Nat->Nat->Prop
 |[],lo,hi=>lo=hi
 |(s,n,_)::ps,lo,hi=>s=lo/\1<=n/\Up rk arr lo (lo+n)/\Runs rk arr ps (lo+n) hi
def Runs.le{arr:Array Keyed}:∀{ps:List Run} {lo hi:Nat},Runs rk arr ps lo hi->lo+ps.length<=hi
 |[],_,_,h=>by cases h;exact am _
 |(_,n,_)::ps,lo,hi,⟨_,h1,_,h⟩=>by have:=h.le;rw[aJ];lia
def Up.congr{arr arr':Array Keyed}{lo hi:Nat}(h:Up rk arr lo hi)(e:∀i,lo<=i->i<hi->kA rk arr' i=kA rk arr i):Up rk arr' lo hi:=λi j h1 h2 h3=>by
 rw[e i h1 (by lia),e j (by lia) h3];exact h i j h1 h2 h3
def Runs.congr{arr arr':Array Keyed}:∀{ps:List Run} {lo hi:Nat},Runs rk arr ps lo hi->(∀i,lo<=i->i<hi->kA rk arr' i=kA rk arr i)->Runs rk arr' ps lo hi
 |[],_,_,h,_=>h
 |(_,n,_)::ps,lo,hi,⟨h0,h1,h2,h⟩,e=>by
  have l:=h.le;exact⟨h0,h1,h2.congr λi a b=>e i a (by lia),h.congr λi a b=>e i (by lia) b⟩
def Runs.split{arr:Array Keyed}:∀{ps qs:List Run} {lo hi:Nat},Runs rk arr (ps++qs) lo hi->∃m,Runs rk arr ps lo m/\Runs rk arr qs m hi
 |[],_,lo,_,h=>⟨lo,rfl,h⟩
 |(_,_,_)::ps,qs,_,_,⟨h0,h1,h2,h⟩=>by
  obtain⟨m,e1,e2⟩:=Runs.split (ps:=ps) h;exact⟨m,⟨h0,h1,h2,e1⟩,e2⟩
def Runs.join{arr:Array Keyed}:∀{ps qs:List Run} {lo m hi:Nat},Runs rk arr ps lo m->Runs rk arr qs m hi->Runs rk arr (ps++qs) lo hi
 |[],_,_,_,_,h,h'=>by cases h;exact h'
 |(_,_,_)::_,_,_,_,_,⟨h0,h1,h2,h⟩,h'=>⟨h0,h1,h2,h.join h'⟩
def zgY{xs:Array Keyed}{lo k i:Nat}(hk:k<=xs.size)(hi:lo+i<k):kA rk (xs.extract lo k) i=kA rk xs (lo+i):=by
 have h1:i<(xs.extract lo k).size:=by rw[zdZ hk];exact Nat.lt_sub_of_add_lt (fg lo i ▸ hi)
 rw[zc3 h1,zc3 (aW hi hk),dB]
def zjR{lo:Nat}:∀(l:List Keyed) (n:Nat) (xs:Array Keyed),lo+n+l.length<=xs.size ->
  ((l.zipIdx n).foldl (λa (p:Keyed×Nat)=>a.setIfInBounds (lo+p.2) p.1) xs).toList=xs.toList.take (lo+n)++l++xs.toList.drop (lo+n+l.length)
 |[],n,xs,_=>by simp
 |p::l,n,xs,h=>by
  rw[aJ]at h;rw[fV,dU,zjR l (n+1) _ (by rw[Array.size_setIfInBounds];lia)];have hl:lo+n<xs.toList.length:=by rw[aE];lia
  have ht:(xs.toList.take (lo+n)).length=lo+n:=by rw[cr];lia
  have e0:xs.toList.drop (lo+n+(l.length+1))=(xs.toList.drop (lo+n+1)).drop l.length:=by rw[j9];congr 1;lia
  dsimp only;rw[gY,aJ,List.set_eq_take_append_cons_drop,if_pos hl,e0];generalize xs.toList.take (lo+n)=T at ht ⊢;generalize xs.toList.drop (lo+n+1)=r;have e1:T++p::r=(T++[p])++r:=by simp
  have e2:lo+(n+1)=(T++[p]).length:=by simp;lia
  rw[e1,e2,List.take_left' rfl,List.drop_append,iX (by lia),show(T++[p]).length+l.length-(T++[p]).length=l.length by lia];simp
def set_at{xs m:Array Keyed}{lo:Nat}(h:lo+m.size<=xs.size)(r:Array Keyed)(hr:r.toList=xs.toList.take lo++m.toList++xs.toList.drop (lo+m.size))(j:Nat):kA rk r j=if lo<=j/\j<lo+m.size then kA rk m (j-lo)else kA rk xs j:=by
 have ht:(xs.toList.take lo).length=lo:=by rw[cr,aE];lia
 unfold kA;rw[<- cO,hr,<- cO (xs:=m),<- cO (xs:=xs)];by_cases h1:j<lo
 ·rw[if_neg (by lia),bw,bO (by lia),di h1]
 ·rw[bw,bL (by lia),ht];by_cases h2:j<lo+m.size
  ·rw[if_pos ⟨by lia,h2⟩,bO (by rw[aE];lia)]
  ·rw[if_neg (by lia),bL (by rw[aE];lia),gO,aE];congr 3;lia
def set_perm{xs m:Array Keyed}{lo hi:Nat}(h:lo<=hi)(hm:m.toList.Perm (xs.extract lo hi).toList)(hs:hi<=xs.size)(r:Array Keyed)(hr:r.toList=xs.toList.take lo++m.toList++xs.toList.drop (lo+m.size)):r.toList.Perm xs.toList:=by
 have e:m.size=hi-lo:=by
  have:=hm.length_eq;rw[aE,aE,zdZ hs]at this;exact this
 have e2:xs.toList=xs.toList.take lo++(xs.extract lo hi).toList++xs.toList.drop (lo+m.size):=by
  rw[bw,e,show lo+(hi-lo)=hi by lia,<- zeZ h,ef]
 rw[hr]
 conv=>rhs;rw[e2]
 exact(hm.append_left _).append_right _
def up_merged{arr r m:Array Keyed}{sa mid k nb l:Nat}(hs:mid+nb<=arr.size)(hk:sa+k<mid)(hl:l<=nb)(h0:1<=l)(ua:Up rk arr sa mid)(ub:Up rk arr mid (mid+nb))
  (k2:∀i,sa<=i->i<sa+k->kA rk arr i<=kA rk arr mid) (k3:∀i,sa+k<=i->i<mid->kA rk arr mid<kA rk arr i)
  (l2:∀i,mid<=i->i<mid+l->kA rk arr i<kA rk arr (mid-1)) (l3:∀i,mid+l<=i->i<mid+nb->kA rk arr (mid-1)<=kA rk arr i)
  (hm:m.toList.Perm ((arr.extract (sa+k) mid).toList++(arr.extract mid (mid+l)).toList)) (hu:m.toList.Pairwise λx y=>rk x<=rk y)
  (hr:∀j,kA rk r j=if sa+k<=j/\j<mid+l then kA rk m (j-(sa+k))else kA rk arr j):Up rk r sa (mid+nb):=by
 have hz:m.size=mid+l-(sa+k):=by
  have:=hm.length_eq;rw[a8,aE,aE,aE,zdZ (by lia),zdZ (by lia)]at this;lia
 have bd:∀j,j<m.size->kA rk arr mid<=kA rk m j/\kA rk m j<=kA rk arr (mid-1):=by
  intro j hj;rw[zc3 hj];have hx:m[j]∈(arr.extract (sa+k) mid).toList++(arr.extract mid (mid+l)).toList:=hm.mem_iff.mp (dh.mpr (bo hj));rcases br.mp hx with hx|hx
  ·obtain⟨p,p1,p2,p3,p4⟩:=zfZ (rk:=rk) hx;rw[<- p4];exact⟨bz (k3 p p1 p2),ua p (mid-1) (by lia) (by lia) (by lia)⟩
  ·obtain⟨p,p1,p2,p3,p4⟩:=zfZ (rk:=rk) hx;rw[<- p4];exact⟨ub mid p (am _) p1 (by lia),bz (l2 p p1 p2)⟩
 intro i j h1 h2 h3;rw[hr i,hr j];by_cases c1:i<sa+k
 ·rw[if_neg (by lia)];by_cases c2:j<sa+k
  ·rw[if_neg (by lia)];exact ua i j h1 h2 (by lia)
  ·by_cases c3:j<mid+l
   ·rw[if_pos ⟨by lia,c3⟩];exact aS (k2 i h1 c1) (bd _ (by lia)).1
   ·rw[if_neg (by lia)];exact aS (k2 i h1 c1) (ub mid j (am _) (by lia) h3)
 ·by_cases c2:i<mid+l
  ·rw[if_pos ⟨by lia,c2⟩];by_cases c3:j<mid+l
   ·rw[if_pos ⟨by lia,c3⟩,zc3 (by lia),zc3 (by lia)];by_cases e:i=j
    ·subst e;exact am _
    ·exact eU.mp hu _ _ (by rw[aE];lia) (by rw[aE];lia) (by lia)
   ·rw[if_neg (by lia)];exact aS (bd _ (by lia)).2 (l3 j (by lia) h3)
  ·rw[if_neg (by lia),if_neg (by lia)];exact ub i j (by lia) h2 h3
def wpS_mgAt(R:Rk prog w A s kd D rk){Q:Bool->SortSt->Prop}{hi:Nat}{pre post:List Run}{sa na pw sb nb pw':Nat}(B:Sb kd a₀ st)(hD:∀x∈a₀,D x)(hp:(bf st).toList=pre++(sa,na,pw)::(sb,nb,pw')::post)(hr:Runs rk (arrOf st) (bf st).toList 0 hi)(hh:hi<=a₀.size)
  (h:∀st',Sb kd a₀ st'->(bf st').toList=pre++(sa,na+nb,pw)::post->Runs rk (arrOf st') (bf st').toList 0 hi->(∀j,hi<=j->kA rk (arrOf st') j=kA rk (arrOf st) j)->Q true st'):wpS (model prog w) A E s (mergeAt' pre.length) Q st:=by
 have g1:(bf st)[pre.length]? =aa (sa,na,pw):=by
  rw[<- cO,hp];simp
 have g2:(bf st)[pre.length+1]? =aa (sb,nb,pw'):=by
  rw[<- cO,hp];simp
 have hp1:(((bf st).setIfInBounds pre.length (sa,na+nb,pw)).eraseIdxIfInBounds (pre.length+1)).toList=pre++(sa,na+nb,pw)::post:=by
  rw[Array.toList_eraseIdxIfInBounds,gY,hp,List.set_append_right _ _ (am _),List.eraseIdx_append_of_length_le (cY _),dw,show pre.length+1-pre.length=1 by lia];rfl
 have hr0:=hr;rw[hp]at hr0;obtain⟨m,r1,rfl,n1,u1,rfl,n2,u2,r2⟩:=hr0.split;have hz:=B.size;have l1:=r2.le;have hd:=B.all hD;have fin:∀(arr':Array Keyed) (g:Nat),arr'.toList.Perm (arrOf st).toList->Up rk arr' sa (sa+(na+nb))->(∀j,¬ (sa<=j/\j<sa+(na+nb))->kA rk arr' j=kA rk (arrOf st) j) ->
   Q true (fF (kindOf st) arr' (((bf st).setIfInBounds pre.length (sa,na+nb,pw)).eraseIdxIfInBounds (pre.length+1)) g (failedOf st)):=by
  intro arr' g e1 e2 e3;refine h _ ⟨e1.trans B.perm,B.kind,B.failed⟩ hp1 ?_ (λj hj=>e3 j (by lia));show Runs rk arr' (((bf st).setIfInBounds pre.length (sa,na+nb,pw)).eraseIdxIfInBounds (pre.length+1)).toList 0 hi;rw[hp1];refine(r1.congr λi _ hi=>e3 i (by lia)).join ⟨rfl,by lia,e2,?_⟩;rw[show sa+(na+nb)=sa+na+nb by lia];exact r2.congr λi hi _=>e3 i (by lia)
 refine aA (wpS_get ?_);dsimp only;rw[g1,g2];dsimp only;refine aA (wpS_set ?_);have hsb:sa+na<(arrOf st).size:=by lia
 refine aA (zbr hsb ?_);refine aA (zhl (arr:=arrOf st) R B.kind hd (hd _ (bo hsb)) (by lia) (by lia) u1 λk k1 k2 k3=>?_);rw[<- zc3 (rk:=rk) hsb]at k2 k3;dsimp only;by_cases hk0:na-k=0
 ·rw[if_pos (by simpa using hk0)];have hk0':k=na:=by lia
  subst hk0';refine aG (fin _ _ (.refl _) (λi j h1 h2 h3=>?_) λ_ _=>rfl);by_cases c1:j<sa+k
  ·exact u1 i j h1 h2 c1
  ·by_cases c2:i<sa+k
   ·exact aS (k2 i h1 c2) (u2 _ j (am _) (by lia) (by lia))
   ·exact u2 i j (by lia) h2 (by lia)
 rw[if_neg (by simpa using hk0)];have hsl:sa+k+(na-k)-1<(arrOf st).size:=by lia
 refine aA (zbr hsl ?_);refine aA (zg8 (arr:=arrOf st) R B.kind hd (hd _ (bo hsl)) (by lia) (by lia) u2 λl l1 l2 l3=>?_);rw[<- zc3 (rk:=rk) hsl]at l2 l3;rw[show sa+k+(na-k)-1=sa+na-1 by lia]at l2 l3;have hl0:1<=l:=by
  refine fW λhc=>?_;have e1:=l3 (sa+na) (by lia) (by lia);have e2:=k3 (sa+na-1) (by lia) (by lia);lia
 dsimp only;rw[if_neg (by simp;lia)];have q1:sa+na<=(arrOf st).size:=bz hsb;have q2:sa+na+l<=(arrOf st).size:=by lia
 have zx:=zdZ (lo:=sa+k) q1;have zy:=zdZ (lo:=sa+na) q2;have q3:sa+k<sa+na:=by lia
 have wr:∀(m:Array Keyed) (g:Nat),m.toList.Perm (((arrOf st).extract (sa+k) (sa+na)).toList++((arrOf st).extract (sa+na) (sa+na+l)).toList)->(m.toList.Pairwise λx y=>rk x<=rk y) ->
   Q true (fF (kindOf st) (m.toList.zipIdx.foldl (λa (p:Keyed×Nat)=>a.setIfInBounds (sa+k+p.2) p.1) (arrOf st)) (((bf st).setIfInBounds pre.length (sa,na+nb,pw)).eraseIdxIfInBounds (pre.length+1)) g (failedOf st)):=by
  intro m g hm hu;have hz:m.size=na+l-k:=by
   have:=hm.length_eq;rw[a8,aE,aE,aE,zx,zy]at this;lia
  have hf:=zjR (lo:=sa+k) m.toList 0 (arrOf st) (by rw[aE];lia);rw[gq,aE]at hf;have hj:=λj=>set_at (rk:=rk) (xs:=arrOf st) (m:=m) (by lia) _ hf j;have hm2:m.toList.Perm ((arrOf st).extract (sa+k) (sa+na+l)).toList:=by
   refine hm.trans (.of_eq ?_)
   have e1:=zeZ (xs:=arrOf st) (i:=sa+k) (k:=sa+na) (by lia);have e2:=zeZ (xs:=arrOf st) (i:=sa+na) (k:=sa+na+l) (by lia);have e3:=zeZ (xs:=arrOf st) (i:=sa+k) (k:=sa+na+l) (by lia);rw[e1,e2,<- bw]at e3;exact List.append_cancel_right e3
  refine fin _ g (set_perm (by lia) hm2 (by lia) _ hf) ?_ (λj hj'=>?_)
  ·rw[show sa+(na+nb)=sa+na+nb by lia];refine up_merged (k:=k) (l:=l) (by lia) (by lia) l1 hl0 u1 u2 k2 k3 l2 l3 hm hu λj=>?_;rw[hj j,hz,show sa+k+(na+l-k)=sa+na+l by lia]
  ·rw[hj j,if_neg (by lia)]
 have ud:∀{lo hi:Nat},hi<=(arrOf st).size->Up rk (arrOf st) lo hi->Up rk ((arrOf st).extract lo hi) 0 ((arrOf st).extract lo hi).size:=fun {lo hi} hh u i j _ h2 h3=>by
  rw[zdZ hh]at h3;have h4:lo+j<hi:=fg lo j ▸ dF h3;rw[zgY hh (eY (dO h2 _) h4),zgY hh h4];exact u _ _ (cI _ _) (dO h2 _) h4
 have ux:=ud q1 (u1.mono (cI sa k) (am _));have uy:=ud q2 (u2.mono (am _) (dO l1 _));have x0:kA rk ((arrOf st).extract (sa+na) (sa+na+l)) 0<kA rk ((arrOf st).extract (sa+k) (sa+na)) 0:=by
  rw[zgY (lo:=sa+na) (i:=0) q2 (Nat.lt_add_of_pos_right hl0),zgY (lo:=sa+k) (i:=0) q1 q3];exact k3 _ (am _) q3
 have xl:∀y,y<((arrOf st).extract (sa+na) (sa+na+l)).size->kA rk ((arrOf st).extract (sa+na) (sa+na+l)) y<kA rk ((arrOf st).extract (sa+k) (sa+na)) (((arrOf st).extract (sa+k) (sa+na)).size-1):=λy hy=>by
  rw[zy]at hy;have hy':sa+na+y<sa+na+l:=fg (sa+na) y ▸ dF hy;have e:sa+k+(sa+na-(sa+k)-1)=sa+na-1:=by lia
  rw[zx,zgY q2 hy',zgY q1 (by lia),e];exact l2 _ (cI _ _) hy'
 have dx:∀{lo hi:Nat},∀x∈(arrOf st).extract lo hi,D x:=λx hx=>by
  obtain⟨i,hi,rfl⟩:=Array.mem_iff_getElem.mp hx;rw[dB];exact hd _ (bo _)
 have sx:1<=((arrOf st).extract (sa+k) (sa+na)).size:=by rw[zx];exact Nat.sub_pos_of_lt q3
 have sy:1<=((arrOf st).extract (sa+na) (sa+na+l)).size:=by rw[zy,Nat.add_sub_cancel_left];exact hl0
 have done:∀(m:Array Keyed) (g:Nat),m.toList.Perm (((arrOf st).extract (sa+k) (sa+na)).toList++((arrOf st).extract (sa+na) (sa+na+l)).toList)->(m.toList.Pairwise λx y=>rk x<=rk y) ->
   Q (failedOf st).isNone (fF (kindOf st) (m.toList.zipIdx.foldl (λa (p:Keyed×Nat)=>a.setIfInBounds (sa+k+p.2) p.1) (arrOf st)) (((bf st).setIfInBounds pre.length (sa,na+nb,pw)).eraseIdxIfInBounds (pre.length+1)) g (failedOf st)):=by
  rw[B.failed];have:=wr;rw[B.failed]at this;exact this
 split
 ·refine aA (wpS_mgLo R B.kind dx dx ux uy sx sy (bz x0) xl λout g hp hu=>?_);refine aA (wpS_modify ?_);refine aA (wpS_get ?_);exact aG (done out g hp hu)
 ·refine aA (wpS_mgHi R B.kind dx dx ux uy sx sy x0 xl λout g hp hu=>?_);refine aA (wpS_modify ?_);refine aA (wpS_get ?_);exact aG (done out g hp hu)
end
end L2

namespace L2
open PySem PySem.Spec PyProof.Rows
section
variable {prog:aK}{w:aO}{A:aQ}{E:af->ah->Prop}{s:ah}{kd:SortKind}{D:Keyed->Prop}{rk:Keyed->Nat}{st:SortSt}{a₀:Array Keyed}
def zfu(R:Rk prog w A s kd D rk){i j:Nat}{Q:Option Bool->SortSt->Prop}(B:Sb kd a₀ st)(hD:∀x∈a₀,D x)(hi:i<a₀.size)(hj:j<a₀.size)(h:Q (aa (decide (kA rk (arrOf st) i<kA rk (arrOf st) j))) st):wpS (model prog w) A E s (ltAt' i j) Q st:=by
 rw[<- B.size]at hi hj;have hd:=B.all hD;refine aA (wpS_get ?_);refine aA (zbr hi ?_);refine aA (zbr hj ?_);refine wpS_q R B.kind (hd _ (bo hi)) (hd _ (bo hj)) ?_;rw[<- zc3 (rk:=rk) hi,<- zc3 (rk:=rk) hj];exact h
structure Kp(rk:Keyed->Nat)(kd:SortKind)(a₀:Array Keyed)(lo:Nat)(st st':SortSt):Prop where
 sb:Sb kd a₀ st'
 pend:bf st'=bf st
 left:∀j,j<lo->kA rk (arrOf st') j=kA rk (arrOf st) j
def kA_of{xs ys:Array Keyed}{i j:Nat}(h:xs[i]? =ys[j]?):kA rk xs i=kA rk ys j:=by unfold kA;rw[h]
def zjI{xs:Array Keyed}{i j:Nat}(hj:j<=xs.size)(k:Nat):kA rk (mirror xs i j ((j-i) / 2)) k=if i<=k/\k<j then kA rk xs (i+j-1-k)else kA rk xs k:=by
 have e:=getElem?_mirror_all (i:=i) hj k;split at e
 ·rename_i c;rw[if_pos c];exact kA_of e
 ·rename_i c;rw[if_neg c];exact kA_of e
def kA_bub{xs:Array Keyed}{src d:Nat}(hs:src<xs.size)(hd:d<=src)(k:Nat):kA rk (bubble xs src d) k=if k=src-d then kA rk xs src else if src-d<k/\k<=src then kA rk xs (k-1)else kA rk xs k:=by
 have e:=getElem?_bubble hs d hd k;split at e
 ·rename_i c;rw[if_pos c];exact kA_of e
 ·rename_i c;rw[if_neg c];split at e
  ·rename_i c;rw[if_pos c];exact kA_of e
  ·rename_i c;rw[if_neg c];exact kA_of e
def Kp.set{lo:Nat}{st':SortSt}(K:Kp rk kd a₀ lo st st'){xs:Array Keyed}(hp:xs.toList.Perm (arrOf st').toList)(hl:∀j,j<lo->kA rk xs j=kA rk (arrOf st') j):Kp rk kd a₀ lo st (setArr st' xs):=
 ⟨⟨hp.trans K.sb.perm,K.sb.kind,K.sb.failed⟩,K.pend,λj hj=>(hl j hj).trans (K.left j hj)⟩
def Kp.mir{lo i j:Nat}{st':SortSt}(K:Kp rk kd a₀ lo st st')(hi:lo<=i)(hj:j<=a₀.size):Kp rk kd a₀ lo st (setArr st' (mirror (arrOf st') i j ((j-i) / 2))):=
 K.set (gZ.mp (mirror_perm _ _ _ _)) λk hk=>by rw[zjI (by rw[K.sb.size];exact hj),if_neg (by lia)]
def Up.more{arr:Array Keyed}{lo n:Nat}(h:Up rk arr lo (lo+n))(hn:1<=n)(hx:kA rk arr (lo+n-1)<=kA rk arr (lo+n)):Up rk arr lo (lo+(n+1)):=λi j h1 h2 h3=>by
 by_cases c:j<lo+n
 ·exact h i j h1 h2 c
 ·have:j=lo+n:=by lia
  subst this;by_cases e:i=lo+n
  ·subst e;exact am _
  ·exact aS (h i (lo+n-1) h1 (by lia) (by lia)) hx
def wpS_asc{lo a nrem:Nat}{f:Nat->Option (Option Nat)×Nat->StateT SortSt Sem (ForInStep (Option (Option Nat)×Nat))}{Q:Option (Option Nat)×Nat->SortSt->Prop}(ha:1<=a)(han:a<=nrem)(hu:Up rk (arrOf st) lo (lo+a))
  (hf:∀x n (P:ForInStep (Option (Option Nat)×Nat)->SortSt->Prop),1<=n->n<nrem->(kA rk (arrOf st) (lo+n)<kA rk (arrOf st) (lo+n-1)->P (.done (ab,n)) st)->(¬ kA rk (arrOf st) (lo+n)<kA rk (arrOf st) (lo+n-1)->P (.yield (ab,n+1)) st)->wpS (model prog w) A E s (f x (ab,n)) P st)
  (h:∀n,a<=n->n<=nrem->Up rk (arrOf st) lo (lo+n)->(n=nrem\/kA rk (arrOf st) (lo+n)<kA rk (arrOf st) (lo+n-1))->Q (ab,n) st):wpS (model prog w) A E s (forIn [a:nrem] (ab,a) f) Q st:=by
 refine ce (I:=λx c st'=>st'=st/\c=(ab,x)/\Up rk (arrOf st) lo (lo+x)) ?_ ?_ ⟨rfl,rfl,hu⟩
 ·rintro x c st' x1 x2 ⟨rfl,rfl,u⟩;exact hf x x _ (by lia) x2 (λhl=>h x x1 (by lia) u (.inr hl)) λhl=>⟨rfl,rfl,u.more (by lia) (by lia)⟩
 ·rintro c st' ⟨rfl,rfl,u⟩;rw[show max a nrem=nrem by lia]at u ⊢;exact h nrem han (am _) u (.inl rfl)
def Dn(rk:Keyed->Nat)(xs:Array Keyed)(lo hi:Nat):Prop:=∀i j,lo<=i->i<=j->j<hi->kA rk xs j<=kA rk xs i
def Dn.more{arr:Array Keyed}{lo n:Nat}(h:Dn rk arr lo (lo+n))(hn:1<=n)(hx:kA rk arr (lo+n)<=kA rk arr (lo+n-1)):Dn rk arr lo (lo+(n+1)):=λi j h1 h2 h3=>by
 by_cases c:j<lo+n
 ·exact h i j h1 h2 c
 ·have:j=lo+n:=by lia
  subst this;by_cases e:i=lo+n
  ·subst e;exact am _
  ·exact aS hx (h i (lo+n-1) h1 (by lia) (by lia))
def zeA{xs:Array Keyed}{i j:Nat}(hj:j<=xs.size)(he:∀k,i<=k->k<j->kA rk xs k=kA rk xs (j-1))(k:Nat):kA rk (mirror xs i j ((j-i) / 2)) k=kA rk xs k:=by
 rw[zjI hj];split
 ·rw[he _ (by lia) (by lia),he k (by lia) (by lia)]
 ·rfl
def Dn.turn{xs:Array Keyed}{lo m:Nat}(d:Dn rk xs lo (lo+m))(hz:lo+m<=xs.size):Up rk (mirror xs lo (lo+m) ((lo+m-lo) / 2)) lo (lo+m):=λi j a b c=>by
 rw[zjI hz i,zjI hz j,if_pos ⟨a,by lia⟩,if_pos ⟨by lia,c⟩];exact d _ _ (by lia) (by lia) (by lia)
def zhs{i j:Nat}{Q:Unit->SortSt->Prop}(h:Q () (setArr st (mirror (arrOf st) i j ((j-i) / 2)))):wpS (model prog w) A E s (reverseSlice' i j) Q st:=wpS_modify h
def zjr{M:Model}{α:Type}{f:StateT SortSt Sem α}{Q:α->SortSt->Prop}{P:SortSt->Prop}{G:Prop}(main:(∀st1,P st1->wpS M A E s f Q st1)->G)(tail:∀st1,P st1->wpS M A E s f Q st1):G:=main tail
def wpS_run(R:Rk prog w A s kd D rk){lo nrem:Nat}{Q:Option Nat->SortSt->Prop}(B:Sb kd a₀ st)(hD:∀x∈a₀,D x)(hn:lo+nrem<=a₀.size)(h1:1<=nrem)
  (h:∀m st',Kp rk kd a₀ lo st st'->1<=m->m<=nrem->Up rk (arrOf st') lo (lo+m)->Q (aa m) st'):wpS (model prog w) A E s (countRun' lo nrem) Q st:=by
 have hK:Kp rk kd a₀ lo st st:=⟨B,rfl,λ_ _=>rfl⟩
 refine aA (wpS_asc (rk:=rk) (lo:=lo) (am 1) h1 (λi j a b c=>(show i=j by lia) ▸ am _) ?_ λn n1 n2 u hor=>?_)
 ·intro x n P n1 n2 p1 p2;refine aA (zfu R B hD (by lia) (by lia) ?_);dsimp only;split
  ·rename_i hl;exact aG (p1 (by simpa using hl))
  ·rename_i hl;exact aG (p2 (by simpa using hl))
 dsimp only;by_cases hnn:n=nrem
 ·rw[if_pos (by simpa using hnn)];exact aG (h n st hK n1 n2 u)
 rw[if_neg (by simpa using hnn)];have hlt:=hor.resolve_left hnn;have up1:∀m,Dn rk (arrOf st) lo (lo+n)->m=n+1->Dn rk (arrOf st) lo (lo+m):=λm d e=>by
  subst e;exact d.more n1 (bz hlt)
 refine' zjr (M:=model prog w) (A:=A) (E:=E) (s:=s) (Q:=Q) (P:=λst1=>Kp rk kd a₀ lo st st1/\Dn rk (arrOf st1) lo (lo+(n+1))) (λtail=>?_) ?_;rotate_left;by_cases hgt:n > 1;rw[if_pos hgt];refine aA (zfu R B hD (by lia) (by lia) ?_);dsimp only;by_cases hro:kA rk (arrOf st) lo<kA rk (arrOf st) (lo+n-1);rw[decide_eq_true hro,if_pos rfl];exact aG (h n st hK n1 n2 u);rw[decide_eq_false hro,if_neg (by simp)];have hall:∀k,lo<=k->k<lo+n->kA rk (arrOf st) k=kA rk (arrOf st) (lo+n-1):=λk k1 k2=>by
  have e1:=u lo k (am _) k1 k2;have e2:=u k (lo+n-1) k1 (by lia) (by lia);lia
 refine aA (zhs ?_);have hz:lo+n<=(arrOf st).size:=by rw[B.size];lia
 have K1:=hK.mir (i:=lo) (j:=lo+n) (am _) (by lia);have d1:Dn rk (mirror (arrOf st) lo (lo+n) ((lo+n-lo) / 2)) lo (lo+(n+1)):=by
  have:=up1 (n+1) (λi j a b c=>by rw[hall i a (by lia),hall j (by lia) c];exact am _) rfl;intro i j a b c;rw[zeA hz hall,zeA hz hall];exact this i j a b c
 exact tail _ ⟨K1,d1⟩;rw[if_neg hgt];exact tail _ ⟨hK,up1 (n+1) (λi j a b c=>by
  have:i=j:=by lia
  subst this;exact am _) rfl⟩
 rintro st1 ⟨K1,d1⟩
 ·skip
  refine aA (zeD ?_);refine aA (wpS_mono (ce (I:=λx c st'=>∃q,c=(ab,x,q)/\Kp rk kd a₀ lo st st'/\Dn rk (arrOf st') lo (lo+x)/\q+1<=x/\∀i,lo+x-(q+1)<=i->i<lo+x->kA rk (arrOf st') i=kA rk (arrOf st') (lo+x-1))
   (Q:=λc st'=>∃m q,c=(ab,m,q)/\n+1<=m/\m<=nrem/\Kp rk kd a₀ lo st st'/\Dn rk (arrOf st') lo (lo+m)/\q+1<=m/\∀i,lo+m-(q+1)<=i->i<lo+m->kA rk (arrOf st') i=kA rk (arrOf st') (lo+m-1)) ?step ?fin ⟨0,rfl,K1,d1,by lia,λi i1 i2=>by congr 1;lia⟩) ?post)
  case fin=>
   rintro c st' ⟨q,rfl,K,d,q1,e⟩;rw[show max (n+1) nrem=nrem by lia]at d q1 e ⊢;exact⟨nrem,q,rfl,by lia,am _,K,d,q1,e⟩
  case step=>
   rintro x c st' x1 x2 ⟨q,rfl,K,d,q1,e⟩;dsimp only;have hz':lo+x<=(arrOf st').size:=by rw[K.sb.size];lia
   refine aA (zfu R K.sb hD (by lia) (by lia) ?_);dsimp only;by_cases hs:kA rk (arrOf st') (lo+x)<kA rk (arrOf st') (lo+x-1)
   ·rw[decide_eq_true hs,if_pos rfl];have d2:=d.more (by lia) (bz hs);by_cases hq:q > 0
    ·rw[if_pos hq];refine aA (zhs (aG ⟨0,rfl,K.mir (by lia) (by lia),λi j a b c=>?_,by lia,λi i1 i2=>by congr 1;lia⟩));show kA rk (mirror (arrOf st') _ _ _) j<=kA rk (mirror (arrOf st') _ _ _) i;rw[zeA hz' e,zeA hz' e];exact d2 i j a b c
    ·rw[if_neg hq];exact aG ⟨0,rfl,K,d2,by lia,λi i1 i2=>by congr 1;lia⟩
   ·rw[decide_eq_false hs,if_neg (by simp)];refine aA (zfu R K.sb hD (by lia) (by lia) ?_);dsimp only;by_cases hl:kA rk (arrOf st') (lo+x-1)<kA rk (arrOf st') (lo+x)
    ·rw[decide_eq_true hl,if_pos rfl];exact aG ⟨x,q,rfl,x1,by lia,K,d,q1,e⟩
    ·rw[decide_eq_false hl,if_neg (by simp)];refine aG ⟨q+1,rfl,K,d.more (by lia) (by lia),by lia,λi i1 i2=>?_⟩;rw[show lo+(x+1)-1=lo+x by lia];by_cases hi:i=lo+x
     ·subst hi;rfl
     ·rw[e i (by lia) (by lia)];lia
  case post=>
   rintro c st' ⟨m,q,rfl,m1,m2,K,d,q1,e⟩;dsimp only;have hz':lo+m<=(arrOf st').size:=by rw[K.sb.size];lia
   refine' zjr (M:=model prog w) (A:=A) (E:=E) (s:=s) (Q:=Q) (P:=λst2=>Kp rk kd a₀ lo st st2/\Dn rk (arrOf st2) lo (lo+m)) (λtail=>?_) ?_;rotate_left;by_cases hq:q > 0;rw[if_pos hq];refine aA (zhs ?_);have K2:=K.mir (i:=lo+m-(q+1)) (j:=lo+m) (by lia) (by lia);have d2:Dn rk (mirror (arrOf st') (lo+m-(q+1)) (lo+m) ((lo+m-(lo+m-(q+1))) / 2)) lo (lo+m):=λi j a b c=>by
    rw[zeA hz' e,zeA hz' e];exact d i j a b c
   exact tail _ ⟨K2,d2⟩;rw[if_neg hq];exact tail _ ⟨K,d⟩;rintro st2 ⟨K2,d2⟩
   ·skip
    refine aA (zhs ?_);have K3:=K2.mir (i:=lo) (j:=lo+m) (am _) (by lia);refine aA (wpS_asc (rk:=rk) (lo:=lo) (by lia) m2 (d2.turn (aS (by lia) (d8 K2.sb.size.symm))) ?_ λm' m3 m4 u' _=>?_)
    ·intro x n P n1 n2 p1 p2;refine aA (zfu R K3.sb hD (by lia) (by lia) ?_);dsimp only;split
     ·rename_i hl;exact aG (p1 (by simpa using hl))
     ·rename_i hl;exact aG (p2 (by simpa using hl))
    ·exact aG (h m' _ K3 (by lia) m4 u')
def wpS_ins(R:Rk prog w A s kd D rk){lo n ok:Nat}{Q:Bool->SortSt->Prop}{st₀:SortSt}(K:Kp rk kd a₀ lo st₀ st)(hD:∀x∈a₀,D x)(hn:lo+n<=a₀.size)(h1:1<=ok)(hok:ok<=n)(hu:Up rk (arrOf st) lo (lo+ok))
  (h:∀st',Kp rk kd a₀ lo st₀ st'->Up rk (arrOf st') lo (lo+n)->Q true st'):wpS (model prog w) A E s (binarySort' lo n ok) Q st:=by
 refine aA (wpS_mono (ce (I:=λk c st'=>c=(ab,())/\Kp rk kd a₀ lo st₀ st'/\Up rk (arrOf st') lo (lo+k))
  (Q:=λc st'=>c=(ab,())/\Kp rk kd a₀ lo st₀ st'/\Up rk (arrOf st') lo (lo+n)) ?step ?fin ⟨rfl,K,by rwa [show max ok 1=ok by lia]⟩) ?post)
 case post=>
  rintro c st' ⟨rfl,K,u⟩;exact aG (h st' K u)
 case fin=>
  rintro c st' ⟨rfl,K,u⟩;rw[show max (max ok 1) n=n by lia]at u;exact⟨rfl,K,u⟩
 case step=>
  rintro k c st' k1 k2 ⟨rfl,K,u⟩;refine aA (wpS_mono (ce (I:=λx c st''=>st''=st'/\∃l r,c=(ab,l,r)/\l<=r/\r<=k/\r-l<=k-x/\(∀i,lo<=i->i<lo+l->kA rk (arrOf st') i<=kA rk (arrOf st') (lo+k))/\∀i,lo+r<=i->i<lo+k->kA rk (arrOf st') (lo+k)<kA rk (arrOf st') i)
   (Q:=λc st''=>st''=st'/\∃l r,c=(ab,l,r)/\l<=k/\(∀i,lo<=i->i<lo+l->kA rk (arrOf st') i<=kA rk (arrOf st') (lo+k))/\∀i,lo+l<=i->i<lo+k->kA rk (arrOf st') (lo+k)<kA rk (arrOf st') i) ?s2 ?f2 ⟨rfl,0,k,rfl,by lia,by lia,by lia,λi _ _=>by lia,λi _ _=>by lia⟩) ?p2)
  case f2=>
   rintro c st'' ⟨rfl,l,r,rfl,a1,a2,a3,a4,a5⟩;have:l=r:=by lia
   subst this;exact⟨rfl,l,l,rfl,a2,a4,a5⟩
  case s2=>
   rintro x c st'' _ hx ⟨rfl,l,r,rfl,a1,a2,a3,a4,a5⟩;dsimp only;by_cases hge:l ≥ r
   ·rw[if_pos hge];have:l=r:=by lia
    subst this;exact aG ⟨rfl,l,l,rfl,a2,a4,a5⟩
   ·rw[if_neg hge];have m1:l<=(l+r) / 2:=by lia
    have m2:(l+r) / 2<r:=by lia
    have m4:(l+r) / 2-l<=k-(x+1):=by lia
    have m5:r-((l+r) / 2+1)<=k-(x+1):=by lia
    clear a1 a3;generalize (l+r) / 2=m at *;refine aA (zfu R K.sb hD (by lia) (by lia) ?_);dsimp only;by_cases hl:kA rk (arrOf st'') (lo+k)<kA rk (arrOf st'') (lo+m)
    ·rw[decide_eq_true hl,if_pos rfl];exact aG ⟨rfl,l,_,rfl,m1,aS (bz m2) a2,m4,a4,λi i1 i2=>aW hl (u _ i (cI _ _) i1 i2)⟩
    ·rw[decide_eq_false hl,if_neg (by simp)];exact aG ⟨rfl,_,r,rfl,m2,a2,m5,λi i1 i2=>aS (u i (lo+m) i1 (Nat.le_of_lt_succ i2) (Nat.add_lt_add_left (aW m2 a2) _)) (ic.mp hl),a5⟩
  case p2=>
   rintro c st'' ⟨rfl,l,r,rfl,a2,a4,a5⟩;have hz:=K.sb.size;have kb:=λj=>kA_bub (rk:=rk) (xs:=arrOf st'') (src:=lo+k) (d:=lo+k-(lo+l)) (by lia) (by lia) j;rw[show lo+k-(lo+k-(lo+l))=lo+l by lia]at kb;refine aA (wpS_modify (aG ⟨rfl,K.set (gZ.mp (bubble_perm _ _ _)) λj hj=>?_,λi j a b c=>?_⟩))
   ·refine(kb j).trans ?_;rw[if_neg (by lia),if_neg (by lia)]
   ·refine aS (d8 (kb i)) (aS ?_ (d8 (kb j).symm))
    repeat' split
    all_goals first
     |lia
     |exact am _
     |exact a4 _ (by lia) (by lia)
     |exact bz (a5 _ (by lia) (by lia))
     |exact u _ _ (by lia) (by lia) (by lia)
end
end L2

namespace L2
open PySem PySem.Spec PyProof.Rows
section
variable {prog:aK}{w:aO}{A:aQ}{E:af->ah->Prop}{s:ah}{kd:SortKind}{D:Keyed->Prop}{rk:Keyed->Nat}{st:SortSt}{a₀:Array Keyed}
def Runs.pow{arr:Array Keyed}:∀{ps qs:List Run} {lo hi:Nat},ps.map (λr=>(r.1,r.2.1))=qs.map (λr=>(r.1,r.2.1))->Runs rk arr ps lo hi->Runs rk arr qs lo hi
 |[],[],_,_,_,h=>h
 |[],_::_,_,_,e,_=>by cases e
 | _::_,[],_,_,e,_=>by cases e
 |(a,b,c)::ps,(a',b',c')::qs,lo,hi,e,⟨h0,h1,h2,h⟩=>by
  rw[aH,aH]at e;obtain⟨e1,e2⟩:=mf e;cases e1;exact⟨h0,h1,h2,h.pow e2⟩
def map_mod{l:List Run}{i:Nat}{f:Run->Run}(hf:∀r,((f r).1,(f r).2.1)=(r.1,r.2.1)):(l.modify i f).map (λr=>(r.1,r.2.1))=l.map (λr=>(r.1,r.2.1)):=by
 apply jI;intro j;rw[aB,aB,List.getElem?_modify];cases l[j]? with
 |none=>rfl
 |some r=>
  show aa _=aa _;congr 1;dsimp only;split
  ·exact hf r
  ·rfl
def two_at{ps:List Run}{i:Nat}(h:i+1<ps.length):∃pre a b post,ps=pre++a::b::post/\pre.length=i:=by
 refine⟨ps.take i,ps[i],ps[i+1],ps.drop (i+2),?_,by rw[cr];lia⟩;rw[<- bq,<- bq,ef]
def wpS_mgI(R:Rk prog w A s kd D rk){Q:Bool->SortSt->Prop}{hi i:Nat}(B:Sb kd a₀ st)(hD:∀x∈a₀,D x)(hi2:i+1<(bf st).size)(hr:Runs rk (arrOf st) (bf st).toList 0 hi)(hh:hi<=a₀.size)
  (h:∀st',Sb kd a₀ st'->(bf st').size+1=(bf st).size->Runs rk (arrOf st') (bf st').toList 0 hi->(∀j,hi<=j->kA rk (arrOf st') j=kA rk (arrOf st) j)->Q true st'):wpS (model prog w) A E s (mergeAt' i) Q st:=by
 obtain⟨pre,⟨sa,na,pa⟩,⟨sb,nb,pb⟩,post,e,rfl⟩:=two_at (ps:=(bf st).toList) (i:=i) (by rw[aE];exact hi2);refine wpS_mgAt R B hD e hr hh λst' B' e' r' k'=>h st' B' ?_ r' k';rw[<- aE,<- aE,e,e'];simp only[a8,aJ];lia
def zi2(R:Rk prog w A s kd D rk){Q:Unit->SortSt->Prop}(B:Sb kd a₀ st)(hD:∀x∈a₀,D x)(h2:1<=a₀.size)(hp:bf st=#[])
  (h:∀st',Sb kd a₀ st'->Up rk (arrOf st') 0 a₀.size->Q () st'):wpS (model prog w) A E s sortRuns' Q st:=by
 rw[sortRuns'_eq];refine aA (wpS_get ?_);dsimp only;rw[B.size];refine aA (wpS_mono (ce (I:=λx c st'=>∃lo,c=(ab,lo)/\x<=lo/\lo<=a₀.size/\Sb kd a₀ st'/\Runs rk (arrOf st') (bf st').toList 0 lo)
  (Q:=λc st'=>c=(ab,a₀.size)/\Sb kd a₀ st'/\Runs rk (arrOf st') (bf st').toList 0 a₀.size) ?step ?fin ⟨0,rfl,am _,aU _,B,by rw[hp];rfl⟩) ?post)
 case fin=>
  rintro c st' ⟨lo,rfl,h1,h2,B',r'⟩;have:lo=a₀.size:=by lia
  subst this;exact⟨rfl,B',r'⟩
 case post=>
  rintro c st' ⟨rfl,B',r'⟩;dsimp only;have hl:=r'.le;rw[aE]at hl;refine aA (wpS_mono (ce (I:=λx c st'=>c=(ab,())/\(bf st').size+x<=a₀.size/\Sb kd a₀ st'/\Runs rk (arrOf st') (bf st').toList 0 a₀.size)
   (Q:=λc st'=>c=(ab,())/\(bf st').size<=1/\Sb kd a₀ st'/\Runs rk (arrOf st') (bf st').toList 0 a₀.size) ?s2 ?f2 ⟨rfl,by lia,B',r'⟩) ?p2)
  case f2=>
   rintro c st' ⟨rfl,h1,B',r'⟩;exact⟨rfl,by lia,B',r'⟩
  case p2=>
   rintro c st' ⟨rfl,h1,B',r'⟩;refine aG (h st' B' ?_);rw[<- aE]at h1;cases e:(bf st').toList with
   |nil=>
    rw[e]at r';have:0=a₀.size:=r';lia
   |cons p ps=>
    obtain⟨a,b,c⟩:=p;rw[e]at r' h1;rw[aJ]at h1;have:ps=[]:=d6 (by lia);subst this;obtain⟨_,_,u,z⟩:=r';have z':0+b=a₀.size:=z;rw[z']at u;exact u
  case s2=>
   rintro x c st' _ hx ⟨rfl,h1,B',r'⟩;refine aA (wpS_get ?_);by_cases hz:(bf st').size<=1
   ·rw[if_pos hz];exact aG ⟨rfl,hz,B',r'⟩
   ·rw[if_neg hz];have go:∀i,i+1<(bf st').size->wpS (model prog w) A E s (mergeAt' i) (λa st''=>a=true/\(bf st'').size+(x+1)<=a₀.size/\Sb kd a₀ st''/\Runs rk (arrOf st'') (bf st'').toList 0 a₀.size) st':=λi hi=>
     wpS_mgI R B' hD hi r' (am _) λst'' B'' e'' r'' _=>⟨rfl,by lia,B'',r''⟩
    refine aA (wpS_mono (go _ ?_) ?_)
    ·(repeat' split) <;> lia
    ·rintro _ st'' ⟨rfl,e1,e2,e3⟩;rw[if_neg (by simp)];exact aG ⟨rfl,e1,e2,e3⟩
 case step=>
  rintro x c st' _ hx ⟨lo,rfl,h1,h2,B',r'⟩;dsimp only;by_cases hge:lo ≥ a₀.size
  ·rw[if_pos hge];have:lo=a₀.size:=by lia
   subst this;exact aG ⟨rfl,B',r'⟩
  rw[if_neg hge];refine aA (wpS_run R B' hD (by lia) (by lia) λn st1 K1 n1 n2 u1=>?_);dsimp only;have put:∀(N:Nat) (st2:SortSt),1<=N->lo+N<=a₀.size->Sb kd a₀ st2->Runs rk (arrOf st2) (bf st2).toList 0 lo->Up rk (arrOf st2) lo (lo+N) ->
    Runs rk (arrOf st2) ((bf st2).push (lo,N,0)).toList 0 (lo+N):=λN st2 e1 e2 e3 e4 e5=>by
   rw[dE];exact e4.join ⟨rfl,e1,e5,rfl⟩
  by_cases hm:n<minRun' a₀.size a₀.size 0;rw[if_pos hm];refine aA (zeD ?_);refine aA (wpS_ins R K1 hD (by lia) n1 (by lia) u1 λst2 K2 u2=>?_);rw[if_neg (by simp)];have b1:1<=min (a₀.size-lo) (minRun' a₀.size a₀.size 0):=by lia
  have b2:lo+min (a₀.size-lo) (minRun' a₀.size a₀.size 0)<=a₀.size:=by lia
  generalize min (a₀.size-lo) (minRun' a₀.size a₀.size 0)=N at u2 b1 b2 ⊢;rotate_left;rw[if_neg hm];have K2:=K1;have u2:=u1;have b1:=n1;have b2:lo+n<=a₀.size:=by lia
  generalize n=N at u2 b1 b2 ⊢
  all_goals
   have r2:=r'.congr (arr':=_) (λi _ hi=>K2.left i hi);rw[<- K2.pend]at r2;refine aA (wpS_get ?_);split
   ·rename_i s1 m1 q1 _;generalize power' a₀.size (2*s1+m1) _ a₀.size=pw;refine aA (wpS_mono (ce (I:=λy c st3=>c=(ab,())/\Sb kd a₀ st3/\Runs rk (arrOf st3) (bf st3).toList 0 lo/\Up rk (arrOf st3) lo (lo+N))
     (Q:=λc st3=>c=(ab,())/\Sb kd a₀ st3/\Runs rk (arrOf st3) (bf st3).toList 0 lo/\Up rk (arrOf st3) lo (lo+N)) ?_ ?_ ⟨rfl,K2.sb,r2,u2⟩) ?_)
    ·rintro y c st3 _ hy ⟨rfl,B3,r3,u3⟩;refine aA (wpS_get ?_);split
     ·rename_i hsome;split
      ·exact aG ⟨rfl,B3,r3,u3⟩
      ·have hz:(bf st3).size > 1:=by
        refine fW λhc=>?_;rw[if_neg (by lia)]at hsome;cases hsome
       refine aA (wpS_mgI R B3 hD (by lia) r3 (by lia) λst4 B4 _ r4 k4=>?_);rw[if_neg (by simp)];exact aG ⟨rfl,B4,r4,u3.congr λi i1 _=>k4 i i1⟩
     ·exact aG ⟨rfl,B3,r3,u3⟩
    ·exact λc st3 z=>z
    ·rintro c st3 ⟨rfl,B3,r3,u3⟩;dsimp only;refine aA (wpS_modify ?_);refine aA (wpS_modify (aG ⟨_,rfl,by lia,b2,⟨B3.perm,B3.kind,B3.failed⟩,?_⟩));exact put N (setPending st3 ((bf st3).modify ((bf st3).size-1) λx=>(x.1,x.2.1,pw))) b1 b2 ⟨B3.perm,B3.kind,B3.failed⟩ (by
      show Runs rk (arrOf st3) ((bf st3).modify _ _).toList 0 lo;rw[Array.toList_modify];exact r3.pow (map_mod (f:=λx=>(x.1,x.2.1,pw)) λr=>rfl).symm) u3
   ·exact aA (wpS_modify (aG ⟨_,rfl,by lia,b2,⟨K2.sb.perm,K2.sb.kind,K2.sb.failed⟩,put _ _ b1 b2 K2.sb r2 u2⟩))
end
end L2

namespace L2
open PySem PySem.Spec PyProof.Rows
abbrev RwI:=List Int
def rkR(rows:List RwI)(r:RwI):Nat:=rows.countP λq=>decide (q<r)
def zgj{α:Type}{p q:α->Bool}:∀{l:List α},(∀x,p x=true->q x=true)->(∃x∈l,p x=false/\q x=true)->l.countP p<l.countP q
 |[],_,h=>by obtain⟨x,hx,_⟩:=h;cases hx
 |a::l,h,⟨x,hx,hp,hq⟩=>by
  rw[jV,jV];have m:l.countP p<=l.countP q:=i9 λx _ hx=>h x hx;rcases aF.mp hx with e|hx
  ·subst e;rw[if_neg (by simp[hp]),if_pos hq];lia
  ·have:=zgj (l:=l) h ⟨x,hx,hp,hq⟩;by_cases ha:p a=true
   ·rw[if_pos ha,if_pos (h a ha)];lia
   ·rw[if_neg ha];lia
def rkR_lt{rows:List RwI}{r r':RwI}(hr:r∈rows):decide (rkR rows r<rkR rows r')=decide (r<r'):=by
 by_cases h:r<r'
 ·rw[decide_eq_true h];refine decide_eq_true (zgj (λq hq=>?_) ⟨r,hr,?_,decide_eq_true h⟩)
  ·exact decide_eq_true (List.lt_trans (of_decide_eq_true hq) h)
  ·exact decide_eq_false (List.lt_irrefl r)
 ·rw[decide_eq_false h];refine decide_eq_false (ic.mpr (i9 λq _ hq=>?_));refine decide_eq_true (kF λhc=>h ?_);exact List.lt_of_le_of_lt (ly.mp hc) (of_decide_eq_true hq)
section
variable {prog:aK}{w:aO}{A:aQ}{E:af->ah->Prop}{s:ah}
structure SrtH(prog:aK)(w:aO)(HP:aT->Prop)(vs:List af)(kd:SortKind)(row:af->RwI):Prop where
 keep:∀{h h':aT},HP h->(∀b o,h.get? b=aa o->o.cls=.type "tuple" -> h'.get? b=aa o)->HP h'
 kind:∀(A:aQ) (s:ah) (E:af->ah->Prop) (Q:SortKind->ah->Prop),HP s.heap->2<=vs.length->Q kd s->av (model prog w) A (keyKind' vs.toArray) Q E s
 lt:∀(A:aQ) (s:ah),HP s.heap->∀x∈vs,∀y∈vs,∀(E:af->ah->Prop) (Q:Bool->ah->Prop),Q (decide (row x<row y)) s->av (model prog w) A (keyLt' kd x y) Q E s
variable {HP:aT->Prop}{vs:List af}{kd:SortKind}{row:af->RwI}
def SrtH.rk(H:SrtH prog w HP vs kd row)(h:HP s.heap):Rk prog w A s kd (λx=>x.1∈vs) (λx=>rkR (vs.map row) (row x.1)):=
 ⟨λx y hx hy E Q q=>H.lt A s h _ hx _ hy E Q (by rw[rkR_lt (bY.mpr ⟨_,hx,rfl⟩)]at q;exact q)⟩
def zip_all{xs:Array Keyed}(hp:xs.toList.Perm (vs.toArray.zip vs.toArray).toList):∃out:List af,(xs.map (·.2)).toList=out/\out.Perm vs/\out=xs.toList.map (·.1):=by
 rw[fY]at hp;have h2:∀p∈xs.toList,p.1=p.2:=λp hx=>(mem_zip_self (hp.mem_iff.mp hx)).1;refine⟨xs.toList.map (·.2),Array.toList_map,?_,eO λp hx=>(h2 p hx).symm⟩;have:=hp.map (·.2);rwa [ij (am _)]at this
def zhk{a:ai}{n:Nat}{P:Fin->ah->Prop}(H:SrtH prog w HP vs kd row)(ho:s.heap.get? a=aa (seqObj "list" vs.toArray n))(hI:HP s.heap)(hl:vs.length<=10000000)
  (h:∀out:List af,out.Perm vs->(out.map row).Pairwise (·<=·)->P (.done (.ret .none)) { s with heap:=sortedHeap s.heap a vs out.toArray}):av (model prog w) A (Builtin.«list.sort» ⟨[.ref a],[]⟩) P E s:=by
 rw[list_sort_plain];have ha:a<s.heap.objs.size:=aC ho;refine ae (listItems_at ho rfl ?_);refine ae (listUpdate_at ho rfl ?_ (by rw[cq];simp;lia) (by simp));obtain⟨e1,ho1⟩:∃e1,(s.heap.update a (cn λ_=>#[])).get? a=aa (seqObj "list" #[] e1):=⟨_,get?_update_seq ho (λ_=>#[])⟩;refine ae (seqEpoch_at ho1 rfl ?_);refine ae (wpAny_newTuple ?_ (by show vs.length<=_;rw[cq];lia));refine ae (wpAny_newList ?_);refine cA ?_;have ho6:(((s.heap.update a (cn λ_=>#[])).push (seqObj "tuple" vs.toArray 0)).push (seqObj "list" #[] 0)).get? a=aa (seqObj "list" #[] e1):=by
  rw[hU _ _ _ (by rw[size_push',fZ];exact aL (cW ha)),hU _ _ _ (by rw[fZ];exact aL ha)];exact ho1
 show av (model prog w) A _ P E { s with heap:=((s.heap.update a (cn λ_=>#[])).push (seqObj "tuple" vs.toArray 0)).push (seqObj "list" #[] 0)};dsimp only;have hI6:HP (((s.heap.update a (cn λ_=>#[])).push (seqObj "tuple" vs.toArray 0)).push (seqObj "list" #[] 0)):=H.keep hI λb o hb hc=>by
  have hne:b≠a:=λe=>by subst e;rw[ho]at hb;cases hb;exact absurd (show cR "list" =cR "tuple" from hc) (λz=>by injection z with z;exact absurd z (by decide))
  refine aj _ (aj _ ?_);rw[jo _ _ _ _ hne];exact hb
 have fin:∀st':SortSt,(arrOf st').toList.Perm (vs.toArray.zip vs.toArray).toList->((arrOf st').toList.map λp=>row p.1).Pairwise (·<=·)->P (.done (.ret .none)) { s with heap:=sortedHeap s.heap a vs ((arrOf st').map (·.2))}:=λst' hp hs=>by
  obtain⟨out,e1,e2,e3⟩:=zip_all hp;have e4:(arrOf st').map (·.2)=out.toArray:=by apply jg;rw[e1]
  rw[e4];refine h out e2 ?_;rw[e3,bN];exact hs
 have sz2:∀st':SortSt,(arrOf st').toList.Perm (vs.toArray.zip vs.toArray).toList->((arrOf st').map (·.2)).size<=aX+1:=λst' hp=>by
  have:=hp.length_eq;rw[aE]at this;rw[Array.size_map,this,cq];simp;lia
 by_cases h2:vs.toArray.size<2
 ·rw[if_pos h2,if_pos h2];refine ae (ak ?_);rw[StateT.run_pure];refine ae (ak ?_);dsimp only;refine ae (seqEpoch_at ho6 rfl ?_);refine ae (listUpdate_at ho6 rfl ?_ (by simp) (sz2 (fF _ (vs.toArray.zip vs.toArray) #[] 7 ab) (.refl _)));simp only[bne_self_eq_false,bm,if_false];refine ak (fin (fF _ (vs.toArray.zip vs.toArray) #[] 7 ab) (.refl _) ?_);have hz:((vs.toArray.zip vs.toArray).toList.map λp:Keyed=>row p.1).length<2:=by
   rw[aw,fY];simpa using h2
  show((vs.toArray.zip vs.toArray).toList.map λp:Keyed=>row p.1).Pairwise (·<=·)
  match hq:((vs.toArray.zip vs.toArray).toList.map λp:Keyed=>row p.1)with
  |[]=>exact .nil
  |[x]=>exact List.pairwise_singleton _ _
  | _::_::_=>rw[hq]at hz;simp at hz;lia
 ·rw[if_neg h2,if_neg h2];refine ae (H.kind _ { s with heap:=((s.heap.update a (cn λ_=>#[])).push (seqObj "tuple" vs.toArray 0)).push (seqObj "list" #[] 0)} _ _ hI6 (by simpa using h2) ?_);refine ae (cf (zi2 (a₀:=vs.toArray.zip vs.toArray) (st:=fF kd (vs.toArray.zip vs.toArray) #[] 7 ab) (Q:=λ_ st'=>Sb kd (vs.toArray.zip vs.toArray) st'/\((arrOf st').toList.map λp=>row p.1).Pairwise (·<=·))
   (H.rk (s:={ s with heap:=((s.heap.update a (cn λ_=>#[])).push (seqObj "tuple" vs.toArray 0)).push (seqObj "list" #[] 0)}) hI6) ⟨.refl _,rfl,rfl⟩ (λx hx=>?_) (by simp at h2 ⊢;lia) rfl λst' B u=>⟨B,?_⟩) ?_ λ_ _ e=>e)
  ·have hx':x∈vs.zip vs:=by rw[<- dh,fY]at hx;exact hx
   exact(mem_zip_self hx').2
  ·rw[fN,eU];intro i j hi hj hij;have hz:=B.size;rw[aE]at hi hj;have:=u i j (aU _) (by lia) (by lia);rw[zc3 hi,zc3 hj]at this;rw[dG,dG];have hm:(arrOf st')[j]∈(vs.toArray.zip vs.toArray).toList:=B.perm.mem_iff.mp (dh.mpr (bo hj));rw[fY]at hm;refine ly.mp λhc=>?_;have h3:=rkR_lt (rows:=vs.map row) (r':=row (arrOf st')[i].1) (bY.mpr ⟨_,(mem_zip_self hm).2,rfl⟩);rw[decide_eq_true hc]at h3;have:=of_decide_eq_true h3;lia
  ·rintro⟨⟨⟩,st'⟩ s' ⟨rfl,B,hs⟩;dsimp only at B hs ⊢;refine ae (seqEpoch_at ho6 rfl ?_);refine ae (listUpdate_at ho6 rfl ?_ (by simp) (sz2 st' B.perm));have hf:=B.failed;simp only[bne_self_eq_false,bm,if_false];rw[hf];exact ak (fin st' B.perm hs)
def zkB{l:ai}{Q:af->ah->Prop}(H:SrtH prog w HP vs kd row)(hl:s.heap.IsList l vs.toArray)(hI:HP s.heap)(hz:vs.length<=10000000)
  (h:∀out:List af,out.Perm vs->(out.map row).Pairwise (·<=·)->Q (.ref (s.heap.objs.size+1)) { s with heap:=sortedAll s.heap vs out.toArray}):av (model prog w) A (call (.builtin "sorted") [.ref l]) Q E s:=by
 refine ii kind_sorted plain_sorted entry_sorted (args_sorted1 _) ?_;unfold Builtin.«sorted»;have hz':vs.length<=aX:=by rw[cq];lia
 refine ae (m:=checkCount "sorted" 1 1 _) (ak ?_);refine ae (collect_list hl ?_ hz');refine ae (wpAny_newList ?_ hz');have hsz:((s.heap.push (seqObj "list" #[] 0)).update s.heap.objs.size (cn (· ++ vs.toArray))).objs.size=s.heap.objs.size+1:=by
  rw[fZ,size_push']
 have hoL:(((s.heap.push (seqObj "list" #[] 0)).update s.heap.objs.size (cn (· ++ vs.toArray))).push (seqObj "list" vs.toArray 0)).get? (s.heap.objs.size+1)=aa (seqObj "list" vs.toArray 0):=by
  rw[<- hsz];exact ay _ rfl
 have hI2:HP (((s.heap.push (seqObj "list" #[] 0)).update s.heap.objs.size (cn (· ++ vs.toArray))).push (seqObj "list" vs.toArray 0)):=H.keep hI λb o hb _=>by
  refine aj _ ?_;rw[jo _ _ _ _ (aL (aC hb))];exact aj _ hb
 show av _ _ _ _ _ { s with heap:=((s.heap.push (seqObj "list" #[] 0)).update s.heap.objs.size (cn (· ++ vs.toArray))).push (seqObj "list" vs.toArray 0)};rw[hsz];refine ae (cA (wpAny_call_entry slot_list_sort ⟨_,hoL,rfl⟩ entry_list_sort (zhk H hoL hI2 hz λout p1 p2=>⟨_,rfl,?_⟩) (args_list_sort _)));exact ak ⟨_,rfl,h out p1 p2⟩
end
end L2

namespace L2
open PySem PySem.Spec PyProof.Rows
section
variable {prog:aK}{w:aO}{A:aQ}{s:ah}
def zjM{Q:Bool->ah->Prop}:∀{xs ys:List af} {is js:List Int} (i:Nat),IntsAre xs is->IntsAre ys js->Q (decide (is<js)) s->PySem.W.KatLex prog w A true (decide (xs.length<ys.length)) Q (xs.zip ys) i s
 | _,_,_,_,i,.nil,.nil,h=>h
 | _,_,_,_,i,.nil,.cons n t r,h=>by
  refine j7 ?_;rw[decide_eq_true (by simp)];rwa [decide_eq_true (by simp)]at h
 | _,_,_,_,i,.cons n t r,.nil,h=>by
  refine j7 ?_;rw[decide_eq_false (by simp)];rwa [decide_eq_false (by simp)]at h
 | _,_,_,_,i,.cons (vs:=xs) (ns:=is) a t r,.cons (vs:=ys) (ns:=js) b u r',h=>by
  rw[dX];refine PySem.W.kat_cons (wpAny_eqBool_int ?_);by_cases e:a=b
  ·subst e;rw[beq_self_eq_true];refine PySem.W.kat_yes ?_;have e1:decide ((f7 a t::xs).length<(f7 a u::ys).length)=decide (xs.length<ys.length):=by simp
   have e2:decide (a::is<a::js)=decide (is<js):=by
    by_cases c:is<js
    ·rw[decide_eq_true c,decide_eq_true (eu.mpr (.inr ⟨rfl,c⟩))]
    ·rw[decide_eq_false c,decide_eq_false λz=>(eu.mp z).elim (λz=>by lia) λz=>c z.2]
   rw[e2]at h;rw[e1];exact zjM (i+1) r r' h
  ·rw[beq_eq_false_iff_ne.mpr e];refine PySem.W.kat_no ?_;have e2:decide (a::is<b::js)=decide (a<b):=by
    by_cases c:a<b
    ·rw[decide_eq_true c,decide_eq_true (eu.mpr (.inl c))]
    ·rw[decide_eq_false c,decide_eq_false λz=>(eu.mp z).elim c λz=>e z.1]
   rw[e2]at h;cases hb:(true&&i==0)with
   |true=>exact oneLt_int h
   |false=>exact PySem.W.kat_one _ _ (lt_int h)
def zja(h:aT)(row:af->RwI)(vs:List af):Prop:=∀v∈vs,∃a o xs n,v=.ref a/\h.get? a=aa o/\o.cls=.type "tuple" /\ o.data=.seq xs n/\IntsAre xs.toList (row v)/\row v≠[]
def zfR{h:aT}{row:af->RwI}:∀{vs:List af},zja h row vs->∃fs,PySem.W.KatTups h vs fs/\fs.length=vs.length/\∀v∈fs,∃i t,v=.int i t
 |[],_=>⟨[],trivial,rfl,λv hv=>by cases hv⟩
 |v::vs,t=>by
  obtain⟨fs,k1,k2,k3⟩:=zfR (vs:=vs) λv hv=>t v (aq _ hv);obtain⟨a,o,xs,n,rfl,e1,e2,e3,e4,e5⟩:=t v ax;obtain⟨xs⟩:=xs;generalize row (.ref a)=r at e4 e5;cases e4 with
  |nil=>exact absurd rfl e5
  |cons i t _=>
   refine⟨.int i t::fs,⟨⟨a,o,_,n,rfl,e1,e2,e3,rfl⟩,k1⟩,by rw[aJ,aJ,k2],λv hv=>?_⟩;rcases aF.mp hv with e|hv
   ·exact⟨i,t,e⟩
   ·exact k3 v hv
def srtH_tups{row:af->RwI}{vs:List af}:SrtH prog w (λh=>zja h row vs) vs (tuples' true) row:=by
 refine⟨λt k v hv=>?_,λA s E Q t h2 q=>?_,λA s t x hx y hy E Q q=>?_⟩
 ·obtain⟨a,o,xs,n,e0,e1,e2,e3,e4⟩:=t v hv;exact⟨a,o,xs,n,e0,k a o e1 e2,e2,e3,e4⟩
 ·obtain⟨fs,k1,k2,k3⟩:=zfR t;refine PySem.W.kat_kind (T:=.type "int") k1 (by lia) (λv hv=>?_) rfl q;obtain⟨i,t,rfl⟩:=k3 v hv;exact .now
 ·obtain⟨a,oa,xs,n,rfl,a1,_,a3,a4,_⟩:=t x hx;obtain⟨b,ob,ys,m,rfl,b1,_,b3,b4,_⟩:=t y hy;refine PySem.W.kat_lt a1 a3 b1 b3 ?_;rw[<- aE,<- aE];exact zjM 0 a4 b4 q
end
def vI:V->Int
 |.int i=>i
 | _=>0
def zji(H:Hp)(a:ai):RwI:=match H a with
 |some (.tup vs)=>vs.map vI
 | _=>[]
def rowV(H:Hp):af->RwI
 |.ref a=>zji H a
 | _=>[]
def ziX(r:RwI):(r.map V.int).map vI=r:=by
 rw[bN];exact(eO λ_ _=>rfl).trans (jP r)
def zfD:∀{r:RwI} {us:List af},Vals (r.map V.int) us->IntsAre us r
 |[],_,.nil=>.nil
 |i::r,_,.cons h t=>by
  obtain⟨k,rfl⟩:=h;exact .cons i k (zfD t)
def zhZ:∀{as:List ai} {us:List af},Vals (as.map V.ref) us->us=as.map bj
 |[],_,.nil=>rfl
 |a::as,_,.cons h t=>by
  cases h;rw[aH,zhZ t]
def zis:∀as:List ai,Vals (as.map V.ref) (as.map bj)
 |[]=>.nil
 |a::as=>.cons rfl (zis as)
def unR:af->ai
 |.ref a=>a
 | _=>default
def perm_refs{as:List ai}{out:List af}(h:out.Perm (as.map bj)):∃as':List ai,as'.Perm as/\out=as'.map bj:=by
 refine⟨out.map unR,?_,?_⟩
 ·have:=h.map unR;rwa [bN,show(unR ∘ bj)=id from rfl,jP]at this
 ·rw[bN];refine(jP out).symm.trans (eO λv hv=>?_)
  obtain⟨a,_,rfl⟩:=bY.mp (h.mem_iff.mp hv);rfl
def ziq(H:Hp)(as:List ai):Prop:=∀a∈as,∃r:RwI,r≠[]/\H a=aa (.tup (r.map V.int))
def Inv.tups{X:Cx}{pins:List (ai×Obj)}{σ:St}{H:Hp}{s:ah}(I:Inv X pins σ H s){as:List ai}(h:ziq H as):zja s.heap (rowV H) (as.map bj):=by
 intro v hv;obtain⟨a,ha,rfl⟩:=bY.mp hv;obtain⟨r,hr,hH⟩:=h a ha;obtain⟨_,its,ri,o,e,hcl,n,hd⟩:=I.hok a _ hH;have er:rowV H (.ref a)=r:=by
  show zji H a=r;unfold zji;rw[hH];exact ziX r
 rw[er];exact⟨a,o,_,n,rfl,e,hcl,congrArg Prod.fst hd,zfD ri,hr⟩
def call_srtG{X:Cx}:zfv X (.builtin "sorted") (λxs H Q=>∃(p:ai) (as:List ai),xs=[.ref p]/\SqL X.K H p (as.map V.ref)/\ziq H as/\as.length<=1000000/\∀(as':List ai) (l:ai),as'.Perm as->(as'.map (zji H)).Pairwise (·<=·)->H l=ab->Q (.ref l) (upd H l (.lst (as'.map V.ref)))):=by
 intro pins s σ H xs us Q I r h;obtain⟨p,as,rfl,hq,hpr,hl,q⟩:=h;obtain⟨u,rfl,rx⟩:=zf4 r;cases rx;obtain⟨its,r',pl,hz⟩:=I.list hq;cases zhZ r';refine zkB srtH_tups pl.isList (I.tups hpr) (by rw[aw];lia) λout p1 p2=>?_;obtain⟨as',p3,rfl⟩:=perm_refs p1;rw[bN]at p2;have sz:((s.heap.push (seqObj "list" #[] 0)).update s.heap.objs.size (cn (· ++ (as.map bj).toArray))).objs.size=s.heap.objs.size+1:=by rw[fZ,size_push']
 have g0:(((s.heap.push (seqObj "list" #[] 0)).update s.heap.objs.size (cn (· ++ (as.map bj).toArray))).push (seqObj "list" (as.map bj).toArray 0)).get? (s.heap.objs.size+1)=aa (seqObj "list" (as.map bj).toArray 0):=by
  rw[<- sz];exact ay _ rfl
 obtain⟨e,he⟩:=sortedHeap_at (out:=(as'.map bj).toArray) g0;refine⟨.ref (s.heap.objs.size+1),_,I.laid (a:=s.heap.objs.size+1) (o:=.lst (as'.map V.ref)) (h':=sortedAll s.heap (as.map bj) (as'.map bj).toArray) (t':=s.toks) (λb o eb=>?_) (cY _) ⟨?_,as'.map bj,e,zis as',he⟩,rfl,q as' _ p3 p2 (I.hok.fresh (cY _))⟩
 ·exact sortedAll_old eb
 ·rw[aw,p3.length_eq,cq];lia
end L2
namespace L3
open PySem PySem.Spec PyProof.Rows L2
def zeB(r:RwI):D:=.tup (r.map .int)
def rowOf:D->Option RwI
 |.tup ds=>zgE ds
 | _=>ab
def zih:List D->Option (List RwI)
 |[]=>aa []
 |d::ds=>(rowOf d).bind λp=>(zih ds).map λps=>p::ps
def zkQ(rows:List RwI):List RwI:=rows.mergeSort λa b=>decide (a<=b)
def zfd(rows:List RwI):(zkQ rows).Perm rows:=List.mergeSort_perm _ _
def srtR_up(rows:List RwI):(zkQ rows).Pairwise (·<=·):=by
 have:=List.pairwise_mergeSort (le:=λa b:RwI=>decide (a<=b)) (λa b c h1 h2=>decide_eq_true (List.le_trans (of_decide_eq_true h1) (of_decide_eq_true h2))) (λa b=>by
  rcases List.le_total a b with h|h
  ·rw[decide_eq_true h];rfl
  ·rw[decide_eq_true h,Bool.or_true]) rows
 exact this.imp λh=>of_decide_eq_true h
def srtR_only{rows rows':List RwI}(h:rows'.Perm rows)(hs:rows'.Pairwise (·<=·)):rows'=zkQ rows:=
 k7 (λa b _ _ h1 h2=>List.le_antisymm h1 h2) hs (srtR_up rows) (h.trans (zfd rows).symm)
def ziy{F:Hp}:∀{vs:List V} {ds:List D} {rows:List RwI},Reps F vs ds->zih ds=aa rows->(∀r∈rows,r≠[])->∃as:List ai,vs=as.map V.ref/\ziq F as/\rows=as.map (zji F)
 | _,_,_,.nil,q,_=>by cases q;exact⟨[],rfl,(λa ha=>by cases ha),rfl⟩
 | _,_,_,.cons r t,q,hn=>by
  obtain⟨p,q1,q⟩:=bind_some q;obtain⟨ps,q2,q⟩:=map_some q;subst q;obtain⟨as,e1,e2,e3⟩:=ziy t q2 λr hr=>hn r (aq _ hr);cases r with
  |tup e rs=>
   have ei:=zjU rs q1;rw[ei]at e;rename_i a _ _;refine⟨a::as,by rw[e1];rfl,λb hb=>?_,?_⟩
   ·rcases aF.mp hb with h|h
    ·subst h;exact⟨p,hn p ax,e⟩
    ·exact e2 b h
   ·rw[aH,<- e3];congr 1;unfold zji;rw[e];exact(ziX p).symm
  |non=>cases q1
  |bl=>cases q1
  |int=>cases q1
  |str=>cases q1
  |lst=>cases q1
  |dic=>cases q1
  |ins=>cases q1
  |dcI=>cases q1
  |dcS=>cases q1
def ziJ{F:Hp}:∀{as:List ai},ziq F as->Reps F (as.map V.ref) ((as.map (zji F)).map zeB)
 |[],_=>.nil
 |a::as,h=>by
  obtain⟨r,hr,e⟩:=h a ax;have er:zji F a=r:=by unfold zji;rw[e];exact ziX r
  refine .cons ?_ (ziJ λb hb=>h b (aq _ hb));rw[er];exact .tup e (.ints r)
noncomputable def zi5:List Ent->Option Ent
 |[x]=>(asL x).bind λds=>(zih ds).bind λrows=>gif ((∀r∈rows,r≠[])/\rows.length<=1000000) (aa (.own ((zkQ rows).map zeB)))
 | _=>ab
def c_srtG{X:Cx}:zhE X (.builtin "sorted") zi5:=⟨_,call_srtG,λH0 F H vs es res Q fh hh r q k=>by
 obtain⟨x,rfl⟩:=zgQ rfl (λ_ _ _=>rfl) q;obtain⟨v,rfl,rz⟩:=zdK r;obtain⟨ds,q1,q⟩:=bind_some q;obtain⟨rows,q2,q⟩:=bind_some q;obtain⟨⟨hs,hl⟩,qz⟩:=zaO q;cases qz;obtain⟨l,ws,e',h1,h2⟩:=RepR.toL rz fh q1;subst e';obtain⟨as,e1,e2,e3⟩:=ziy h2 q2 hs;rw[e1]at h1;have hA:ziq H as:=λa ha=>by obtain⟨r,x1,x2⟩:=e2 a ha;exact⟨r,x1,fh _ _ x2⟩
 have hrow:∀a∈as,zji H a=zji F a:=λa ha=>by
  obtain⟨r,x1,x2⟩:=e2 a ha;unfold zji;rw[x2,fh _ _ x2]
 refine⟨l,as,rfl,h1,hA,by rw[e3,aw]at hl;exact hl,λas' p p1 p2 hp=>?_⟩;have e4:as'.map (zji H)=as'.map (zji F):=eO λa ha=>hrow a (p1.mem_iff.mp ha);rw[e4]at p2;have e5:as'.map (zji F)=zkQ rows:=srtR_only (by rw[e3];exact p1.map _) p2;have e6:=ziJ (F:=F) (as:=as') λa ha=>e2 a (p1.mem_iff.mp ha);rw[e5]at e6;exact k _ _ _ (Ex.lay fh hp) ⟨p,_,rfl,hh.free hp,zam,e6,fh.free hp⟩⟩
end L3

namespace L3
def jqa{α β:Type}(a:α)(f:α->Option β):(aa a).bind f=f a:=rfl
def jqb{α β:Type}(f:α->Option β):(ab:Option α).bind f=ab:=rfl
def jqc{α β:Type}(a:α)(f:α->β):(aa a).map f=aa (f a):=rfl
def jqd{α β:Type}(f:α->β):(ab:Option α).map f=ab:=rfl
def jqe{α:Type}{a:α}{l:List α}:(a::l)[0]? =aa a:=rfl
def jqf{α:Type}{a:α}{l:List α}{i:Nat}:(a::l)[i+1]? =l[i]?:=rfl
def jqg{α:Type}{a b:α}{l:List α}:(a::l).set 0 b=b::l:=rfl
def jqh{α:Type}{a b:α}{l:List α}{i:Nat}:(a::l).set (i+1) b=a::l.set i b:=rfl
def jqi{α:Type}{a:α}{l m:List α}:(a::l)++m=a::(l++m):=rfl
def jqj{α:Type}(l:List α):[]++l=l:=rfl
def jqk{α:Type}(l:List α):l++[]=l:=bp l
def jqn{α β:Type}{f:α->β}{a:α}{l:List α}:(a::l).map f=f a::l.map f:=rfl
def jqo{α β:Type}{f:α->β}:([]:List α).map f=[]:=rfl
def jqp{α:Type}{a:α}{l:List α}:(a::l).length=l.length+1:=rfl
def jqq{α:Type}:([]:List α).length=0:=rfl
def jqr:(false=true)=False:=bm
def jqs{p:Prop}{_:Decidable p}:(decide p=true)=p:=decide_eq_true_eq
def jqt:(!true)=false:=rfl
def jqu:(!false)=true:=rfl
def jqx{α:Type}(a:Option α):(aa a).join=a:=rfl
def jqy{h:Decidable True}:decide True=true:=decide_true h
def jqz{h:Decidable False}:decide False=false:=decide_false h
def jra{α:Type}{_:Decidable True}(a b:α):(if True then a else b)=a:=if_true a b
def jrb{α:Type}{_:Decidable False}(a b:α):(if False then a else b)=b:=if_false a b
def jrc(p:Prop):(p\/True)=True:=or_true p
def jrd(p:Prop):(True\/p)=True:=true_or p
def jre(p:Prop):(p/\True)=p:=and_true p
end L3

namespace CE
open PySem L2 L3
def oD:Option Int->D
 |none=>.non
 |some i=>.int i
def oD_s(i:Int):oD (aa i)=.int i:=rfl
def oD_n:oD ab=.non:=rfl
def stp(c:Option Int)(p:Int):Option Int:=if p=0 then ab else c.map (· + p)
def lw(cs:List (Option Int)):Option Int:=minI (cs.filterMap id)
def tc(fit:Nat->Nat->Bool)(c:Nat->Nat->Option Int)(i j:Nat):Option Int:=if 0<i/\0<j then (if (fit i (j-1)&&fit (i-1) j)=true then c (i-1) (j-1)else ab)else ab
structure Pr where
 put:Int
 left:Int
 exch:Int
 turn:Int
def Pr.d(p:Pr):D:=.tup [.int p.put,.int p.left,.int p.exch,.int p.turn]
variable (fit:Nat->Nat->Bool)(p:Pr)(fr:Bool)
def cel:Nat->Nat->Option Int
 |0,0=>aa 0
 |0,j+1=>if fr=true then aa 0 else stp (cel 0 j) p.put
 |i+1,0=>stp (cel i 0) p.left
 | i+1,j+1=>lw [if fit i j=true then cel i j else stp (cel i j) p.exch,stp (cel (i+1) j) p.put,stp (cel i (j+1)) p.left,
   stp (if 0<i/\0<j then (if (fit i (j-1)&&fit (i-1) j)=true then cel (i-1) (j-1)else ab)else ab) p.turn]
termination_by i j=>(i,j)
def zir:cel fit p fr 0 0=aa 0:=by rw[cel]
def zh9(j:Nat):cel fit p fr 0 (j+1)=if fr=true then aa 0 else stp (cel fit p fr 0 j) p.put:=by rw[cel]
def zj4(i:Nat):cel fit p fr (i+1) 0=stp (cel fit p fr i 0) p.left:=by rw[cel]
def zfz(i j:Nat):cel fit p fr (i+1) (j+1)=lw [if fit i j=true then cel fit p fr i j else stp (cel fit p fr i j) p.exch,stp (cel fit p fr (i+1) j) p.put,stp (cel fit p fr i (j+1)) p.left,stp (tc fit (cel fit p fr) i j) p.turn]:=by
 rw[cel];rfl
end CE
namespace L3
open PySem L2
def zbF(P:List Str)(T:List Nat)(i j:Nat):Bool:=inS (mkS [T.getD j 0]) (P.getD i (mkS []))
end L3
namespace CE
open PySem L2 L3
def zkg:∀{ns:List Int} {m:Int},minI ns=aa m->m∈ns
 |[],m,h=>by cases h
 |n::ns,m,h=>by
  have h':ns.foldl (λa b=>if b<a then b else a) n=m:=aR h;have key:∀(ns:List Int) (n:Int),ns.foldl (λa b=>if b<a then b else a) n=n\/ns.foldl (λa b=>if b<a then b else a) n∈ns:=by
   intro ns
   induction ns with
   |nil=>intro n;left;rfl
   |cons b ns ih=>
    intro n;rw[dU];rcases ih (if b<n then b else n)with q|q
    ·rw[q];split
     ·right;exact ax
     ·left;rfl
    ·right;exact aq _ q
  rcases key ns n with q|q
  ·rw[<- h',q];exact ax
  ·rw[<- h'];exact aq _ q
def minI_le:∀{ns:List Int} {c:Int},c∈ns->∃m,minI ns=aa m/\m<=c
 |[],c,h=>by cases h
 |n::ns,c,h=>by
  refine⟨_,rfl,?_⟩;have key:∀(ns:List Int) (n:Int),ns.foldl (λa b=>if b<a then b else a) n<=n/\∀c∈ns,ns.foldl (λa b=>if b<a then b else a) n<=c:=by
   intro ns
   induction ns with
   |nil=>intro n;exact⟨iY _,by simp⟩
   |cons b ns ih=>
    intro n;rw[dU];obtain⟨h1,h2⟩:=ih (if b<n then b else n);have h3:(if b<n then b else n)<=n/\(if b<n then b else n)<=b:=by split <;> lia
    refine⟨by lia,λc hc=>?_⟩;rcases aF.mp hc with rfl|hc
    ·lia
    ·exact h2 c hc
  rcases aF.mp h with rfl|h
  ·exact(key ns _).1
  ·exact(key ns n).2 c h
def zg0{cs:List (Option Int)}{m:Int}(h:lw cs=aa m):aa m∈cs:=by
 have:=zkg h;obtain⟨x,h1,h2⟩:=dR.mp this;have:x=aa m:=h2;rw[<- this];exact h1
def zki{cs:List (Option Int)}{c:Int}(h:aa c∈cs):∃m,lw cs=aa m/\m<=c:=minI_le (dR.mpr ⟨aa c,h,rfl⟩)
def zbw{c:Option Int}{q m:Int}(h:stp c q=aa m):q≠0/\∃a,c=aa a/\m=a+q:=by
 unfold stp at h;split at h
 ·cases h
 ·rename_i hq;cases c with
  |none=>cases h
  |some a=>exact⟨hq,a,rfl,(aR h).symm⟩
def zgV{a q:Int}(hq:q≠0):stp (aa a) q=aa (a+q):=by unfold stp;rw[if_neg hq];rfl
inductive Ld(fit:Nat->Nat->Bool)(p:Pr)(fr:Bool):Nat->Nat->Int->Prop
 |nil:Ld fit p fr 0 0 0
 |free {j:Nat}:fr=true->Ld fit p fr 0 j 0
 |same {i j:Nat} {c:Int}:Ld fit p fr i j c->fit i j=true->Ld fit p fr (i+1) (j+1) c
 |exch {i j:Nat} {c:Int}:Ld fit p fr i j c->fit i j=false->p.exch≠0->Ld fit p fr (i+1) (j+1) (c+p.exch)
 |put {i j:Nat} {c:Int}:Ld fit p fr i j c->p.put≠0->Ld fit p fr i (j+1) (c+p.put)
 |left {i j:Nat} {c:Int}:Ld fit p fr i j c->p.left≠0->Ld fit p fr (i+1) j (c+p.left)
 |turn {i j:Nat} {c:Int}:Ld fit p fr i j c->fit (i+1) j=true->fit i (j+1)=true->p.turn≠0->Ld fit p fr (i+2) (j+2) (c+p.turn)
structure Pr.Ok(p:Pr):Prop where
 put:0<=p.put
 left:0<=p.left
 exch:0<=p.exch
 turn:0<=p.turn
variable {fit:Nat->Nat->Bool}{p:Pr}{fr:Bool}
def Ld.nonneg(hp:p.Ok){i j:Nat}{c:Int}(h:Ld fit p fr i j c):0<=c:=by
 have:=hp.put;have:=hp.left;have:=hp.exch;have:=hp.turn
 induction h <;> lia
def cel_ld:∀(n i j:Nat),i+j=n->∀m,cel fit p fr i j=aa m->Ld fit p fr i j m:=by
 intro n
 induction n using Nat.strongRecOn with
 | _ n ih=>
  intro i j hn m h;cases i with
  |zero=>
   cases j with
   |zero=>rw[zir]at h;cases h;exact .nil
   |succ j=>
    rw[zh9]at h;split at h
    ·rename_i hf;cases h;exact .free hf
    ·obtain⟨hq,a,e1,rfl⟩:=zbw h;exact .put (ih j (by lia) 0 j (by lia) a e1) hq
  |succ i=>
   cases j with
   |zero=>
    rw[zj4]at h;obtain⟨hq,a,e1,rfl⟩:=zbw h;exact .left (ih i (by lia) i 0 (by lia) a e1) hq
   |succ j=>
    rw[zfz]at h;have hm:=zg0 h;simp only[aF,bI,or_false]at hm;rcases hm with hm|hm|hm|hm
    ·by_cases hf:fit i j=true
     ·rw[if_pos hf]at hm;exact .same (ih (i+j) (by lia) i j rfl m hm.symm) hf
     ·rw[if_neg hf]at hm;obtain⟨hq,a,e1,rfl⟩:=zbw hm.symm;exact .exch (ih (i+j) (by lia) i j rfl a e1) (by simpa using hf) hq
    ·obtain⟨hq,a,e1,rfl⟩:=zbw hm.symm;exact .put (ih (i+1+j) (by lia) (i+1) j rfl a e1) hq
    ·obtain⟨hq,a,e1,rfl⟩:=zbw hm.symm;exact .left (ih (i+(j+1)) (by lia) i (j+1) rfl a e1) hq
    ·obtain⟨hq,a,e1,rfl⟩:=zbw hm.symm;unfold tc at e1;split at e1
     ·rename_i hij;split at e1
      ·rename_i hf;rw[cc]at hf;obtain⟨i',rfl⟩:∃i',i=i'+1:=⟨i-1,by lia⟩;obtain⟨j',rfl⟩:∃j',j=j'+1:=⟨j-1,by lia⟩;simp only[gQ]at e1 hf;exact .turn (ih (i'+j') (by lia) i' j' rfl a e1) hf.1 hf.2 hq
      ·cases e1
     ·cases e1
def ld_cel(hp:p.Ok){i j:Nat}{c:Int}(h:Ld fit p fr i j c):∃m,cel fit p fr i j=aa m/\m<=c:=by
 have q1:=hp.put;have q2:=hp.left;have q3:=hp.exch;have q4:=hp.turn
 induction h with
 |nil=>exact⟨0,zir ..,iY _⟩
 |@free j hf=>
  cases j with
  |zero=>exact⟨0,zir ..,iY _⟩
  |succ j=>exact⟨0,by rw[zh9,if_pos hf],iY _⟩
 |@same i j c h hf ih=>
  obtain⟨m,e,hm⟩:=ih;obtain⟨m',e',hm'⟩:=zki (cs:=[if fit i j=true then cel fit p fr i j else stp (cel fit p fr i j) p.exch,stp (cel fit p fr (i+1) j) p.put,stp (cel fit p fr i (j+1)) p.left,stp (tc fit (cel fit p fr) i j) p.turn]) (c:=m) (by rw[if_pos hf,e];simp);exact⟨m',by rw[zfz];exact e',by lia⟩
 |@exch i j c h hf hq ih=>
  obtain⟨m,e,hm⟩:=ih;obtain⟨m',e',hm'⟩:=zki (cs:=[if fit i j=true then cel fit p fr i j else stp (cel fit p fr i j) p.exch,stp (cel fit p fr (i+1) j) p.put,stp (cel fit p fr i (j+1)) p.left,stp (tc fit (cel fit p fr) i j) p.turn]) (c:=m+p.exch) (by rw[if_neg (by rw[hf];decide),e,zgV hq];simp);exact⟨m',by rw[zfz];exact e',by lia⟩
 |@put i j c h hq ih=>
  obtain⟨m,e,hm⟩:=ih;cases i with
  |zero=>
   rw[zh9];cases fr with
   |true=>
    have:=Ld.nonneg hp h;exact⟨0,rfl,by lia⟩
   |false=>exact⟨m+p.put,by rw[if_neg (by decide),e,zgV hq],by lia⟩
  |succ i=>
   obtain⟨m',e',hm'⟩:=zki (cs:=[if fit i j=true then cel fit p fr i j else stp (cel fit p fr i j) p.exch,stp (cel fit p fr (i+1) j) p.put,stp (cel fit p fr i (j+1)) p.left,stp (tc fit (cel fit p fr) i j) p.turn]) (c:=m+p.put) (by rw[e,zgV hq];simp);exact⟨m',by rw[zfz];exact e',by lia⟩
 |@left i j c h hq ih=>
  obtain⟨m,e,hm⟩:=ih;cases j with
  |zero=>exact⟨m+p.left,by rw[zj4,e,zgV hq],by lia⟩
  |succ j=>
   obtain⟨m',e',hm'⟩:=zki (cs:=[if fit i j=true then cel fit p fr i j else stp (cel fit p fr i j) p.exch,stp (cel fit p fr (i+1) j) p.put,stp (cel fit p fr i (j+1)) p.left,stp (tc fit (cel fit p fr) i j) p.turn]) (c:=m+p.left) (by rw[e,zgV hq];simp);exact⟨m',by rw[zfz];exact e',by lia⟩
 |@turn i j c h hf1 hf2 hq ih=>
  obtain⟨m,e,hm⟩:=ih;have ht:tc fit (cel fit p fr) (i+1) (j+1)=aa m:=by
   unfold tc;rw[if_pos ⟨by lia,by lia⟩,gQ,gQ,hf1,hf2];exact e
  obtain⟨m',e',hm'⟩:=zki (cs:=[if fit (i+1) (j+1)=true then cel fit p fr (i+1) (j+1)else stp (cel fit p fr (i+1) (j+1)) p.exch,stp (cel fit p fr (i+1+1) (j+1)) p.put,stp (cel fit p fr (i+1) (j+1+1)) p.left,stp (tc fit (cel fit p fr) (i+1) (j+1)) p.turn]) (c:=m+p.turn) (by rw[ht,zgV hq];simp);exact⟨m',by rw[zfz];exact e',by lia⟩
def zdB(hp:p.Ok){i j:Nat}{m:Int}(h:cel fit p fr i j=aa m):Ld fit p fr i j m/\∀c,Ld fit p fr i j c->m<=c:=
 ⟨cel_ld _ i j rfl m h,λc hc=>by obtain⟨m',e,hm⟩:=ld_cel hp hc;rw[h]at e;cases e;exact hm⟩
def zhp(hp:p.Ok){i j:Nat}(h:cel fit p fr i j=ab):∀c,¬ Ld fit p fr i j c:=λc hc=>by
 obtain⟨m',e,_⟩:=ld_cel hp hc;rw[h]at e;cases e
end CE
namespace CE
open PySem L2 L3
def wP(w:List Nat):List Str:=w.map λc=>mkS [c]
def wd(p:Pr)(w t:List Nat):Option Int:=cel (zbF (wP w) t) p false w.length t.length
end CE
namespace CE
open PySem L2 L3
end CE
namespace PT
open PySem L2 L3
def inS_1(c:Nat)(z:Str):inS (mkS [c]) z=decide (c∈z.cps.toList):=StrLaws.found_one z c
def lets:List Nat:=(au 26).map λi=>97+i
def mem_lets{c:Nat}:c∈lets ↔ 97<=c/\c<=122:=by
 unfold lets;simp only[bY,c8];constructor
 ·rintro⟨a,h,rfl⟩;lia
 ·intro h;exact⟨c-97,by lia,by lia⟩
structure Cls(w:List Nat):Prop where
 ne:w≠[]
 lo:∀c∈w,97<=c/\c<=122
 up:w.Pairwise (·<·)
def Cls.len{w:List Nat}(h:Cls w):w.length<=26:=by
 have nd:w.Nodup:=h.up.imp (λh=>aL h);have:∀(n:Nat) (l:List Nat) (b:Nat),l.Pairwise (·<·)->(∀c∈l,b<=c/\c<b+n)->l.length<=n:=by
  intro n
  induction n with
  |zero=>
   intro l b _ hl;cases l with
   |nil=>simp
   |cons c l=>have:=hl c ax;lia
  |succ n ih=>
   intro l b hp hl;cases l with
   |nil=>simp
   |cons c l=>
    have:=ih l (b+1) (db hp) (λd hd=>by
     have h1:=cx hp hd;have h2:=hl c ax;have h3:=hl d (aq _ hd);lia)
    simp only[aJ];lia
 exact this 26 w 97 h.up λc hc=>by have:=h.lo c hc;lia
def wr(w:List Nat):List Nat:=if w=lets then [46]else if w.length=1 then w else 91::(w++[93])
def wr_len{w:List Nat}(h:Cls w):(wr w).length<=28:=by
 have:=h.len;unfold wr;split
 ·simp
 ·split
  ·lia
  ·simp;lia
def wr_pos{w:List Nat}(h:Cls w):0<(wr w).length:=by
 unfold wr;split
 ·simp
 ·split
  ·lia
  ·simp
def occ_first(s sub:Str)(hi:Nat)(n:Nat):∀(k lo free:Nat),free<=lo->k<n->(∀i,lo<=i->i<lo+k->¬ (i+sub.length<=hi/\hV s sub i=true))->(lo+k+sub.length<=hi/\hV s sub (lo+k)=true) ->
  (forIn (cJ lo n) ((#[]:Array Nat),free) (dm s sub hi 1)).run.fst=#[lo+k]:=by
 have full:∀(l:List Nat) (x free:Nat),(forIn l ((#[x]:Array Nat),free) (dm s sub hi 1)).run.fst=#[x]:=by
  intro l
  induction l with
  |nil=>intro x free;rfl
  |cons a l ih=>
   intro x free;rw[dS];have:dm s sub hi 1 a ((#[x]:Array Nat),free)=pure (dy ((#[x]:Array Nat),free)):=by
    unfold dm;rw[if_neg (λh=>absurd h.1.1.1 (by simp))]
   rw[this];exact ih x free
 induction n with
 |zero=>intro k lo free _ h;lia
 |succ n ih=>
  intro k lo free hf hk hno hyes;rw[fU,dS];cases k with
  |zero=>
   have:dm s sub hi 1 lo ((#[]:Array Nat),free)=pure (dy ((#[lo]:Array Nat),lo+sub.length)):=by
    unfold dm;rw[if_pos ⟨⟨⟨by simp,hf⟩,hyes.1⟩,hyes.2⟩];rfl
   rw[this];exact full _ _ _
  |succ k=>
   have:dm s sub hi 1 lo ((#[]:Array Nat),free)=pure (dy ((#[]:Array Nat),free)):=by
    unfold dm;rw[if_neg (λh=>hno lo (am _) (by lia) ⟨h.1.2,h.2⟩)]
   rw[this];have:=ih k (lo+1) free (by lia) (by lia) (λi h1 h2=>hno i (by lia) (by lia)) (by rw[show lo+1+k=lo+(k+1) by lia];exact hyes);rw[show lo+1+k=lo+(k+1) by lia]at this;exact this
def find_at(pre mid post:List Nat)(c:Nat)(h:c∉mid):gN (mkS (pre++(mid++c::post))) (mkS [c]) (pre.length:Int)=((pre.length+mid.length:Nat):Int):=by
 have hl:(mkS (pre++(mid++c::post))).length=pre.length+(mid.length+(post.length+1)):=by rw[zau];simp
 have hfi:fromIndex (mkS (pre++(mid++c::post))).length (pre.length:Int)=pre.length:=by
  unfold fromIndex;rw[if_neg (by lia)];lia
 have at1:∀i,(i+(mkS [c]).length<=(mkS (pre++(mid++c::post))).length/\hV (mkS (pre++(mid++c::post))) (mkS [c]) i=true) ↔ (pre++(mid++c::post))[i]? =aa c:=by
  intro i;have:=StrLaws.subAt_one (mkS (pre++(mid++c::post))) c i;rw[zaY]at this;exact this
 have key:=occ_first (mkS (pre++(mid++c::post))) (mkS [c]) (mkS (pre++(mid++c::post))).length ((mkS (pre++(mid++c::post))).length+1-pre.length) mid.length pre.length pre.length (am _) (by lia)
  (λi h1 h2 hh=>by
   have e:=(at1 i).mp hh;rw[bL h1,bO (by lia)]at e;exact h (bR e))
  ((at1 _).mpr (by rw[bL (by lia),bL (by lia)];simp))
 unfold gN;rw[hfi,StrLaws.occ_eq,key]
def zjD(x:List Nat)(g:List Nat)(lo hi:Nat)(h1:(x.takeWhile λc=>decide (c∈g)).length=lo)(h2:x.length-((x.drop lo).reverse.takeWhile λc=>decide (c∈g)).length=hi):dI (mkS x) (mkS g)=mkS ((x.take hi).drop lo):=by
 have eg:(mkS g).cps.contains=λc=>decide (c∈g):=by
  funext c;simp[mkS]
 have e1:stripLo (λc=>decide (c∈g)) true (mkS x)=lo:=by
  unfold stripLo;rw[if_pos rfl,zaY,h1]
 have e2:stripHi (λc=>decide (c∈g)) true (mkS x) lo=hi:=by
  unfold stripHi;rw[if_pos rfl,zaY,zau,h2]
 unfold dI;rw[lh,eg,e1,e2];unfold lU mkS;congr 1;apply jT.mp;simp[cU,List.extract];rw[List.drop_take]
def ziM{p:Nat->Bool}{l:List Nat}(h:∀c∈l,p c=false):l.takeWhile p=[]:=by
 cases l with
 |nil=>rfl
 |cons c l=>rw[eP,h c ax];rfl
def ziO(w g:List Nat)(h:∀c∈w,c∉g):dI (mkS w) (mkS g)=mkS w:=by
 have hp:∀c∈w,(λc=>decide (c∈g)) c=false:=λc hc=>by simp[h c hc]
 rw[zjD w g 0 w.length (by rw[ziM hp];rfl) (by rw[fD,ziM (λc hc=>hp c (iA.mp hc))];simp)];simp
def strip_br(w:List Nat)(hne:w≠[])(h:∀c∈w,c∉[91,93]):dI (mkS (91::(w++[93]))) (mkS [91,93])=mkS w:=by
 have hp:∀c∈w,(λc=>decide (c∈[91,93])) c=false:=λc hc=>by have:=h c hc;simp at this ⊢;exact this
 obtain⟨a,r,rfl⟩:=List.exists_cons_of_ne_nil hne;have ha:decide (a∈[91,93])=false:=hp a ax;rw[zjD (91::(a::r++[93])) [91,93] 1 ((a::r).length+1)]
 ·simp
 ·rw[eP,if_pos (by decide),jU,eP,ha];rfl
 ·have e:(List.drop 1 (91::(a::r++[93]))).reverse=93::(a::r).reverse:=by simp
  rw[e,eP,if_pos (by decide),ziM (λc hc=>hp c (iA.mp hc))];simp
def ddp_nd{zs:List Str}(h:zs.Nodup):TS.ddp zs=zs:=by
 have:∀(l acc:List Str),(acc++l).Nodup->l.foldl TS.put acc=acc++l:=by
  intro l
  induction l with
  |nil=>intro acc _;simp
  |cons z l ih=>
   intro acc hn;have hz:z∉acc:=λhm=>by
    rw[bP]at hn;exact hn.2.2 z hm z ax rfl
   rw[dU,TS.put,if_neg hz,ih _ (by simpa using hn)];simp
 exact this zs [] (by simpa using h)
def le_one{a b:Nat}(h:a<b):TS.le (mkS [a]) (mkS [b]):=by
 unfold TS.le;rw[zaY,zaY];simp[Spec.ltCps];lia
def zkj{w:List Nat}(h:w.Pairwise (·<·))(hl:w.length<64):ssO ((mkS w).cps.toList.map λc=>(⟨#[c]⟩:Str))=aa (.own (w.map λc=>.str (mkS [c]))):=by
 have e:(mkS w).cps.toList.map (λc=>(⟨#[c]⟩:Str))=w.map λc=>mkS [c]:=by rw[zaY];rfl
 have hp:(w.map λc=>mkS [c]).Pairwise TS.le:=by
  rw[fN];exact h.imp λh=>le_one h
 have nd:(w.map λc=>mkS [c]).Nodup:=by
  unfold List.Nodup;rw[fN];refine h.imp fun {a b} h q=>?_;have:=zfp q;simp at this;lia
 rw[e];unfold ssO;rw[ddp_nd nd,TS.srt_eq hp (ke _),zhx ⟨by rw[aw];lia,by rw[aw];exact hl⟩,bN];rfl
def zgn{f:D->D->Option Bool}:∀{ds:List D},(∀d∈ds,f d d=aa true)->zgA f ds ds=aa true
 |[],_=>rfl
 |d::ds,h=>by
  rw[zgA,h d ax,zgn λd hd=>h d (aq _ hd)];rfl
def eqS_same(w:List Nat):zgA (eqD 8) (w.map λc=>D.str (mkS [c])) (w.map λc=>D.str (mkS [c]))=aa true:=by
 refine zgn λd hd=>?_;obtain⟨c,_,rfl⟩:=bY.mp hd;simp[eqD,flD,eqF]
end PT
namespace CE
open PySem L2 L3
section
variable (fit:Nat->Nat->Bool)(p:Pr)
inductive St1:Nat->Nat->Nat->Nat->Int->Prop
 |same {i j:Nat}:fit i j=true->St1 i j (i+1) (j+1) 0
 |exch {i j:Nat}:fit i j=false->p.exch≠0->St1 i j (i+1) (j+1) p.exch
 |put {i j:Nat}:p.put≠0->St1 i j i (j+1) p.put
 |left {i j:Nat}:p.left≠0->St1 i j (i+1) j p.left
 |turn {i j:Nat}:fit (i+1) j=true->fit i (j+1)=true->p.turn≠0->St1 i j (i+2) (j+2) p.turn
inductive Sg(a b:Nat):Nat->Nat->Int->Prop
 |nil:Sg a b a b 0
 |snoc {i j i' j':Nat} {c q:Int}:Sg a b i j c->St1 fit p i j i' j' q->Sg a b i' j' (c+q)
end
variable {fit fit':Nat->Nat->Bool}{p:Pr}
def St1.le{i j i' j':Nat}{q:Int}(h:St1 fit p i j i' j' q):i<=i'/\j<=j':=by cases h <;> lia
def Sg.le{a b i j:Nat}{c:Int}(h:Sg fit p a b i j c):a<=i/\b<=j:=by
 induction h with
 |nil=>lia
 |snoc _ s ih=>have:=s.le;lia
def Sg.cons{a b a' b' i j:Nat}{q c:Int}(s:St1 fit p a b a' b' q)(h:Sg fit p a' b' i j c):Sg fit p a b i j (c+q):=by
 induction h with
 |nil=>have:=Sg.snoc (.nil (a:=a) (b:=b)) s;rwa [Int.zero_add]at this ⊢
 |snoc _ s' ih=>have:=Sg.snoc ih s';rwa [Int.add_right_comm]at this
def Ld.sg{i j:Nat}{c:Int}(h:Ld fit p false i j c):Sg fit p 0 0 i j c:=by
 induction h with
 |nil=>exact .nil
 |free h=>cases h
 |same _ h ih=>have:=Sg.snoc ih (.same h);rwa [jB]at this
 |exch _ h q ih=>exact .snoc ih (.exch h q)
 |put _ q ih=>exact .snoc ih (.put q)
 |left _ q ih=>exact .snoc ih (.left q)
 |turn _ h1 h2 q ih=>exact .snoc ih (.turn h1 h2 q)
def Ld.step{fr:Bool}{i j i' j':Nat}{c q:Int}(h:Ld fit p fr i j c)(s:St1 fit p i j i' j' q):Ld fit p fr i' j' (c+q):=by
 cases s with
 |same e=>rw[jB];exact .same h e
 |exch e q=>exact .exch h e q
 |put q=>exact .put h q
 |left q=>exact .left h q
 |turn e1 e2 q=>exact .turn h e1 e2 q
def Sg.ld{i j:Nat}{c:Int}(h:Sg fit p 0 0 i j c):Ld fit p false i j c:=by
 induction h with
 |nil=>exact .nil
 |snoc _ s ih=>exact ih.step s
def Sg.ldF{b i j:Nat}{c:Int}(h:Sg fit p 0 b i j c):Ld fit p true i j c:=by
 induction h with
 |nil=>exact .free rfl
 |snoc _ s ih=>exact ih.step s
def Ld.sgF{i j:Nat}{c:Int}(h:Ld fit p true i j c):∃b,b<=j/\Sg fit p 0 b i j c:=by
 induction h with
 |nil=>exact⟨0,am _,.nil⟩
 |@free j _=>exact⟨j,am _,.nil⟩
 |same _ h ih=>
  obtain⟨b,hb,s⟩:=ih;have:=Sg.snoc s (.same h);rw[jB]at this;exact⟨b,by lia,this⟩
 |exch _ h q ih=>obtain⟨b,hb,s⟩:=ih;exact⟨b,by lia,.snoc s (.exch h q)⟩
 |put _ q ih=>obtain⟨b,hb,s⟩:=ih;exact⟨b,by lia,.snoc s (.put q)⟩
 |left _ q ih=>obtain⟨b,hb,s⟩:=ih;exact⟨b,by lia,.snoc s (.left q)⟩
 |turn _ h1 h2 q ih=>obtain⟨b,hb,s⟩:=ih;exact⟨b,by lia,.snoc s (.turn h1 h2 q)⟩
def St1.rev{m e i j i' j':Nat}{q:Int}(hf:∀x y,x<m->y<e->fit' x y=fit (m-1-x) (e-1-y))(hm:i'<=m)(he:j'<=e)(h:St1 fit p i j i' j' q):St1 fit' p (m-i') (e-j') (m-i) (e-j) q:=by
 cases h with
 |same h=>
  rw[show m-i=m-(i+1)+1 by lia,show e-j=e-(j+1)+1 by lia];exact .same (by rw[hf _ _ (by lia) (by lia),show m-1-(m-(i+1))=i by lia,show e-1-(e-(j+1))=j by lia];exact h)
 |exch h q=>
  rw[show m-i=m-(i+1)+1 by lia,show e-j=e-(j+1)+1 by lia];exact .exch (by rw[hf _ _ (by lia) (by lia),show m-1-(m-(i+1))=i by lia,show e-1-(e-(j+1))=j by lia];exact h) q
 |put q=>
  rw[show e-j=e-(j+1)+1 by lia];exact .put q
 |left q=>
  rw[show m-i=m-(i+1)+1 by lia];exact .left q
 |turn h1 h2 q=>
  rw[show m-i=m-(i+2)+2 by lia,show e-j=e-(j+2)+2 by lia];refine .turn ?_ ?_ q
  ·rw[hf _ _ (by lia) (by lia),show m-1-(m-(i+2)+1)=i by lia,show e-1-(e-(j+2))=j+1 by lia];exact h2
  ·rw[hf _ _ (by lia) (by lia),show m-1-(m-(i+2))=i+1 by lia,show e-1-(e-(j+2)+1)=j by lia];exact h1
def Sg.rev{m e a b i j:Nat}{c:Int}(hf:∀x y,x<m->y<e->fit' x y=fit (m-1-x) (e-1-y))(h:Sg fit p a b i j c):i<=m->j<=e->Sg fit' p (m-i) (e-j) (m-a) (e-b) c:=by
 induction h with
 |nil=>intro _ _;exact .nil
 |snoc _ s ih=>
  intro hm he;have:=s.le;exact Sg.cons (s.rev hf hm he) (ih (by lia) (by lia))
def St1.shift{b0 m l i j i' j':Nat}{q:Int}(hf:∀x y,x<m->y<l->fit' x y=fit x (b0+y))(hm:i'<=m)(he:j'<=b0+l)(hb:b0<=j)(h:St1 fit p i j i' j' q):St1 fit' p i (j-b0) i' (j'-b0) q:=by
 cases h with
 |same h=>
  rw[show j+1-b0=j-b0+1 by lia];exact .same (by rw[hf _ _ (by lia) (by lia),show b0+(j-b0)=j by lia];exact h)
 |exch h q=>
  rw[show j+1-b0=j-b0+1 by lia];exact .exch (by rw[hf _ _ (by lia) (by lia),show b0+(j-b0)=j by lia];exact h) q
 |put q=>rw[show j+1-b0=j-b0+1 by lia];exact .put q
 |left q=>exact .left q
 |turn h1 h2 q=>
  rw[show j+2-b0=j-b0+2 by lia];refine .turn ?_ ?_ q
  ·rw[hf _ _ (by lia) (by lia),show b0+(j-b0)=j by lia];exact h1
  ·rw[hf _ _ (by lia) (by lia),show b0+(j-b0+1)=j+1 by lia];exact h2
def Sg.shift{b0 m l a b i j:Nat}{c:Int}(hf:∀x y,x<m->y<l->fit' x y=fit x (b0+y))(h:Sg fit p a b i j c):i<=m->j<=b0+l->b0<=b->Sg fit' p a (b-b0) i (j-b0) c:=by
 induction h with
 |nil=>intro _ _ _;exact .nil
 |snoc g s ih=>
  intro hm he hb;have:=s.le;have:=g.le;exact .snoc (ih (by lia) (by lia) hb) (s.shift hf hm he (by lia))
def St1.back{b0 m l i j i' j':Nat}{q:Int}(hf:∀x y,x<m->y<l->fit' x y=fit x (b0+y))(hm:i'<=m)(he:j'<=l)(h:St1 fit' p i j i' j' q):St1 fit p i (b0+j) i' (b0+j') q:=by
 cases h with
 |same h=>exact .same (by rw[<- hf _ _ (by lia) (by lia)];exact h)
 |exch h q=>exact .exch (by rw[<- hf _ _ (by lia) (by lia)];exact h) q
 |put q=>exact .put q
 |left q=>exact .left q
 |turn h1 h2 q=>exact .turn (by rw[<- hf _ _ (by lia) (by lia)];exact h1) (by rw[Nat.add_assoc,<- hf _ _ (by lia) (by lia)];exact h2) q
def Sg.back{b0 m l a b i j:Nat}{c:Int}(hf:∀x y,x<m->y<l->fit' x y=fit x (b0+y))(h:Sg fit' p a b i j c):i<=m->j<=l->Sg fit p a (b0+b) i (b0+j) c:=by
 induction h with
 |nil=>intro _ _;exact .nil
 |snoc _ s ih=>
  intro hm he;have:=s.le;exact .snoc (ih (by lia) (by lia)) (s.back hf hm he)
def cel_same(hp:p.Ok){i j i' j':Nat}{fr fr':Bool}(h:∀c,Ld fit p fr i j c ↔ Ld fit' p fr' i' j' c):cel fit p fr i j=cel fit' p fr' i' j':=by
 cases h1:cel fit p fr i j with
 |none=>
  cases h2:cel fit' p fr' i' j' with
  |none=>rfl
  |some y=>exact absurd ((h y).mpr (zdB hp h2).1) (zhp hp h1 y)
 |some x=>
  cases h2:cel fit' p fr' i' j' with
  |none=>exact absurd ((h x).mp (zdB hp h1).1) (zhp hp h2 x)
  |some y=>
   have a:=(zdB hp h1).2 y ((h y).mpr (zdB hp h2).1);have b:=(zdB hp h2).2 x ((h x).mp (zdB hp h1).1);rw[show x=y by lia]
def rev_cel{fitR fitS:Nat->Nat->Bool}{m e l:Nat}(hp:p.Ok)(hl:l<=e)(hR:∀x y,x<m->y<e->fitR x y=fit (m-1-x) (e-1-y))(hS:∀x y,x<m->y<l->fitS x y=fit x (e-l+y)):cel fitR p false m l=cel fitS p false m l:=by
 refine cel_same hp λc=>⟨λh=>?_,λh=>?_⟩
 ·have g:=h.sg.rev (fit':=fit) (m:=m) (e:=e) (λx y hx hy=>by rw[hR _ _ (by lia) (by lia),show m-1-(m-1-x)=x by lia,show e-1-(e-1-y)=y by lia]) (am _) hl;rw[dw,du,du]at g;have g':=g.shift (fit':=fitS) (b0:=e-l) (m:=m) (l:=l) hS (am _) (by lia) (am _);rw[dw,show e-(e-l)=l by lia]at g';exact g'.ld
 ·have g:=h.sg.back (fit:=fit) (b0:=e-l) (m:=m) (l:=l) hS (am _) (am _);rw[gq,show e-l+l=e by lia]at g;have g':=g.rev (fit':=fitR) (m:=m) (e:=e) hR (am _) (am _);rw[dw,dw,du,show e-(e-l)=l by lia]at g';exact g'.ld
def free_cel{fitR:Nat->Nat->Bool}{m e:Nat}(hp:p.Ok)(hR:∀x y,x<m->y<e->fitR x y=fit (m-1-x) (e-1-y)):cel fit p true m e=lw ((au (e+1)).map λl=>cel fitR p false m l):=by
 have key:∀b,b<=e->∀c,Sg fit p 0 b m e c ↔ Ld fitR p false m (e-b) c:=λb hb c=>by
  constructor
  ·intro g;have g':=g.rev (fit':=fitR) (m:=m) (e:=e) hR (am _) (am _);rw[dw,dw,du]at g';exact g'.ld
  ·intro g;have g':=g.sg.rev (fit':=fit) (m:=m) (e:=e) (λx y hx hy=>by rw[hR _ _ (by lia) (by lia),show m-1-(m-1-x)=x by lia,show e-1-(e-1-y)=y by lia]) (am _) (by lia);rwa [dw,du,du,show e-(e-b)=b by lia]at g'
 cases h1:cel fit p true m e with
 |none=>
  cases h2:lw ((au (e+1)).map λl=>cel fitR p false m l)with
  |none=>rfl
  |some y=>
   obtain⟨l,hl,e2⟩:=bY.mp (zg0 h2);have hl':l<=e:=by have:=c8.mp hl;lia
   have g:=(key (e-l) (by lia) y).mpr (by rw[show e-(e-l)=l by lia];exact(zdB hp e2).1);exact absurd g.ldF (zhp hp h1 y)
 |some x=>
  obtain⟨b,hb,g⟩:=(zdB hp h1).1.sgF;obtain⟨y,e2,hy⟩:=ld_cel hp ((key b hb x).mp g);obtain⟨z,h2,hz⟩:=zki (cs:=(au (e+1)).map λl=>cel fitR p false m l) (c:=y) (bY.mpr ⟨e-b,c8.mpr (by lia),e2⟩);obtain⟨l,hl,e3⟩:=bY.mp (zg0 h2);have hl':l<=e:=by have:=c8.mp hl;lia
  have g3:=(key (e-l) (by lia) z).mpr (by rw[show e-(e-l)=l by lia];exact(zdB hp e3).1);have:=(zdB hp h1).2 z g3.ldF;rw[h2,show x=z by lia]
end CE
namespace L3
open PySem L2
def zgx{f g:FS}{δ δ':En}{e:Ent}(h:f δ=aa (.rt e δ')):zah f g δ=aa (.rt e δ'):=by unfold zah;rw[h];rfl
def zep{fe:FE}{δ:En}{d:D}(h:fe δ=aa (.val d)):zaH fe δ=aa (.rt (.val d) δ):=by unfold zaH;rw[h];rfl
def eAndI{e f:FE}{δ:En}{a b:Bool}(h1:e δ=aa (.val (.bl a)))(h2:f δ=aa (.val (.bl b))):eAnd e f δ=aa (.val (.bl (a&&b))):=by
 cases a <;> simp only[eAnd,h1,jqa,bOf,h2,jqr,jrb,gC,jra,ko]
def zbT{i:Nat}{e:FE}{r:FS}{δ:En}{v:D}(h:e δ=aa (.val v)):zah (zaE i e) r δ=r (δ.set i (aa (.val v))):=by
 simp only[zah,zaE,h,cQ,sqO,stE,toN,eS]
def orNot{X Y:FE}{δ:En}{a b:Bool}(hX:X δ=aa (.val (.bl a)))(hY:Y δ=aa (.val (.bl b))):fOr (zgR (tOf X)) (zgR (tOf Y)) δ=aa (!(a&&b)):=by
 cases a <;> simp only[fOr,zgR,tOf,hX,jqa,bOf,jqc,jqu,hY,jra,gC,jqt,jqr,jrb,ko]
def orNeg{X Y:FE}{δ:En}{a b:Int}(hX:X δ=aa (.val (.int a)))(hY:Y δ=aa (.val (.int b))):fOr (tOf (ex2 gLt X (eC (.int 0)))) (tOf (ex2 gLt Y (eC (.int 0)))) δ=aa (decide (a<0\/b<0)):=by
 by_cases c1:a<0
 ·simp only[fOr,tOf,ex2,hX,eC,gLt,pI0,iOf,jqa,jqc,c1,jqy,bOf,jra,jrd]
 ·by_cases c2:b<0 <;> simp only[fOr,tOf,ex2,hX,eC,gLt,pI0,iOf,jqa,jqc,c1,jqz,bOf,hY,c2,jqy,jqr,jrb,jrc,or_self]
def fSetI{i:Nat}{e:FE}{δ:En}{v:D}(h:e δ=aa (.val v)):zaE i e δ=aa (.nx (δ.set i (aa (.val v)))):=by unfold zaE;rw[h];rfl
def lenT{E:FE}{δ:En}{ds:List D}{n:Nat}(h:E δ=aa (.val (.tup ds)))(hn:ds.length=n):eCB zbk (zaa E zae) δ=aa (.val (.int (n:Int))):=by subst hn;simp only[eCB,zaa,h,zae,jqc,jqa,zbk,zcJ]
def lenZ{E:FE}{δ:En}{z:Str}{n:Nat}(h:E δ=aa (.val (.str z)))(hn:z.length=n)(hl:n<=1000000):eCB zdf (zaa E zae) δ=aa (.val (.int (n:Int))):=by subst hn;simp only[eCB,zaa,h,zae,jqc,jqa,zdf,sOf,hl,zao,zaf]
def forN{it:FI}{tg:FG}{f r:FS}{δ δ':En}{ds:List D}(h:it δ=aa ds)(hl:loop tg f ds δ=aa (.nx δ')):zah (zd4 it tg f) r δ=r δ':=zbY (by unfold zd4;rw[h];exact hl)
def subI{E F:FE}{δ:En}{a b:Int}(h1:E δ=aa (.val (.int a)))(h2:F δ=aa (.val (.int b))):ex2 zhI E F δ=aa (.val (.int (a-b))):=by simp only[ex2,h1,h2,zhI,pI0,iOf,jqa,jqc]
def fAppI{i:Nat}{e:FE}{δ:En}{ds:List D}{v:D}(h0:δ[i]? =aa (aa (.own ds)))(h:e δ=aa (.val v))(hl:ds.length<1000000):zhw i e δ=aa (.nx (δ.set i (aa (.own (ds++[v]))))):=by
 unfold zhw;rw[h0,h];simp (disch:=omega) only[jqa,asV,zao,zaf]
def orGt{X Y:FE}{δ:En}{a b:Int}(hX:X δ=aa (.val (.int a)))(hY:Y δ=aa (.val (.int b))):fOr (tOf (ex2 gGt X (eC (.int 0)))) (tOf (ex2 gGt Y (eC (.int 0)))) δ=aa (decide (a > 0\/b > 0)):=by
 by_cases c1:a > 0
 ·simp only[fOr,tOf,ex2,hX,eC,gGt,pI0,iOf,jqa,jqc,c1,jqy,bOf,jra,jrd]
 ·by_cases c2:b > 0 <;> simp only[fOr,tOf,ex2,hX,eC,gGt,pI0,iOf,jqa,jqc,c1,jqz,bOf,hY,c2,jqy,jqr,jrb,jrc,or_self]
def modI{E F:FE}{δ:En}{a b:Int}(h1:E δ=aa (.val (.int a)))(h2:F δ=aa (.val (.int b)))(hb:0<b):ex2 zc2 E F δ=aa (.val (.int (a%b))):=by simp (disch:=omega) only[ex2,h1,h2,zc2,pI,iOf,jqa,zaN,zaf]
def divI{E F:FE}{δ:En}{a b:Int}(h1:E δ=aa (.val (.int a)))(h2:F δ=aa (.val (.int b)))(hb:0<b/\b<1000000):ex2 zeF E F δ=aa (.val (.int (a / b))):=by simp (disch:=omega) only[ex2,h1,h2,zeF,pI,iOf,jqa,zca,zaf]
def eqTT{E F:FE}{δ:En}{a b:Int}(h1:E δ=aa (.val (.int a)))(h2:F δ=aa (.val (.int b))):tOf (ex2 gEq E F) δ=aa (decide (a=b)):=by by_cases e:a=b <;> simp only[tOf,ex2,h1,e,h2,gEq,jqa,zaG,jqy,jqc,bOf,jqz]
def ixLB{E F:FE}{δ:En}{ds:List D}{a:Int}{v:D}(h1:E δ=aa (.bor ds))(h2:F δ=aa (.val (.int a)))(h:atI ds a=aa v):ex2 zdF E F δ=aa (.val v):=by simp only[ex2,h1,h2,zdF,asL,iOf,jqa,h,jqc]
def ixLO{E F:FE}{δ:En}{ds:List D}{a:Int}{v:D}(h1:E δ=aa (.own ds))(h2:F δ=aa (.val (.int a)))(h:atI ds a=aa v):ex2 zdF E F δ=aa (.val v):=by simp only[ex2,h1,h2,zdF,asL,iOf,jqa,h,jqc]
def orLt{X Y:FE}{δ:En}{a b c:Int}(hX:X δ=aa (.val (.int a)))(hY:Y δ=aa (.val (.int b))):fOr (tOf (ex2 gLt X (eC (.int c)))) (tOf (ex2 gLt Y (eC (.int c)))) δ=aa (decide (a<c\/b<c)):=by
 by_cases c1:a<c
 ·simp only[fOr,tOf,ex2,hX,eC,gLt,pI0,iOf,jqa,jqc,c1,jqy,bOf,jra,jrd]
 ·by_cases c2:b<c <;> simp only[fOr,tOf,ex2,hX,eC,gLt,pI0,iOf,jqa,jqc,c1,jqz,bOf,hY,c2,jqy,jqr,jrb,jrc,or_self]
def orB{X Y:FE}{δ:En}{a b:Bool}(hX:X δ=aa (.val (.bl a)))(hY:Y δ=aa (.val (.bl b))):fOr (tOf X) (tOf Y) δ=aa (a || b):=by
 cases a <;> simp only[fOr,tOf,hX,jqa,bOf,hY,jqr,jrb,Bool.false_or,jra,jC]
def ixTT{E F:FE}{δ:En}{ds:List D}{a:Int}{v:D}(h1:E δ=aa (.val (.tup ds)))(h2:F δ=aa (.val (.int a)))(h:atI ds a=aa v):ex2 zch E F δ=aa (.val v):=by simp only[ex2,h1,h2,zch,zcJ,iOf,jqa,h,jqc]
def ixSS{E F:FE}{δ:En}{tx:List Nat}{a:Int}{t:Nat}(h1:E δ=aa (.val (.str (mkS tx))))(hl:tx.length<=1000000)(h2:F δ=aa (.val (.int a)))(h:atI tx a=aa t):ex2 zhi E F δ=aa (.val (.str (mkS [t]))):=by simp only[ex2,h1,h2,zhi,sOf,iOf,jqa,zau,hl,zao,zaY,h,jqc,zaf]
def inSS{E F:FE}{δ:En}{z w:Str}(h1:E δ=aa (.val (.str z)))(h2:F δ=aa (.val (.str w))):ex2 gInS E F δ=aa (.val (.bl (inS z w))):=by simp only[ex2,h1,h2,gInS,sOf,jqa,jqc]
def niSS{E F:FE}{δ:En}{z w:Str}(h1:E δ=aa (.val (.str z)))(h2:F δ=aa (.val (.str w))):ex2 gNiS E F δ=aa (.val (.bl (!inS z w))):=by simp only[ex2,h1,h2,gNiS,sOf,jqa,jqc]
def low4{A B C E:FE}{δ:En}{a b c d:D}{g:List D->Option Ent}(hA:A δ=aa (.val a))(hB:B δ=aa (.val b))(hC:C δ=aa (.val c))(hE:E δ=aa (.val d)):zag [.v] g (zaa (zde (zaa A (zaa B (zaa C (zaa E zae))))) zae) δ=g [.lst [a,b,c,d]]:=by simp only[zag,zaa,zde,hA,hB,hC,hE,zae,jqc,jqa,jqp,jqq,Nat.reduceLeDiff,zd5,asV,jra,zaA,zbn]
def zkM{X Y:FE}{δ:En}{a b:D}{g:List D->Option Ent}(hX:X δ=aa (.val a))(hY:Y δ=aa (.val b)):zag [.v,.v] g (zaa X (zaa Y zae)) δ=g [a,b]:=by
 unfold zag zaa zae;rw[hX];simp only[cQ];rw[hY];rfl
def eIfI{A B C:FE}{δ:En}{q:Bool}{a b:D}(hA:A δ=aa (.val (.bl q)))(hB:B δ=aa (.val a))(hC:C δ=aa (.val b)):eIf (tOf A) B C δ=aa (.val (if q=true then a else b)):=by
 cases q <;> simp only[eIf,tOf,hA,jqa,bOf,hB,hC,jqr,jrb,jra]
def zks{i:Nat}{e:FE}{δ:En}{ds:List D}(h:e δ=aa (.own ds)):zaE i e δ=aa (.nx (δ.set i (aa (.own ds)))):=by unfold zaE;rw[h];rfl
def ixLW{E F:FE}{δ:En}{ds:List D}{a:Int}{v:D}(h1:E δ=aa (.vw ds))(h2:F δ=aa (.val (.int a)))(h:atI ds a=aa v):ex2 zdF E F δ=aa (.val v):=by simp only[ex2,h1,h2,zdF,asL,iOf,jqa,h,jqc]
def eLst1{E:FE}{δ:En}{v:D}(h:E δ=aa (.val v)):zde (zaa E zae) δ=aa (.own [v]):=by unfold zde zaa zae;rw[h];rfl
end L3

namespace N63
open PySem L2 L3 PyProof.Rows
noncomputable section
def zc6:FE:=
  (ex2 zch (zab 0) (zab 1))
def zet:FS:=
  (zaH (eCB zcF (zaa (eLC [1] (iB 0) zdD zc6) zae)))
def zdq:List D->Option Ent:=zbb [.b,.v] 0 zet
def zaI:FS:=
  (zah (fIf (fOr (tOf (ex2 gLt (zab 3) (eC (.int 2)))) (tOf (ex2 gLt (eCB zdf (zaa (zab 2) zae)) (eC (.int 2))))) (zaH (eC .non)) fNx)
   (zah (fIf (fOr (tOf (ex2 gNiS (ex2 zhi (zab 2) (ex1 zd8 (eC (.int 2)))) (ex2 zch (zab 1) (ex2 zhI (zab 3) (eC (.int 1)))))) (tOf (ex2 gNiS (ex2 zhi (zab 2) (ex1 zd8 (eC (.int 1)))) (ex2 zch (zab 1) (ex2 zhI (zab 3) (eC (.int 2))))))) (zaH (eC .non)) fNx)
   (zaH (ex2 zch (ex2 zdF (zab 0) (ex1 zd8 (eC (.int 2)))) (ex2 zhI (zab 3) (eC (.int 2)))))))
def za0:List D->Option Ent:=zbb [.b,.v,.v,.v] 0 zaI
def zem:FS:=
  (zah (fIf (fOr (tOf (ex2 zjQ (zab 0) (eC .non))) (tOf (ex2 gEq (zab 1) (eC (.int 0))))) (zaH (eC .non)) fNx)
   (zaH (ex2 zci (zab 0) (zab 1))))
def zbq:List D->Option Ent:=zbb [.v,.v] 0 zem
def zeL:FE:=
  (zab 0)
def zeO:FT:=
  (tOf (ex2 gNoN (zab 0) (eC .non)))
def zg5:FS:=
  (zaH (ex2 gMinD (eLC [] (qV (zab 0)) zeO zeL) (eC .non)))
def zdM:List D->Option Ent:=zbb [.v] 0 zg5
def zc9:FS:=
  (zah (fIf (fOr (tOf (ex2 gGt (ex2 zci (zab 2) (ex1 (zkP [("same",1),("exchanged",1),("put",0),("left",1),("turned",2)]) (zab 4))) (eCB zbk (zaa (zab 0) zae)))) (tOf (ex2 gGt (ex2 zci (zab 3) (ex1 (zkP [("same",1),("exchanged",1),("put",1),("left",0),("turned",2)]) (zab 4))) (eCB zdf (zaa (zab 1) zae))))) (zaH (eC (.bl false))) fNx)
   (zah (fIf (tOf (ex2 gEq (zab 4) (eC (.str "same")))) (zaH (ex2 gInS (ex2 zhi (zab 1) (zab 3)) (ex2 zch (zab 0) (zab 2)))) fNx)
   (zah (fIf (tOf (ex2 gEq (zab 4) (eC (.str "exchanged")))) (zaH (ex2 gNiS (ex2 zhi (zab 1) (zab 3)) (ex2 zch (zab 0) (zab 2)))) fNx)
   (zah (fIf (tOf (ex2 gEq (zab 4) (eC (.str "turned")))) (zaH (eAnd (ex2 gInS (ex2 zhi (zab 1) (zab 3)) (ex2 zch (zab 0) (ex2 zci (zab 2) (eC (.int 1))))) (ex2 gInS (ex2 zhi (zab 1) (ex2 zci (zab 3) (eC (.int 1)))) (ex2 zch (zab 0) (zab 2))))) fNx)
   (zaH (eC (.bl true)))))))
def zc8:List D->Option Ent:=zbb [.v,.v,.v,.v,.v] 0 zc9
def zfC:FS:=
  (zah (fIf (tOf (ex2 gEq (zab 1) (eC (.str "same")))) (zaH (eC (.int 0))) fNx)
   (zaH (ex2 zch (zab 0) (ex1 (zkP [("put",0),("left",1),("exchanged",2),("turned",3)]) (zab 1)))))
def zcA:List D->Option Ent:=zbb [.v,.v] 0 zfC
def zcD:FS:=
  (zah (fIf (tOf (ex2 gEq (zab 0) (eC (.str "abcdefghijklmnopqrstuvwxyz")))) (zaH (eC (.str "."))) fNx)
   (zah (fIf (tOf (ex2 gEq (eCB zdf (zaa (zab 0) zae)) (eC (.int 1)))) (zcU 0) fNx)
   (zaH (ex2 zeE (ex2 zeE (eC (.str "[")) (zab 0)) (eC (.str "]"))))))
def zbs:List D->Option Ent:=zbb [.v] 0 zcD
def zcz:FS:=
  (zah (fIf (tOf (ex2 gNe (ex2 zhi (zab 0) (zab 1)) (eC (.str "[")))) (zaH (ex2 zci (zab 1) (eC (.int 1)))) fNx)
   (zah (zaE 2 (eBM gFind (zab 0) (zaa (eC (.str "]")) (zaa (zab 1) zae))))
   (zah (fIf (tOf (ex2 gEq (zab 2) (ex1 zd8 (eC (.int 1))))) fNev fNx)
   (zaH (ex2 zci (zab 2) (eC (.int 1)))))))
def zaK:List D->Option Ent:=zbb [.v,.v] 1 zcz
def zdY:FE:=
  (ex2 gInS (zab 0) (eC (.str "abcdefghijklmnopqrstuvwxyz")))
def zfs:FS:=
  (zah (fIf (fOr (tOf (ex2 gEq (zab 0) (eC (.str "")))) (zgR (tOf (eCB gAll (zaa (eLC [] (iS (zab 0)) zdD zdY) zae))))) (zaH (eC (.bl false))) fNx)
   (zaH (ex2 gEqD (eCB gListS (zaa (zab 0) zae)) (ex1 zfX (zab 0)))))
def zez:List D->Option Ent:=zbb [.v] 0 zfs
def zcu:FS:=
  (zaE 2 (ex2 zc2 (ex2 zci (ex2 zfA (zab 2) (eC (.int 613))) (zab 3)) (eC (.int 2147483629))))
def zdP:FS:=
  (zah (fIf (tOf (ex2 gLt (zab 1) (eCB zbk (zaa (zab 0) zae)))) (zaH (ex2 zdF (zab 0) (zab 1))) fNx)
   (zah (zaE 2 (ex2 zci (eC (.int 104729)) (ex2 zfA (ex2 zfA (eC (.int 7919)) (zab 1)) (zab 1))))
   (zah (zd4 (iL (eSl gSlL (zab 0) oNo (oSo (eC (.int 63))))) (gNm 3) zcu)
   (zah (zaE 2 (ex2 zc2 (ex2 zci (ex2 zfA (zab 2) (eC (.int 48271))) (ex2 zfA (eC (.int 16807)) (zab 1))) (eC (.int 2147483647))))
   (zaH (ex2 zc2 (ex2 zfA (zab 2) (zab 2)) (eC (.int 2147483629))))))))
def zap:List D->Option Ent:=zbb [.b,.v] 2 zdP
def zbi:FS:=
  (zah (zhw 3 (ex2 zc2 (zab 4) (zab 1)))
   (zaE 4 (ex2 zeF (zab 4) (zab 1))))
def zaQ:FS:=
  (zah (zaE 4 (ex2 zc2 (ex2 zci (ex2 zci (ex2 zfA (zab 4) (eC (.int 69621))) (ex2 zfA (ex2 zfA (eC (.int 16807)) (zab 5)) (zab 5))) (eC (.int 7))) (eC (.int 2147483629))))
   (zhw 3 (ex2 zc2 (ex2 zeF (ex2 zc2 (ex2 zfA (zab 4) (zab 4)) (eC (.int 2147483647))) (eC (.int 3))) (zab 1))))
def zcS:FS:=
  (zah (zaE 3 (zde zae))
   (zah (zaE 4 (zab 0))
   (zah (zd4 (iR1 (zaa (zab 2) zae)) (gNm 5) zbi)
   (zah (fIf (zh4 (tOf (ex2 gGt (zab 2) (eC (.int 0)))) (zh4 (tOf (ex2 gEq (zab 4) (eC (.int 0)))) (tOf (ex2 gEq (ex2 zdF (zab 3) (ex1 zd8 (eC (.int 1)))) (eC (.int 0)))))) (zah (zaE 4 (ex2 zc2 (ex2 zci (ex2 zfA (zab 0) (eC (.int 48271))) (ex2 zfA (eC (.int 104729)) (zab 2))) (eC (.int 2147483647))))
   (zah (zaE 3 (zde zae))
   (zd4 (iR1 (zaa (zab 2) zae)) (gNm 5) zaQ))) fNx)
   (zcU 3)))))
def zax:List D->Option Ent:=zbb [.v,.v,.v] 3 zcS
def zbj:FE:=
  (ex2 zhi (zab 1) (ex2 zc2 (ex2 zci (ex2 zeF (zab 2) (eC (.int 4))) (zab 0)) (eC (.int 26))))
def zeM:FS:=
  (zah (zaE 1 (eC (.str "abcdefghijklmnopqrstuvwxyz")))
   (zah (zaE 2 (ex2 zdF (zde (zaa (eC (.int 26)) (zaa (eC (.int 2)) (zaa (eC (.int 3)) (zaa (eC (.int 4)) zae))))) (ex2 zc2 (zab 0) (eC (.int 4)))))
   (zaH (eLC [1,0] (iR1 (zaa (zab 2) zae)) zdD zbj))))
def zc5:List D->Option Ent:=zbb [.v] 2 zeM
def za4:FS:=
  (zah (fIf (tOf (ex2 gEq (ex2 zc2 (zab 1) (eC (.int 2))) (eC (.int 1)))) (zaE 4 (ex2 zeE (zab 4) (zab 5))) fNx)
   (zaE 1 (ex2 zeF (zab 1) (eC (.int 2)))))
def zeb:FS:=
  (zah (zd4 (iS (zab 2)) (gNm 5) za4)
   (zcU 4))
def zeg:FS:=
  (zah (zaE 1 (ex2 zci (ex2 zc2 (zab 1) (eC (.int 67108863))) (eC (.int 1))))
   zeb)
def zd9:FS:=
  (zah (zaE 4 (eC (.str "")))
   zeg)
def zc7:FS:=
  (zah (fIf (tOf (ex2 gEq (zab 3) (eC (.int 2)))) (zaH (eBM zgF (eC (.str "")) (zaa (ex1 zfY (zde (zaa (ex2 zdF (zab 0) (ex2 zc2 (zab 1) (eCB zbk (zaa (zab 0) zae)))) (zaa (ex2 zdF (zab 0) (ex2 zc2 (ex2 zeF (zab 1) (eC (.int 26))) (eCB zbk (zaa (zab 0) zae)))) zae)))) zae))) fNx)
   zd9)
def zbv:FS:=
  (zah (fIf (tOf (ex2 gLt (zab 3) (eC (.int 2)))) (zaH (ex2 zdF (zab 0) (ex2 zc2 (zab 1) (eCB zbk (zaa (zab 0) zae))))) fNx)
   zc7)
def za8:FS:=
  (zah (fIf (zh4 (tOf (ex2 gEq (zab 3) (eC (.int 0)))) (tOf (ex2 gEq (ex2 zc2 (zab 1) (eC (.int 5))) (eC (.int 0))))) (zcU 2) fNx)
   zbv)
def za7:FS:=
  (zah (zaE 1 (ex2 zeF (zab 1) (eC (.int 4))))
   za8)
def za2:FS:=
  (zah (zaE 3 (ex2 zc2 (zab 1) (eC (.int 4))))
   za7)
def zbp:FS:=
  (zah (zaE 2 (eC (.str "abcdefghijklmnopqrstuvwxyz")))
   za2)
def zba:List D->Option Ent:=zbb [.b,.v] 4 zbp
def zaM:FS:=
  (fIf (tOf (ex2 gEq (eCB zdf (zaa (zab 2) zae)) (eC (.int 1)))) (zaE 1 (ex2 zeE (zab 1) (zab 2))) (zaE 1 (ex2 zeE (zab 1) (ex2 zdF (zde (zaa (eC (.str ".")) (zaa (ex2 zeE (ex2 zeE (eC (.str "[")) (zab 2)) (eC (.str "]"))) zae))) (eCB zkC (zaa (ex2 gLt (eCB zdf (zaa (zab 2) zae)) (eC (.int 26))) zae))))))
def zdz:FS:=
  (zah (zaE 1 (eC (.str "")))
   (zah (zd4 (iT (zab 0)) (gNm 2) zaM)
   (zcU 1)))
def zbN:List D->Option Ent:=zbb [.v] 2 zdz
def zcI:FS:=
  (zah (zgf 0 "Sight" [] "most" (zab 1))
   (zah (zgf 0 "Sight" ["most"] "end" (eC (.int 0)))
   (zgf 0 "Sight" ["most","end"] "pairs" (zde zae))))
def zbg:GM:=zhV 1 0 zcI
def zcC:FS:=
  (zah (fIf (zh4 (tOf (ex2 gNoN (zab 1) (eC .non))) (tOf (ex2 gLe (zab 1) (zhT 0 "Sight" ["most","end","pairs"] 0)))) (fFApp 0 "Sight" ["most","end","pairs"] 2 (zhM (zaa (zhT 0 "Sight" ["most","end","pairs"] 1) (zaa (zab 1) zae)))) fNx)
   (zgw 0 "Sight" ["most","end","pairs"] 1 (ex2 zci (zhT 0 "Sight" ["most","end","pairs"] 1) (eC (.int 1)))))
def za9:GM:=zhV 1 0 zcC
def zen:FS:=
  (zah (zaE 1 (eCB zcF (zaa (zhT 0 "Sight" ["most","end","pairs"] 2) zae)))
   (zah (zgw 0 "Sight" ["most","end","pairs"] 2 (zde zae))
   (zcU 1)))
def zcE:GM:=zhV 0 1 zen
def zby:FS:=
  (zhw 2 (zag [.v,.v] zbq (zaa (ex2 zdF (zab 2) (ex2 zhI (zab 3) (eC (.int 1)))) (zaa (ex2 zch (zab 1) (eC (.int 1))) zae))))
def zdE:FS:=
  (zah (zaE 2 (zde (zaa (eC (.int 0)) zae)))
   (zah (zd4 (iR2 (zaa (eC (.int 1)) (zaa (ex2 zci (eCB zbk (zaa (zab 0) zae)) (eC (.int 1))) zae))) (gNm 3) zby)
   (zaH (eCB zcF (zaa (zab 2) zae)))))
def zbJ:List D->Option Ent:=zbb [.v,.v] 2 zdE
def zbd:FS:=
  (zah (zaE 8 (ex2 gInS (ex2 zhi (zab 2) (ex1 zd8 (eC (.int 1)))) (ex2 zch (zab 1) (ex2 zhI (zab 7) (eC (.int 1))))))
   (zhw 6 (zag [.v] zdM (zaa (zde (zaa (eIf (tOf (zab 8)) (ex2 zch (zab 5) (ex2 zhI (zab 7) (eC (.int 1)))) (zag [.v,.v] zbq (zaa (ex2 zch (zab 5) (ex2 zhI (zab 7) (eC (.int 1)))) (zaa (ex2 zch (zab 3) (eC (.int 2))) zae)))) (zaa (zag [.v,.v] zbq (zaa (ex2 zch (zab 5) (zab 7)) (zaa (ex2 zch (zab 3) (eC (.int 0))) zae))) (zaa (zag [.v,.v] zbq (zaa (ex2 zdF (zab 6) (ex2 zhI (zab 7) (eC (.int 1)))) (zaa (ex2 zch (zab 3) (eC (.int 1))) zae))) (zaa (zag [.v,.v] zbq (zaa (zag [.b,.v,.v,.v] za0 (zaa (zab 0) (zaa (zab 1) (zaa (zab 2) (zaa (zab 7) zae))))) (zaa (ex2 zch (zab 3) (eC (.int 3))) zae))) zae))))) zae))))
def zbW:FS:=
  (zah (zaE 5 (ex2 zdF (zab 0) (ex1 zd8 (eC (.int 1)))))
   (zah (zaE 6 (zde (zaa (eIf (tOf (zab 4)) (eC (.int 0)) (zag [.v,.v] zbq (zaa (ex2 zch (zab 5) (eC (.int 0))) (zaa (ex2 zch (zab 3) (eC (.int 0))) zae)))) zae)))
   (zah (zd4 (iR2 (zaa (eC (.int 1)) (zaa (ex2 zci (eCB zbk (zaa (zab 1) zae)) (eC (.int 1))) zae))) (gNm 7) zbd)
   (zaH (eCB zcF (zaa (zab 6) zae))))))
def zbU:List D->Option Ent:=zbb [.b,.v,.v,.v,.v] 4 zbW
def zid:FS:=
  (zaH (eOr (ex2 gEq (zab 1) (eC (.str "same"))) (ex2 gNe (zag [.v,.v] zcA (zaa (zab 0) (zaa (zab 1) zae))) (eC (.int 0)))))
def zei:List D->Option Ent:=zbb [.v,.v] 0 zid
def zdC:FS:=
  (zah (zaE 1 (zag [.v] zdM (zaa (zab 0) zae)))
   (zah (fIf (tOf (ex2 zjQ (zab 1) (eC .non))) (zaH (eC .non)) fNx)
   (zaH (zhM (zaa (eBM gIdxT (zab 0) (zaa (zab 1) zae)) (zaa (zab 1) zae))))))
def zcw:List D->Option Ent:=zbb [.v] 1 zdC
def zcm:FE:=
  (zag [.v] zbs (zaa (zab 0) zae))
def zdy:FS:=
  (zaH (eBM zgF (eC (.str "")) (zaa (eLC [] (iT (zab 0)) zdD zcm) zae)))
def zbP:List D->Option Ent:=zbb [.v] 0 zdy
def zdm:FS:=
  (zah (zaE 1 (eIf (tOf (ex2 gEq (zab 0) (eC (.str ".")))) (eC (.str "abcdefghijklmnopqrstuvwxyz")) (eBM zgM (zab 0) (zaa (eC (.str "[]")) zae))))
   (zah (fIf (fOr (zgR (tOf (zag [.v] zez (zaa (zab 1) zae)))) (tOf (ex2 gNe (zag [.v] zbs (zaa (zab 1) zae)) (zab 0)))) fNev fNx)
   (zcU 1)))
def zbX:List D->Option Ent:=zbb [.v] 1 zdm
def zbO:FE:=
  (ex2 zdF (zab 1) (zab 0))
def zeK:FS:=
  (zaH (eBM zgF (eC (.str "")) (zaa (eLC [0] (iL (zag [.v,.v,.v] zax (zaa (zab 1) (zaa (eCB zbk (zaa (zab 0) zae)) (zaa (zab 2) zae))))) zdD zbO) zae)))
def zc4:List D->Option Ent:=zbb [.b,.v,.v] 0 zeK
def za6:FE:=
  (zag [.b,.v] zba (zaa (zab 1) (zaa (zab 0) zae)))
def zdA:FS:=
  (zaH (eCB zcF (zaa (eLC [0] (iL (zag [.v,.v,.v] zax (zaa (zab 1) (zaa (ex2 zfA (eC (.int 4)) (eC (.int 67108863))) (zaa (zab 2) zae))))) zdD za6) zae)))
def zcy:List D->Option Ent:=zbb [.b,.v,.v] 0 zdA
def zcf:FS:=
  (zah (fIf (tOf (ex2 gEq (ex2 zc2 (zab 0) (eC (.int 4))) (eC (.int 0)))) (zaH (zhM (zaa (eC (.int 1)) (zaa (eC (.int 1)) (zaa (eC (.int 1)) (zaa (eC (.int 0)) zae)))))) fNx)
   (zah (fIf (tOf (ex2 gEq (ex2 zc2 (zab 0) (eC (.int 4))) (eC (.int 1)))) (zaH (ex2 zdF (zde (zaa (zhM (zaa (eC (.int 1)) (zaa (eC (.int 1)) (zaa (eC (.int 1)) (zaa (eC (.int 1)) zae))))) (zaa (zhM (zaa (eC (.int 0)) (zaa (eC (.int 0)) (zaa (eC (.int 1)) (zaa (eC (.int 0)) zae))))) (zaa (zhM (zaa (eC (.int 2)) (zaa (eC (.int 2)) (zaa (eC (.int 3)) (zaa (eC (.int 0)) zae))))) (zaa (zhM (zaa (eC (.int 0)) (zaa (eC (.int 0)) (zaa (eC (.int 1)) (zaa (eC (.int 1)) zae))))) (zaa (zhM (zaa (eC (.int 1)) (zaa (eC (.int 1)) (zaa (eC (.int 0)) (zaa (eC (.int 0)) zae))))) zae)))))) (ex2 zc2 (ex2 zeF (zab 0) (eC (.int 4))) (eC (.int 5))))) fNx)
   (zaH (eCB zcF (zaa (zag [.v,.v,.v] zax (zaa (ex2 zeF (zab 0) (eC (.int 4))) (zaa (eC (.int 10)) (zaa (eC (.int 4)) zae)))) zae)))))
def zcV:List D->Option Ent:=zbb [.v] 0 zcf
def zdV:FS:=
  (zhw 4 (zag [.b,.v,.v,.v,.v] zbU (zaa (zab 4) (zaa (zab 0) (zaa (eSl gSlS (zab 1) oNo (oSo (zab 5))) (zaa (zab 2) (zaa (zab 3) zae)))))))
def zd2:FE:=
  (zag [.b,.v] zdq (zaa (zab 1) (zaa (zab 0) zae)))
def zfj:FS:=
  (zah (zaE 4 (zde (zaa (zag [.v,.v] zbJ (zaa (zab 0) (zaa (zab 2) zae))) zae)))
   (zah (zd4 (iR2 (zaa (eC (.int 1)) (zaa (ex2 zci (eCB zdf (zaa (zab 1) zae)) (eC (.int 1))) zae))) (gNm 5) zdV)
   (zaH (eCB zcF (zaa (eLC [4] (iR1 (zaa (ex2 zci (eCB zbk (zaa (zab 0) zae)) (eC (.int 1))) zae)) zdD zd2) zae)))))
def zcl:List D->Option Ent:=zbb [.v,.v,.v,.v] 2 zfj
def zdu:FS:=
  (zah (zaE 7 (ex2 zhI (zab 4) (ex1 (zkP [("same",1),("exchanged",1),("put",0),("left",1),("turned",2)]) (zab 6))))
   (zah (zaE 8 (ex2 zhI (zab 5) (ex1 (zkP [("same",1),("exchanged",1),("put",1),("left",0),("turned",2)]) (zab 6))))
   (zah (fIf (fOr (tOf (ex2 gLt (zab 7) (eC (.int 0)))) (tOf (ex2 gLt (zab 8) (eC (.int 0))))) (zaH (eC (.bl false))) fNx)
   (zah (fIf (fOr (zgR (tOf (zag [.v,.v] zei (zaa (zab 3) (zaa (zab 6) zae))))) (zgR (tOf (zag [.v,.v,.v,.v,.v] zc8 (zaa (zab 1) (zaa (zab 2) (zaa (zab 7) (zaa (zab 8) (zaa (zab 6) zae))))))))) (zaH (eC (.bl false))) fNx)
   (zah (zaE 9 (ex2 zch (ex2 zch (zab 0) (zab 7)) (zab 8)))
   (zaH (eAnd (ex2 gNoN (zab 9) (eC .non)) (ex2 gEq (ex2 zci (zab 9) (zag [.v,.v] zcA (zaa (zab 3) (zaa (zab 6) zae)))) (ex2 zch (ex2 zch (zab 0) (zab 4)) (zab 5))))))))))
def zee:List D->Option Ent:=zbb [.v,.v,.v,.v,.v,.v,.v] 3 zdu
def za3:FT:=
  (tOf (ex2 gLt (zab 2) (eCB zdf (zaa (zab 0) zae))))
def za5:FS:=
  (zah (zaE 3 (zag [.v,.v] zaK (zaa (zab 0) (zaa (zab 2) zae))))
   (zah (zhw 1 (zag [.v] zbX (zaa (eSl gSlS (zab 0) (oSo (zab 2)) (oSo (zab 3))) zae)))
   (zaE 2 (zab 3))))
def zdw:FS:=
  (zah (fIf (zgR (tOf (ex1 (gIsi "str") (zab 0)))) fNev fNx)
   (zah (zaE 1 (zde zae))
   (zah (zaE 2 (eC (.int 0)))
   (zah (whl za3
   za5 1000)
   (zah (fIf (tOf (ex2 gGt (eCB zbk (zaa (zab 1) zae)) (eC (.int 40)))) fNev fNx)
   (zaH (eCB zcF (zaa (zab 1) zae))))))))
def zbK:List D->Option Ent:=zbb [.v] 3 zdw
def zco:FS:=
  (zah (zgf 0 "Finder" [] "pattern" (zab 1))
   (zah (zgf 0 "Finder" ["pattern"] "prices" (zab 3))
   (zah (zgf 0 "Finder" ["pattern","prices"] "columns" (zde (zaa (zag [.v,.v] zbJ (zaa (zab 1) (zaa (zab 3) zae))) zae)))
   (zah (zgf 0 "Finder" ["pattern","prices","columns"] "last_sign" (eC (.str "")))
   (zah (zgf 0 "Finder" ["pattern","prices","columns","last_sign"] "sight" (ziv "Sight" zbg (zaa (zab 2) zae)))
   (fX (xMF 0 "Finder" ["pattern","prices","columns","last_sign","sight"] 4 "Sight" ["most","end","pairs"] za9 (zaa (ex2 zch (ex2 zdF (zhT 0 "Finder" ["pattern","prices","columns","last_sign","sight"] 2) (ex1 zd8 (eC (.int 1)))) (ex1 zd8 (eC (.int 1)))) zae))))))))
def zbz:GM:=zhV 3 0 zco
def zd3:FS:=
  (zah (zaE 2 (zag [.b,.v,.v,.v,.v] zbU (zaa (zhT 0 "Finder" ["pattern","prices","columns","last_sign","sight"] 2) (zaa (zhT 0 "Finder" ["pattern","prices","columns","last_sign","sight"] 0) (zaa (ex2 zeE (zhT 0 "Finder" ["pattern","prices","columns","last_sign","sight"] 3) (zab 1)) (zaa (zhT 0 "Finder" ["pattern","prices","columns","last_sign","sight"] 1) (zaa (eC (.bl true)) zae)))))))
   (zah (zgw 0 "Finder" ["pattern","prices","columns","last_sign","sight"] 2 (zde (zaa (ex2 zdF (zhT 0 "Finder" ["pattern","prices","columns","last_sign","sight"] 2) (ex1 zd8 (eC (.int 1)))) (zaa (zab 2) zae))))
   (zah (zgw 0 "Finder" ["pattern","prices","columns","last_sign","sight"] 3 (zab 1))
   (fX (xMF 0 "Finder" ["pattern","prices","columns","last_sign","sight"] 4 "Sight" ["most","end","pairs"] za9 (zaa (ex2 zch (zab 2) (ex1 zd8 (eC (.int 1)))) zae))))))
def zcM:GM:=zhV 1 1 zd3
def zda:FS:=
  (zaH (ex2 zch (ex2 zch (zgc [.v,.v,.v,.v] zcl (zaa (zab 0) (zaa (zab 1) (zaa (zab 2) zae))) (.bl false)) (ex1 zd8 (eC (.int 1)))) (ex1 zd8 (eC (.int 1)))))
def zbo:List D->Option Ent:=zbb [.v,.v,.v] 0 zda
def zdv:FE:=
  (zab 0)
def zcq:FT:=
  (tOf (zag [.v,.v,.v,.v,.v,.v,.v] zee (zaa (zab 1) (zaa (zab 2) (zaa (zab 3) (zaa (zab 4) (zaa (zab 5) (zaa (zab 6) (zaa (zab 0) zae)))))))))
def zeN:FS:=
  (zah (zaE 6 (eLC [0,1,2,3,4,5] (iK ["same","exchanged","put","left","turned"]) zcq zdv))
   (zaH (ex2 zdF (zab 6) (eC (.int 0)))))
def zcn:List D->Option Ent:=zbb [.v,.v,.v,.v,.v,.v] 1 zeN
def zcH:FS:=
  (zaH (ex2 zch (zag [.v,.v,.v,.v] zcl (zaa (zab 0) (zaa (zab 1) (zaa (zab 2) (zaa (eC (.bl true)) zae))))) (ex1 zd8 (eC (.int 1)))))
def zbR:List D->Option Ent:=zbb [.v,.v,.v] 0 zcH
def zcc:FS:=
  (zaH (ex2 zch (zgc [.v,.v,.v,.v] zcl (zaa (ex1 gRvT (zab 0)) (zaa (ex1 gRvS (zab 1)) (zaa (zab 2) zae))) (.bl false)) (ex1 zd8 (eC (.int 1)))))
def zbm:List D->Option Ent:=zbb [.v,.v,.v] 0 zcc
def zcb(rg:List D->Option Ent):FS:=
  (fIf (zgR (tOf (zag [.v,.v] rg (zaa (zab 2) (zaa (zab 3) zae))))) (zaH (eC (.bl false))) fNx)
def zaS(rg:List D->Option Ent):FS:=
  (zah (fIf (tOf (ex1 (gIsi "tuple") (zab 1))) (zah (fIf (fOr (zgR (tOf (ex1 (gIsi "tuple") (zab 0)))) (tOf (ex2 gNe (eCB zbk (zaa (zab 0) zae)) (eCB zbk (zaa (zab 1) zae))))) (zaH (eC (.bl false))) fNx)
   (zah (zd4 (iZip (qV (zab 0)) (qV (zab 1))) (gTp (zbM (gNm 2) (zbM (gNm 3) zfH))) (zcb rg))
   (zaH (eC (.bl true))))) fNx)
   (zaH (eAnd (ex1 (gIsi "int") (zab 0)) (eAnd (ex1 gNot (ex1 (gIsi "bool") (zab 0))) (ex2 gEq (zab 0) (zab 1))))))
def zdx:List D->Option Ent:=zbb [.v,.v] 2 fNev
def zbQ:List D->Option Ent:=zbb [.v,.v] 2 (zaS zdx)
def zbL:List D->Option Ent:=zbb [.v,.v] 2 (zaS zbQ)
def zaZ:List D->Option Ent:=zbb [.v,.v] 2 (zaS zbL)
abbrev zeo:List D->Option Ent:=zaZ
def zbS:FS:=
  (fX (xM 0 "Finder" ["pattern","prices","columns","last_sign","sight"] zcM (zaa (zab 2) zae)))
def zdS:FS:=
  (zah (zd4 (iS (zab 1)) (gNm 2) zbS)
   (fXRet (xMF 0 "Finder" ["pattern","prices","columns","last_sign","sight"] 4 "Sight" ["most","end","pairs"] zcE zae)))
def zb7:GM:=zhV 1 1 zdS
def zbh:FT:=
  (fOr (tOf (ex2 gGt (zab 5) (eC (.int 0)))) (tOf (ex2 gGt (zab 6) (eC (.int 0)))))
def zbf:FS:=
  (zah (zaE 7 (zag [.v,.v,.v,.v,.v,.v] zcn (zaa (zab 3) (zaa (zab 0) (zaa (zab 1) (zaa (zab 2) (zaa (zab 5) (zaa (zab 6) zae))))))))
   (zah (zhw 4 (zab 7))
   (zah (zaE 5 (ex2 zhI (zab 5) (ex1 (zkP [("same",1),("exchanged",1),("put",0),("left",1),("turned",2)]) (zab 7))))
   (zaE 6 (ex2 zhI (zab 6) (ex1 (zkP [("same",1),("exchanged",1),("put",1),("left",0),("turned",2)]) (zab 7)))))))
def zdT:FS:=
  (zah (zaE 3 (zgc [.v,.v,.v,.v] zcl (zaa (zab 0) (zaa (zab 1) (zaa (zab 2) zae))) (.bl false)))
   (zah (fIf (tOf (ex2 zjQ (ex2 zch (ex2 zch (zab 3) (ex1 zd8 (eC (.int 1)))) (ex1 zd8 (eC (.int 1)))) (eC .non))) (zaH (eC .non)) fNx)
   (zah (zaE 4 (zde zae))
   (zah (zaE 5 (eCB zbk (zaa (zab 0) zae)))
   (zah (zaE 6 (eCB zdf (zaa (zab 1) zae)))
   (zah (whl zbh
   zbf 2100)
   (zaH (ex1 zi4 (zab 4)))))))))
def zcQ:List D->Option Ent:=zbb [.v,.v,.v] 5 zdT
def zdt:FS:=
  (fX (xM 4 "Sight" ["most","end","pairs"] za9 (zaa (zab 5) zae)))
def zgg:FS:=
  (zah (fSetO 4 (ziv "Sight" zbg (zaa (zab 2) zae)))
   (zah (zd4 (iT (zag [.v,.v,.v] zbR (zaa (zab 0) (zaa (zab 1) (zaa (zab 3) zae))))) (gNm 5) zdt)
   (fXRet (xM 4 "Sight" ["most","end","pairs"] zcE zae))))
def zdH:List D->Option Ent:=zbb [.v,.v,.v,.v] 2 zgg
def zes:FS:=
  (zah (fIf (fOr (tOf (ex2 gLt (zab 2) (eC (.int 0)))) (tOf (ex2 gGt (zab 2) (eCB zdf (zaa (zab 1) zae))))) (zaH (eC .non)) fNx)
   (zah (zaE 4 (zag [.v] zcw (zaa (zag [.v,.v,.v] zbm (zaa (zab 0) (zaa (eSl gSlS (zab 1) oNo (oSo (zab 2))) (zaa (zab 3) zae)))) zae)))
   (zah (fIf (tOf (ex2 zjQ (zab 4) (eC .non))) (zaH (eC .non)) fNx)
   (zah (zaE 5 (ex2 zhI (zab 2) (ex2 zch (zab 4) (eC (.int 0)))))
   (zaH (zhM (zaa (zab 5) (zaa (zag [.v,.v,.v] zcQ (zaa (zab 0) (zaa (eSl gSlS (zab 1) (oSo (zab 5)) (oSo (zab 2))) (zaa (zab 3) zae)))) zae))))))))
def zdj:List D->Option Ent:=zbb [.v,.v,.v,.v] 2 zes
def zcj:FS:=
  (zhw 4 (zhM (zaa (zab 7) (zaa (zab 5) (zaa (zab 8) zae)))))
def zck:FS:=
  (zd4 (iT (zag [.v,.v,.v,.v] zdH (zaa (zab 6) (zaa (zab 1) (zaa (zab 2) (zaa (zab 3) zae)))))) (gTp (zbM (gNm 7) (zbM (gNm 8) zfH))) zcj)
def zcr:FS:=
  (zah (zaE 4 (zde zae))
   (zah (zd4 (iEnuT (zab 0)) (gTp (zbM (gNm 5) (zbM (gNm 6) zfH))) zck)
   (zaH (eCB zcF (zaa (eCB zi5 (zaa (zab 4) zae)) zae)))))
def zcp:List D->Option Ent:=zbb [.v,.v,.v,.v] 5 zcr
def zcP:FS:=
  (fXSet 7 (x2 gCatT (xP (zab 7)) (xM 6 "Finder" ["pattern","prices","columns","last_sign","sight"] zb7 (zaa (zab 8) zae))))
def zcZ:FS:=
  (zah (fAsg (gTp (zbM (gNm 11) (zbM (gNm 12) zfH))) (zag [.v,.v,.v,.v] zdj (zaa (zab 0) (zaa (zab 2) (zaa (zab 9) (zaa (zab 4) zae))))))
   (fIf (tOf (ex2 gNe (zag [.v,.v,.v] zbo (zaa (zab 0) (zaa (eSl gSlS (zab 2) (oSo (zab 11)) (oSo (zab 9))) (zaa (zab 4) zae)))) (zab 10))) (zaH (eC .non)) fNx))
def zdQ:FE:=
  (zhM (zaa (zab 0) (zaa (zab 2) (zaa (zab 1) zae))))
def zev:FS:=
  (zah (zaE 5 (zag [.v,.v,.v,.v] zdH (zaa (zab 0) (zaa (zab 2) (zaa (zab 3) (zaa (zab 4) zae))))))
   (zah (fSetO 6 (ziv "Finder" zbz (zaa (zab 0) (zaa (zab 3) (zaa (zab 4) zae)))))
   (zah (fXSet 7 (xM 6 "Finder" ["pattern","prices","columns","last_sign","sight"] zb7 (zaa (eC (.str "")) zae)))
   (zah (zd4 (iS (zab 2)) (gNm 8) zcP)
   (zah (fIf (zgR (tOf (zag [.v,.v] zeo (zaa (zab 7) (zaa (zab 5) zae))))) (zaH (eC .non)) fNx)
   (zah (zd4 (iT (ex2 gCatT (eSl gSlT (zab 5) oNo (oSo (eC (.int 2)))) (eSl gSlT (zab 5) (oSo (ex1 zd8 (eC (.int 1)))) oNo))) (gTp (zbM (gNm 9) (zbM (gNm 10) zfH))) zcZ)
   (zaH (eL2 [1] (iT (zab 5)) zdD zdQ))))))))
def zfw:List D->Option Ent:=zbb [.v,.v,.v,.v,.v] 8 zev
def zfK:FS:=
  (zah (zaE 10 (zag [.b,.v,.v] zcy (zaa (zab 2) (zaa (zag [.b,.v] zap (zaa (zab 0) (zaa (ex2 zci (eC (.int 4)) (eCB zbk (zaa (zab 7) zae))) zae))) (zaa (zab 9) zae)))))
   (zah (zaE 11 (zag [.v] zbN (zaa (zab 10) zae)))
   (zah (zaE 12 (zag [.v] zbK (zaa (zab 11) zae)))
   (zah (fIf (fOr (tOf (ex2 gNeD (zab 12) (zab 10))) (tOf (ex2 gNe (zag [.v] zbP (zaa (zab 12) zae)) (zab 11)))) (zaH (eC (.bl false))) fNx)
   (zah (zaE 13 (zag [.v,.v,.v,.v,.v] zfw (zaa (zab 12) (zaa (eCB zbk (zaa (zab 7) zae)) (zaa (zab 3) (zaa (zab 6) (zaa (zab 4) zae)))))))
   (zah (fIf (tOf (ex2 zjQ (zab 13) (eC .non))) (zaH (eC (.bl false))) fNx)
   (zah (zhw 7 (zab 12))
   (fExtV 8 (zab 13)))))))))
def zhf:FS:=
  (fFrz 5 (zah (zd4 (iL (zab 5)) (gNm 9) zfK)
   (zaH (zag [.v,.v] zeo (zaa (zag [.v,.v,.v,.v] zcp (zaa (eCB zcF (zaa (zab 7) zae)) (zaa (zab 3) (zaa (zab 6) (zaa (zab 4) zae))))) (zaa (eCB zcF (zaa (eCB zi5 (zaa (zab 8) zae)) zae)) zae))))))
def zj0:FS:=
  (zah (zaE 8 (zde zae))
   zhf)
def zj8:FS:=
  (zah (zaE 7 (zde zae))
   zj0)
def zj5:FS:=
  (zah (zaE 6 (ex2 zc2 (ex2 zeF (zab 1) (eC (.int 16224))) (eC (.int 10))))
   zj8)
def zjt:FS:=
  (zah (zaE 5 (zag [.v,.v,.v] zax (zaa (zag [.b,.v] zap (zaa (zab 0) (zaa (eC (.int 3)) zae))) (zaa (eC (.int 7)) (zaa (ex2 zc2 (ex2 zeF (zab 1) (eC (.int 2704))) (eC (.int 6))) zae)))))
   zj5)
def zkc:FS:=
  (zah (zaE 4 (zag [.v] zcV (zaa (zag [.b,.v] zap (zaa (zab 0) (zaa (eC (.int 2)) zae))) zae)))
   zjt)
def zj7:FS:=
  (zah (zaE 3 (zag [.b,.v,.v] zc4 (zaa (zab 2) (zaa (zag [.b,.v] zap (zaa (zab 0) (zaa (eC (.int 1)) zae))) (zaa (ex2 zc2 (ex2 zeF (zab 1) (eC (.int 104))) (eC (.int 26))) zae)))))
   zkc)
def zjw:FS:=
  (zah (zaE 2 (zag [.v] zc5 (zaa (zab 1) zae)))
   zj7)
def F_law:FS:=
  (zah (zaE 1 (zag [.b,.v] zap (zaa (zab 0) (zaa (eC (.int 0)) zae))))
   zjw)
def g_law:List D->Option Ent:=zbb [.b] 13 F_law
end
end N63

namespace N63
open PySem L2 L3 PyProof.Rows
def top(i:Nat):Stmt:=PySem.Challenge.pw_nearfind_k63_whole_from_texts.main.body.getD i (.Pass ⟨0,0,0,0⟩)
def clsB(st:Stmt)(j:Nat):Stmt:=match st with
 |.ClassDef _ _ _ b _ _ _ _ _ _ _=>b.getD j (.Pass ⟨0,0,0,0⟩)
 | _=>.Pass ⟨0,0,0,0⟩
abbrev zbt:Stmt:=top 5
def sc_cells_of:FnScope ["P","T","prices","free","columns","signs"] ["P","T","prices","free"] (zad zbt):=⟨rfl,rfl,rfl,by decide +kernel,rfl,by decide +kernel,by decide +kernel⟩
abbrev zbV:Stmt:=top 6
def zfF:FnScope ["P","T","prices"] ["P","T","prices"] (zad zbV):=⟨rfl,rfl,rfl,by decide +kernel,rfl,by decide +kernel,by decide +kernel⟩
abbrev zcN:Stmt:=top 7
def zg9:FnScope ["columns","classes"] ["columns","classes"] (zad zcN):=⟨rfl,rfl,rfl,by decide +kernel,rfl,by decide +kernel,by decide +kernel⟩
abbrev zb6:Stmt:=top 8
def sc_first_column:FnScope ["pattern","prices","column","classes"] ["pattern","prices"] (zad zb6):=⟨rfl,rfl,rfl,by decide +kernel,rfl,by decide +kernel,by decide +kernel⟩
abbrev zbC:Stmt:=top 9
def sc_further_column:FnScope ["columns","pattern","text","prices","free","before","column","classes","fits"] ["columns","pattern","text","prices","free"] (zad zbC):=⟨rfl,rfl,rfl,by decide +kernel,rfl,by decide +kernel,by decide +kernel⟩
abbrev zaW:Stmt:=top 10
def zeq:FnScope ["columns","pattern","text","classes"] ["columns","pattern","text","classes"] (zad zaW):=⟨rfl,rfl,rfl,by decide +kernel,rfl,by decide +kernel,by decide +kernel⟩
abbrev zew:Stmt:=top 11
def zkn:FnScope ["cell","price"] ["cell","price"] (zad zew):=⟨rfl,rfl,rfl,by decide +kernel,rfl,by decide +kernel,by decide +kernel⟩
abbrev zff:Stmt:=top 12
def sc_lowest:FnScope ["cells"] ["cells"] (zad zff):=⟨rfl,rfl,rfl,by decide +kernel,rfl,by decide +kernel,by decide +kernel⟩
abbrev zct:Stmt:=top 17
def sc_row_between:FnScope ["P","T","prices","cells","backward","classes","signs","step"] ["P","T","prices"] (zad zct):=⟨rfl,rfl,rfl,by decide +kernel,rfl,by decide +kernel,by decide +kernel⟩
abbrev zdn:Stmt:=top 18
def sc_last_step:FnScope ["cells","pattern","text","prices","classes","signs","found"] ["cells","pattern","text","prices","classes","signs"] (zad zdn):=⟨rfl,rfl,rfl,by decide +kernel,rfl,by decide +kernel,by decide +kernel⟩
abbrev zcO:Stmt:=top 19
def sc_comes_last:FnScope ["cells","pattern","text","prices","classes","signs","step","classes_ahead","signs_ahead","ahead"] ["cells","pattern","text","prices","classes","signs","step"] (zad zcO):=⟨rfl,rfl,rfl,by decide +kernel,rfl,by decide +kernel,by decide +kernel⟩
abbrev zdr:Stmt:=top 20
def zh5:FnScope ["pattern","text","classes","signs","step"] ["pattern","text","classes","signs","step"] (zad zdr):=⟨rfl,rfl,rfl,by decide +kernel,rfl,by decide +kernel,by decide +kernel⟩
abbrev zey:Stmt:=top 21
def zko:FnScope ["prices","step"] ["prices","step"] (zad zey):=⟨rfl,rfl,rfl,by decide +kernel,rfl,by decide +kernel,by decide +kernel⟩
abbrev zcW:Stmt:=top 22
def zhz:FnScope ["prices","step"] ["prices","step"] (zad zcW):=⟨rfl,rfl,rfl,by decide +kernel,rfl,by decide +kernel,by decide +kernel⟩
abbrev zeu:Stmt:=top 25
def sc_ends_in:FnScope ["P","T","most","prices","sight","price"] ["P","T","most","prices"] (zad zeu):=⟨rfl,rfl,rfl,by decide +kernel,rfl,by decide +kernel,by decide +kernel⟩
abbrev zcT:Stmt:=top 26
def sc_stretch_at:FnScope ["P","T","end","prices","nearest","begin"] ["P","T","end","prices"] (zad zcT):=⟨rfl,rfl,rfl,by decide +kernel,rfl,by decide +kernel,by decide +kernel⟩
abbrev zb4:Stmt:=top 27
def sc_ends_of_many:FnScope ["patterns","T","most","prices","found","number","pattern","end","price"] ["patterns","T","most","prices"] (zad zb4):=⟨rfl,rfl,rfl,by decide +kernel,rfl,by decide +kernel,by decide +kernel⟩
abbrev zbB:Stmt:=top 28
def zfr:FnScope ["pattern","text","prices"] ["pattern","text","prices"] (zad zbB):=⟨rfl,rfl,rfl,by decide +kernel,rfl,by decide +kernel,by decide +kernel⟩
abbrev zbe:Stmt:=top 29
def zeJ:FnScope ["pattern","text","prices"] ["pattern","text","prices"] (zad zbe):=⟨rfl,rfl,rfl,by decide +kernel,rfl,by decide +kernel,by decide +kernel⟩
abbrev zcg:Stmt:=top 30
def sc_first_lowest:FnScope ["told","price"] ["told"] (zad zcg):=⟨rfl,rfl,rfl,by decide +kernel,rfl,by decide +kernel,by decide +kernel⟩
abbrev zb5:Stmt:=top 39
def zf8:FnScope ["P"] ["P"] (zad zb5):=⟨rfl,rfl,rfl,by decide +kernel,rfl,by decide +kernel,by decide +kernel⟩
abbrev zcY:Stmt:=top 40
def zhv:FnScope ["letters"] ["letters"] (zad zcY):=⟨rfl,rfl,rfl,by decide +kernel,rfl,by decide +kernel,by decide +kernel⟩
abbrev zb1:Stmt:=top 41
def sc_read_pattern:FnScope ["thing","pattern","begin","end"] ["thing"] (zad zb1):=⟨rfl,rfl,rfl,by decide +kernel,rfl,by decide +kernel,by decide +kernel⟩
abbrev zb9:Stmt:=top 42
def sc_end_of_class:FnScope ["written","begin","closing"] ["written","begin"] (zad zb9):=⟨rfl,rfl,rfl,by decide +kernel,rfl,by decide +kernel,by decide +kernel⟩
abbrev zcR:Stmt:=top 43
def sc_read_class:FnScope ["written","letters"] ["written"] (zad zcR):=⟨rfl,rfl,rfl,by decide +kernel,rfl,by decide +kernel,by decide +kernel⟩
abbrev zdU:Stmt:=top 44
def zjl:FnScope ["letters"] ["letters"] (zad zdU):=⟨rfl,rfl,rfl,by decide +kernel,rfl,by decide +kernel,by decide +kernel⟩
abbrev zdp:Stmt:=top 46
def sc__law_cell:FnScope ["_law_script","_law_at","_law_number","_law_cell_here"] ["_law_script","_law_at"] (zad zdp):=⟨rfl,rfl,rfl,by decide +kernel,rfl,by decide +kernel,by decide +kernel⟩
abbrev zcv:Stmt:=top 47
def sc__law_digits:FnScope ["_law_cell_here","_law_base","_law_many","_law_found","_law_left","_law_k"] ["_law_cell_here","_law_base","_law_many"] (zad zcv):=⟨rfl,rfl,rfl,by decide +kernel,rfl,by decide +kernel,by decide +kernel⟩
abbrev zdk:Stmt:=top 48
def sc__law_pool:FnScope ["_law_cell_here","_law_letters","_law_few"] ["_law_cell_here"] (zad zdk):=⟨rfl,rfl,rfl,by decide +kernel,rfl,by decide +kernel,by decide +kernel⟩
abbrev zdl:Stmt:=top 49
def zh6:FnScope ["_law_pool_here","_law_cell_here","_law_many"] ["_law_pool_here","_law_cell_here","_law_many"] (zad zdl):=⟨rfl,rfl,rfl,by decide +kernel,rfl,by decide +kernel,by decide +kernel⟩
abbrev zcX:Stmt:=top 50
def sc__law_class:FnScope ["_law_pool_here","_law_number","_law_letters","_law_way","_law_found","_law_letter"] ["_law_pool_here","_law_number"] (zad zcX):=⟨rfl,rfl,rfl,by decide +kernel,rfl,by decide +kernel,by decide +kernel⟩
abbrev zb3:Stmt:=top 51
def zgm:FnScope ["_law_pool_here","_law_cell_here","_law_many"] ["_law_pool_here","_law_cell_here","_law_many"] (zad zb3):=⟨rfl,rfl,rfl,by decide +kernel,rfl,by decide +kernel,by decide +kernel⟩
abbrev zcs:Stmt:=top 52
def zgu:FnScope ["_law_cell_here"] ["_law_cell_here"] (zad zcs):=⟨rfl,rfl,rfl,by decide +kernel,rfl,by decide +kernel,by decide +kernel⟩
abbrev zbc:Stmt:=top 53
def sc__law_alike:FnScope ["_law_found","_law_due","_law_one_here","_law_other"] ["_law_found","_law_due"] (zad zbc):=⟨rfl,rfl,rfl,by decide +kernel,rfl,by decide +kernel,by decide +kernel⟩
abbrev zb2:Stmt:=top 54
def sc__law_written:FnScope ["_law_pattern_here","_law_text_here","_law_one_here"] ["_law_pattern_here"] (zad zb2):=⟨rfl,rfl,rfl,by decide +kernel,rfl,by decide +kernel,by decide +kernel⟩
abbrev zdX:Stmt:=top 55
def sc__law_one:FnScope ["_law_pattern_here","_law_number","_law_text_here","_law_most","_law_prices_here","_law_ends","_law_finder","_law_fed","_law_sign","_law_end","_law_price","_law_begin","_law_row"] ["_law_pattern_here","_law_number","_law_text_here","_law_most","_law_prices_here"] (zad zdX):=⟨rfl,rfl,rfl,by decide +kernel,rfl,by decide +kernel,by decide +kernel⟩
abbrev zeW:Stmt:=top 56
def sc_law:FnScope ["_law_script","_law_cell_here","_law_pool_here","_law_text_here","_law_prices_here","_law_sizes","_law_most","_law_patterns","_law_due","_law_size","_law_pattern_here","_law_written_here","_law_read","_law_rows"] ["_law_script"] (zad zeW):=⟨rfl,rfl,rfl,by decide +kernel,rfl,by decide +kernel,by decide +kernel⟩
abbrev zay:Stmt:=clsB (top 24) 0
def zfh:FnScope ["self","most"] ["self","most"] (zad zay):=⟨rfl,rfl,rfl,by decide +kernel,rfl,by decide +kernel,by decide +kernel⟩
abbrev zaR:Stmt:=clsB (top 24) 1
def zhu:FnScope ["self","price"] ["self","price"] (zad zaR):=⟨rfl,rfl,rfl,by decide +kernel,rfl,by decide +kernel,by decide +kernel⟩
abbrev zaT:Stmt:=clsB (top 24) 2
def sc_Sight_tell:FnScope ["self","told"] ["self"] (zad zaT):=⟨rfl,rfl,rfl,by decide +kernel,rfl,by decide +kernel,by decide +kernel⟩
abbrev zav:Stmt:=clsB (top 32) 0
def ze7:FnScope ["self","P","most","prices"] ["self","P","most","prices"] (zad zav):=⟨rfl,rfl,rfl,by decide +kernel,rfl,by decide +kernel,by decide +kernel⟩
abbrev zaL:Stmt:=clsB (top 32) 1
def sc_Finder_feed:FnScope ["self","T","sign"] ["self","T"] (zad zaL):=⟨rfl,rfl,rfl,by decide +kernel,rfl,by decide +kernel,by decide +kernel⟩
abbrev zaJ:Stmt:=clsB (top 32) 2
def sc_Finder_read:FnScope ["self","sign","column"] ["self","sign"] (zad zaJ):=⟨rfl,rfl,rfl,by decide +kernel,rfl,by decide +kernel,by decide +kernel⟩
def boot_all:aM "all" =aa (.builtin "all"):=by kernel_rfl
def zf1:aM "bool" =aa (.type "bool"):=by kernel_rfl
def zgt:aM "enumerate" =aa (.type "enumerate"):=by kernel_rfl
def zfO:aM "int" =aa (.type "int"):=by kernel_rfl
def zal:aM "isinstance" =aa (.builtin "isinstance"):=by kernel_rfl
def zat:aM "len" =aa (.builtin "len"):=by kernel_rfl
def boot_list:aM "list" =aa (.type "list"):=by kernel_rfl
def boot_min:aM "min" =aa (.builtin "min"):=by kernel_rfl
def zhA:aM "reversed" =aa (.type "reversed"):=by kernel_rfl
def zjo:aM "set" =aa (.type "set"):=by kernel_rfl
def zd1:aM "sorted" =aa (.builtin "sorted"):=by kernel_rfl
def boot_str:aM "str" =aa (.type "str"):=by kernel_rfl
def zaw:aM "tuple" =aa (.type "tuple"):=by kernel_rfl
def zhD:aM "zip" =aa (.type "zip"):=by kernel_rfl
structure Txt(w:aO)(K:ag)(mg:Str->Option af):Prop where
 m_all:mg "all" =ab
 m_bool:mg "bool" =ab
 m_enumerate:mg "enumerate" =ab
 m_int:mg "int" =ab
 m_isinstance:mg "isinstance" =ab
 m_len:mg "len" =ab
 m_list:mg "list" =ab
 m_min:mg "min" =ab
 m_range:mg "range" =ab
 m_reversed:mg "reversed" =ab
 m_set:mg "set" =ab
 m_sorted:mg "sorted" =ab
 m_str:mg "str" =ab
 m_tuple:mg "tuple" =ab
 m_zip:mg "zip" =ab
 g_PUT:∃u,mg "PUT" =aa u/\RelV (.int 0) u
 g_LEFT:∃u,mg "LEFT" =aa u/\RelV (.int 1) u
 g_EXCHANGED:∃u,mg "EXCHANGED" =aa u/\RelV (.int 2) u
 g_TURNED:∃u,mg "TURNED" =aa u/\RelV (.int 3) u
 g_LETTERS:∃u,mg "LETTERS" =aa u/\RelV (.str "abcdefghijklmnopqrstuvwxyz") u
 g_MOST_CLASSES:∃u,mg "MOST_CLASSES" =aa u/\RelV (.int 40) u
 t_CLASSES_USED:∃a,mg "CLASSES_USED" =aa (.ref a)/\TabK K a [("same",1),("exchanged",1),("put",0),("left",1),("turned",2)]
 t_SIGNS_USED:∃a,mg "SIGNS_USED" =aa (.ref a)/\TabK K a [("same",1),("exchanged",1),("put",1),("left",0),("turned",2)]
 t_PLACE_IN_PRICES:∃a,mg "PLACE_IN_PRICES" =aa (.ref a)/\TabK K a [("put",0),("left",1),("exchanged",2),("turned",3)]
 k_CLASSES_USED:∃a,mg "CLASSES_USED" =aa (.ref a)/\KeysK w K a ["same","exchanged","put","left","turned"]
 c_Finder:∃C,ClsD K mg "Finder" ["pattern","prices","columns","last_sign","sight"] C
 c_Sight:∃C,ClsD K mg "Sight" ["most","end","pairs"] C
 d_cells_of:∃f fd,DefD K mg "cells_of" zbt ["P","T","prices","free"] f fd
 d_price_between:∃f fd,Def K mg "price_between" zbV ["P","T","prices"] f fd
 d_row_across:∃f fd,Def K mg "row_across" zcN ["columns","classes"] f fd
 d_first_column:∃f fd,Def K mg "first_column" zb6 ["pattern","prices"] f fd
 d_further_column:∃f fd,Def K mg "further_column" zbC ["columns","pattern","text","prices","free"] f fd
 d_cell_ahead_of_turn:∃f fd,Def K mg "cell_ahead_of_turn" zaW ["columns","pattern","text","classes"] f fd
 d_stepped:∃f fd,Def K mg "stepped" zew ["cell","price"] f fd
 d_lowest:∃f fd,Def K mg "lowest" zff ["cells"] f fd
 d_row_between:∃f fd,Def K mg "row_between" zct ["P","T","prices"] f fd
 d_last_step:∃f fd,Def K mg "last_step" zdn ["cells","pattern","text","prices","classes","signs"] f fd
 d_comes_last:∃f fd,Def K mg "comes_last" zcO ["cells","pattern","text","prices","classes","signs","step"] f fd
 d_can_stand:∃f fd,Def K mg "can_stand" zdr ["pattern","text","classes","signs","step"] f fd
 d_is_done:∃f fd,Def K mg "is_done" zey ["prices","step"] f fd
 d_step_price:∃f fd,Def K mg "step_price" zcW ["prices","step"] f fd
 d_ends_in:∃f fd,Def K mg "ends_in" zeu ["P","T","most","prices"] f fd
 d_stretch_at:∃f fd,Def K mg "stretch_at" zcT ["P","T","end","prices"] f fd
 d_ends_of_many:∃f fd,Def K mg "ends_of_many" zb4 ["patterns","T","most","prices"] f fd
 d_prices_at_ends:∃f fd,Def K mg "prices_at_ends" zbB ["pattern","text","prices"] f fd
 d_prices_by_length:∃f fd,Def K mg "prices_by_length" zbe ["pattern","text","prices"] f fd
 d_first_lowest:∃f fd,Def K mg "first_lowest" zcg ["told"] f fd
 d_show_pattern:∃f fd,Def K mg "show_pattern" zb5 ["P"] f fd
 d_show_class:∃f fd,Def K mg "show_class" zcY ["letters"] f fd
 d_read_pattern:∃f fd,Def K mg "read_pattern" zb1 ["thing"] f fd
 d_end_of_class:∃f fd,Def K mg "end_of_class" zb9 ["written","begin"] f fd
 d_read_class:∃f fd,Def K mg "read_class" zcR ["written"] f fd
 d_is_class:∃f fd,Def K mg "is_class" zdU ["letters"] f fd
 d__law_cell:∃f fd,Def K mg "_law_cell" zdp ["_law_script","_law_at"] f fd
 d__law_digits:∃f fd,Def K mg "_law_digits" zcv ["_law_cell_here","_law_base","_law_many"] f fd
 d__law_pool:∃f fd,Def K mg "_law_pool" zdk ["_law_cell_here"] f fd
 d__law_text:∃f fd,Def K mg "_law_text" zdl ["_law_pool_here","_law_cell_here","_law_many"] f fd
 d__law_class:∃f fd,Def K mg "_law_class" zcX ["_law_pool_here","_law_number"] f fd
 d__law_pattern:∃f fd,Def K mg "_law_pattern" zb3 ["_law_pool_here","_law_cell_here","_law_many"] f fd
 d__law_prices:∃f fd,Def K mg "_law_prices" zcs ["_law_cell_here"] f fd
 d__law_alike:∃f fd,Def K mg "_law_alike" zbc ["_law_found","_law_due"] f fd
 d__law_written:∃f fd,Def K mg "_law_written" zb2 ["_law_pattern_here"] f fd
 d__law_one:∃f fd,Def K mg "_law_one" zdX ["_law_pattern_here","_law_number","_law_text_here","_law_most","_law_prices_here"] f fd
 d_Sight___init__:∃f fd,MakeD K "Sight" zay "Sight.__init__" ["self","most"] f fd
 d_Sight_come:∃f fd,MethD K "Sight" "come" zaR "Sight.come" ["self","price"] f fd
 d_Sight_tell:∃f fd,MethD K "Sight" "tell" zaT "Sight.tell" ["self"] f fd
 d_Finder___init__:∃f fd,MakeD K "Finder" zav "Finder.__init__" ["self","P","most","prices"] f fd
 d_Finder_feed:∃f fd,MethD K "Finder" "feed" zaL "Finder.feed" ["self","T"] f fd
 d_Finder_read:∃f fd,MethD K "Finder" "read" zaJ "Finder.read" ["self","sign"] f fd
section
variable {P:aK}{w:aO}{K:ag}{mg:Str->Option af}{base:aT}{f:ai}{fd:bF}
def zhe(T:Txt w K mg)(F:FunA K "row_across" "row_across" zcN f fd):FnOk P w K mg base CX0 1 f fd ["columns","classes"] (spD K [.b,.v] zdq):=by
 refine zaz F zg9 zet rfl (λ_ _ h=>h) λcdv A outer s H E hr=>?_;have hu:=zaP hr;exact(ss1 (zbx (vct zej (by rfl) T.m_tuple zaw (zac (vlc (N:=["column","classes"]) (fr:=[1]) ⟨rfl,rfl,rfl,by decide +kernel,rfl,rfl⟩ (iib 0) (λ_ _ _ _=>by exact if0) (λ_ _ _ _=>by exact(vix zbG (vv 0) (vv 1) (λ_ _=>rfl)))) zan))))
def zea(T:Txt w K mg)(F:FunA K "cell_ahead_of_turn" "cell_ahead_of_turn" zaW f fd):FnOk P w K mg base CX0 1 f fd ["columns","pattern","text","classes"] (spD K [.b,.v,.v,.v] za0):=by
 refine zaz F zeq zaI rfl (λ_ _ h=>h) λcdv A outer s H E hr=>?_;have hu:=zaP hr;exact(ssc (sIf (tww (zjF (tcm ((o_lt)) (vv 3) zaq (zai _)) (zeS (tcm ((o_lt)) (vcb zfg (by rfl) T.m_len zat (zac (vv 2) zan)) zaq (zai _))))) (ss1 (zbx zhN)) ss0)
   (ssc (sIf (tww (zjF (tcm (o_niS) (vix zhC (vv 2) (vun zdL zaq) (λ_ _=>rfl)) (vix zbG (vv 1) (vop zfy (vv 3) zaq) (λ_ _=>rfl)) (by with_unfolding_all rfl)) (zeS (tcm (o_niS) (vix zhC (vv 2) (vun zdL zaq) (λ_ _=>rfl)) (vix zbG (vv 1) (vop zfy (vv 3) zaq) (λ_ _=>rfl)) (by with_unfolding_all rfl))))) (ss1 (zbx zhN)) ss0)
   (ss1 (zbx (vix zbG (vix zcL (vv 0) (vun zdL zaq) (λ_ _=>rfl)) (vop zfy (vv 3) zaq) (λ_ _=>rfl))))))
def zgL(T:Txt w K mg)(F:FunA K "stepped" "stepped" zew f fd):FnOk P w K mg base CX0 1 f fd ["cell","price"] (spD K [.v,.v] zbq):=by
 refine zaz F zkn zem rfl (λ_ _ h=>h) λcdv A outer s H E hr=>?_;have hu:=zaP hr;exact(ssc (sIf (tww (zjF (tcm (o_isN) (vv 0) zhN (zai _)) (zeS (tcm (zfM) (vv 1) zaq (zai _))))) (ss1 (zbx zhN)) ss0)
   (ss1 (zbx (vop zdh (vv 0) (vv 1)))))
def zhW(T:Txt w K mg)(F:FunA K "lowest" "lowest" zff f fd):FnOk P w K mg base CX0 1 f fd ["cells"] (spD K [.v] zdM):=by
 refine zaz F sc_lowest zg5 rfl (λ_ _ h=>h) λcdv A outer s H E hr=>?_;have hu:=zaP hr;exact(ss1 (zbx (vminD (vlc (N:=["cell"]) (fr:=[]) ⟨rfl,rfl,rfl,by decide +kernel,rfl,rfl⟩ (iiq (vv 0)) (λ_ _ _ _=>by exact(if1 (tcm (o_noN) (vv 0) zhN (zai _)))) (λ_ _ _ _=>by exact(vv 0))) zhN (by rfl) T.m_min boot_min)))
def zhS(T:Txt w K mg)(F:FunA K "can_stand" "can_stand" zdr f fd):FnOk P w K mg base CX0 1 f fd ["pattern","text","classes","signs","step"] (spD K [.v,.v,.v,.v,.v] zc8):=by
 refine zaz F zh5 zc9 rfl (λ_ _ h=>h) λcdv A outer s H E hr=>?_;have hu:=zaP hr;exact(ssc (sIf (tww (zjF (tcm (o_gt) (vop zdh (vv 2) (vgx (by rfl) T.t_CLASSES_USED (vv 4))) (vcb zb0 (by rfl) T.m_len zat (zac (vv 0) zan)) (zai _)) (zeS (tcm (o_gt) (vop zdh (vv 3) (vgx (by rfl) T.t_SIGNS_USED (vv 4))) (vcb zfg (by rfl) T.m_len zat (zac (vv 1) zan)) (zai _))))) (ss1 (zbx vbl)) ss0)
   (ssc (sIf (tcm (zfM) (vv 4) zfI (zai _)) (ss1 (zbx (zjc (o_inS) (vix zhC (vv 1) (vv 3) (λ_ _=>rfl)) (vix zbG (vv 0) (vv 2) (λ_ _=>rfl)) (by with_unfolding_all rfl)))) ss0)
   (ssc (sIf (tcm (zfM) (vv 4) zfI (zai _)) (ss1 (zbx (zjc (o_niS) (vix zhC (vv 1) (vv 3) (λ_ _=>rfl)) (vix zbG (vv 0) (vv 2) (λ_ _=>rfl)) (by with_unfolding_all rfl)))) ss0)
   (ssc (sIf (tcm (zfM) (vv 4) zfI (zai _)) (ss1 (zbx (vand (zjc (o_inS) (vix zhC (vv 1) (vv 3) (λ_ _=>rfl)) (vix zbG (vv 0) (vop zdh (vv 2) zaq) (λ_ _=>rfl)) (by with_unfolding_all rfl)) (vone (zjc (o_inS) (vix zhC (vv 1) (vop zdh (vv 3) zaq) (λ_ _=>rfl)) (vix zbG (vv 0) (vv 2) (λ_ _=>rfl)) (by with_unfolding_all rfl)))))) ss0)
   (ss1 (zbx vbl))))))
def ze0(T:Txt w K mg)(F:FunA K "step_price" "step_price" zcW f fd):FnOk P w K mg base CX0 1 f fd ["prices","step"] (spD K [.v,.v] zcA):=by
 refine zaz F zhz zfC rfl (λ_ _ h=>h) λcdv A outer s H E hr=>?_;have hu:=zaP hr;exact(ssc (sIf (tcm (zfM) (vv 1) zfI (zai _)) (ss1 (zbx zaq)) ss0)
   (ss1 (zbx (vix zbG (vv 0) (vgx (by rfl) T.t_PLACE_IN_PRICES (vv 1)) (λ_ _=>rfl)))))
def zfe(T:Txt w K mg)(F:FunA K "show_class" "show_class" zcY f fd):FnOk P w K mg base CX0 1 f fd ["letters"] (spD K [.v] zbs):=by
 refine zaz F zhv zcD rfl (λ_ _ h=>h) λcdv A outer s H E hr=>?_;have hu:=zaP hr;exact(ssc (sIf (tcm (zfM) (vv 0) (vglS (by rfl) T.g_LETTERS) (zai _)) (ss1 (zbx zfI)) ss0)
   (ssc (sIf (tcm (zfM) (vcb zfg (by rfl) T.m_len zat (zac (vv 0) zan)) zaq (zai _)) (ss1 (ziZ 0)) ss0)
   (ss1 (zbx (vop zfB (vop zfB zfI (vv 0)) zfI)))))
def zfV(T:Txt w K mg)(F:FunA K "end_of_class" "end_of_class" zb9 f fd):FnOk P w K mg base CX0 1 f fd ["written","begin"] (spD K [.v,.v] zaK):=by
 refine zaz F sc_end_of_class zcz rfl (λ_ _ h=>h) λcdv A outer s H E hr=>?_;have hu:=zaP hr;exact(ssc (sIf (tcm (o_ne) (vix zhC (vv 0) (vv 1) (λ_ _=>rfl)) zfI (zai _)) (ss1 (zbx (vop zdh (vv 1) zaq))) ss0)
   (ssc (zbZ (i:=2) sc_end_of_class.nd rfl (aD rfl) (vbm m_find (vv 0) (zac zfI (zac (vv 1) zan))))
   (ssc (sIf (tcm (zfM) (vv 2) (vun zdL zaq) (zai _)) (ss1 sNev) ss0)
   (ss1 (zbx (vop zdh (vv 2) zaq))))))
def zjj(T:Txt w K mg)(F:FunA K "is_class" "is_class" zdU f fd):FnOk P w K mg base CX0 1 f fd ["letters"] (spD K [.v] zez):=by
 refine zaz F zjl zfs rfl (λ_ _ h=>h) λcdv A outer s H E hr=>?_;have hu:=zaP hr;exact(ssc (sIf (tww (zjF (tcm (zfM) (vv 0) zfI (zai _)) (zeS (tnt (tva (vcb c_all (by rfl) T.m_all boot_all (zac (vlc (N:=["letter"]) (fr:=[]) ⟨rfl,rfl,rfl,by decide +kernel,rfl,rfl⟩ (iis (vv 0)) (λ_ _ _ _=>by exact if0) (λ_ _ _ _=>by exact(zjc (o_inS) (vv 0) (vglS (by rfl) T.g_LETTERS) (by with_unfolding_all rfl)))) zan))))))) (ss1 (zbx vbl)) ss0)
   (ss1 (zbx (zjc (o_eqD hr) (vct c_listS (by rfl) T.m_list boot_list (zac (vv 0) zan)) (vSortSetS (vv 0) (by rfl) T.m_sorted zd1 (by rfl) T.m_set zjo) (zai _)))))
def zio(T:Txt w K mg)(F:FunA K "_law_cell" "_law_cell" zdp f fd):FnOk P w K mg base CX0 1 f fd ["_law_script","_law_at"] (spD K [.b,.v] zap):=by
 refine zaz F sc__law_cell zdP rfl (λ_ _ h=>h) λcdv A outer s H E hr=>?_;have hu:=zaP hr;exact(ssc (sIf (tcm ((o_lt)) (vv 1) (vcb zb0 (by rfl) T.m_len zat (zac (vv 0) zan)) (zai _)) (ss1 (zbx (vix zcL (vv 0) (vv 1) (λ_ _=>rfl)))) ss0)
   (ssc (zbZ (i:=2) sc__law_cell.nd rfl (aD rfl) (vop zdh zaq (vop zfi (vop zfi zaq (vv 1)) (vv 1))))
   (ssc (zhK (iil (vsl l_list (vv 0) von (vos zaq))) (gnm (i:=3) sc__law_cell.nd rfl (aD rfl))
   (ss1 (zbZ (i:=2) sc__law_cell.nd rfl (aD rfl) (vop zdb (vop zdh (vop zfi (vv 2) zaq) (vv 3)) zaq))))
   (ssc (zbZ (i:=2) sc__law_cell.nd rfl (aD rfl) (vop zdb (vop zdh (vop zfi (vv 2) zaq) (vop zfi zaq (vv 1))) zaq))
   (ss1 (zbx (vop zdb (vop zfi (vv 2) (vv 2)) zaq)))))))
def zcx(T:Txt w K mg)(F:FunA K "_law_digits" "_law_digits" zcv f fd):FnOk P w K mg base CX0 1 f fd ["_law_cell_here","_law_base","_law_many"] (spD K [.v,.v,.v] zax):=by
 refine zaz F sc__law_digits zcS rfl (λ_ _ h=>h) λcdv A outer s H E hr=>?_;have hu:=zaP hr;exact(ssc (zbZ (i:=3) sc__law_digits.nd rfl (aD rfl) (zha zan))
   (ssc (zbZ (i:=4) sc__law_digits.nd rfl (aD rfl) (vv 0))
   (ssc (zhK (iir1 (by rfl) T.m_range (zac (vv 2) zan)) (gnm (i:=5) sc__law_digits.nd rfl (aD rfl))
   (ssc (sApp 3 (vop zdb (vv 4) (vv 1)))
   (ss1 (zbZ (i:=4) sc__law_digits.nd rfl (aD rfl) (vop zgk (vv 4) (vv 1))))))
   (ssc (sIf (tww (tan (tcm (o_gt) (vv 2) zaq (zai _)) (tan (tcm (zfM) (vv 4) zaq (zai _)) (tan1 (tcm (zfM) (vix zcL (vv 3) (vun zdL zaq) (λ_ _=>rfl)) zaq (zai _)))))) (ssc (zbZ (i:=4) sc__law_digits.nd rfl (aD rfl) (vop zdb (vop zdh (vop zfi (vv 0) zaq) (vop zfi zaq (vv 2))) zaq))
   (ssc (zbZ (i:=3) sc__law_digits.nd rfl (aD rfl) (zha zan))
   (ss1 (zhK (iir1 (by rfl) T.m_range (zac (vv 2) zan)) (gnm (i:=5) sc__law_digits.nd rfl (aD rfl))
   (ssc (zbZ (i:=4) sc__law_digits.nd rfl (aD rfl) (vop zdb (vop zdh (vop zdh (vop zfi (vv 4) zaq) (vop zfi (vop zfi zaq (vv 5)) (vv 5))) zaq) zaq))
   (ss1 (sApp 3 (vop zdb (vop zgk (vop zdb (vop zfi (vv 4) (vv 4)) zaq) zaq) (vv 1))))))))) ss0)
   (ss1 (ziZ 3))))))
def zhO(T:Txt w K mg)(F:FunA K "_law_pool" "_law_pool" zdk f fd):FnOk P w K mg base CX0 1 f fd ["_law_cell_here"] (spD K [.v] zc5):=by
 refine zaz F sc__law_pool zeM rfl (λ_ _ h=>h) λcdv A outer s H E hr=>?_;have hu:=zaP hr;exact(ssc (zbZ (i:=1) sc__law_pool.nd rfl (bA rfl) zfI)
   (ssc (zbZ (i:=2) sc__law_pool.nd rfl (aD rfl) (vix zcL (zha (zac zaq (zac zaq (zac zaq (zac zaq zan))))) (vop zdb (vv 0) zaq) (λ_ _=>rfl)))
   (ss1 (zbx (vlc (N:=["_law_k","_law_letters","_law_cell_here"]) (fr:=[1,0]) ⟨rfl,rfl,rfl,by decide +kernel,rfl,rfl⟩ (iir1 (by rfl) T.m_range (zac (vv 2) zan)) (λ_ _ _ _=>by exact if0) (λ_ _ _ _=>by exact(vix zhC (vv 1) (vop zdb (vop zdh (vop zgk (vv 2) zaq) (vv 0)) zaq) (λ_ _=>rfl))))))))
def zht(T:Txt w K mg)(F:FunA K "_law_class" "_law_class" zcX f fd):FnOk P w K mg base CX0 1 f fd ["_law_pool_here","_law_number"] (spD K [.b,.v] zba):=by
 refine zaz F sc__law_class zbp rfl (λ_ _ h=>h) λcdv A outer s H E hr=>?_;have hu:=zaP hr;exact(ssc (zbZ (i:=2) sc__law_class.nd rfl (aD rfl) zfI)
   (ssc (zbZ (i:=3) sc__law_class.nd rfl (aD rfl) (vop zdb (vv 1) zaq))
   (ssc (zbZ (i:=1) sc__law_class.nd rfl (aD rfl) (vop zgk (vv 1) zaq))
   (ssc (sIf (tww (tan (tcm (zfM) (vv 3) zaq (zai _)) (tan1 (tcm (zfM) (vop zdb (vv 1) zaq) zaq (zai _))))) (ss1 (ziZ 2)) ss0)
   (ssc (sIf (tcm ((o_lt)) (vv 3) zaq (zai _)) (ss1 (zbx (vix zcL (vv 0) (vop zdb (vv 1) (vcb zb0 (by rfl) T.m_len zat (zac (vv 0) zan))) (λ_ _=>rfl)))) ss0)
   (ssc (sIf (tcm (zfM) (vv 3) zaq (zai _)) (ss1 (zbx (vbm m_join zfI (zac (vSortSetL (zha (zac (vix zcL (vv 0) (vop zdb (vv 1) (vcb zb0 (by rfl) T.m_len zat (zac (vv 0) zan))) (λ_ _=>rfl)) (zac (vix zcL (vv 0) (vop zdb (vop zgk (vv 1) zaq) (vcb zb0 (by rfl) T.m_len zat (zac (vv 0) zan))) (λ_ _=>rfl)) zan))) (by rfl) T.m_sorted zd1 (by rfl) T.m_set zjo) zan)))) ss0)
   (ssc (zbZ (i:=4) sc__law_class.nd rfl (aD rfl) zfI)
   (ssc (zbZ (i:=1) sc__law_class.nd rfl (aD rfl) (vop zdh (vop zdb (vv 1) zaq) zaq))
   (ssc (zhK (iis (vv 2)) (gnm (i:=5) sc__law_class.nd rfl (aD rfl))
   (ssc (sIf (tcm (zfM) (vop zdb (vv 1) zaq) zaq (zai _)) (ss1 (zbZ (i:=4) sc__law_class.nd rfl (aD rfl) (vop zfB (vv 4) (vv 5)))) ss0)
   (ss1 (zbZ (i:=1) sc__law_class.nd rfl (aD rfl) (vop zgk (vv 1) zaq)))))
   (ss1 (ziZ 4)))))))))))
def zgl(T:Txt w K mg)(F:FunA K "_law_written" "_law_written" zb2 f fd):FnOk P w K mg base CX0 1 f fd ["_law_pattern_here"] (spD K [.v] zbN):=by
 refine zaz F sc__law_written zdz rfl (λ_ _ h=>h) λcdv A outer s H E hr=>?_;have hu:=zaP hr;exact(ssc (zbZ (i:=1) sc__law_written.nd rfl (aD rfl) zfI)
   (ssc (zhK (iit (vv 0)) (gnm (i:=2) sc__law_written.nd rfl (aD rfl))
   (ss1 (sIf (tcm (zfM) (vcb zfg (by rfl) T.m_len zat (zac (vv 2) zan)) zaq (zai _)) (ss1 (zbZ (i:=1) sc__law_written.nd rfl (aD rfl) (vop zfB (vv 1) (vv 2)))) (ss1 (zbZ (i:=1) sc__law_written.nd rfl (aD rfl) (vop zfB (vv 1) (vix zcL (zha (zac zfI (zac (vop zfB (vop zfB zfI (vv 2)) zfI) zan))) (vct c_int1 (by rfl) T.m_int zfO (zac (zjc ((o_lt)) (vcb zfg (by rfl) T.m_len zat (zac (vv 2) zan)) zaq (zai _)) zan)) (λ_ _=>rfl))))))))
   (ss1 (ziZ 1))))
def zdJ(T:Txt w K mg)(F:FunA K "__init__" "Sight.__init__" zay f fd):FnOk P w K mg base CX0 1 f fd ["self","most"] (spM K zbg):=by
 obtain⟨C_Sight,DC_Sight⟩:=T.c_Sight;refine zgG (n:=1) F zfh zcI rfl (λ_ _ _ h=>h) λcdv A outer s H E hr=>?_;have hu:=zaP hr;exact(ssc (zh3 (ns:=[]) 0 DC_Sight.toF (vv 1))
   (ssc (zh3 (ns:=["most"]) 0 DC_Sight.toF zaq)
   (ss1 (zh3 (ns:=["most","end"]) 0 DC_Sight.toF (zha zan)))))
def zdN(T:Txt w K mg)(F:FunA K "come" "Sight.come" zaR f fd):FnOk P w K mg base CX0 1 f fd ["self","price"] (spM K za9):=by
 obtain⟨C_Sight,DC_Sight⟩:=T.c_Sight;refine zgG (n:=1) F zhu zcC rfl (λ_ _ _ h=>h) λcdv A outer s H E hr=>?_;have hu:=zaP hr;exact(ssc (sIf (tww (tan (tcm (o_noN) (vv 1) zhN (zai _)) (tan1 (tcm (o_le) (vv 1) (vFld (ns:=["most","end","pairs"]) 0 0 DC_Sight.toF) (zai _))))) (ss1 (sFApp (ns:=["most","end","pairs"]) 0 2 DC_Sight.toF (vtup (zac (vFld (ns:=["most","end","pairs"]) 0 1 DC_Sight.toF) (zac (vv 1) zan))))) ss0)
   (ss1 (sFSet (ns:=["most","end","pairs"]) 0 1 DC_Sight.toF (vop zdh (vFld (ns:=["most","end","pairs"]) 0 1 DC_Sight.toF) zaq))))
def zeY(T:Txt w K mg)(F:FunA K "tell" "Sight.tell" zaT f fd):FnOk P w K mg base CX0 1 f fd ["self"] (spM K zcE):=by
 obtain⟨C_Sight,DC_Sight⟩:=T.c_Sight;refine zgG (n:=0) F sc_Sight_tell zen rfl (λ_ _ _ h=>h) λcdv A outer s H E hr=>?_;have hu:=zaP hr;exact(ssc (zbZ (i:=1) sc_Sight_tell.nd rfl (aD rfl) (vct zej (by rfl) T.m_tuple zaw (zac (vFld (ns:=["most","end","pairs"]) 0 2 DC_Sight.toF) zan)))
   (ssc (sFSet (ns:=["most","end","pairs"]) 0 2 DC_Sight.toF (zha zan))
   (ss1 (ziZ 1))))
def zek(T:Txt w K mg)(F:FunA K "first_column" "first_column" zb6 f fd):FnOk P w K mg base CX0 2 f fd ["pattern","prices"] (spD K [.v,.v] zbJ):=by
 obtain⟨_,_,D_stepped⟩:=T.d_stepped;have G_stepped:=zgL (P:=P) (base:=base) T (.of D_stepped.fn);refine zaz F sc_first_column zdE rfl (λ_ _ h=>h) λcdv A outer s H E hr=>?_;have hu:=zaP hr;exact(ssc (zbZ (i:=2) sc_first_column.nd rfl (aD rfl) (zha (zac zaq zan)))
   (ssc (zhK (iir2 (by rfl) T.m_range (zac zaq (zac (vop zdh (vcb zb0 (by rfl) T.m_len zat (zac (vv 0) zan)) zaq) zan))) (gnm (i:=3) sc_first_column.nd rfl (aD rfl))
   (ss1 (sApp 2 (vcl G_stepped D_stepped hr (by rfl) zas (zac (vix zcL (vv 2) (vop zfy (vv 3) zaq) (λ_ _=>rfl)) (zac (vix zbG (vv 1) (vglI (by rfl) T.g_LEFT) (λ_ _=>rfl)) zan))))))
   (ss1 (zbx (vct zej (by rfl) T.m_tuple zaw (zac (vv 2) zan))))))
def zdI(T:Txt w K mg)(F:FunA K "further_column" "further_column" zbC f fd):FnOk P w K mg base CX0 2 f fd ["columns","pattern","text","prices","free"] (spD K [.b,.v,.v,.v,.v] zbU):=by
 obtain⟨_,_,D_cell_ahead_of_turn⟩:=T.d_cell_ahead_of_turn;have G_cell_ahead_of_turn:=zea (P:=P) (base:=base) T (.of D_cell_ahead_of_turn.fn);obtain⟨_,_,D_lowest⟩:=T.d_lowest;have G_lowest:=zhW (P:=P) (base:=base) T (.of D_lowest.fn);obtain⟨_,_,D_stepped⟩:=T.d_stepped;have G_stepped:=zgL (P:=P) (base:=base) T (.of D_stepped.fn);refine zaz F sc_further_column zbW rfl (λ_ _ h=>h) λcdv A outer s H E hr=>?_;have hu:=zaP hr;exact(ssc (zbZ (i:=5) sc_further_column.nd rfl (aD rfl) (vix zcL (vv 0) (vun zdL zaq) (λ_ _=>rfl)))
   (ssc (zbZ (i:=6) sc_further_column.nd rfl (aD rfl) (zha (zac (vif (tva (vv 4)) zaq (vcl G_stepped D_stepped hr (by rfl) zas (zac (vix zbG (vv 5) zaq (λ_ _=>rfl)) (zac (vix zbG (vv 3) (vglI (by rfl) T.g_PUT) (λ_ _=>rfl)) zan)))) zan)))
   (ssc (zhK (iir2 (by rfl) T.m_range (zac zaq (zac (vop zdh (vcb zb0 (by rfl) T.m_len zat (zac (vv 1) zan)) zaq) zan))) (gnm (i:=7) sc_further_column.nd rfl (aD rfl))
   (ssc (zbZ (i:=8) sc_further_column.nd rfl (aD rfl) (zjc (o_inS) (vix zhC (vv 2) (vun zdL zaq) (λ_ _=>rfl)) (vix zbG (vv 1) (vop zfy (vv 7) zaq) (λ_ _=>rfl)) (by with_unfolding_all rfl)))
   (ss1 (sApp 6 (vcl G_lowest D_lowest hr (by rfl) zas (zac (zha (zac (vif (tva (vv 8)) (vix zbG (vv 5) (vop zfy (vv 7) zaq) (λ_ _=>rfl)) (vcl G_stepped D_stepped hr (by rfl) zas (zac (vix zbG (vv 5) (vop zfy (vv 7) zaq) (λ_ _=>rfl)) (zac (vix zbG (vv 3) (vglI (by rfl) T.g_EXCHANGED) (λ_ _=>rfl)) zan)))) (zac (vcl G_stepped D_stepped hr (by rfl) zas (zac (vix zbG (vv 5) (vv 7) (λ_ _=>rfl)) (zac (vix zbG (vv 3) (vglI (by rfl) T.g_PUT) (λ_ _=>rfl)) zan))) (zac (vcl G_stepped D_stepped hr (by rfl) zas (zac (vix zcL (vv 6) (vop zfy (vv 7) zaq) (λ_ _=>rfl)) (zac (vix zbG (vv 3) (vglI (by rfl) T.g_LEFT) (λ_ _=>rfl)) zan))) (zac (vcl G_stepped D_stepped hr (by rfl) zas (zac (vcl G_cell_ahead_of_turn D_cell_ahead_of_turn hr (by rfl) zas (zac (vv 0) (zac (vv 1) (zac (vv 2) (zac (vv 7) zan))))) (zac (vix zbG (vv 3) (vglI (by rfl) T.g_TURNED) (λ_ _=>rfl)) zan))) zan))))) zan))))))
   (ss1 (zbx (vct zej (by rfl) T.m_tuple zaw (zac (vv 6) zan)))))))
def zkt(T:Txt w K mg)(F:FunA K "is_done" "is_done" zey f fd):FnOk P w K mg base CX0 2 f fd ["prices","step"] (spD K [.v,.v] zei):=by
 obtain⟨_,_,D_step_price⟩:=T.d_step_price;have G_step_price:=ze0 (P:=P) (base:=base) T (.of D_step_price.fn);refine zaz F zko zid rfl (λ_ _ h=>h) λcdv A outer s H E hr=>?_;have hu:=zaP hr;exact(ss1 (zbx (vor (zjc (zfM) (vv 1) zfI (zai _)) (vone (zjc (o_ne) (vcl G_step_price D_step_price hr (by rfl) zas (zac (vv 0) (zac (vv 1) zan))) zaq (zai _))))))
def zfQ(T:Txt w K mg)(F:FunA K "first_lowest" "first_lowest" zcg f fd):FnOk P w K mg base CX0 2 f fd ["told"] (spD K [.v] zcw):=by
 obtain⟨_,_,D_lowest⟩:=T.d_lowest;have G_lowest:=zhW (P:=P) (base:=base) T (.of D_lowest.fn);refine zaz F sc_first_lowest zdC rfl (λ_ _ h=>h) λcdv A outer s H E hr=>?_;have hu:=zaP hr;exact(ssc (zbZ (i:=1) sc_first_lowest.nd rfl (aD rfl) (vcl G_lowest D_lowest hr (by rfl) zas (zac (vv 0) zan)))
   (ssc (sIf (tcm (o_isN) (vv 1) zhN (zai _)) (ss1 (zbx zhN)) ss0)
   (ss1 (zbx (vtup (zac (vbt m_idxT (vv 0) (zac (vv 1) zan)) (zac (vv 1) zan)))))))
def zgh(T:Txt w K mg)(F:FunA K "show_pattern" "show_pattern" zb5 f fd):FnOk P w K mg base CX0 2 f fd ["P"] (spD K [.v] zbP):=by
 obtain⟨_,_,D_show_class⟩:=T.d_show_class;have G_show_class:=zfe (P:=P) (base:=base) T (.of D_show_class.fn);refine zaz F zf8 zdy rfl (λ_ _ h=>h) λcdv A outer s H E hr=>?_;have hu:=zaP hr;exact(ss1 (zbx (vbm m_join zfI (zac (vlc (N:=["letters"]) (fr:=[]) ⟨rfl,rfl,rfl,by decide +kernel,rfl,rfl⟩ (iit (vv 0)) (λ_ _ _ _=>by exact if0) (λ_ _ _ _=>by exact(vcl G_show_class D_show_class hr (by rfl) zas (zac (vv 0) zan)))) zan))))
def zhq(T:Txt w K mg)(F:FunA K "read_class" "read_class" zcR f fd):FnOk P w K mg base CX0 2 f fd ["written"] (spD K [.v] zbX):=by
 obtain⟨_,_,D_is_class⟩:=T.d_is_class;have G_is_class:=zjj (P:=P) (base:=base) T (.of D_is_class.fn);obtain⟨_,_,D_show_class⟩:=T.d_show_class;have G_show_class:=zfe (P:=P) (base:=base) T (.of D_show_class.fn);refine zaz F sc_read_class zdm rfl (λ_ _ h=>h) λcdv A outer s H E hr=>?_;have hu:=zaP hr;exact(ssc (zbZ (i:=1) sc_read_class.nd rfl (aD rfl) (vif (tcm (zfM) (vv 0) zfI (zai _)) (vglS (by rfl) T.g_LETTERS) (vbm m_strip (vv 0) (zac zfI zan))))
   (ssc (sIf (tww (zjF (tnt (tva (vcl G_is_class D_is_class hr (by rfl) zas (zac (vv 1) zan)))) (zeS (tcm (o_ne) (vcl G_show_class D_show_class hr (by rfl) zas (zac (vv 1) zan)) (vv 0) (zai _))))) (ss1 sNev) ss0)
   (ss1 (ziZ 1))))
def zia(T:Txt w K mg)(F:FunA K "_law_text" "_law_text" zdl f fd):FnOk P w K mg base CX0 2 f fd ["_law_pool_here","_law_cell_here","_law_many"] (spD K [.b,.v,.v] zc4):=by
 obtain⟨_,_,D__law_digits⟩:=T.d__law_digits;have G__law_digits:=zcx (P:=P) (base:=base) T (.of D__law_digits.fn);refine zaz F zh6 zeK rfl (λ_ _ h=>h) λcdv A outer s H E hr=>?_;have hu:=zaP hr;exact(ss1 (zbx (vbm m_join zfI (zac (vlc (N:=["_law_digit","_law_pool_here"]) (fr:=[0]) ⟨rfl,rfl,rfl,by decide +kernel,rfl,rfl⟩ (iil (vcl G__law_digits D__law_digits hr (by rfl) zas (zac (vv 1) (zac (vcb zb0 (by rfl) T.m_len zat (zac (vv 0) zan)) (zac (vv 2) zan))))) (λ_ _ _ _=>by exact if0) (λ_ _ _ _=>by exact(vix zcL (vv 1) (vv 0) (λ_ _=>rfl)))) zan))))
def zfU(T:Txt w K mg)(F:FunA K "_law_pattern" "_law_pattern" zb3 f fd):FnOk P w K mg base CX0 2 f fd ["_law_pool_here","_law_cell_here","_law_many"] (spD K [.b,.v,.v] zcy):=by
 obtain⟨_,_,D__law_class⟩:=T.d__law_class;have G__law_class:=zht (P:=P) (base:=base) T (.of D__law_class.fn);obtain⟨_,_,D__law_digits⟩:=T.d__law_digits;have G__law_digits:=zcx (P:=P) (base:=base) T (.of D__law_digits.fn);refine zaz F zgm zdA rfl (λ_ _ h=>h) λcdv A outer s H E hr=>?_;have hu:=zaP hr;exact(ss1 (zbx (vct zej (by rfl) T.m_tuple zaw (zac (vlc (N:=["_law_digit","_law_pool_here"]) (fr:=[0]) ⟨rfl,rfl,rfl,by decide +kernel,rfl,rfl⟩ (iil (vcl G__law_digits D__law_digits hr (by rfl) zas (zac (vv 1) (zac (vop zfi zaq zaq) (zac (vv 2) zan))))) (λ_ _ _ _=>by exact if0) (λ_ _ _ _=>by exact(vcl G__law_class D__law_class hr (by rfl) zas (zac (vv 1) (zac (vv 0) zan))))) zan))))
def zgB(T:Txt w K mg)(F:FunA K "_law_prices" "_law_prices" zcs f fd):FnOk P w K mg base CX0 2 f fd ["_law_cell_here"] (spD K [.v] zcV):=by
 obtain⟨_,_,D__law_digits⟩:=T.d__law_digits;have G__law_digits:=zcx (P:=P) (base:=base) T (.of D__law_digits.fn);refine zaz F zgu zcf rfl (λ_ _ h=>h) λcdv A outer s H E hr=>?_;have hu:=zaP hr;exact(ssc (sIf (tcm (zfM) (vop zdb (vv 0) zaq) zaq (zai _)) (ss1 (zbx (vtup (zac zaq (zac zaq (zac zaq (zac zaq zan))))))) ss0)
   (ssc (sIf (tcm (zfM) (vop zdb (vv 0) zaq) zaq (zai _)) (ss1 (zbx (vix zcL (zha (zac (vtup (zac zaq (zac zaq (zac zaq (zac zaq zan))))) (zac (vtup (zac zaq (zac zaq (zac zaq (zac zaq zan))))) (zac (vtup (zac zaq (zac zaq (zac zaq (zac zaq zan))))) (zac (vtup (zac zaq (zac zaq (zac zaq (zac zaq zan))))) (zac (vtup (zac zaq (zac zaq (zac zaq (zac zaq zan))))) zan)))))) (vop zdb (vop zgk (vv 0) zaq) zaq) (λ_ _=>rfl)))) ss0)
   (ss1 (zbx (vct zej (by rfl) T.m_tuple zaw (zac (vcl G__law_digits D__law_digits hr (by rfl) zas (zac (vop zgk (vv 0) zaq) (zac zaq (zac zaq zan)))) zan))))))
def zdW(T:Txt w K mg)(F:FunA K "cells_of" "cells_of" zbt f fd):FnOk P w K mg base CX0 3 f fd ["P","T","prices","free"] (spD K [.v,.v,.v,.v] zcl):=by
 obtain⟨_,_,D_first_column⟩:=T.d_first_column;have G_first_column:=zek (P:=P) (base:=base) T (.of D_first_column.fn);obtain⟨_,_,D_further_column⟩:=T.d_further_column;have G_further_column:=zdI (P:=P) (base:=base) T (.of D_further_column.fn);obtain⟨_,_,D_row_across⟩:=T.d_row_across;have G_row_across:=zhe (P:=P) (base:=base) T (.of D_row_across.fn);refine zaz F sc_cells_of zfj rfl (λ_ _ h=>h) λcdv A outer s H E hr=>?_;have hu:=zaP hr;exact(ssc (zbZ (i:=4) sc_cells_of.nd rfl (bA rfl) (zha (zac (vcl G_first_column D_first_column hr (by rfl) zas (zac (vv 0) (zac (vv 2) zan))) zan)))
   (ssc (zhK (iir2 (by rfl) T.m_range (zac zaq (zac (vop zdh (vcb zfg (by rfl) T.m_len zat (zac (vv 1) zan)) zaq) zan))) (gnm (i:=5) sc_cells_of.nd rfl (aD rfl))
   (ss1 (sApp 4 (vcl G_further_column D_further_column hr (by rfl) zas (zac (vv 4) (zac (vv 0) (zac (vsl l_str (vv 1) von (vos (vv 5))) (zac (vv 2) (zac (vv 3) zan)))))))))
   (ss1 (zbx (vct zej (by rfl) T.m_tuple zaw (zac (vlc (N:=["classes","columns"]) (fr:=[4]) ⟨rfl,rfl,rfl,by decide +kernel,rfl,rfl⟩ (iir1 (by rfl) T.m_range (zac (vop zdh (vcb zb0 (by rfl) T.m_len zat (zac (vv 0) zan)) zaq) zan)) (λ_ _ _ _=>by exact if0) (λ_ _ _ _=>by exact(vcl G_row_across D_row_across hr (by rfl) zas (zac (vv 1) (zac (vv 0) zan))))) zan))))))
def zhn(T:Txt w K mg)(F:FunA K "comes_last" "comes_last" zcO f fd):FnOk P w K mg base CX0 3 f fd ["cells","pattern","text","prices","classes","signs","step"] (spD K [.v,.v,.v,.v,.v,.v,.v] zee):=by
 obtain⟨_,_,D_can_stand⟩:=T.d_can_stand;have G_can_stand:=zhS (P:=P) (base:=base) T (.of D_can_stand.fn);obtain⟨_,_,D_is_done⟩:=T.d_is_done;have G_is_done:=zkt (P:=P) (base:=base) T (.of D_is_done.fn);obtain⟨_,_,D_step_price⟩:=T.d_step_price;have G_step_price:=ze0 (P:=P) (base:=base) T (.of D_step_price.fn);refine zaz F sc_comes_last zdu rfl (λ_ _ h=>h) λcdv A outer s H E hr=>?_;have hu:=zaP hr;exact(ssc (zbZ (i:=7) sc_comes_last.nd rfl (aD rfl) (vop zfy (vv 4) (vgx (by rfl) T.t_CLASSES_USED (vv 6))))
   (ssc (zbZ (i:=8) sc_comes_last.nd rfl (aD rfl) (vop zfy (vv 5) (vgx (by rfl) T.t_SIGNS_USED (vv 6))))
   (ssc (sIf (tww (zjF (tcm ((o_lt)) (vv 7) zaq (zai _)) (zeS (tcm ((o_lt)) (vv 8) zaq (zai _))))) (ss1 (zbx vbl)) ss0)
   (ssc (sIf (tww (zjF (tnt (tva (vcl G_is_done D_is_done hr (by rfl) zas (zac (vv 3) (zac (vv 6) zan))))) (zeS (tnt (tva (vcl G_can_stand D_can_stand hr (by rfl) zas (zac (vv 1) (zac (vv 2) (zac (vv 7) (zac (vv 8) (zac (vv 6) zan))))))))))) (ss1 (zbx vbl)) ss0)
   (ssc (zbZ (i:=9) sc_comes_last.nd rfl (aD rfl) (vix zbG (vix zbG (vv 0) (vv 7) (λ_ _=>rfl)) (vv 8) (λ_ _=>rfl)))
   (ss1 (zbx (vand (zjc (o_noN) (vv 9) zhN (zai _)) (vone (zjc (zfM) (vop zdh (vv 9) (vcl G_step_price D_step_price hr (by rfl) zas (zac (vv 3) (zac (vv 6) zan)))) (vix zbG (vix zbG (vv 0) (vv 4) (λ_ _=>rfl)) (vv 5) (λ_ _=>rfl)) (zai _)))))))))))
def zgo(T:Txt w K mg)(F:FunA K "read_pattern" "read_pattern" zb1 f fd):FnOk P w K mg base CX0 3 f fd ["thing"] (spD K [.v] zbK):=by
 obtain⟨_,_,D_end_of_class⟩:=T.d_end_of_class;have G_end_of_class:=zfV (P:=P) (base:=base) T (.of D_end_of_class.fn);obtain⟨_,_,D_read_class⟩:=T.d_read_class;have G_read_class:=zhq (P:=P) (base:=base) T (.of D_read_class.fn);refine zaz F sc_read_pattern zdw rfl (λ_ _ h=>h) λcdv A outer s H E hr=>?_;have hu:=zaP hr;exact(ssc (sIf (tnt (tva (zkJ (vv 0) (by rfl) T.m_isinstance zal (by rfl) T.m_str boot_str))) (ss1 sNev) ss0)
   (ssc (zbZ (i:=1) sc_read_pattern.nd rfl (aD rfl) (zha zan))
   (ssc (zbZ (i:=2) sc_read_pattern.nd rfl (aD rfl) zaq)
   (ssc (sWhl 1000 (tcm ((o_lt)) (vv 2) (vcb zfg (by rfl) T.m_len zat (zac (vv 0) zan)) (zai _))
   (ssc (zbZ (i:=3) sc_read_pattern.nd rfl (aD rfl) (vcl G_end_of_class D_end_of_class hr (by rfl) zas (zac (vv 0) (zac (vv 2) zan))))
   (ssc (sApp 1 (vcl G_read_class D_read_class hr (by rfl) zas (zac (vsl l_str (vv 0) (vos (vv 2)) (vos (vv 3))) zan)))
   (ss1 (zbZ (i:=2) sc_read_pattern.nd rfl (aD rfl) (vv 3))))))
   (ssc (sIf (tcm (o_gt) (vcb zb0 (by rfl) T.m_len zat (zac (vv 1) zan)) (vglI (by rfl) T.g_MOST_CLASSES) (zai _)) (ss1 sNev) ss0)
   (ss1 (zbx (vct zej (by rfl) T.m_tuple zaw (zac (vv 1) zan)))))))))
def ze3(T:Txt w K mg)(F:FunA K "__init__" "Finder.__init__" zav f fd):FnOk P w K mg base CX0 3 f fd ["self","P","most","prices"] (spM K zbz):=by
 obtain⟨C_Finder,DC_Finder⟩:=T.c_Finder;obtain⟨C_Sight,DC_Sight⟩:=T.c_Sight;obtain⟨_,_,D_Sight___init__⟩:=T.d_Sight___init__;have G_Sight___init__:=zdJ (P:=P) (base:=base) T D_Sight___init__.fn;obtain⟨_,_,D_Sight_come⟩:=T.d_Sight_come;have G_Sight_come:=zdN (P:=P) (base:=base) T D_Sight_come.fn;obtain⟨_,_,D_first_column⟩:=T.d_first_column;have G_first_column:=zek (P:=P) (base:=base) T (.of D_first_column.fn);refine zgG (n:=3) F ze7 zco rfl (λ_ _ _ h=>h) λcdv A outer s H E hr=>?_;have hu:=zaP hr;exact(ssc (zh3 (ns:=[]) 0 DC_Finder.toF (vv 1))
   (ssc (zh3 (ns:=["pattern"]) 0 DC_Finder.toF (vv 3))
   (ssc (zh3 (ns:=["pattern","prices"]) 0 DC_Finder.toF (zha (zac (vcl G_first_column D_first_column hr (by rfl) zas (zac (vv 1) (zac (vv 3) zan))) zan)))
   (ssc (zh3 (ns:=["pattern","prices","columns"]) 0 DC_Finder.toF zfI)
   (ssc (zh3 (ns:=["pattern","prices","columns","last_sign"]) 0 DC_Finder.toF (vmake DC_Sight D_Sight___init__ G_Sight___init__ hr (by rfl) zas (zac (vv 2) zan)))
   (ss1 (sX (xmethF (ns:=["pattern","prices","columns","last_sign","sight"]) (ns2:=["most","end","pairs"]) 0 4 DC_Finder DC_Sight D_Sight_come G_Sight_come hr zas (zac (vix zbG (vix zcL (vFld (ns:=["pattern","prices","columns","last_sign","sight"]) 0 2 DC_Finder.toF) (vun zdL zaq) (λ_ _=>rfl)) (vun zdL zaq) (λ_ _=>rfl)) zan)))))))))
def zgz(T:Txt w K mg)(F:FunA K "read" "Finder.read" zaJ f fd):FnOk P w K mg base CX0 3 f fd ["self","sign"] (spM K zcM):=by
 obtain⟨C_Finder,DC_Finder⟩:=T.c_Finder;obtain⟨C_Sight,DC_Sight⟩:=T.c_Sight;obtain⟨_,_,D_Sight_come⟩:=T.d_Sight_come;have G_Sight_come:=zdN (P:=P) (base:=base) T D_Sight_come.fn;obtain⟨_,_,D_further_column⟩:=T.d_further_column;have G_further_column:=zdI (P:=P) (base:=base) T (.of D_further_column.fn);refine zgG (n:=1) F sc_Finder_read zd3 rfl (λ_ _ _ h=>h) λcdv A outer s H E hr=>?_;have hu:=zaP hr;exact(ssc (zbZ (i:=2) sc_Finder_read.nd rfl (aD rfl) (vcl G_further_column D_further_column hr (by rfl) zas (zac (vFld (ns:=["pattern","prices","columns","last_sign","sight"]) 0 2 DC_Finder.toF) (zac (vFld (ns:=["pattern","prices","columns","last_sign","sight"]) 0 0 DC_Finder.toF) (zac (vop zfB (vFld (ns:=["pattern","prices","columns","last_sign","sight"]) 0 3 DC_Finder.toF) (vv 1)) (zac (vFld (ns:=["pattern","prices","columns","last_sign","sight"]) 0 1 DC_Finder.toF) (zac vbl zan)))))))
   (ssc (sFSet (ns:=["pattern","prices","columns","last_sign","sight"]) 0 2 DC_Finder.toF (zha (zac (vix zcL (vFld (ns:=["pattern","prices","columns","last_sign","sight"]) 0 2 DC_Finder.toF) (vun zdL zaq) (λ_ _=>rfl)) (zac (vv 2) zan))))
   (ssc (sFSet (ns:=["pattern","prices","columns","last_sign","sight"]) 0 3 DC_Finder.toF (vv 1))
   (ss1 (sX (xmethF (ns:=["pattern","prices","columns","last_sign","sight"]) (ns2:=["most","end","pairs"]) 0 4 DC_Finder DC_Sight D_Sight_come G_Sight_come hr zas (zac (vix zbG (vv 2) (vun zdL zaq) (λ_ _=>rfl)) zan)))))))
def zfJ(T:Txt w K mg)(F:FunA K "price_between" "price_between" zbV f fd):FnOk P w K mg base CX0 4 f fd ["P","T","prices"] (spD K [.v,.v,.v] zbo):=by
 obtain⟨_,_,D_cells_of⟩:=T.d_cells_of;have G_cells_of:=zdW (P:=P) (base:=base) T D_cells_of.fn;refine zaz F zfF zda rfl (λ_ _ h=>h) λcdv A outer s H E hr=>?_;have hu:=zaP hr;exact(ss1 (zbx (vix zbG (vix zbG (vclD G_cells_of D_cells_of hr (by rfl) zas (zac (vv 0) (zac (vv 1) (zac (vv 2) zan)))) (vun zdL zaq) (λ_ _=>rfl)) (vun zdL zaq) (λ_ _=>rfl))))
def zhR(T:Txt w K mg)(F:FunA K "last_step" "last_step" zdn f fd):FnOk P w K mg base CX0 4 f fd ["cells","pattern","text","prices","classes","signs"] (spD K [.v,.v,.v,.v,.v,.v] zcn):=by
 obtain⟨_,_,D_comes_last⟩:=T.d_comes_last;have G_comes_last:=zhn (P:=P) (base:=base) T (.of D_comes_last.fn);refine zaz F sc_last_step zeN rfl (λ_ _ h=>h) λcdv A outer s H E hr=>?_;have hu:=zaP hr;exact(ssc (sSetLC (i:=6) sc_last_step.nd rfl (aD rfl) (N:=["step","cells","pattern","text","prices","classes","signs"]) (fr:=[0,1,2,3,4,5]) ⟨rfl,rfl,rfl,by decide +kernel,rfl,rfl⟩ (iik (by rfl) T.k_CLASSES_USED) (λ_ _ _ _=>by exact(if1 (tva (vcl G_comes_last D_comes_last hr (by rfl) zas (zac (vv 1) (zac (vv 2) (zac (vv 3) (zac (vv 4) (zac (vv 5) (zac (vv 6) (zac (vv 0) zan))))))))))) (λ_ _ _ _=>by exact(vv 0)))
   (ss1 (zbx (vix zcL (vv 6) zaq (λ_ _=>rfl)))))
def zfl(T:Txt w K mg)(F:FunA K "prices_at_ends" "prices_at_ends" zbB f fd):FnOk P w K mg base CX0 4 f fd ["pattern","text","prices"] (spD K [.v,.v,.v] zbR):=by
 obtain⟨_,_,D_cells_of⟩:=T.d_cells_of;have G_cells_of:=zdW (P:=P) (base:=base) T D_cells_of.fn;refine zaz F zfr zcH rfl (λ_ _ h=>h) λcdv A outer s H E hr=>?_;have hu:=zaP hr;exact(ss1 (zbx (vix zbG (vclF G_cells_of D_cells_of hr (by rfl) zas (zac (vv 0) (zac (vv 1) (zac (vv 2) (zac vbl zan))))) (vun zdL zaq) (λ_ _=>rfl))))
def zeI(T:Txt w K mg)(F:FunA K "prices_by_length" "prices_by_length" zbe f fd):FnOk P w K mg base CX0 4 f fd ["pattern","text","prices"] (spD K [.v,.v,.v] zbm):=by
 obtain⟨_,_,D_cells_of⟩:=T.d_cells_of;have G_cells_of:=zdW (P:=P) (base:=base) T D_cells_of.fn;refine zaz F zeJ zcc rfl (λ_ _ h=>h) λcdv A outer s H E hr=>?_;have hu:=zaP hr;exact(ss1 (zbx (vix zbG (vclD G_cells_of D_cells_of hr (by rfl) zas (zac (vRvT (vv 0) (vun zdL zaq)) (zac (vRvS (vv 1) (vun zdL zaq)) (zac (vv 2) zan)))) (vun zdL zaq) (λ_ _=>rfl))))
def zf2(T:Txt w K mg)(F:FunA K "_law_alike" "_law_alike" zbc f fd):FnOk P w K mg base CX0 1 f fd ["_law_found","_law_due"] (spD K [.v,.v] zdx):=by
 refine zaz F sc__law_alike fNev rfl (λ_ _ h=>h) λcdv A outer s H E hr=>?_;exact ssNev
def zfW(T:Txt w K mg)(F:FunA K "_law_alike" "_law_alike" zbc f fd):FnOk P w K mg base CX0 2 f fd ["_law_found","_law_due"] (spD K [.v,.v] zbQ):=by
 obtain⟨_,_,D__law_alike⟩:=T.d__law_alike;have G__law_alike:=zf2 (P:=P) (base:=base) T (.of D__law_alike.fn);refine zaz F sc__law_alike (zaS zdx) rfl (λ_ _ h=>h) λcdv A outer s H E hr=>?_;have hu:=zaP hr;exact(ssc (sIf (tva (zkJ (vv 1) (by rfl) T.m_isinstance zal (by rfl) T.m_tuple zaw)) (ssc (sIf (tww (zjF (tnt (tva (zkJ (vv 0) (by rfl) T.m_isinstance zal (by rfl) T.m_tuple zaw))) (zeS (tcm (o_ne) (vcb zb0 (by rfl) T.m_len zat (zac (vv 0) zan)) (vcb zb0 (by rfl) T.m_len zat (zac (vv 1) zan)) (zai _))))) (ss1 (zbx vbl)) ss0)
   (ssc (zhK (iizip (zqv (vv 0)) (zqv (vv 1)) (by rfl) T.m_zip zhD) (gtp rfl (zj9 (gnm (i:=2) sc__law_alike.nd rfl (aD rfl)) (zj9 (gnm (i:=3) sc__law_alike.nd rfl (aD rfl)) gns0)) (hl:=gl1 (gl1 (gl0))))
   (ss1 (sIf (tnt (tva (vcl G__law_alike D__law_alike hr (by rfl) zas (zac (vv 2) (zac (vv 3) zan))))) (ss1 (zbx vbl)) ss0)))
   (ss1 (zbx vbl)))) ss0)
   (ss1 (zbx (vand (zkJ (vv 0) (by rfl) T.m_isinstance zal (by rfl) T.m_int zfO) (vand (vnot (zkJ (vv 0) (by rfl) T.m_isinstance zal (by rfl) T.m_bool zf1)) (vone (zjc (zfM) (vv 0) (vv 1) (zai _))))))))
def zf6(T:Txt w K mg)(F:FunA K "_law_alike" "_law_alike" zbc f fd):FnOk P w K mg base CX0 3 f fd ["_law_found","_law_due"] (spD K [.v,.v] zbL):=by
 obtain⟨_,_,D__law_alike⟩:=T.d__law_alike;have G__law_alike:=zfW (P:=P) (base:=base) T (.of D__law_alike.fn);refine zaz F sc__law_alike (zaS zbQ) rfl (λ_ _ h=>h) λcdv A outer s H E hr=>?_;have hu:=zaP hr;exact(ssc (sIf (tva (zkJ (vv 1) (by rfl) T.m_isinstance zal (by rfl) T.m_tuple zaw)) (ssc (sIf (tww (zjF (tnt (tva (zkJ (vv 0) (by rfl) T.m_isinstance zal (by rfl) T.m_tuple zaw))) (zeS (tcm (o_ne) (vcb zb0 (by rfl) T.m_len zat (zac (vv 0) zan)) (vcb zb0 (by rfl) T.m_len zat (zac (vv 1) zan)) (zai _))))) (ss1 (zbx vbl)) ss0)
   (ssc (zhK (iizip (zqv (vv 0)) (zqv (vv 1)) (by rfl) T.m_zip zhD) (gtp rfl (zj9 (gnm (i:=2) sc__law_alike.nd rfl (aD rfl)) (zj9 (gnm (i:=3) sc__law_alike.nd rfl (aD rfl)) gns0)) (hl:=gl1 (gl1 (gl0))))
   (ss1 (sIf (tnt (tva (vcl G__law_alike D__law_alike hr (by rfl) zas (zac (vv 2) (zac (vv 3) zan))))) (ss1 (zbx vbl)) ss0)))
   (ss1 (zbx vbl)))) ss0)
   (ss1 (zbx (vand (zkJ (vv 0) (by rfl) T.m_isinstance zal (by rfl) T.m_int zfO) (vand (vnot (zkJ (vv 0) (by rfl) T.m_isinstance zal (by rfl) T.m_bool zf1)) (vone (zjc (zfM) (vv 0) (vv 1) (zai _))))))))
def zer(T:Txt w K mg)(F:FunA K "_law_alike" "_law_alike" zbc f fd):FnOk P w K mg base CX0 4 f fd ["_law_found","_law_due"] (spD K [.v,.v] zaZ):=by
 obtain⟨_,_,D__law_alike⟩:=T.d__law_alike;have G__law_alike:=zf6 (P:=P) (base:=base) T (.of D__law_alike.fn);refine zaz F sc__law_alike (zaS zbL) rfl (λ_ _ h=>h) λcdv A outer s H E hr=>?_;have hu:=zaP hr;exact(ssc (sIf (tva (zkJ (vv 1) (by rfl) T.m_isinstance zal (by rfl) T.m_tuple zaw)) (ssc (sIf (tww (zjF (tnt (tva (zkJ (vv 0) (by rfl) T.m_isinstance zal (by rfl) T.m_tuple zaw))) (zeS (tcm (o_ne) (vcb zb0 (by rfl) T.m_len zat (zac (vv 0) zan)) (vcb zb0 (by rfl) T.m_len zat (zac (vv 1) zan)) (zai _))))) (ss1 (zbx vbl)) ss0)
   (ssc (zhK (iizip (zqv (vv 0)) (zqv (vv 1)) (by rfl) T.m_zip zhD) (gtp rfl (zj9 (gnm (i:=2) sc__law_alike.nd rfl (aD rfl)) (zj9 (gnm (i:=3) sc__law_alike.nd rfl (aD rfl)) gns0)) (hl:=gl1 (gl1 (gl0))))
   (ss1 (sIf (tnt (tva (vcl G__law_alike D__law_alike hr (by rfl) zas (zac (vv 2) (zac (vv 3) zan))))) (ss1 (zbx vbl)) ss0)))
   (ss1 (zbx vbl)))) ss0)
   (ss1 (zbx (vand (zkJ (vv 0) (by rfl) T.m_isinstance zal (by rfl) T.m_int zfO) (vand (vnot (zkJ (vv 0) (by rfl) T.m_isinstance zal (by rfl) T.m_bool zf1)) (vone (zjc (zfM) (vv 0) (vv 1) (zai _))))))))
def zgC(T:Txt w K mg)(F:FunA K "feed" "Finder.feed" zaL f fd):FnOk P w K mg base CX0 4 f fd ["self","T"] (spM K zb7):=by
 obtain⟨C_Finder,DC_Finder⟩:=T.c_Finder;obtain⟨C_Sight,DC_Sight⟩:=T.c_Sight;obtain⟨_,_,D_Finder_read⟩:=T.d_Finder_read;have G_Finder_read:=zgz (P:=P) (base:=base) T D_Finder_read.fn;obtain⟨_,_,D_Sight_tell⟩:=T.d_Sight_tell;have G_Sight_tell:=zeY (P:=P) (base:=base) T D_Sight_tell.fn;refine zgG (n:=1) F sc_Finder_feed zdS rfl (λ_ _ _ h=>h) λcdv A outer s H E hr=>?_;have hu:=zaP hr;exact(ssc (zhK (iis (vv 1)) (gnm (i:=2) sc_Finder_feed.nd rfl (aD rfl))
   (ss1 (sX (xmeth (ns:=["pattern","prices","columns","last_sign","sight"]) 0 DC_Finder D_Finder_read G_Finder_read hr zas (zac (vv 2) zan)))))
   (ss1 (sXRet (xmethF0 (ns:=["pattern","prices","columns","last_sign","sight"]) (ns2:=["most","end","pairs"]) 0 4 DC_Finder DC_Sight D_Sight_tell G_Sight_tell hr zas))))
def zgD(T:Txt w K mg)(F:FunA K "row_between" "row_between" zct f fd):FnOk P w K mg base CX0 5 f fd ["P","T","prices"] (spD K [.v,.v,.v] zcQ):=by
 obtain⟨_,_,D_cells_of⟩:=T.d_cells_of;have G_cells_of:=zdW (P:=P) (base:=base) T D_cells_of.fn;obtain⟨_,_,D_last_step⟩:=T.d_last_step;have G_last_step:=zhR (P:=P) (base:=base) T (.of D_last_step.fn);refine zaz F sc_row_between zdT rfl (λ_ _ h=>h) λcdv A outer s H E hr=>?_;have hu:=zaP hr;exact(ssc (zbZ (i:=3) sc_row_between.nd rfl (aD rfl) (vclD G_cells_of D_cells_of hr (by rfl) zas (zac (vv 0) (zac (vv 1) (zac (vv 2) zan)))))
   (ssc (sIf (tcm (o_isN) (vix zbG (vix zbG (vv 3) (vun zdL zaq) (λ_ _=>rfl)) (vun zdL zaq) (λ_ _=>rfl)) zhN (zai _)) (ss1 (zbx zhN)) ss0)
   (ssc (zbZ (i:=4) sc_row_between.nd rfl (aD rfl) (zha zan))
   (ssc (zbZ (i:=5) sc_row_between.nd rfl (aD rfl) (vcb zb0 (by rfl) T.m_len zat (zac (vv 0) zan)))
   (ssc (zbZ (i:=6) sc_row_between.nd rfl (aD rfl) (vcb zfg (by rfl) T.m_len zat (zac (vv 1) zan)))
   (ssc (sWhl 2100 (tww (zjF (tcm (o_gt) (vv 5) zaq (zai _)) (zeS (tcm (o_gt) (vv 6) zaq (zai _)))))
   (ssc (zbZ (i:=7) sc_row_between.nd rfl (aD rfl) (vcl G_last_step D_last_step hr (by rfl) zas (zac (vv 3) (zac (vv 0) (zac (vv 1) (zac (vv 2) (zac (vv 5) (zac (vv 6) zan))))))))
   (ssc (sApp 4 (vv 7))
   (ssc (zbZ (i:=5) sc_row_between.nd rfl (aD rfl) (vop zfy (vv 5) (vgx (by rfl) T.t_CLASSES_USED (vv 7))))
   (ss1 (zbZ (i:=6) sc_row_between.nd rfl (aD rfl) (vop zfy (vv 6) (vgx (by rfl) T.t_SIGNS_USED (vv 7)))))))))
   (ss1 (zbx (vTupRev (vv 4) (by rfl) T.m_tuple zaw (by rfl) T.m_reversed zhA)))))))))
def zgH(T:Txt w K mg)(F:FunA K "ends_in" "ends_in" zeu f fd):FnOk P w K mg base CX0 5 f fd ["P","T","most","prices"] (spD K [.v,.v,.v,.v] zdH):=by
 obtain⟨C_Sight,DC_Sight⟩:=T.c_Sight;obtain⟨_,_,D_Sight___init__⟩:=T.d_Sight___init__;have G_Sight___init__:=zdJ (P:=P) (base:=base) T D_Sight___init__.fn;obtain⟨_,_,D_Sight_come⟩:=T.d_Sight_come;have G_Sight_come:=zdN (P:=P) (base:=base) T D_Sight_come.fn;obtain⟨_,_,D_Sight_tell⟩:=T.d_Sight_tell;have G_Sight_tell:=zeY (P:=P) (base:=base) T D_Sight_tell.fn;obtain⟨_,_,D_prices_at_ends⟩:=T.d_prices_at_ends;have G_prices_at_ends:=zfl (P:=P) (base:=base) T (.of D_prices_at_ends.fn);refine zaz F sc_ends_in zgg rfl (λ_ _ h=>h) λcdv A outer s H E hr=>?_;have hu:=zaP hr;exact(ssc (sSetO (i:=4) (by decide) sc_ends_in.nd rfl (aD rfl) (vmake DC_Sight D_Sight___init__ G_Sight___init__ hr (by rfl) zas (zac (vv 2) zan)))
   (ssc (zhK (iit (vcl G_prices_at_ends D_prices_at_ends hr (by rfl) zas (zac (vv 0) (zac (vv 1) (zac (vv 3) zan))))) (gnm (i:=5) sc_ends_in.nd rfl (aD rfl))
   (ss1 (sX (xmeth (ns:=["most","end","pairs"]) 4 DC_Sight D_Sight_come G_Sight_come hr zas (zac (vv 5) zan)))))
   (ss1 (sXRet (xmeth0 (ns:=["most","end","pairs"]) 4 DC_Sight D_Sight_tell G_Sight_tell hr zas)))))
def zg4(T:Txt w K mg)(F:FunA K "stretch_at" "stretch_at" zcT f fd):FnOk P w K mg base CX0 6 f fd ["P","T","end","prices"] (spD K [.v,.v,.v,.v] zdj):=by
 obtain⟨_,_,D_first_lowest⟩:=T.d_first_lowest;have G_first_lowest:=zfQ (P:=P) (base:=base) T (.of D_first_lowest.fn);obtain⟨_,_,D_prices_by_length⟩:=T.d_prices_by_length;have G_prices_by_length:=zeI (P:=P) (base:=base) T (.of D_prices_by_length.fn);obtain⟨_,_,D_row_between⟩:=T.d_row_between;have G_row_between:=zgD (P:=P) (base:=base) T (.of D_row_between.fn);refine zaz F sc_stretch_at zes rfl (λ_ _ h=>h) λcdv A outer s H E hr=>?_;have hu:=zaP hr;exact(ssc (sIf (tww (zjF (tcm ((o_lt)) (vv 2) zaq (zai _)) (zeS (tcm (o_gt) (vv 2) (vcb zfg (by rfl) T.m_len zat (zac (vv 1) zan)) (zai _))))) (ss1 (zbx zhN)) ss0)
   (ssc (zbZ (i:=4) sc_stretch_at.nd rfl (aD rfl) (vcl G_first_lowest D_first_lowest hr (by rfl) zas (zac (vcl G_prices_by_length D_prices_by_length hr (by rfl) zas (zac (vv 0) (zac (vsl l_str (vv 1) von (vos (vv 2))) (zac (vv 3) zan)))) zan)))
   (ssc (sIf (tcm (o_isN) (vv 4) zhN (zai _)) (ss1 (zbx zhN)) ss0)
   (ssc (zbZ (i:=5) sc_stretch_at.nd rfl (aD rfl) (vop zfy (vv 2) (vix zbG (vv 4) zaq (λ_ _=>rfl))))
   (ss1 (zbx (vtup (zac (vv 5) (zac (vcl G_row_between D_row_between hr (by rfl) zas (zac (vv 0) (zac (vsl l_str (vv 1) (vos (vv 5)) (vos (vv 2))) (zac (vv 3) zan)))) zan)))))))))
def zgd(T:Txt w K mg)(F:FunA K "ends_of_many" "ends_of_many" zb4 f fd):FnOk P w K mg base CX0 6 f fd ["patterns","T","most","prices"] (spD K [.v,.v,.v,.v] zcp):=by
 obtain⟨_,_,D_ends_in⟩:=T.d_ends_in;have G_ends_in:=zgH (P:=P) (base:=base) T (.of D_ends_in.fn);refine zaz F sc_ends_of_many zcr rfl (λ_ _ h=>h) λcdv A outer s H E hr=>?_;have hu:=zaP hr;exact(ssc (zbZ (i:=4) sc_ends_of_many.nd rfl (aD rfl) (zha zan))
   (ssc (zhK (iienut (vv 0) (by rfl) T.m_enumerate zgt) (gtp rfl (zj9 (gnm (i:=5) sc_ends_of_many.nd rfl (aD rfl)) (zj9 (gnm (i:=6) sc_ends_of_many.nd rfl (aD rfl)) gns0)) (hl:=gl1 (gl1 (gl0))))
   (ss1 (zhK (iit (vcl G_ends_in D_ends_in hr (by rfl) zas (zac (vv 6) (zac (vv 1) (zac (vv 2) (zac (vv 3) zan)))))) (gtp rfl (zj9 (gnm (i:=7) sc_ends_of_many.nd rfl (aD rfl)) (zj9 (gnm (i:=8) sc_ends_of_many.nd rfl (aD rfl)) gns0)) (hl:=gl1 (gl1 (gl0))))
   (ss1 (sApp 4 (vtup (zac (vv 7) (zac (vv 5) (zac (vv 8) zan)))))))))
   (ss1 (zbx (vct zej (by rfl) T.m_tuple zaw (zac (vcb c_srtG (by rfl) T.m_sorted zd1 (zac (vv 4) zan)) zan))))))
def ziU(T:Txt w K mg)(F:FunA K "_law_one" "_law_one" zdX f fd):FnOk P w K mg base CX0 7 f fd ["_law_pattern_here","_law_number","_law_text_here","_law_most","_law_prices_here"] (spD K [.v,.v,.v,.v,.v] zfw):=by
 obtain⟨C_Finder,DC_Finder⟩:=T.c_Finder;obtain⟨_,_,D_Finder___init__⟩:=T.d_Finder___init__;have G_Finder___init__:=ze3 (P:=P) (base:=base) T D_Finder___init__.fn;obtain⟨_,_,D_Finder_feed⟩:=T.d_Finder_feed;have G_Finder_feed:=zgC (P:=P) (base:=base) T D_Finder_feed.fn;obtain⟨_,_,D__law_alike⟩:=T.d__law_alike;have G__law_alike:=zer (P:=P) (base:=base) T (.of D__law_alike.fn);obtain⟨_,_,D_ends_in⟩:=T.d_ends_in;have G_ends_in:=zgH (P:=P) (base:=base) T (.of D_ends_in.fn);obtain⟨_,_,D_price_between⟩:=T.d_price_between;have G_price_between:=zfJ (P:=P) (base:=base) T (.of D_price_between.fn);obtain⟨_,_,D_stretch_at⟩:=T.d_stretch_at;have G_stretch_at:=zg4 (P:=P) (base:=base) T (.of D_stretch_at.fn);refine zaz F sc__law_one zev rfl (λ_ _ h=>h) λcdv A outer s H E hr=>?_;have hu:=zaP hr;exact(ssc (zbZ (i:=5) sc__law_one.nd rfl (aD rfl) (vcl G_ends_in D_ends_in hr (by rfl) zas (zac (vv 0) (zac (vv 2) (zac (vv 3) (zac (vv 4) zan))))))
   (ssc (sSetO (i:=6) (by decide) sc__law_one.nd rfl (aD rfl) (vmake DC_Finder D_Finder___init__ G_Finder___init__ hr (by rfl) zas (zac (vv 0) (zac (vv 3) (zac (vv 4) zan)))))
   (ssc (sXSet (i:=7) sc__law_one.nd rfl (aD rfl) (xmeth (ns:=["pattern","prices","columns","last_sign","sight"]) 6 DC_Finder D_Finder_feed G_Finder_feed hr zas (zac zfI zan)))
   (ssc (zhK (iis (vv 2)) (gnm (i:=8) sc__law_one.nd rfl (aD rfl))
   (ss1 (sXSet (i:=7) sc__law_one.nd rfl (aD rfl) (xop o_catT (xpure (vv 7)) (xmeth (ns:=["pattern","prices","columns","last_sign","sight"]) 6 DC_Finder D_Finder_feed G_Finder_feed hr zas (zac (vv 8) zan))))))
   (ssc (sIf (tnt (tva (vcl G__law_alike D__law_alike hr (by rfl) zas (zac (vv 7) (zac (vv 5) zan))))) (ss1 (zbx zhN)) ss0)
   (ssc (zhK (iit (vop o_catT (vsl l_tup (vv 5) von (vos zaq)) (vsl l_tup (vv 5) (vos (vun zdL zaq)) von))) (gtp rfl (zj9 (gnm (i:=9) sc__law_one.nd rfl (aD rfl)) (zj9 (gnm (i:=10) sc__law_one.nd rfl (aD rfl)) gns0)) (hl:=gl1 (gl1 (gl0))))
   (ssc (sAsg (vcl G_stretch_at D_stretch_at hr (by rfl) zas (zac (vv 0) (zac (vv 2) (zac (vv 9) (zac (vv 4) zan))))) (gtp rfl (zj9 (gnm (i:=11) sc__law_one.nd rfl (aD rfl)) (zj9 (gnm (i:=12) sc__law_one.nd rfl (aD rfl)) gns0)) (hl:=gl1 (gl1 (gl0)))))
   (ss1 (sIf (tcm (o_ne) (vcl G_price_between D_price_between hr (by rfl) zas (zac (vv 0) (zac (vsl l_str (vv 2) (vos (vv 11)) (vos (vv 9))) (zac (vv 4) zan)))) (vv 10) (zai _)) (ss1 (zbx zhN)) ss0))))
   (ss1 (zbx (vl2 (N:=["_law_end","_law_price","_law_number"]) (fr:=[1]) ⟨rfl,rfl,rfl,rfl,rfl⟩ rfl rfl (by decide +kernel) rfl rfl (iit (vv 5)) (λ_ _ _ _=>by exact if0) (λ_ _ _ _=>by exact(vtup (zac (vv 0) (zac (vv 2) (zac (vv 1) zan))))))))))))))
def ok_law(T:Txt w K mg)(F:FunA K "law" "law" zeW f fd):FnOk P w K mg base CX0 8 f fd ["_law_script"] (spD K [.b] g_law):=by
 obtain⟨_,_,D__law_alike⟩:=T.d__law_alike;have G__law_alike:=zer (P:=P) (base:=base) T (.of D__law_alike.fn);obtain⟨_,_,D__law_cell⟩:=T.d__law_cell;have G__law_cell:=zio (P:=P) (base:=base) T (.of D__law_cell.fn);obtain⟨_,_,D__law_digits⟩:=T.d__law_digits;have G__law_digits:=zcx (P:=P) (base:=base) T (.of D__law_digits.fn);obtain⟨_,_,D__law_one⟩:=T.d__law_one;have G__law_one:=ziU (P:=P) (base:=base) T (.of D__law_one.fn);obtain⟨_,_,D__law_pattern⟩:=T.d__law_pattern;have G__law_pattern:=zfU (P:=P) (base:=base) T (.of D__law_pattern.fn);obtain⟨_,_,D__law_pool⟩:=T.d__law_pool;have G__law_pool:=zhO (P:=P) (base:=base) T (.of D__law_pool.fn);obtain⟨_,_,D__law_prices⟩:=T.d__law_prices;have G__law_prices:=zgB (P:=P) (base:=base) T (.of D__law_prices.fn);obtain⟨_,_,D__law_text⟩:=T.d__law_text;have G__law_text:=zia (P:=P) (base:=base) T (.of D__law_text.fn);obtain⟨_,_,D__law_written⟩:=T.d__law_written;have G__law_written:=zgl (P:=P) (base:=base) T (.of D__law_written.fn);obtain⟨_,_,D_ends_of_many⟩:=T.d_ends_of_many;have G_ends_of_many:=zgd (P:=P) (base:=base) T (.of D_ends_of_many.fn);obtain⟨_,_,D_read_pattern⟩:=T.d_read_pattern;have G_read_pattern:=zgo (P:=P) (base:=base) T (.of D_read_pattern.fn);obtain⟨_,_,D_show_pattern⟩:=T.d_show_pattern;have G_show_pattern:=zgh (P:=P) (base:=base) T (.of D_show_pattern.fn);refine zaz F sc_law F_law rfl (λ_ _ h=>h) λcdv A outer s H E hr=>?_;have hu:=zaP hr;exact(ssc (zbZ (i:=1) sc_law.nd rfl (aD rfl) (vcl G__law_cell D__law_cell hr (by rfl) zas (zac (vv 0) (zac zaq zan))))
   (ssc (zbZ (i:=2) sc_law.nd rfl (aD rfl) (vcl G__law_pool D__law_pool hr (by rfl) zas (zac (vv 1) zan)))
   (ssc (zbZ (i:=3) sc_law.nd rfl (aD rfl) (vcl G__law_text D__law_text hr (by rfl) zas (zac (vv 2) (zac (vcl G__law_cell D__law_cell hr (by rfl) zas (zac (vv 0) (zac zaq zan))) (zac (vop zdb (vop zgk (vv 1) zaq) zaq) zan)))))
   (ssc (zbZ (i:=4) sc_law.nd rfl (aD rfl) (vcl G__law_prices D__law_prices hr (by rfl) zas (zac (vcl G__law_cell D__law_cell hr (by rfl) zas (zac (vv 0) (zac zaq zan))) zan)))
   (ssc (zbZ (i:=5) sc_law.nd rfl (aD rfl) (vcl G__law_digits D__law_digits hr (by rfl) zas (zac (vcl G__law_cell D__law_cell hr (by rfl) zas (zac (vv 0) (zac zaq zan))) (zac zaq (zac (vop zdb (vop zgk (vv 1) zaq) zaq) zan)))))
   (ssc (zbZ (i:=6) sc_law.nd rfl (aD rfl) (vop zdb (vop zgk (vv 1) zaq) zaq))
   (ssc (zbZ (i:=7) sc_law.nd rfl (aD rfl) (zha zan))
   (ssc (zbZ (i:=8) sc_law.nd rfl (aD rfl) (zha zan))
   (sFrz 5 (ssc (zhK (iil (vv 5)) (gnm (i:=9) sc_law.nd rfl (aD rfl))
   (ssc (zbZ (i:=10) sc_law.nd rfl (aD rfl) (vcl G__law_pattern D__law_pattern hr (by rfl) zas (zac (vv 2) (zac (vcl G__law_cell D__law_cell hr (by rfl) zas (zac (vv 0) (zac (vop zdh zaq (vcb zb0 (by rfl) T.m_len zat (zac (vv 7) zan))) zan))) (zac (vv 9) zan)))))
   (ssc (zbZ (i:=11) sc_law.nd rfl (aD rfl) (vcl G__law_written D__law_written hr (by rfl) zas (zac (vv 10) zan)))
   (ssc (zbZ (i:=12) sc_law.nd rfl (aD rfl) (vcl G_read_pattern D_read_pattern hr (by rfl) zas (zac (vv 11) zan)))
   (ssc (sIf (tww (zjF (tcm (o_neD hr) (vv 12) (vv 10) (zai _)) (zeS (tcm (o_ne) (vcl G_show_pattern D_show_pattern hr (by rfl) zas (zac (vv 12) zan)) (vv 11) (zai _))))) (ss1 (zbx vbl)) ss0)
   (ssc (zbZ (i:=13) sc_law.nd rfl (aD rfl) (vcl G__law_one D__law_one hr (by rfl) zas (zac (vv 12) (zac (vcb zb0 (by rfl) T.m_len zat (zac (vv 7) zan)) (zac (vv 3) (zac (vv 6) (zac (vv 4) zan)))))))
   (ssc (sIf (tcm (o_isN) (vv 13) zhN (zai _)) (ss1 (zbx vbl)) ss0)
   (ssc (sApp 7 (vv 12))
   (ss1 (sExtV 8 (vv 13)))))))))))
   (ss1 (zbx (vcl G__law_alike D__law_alike hr (by rfl) zas (zac (vcl G_ends_of_many D_ends_of_many hr (by rfl) zas (zac (vct zej (by rfl) T.m_tuple zaw (zac (vv 7) zan)) (zac (vv 3) (zac (vv 6) (zac (vv 4) zan))))) (zac (vct zej (by rfl) T.m_tuple zaw (zac (vcb c_srtG (by rfl) T.m_sorted zd1 (zac (vv 8) zan)) zan)) zan)))))))))))))))
end
end N63

namespace N63
open PySem L2 L3
open CE in
def zc0(c:Option Int)(q:Int):zbq [oD c,.int q]=aa (.val (oD (stp c q))):=by
 cases c with
 |none=>simp (disch:=omega) only[zbq,zbb,stE,stN,oD,jqc,jqa,zem,zah,fIf,fOr,tOf,ex2,zab,az,jqk,eC,zjQ,isN,gEq,zaH,toN,fNx,zci,jqe,bOf,jqf,zaG,jra,sqO,zdg,stp,jqd,ite_self]
 |some i=>
  by_cases h:q=0
  ·simp (disch:=omega) only[zbq,zbb,stE,stN,oD,h,jqc,jqa,zem,zah,fIf,fOr,tOf,ex2,zab,az,jqk,eC,zjQ,isN,gEq,zaH,toN,fNx,zci,jqe,bOf,jqf,zaG,jqy,jqr,jrb,jra,sqO,zdg,stp]
  ·simp (disch:=omega) only[zbq,zbb,stE,stN,oD,jqc,jqa,zem,zah,fIf,fOr,tOf,ex2,zab,az,jqk,eC,zjQ,isN,gEq,zaH,toN,fNx,zci,jqe,bOf,jqf,zaG,h,jqz,jqr,jrb,sqO,pI0,iOf,zdg,stp]
open CE in
def zjn(δ:En)(cs:List (Option Int)):zdc (λd=>zeO (cEn [] δ d)) (λd=>zeL (cEn [] δ d)) (cs.map oD)=aa ((cs.filterMap id).map D.int):=by
 induction cs with
 |nil=>rfl
 |cons c cs ih=>
  rw[aH,zdc,ih];cases c with
  |none=>rfl
  |some i=>rfl
open CE in
def zjv(cs:List (Option Int))(d:D)(hd:qOf (.val d)=aa (cs.map oD))(h:cs.length<=1000000):zdM [d]=aa (.val (oD (lw cs))):=by
 have hE:eLC [] (qV (zab 0)) zeO zeL [aa (.val d)]=aa (.own ((cs.filterMap id).map D.int)):=
  zfc (by unfold qV;exact hd) (zjn _ cs) (by rw[aw];exact aS (List.length_filterMap_le _ _) h)
 simp (disch:=omega) only[zdM,zbb,stE,stN,jqc,jqa,zg5,zaH,ex2,az,jqk,eC,gMinD,asL,toN,hE,intsD_map];cases hm:minI (cs.filterMap id)with
 |none=>simp (disch:=omega) only[jqa,jqc,zdg,oD,lw,hm]
 |some m=>simp (disch:=omega) only[jqa,jqc,zdg,oD,lw,hm]
open CE in
def lowest_eq(cs:List (Option Int))(h:cs.length<=1000000):zdM [.lst (cs.map oD)]=aa (.val (oD (lw cs))):=zjv cs _ rfl h
open CE in
def zkE(cs:List (Option Int))(h:cs.length<=1000000):zdM [.tup (cs.map oD)]=aa (.val (oD (lw cs))):=zjv cs _ rfl h
def rowOf(c:Nat->Nat->Option Int)(n a:Nat):D:=.tup ((au (n+1)).map λj=>CE.oD (c a j))
def rowOf_at(c:Nat->Nat->Option Int)(n a:Nat){k:Int}(h0:0<=k)(h:k.toNat<=n):atI ((au (n+1)).map λj=>CE.oD (c a j)) k=aa (CE.oD (c a k.toNat)):=by
 refine zeH h0 ?_;rw[aB,cg (by lia)];rfl
def zbA(c:Nat->Nat->Option Int)(m j:Nat):D:=.tup ((au (m+1)).map λi=>CE.oD (c i j))
def zgq(f:Nat->D)(n:Nat){k:Int}(h0:0<=k)(h:k.toNat<=n):atI ((au (n+1)).map f) k=aa (f k.toNat):=by
 refine zeH h0 ?_;rw[aB,cg (by lia)];rfl
def zdi(f:Nat->D)(n:Nat):atI ((au (n+1)).map f) (-1)=aa (f n):=atI_m1 (by rw[dk,cC];simp)
def atI_m2{α:Type}{xs:List α}{x:α}(h2:2<=xs.length)(h:xs[xs.length-2]? =aa x):atI xs (-2)=aa x:=by
 unfold atI ixN;rw[if_neg (by lia),if_pos (by lia)];show xs[(-2+(xs.length:Int)).toNat]? =_;rw[show(-2+(xs.length:Int)).toNat=xs.length-2 by lia];exact h
def rng_last2(f:Nat->D)(n:Nat):atI ((au (n+1+1)).map f) (-2)=aa (f n):=by
 refine atI_m2 (by simp) ?_;rw[aw,cz,show n+1+1-2=n by lia,aB,cg (by lia)];rfl
structure Win(c:Nat->Nat->Option Int)(fit:Nat->Nat->Bool)(P:List Str)(j:Nat)(cs:List D)(tx:List Nat):Prop where
 l:tx.length<=1000000
 c1:atI cs (-1)=aa (zbA c P.length j)
 s1:∃t,atI tx (-1)=aa t/\∀i,i<P.length->inS (mkS [t]) (P.getD i (mkS []))=fit i j
 two:(tx.length<2/\j=0)\/(2<=tx.length/\0<j/\atI cs (-2)=aa (zbA c P.length (j-1))/\∃t,atI tx (-2)=aa t/\∀i,i<P.length->inS (mkS [t]) (P.getD i (mkS []))=fit i (j-1))
open CE in
def ahead_eq{c:Nat->Nat->Option Int}{fit:Nat->Nat->Bool}{P:List Str}{j:Nat}{cs:List D}{tx:List Nat}(W:Win c fit P j cs tx)(i:Nat)(hi:i<P.length) :
  za0 [.lst cs,.tup (P.map .str),.str (mkS tx),.int (1+(i:Int))]=aa (.val (oD (tc fit c i j))):=by
 have hl:tx.length<=1000000:=W.l
 suffices hF:zaI [aa (.bor cs),aa (.val (.tup (P.map .str))),aa (.val (.str (mkS tx))),aa (.val (.int (1+(i:Int))))]=aa (.rt (.val (oD (tc fit c i j))) [aa (.bor cs),aa (.val (.tup (P.map .str))),aa (.val (.str (mkS tx))),aa (.val (.int (1+(i:Int))))])from
  (congrArg (λo=>dH o _) hF).trans rfl
 have t1:=orLt (X:=zab 3) (Y:=eCB zdf (zaa (zab 2) zae)) (c:=2) (δ:=[aa (.bor cs),aa (.val (.tup (P.map .str))),aa (.val (.str (mkS tx))),aa (.val (.int (1+(i:Int))))]) rfl (lenZ rfl (zau tx) hl);by_cases h:0<i/\2<=tx.length
 ·rcases W.two with ⟨h2,_⟩|⟨_,hj,q2,t',e2,g2⟩
  ·lia
  ·obtain⟨t,e1,g1⟩:=W.s1;have hi1:i-1<P.length:=eY (Nat.sub_le _ _) hi;have ht:tc fit c i j=if (fit i (j-1)&&fit (i-1) j)=true then c (i-1) (j-1)else ab:=by unfold tc;rw[if_pos ⟨h.1,hj⟩]
   have k1:1+(i:Int)-1=(i:Int):=by lia
   have k2:1+(i:Int)-2=((i-1:Nat):Int):=by lia
   have a3:=zft D.str (mkS []) (xs:=P) (i:=(i:Int)) (dZ _) (by simpa using hi);have a4:=zft D.str (mkS []) (xs:=P) (i:=((i-1:Nat):Int)) (dZ _) (by simpa using hi1);have a6:atI ((au (P.length+1)).map λk=>oD (c k (j-1))) ((i-1:Nat):Int)=aa (oD (c (i-1) (j-1))):=by
    rw[zgq _ _ (dZ _) (by simp;lia)];rfl
   have f1:=g2 i hi;have f2:=g1 (i-1) hi1;have s1:=subI (E:=zab 3) (F:=eC (.int 1)) (δ:=[aa (.bor cs),aa (.val (.tup (P.map .str))),aa (.val (.str (mkS tx))),aa (.val (.int (1+(i:Int))))]) rfl rfl;have s2:=subI (E:=zab 3) (F:=eC (.int 2)) (δ:=[aa (.bor cs),aa (.val (.tup (P.map .str))),aa (.val (.str (mkS tx))),aa (.val (.int (1+(i:Int))))]) rfl rfl;rw[k1]at s1;rw[k2]at s2;have n1:=niSS (ixSS (E:=zab 2) (F:=ex1 zd8 (eC (.int 2))) rfl hl rfl e2) (ixTT (E:=zab 1) rfl s1 a3);have n2:=niSS (ixSS (E:=zab 2) (F:=ex1 zd8 (eC (.int 1))) rfl hl rfl e1) (ixTT (E:=zab 1) rfl s2 a4);have t2:=orB n1 n2;rw[cV,cV,f1,f2,<- Bool.not_and]at t2;rw[decide_eq_false (by lia)]at t1;refine(show zaI _=_ from zbY (ziF t1)).trans ?_;rw[ht];cases v:(fit i (j-1)&&fit (i-1) j)with
   |false=>rw[v]at t2;exact zgx ((fIfT t2).trans (zep rfl))
   |true=>rw[v]at t2;exact(zbY (ziF t2)).trans (zep (ixTT (ixLB rfl rfl q2) s2 a6))
 ·have ht:tc fit c i j=ab:=by
   unfold tc;rw[if_neg];intro q;rcases W.two with ⟨h2,hj⟩|⟨h2,_⟩
   ·lia
   ·exact h ⟨q.1,h2⟩
  rw[decide_eq_true (by lia)]at t1;rw[ht];exact show zaI _=_ from zgx ((fIfT t1).trans (zep rfl))
open CE in
def zi6(P:List Str)(p:Pr)(free:Bool)(fit:Nat->Nat->Bool)(k:Nat)(hk:k<P.length)(hP:P.length<=100000) :
  zby [aa (.val (.tup (P.map .str))),aa (.val p.d),aa (.own ((au (k+1)).map λi=>oD (cel fit p free i 0))),aa (.val (.int (1+(k:Int))))] =
  aa (.nx [aa (.val (.tup (P.map .str))),aa (.val p.d),aa (.own ((au (k+1+1)).map λi=>oD (cel fit p free i 0))),aa (.val (.int (1+(k:Int))))]):=by
 have hl:(((au (k+1)).map λi=>oD (cel fit p free i 0))).length<1000000:=by simp;lia
 have hx:atI ((au (k+1)).map λi=>oD (cel fit p free i 0)) (1+(k:Int)-1)=aa (oD (cel fit p free k 0)):=by
  rw[zgq _ _ (by lia) (by lia),show(1+(k:Int)-1).toNat=k by lia]
 have h0:atI [D.int p.put,D.int p.left,D.int p.exch,D.int p.turn] 1=aa (.int p.left):=rfl;have e:(au (k+1+1)).map (λi=>oD (cel fit p free i 0))=(au (k+1)).map (λi=>oD (cel fit p free i 0))++[oD (cel fit p free (k+1) 0)]:=by
  rw[dk (n:=k+1),cC];rfl
 rw[e,zj4];simp (disch:=omega) only[zby,zhw,Pr.d,jqf,jqe,zag,zaa,ex2,zab,eC,zhI,pI0,iOf,jqa,jqc,zdF,asL,hx,zch,zcJ,h0,zae,zaA,zbn,asV,zc0,zao,jqh,jqg,zaf]
open CE in
def zh0(P:List Str)(p:Pr)(free:Bool)(fit:Nat->Nat->Bool)(hP:P.length<=100000) :
  zbJ [.tup (P.map .str),p.d]=aa (.val (zbA (cel fit p free) P.length 0)):=by
 obtain⟨δ',w1,kv,rfl⟩:=ze9 (tg:=gNm 3) (f:=zby) (λk δ=>∃kv,δ=[aa (.val (.tup (P.map .str))),aa (.val p.d),aa (.own ((au (k+1)).map λi=>oD (cel fit p free i 0))),kv])
  ((au P.length).map λ(k:Nat)=>D.int (1+(k:Int))) 0 _ (λk d δ hd hδ=>by
   obtain⟨kv,rfl⟩:=hδ;rw[bv];rw[aB]at hd;have hk:k<P.length:=by
    cases q:(au P.length)[k]? with
    |none=>rw[q]at hd;cases hd
    |some z=>have:=(a7.mp q).1;simpa using this
   rw[cg hk]at hd;cases hd;exact⟨_,_,rfl,.inl (zi6 P p free fit k hk hP),_,rfl⟩) ⟨ab,rfl⟩
 have hb1:b62 1:=zeG (by decide);have hb2:b62 ((P.length:Int)+1):=zeG (by lia);have hn:((P.length:Int)+1-1).toNat=P.length:=by lia
 have hl:P.length<=100000:=hP;simp only[aw,cz,bv]at w1;simp only[dk (n:=0),iO,cD,aH,dj,zir,oD_s,oD_n]at w1;simp (disch:=omega) only[zbJ,zbb,stE,stN,jqc,jqa,zdE,zah,zaE,zde,zaa,eC,zae,jqp,jqq,Nat.reduceLeDiff,zd5,asV,jra,az,toN,zci,sqO,zd4,iR2,ex2,eCB,zab,pI0,iOf,jqi,jqj,jqh,jqg,jqe,zbk,zcJ,aw,zds,jre,hn,zaf,w1,zaH,jqf,zcF,asL,zdg,zbA]
open CE in
def zhQ(P:List Str)(p:Pr)(free:Bool)(fit:Nat->Nat->Bool)(cs:List D)(tx:List Nat)(j k:Nat)(W:Win (cel fit p free) fit P j cs tx)(f8:Option Ent)(hk:k<P.length)(hP:P.length<=100000) :
  zbd [aa (.bor cs),aa (.val (.tup (P.map .str))),aa (.val (.str (mkS tx))),aa (.val p.d),aa (.val (.bl free)),aa (.val (zbA (cel fit p free) P.length j)),aa (.own ((au (k+1)).map λi=>oD (cel fit p free i (j+1)))),aa (.val (.int (1+(k:Int)))),f8] =
  aa (.nx [aa (.bor cs),aa (.val (.tup (P.map .str))),aa (.val (.str (mkS tx))),aa (.val p.d),aa (.val (.bl free)),aa (.val (zbA (cel fit p free) P.length j)),aa (.own ((au (k+1+1)).map λi=>oD (cel fit p free i (j+1)))),aa (.val (.int (1+(k:Int)))),aa (.val (.bl (fit k j)))]):=by
 have hl:(((au (k+1)).map λi=>oD (cel fit p free i (j+1)))).length<1000000:=by simp;lia
 have hx:atI ((au (k+1)).map λi=>oD (cel fit p free i (j+1))) (1+(k:Int)-1)=aa (oD (cel fit p free k (j+1))):=by
  rw[zgq _ _ (by lia) (by lia),show(1+(k:Int)-1).toNat=k by lia]
 obtain⟨t,a1,g1⟩:=W.s1;have f1:=g1 k hk;have k1:1+(k:Int)-1=(k:Int):=by lia
 have a2:=zft D.str (mkS []) (xs:=P) (i:=(k:Int)) (dZ _) (by simpa using hk);have a3:atI ((au (P.length+1)).map λi=>oD (cel fit p free i j)) (k:Int)=aa (oD (cel fit p free k j)):=by
  rw[zgq _ _ (dZ _) (by simp;lia)];rfl
 have a4:atI ((au (P.length+1)).map λi=>oD (cel fit p free i j)) (1+(k:Int))=aa (oD (cel fit p free (k+1) j)):=by
  rw[zgq _ _ (by lia) (by lia),show(1+(k:Int)).toNat=k+1 by lia]
 rw[k1]at hx;have e:(au (k+1+1)).map (λi=>oD (cel fit p free i (j+1)))=(au (k+1)).map (λi=>oD (cel fit p free i (j+1)))++[oD (cel fit p free (k+1) (j+1))]:=by
  rw[dk (n:=k+1),cC];rfl
 rw[e,zfz];generalize (au (k+1)).map (λi=>oD (cel fit p free i (j+1)))=ds at *;have sA:=subI (E:=zab 7) (F:=eC (.int 1)) (δ:=[aa (.bor cs),aa (.val (.tup (P.map .str))),aa (.val (.str (mkS tx))),aa (.val p.d),aa (.val (.bl free)),aa (.val (zbA (cel fit p free) P.length j)),aa (.own ds),aa (.val (.int (1+(k:Int)))),f8]) rfl rfl;have sB:=subI (E:=zab 7) (F:=eC (.int 1)) (δ:=[aa (.bor cs),aa (.val (.tup (P.map .str))),aa (.val (.str (mkS tx))),aa (.val p.d),aa (.val (.bl free)),aa (.val (zbA (cel fit p free) P.length j)),aa (.own ds),aa (.val (.int (1+(k:Int)))),aa (.val (.bl (fit k j)))]) rfl rfl;rw[k1]at sA sB;have v8:=inSS (ixSS (E:=zab 2) (F:=ex1 zd8 (eC (.int 1))) rfl W.l rfl a1) (ixTT (E:=zab 1) rfl sA a2);rw[cV,f1]at v8;have x1:=ixTT (E:=zab 5) rfl sB a3;have x4:=ixTT (E:=zab 5) (F:=zab 7) (δ:=[aa (.bor cs),aa (.val (.tup (P.map .str))),aa (.val (.str (mkS tx))),aa (.val p.d),aa (.val (.bl free)),aa (.val (zbA (cel fit p free) P.length j)),aa (.own ds),aa (.val (.int (1+(k:Int)))),aa (.val (.bl (fit k j)))]) rfl rfl a4;have xL:=ixLW (E:=zab 6) rfl sB hx;have y1:=eIfI (A:=zab 8) rfl x1 ((zkM x1 (Y:=ex2 zch (zab 3) (eC (.int 2))) (b:=.int p.exch) rfl).trans (zc0 _ _));have y2:=(zkM x4 (Y:=ex2 zch (zab 3) (eC (.int 0))) (b:=.int p.put) rfl).trans (zc0 _ _)
 have y3:=(zkM xL (Y:=ex2 zch (zab 3) (eC (.int 1))) (b:=.int p.left) rfl).trans (zc0 _ _)
 have z4:zag [.b,.v,.v,.v] za0 (zaa (zab 0) (zaa (zab 1) (zaa (zab 2) (zaa (zab 7) zae)))) [aa (.bor cs),aa (.val (.tup (P.map .str))),aa (.val (.str (mkS tx))),aa (.val p.d),aa (.val (.bl free)),aa (.val (zbA (cel fit p free) P.length j)),aa (.own ds),aa (.val (.int (1+(k:Int)))),aa (.val (.bl (fit k j)))]=aa (.val (oD (tc fit (cel fit p free) k j))):=ahead_eq W k hk;have y4:=(zkM z4 (Y:=ex2 zch (zab 3) (eC (.int 3))) (b:=.int p.turn) rfl).trans (zc0 _ _)
 rw[show(if fit k j=true then oD (cel fit p free k j)else oD (stp (cel fit p free k j) p.exch))=oD (if fit k j=true then cel fit p free k j else stp (cel fit p free k j) p.exch) by cases fit k j <;> rfl]at y1;exact(show zbd _=_ from zbT v8).trans (fAppI rfl ((low4 y1 y2 y3 y4).trans (lowest_eq [_,_,_,_] (show 4<=1000000 by decide))) hl)
open CE in
def zgT(P:List Str)(p:Pr)(free:Bool)(fit:Nat->Nat->Bool)(cs:List D)(tx:List Nat)(j:Nat)(W:Win (cel fit p free) fit P j cs tx)(hP:P.length<=100000) :
  zbU [.lst cs,.tup (P.map .str),.str (mkS tx),p.d,.bl free]=aa (.val (zbA (cel fit p free) P.length (j+1))):=by
 obtain⟨δ',w1,kv,fv,rfl⟩:=ze9 (tg:=gNm 7) (f:=zbd) (λk δ=>∃kv fv,δ=[aa (.bor cs),aa (.val (.tup (P.map .str))),aa (.val (.str (mkS tx))),aa (.val p.d),aa (.val (.bl free)),aa (.val (zbA (cel fit p free) P.length j)),aa (.own ((au (k+1)).map λi=>oD (cel fit p free i (j+1)))),kv,fv])
  ((au P.length).map λ(k:Nat)=>D.int (1+(k:Int))) 0 _ (λk d δ hd hδ=>by
   obtain⟨kv,fv,rfl⟩:=hδ;rw[bv];rw[aB]at hd;have hk:k<P.length:=by
    cases q:(au P.length)[k]? with
    |none=>rw[q]at hd;cases hd
    |some z=>have:=(a7.mp q).1;simpa using this
   rw[cg hk]at hd;cases hd;exact⟨_,_,rfl,.inl (zhQ P p free fit cs tx j k W _ hk hP),_,_,rfl⟩) ⟨ab,ab,rfl⟩
 have hb1:b62 1:=zeG (by decide);have hb2:b62 ((P.length:Int)+1):=zeG (by lia);have hn:((P.length:Int)+1-1).toNat=P.length:=by lia
 have hl:P.length<=100000:=hP;have c1:=W.c1;have a2:atI ((au (P.length+1)).map λi=>oD (cel fit p free i j)) 0=aa (oD (cel fit p free 0 j)):=by
  rw[zgq _ _ (by lia) (by simp)];rfl
 simp only[aw,cz,bv]at w1;simp only[dk (n:=0),iO,cD,aH,dj,zh9]at w1
 suffices hF:∃δ,zbW [aa (.bor cs),aa (.val (.tup (P.map .str))),aa (.val (.str (mkS tx))),aa (.val p.d),aa (.val (.bl free)),ab,ab,ab,ab]=aa (.rt (.val (zbA (cel fit p free) P.length (j+1))) δ)from
  hF.elim λ_ h=>(congrArg (λo=>dH o _) h).trans rfl
 have x0:=ixLB (E:=zab 0) (F:=ex1 zd8 (eC (.int 1))) (δ:=[aa (.bor cs),aa (.val (.tup (P.map .str))),aa (.val (.str (mkS tx))),aa (.val p.d),aa (.val (.bl free)),ab,ab,ab,ab]) rfl rfl c1;have y0:=eIfI (A:=zab 4) (B:=eC (.int 0)) (δ:=[aa (.bor cs),aa (.val (.tup (P.map .str))),aa (.val (.str (mkS tx))),aa (.val p.d),aa (.val (.bl free)),aa (.val (zbA (cel fit p free) P.length j)),ab,ab,ab]) rfl rfl ((zkM (ixTT (E:=zab 5) (F:=eC (.int 0)) rfl rfl a2) (Y:=ex2 zch (zab 3) (eC (.int 0))) (b:=.int p.put) rfl).trans (zc0 _ _));have h0:oD (if free=true then aa 0 else stp (cel fit p free 0 j) p.put)=(if free=true then D.int 0 else oD (stp (cel fit p free 0 j) p.put)):=by cases free <;> rfl
 rw[h0]at w1;have z0:=eLst1 y0;generalize (if free=true then D.int 0 else oD (stp (cel fit p free 0 j) p.put))=v0 at *;have ir:iR2 (zaa (eC (.int 1)) (zaa (ex2 zci (eCB zbk (zaa (zab 1) zae)) (eC (.int 1))) zae)) [aa (.bor cs),aa (.val (.tup (P.map .str))),aa (.val (.str (mkS tx))),aa (.val p.d),aa (.val (.bl free)),aa (.val (zbA (cel fit p free) P.length j)),aa (.own [v0]),ab,ab]=aa ((au P.length).map λ(k:Nat)=>D.int (1+(k:Int))):=by
  simp only[iR2,zaa,eC,ex2,eCB,zab,jqf,jqe,zae,jqc,jqa,zbk,zcJ,aw,zci,pI0,iOf,hb2,jre,Int.reduceNeg,Int.reduceLT,and_self,zds,hn,zaf]
 exact⟨_,(show zbW _=_ from zbT x0).trans ((zbY (zks z0)).trans ((forN ir w1).trans rfl))⟩
def getD_in{T:List Nat}{k:Nat}(h:k<T.length):T[k]? =aa (T.getD k 0):=by
 rw[aN h,bM,aN h];rfl
open CE in
def win_take(P:List Str)(T:List Nat)(c:Nat->Nat->Option Int)(k:Nat)(hk:k<T.length)(hT:T.length<=100000):Win c (zbF P T) P k ((au (k+1)).map λj=>zbA c P.length j) (T.take (k+1)):=by
 have hl:(T.take (k+1)).length=k+1:=by rw[cr];lia
 refine⟨by lia,zdi _ _,⟨T.getD k 0,?_,λi _=>rfl⟩,?_⟩
 ·refine atI_m1 ?_;rw[ie,hl,di (by lia),show k+1-1=k by lia];exact getD_in hk
 ·by_cases h:k=0
  ·exact .inl ⟨by lia,h⟩
  ·obtain⟨n,rfl⟩:∃n,k=n+1:=⟨k-1,by lia⟩;refine .inr ⟨by lia,by lia,rng_last2 _ n,T.getD n 0,?_,λi _=>rfl⟩;refine atI_m2 (by lia) ?_;rw[hl,di (by lia),show n+1+1-2=n by lia];exact getD_in (by lia)
open CE in
def across_eq(c:Nat->Nat->Option Int)(m n i:Nat)(hi:i<=m)(hn:n<=100000):zdq [.lst ((au (n+1)).map λj=>zbA c m j),.int (i:Int)]=aa (.val (rowOf c n i)):=by
 have ec:eLC [1] (iB 0) zdD zc6 [aa (.bor ((au (n+1)).map λj=>zbA c m j)),aa (.val (.int (i:Int)))]=aa (.own ((au (n+1)).map λj=>oD (c i j))):=by
  refine zfc (ds:=(au (n+1)).map λj=>zbA c m j) rfl ?_ (by simp;lia);refine ze5 _ _ (by simp) (λd _=>rfl) λk d hd=>?_;rw[aB]at hd;obtain⟨j,e1,e2⟩:=cZ.mp hd;subst e2;have ha:atI ((au (m+1)).map λi=>oD (c i j)) (i:Int)=aa (oD (c i j)):=by
   rw[zgq _ _ (by lia) (by lia)];rfl
  refine⟨oD (c i j),?_,by rw[aB,e1];rfl⟩;simp only[zc6,ex2,zab,cEn,zbA,jqn,jqf,jqe,jqx,jqa,capt,jqo,zch,zcJ,iOf,ha,jqc,asV]
 have hl:n<=100000:=hn;simp (disch:=omega) only[zdq,zbb,stE,stN,jqc,jqa,zet,zaH,eCB,zaa,az,jqk,zae,toN,ec,zcF,asL,zdg,rowOf]
open CE in
def zfN(P:List Str)(T:List Nat)(p:Pr)(free:Bool)(hP:P.length<=100000)(hT:T.length<=100000) :
  zcl [.tup (P.map .str),.str (mkS T),p.d,.bl free]=aa (.val (.tup ((au (P.length+1)).map λi=>rowOf (cel (zbF P T) p free) T.length i))):=by
 obtain⟨δ',w1,kv,rfl⟩:=ze9 (tg:=gNm 5) (f:=zdV) (λk δ=>∃kv,δ=[aa (.val (.tup (P.map .str))),aa (.val (.str (mkS T))),aa (.val p.d),aa (.val (.bl free)),aa (.own ((au (k+1)).map λj=>zbA (cel (zbF P T) p free) P.length j)),kv])
  ((au T.length).map λ(k:Nat)=>D.int (1+(k:Int))) 0 _ (λk d δ hd hδ=>by
   obtain⟨kv,rfl⟩:=hδ;rw[bv];rw[aB]at hd;have hk:k<T.length:=by
    cases q:(au T.length)[k]? with
    |none=>rw[q]at hd;cases hd
    |some z=>have:=(a7.mp q).1;simpa using this
   rw[cg hk]at hd;cases hd;have fe:=zgT P p free (zbF P T) ((au (k+1)).map λj=>zbA (cel (zbF P T) p free) P.length j) (T.take (k+1)) k (win_take P T _ k hk hT) hP;have hl:((au (k+1)).map λj=>zbA (cel (zbF P T) p free) P.length j).length<1000000:=by simp;lia
   have e:(au (k+1+1)).map (λj=>zbA (cel (zbF P T) p free) P.length j)=(au (k+1)).map (λj=>zbA (cel (zbF P T) p free) P.length j)++[zbA (cel (zbF P T) p free) P.length (k+1)]:=by
    rw[dk (n:=k+1),cC];rfl
   have hc:zfP T ab (aa (1+(k:Int)))=T.take (k+1):=by rw[zkf _ (by lia),show(1+(k:Int)).toNat=k+1 by lia]
   have hm:T.length<=1000000:=by lia
   refine⟨_,_,rfl,.inl ?_,aa (.val (.int (1+(k:Int)))),rfl⟩;rw[e];simp (disch:=omega) only[zdV,zhw,jqh,jqg,jqf,jqe,zag,zaa,zab,eSl,oNo,oSo,jqa,iOf,jqc,gSlS,sOf,zau,zao,zaY,hc,zaf,zae,zaA,zbn,asL,asV,fe]) ⟨ab,rfl⟩
 have hb1:b62 1:=zeG (by decide);have hb2:b62 ((T.length:Int)+1):=zeG (by lia);have hb3:b62 ((P.length:Int)+1):=zeG (by lia);have hn:((T.length:Int)+1-1).toNat=T.length:=by lia
 have hn3:((P.length:Int)+1).toNat=P.length+1:=by lia
 have f1:=zh0 P p free (zbF P T) hP;have hm:T.length<=1000000:=by lia
 have hm2:P.length<=100000:=hP;simp only[aw,cz,bv]at w1;simp only[dk (n:=0),iO,cD,aH,dj]at w1;have ec:eLC [4] (iR1 (zaa (ex2 zci (eCB zbk (zaa (zab 0) zae)) (eC (.int 1))) zae)) zdD zd2 [aa (.val (.tup (P.map .str))),aa (.val (.str (mkS T))),aa (.val p.d),aa (.val (.bl free)),aa (.own ((au (T.length+1)).map λj=>zbA (cel (zbF P T) p free) P.length j)),kv] =
   aa (.own ((au (P.length+1)).map λi=>rowOf (cel (zbF P T) p free) T.length i)):=by
  refine zfc (ds:=(au (P.length+1)).map λ(i:Nat)=>D.int (0+(i:Int))) ?_ ?_ (by simp;lia)
  ·simp (disch:=omega) only[iR1,zaa,ex2,eCB,zab,jqe,zae,jqc,jqa,zbk,zcJ,aw,eC,zci,pI0,iOf,zds,hn3,zaf]
  ·refine ze5 _ _ (by simp) (λd _=>rfl) λk d hd=>?_;rw[aB]at hd;obtain⟨i,e1,e2⟩:=cZ.mp hd;subst e2;have hi:i<=P.length:=by
    have:=c8.mp (bR e1);lia
   have ac:=across_eq (cel (zbF P T) p free) P.length T.length i hi hT;refine⟨rowOf (cel (zbF P T) p free) T.length i,?_,by rw[aB,e1];rfl⟩;rw[show(0+(i:Int))=(i:Int) by lia];simp only[zd2,zag,zaa,zab,cEn,jqn,jqf,jqe,jqx,jqa,capt,jqo,zae,jqc,zaA,zbn,asL,asV,ac]
 simp only[zci]at ec;simp (disch:=omega) only[zcl,zbb,stE,stN,jqc,jqa,zfj,zah,zaE,zde,zaa,zag,zab,az,zae,toN,zci,jqi,jqj,jqe,jqf,zaA,zbn,asV,f1,jqp,jqq,Nat.reduceLeDiff,zd5,jra,jqh,jqg,sqO,zd4,iR2,eC,ex2,eCB,zdf,sOf,zau,zao,zaf,pI0,iOf,zds,jre,hn,w1,zaH];simp (disch:=omega) only[ec,jqa,zcF,asL,jqc,zdg]
open CE in
def price_eq(P:List Str)(T:List Nat)(p:Pr)(hP:P.length<=100000)(hT:T.length<=100000) :
  zbo [.tup (P.map .str),.str (mkS T),p.d]=aa (.val (oD (cel (zbF P T) p false P.length T.length))):=by
 have c:=zfN P T p false hP hT;have l1:=zdi (λi=>rowOf (cel (zbF P T) p false) T.length i) P.length;have l2:=zdi (λj=>oD (cel (zbF P T) p false P.length j)) T.length;simp (disch:=omega) only[zbo,zbb,stE,stN,jqc,jqa,zda,zaH,ex2,zgc,zaa,zab,az,jqk,zae,ex1,eC,zd8,iOf,Int.reduceNeg,zch,zcJ,toN,jqe,jqf,jqi,jqj,zaA,zbn,asV,c,l1];simp (disch:=omega) only[rowOf,Int.reduceNeg,jqa,l2,jqc,zdg]
section
open PT
def alphS:("abcdefghijklmnopqrstuvwxyz" : Str)=mkS lets:=by decide +kernel
def dotS:("." : Str)=mkS [46]:=rfl
def openS:("[" : Str)=mkS [91]:=rfl
def zkh:("]" : Str)=mkS [93]:=rfl
def bothS:("[]" : Str)=mkS [91,93]:=rfl
def noneS:("" : Str)=mkS []:=rfl
def zeV{w:List Nat}(h:w.length<=1000):zbs [.str (mkS w)]=aa (.val (.str (mkS (wr w)))):=by
 have hl:w.length<=1000000:=by lia
 by_cases h1:w=lets
 ·subst h1;simp (disch:=omega) only[zbs,zbb,stE,stN,jqc,jqa,zcD,zah,fIf,tOf,ex2,zab,az,jqk,eC,alphS,gEq,zaH,dotS,toN,fNx,jqe,zdR,jqy,bOf,jra,sqO,zdg,wr]
 ·have e1:¬ (mkS w=mkS lets):=λq=>h1 (zfp q);by_cases h2:w.length=1
  ·have e2:((w.length:Int)=1)=True:=eq_true (by lia);have ew:wr w=w:=by unfold wr;rw[if_neg h1,if_pos h2]
   simp (disch:=omega) only[zbs,zbb,stE,stN,jqc,jqa,zcD,zah,fIf,tOf,ex2,zab,az,jqk,eC,alphS,gEq,zaH,toN,fNx,jqe,zdR,e1,jqz,bOf,jqr,jrb,sqO,eCB,zaa,zae,zdf,sOf,zau,zao,zaf,zaG,e2,jqy,zcU,jra,zdg,ew]
  ·have e2:((w.length:Int)=1)=False:=eq_false (by lia);have ew:wr w=91::(w++[93]):=by unfold wr;rw[if_neg h1,if_neg h2]
   simp (disch:=omega) only[zbs,zbb,stE,stN,jqc,jqa,zcD,zah,fIf,tOf,ex2,zab,az,jqk,eC,alphS,gEq,zaH,toN,fNx,openS,zkh,jqe,zdR,e1,jqz,bOf,jqr,jrb,sqO,eCB,zaa,zae,zdf,sOf,zau,zao,zaf,zaG,e2,zcU,zeE,jqp,jqq,zeh,jqi,jqj,zdg,ew]
def ziS{w:List Nat}(h:Cls w):zez [.str (mkS w)]=aa (.val (.bl true)):=by
 have hlen:=h.len;have e0:¬ (mkS w=mkS []):=λq=>h.ne (zfp q);have ec:eLC [] (iS (zab 0)) zdD zdY [aa (.val (.str (mkS w)))]=aa (.own ((w.map λ_=>true).map D.bl)):=by
  refine zfc (ds:=w.map λc=>D.str (mkS [c])) ?_ ?_ (by simp;lia)
  ·simp only[iS,zab,fJ,cQ,sOf,eS,zaY]
  ·refine ze5 _ _ (by simp) (λd _=>rfl) λi d hd=>?_;rw[aB]at hd;obtain⟨c,e1,e2⟩:=cZ.mp hd;subst e2;have hc:=h.lo c (bR e1);refine⟨.bl true,?_,by rw[aB,aB,e1];rfl⟩;have hi:inS (mkS [c]) (mkS lets)=true:=by rw[inS_1,zaY];exact decide_eq_true (mem_lets.mpr hc)
   simp only[zdY,ex2,zab,cEn,jqo,jqe,eC,alphS,gInS,sOf,jqa,jqc,hi,asV]
 have ea:((w.map λ_=>true).all λb=>b)=true:=by simp
 have eb:blsD ((w.map λ_=>true).map D.bl)=aa (w.map λ_=>true):=blsD_map _;have es:=zkj h.up (by lia);have hl:w.length<=1000000:=by lia
 have eg:zgA (eqD 8) (w.map λc=>D.str (mkS [c])) (w.map λc=>D.str (mkS [c]))=aa true:=eqS_same w;have esg:(sgn (mkS w)).map D.str=w.map λc=>D.str (mkS [c]):=by rw[sgn_mkS,bN];rfl
 simp (disch:=omega) only[zez,zbb,stE,stN,jqc,jqa,zfs,zah,fIf,fOr,tOf,ex2,zab,az,jqk,eC,noneS,gEq,zgR,eCB,zaa,zae,zaH,toN,fNx,jqe,zdR,e0,jqz,bOf,ec,gAll,asL,eb,ea,jqt,jqr,jrb,sqO,gListS,sOf,zau,zao,esg,zaf,ex1,zfX,es,gEqD,sqOf,zcJ,eg,zdg]
def zhB{w:List Nat}(h:Cls w):zbX [.str (mkS (wr w))]=aa (.val (.str (mkS w))):=by
 have hlen:=h.len;have k1:=ziS h;have k2:=zeV (w:=w) (by lia);have hn:∀c∈w,c∉[91,93]:=λc hc=>by have:=h.lo c hc;simp;lia
 by_cases h1:w=lets
 ·have e1:wr w=[46]:=by unfold wr;rw[if_pos h1]
  rw[e1]at k2 ⊢;subst h1;simp (disch:=omega) only[zbX,zbb,stE,stN,jqc,jqa,zdm,zah,zaE,eIf,tOf,ex2,zab,az,eC,dotS,gEq,alphS,eBM,zaa,zae,zgM,sOf,toN,jqi,jqj,jqe,zdR,jqy,bOf,jra,jqh,jqg,sqO,fIf,fOr,zgR,zag,jqf,zaA,zbn,asV,k1,jqt,k2,gNe,jqr,jrb,fNx,zcU,zdg]
 ·have e0:¬ (mkS (wr w)=mkS [46]):=λq=>by
   have:=zfp q;unfold wr at this;rw[if_neg h1]at this;split at this
   ·have:=h.lo 46 (by rw[this];simp);lia
   ·simp at this
  have es:dI (mkS (wr w)) (mkS [91,93])=mkS w:=by
   unfold wr;rw[if_neg h1];split
   ·exact ziO w _ hn
   ·exact strip_br w h.ne hn
  have hl:(mkS (wr w)).length<=1000000:=by rw[zau];have:=wr_len h;lia
  simp (disch:=omega) only[zbX,zbb,stE,stN,jqc,jqa,zdm,zah,zaE,eIf,tOf,ex2,zab,az,eC,dotS,gEq,eBM,zaa,bothS,zae,zgM,sOf,toN,jqi,jqj,jqe,zdR,e0,jqz,bOf,zao,es,zaf,jqr,jrb,jqh,jqg,sqO,fIf,fOr,zgR,zag,jqf,zaA,zbn,asV,k1,jqt,k2,gNe,jqy,fNx,zcU,zdg]
def end_ok1(T:List Nat)(b c:Nat)(hl:T.length<=1000000)(ha:T[b]? =aa c)(hc:c≠91):zaK [.str (mkS T),.int (b:Int)]=aa (.val (.int ((b:Int)+1))):=by
 have ha':atI (mkS T).cps.toList (b:Int)=aa c:=by rw[zaY];exact zib ha
 have hne:¬ (mkS [c]=mkS [91]):=λq=>hc (by have:=zfp q;simpa using this);have hl':(mkS T).length<=1000000:=by rw[zau];exact hl
 simp (disch:=omega) only[zaK,zbb,stE,stN,jqc,jqa,zcz,zah,fIf,tOf,ex2,zab,az,zhi,sOf,iOf,eC,openS,gNe,zaH,zci,pI0,toN,fNx,jqi,jqj,jqe,jqf,zao,ha',zaf,zdR,hne,jqz,jqu,bOf,jra,sqO,zdg]
def end_ok2(T:List Nat)(b e:Nat)(hl:T.length<=1000000)(ha:T[b]? =aa 91)(hf:gN (mkS T) (mkS [93]) (b:Int)=(e:Int)):zaK [.str (mkS T),.int (b:Int)]=aa (.val (.int ((e:Int)+1))):=by
 have ha':atI (mkS T).cps.toList (b:Int)=aa 91:=by rw[zaY];exact zib ha
 have hl':(mkS T).length<=1000000:=by rw[zau];exact hl
 have hm:¬ ((e:Int)=-1):=by lia
 simp (disch:=omega) only[zaK,zbb,stE,stN,jqc,jqa,zcz,zah,fIf,tOf,ex2,zab,az,zhi,sOf,iOf,eC,openS,gNe,zaH,zci,pI0,toN,fNx,zkh,jqi,jqj,jqe,jqf,zao,ha',zaf,zdR,jqy,jqt,bOf,jqr,jrb,sqO,zaE,eBM,zaa,zae,gFind,hf,jqh,jqg,ex1,zd8,Int.reduceNeg,gEq,zaG,hm,jqz,zdg]
def end_ok(pre post w:List Nat)(h:Cls w)(hl:(pre++(wr w++post)).length<=1000000):zaK [.str (mkS (pre++(wr w++post))),.int (pre.length:Int)]=aa (.val (.int ((pre.length+(wr w).length:Nat):Int))):=by
 by_cases h1:w=lets\/w.length=1
 ·obtain⟨c,ec,hc⟩:∃c,wr w=[c]/\c≠91:=by
   unfold wr;rcases h1 with h1|h1
   ·exact⟨46,by rw[if_pos h1],by decide⟩
   ·by_cases h2:w=lets
    ·exact⟨46,by rw[if_pos h2],by decide⟩
    ·rw[if_neg h2,if_pos h1]
     match w,h1 with
     |[c],_=>exact⟨c,rfl,λq=>by have:=h.lo c (by simp);lia⟩
  rw[ec]at hl ⊢;exact end_ok1 _ _ c hl (by simp) hc
 ·have e:wr w=91::(w++[93]):=by
   unfold wr;rw[if_neg (λq=>h1 (.inl q)),if_neg (λq=>h1 (.inr q))]
  rw[e]at hl ⊢;have hf:gN (mkS (pre++(91::(w++[93])++post))) (mkS [93]) (pre.length:Int)=((pre.length+(w.length+1):Nat):Int):=by
   have:=find_at pre (91::w) post 93 (by
    intro q;rcases aF.mp q with q|q
    ·cases q
    ·have:=h.lo 93 q;lia)
   simpa using this
  rw[end_ok2 _ _ _ hl (by simp) hf];simp;lia
def wrs(ws:List (List Nat)):List Nat:=(ws.map wr).flatten
def pD(ws:List (List Nat)):List D:=ws.map λw=>D.str (mkS w)
def ziY{ws:List (List Nat)}(h:∀w∈ws,Cls w):(wrs ws).length<=28*ws.length/\ws.length<=(wrs ws).length:=by
 induction ws with
 |nil=>simp[wrs]
 |cons w ws ih=>
  have:=ih λw hw=>h w (aq _ hw);have h1:=wr_len (h w ax);have h2:=wr_pos (h w ax);simp only[wrs,aH,List.flatten_cons,a8,aJ]at this ⊢;lia
def whl_go{c:FT}{f:FS}{n:Nat}{δ δ':En}(h1:c δ=aa true)(h2:f δ=aa (.nx δ')):whl c f (n+1) δ=whl c f n δ':=by
 simp only[whl,h1,h2,cQ,if_true];rfl
def whl_end{c:FT}{f:FS}{n:Nat}{δ:En}(h1:c δ=aa false):whl c f (n+1) δ=aa (.nx δ):=by
 simp only[whl,h1,cQ,if_false,bm]
def cut_mid(pre mid post:List Nat):zfP (pre++(mid++post)) (aa (pre.length:Int)) (aa ((pre.length+mid.length:Nat):Int))=mid:=by
 unfold zfP;rw[HT.sIx_nat,HT.sIx_nat,dW (by simp),dW (by simp),show pre.length+mid.length-pre.length=mid.length by lia,List.drop_left,List.take_left]
def wrs_app(a b:List (List Nat)):wrs (a++b)=wrs a++wrs b:=by simp[wrs]
def zhm(w:List Nat)(b:List (List Nat)):wrs (w::b)=wr w++wrs b:=by simp[wrs]
def pD_app(a:List (List Nat))(w:List Nat):pD (a++[w])=pD a++[D.str (mkS w)]:=by simp[pD]
def read_turn(T:List Nat)(done:List D)(b e:Nat)(w:List Nat)(x3:Option Ent)(hd:done.length<1000)(hl:T.length<=1000000)(h1:zaK [.str (mkS T),.int (b:Int)]=aa (.val (.int (e:Int))))(h2:zbX [.str (mkS (zfP T (aa (b:Int)) (aa (e:Int))))]=aa (.val (.str (mkS w)))) :
  za5 [aa (.val (.str (mkS T))),aa (.own done),aa (.val (.int (b:Int))),x3]=aa (.nx [aa (.val (.str (mkS T))),aa (.own (done++[.str (mkS w)])),aa (.val (.int (e:Int))),aa (.val (.int (e:Int)))]):=by
 have hl':(mkS T).length<=1000000:=by rw[zau];exact hl
 simp (disch:=omega) only[za5,zah,zaE,zag,zaa,zab,jqe,jqf,zae,jqc,jqa,zaA,zbn,asV,h1,jqh,jqg,toN,sqO,zhw,eSl,oSo,iOf,gSlS,sOf,zao,zaY,zaf,h2]
def ziE(T:List Nat)(done x3:Option Ent)(b:Nat)(hl:T.length<=1000000):za3 [aa (.val (.str (mkS T))),done,aa (.val (.int (b:Int))),x3]=aa (decide ((b:Int)<(T.length:Int))):=by
 have hl':(mkS T).length<=1000000:=by rw[zau];exact hl
 simp (disch:=omega) only[za3,tOf,ex2,zab,jqf,jqe,eCB,zaa,zae,jqc,jqa,zdf,sOf,zau,zao,zaf,gLt,pI0,iOf,bOf]
def zic:∀(todo done:List (List Nat)) (n:Nat) (x3:Option Ent),(∀w∈done++todo,Cls w)->(done++todo).length<=900->todo.length<n ->
  ∃x3',whl za3 za5 n [aa (.val (.str (mkS (wrs (done++todo))))),aa (.own (pD done)),aa (.val (.int ((wrs done).length:Int))),x3] =
   aa (.nx [aa (.val (.str (mkS (wrs (done++todo))))),aa (.own (pD (done++todo))),aa (.val (.int ((wrs (done++todo)).length:Int))),x3'])
 |[],done,n+1,x3,hc,hl,_=>by
  have hw:=ziY hc;rw[bp]at hc hl hw ⊢;refine⟨x3,whl_end ?_⟩;rw[ziE _ _ _ _ (by lia)];simp
 |w::todo,done,n+1,x3,hc,hl,hn=>by
  have hw:=ziY hc;have hcw:=hc w (by simp);have e0:done++w::todo=(done++[w])++todo:=by simp
  have eT:wrs (done++w::todo)=wrs done++(wr w++wrs todo):=by rw[wrs_app,zhm]
  obtain⟨x3',ih⟩:=zic todo (done++[w]) n (aa (.val (.int ((wrs (done++[w])).length:Int)))) (by rw[<- e0];exact hc) (by rw[<- e0];exact hl) (by simpa using hn);rw[<- e0]at ih;refine⟨x3',fq (whl_go (δ':=[aa (.val (.str (mkS (wrs (done++w::todo))))),aa (.own (pD (done++[w]))),aa (.val (.int ((wrs (done++[w])).length:Int))),aa (.val (.int ((wrs (done++[w])).length:Int)))]) ?_ ?_) ih⟩
  ·rw[ziE _ _ _ _ (by lia),eT];have:=wr_pos hcw;simp;lia
  ·rw[pD_app];have el:(wrs (done++[w])).length=(wrs done).length+(wr w).length:=by rw[wrs_app,a8];simp[wrs]
   refine read_turn _ _ _ _ w x3 (by simp only[pD,aw];simp at hl;lia) (by lia) ?_ ?_
   ·rw[el,eT];exact end_ok _ _ _ hcw (by rw[<- eT];lia)
   ·rw[el,eT,cut_mid];exact zhB hcw
def read_ok(ws:List (List Nat))(hc:∀w∈ws,Cls w)(hl:ws.length<=40):zbK [.str (mkS (wrs ws))]=aa (.val (.tup (pD ws))):=by
 obtain⟨x3,e⟩:=zic ws [] 1000 ab (by simpa using hc) (by simp;lia) (by lia);rw[cD]at e;have e0:(wrs []).length=0:=rfl;rw[e0]at e;have e':whl za3 za5 1000 [aa (.val (.str (mkS (wrs ws)))),aa (.own []),aa (.val (.int 0)),ab]=aa (.nx [aa (.val (.str (mkS (wrs ws)))),aa (.own (pD ws)),aa (.val (.int ((wrs ws).length:Int))),x3]):=e;have t1:("str" == "str")=true:=rfl;have hlen:(pD ws).length=ws.length:=by simp[pD]
 have h40:¬ ((ws.length:Int) > 40):=by lia
 have hz:ws.length<=1000000:=by lia
 simp (disch:=omega) only[zbK,zbb,stE,stN,jqc,jqa,zdw,zah,fIf,zgR,tOf,ex1,zab,az,fNx,gGt,jqi,jqj,jqe,gIsi,obD,jqr,isiD,tyN,t1,jC,jrb,bOf,jqt,sqO,zaE,zde,zae,jqq,Nat.reduceLeDiff,zd5,jra,jqh,jqg,toN,eC,e',ex2,eCB,zaa,jqf,zbk,zcJ,asL,hlen,pI0,iOf,h40,jqz,zaH,zcF,zdg]
def show_ok(ws:List (List Nat))(hc:∀w∈ws,Cls w)(hl:ws.length<=900):zbP [.tup (pD ws)]=aa (.val (.str (mkS (wrs ws)))):=by
 have ec:eLC [] (iT (zab 0)) zdD zcm [aa (.val (.tup (pD ws)))]=aa (.own ((ws.map λw=>mkS (wr w)).map D.str)):=by
  refine zfc (ds:=pD ws) ?_ ?_ (by simp;lia)
  ·simp only[iT,zab,fJ,cQ,zcJ]
  ·refine ze5 _ _ (by simp[pD]) (λd _=>rfl) λi d hd=>?_;unfold pD at hd;rw[aB]at hd;obtain⟨w,e1,e2⟩:=cZ.mp hd;subst e2;have hk:=zeV (w:=w) (by have:=(hc w (bR e1)).len;lia);refine⟨.str (mkS (wr w)),?_,by rw[aB,aB,e1];rfl⟩;simp only[zcm,zag,zaa,zab,cEn,jqo,jqe,zae,jqc,jqa,zaA,zbn,asV,hk]
 have es:zgi ((ws.map λw=>mkS (wr w)).map D.str)=aa (ws.map λw=>mkS (wr w)):=zeP _;have ej:ix (mkS []) (ws.map λw=>mkS (wr w))=mkS (wrs ws):=by
  have:=zjL (ws.map wr);rw[bN]at this;exact this
 have hsum:((ws.map λw=>mkS (wr w)).map λx=>x.length).sum=(wrs ws).length:=by
  clear ec es ej hl
  induction ws with
  |nil=>rfl
  |cons w ws ih=>
   rw[aH,aH,g6,ih λw hw=>hc w (aq _ hw),zhm,a8,zau]
 have hw:=ziY hc;have hs:((ws.map λw=>mkS (wr w)).map λx=>x.length).sum+ws.length*(mkS []).length<=1000000:=by rw[hsum,zau];simp;lia
 simp (disch:=omega) only[zbP,zbb,stE,stN,jqc,jqa,zdy,zaH,eBM,eC,noneS,zaa,az,jqk,zae,zgF,sOf,asL,toN,ec,es,aw,zao,ej,zaf,zdg]
end
def alph:("abcdefghijklmnopqrstuvwxyz" : Str).cps.toList=(au 26).map λi=>97+i:=by decide +kernel
def cell_turn(n m:Int)(sc i:Option Ent):zcu [sc,i,aa (.val (.int n)),aa (.val (.int m))]=aa (.nx [sc,i,aa (.val (.int ((n*613+m)%2147483629))),aa (.val (.int m))]):=by
 simp (disch:=omega) only[zcu,zaE,ex2,zab,jqf,jqe,eC,zfA,pI,iOf,jqa,zdo,jrc,zaf,zci,pI0,jqc,zc2,zaN,jqh,jqg,toN]
def ziB:∀(ms:List Int) (n:Int) (sc i k:Option Ent),∃n' k',loop (gNm 3) zcu (ms.map D.int) [sc,i,aa (.val (.int n)),k]=aa (.nx [sc,i,aa (.val (.int n')),k'])
 |[],n,_,_,k=>⟨n,k,rfl⟩
 |m::ms,n,sc,i,k=>by
  obtain⟨n',k',h⟩:=ziB ms ((n*613+m)%2147483629) sc i (aa (.val (.int m)));exact⟨n',k',(zaV rfl (cell_turn n m sc i)).trans h⟩
def zgs(ns:List Int)(i:Int)(h0:0<=i)(h1:i<1000):∃c,zap [.lst (ns.map .int),.int i]=aa (.val (.int c)):=by
 by_cases hi:i<ns.length
 ·have hx:atI (ns.map D.int) i=aa (.int (ns.getD i.toNat 0)):=zeH h0 (by rw[aB,aN (by lia)];simp[show i.toNat<ns.length by lia]);refine⟨ns.getD i.toNat 0,?_⟩;simp (disch:=omega) only[zap,zbb,stE,stN,jqc,jqa,zdP,zah,fIf,tOf,ex2,zab,az,eCB,zaa,zae,gLt,pI0,iOf,zaH,zdF,asL,toN,fNx,zci,zfA,zc2,jqi,jqj,jqf,jqe,zbk,zcJ,aw,hi,jqy,bOf,hx,jra,sqO,zdg]
 ·obtain⟨n',k',e⟩:=ziB (ns.take 63) (104729+7919*i*i) (aa (.bor (ns.map .int))) (aa (.val (.int i))) ab;have hcut:zfP (ns.map D.int) ab (aa 63)=(ns.take 63).map D.int:=by rw[zkf _ (by decide),List.map_take];rfl
  have hb:b64 i:=b64_of (by lia);have hb2:b64 ((n'*48271+16807*i)%2147483647):=b64_of (by lia);refine⟨(n'*48271+16807*i)%2147483647*((n'*48271+16807*i)%2147483647)%2147483629,?_⟩;simp (disch:=omega) only[zap,zbb,stE,stN,jqc,jqa,zdP,zah,fIf,tOf,ex2,zab,az,eCB,zaa,zae,gLt,pI0,iOf,zaH,zdF,asL,toN,fNx,zci,zfA,zc2,jqi,jqj,jqf,jqe,zbk,zcJ,aw,hi,jqz,bOf,jqr,jrb,sqO,zaE,eC,pI,zdo,jrc,zaf,jqh,jqg,zd4,iL,eSl,oNo,oSo,gSlL,hcut,e,zaN,zdg]
def dig_turn1(b left:Int)(c m k:Option Ent)(fs:List D)(h0:0<b)(h1:b<1073741824)(hf:fs.length<1000000) :
  zbi [c,aa (.val (.int b)),m,aa (.own fs),aa (.val (.int left)),k]=aa (.nx [c,aa (.val (.int b)),m,aa (.own (fs++[.int (left%b)])),aa (.val (.int (left / b))),k]):=by
 simp (disch:=omega) only[zbi,zah,zhw,jqf,jqe,ex2,zab,zc2,pI,iOf,jqa,zaN,zaf,asV,zao,jqh,jqg,zeF,sqO,zaE,zca,toN,jqc]
def dig_turn2(b left kk:Int)(c m:Option Ent)(fs:List D)(h0:0<b)(hk:-1000000<kk/\kk<1000000)(hf:fs.length<1000000) :
  ∃left' d,zaQ [c,aa (.val (.int b)),m,aa (.own fs),aa (.val (.int left)),aa (.val (.int kk))]=aa (.nx [c,aa (.val (.int b)),m,aa (.own (fs++[.int d])),aa (.val (.int left')),aa (.val (.int kk))])/\0<=d/\d<b:=by
 refine⟨(left*69621+16807*kk*kk+7)%2147483629,((left*69621+16807*kk*kk+7)%2147483629)*((left*69621+16807*kk*kk+7)%2147483629)%2147483647 / 3%b,?_,cM _ (by lia),cG _ h0⟩;simp (disch:=omega) only[zaQ,zah,zaE,ex2,zab,jqf,jqe,eC,zfA,pI,iOf,jqa,zdo,jrc,zaf,zci,pI0,jqc,zc2,zaN,jqh,jqg,toN,zeF,sqO,zhw,zca,asV,zao]
def ziz(b:Int)(c m:Option Ent)(h0:0<b)(h1:b<1073741824):∀(ks:List Int) (fs:List Int) (left:Int) (k:Option Ent),fs.length+ks.length<=1000000->(∀d∈fs,0<=d/\d<b) ->
  ∃(fs':List Int) (left':Int) (k':Option Ent),loop (gNm 5) zbi (ks.map D.int) [c,aa (.val (.int b)),m,aa (.own (fs.map .int)),aa (.val (.int left)),k]=aa (.nx [c,aa (.val (.int b)),m,aa (.own (fs'.map .int)),aa (.val (.int left')),k']) /\
   fs'.length=fs.length+ks.length/\∀d∈fs',0<=d/\d<b
 |[],fs,left,k,_,hd=>⟨fs,left,k,rfl,rfl,hd⟩
 |kk::ks,fs,left,k,hl,hd=>by
  simp only[aJ]at hl;obtain⟨fs',left',k',e,e1,e2⟩:=ziz b c m h0 h1 ks (fs++[left%b]) (left / b) (aa (.val (.int kk))) (by simp;lia) (λd h=>by
   rcases br.mp h with h|h
   ·exact hd d h
   ·cases bn.mp h;exact⟨cM _ (by lia),cG _ h0⟩)
  refine⟨fs',left',k',?_,by rw[e1];simp;lia,e2⟩;rw[cC]at e;exact(zaV rfl (dig_turn1 b left c m _ (fs.map .int) h0 h1 (by rw[aw];lia))).trans e
def zik(b:Int)(c m:Option Ent)(h0:0<b):∀(ks:List Int) (fs:List Int) (left:Int) (k:Option Ent),fs.length+ks.length<=1000000->(∀d∈fs,0<=d/\d<b)->(∀kk∈ks,-1000000<kk/\kk<1000000) ->
  ∃(fs':List Int) (left':Int) (k':Option Ent),loop (gNm 5) zaQ (ks.map D.int) [c,aa (.val (.int b)),m,aa (.own (fs.map .int)),aa (.val (.int left)),k]=aa (.nx [c,aa (.val (.int b)),m,aa (.own (fs'.map .int)),aa (.val (.int left')),k']) /\
   fs'.length=fs.length+ks.length/\∀d∈fs',0<=d/\d<b
 |[],fs,left,k,_,hd,_=>⟨fs,left,k,rfl,rfl,hd⟩
 |kk::ks,fs,left,k,hl,hd,hk=>by
  simp only[aJ]at hl;obtain⟨l2,d,t,t1,t2⟩:=dig_turn2 b left kk c m (fs.map .int) h0 (hk kk ax) (by rw[aw];lia);obtain⟨fs',left',k',e,e1,e2⟩:=zik b c m h0 ks (fs++[d]) l2 (aa (.val (.int kk))) (by simp;lia) (λd' h=>by
   rcases br.mp h with h|h
   ·exact hd d' h
   ·cases bn.mp h;exact⟨t1,t2⟩) λx hx=>hk x (aq _ hx)
  refine⟨fs',left',k',?_,by rw[e1];simp;lia,e2⟩;rw[cC]at e;exact(zaV rfl t).trans e
def ze6(c b m:Int)(h0:0<b)(h1:b<1073741824)(m0:0<=m)(m1:m<=1000) :
  ∃fs:List Int,zax [.int c,.int b,.int m]=aa (.own (fs.map .int))/\fs.length=m.toNat/\∀d∈fs,0<=d/\d<b:=by
 have er:(au m.toNat).map (λ(i:Nat)=>D.int (0+(i:Int)))=((au m.toNat).map λ(i:Nat)=>(0+(i:Int))).map D.int:=by rw[bN];rfl
 have hrl:((au m.toNat).map λ(i:Nat)=>(0+(i:Int))).length=m.toNat:=by simp
 have hrb:∀kk∈(au m.toNat).map (λ(i:Nat)=>(0+(i:Int))),-1000000<kk/\kk<1000000:=λkk h=>by
  obtain⟨i,hi,rfl⟩:=bY.mp h;have:=c8.mp hi;lia
 obtain⟨fs1,l1,k1,w1,n1,d1⟩:=ziz b (aa (.val (.int c))) (aa (.val (.int m))) h0 h1 ((au m.toNat).map λ(i:Nat)=>(0+(i:Int))) [] c ab (by rw[hrl];simp;lia) (by simp);rw[hrl]at n1;simp only[dA,bv]at n1;simp only[dj]at w1;have hb:b62 m:=zeG ⟨by lia,by lia⟩;have s1:zaE 3 (zde zae) [aa (.val (.int c)),aa (.val (.int b)),aa (.val (.int m)),ab,ab,ab]=aa (.nx [aa (.val (.int c)),aa (.val (.int b)),aa (.val (.int m)),aa (.own []),ab,ab]):=rfl;have s2:zaE 4 (zab 0) [aa (.val (.int c)),aa (.val (.int b)),aa (.val (.int m)),aa (.own []),ab,ab]=aa (.nx [aa (.val (.int c)),aa (.val (.int b)),aa (.val (.int m)),aa (.own []),aa (.val (.int c)),ab]):=rfl;have it:∀x3 x4 x5:Option Ent,iR1 (zaa (zab 2) zae) [aa (.val (.int c)),aa (.val (.int b)),aa (.val (.int m)),x3,x4,x5]=aa (((au m.toNat).map λ(i:Nat)=>(0+(i:Int))).map D.int):=λx3 x4 x5=>by
  rw[<- er];exact zhx hb
 have s3:zd4 (iR1 (zaa (zab 2) zae)) (gNm 5) zbi [aa (.val (.int c)),aa (.val (.int b)),aa (.val (.int m)),aa (.own []),aa (.val (.int c)),ab]=aa (.nx [aa (.val (.int c)),aa (.val (.int b)),aa (.val (.int m)),aa (.own (fs1.map .int)),aa (.val (.int l1)),k1]):=by
  unfold zd4;rw[it];exact w1
 have e0:zax [.int c,.int b,.int m]=(zcS [aa (.val (.int c)),aa (.val (.int b)),aa (.val (.int m)),ab,ab,ab]).bind zdg:=rfl;rw[e0];unfold zcS;rw[zbY s1,zbY s2,zbY s3];by_cases hm:0<m
 ·have hne:fs1≠[]:=by rintro rfl;simp at n1;lia
  obtain⟨ys,z,hz⟩:∃ys z,fs1=ys++[z]:=⟨fs1.dropLast,fs1.getLast hne,(List.dropLast_concat_getLast hne).symm⟩;have hlast:atI (fs1.map D.int) (-1)=aa (.int z):=atI_m1 (by rw[hz];simp);by_cases hl:l1=0
  ·by_cases hz0:z=0
   ·obtain⟨fs2,l2,k2,w2,n2,d2⟩:=zik b (aa (.val (.int c))) (aa (.val (.int m))) h0 ((au m.toNat).map λ(i:Nat)=>(0+(i:Int))) [] ((c*48271+104729*m)%2147483647) k1 (by rw[hrl];simp;lia) (by simp) hrb;rw[hrl]at n2;simp only[dA,bv]at n2;refine⟨fs2,?_,n2,d2⟩;have s4:zd4 (iR1 (zaa (zab 2) zae)) (gNm 5) zaQ [aa (.val (.int c)),aa (.val (.int b)),aa (.val (.int m)),aa (.own []),aa (.val (.int ((c*48271+104729*m)%2147483647))),k1]=aa (.nx [aa (.val (.int c)),aa (.val (.int b)),aa (.val (.int m)),aa (.own (fs2.map .int)),aa (.val (.int l2)),k2]):=by
     unfold zd4;rw[it];exact w2
    generalize zd4 (iR1 (zaa (zab 2) zae)) (gNm 5) zaQ=LL at *;simp (disch:=omega) only[zah,fIf,zh4,tOf,ex2,zab,hl,jqf,jqe,eC,gGt,pI0,iOf,jqa,jqc,hm,jqy,bOf,gEq,zaG,ex1,zd8,Int.reduceNeg,zdF,asL,hlast,hz0,jra,zaE,zfA,pI,zdo,jrc,zaf,zci,zc2,zaN,jqh,jqg,toN,sqO,zde,zae,jqq,Nat.reduceLeDiff,zd5,s4,fNx,zcU,zdg]
   ·refine⟨fs1,?_,n1,d1⟩;simp (disch:=omega) only[zah,fIf,zh4,tOf,ex2,zab,hl,jqf,jqe,eC,gGt,pI0,iOf,jqa,jqc,hm,jqy,bOf,gEq,zaG,ex1,zd8,Int.reduceNeg,zdF,asL,hlast,hz0,jqz,jra,zaE,zfA,pI,zdo,jrc,zaf,zci,zc2,zaN,jqh,jqg,toN,sqO,zde,zae,jqq,Nat.reduceLeDiff,zd5,zd4,iR1,zaa,zds,fNx,jqr,jrb,zcU,zdg]
  ·refine⟨fs1,?_,n1,d1⟩;simp (disch:=omega) only[zah,fIf,zh4,tOf,ex2,zab,jqf,jqe,eC,gGt,pI0,iOf,jqa,jqc,hm,jqy,bOf,gEq,zaG,hl,jqz,ex1,zd8,Int.reduceNeg,zdF,asL,jqr,jrb,jra,zaE,zfA,pI,zdo,jrc,zaf,zci,zc2,zaN,jqh,jqg,toN,sqO,zde,zae,jqq,Nat.reduceLeDiff,zd5,zd4,iR1,zaa,zds,fNx,zcU,zdg]
 ·refine⟨fs1,?_,n1,d1⟩;simp (disch:=omega) only[zah,fIf,zh4,tOf,ex2,zab,jqf,jqe,eC,gGt,pI0,iOf,jqa,jqc,hm,jqz,bOf,gEq,zaG,ex1,zd8,Int.reduceNeg,zdF,asL,jqs,jqr,jrb,zaE,zfA,pI,zdo,jrc,zaf,zci,zc2,zaN,jqh,jqg,toN,sqO,zde,zae,jqq,Nat.reduceLeDiff,zd5,jra,zd4,iR1,zaa,zds,fNx,zcU,zdg]
def pool_el{A:Str}(hA:A.cps.toList=(au 26).map λi=>97+i)(c:Int)(k:Int):∃w:Nat,zbj [aa (.val (.int k)),aa (.val (.str A)),aa (.val (.int c))]=aa (.val (.str (mkS [w])))/\97<=w/\w<=122:=by
 have hx:atI A.cps.toList ((c / 4+k)%26)=aa (97+((c / 4+k)%26).toNat):=by
  refine zeH (cM _ (by decide)) ?_;rw[hA,aB,cg (by lia)];simp
 have hl:A.length<=1000000:=by
  have:=congrArg fQ hA;simp at this;unfold gi;lia
 refine⟨97+((c / 4+k)%26).toNat,?_,by lia,by lia⟩;simp (disch:=omega) only[zbj,ex2,zab,jqf,jqe,eC,zeF,pI,iOf,jqa,zca,zaf,zci,pI0,jqc,zc2,zaN,zhi,sOf,zao,hx]
def few_of(c:Int):∃n:Nat,atI [D.int 26,D.int 2,D.int 3,D.int 4] (c%4)=aa (.int n)/\2<=n/\n<=26:=by
 have h0:=cM c (show(4:Int)≠0 by decide);have h1:=cG c (show(0:Int)<4 by decide);have:c%4=0\/c%4=1\/c%4=2\/c%4=3:=by lia
 rcases this with h|h|h|h <;> rw[h]
 ·exact⟨26,rfl,by decide,by decide⟩
 ·exact⟨2,rfl,by decide,by decide⟩
 ·exact⟨3,rfl,by decide,by decide⟩
 ·exact⟨4,rfl,by decide,by decide⟩
def pool_ok(c:Int):∃ws:List Nat,zc5 [.int c]=aa (.own (ws.map λw=>.str (mkS [w])))/\2<=ws.length/\ws.length<=26/\∀w∈ws,97<=w/\w<=122:=by
 obtain⟨n,hn,n2,n26⟩:=few_of c;have hb62:b62 (n:Int):=zeG (by lia);obtain⟨A,eA⟩:∃A:Str,A = "abcdefghijklmnopqrstuvwxyz" :=⟨_,rfl⟩;have hA:A.cps.toList=(au 26).map λi=>97+i:=by rw[eA];exact alph
 have cp:∀ks:List Int,∃ws:List Nat,zdc (λd=>zdD (cEn [1,0] [aa (.val (.int c)),aa (.val (.str A)),aa (.val (.int n))] d)) (λd=>zbj (cEn [1,0] [aa (.val (.int c)),aa (.val (.str A)),aa (.val (.int n))] d)) (ks.map D.int)=aa (ws.map λw=>.str (mkS [w]))/\ws.length=ks.length/\∀w∈ws,97<=w/\w<=122:=by
  intro ks
  induction ks with
  |nil=>exact⟨[],rfl,rfl,by simp⟩
  |cons k ks ih=>
   obtain⟨ws,w1,w2,w3⟩:=ih;obtain⟨w,q1,q2,q3⟩:=pool_el hA c k;refine⟨w::ws,?_,by simp[w2],λx hx=>?_⟩
   ·rw[aH,zdc];have:zbj (cEn [1,0] [aa (.val (.int c)),aa (.val (.str A)),aa (.val (.int n))] (.int k))=aa (.val (.str (mkS [w]))):=q1;rw[this,w1];rfl
   ·rcases aF.mp hx with rfl|hx
    ·exact⟨q2,q3⟩
    ·exact w3 x hx
 obtain⟨ws,w1,w2,w3⟩:=cp ((au n).map λ(i:Nat)=>(0+(i:Int)));rw[aw,cz]at w2;refine⟨ws,?_,by lia,by lia,w3⟩;have er:(au (n:Int).toNat).map (λ(i:Nat)=>D.int (0+(i:Int)))=((au n).map λ(i:Nat)=>(0+(i:Int))).map D.int:=by rw[bN];rfl
 have hl:ws.length<=1000000:=by lia
 have hE:eLC [1,0] (iR1 (zaa (zab 2) zae)) zdD zbj [aa (.val (.int c)),aa (.val (.str A)),aa (.val (.int n))]=aa (.own (ws.map λw=>.str (mkS [w]))):=
  zfc (by simp (disch:=omega) only[iR1,zaa,zab,jqf,jqe,zae,jqc,jqa,iOf,zds,er,zaf]) w1 (by rw[aw];exact hl)
 simp (disch:=omega) only[zc5,zbb,stE,stN,jqc,jqa,zeM,zah,zaE,eC,<- eA,az,toN,zc2,sqO,ex2,zde,zaa,zae,jqp,jqq,Nat.reduceLeDiff,zd5,asV,jra,zab,pI,iOf,zaN,zaf,zdF,asL,jqi,jqj,jqh,jqg,jqe,hn,zaH,hE,zdg]
def text_ok(ws:List Nat)(c m:Int)(h2:0<ws.length)(h26:ws.length<=26)(m0:0<=m)(m1:m<=1000) :
  ∃w:List Nat,zc4 [.lst (ws.map λw=>.str (mkS [w])),.int c,.int m]=aa (.val (.str (mkS w)))/\w.length=m.toNat/\∀x∈w,x∈ws:=by
 obtain⟨fs,q,hl,hd⟩:=ze6 c ws.length m (by lia) (by lia) m0 m1;have cp:∀fs:List Int,(∀d∈fs,0<=d/\d<(ws.length:Int))->∃w:List Nat,zdc (λd=>zdD (cEn [0] [aa (.bor (ws.map λw=>.str (mkS [w]))),aa (.val (.int c)),aa (.val (.int m))] d)) (λd=>zbO (cEn [0] [aa (.bor (ws.map λw=>.str (mkS [w]))),aa (.val (.int c)),aa (.val (.int m))] d)) (fs.map D.int)=aa (w.map λw=>.str (mkS [w]))/\w.length=fs.length/\∀x∈w,x∈ws:=by
  intro fs
  induction fs with
  |nil=>intro _;exact⟨[],rfl,rfl,by simp⟩
  |cons k ks ih=>
   intro hd;obtain⟨w,w1,w2,w3⟩:=ih λd h=>hd d (aq _ h);obtain⟨k0,k1⟩:=hd k ax;have hx:atI (ws.map λw=>D.str (mkS [w])) k=aa (.str (mkS [ws[k.toNat]'(by lia)])):=zeH k0 (by rw[aB,aN (by lia)];rfl);have he:zbO (cEn [0] [aa (.bor (ws.map λw=>.str (mkS [w]))),aa (.val (.int c)),aa (.val (.int m))] (.int k))=aa (.val (.str (mkS [ws[k.toNat]'(by lia)]))):=by
    simp (disch:=omega) only[zbO,ex2,zab,cEn,jqn,jqe,jqx,jqa,capt,jqo,jqf,zdF,asL,iOf,hx,jqc]
   refine⟨ws[k.toNat]'(by lia)::w,?_,by simp[w2],λx hx=>?_⟩
   ·rw[aH,zdc,he,w1];rfl
   ·rcases aF.mp hx with rfl|hx
    ·exact eD _
    ·exact w3 x hx
 obtain⟨w,w1,w2,w3⟩:=cp fs hd;refine⟨w,?_,by rw[w2,hl],w3⟩;have hsum:((w.map λc=>mkS [c]).map λx=>x.length).sum+w.length*(mkS []).length<=1000000:=by
  have:((w.map λc=>mkS [c]).map λx=>x.length).sum=w.length:=by
   clear w1 w2 w3
   induction w with
   |nil=>rfl
   |cons c w ih=>rw[aH,aH,g6,ih,zau];simp;lia
  rw[this,zau,w2,hl];simp;lia
 have hw:w.length<=1000000:=by lia
 have hs:zgi (w.map λc=>D.str (mkS [c]))=aa (w.map λc=>mkS [c]):=by
  have:=zeP (w.map λc=>mkS [c]);rwa [bN]at this
 have hE:eLC [0] (iL (zag [.v,.v,.v] zax (zaa (zab 1) (zaa (eCB zbk (zaa (zab 0) zae)) (zaa (zab 2) zae))))) zdD zbO [aa (.bor (ws.map λw=>.str (mkS [w]))),aa (.val (.int c)),aa (.val (.int m))]=aa (.own (w.map λw=>.str (mkS [w]))):=
  zfc (by simp (disch:=omega) only[iL,zag,zaa,zab,jqf,jqe,eCB,zae,jqc,jqa,zbk,zcJ,asL,aw,zaA,zbn,asV,q]) w1 (by rw[aw];exact hw)
 have he:(("" : Str))=mkS []:=rfl;simp (disch:=omega) only[zc4,zbb,stE,stN,jqc,jqa,zeK,zaH,eBM,eC,he,zaa,az,jqk,zae,zgF,sOf,asL,toN,hE,hs,aw,zao,zg1,zaf,zdg]
section
open PT
def ss2c(x y:Nat):∃w:List Nat,ssO [mkS [x],mkS [y]]=aa (.own (w.map λc=>.str (mkS [c])))/\w≠[]/\w.length<=2/\(∀c∈w,c=x\/c=y)/\w.Pairwise (·<·):=by
 have fin:∀w:List Nat,(w.map λc=>mkS [c]).Perm (TS.ddp [mkS [x],mkS [y]])->w.Pairwise (·<·)->w.length<=2->ssO [mkS [x],mkS [y]]=aa (.own (w.map λc=>.str (mkS [c]))):=λw hp hl h2=>by
  have hd:(TS.ddp [mkS [x],mkS [y]]).length<64:=by rw[<- hp.length_eq,aw];lia
  have h4:[mkS [x],mkS [y]].length<4000:=by show 2<4000;lia
  have hq:(w.map λc=>mkS [c]).Pairwise TS.le:=by
   rw[fN];exact hl.imp λh=>le_one h
  unfold ssO;rw[TS.srt_eq hq hp,zhx ⟨h4,hd⟩,bN];rfl
 by_cases e:y=x
 ·subst e;exact⟨[y],fin [y] (by simp[TS.ddp,TS.put]) (by simp) (by simp),by simp,by simp,by simp,by simp⟩
 ·have ne:¬ (mkS [y]=mkS [x]):=λq=>e (by have:=zfp q;simpa using this);have hd:TS.ddp [mkS [x],mkS [y]]=[mkS [x],mkS [y]]:=by simp[TS.ddp,TS.put,ne]
  by_cases h:x<y
  ·exact⟨[x,y],fin [x,y] (by rw[hd];exact ke _) (by simp[h]) (by simp),by simp,by simp,by simp,by simp[h]⟩
  ·have h':y<x:=by lia
   exact⟨[y,x],fin [y,x] (by rw[hd];exact .swap ..) (by simp[h']) (by simp),by simp,by simp,λc hc=>by simp at hc;lia,by simp[h']⟩
def clsT(pl wy ar:Option Ent)(n:Int)(f:List Nat)(c:Nat)(hf:f.length<=1000)(h:n%2=1) :
  za4 [pl,aa (.val (.int n)),ar,wy,aa (.val (.str (mkS f))),aa (.val (.str (mkS [c])))]=aa (.nx [pl,aa (.val (.int (n / 2))),ar,wy,aa (.val (.str (mkS (f++[c])))),aa (.val (.str (mkS [c])))]):=by
 have hl:(mkS f).length+(mkS [c]).length<=1000000:=by rw[zau,zau];simp;lia
 simp (disch:=omega) only[za4,zah,fIf,tOf,ex2,zab,jqf,jqe,eC,zc2,pI,iOf,jqa,zaN,zaf,h,gEq,zaG,jqy,jqc,bOf,zaE,zeE,sOf,zao,zeh,jqh,jqg,toN,fNx,jra,zeF,sqO,zca]
def clsF(pl wy ar:Option Ent)(n:Int)(f:List Nat)(c:Nat)(h:¬ (n%2=1)) :
  za4 [pl,aa (.val (.int n)),ar,wy,aa (.val (.str (mkS f))),aa (.val (.str (mkS [c])))]=aa (.nx [pl,aa (.val (.int (n / 2))),ar,wy,aa (.val (.str (mkS f))),aa (.val (.str (mkS [c])))]):=by
 simp (disch:=omega) only[za4,zah,fIf,tOf,ex2,zab,jqf,jqe,eC,zc2,pI,iOf,jqa,zaN,zaf,gEq,zaG,h,jqz,jqc,bOf,zaE,zeE,sOf,jqh,jqg,toN,fNx,jqr,jrb,zeF,sqO,zca]
def zi0(pl wy ar:Option Ent):∀(cs:List Nat) (n:Int) (f:List Nat) (x5:Option Ent),f.length+cs.length<=1000->0<=n->n<2 ^ cs.length->∃(g:List Nat) (n':Int) (x5':Option Ent),g.Sublist cs/\(0<n->g≠[]) /\
  loop (gNm 5) za4 (cs.map λc=>D.str (mkS [c])) [pl,aa (.val (.int n)),ar,wy,aa (.val (.str (mkS f))),x5]=aa (.nx [pl,aa (.val (.int n')),ar,wy,aa (.val (.str (mkS (f++g)))),x5'])
 |[],n,f,x5,_,h0,h1=>⟨[],n,x5,lV,λh=>by simp at h1;lia,by rw[bp];rfl⟩
 |c::cs,n,f,x5,h,h0,h1=>by
  simp only[aJ]at h;have h1':n / 2<2 ^ cs.length:=by
   rw[aJ,Int.pow_succ]at h1;lia
  by_cases hn:n%2=1
  ·obtain⟨g,n2,x2,s2,_,t2⟩:=zi0 pl wy ar cs (n / 2) (f++[c]) (aa (.val (.str (mkS [c])))) (by simp;lia) (by lia) h1';refine⟨c::g,n2,x2,s2.cons_cons c,λ_=>by simp,?_⟩;rw[aH];rw[bw]at t2;exact fq (zaV rfl (clsT pl wy ar n f c (by lia) hn)) t2
  ·obtain⟨g,n2,x2,s2,e2,t2⟩:=zi0 pl wy ar cs (n / 2) f (aa (.val (.str (mkS [c])))) (by lia) (by lia) h1';refine⟨g,n2,x2,s2.cons c,λq=>e2 (by lia),?_⟩;rw[aH];exact fq (zaV rfl (clsF pl wy ar n f c hn)) t2
def lets_up:lets.Pairwise (·<·):=by decide
def class_cls(ws:List Nat)(d:Int)(h2:0<ws.length)(h26:ws.length<=26)(hw:∀c∈ws,97<=c/\c<=122):∃w:List Nat,Cls w/\zba [.lst (ws.map λw=>.str (mkS [w])),.int d]=aa (.val (.str (mkS w))):=by
 obtain⟨A,eA⟩:∃A:Str,A = "abcdefghijklmnopqrstuvwxyz" :=⟨_,rfl⟩;have eA':A=mkS lets:=by rw[eA];decide +kernel
 have w0:=cM d (show(4:Int)≠0 by decide);have w1:=cG d (show(0:Int)<4 by decide);have hz:(0:Int)<(ws.length:Int):=by lia
 have k0:=cM (d / 4) (show(ws.length:Int)≠0 by lia);have k1:=cG (d / 4) hz;have j0:=cM (d / 4 / 26) (show(ws.length:Int)≠0 by lia);have j1:=cG (d / 4 / 26) hz;have hx:=zft (λw=>D.str (mkS [w])) 0 (xs:=ws) k0 (by lia);have hy:=zft (λw=>D.str (mkS [w])) 0 (xs:=ws) j0 (by lia);have mem:∀i:Nat,i<ws.length->97<=ws.getD i 0/\ws.getD i 0<=122:=λi hi=>by
  rw[bM,aN hi];exact hw _ (eD _)
 have mx:=mem (d / 4%(ws.length:Int)).toNat (by lia);have my:=mem (d / 4 / 26%(ws.length:Int)).toNat (by lia);generalize ws.getD (d / 4%(ws.length:Int)).toNat 0=x at hx mx;generalize ws.getD (d / 4 / 26%(ws.length:Int)).toNat 0=y at hy my;by_cases hA0:d%4=0/\d / 4%5=0
 ·refine⟨lets,⟨by simp[lets],λc hc=>mem_lets.mp hc,lets_up⟩,?_⟩;rw[<- eA'];simp (disch:=omega) only[zba,zbb,stE,stN,jqc,jqa,zbp,zah,zaE,eC,<- eA,az,toN,za2,zc2,za7,zeF,za8,sqO,ex2,zab,pI,iOf,zaN,zaf,jqi,jqj,jqh,jqg,jqf,jqe,hA0.1,zca,fIf,zh4,tOf,gEq,zaG,jqy,bOf,hA0.2,jra,zcU,fNx,zdg]
 ·by_cases hB:d%4<2
  ·refine⟨[x],⟨by simp,by simpa using mx,by simp⟩,?_⟩;by_cases q:d%4=0
   ·have q':¬ (d / 4%5=0):=λr=>hA0 ⟨q,r⟩;have q2:(0:Int)<2:=by decide
    simp (disch:=omega) only[zba,zbb,stE,stN,jqc,jqa,zbp,zah,zaE,eC,<- eA,az,toN,za2,zc2,za7,zeF,za8,zbv,gLt,sqO,ex2,zab,pI,iOf,zaN,zaf,jqi,jqj,jqh,jqg,jqf,jqe,q,zca,fIf,zh4,tOf,gEq,zaG,jqy,bOf,q',jqz,jra,zcU,fNx,jqr,jrb,pI0,q2,zaH,eCB,zaa,zae,zbk,zcJ,asL,aw,zdF,hx,zdg]
   ·simp (disch:=omega) only[zba,zbb,stE,stN,jqc,jqa,zbp,zah,zaE,eC,<- eA,az,toN,za2,zc2,za7,zeF,za8,zbv,gLt,sqO,ex2,zab,pI,iOf,zaN,zaf,jqi,jqj,jqh,jqg,jqf,jqe,zca,fIf,zh4,tOf,gEq,zaG,q,jqz,bOf,jqr,jrb,zcU,fNx,pI0,hB,jqy,zaH,eCB,zaa,zae,zbk,zcJ,asL,aw,zdF,hx,jra,zdg]
  ·have q:¬ (d%4=0):=by lia
   by_cases hC:d%4=2
   ·obtain⟨w,z1,z2,z3,z4,z5⟩:=ss2c x y;have he:(("" : Str))=mkS []:=rfl;have hs:=zeP [mkS [x],mkS [y]];simp only[aH,dj]at hs;have hs2:zgi (w.map λc=>D.str (mkS [c]))=aa (w.map λc=>mkS [c]):=by
     have:=zeP (w.map λc=>mkS [c]);rwa [bN]at this
    have hsum:((w.map λc=>mkS [c]).map λx=>x.length).sum=w.length:=by
     clear z1 z2 z3 z4 z5 hs2
     induction w with
     |nil=>rfl
     |cons c w ih=>rw[aH,aH,g6,ih,zau];simp;lia
    have hl:((w.map λc=>mkS [c]).map λx=>x.length).sum+w.length*(mkS []).length<=1000000:=by rw[hsum,zau];simp;lia
    refine⟨w,⟨z2,λc hc=>by rcases z4 c hc with rfl|rfl;exact mx;exact my,z5⟩,?_⟩;have n2:¬ ((2:Int)<2):=by decide
    simp (disch:=omega) only[zba,zbb,stE,stN,jqc,jqa,zbp,zah,zaE,eC,<- eA,az,toN,za2,zc2,za7,zeF,za8,zbv,gLt,zc7,he,sqO,ex2,zab,pI,iOf,zaN,zaf,jqi,jqj,jqh,jqg,jqf,jqe,hC,zca,fIf,zh4,tOf,gEq,zaG,Int.reduceEq,jqz,bOf,jqr,jrb,zcU,fNx,pI0,n2,zaH,eCB,zaa,zae,zbk,zcJ,asL,aw,zdF,hx,jqy,eBM,ex1,zde,hy,jqp,jqq,Nat.reduceLeDiff,zd5,asV,jra,zfY,hs,z1,zgF,sOf,hs2,zao,zg1,zdg]
   ·have he:(("" : Str))=mkS []:=rfl;have hA:A.cps.toList=lets:=by rw[eA',zaY]
    have m0:=cM (d / 4) (show(67108863:Int)≠0 by decide);have m1:=cG (d / 4) (show(0:Int)<67108863 by decide);obtain⟨g,n',x5',sb,hne,t'⟩:=zi0 (aa (.bor (ws.map λw=>.str (mkS [w])))) (aa (.val (.int (d%4)))) (aa (.val (.str A))) (A.cps.toList) (d / 4%67108863+1) [] ab (by rw[hA];simp[lets]) (by lia) (by rw[hA];show _<(2:Int) ^ 26;lia);rw[cD]at t';rw[hA]at sb;refine⟨g,⟨hne (by lia),λc hc=>mem_lets.mp (sb.subset hc),lets_up.sublist sb⟩,?_⟩;simp (disch:=omega) only[zba,zbb,stE,stN,jqc,jqa,zbp,zah,zaE,eC,<- eA,az,toN,za2,zc2,za7,zeF,za8,zbv,gLt,zc7,he,zd9,zeg,zci,zeb,sqO,ex2,zab,pI,iOf,zaN,zaf,jqi,jqj,jqh,jqg,jqf,jqe,zca,fIf,zh4,tOf,gEq,zaG,q,jqz,bOf,jqr,jrb,zcU,fNx,pI0,hB,zaH,eCB,zaa,zae,zbk,zcJ,asL,zdF,hC,eBM,ex1,zde,zgF,sOf,zd4,iS,t',zdg]
abbrev pDs(ws:List (List Nat)):List D:=ws.map λw=>D.str (mkS w)
def zi9(ws:List Nat)(c m:Int)(h2:0<ws.length)(h26:ws.length<=26)(hw:∀c∈ws,97<=c/\c<=122)(m0:0<=m)(m1:m<=1000) :
  ∃P:List (List Nat),zcy [.lst (ws.map λw=>.str (mkS [w])),.int c,.int m]=aa (.val (.tup (pDs P)))/\P.length=m.toNat/\∀w∈P,Cls w:=by
 obtain⟨fs,q,hl,hd⟩:=ze6 c 268435452 m (by decide) (by decide) m0 m1;have cp:∀fs:List Int,∃P:List (List Nat),zdc (λd=>zdD (cEn [0] [aa (.bor (ws.map λw=>.str (mkS [w]))),aa (.val (.int c)),aa (.val (.int m))] d)) (λd=>za6 (cEn [0] [aa (.bor (ws.map λw=>.str (mkS [w]))),aa (.val (.int c)),aa (.val (.int m))] d)) (fs.map D.int)=aa (pDs P)/\P.length=fs.length/\∀w∈P,Cls w:=by
  intro fs
  induction fs with
  |nil=>exact⟨[],rfl,rfl,by simp⟩
  |cons k ks ih=>
   obtain⟨P,w1,w2,w3⟩:=ih;obtain⟨z,hc,hz⟩:=class_cls ws k h2 h26 hw;have he:za6 (cEn [0] [aa (.bor (ws.map λw=>.str (mkS [w]))),aa (.val (.int c)),aa (.val (.int m))] (.int k))=aa (.val (.str (mkS z))):=by
    simp (disch:=omega) only[za6,zag,zaa,zab,cEn,jqn,jqe,jqx,jqa,capt,jqo,jqf,zae,jqc,zaA,zbn,asL,asV,hz]
   refine⟨z::P,?_,by simp[w2],λw hw'=>?_⟩
   ·rw[aH,zdc,he,w1];rfl
   ·rcases aF.mp hw' with rfl|h
    ·exact hc
    ·exact w3 w h
 obtain⟨P,w1,w2,w3⟩:=cp fs;refine⟨P,?_,by rw[w2,hl],w3⟩;have hw:P.length<=1000000:=by lia
 have e4:(4:Int)*67108863=268435452:=by decide
 have hE:eLC [0] (iL (zag [.v,.v,.v] zax (zaa (zab 1) (zaa (ex2 zfA (eC (.int 4)) (eC (.int 67108863))) (zaa (zab 2) zae))))) zdD za6 [aa (.bor (ws.map λw=>.str (mkS [w]))),aa (.val (.int c)),aa (.val (.int m))]=aa (.own (pDs P)):=
  zfc (by simp (disch:=omega) only[iL,zag,zaa,zab,jqf,jqe,ex2,eC,zfA,pI,iOf,jqa,zdo,jrc,zaf,e4,zae,jqc,zaA,zbn,asV,q]) w1 (by rw[aw];exact hw)
 simp only[zfA]at hE;simp (disch:=omega) only[zcy,zbb,stE,stN,jqc,jqa,zdA,zaH,eCB,zaa,zfA,az,jqk,zae,toN,hE,zcF,asL,zdg]
end
section
open PT
def all26:∀(n:Nat) (l:List Nat) (b:Nat),l.Pairwise (·<·)->(∀c∈l,b<=c/\c<b+n)->l.length=n->l=cJ b n
 |0,l,b,_,_,h=>by rw[fL.mp h];rfl
 |n+1,l,b,hp,hl,h=>by
  match l,h with
  |c::l,h=>
   have tl:∀d∈l,c+1<=d/\d<c+1+n:=λd hd=>by
    have h1:=cx hp hd;have h2:=hl c ax;have h3:=hl d (aq _ hd);refine⟨h1,?_⟩;lia
   have hc:c=b:=by
    have ll:l.length=n:=by simpa using h
    have h2:=hl c ax;cases n with
    |zero=>lia
    |succ n=>
     have:∀(n:Nat) (l:List Nat) (b:Nat),l.Pairwise (·<·)->(∀c∈l,b<=c/\c<b+n)->l.length<=n:=by
      intro n
      induction n with
      |zero=>
       intro l b _ hl;cases l with
       |nil=>simp
       |cons c l=>have:=hl c ax;lia
      |succ n ih=>
       intro l b hp hl;cases l with
       |nil=>simp
       |cons c l=>
        have:=ih l (b+1) (db hp) (λd hd=>by
         have h1:=cx hp hd;have h2:=hl c ax;have h3:=hl d (aq _ hd);lia)
        simp only[aJ];lia
     refine kG λhne=>?_;have:=this n l (b+2) (db hp) (λd hd=>by
      have h1:=cx hp hd;have h3:=hl d (aq _ hd);lia)
     lia
   subst hc;rw[fU,<- all26 n l (c+1) (db hp) (λd hd=>tl d hd) (by simpa using h)]
def cls26{w:List Nat}(h:Cls w)(hl:w.length=26):w=lets:=by
 rw[all26 26 w 97 h.up (λc hc=>by have:=h.lo c hc;lia) hl];decide
def zh2(pt:Option Ent)(f w:List Nat)(h:Cls w)(hf:f.length<=10000):zaM [pt,aa (.val (.str (mkS f))),aa (.val (.str (mkS w)))]=aa (.nx [pt,aa (.val (.str (mkS (f++wr w)))),aa (.val (.str (mkS w)))]):=by
 have hw:=h.len;have hl:w.length<=1000000:=by lia
 by_cases h1:w.length=1
 ·have e1:((w.length:Int)=1)=True:=eq_true (by lia);have ew:wr w=w:=by
   unfold wr;rw[if_neg (λq=>by rw[q]at h1;simp[lets]at h1),if_pos h1]
  simp (disch:=omega) only[zaM,fIf,tOf,ex2,eCB,zaa,zab,jqf,jqe,zae,jqc,jqa,zdf,sOf,zau,zao,zaf,eC,gEq,zaG,e1,jqy,bOf,zaE,zeE,zeh,jqh,jqg,toN,zde,gLt,pI0,iOf,zkC,jqs,zdF,asL,jra,ew]
 ·have e1:((w.length:Int)=1)=False:=eq_false (by lia);have hs:(mkS [91]).length+w.length<=1000000:=by rw[zau];simp;lia
  have hs2:1+w.length+1<=1000000:=by lia
  have i0:∀a b:D,atI [a,b] 0=aa a:=λ_ _=>rfl;have i1:∀a b:D,atI [a,b] 1=aa b:=λ_ _=>rfl;by_cases h2:w.length=26
  ·have e2:((w.length:Int)<26)=False:=eq_false (by lia);have ew:wr w=[46]:=by unfold wr;rw[if_pos (cls26 h h2)]
   simp (disch:=omega) only[zaM,fIf,tOf,ex2,eCB,zaa,zab,jqf,jqe,zae,jqc,jqa,zdf,sOf,zau,zao,zaf,eC,gEq,zaG,e1,jqz,bOf,zaE,zeE,zeh,jqh,jqg,toN,zde,dotS,openS,jqp,jqq,jqi,jqj,zkh,Nat.reduceLeDiff,zd5,asV,jra,gLt,pI0,iOf,e2,zkC,jqr,jrb,zdF,asL,i0,ew]
  ·have e2:((w.length:Int)<26)=True:=eq_true (by lia);have ew:wr w=91::(w++[93]):=by
    unfold wr;rw[if_neg (λq=>by rw[q]at h2;simp[lets]at h2),if_neg h1]
   have ea:f++91::(w++[93])=f++([91]++w++[93]):=by simp
   rw[ew,ea];simp (disch:=omega) only[zaM,fIf,tOf,ex2,eCB,zaa,zab,jqf,jqe,zae,jqc,jqa,zdf,sOf,zau,zao,zaf,eC,gEq,zaG,e1,jqz,bOf,zaE,zeE,zeh,jqh,jqg,toN,zde,dotS,openS,jqp,jqq,jqi,jqj,zkh,Nat.reduceLeDiff,zd5,asV,jra,gLt,pI0,iOf,e2,jqy,zkC,zdF,asL,i1,a8,jqr,jrb]
def zfE(pt:Option Ent):∀(ws:List (List Nat)) (f:List Nat) (x2:Option Ent),(∀w∈ws,Cls w)->f.length+28*ws.length<=10000 ->
  ∃x2',loop (gNm 2) zaM (pD ws) [pt,aa (.val (.str (mkS f))),x2]=aa (.nx [pt,aa (.val (.str (mkS (f++wrs ws)))),x2'])
 |[],f,x2,_,_=>⟨x2,by simp only[wrs,dj,List.flatten_nil,bp];rfl⟩
 |w::ws,f,x2,hc,hl=>by
  have h1:=wr_len (hc w ax);obtain⟨x',ih⟩:=zfE pt ws (f++wr w) (aa (.val (.str (mkS w)))) (λv hv=>hc v (aq _ hv)) (by simp at hl ⊢;lia);refine⟨x',?_⟩;rw[zhm,<- bw];exact fq (zaV rfl (zh2 pt f w (hc w ax) (by simp at hl;lia))) ih
def zkk(ws:List (List Nat))(hc:∀w∈ws,Cls w)(hl:ws.length<=40):zbN [.tup (pD ws)]=aa (.val (.str (mkS (wrs ws)))):=by
 obtain⟨x2,e⟩:=zfE (aa (.val (.tup (pD ws)))) ws [] ab hc (by simp;lia);rw[cD]at e;simp (disch:=omega) only[zbN,zbb,stE,stN,jqc,jqa,zdz,zah,zaE,eC,noneS,az,toN,sqO,zd4,iT,zab,jqi,jqj,jqh,jqg,jqe,zcJ,e,zcU,jqf,zdg]
end
def four{fs:List Int}(h:fs.length=(4:Int).toNat):∃a b c d,fs=[a,b,c,d]:=by
 match fs,h with
 |[a,b,c,d],_=>exact⟨a,b,c,d,rfl⟩
structure PrOk(p:CE.Pr):Prop where
 a:0<=p.put/\p.put<=9
 b:0<=p.left/\p.left<=9
 c:0<=p.exch/\p.exch<=9
 d:0<=p.turn/\p.turn<=9
open CE in
def prices_ok(c:Int):∃p:Pr,zcV [.int c]=aa (.val p.d)/\PrOk p:=by
 suffices hF:∃p:Pr,zcf [aa (.val (.int c))]=aa (.rt (.val p.d) [aa (.val (.int c))])/\PrOk p from
  hF.imp λp h=>⟨(congrArg (λo=>dH o _) h.1).trans rfl,h.2⟩
 have m4:=modI (E:=zab 0) (F:=eC (.int 4)) (δ:=[aa (.val (.int c))]) rfl rfl (by decide);have d4:=divI (E:=zab 0) (F:=eC (.int 4)) (δ:=[aa (.val (.int c))]) rfl rfl (by decide);have t0:=eqTT (F:=eC (.int 0)) m4 rfl;have t1:=eqTT (F:=eC (.int 1)) m4 rfl;by_cases h0:c%4=0
 ·rw[decide_eq_true h0]at t0;exact⟨⟨1,1,1,0⟩,show zcf _=_ from zgx ((fIfT t0).trans (zep rfl)),⟨by decide,by decide,by decide,by decide⟩⟩
 ·rw[decide_eq_false h0]at t0;rw[show zcf _=_ from zbY (ziF t0)];by_cases h1:c%4=1
  ·rw[decide_eq_true h1]at t1;have:∃p:Pr,atI [D.tup [.int 1,.int 1,.int 1,.int 1],D.tup [.int 0,.int 0,.int 1,.int 0],D.tup [.int 2,.int 2,.int 3,.int 0],D.tup [.int 0,.int 0,.int 1,.int 1],D.tup [.int 1,.int 1,.int 0,.int 0]] (c / 4%5)=aa p.d/\PrOk p:=by
    have:c / 4%5=0\/c / 4%5=1\/c / 4%5=2\/c / 4%5=3\/c / 4%5=4:=by lia
    rcases this with h|h|h|h|h <;> rw[h]
    ·exact⟨⟨1,1,1,1⟩,rfl,⟨by decide,by decide,by decide,by decide⟩⟩
    ·exact⟨⟨0,0,1,0⟩,rfl,⟨by decide,by decide,by decide,by decide⟩⟩
    ·exact⟨⟨2,2,3,0⟩,rfl,⟨by decide,by decide,by decide,by decide⟩⟩
    ·exact⟨⟨0,0,1,1⟩,rfl,⟨by decide,by decide,by decide,by decide⟩⟩
    ·exact⟨⟨1,1,0,0⟩,rfl,⟨by decide,by decide,by decide,by decide⟩⟩
   obtain⟨p,hp,ho⟩:=this;exact⟨p,zgx ((fIfT t1).trans (zep (ixLO rfl (modI d4 rfl (by decide)) hp))),ho⟩
  ·rw[decide_eq_false h1]at t1;obtain⟨fs,q,hl,hd⟩:=ze6 (c / 4) 10 4 (by decide) (by decide) (by decide) (by decide);obtain⟨a,b,e,d,rfl⟩:=four hl;have ha:=hd a (by simp);have hb:=hd b (by simp);have he:=hd e (by simp);have hdd:=hd d (by simp);refine⟨⟨a,b,e,d⟩,(zbY (ziF t1)).trans (zep ?_),⟨⟨ha.1,eG ha.2⟩,⟨hb.1,eG hb.2⟩,⟨he.1,eG he.2⟩,⟨hdd.1,eG hdd.2⟩⟩⟩;have v:zag [.v,.v,.v] zax (zaa (ex2 zeF (zab 0) (eC (.int 4))) (zaa (eC (.int 10)) (zaa (eC (.int 4)) zae))) [aa (.val (.int c))]=aa (.own ([a,b,e,d].map .int)):=by
    generalize ex2 zeF (zab 0) (eC (.int 4))=E at *;simp only[zag,zaa,d4,eC,zae,jqc,jqa,zaA,zbn,asV,q,jqn,jqo]
   generalize zag [.v,.v,.v] zax (zaa (ex2 zeF (zab 0) (eC (.int 4))) (zaa (eC (.int 10)) (zaa (eC (.int 4)) zae)))=E at *;show((zaa E zae) _).bind zcF=_;unfold zaa zae;rw[v];rfl
section
open CE
inductive Kd5|same|exch|put|left|turn
def Kd5.s:Kd5->Str
 |.same=> "same"|.exch=> "exchanged"|.put=> "put"|.left=> "left"|.turn=> "turned"
def Kd5.cu:Kd5->Nat
 |.same=>1|.exch=>1|.put=>0|.left=>1|.turn=>2
def Kd5.su:Kd5->Nat
 |.same=>1|.exch=>1|.put=>1|.left=>0|.turn=>2
def Kd5.pr(p:Pr):Kd5->Int
 |.same=>0|.exch=>p.exch|.put=>p.put|.left=>p.left|.turn=>p.turn
def Kd5.dn(p:Pr):Kd5->Bool
 |.same=>true|.exch=>decide (p.exch≠0)|.put=>decide (p.put≠0)|.left=>decide (p.left≠0)|.turn=>decide (p.turn≠0)
def Kd5.ft(f:Nat->Nat->Bool)(i j:Nat):Kd5->Bool
 |.same=>f i j|.exch=>!f i j|.put=>true|.left=>true|.turn=>f (i+1) j&&f i (j+1)
structure NoK(z:Str):Prop where
 a:(z = "same")=False
 b:(z = "exchanged")=False
 c:(z = "put")=False
 d:(z = "left")=False
 e:(z = "turned")=False
 a':(("same" : Str)=z)=False
 b':(("exchanged" : Str)=z)=False
 c':(("put" : Str)=z)=False
 d':(("left" : Str)=z)=False
 e':(("turned" : Str)=z)=False
def zii(p:Pr)(k:Kd5):zcA [p.d,.str k.s]=aa (.val (.int (k.pr p))):=by cases k <;> kernel_rfl
def is_done_k(p:Pr)(k:Kd5):zei [p.d,.str k.s]=aa (.val (.bl (k.dn p))):=by
 have h:∀a:Int,decide (a≠0)=!decide (V.int a=V.int 0):=λa=>by
  rw[decide_eq_decide.mpr (show(V.int a=V.int 0) ↔ a=0 from ⟨V.int.inj,congrArg _⟩)];exact decide_not
 cases k <;> simp only[Kd5.dn,h] <;> kernel_rfl
variable (P:List Str)(T:List Nat)
def cls_at{i:Nat}(h:i<P.length){k:Int}(e:k=(i:Int)):atI (P.map D.str) k=aa (.str (P.getD i (mkS []))):=by
 subst e;rw[zft D.str (mkS []) (by lia) (by lia)];simp
def sgn_at{j:Nat}(h:j<T.length){k:Int}(e:k=(j:Int)):atI T k=aa (T.getD j 0):=by
 subst e;refine zib ?_;rw[aN h,bM,aN h];rfl
def stB(f:Nat->Nat->Bool)(m n i j:Nat)(k:Kd5):Bool:=if i+k.cu<=m/\j+k.su<=n then k.ft f i j else false
def stG{E2 E3 X Y L0 L1:FE}{δ:En}{i j a b m n:Int}(h2:E2 δ=aa (.val (.int i)))(h3:E3 δ=aa (.val (.int j)))(hX:X δ=aa (.val (.int a)))(hY:Y δ=aa (.val (.int b)))
  (h0:L0 δ=aa (.val (.int m))) (h1:L1 δ=aa (.val (.int n))):fOr (tOf (ex2 gGt (ex2 zci E2 X) L0)) (tOf (ex2 gGt (ex2 zci E3 Y) L1)) δ=aa (decide (i+a > m\/j+b > n)):=by
 by_cases c1:i+a > m
 ·simp only[fOr,tOf,ex2,h2,hX,zci,pI0,iOf,jqa,jqc,h0,gGt,c1,jqy,bOf,jra,jrd]
 ·by_cases c2:j+b > n <;> simp only[fOr,tOf,ex2,h2,hX,zci,pI0,iOf,jqa,jqc,h0,gGt,c1,jqz,bOf,h3,hY,h1,c2,jqy,jqr,jrb,jrc,or_self]
def tabC_k(k:Kd5){Z:FE}{δ:En}(h:Z δ=aa (.val (.str k.s))):ex1 (zkP [("same",1),("exchanged",1),("put",0),("left",1),("turned",2)]) Z δ=aa (.val (.int (k.cu:Int))):=by
 unfold ex1;rw[h];cases k <;> kernel_rfl
def tabS_k(k:Kd5){Z:FE}{δ:En}(h:Z δ=aa (.val (.str k.s))):ex1 (zkP [("same",1),("exchanged",1),("put",1),("left",0),("turned",2)]) Z δ=aa (.val (.int (k.su:Int))):=by
 unfold ex1;rw[h];cases k <;> kernel_rfl
def stδ(i j:Nat)(k:Kd5):En:=[aa (.val (.tup (P.map .str))),aa (.val (.str (mkS T))),aa (.val (.int (i:Int))),aa (.val (.int (j:Int))),aa (.val (.str k.s))]
def st_in{E0 E1 e1 e2:FE}{δ:En}{a b:Nat}(v0:E0 δ=aa (.val (.tup (P.map .str))))(v1:E1 δ=aa (.val (.str (mkS T))))(hl:T.length<=1000000)(h1:e1 δ=aa (.val (.int (b:Int))))(h2:e2 δ=aa (.val (.int (a:Int))))(ha:a<P.length)(hb:b<T.length) :
  ex2 gInS (ex2 zhi E1 e1) (ex2 zch E0 e2) δ=aa (.val (.bl (zbF P T a b))):=by
 have a1:=cls_at P ha rfl;have a2:=sgn_at T hb rfl;simp only[ex2,v1,h1,zhi,sOf,iOf,jqa,zau,hl,zao,zaY,a2,jqc,zaf,v0,h2,zch,zcJ,a1,gInS];rfl
def st_ni{E0 E1 e1 e2:FE}{δ:En}{a b:Nat}(v0:E0 δ=aa (.val (.tup (P.map .str))))(v1:E1 δ=aa (.val (.str (mkS T))))(hl:T.length<=1000000)(h1:e1 δ=aa (.val (.int (b:Int))))(h2:e2 δ=aa (.val (.int (a:Int))))(ha:a<P.length)(hb:b<T.length) :
  ex2 gNiS (ex2 zhi E1 e1) (ex2 zch E0 e2) δ=aa (.val (.bl (!zbF P T a b))):=by
 have a1:=cls_at P ha rfl;have a2:=sgn_at T hb rfl;simp only[ex2,v1,h1,zhi,sOf,iOf,jqa,zau,hl,zao,zaY,a2,jqc,zaf,v0,h2,zch,zcJ,a1,gNiS];rfl
def stand_k(hP:P.length<=100000)(hT:T.length<=100000)(k:Kd5)(i j:Nat)(hi:i<=P.length)(hj:j<=T.length) :
  zc8 [.tup (P.map .str),.str (mkS T),.int (i:Int),.int (j:Int),.str k.s]=aa (.val (.bl (stB (zbF P T) P.length T.length i j k))):=by
 have hl:T.length<=1000000:=by lia
 have hF:zc9 (stδ P T i j k)=aa (.rt (.val (.bl (stB (zbF P T) P.length T.length i j k))) (stδ P T i j k)):=by
  have hg:=stG (E2:=zab 2) (E3:=zab 3) (δ:=stδ P T i j k) rfl rfl (tabC_k k (Z:=zab 4) rfl) (tabS_k k (Z:=zab 4) rfl) (lenT (E:=zab 0) rfl (aw _)) (lenZ (E:=zab 1) rfl (zau T) hl);unfold stB;by_cases c:i+k.cu<=P.length/\j+k.su<=T.length
  ·rw[if_pos c];obtain⟨c1,c2⟩:=c;rw[decide_eq_false (by lia)]at hg;refine(show zc9 _=_ from zbY (ziF hg)).trans ?_;cases k with
   |same=>exact zgx ((fIfT (by kernel_rfl)).trans (zep (st_in P T rfl rfl hl rfl rfl c1 c2)))
   |exch=>exact(zbY (ziF (by kernel_rfl))).trans (zgx ((fIfT (by kernel_rfl)).trans (zep (st_ni P T rfl rfl hl rfl rfl c1 c2))))
   |put=>exact(zbY (ziF (by kernel_rfl))).trans ((zbY (ziF (by kernel_rfl))).trans ((zbY (ziF (by kernel_rfl))).trans (zep rfl)))
   |left=>exact(zbY (ziF (by kernel_rfl))).trans ((zbY (ziF (by kernel_rfl))).trans ((zbY (ziF (by kernel_rfl))).trans (zep rfl)))
   |turn=>
    exact(zbY (ziF (by kernel_rfl))).trans ((zbY (ziF (by kernel_rfl))).trans (zgx ((fIfT (by kernel_rfl)).trans (zep (eAndI (st_in P T rfl rfl hl rfl (a:=i+1) rfl (Nat.lt_of_succ_le c1) (jK c2)) (st_in P T rfl rfl hl (b:=j+1) rfl rfl (jK c1) c2))))))
  ·rw[if_neg c];rw[decide_eq_true (by lia)]at hg;exact show zc9 _=_ from zgx ((fIfT hg).trans (zep rfl))
 exact(congrArg (λo=>dH o _) hF).trans rfl
end
def tab(c:Nat->Nat->Option Int)(m n:Nat):List D:=(au (m+1)).map λi=>rowOf c n i
def tab_at(c:Nat->Nat->Option Int)(m n k:Nat){i:Int}(e:i=(k:Int))(h:k<=m):atI (tab c m n) i=aa (.tup ((au (n+1)).map λj=>CE.oD (c k j))):=by
 subst e;refine zib ?_;unfold tab;rw[aB,cg (by lia)];rfl
def row_at(c:Nat->Nat->Option Int)(n a k:Nat){i:Int}(e:i=(k:Int))(h:k<=n):atI ((au (n+1)).map λj=>CE.oD (c a j)) i=aa (CE.oD (c a k)):=by
 subst e;rw[rowOf_at c n a (by lia) (by lia)];simp
section
open CE
variable (P:List Str)(T:List Nat)(p:Pr)
def lsB(c:Nat->Nat->Option Int)(f:Nat->Nat->Bool)(m n i j:Nat)(x:Int)(k:Kd5):Bool:=
 if k.cu<=i/\k.su<=j then (k.dn p&&stB f m n (i-k.cu) (j-k.su) k)&&(match c (i-k.cu) (j-k.su)with|some v=>decide (v+k.pr p=x)|none=>false)else false
def ixTab{E0 E1 E2:FE}{δ:En}{c:Nat->Nat->Option Int}{m n a b:Nat}(h0:E0 δ=aa (.val (.tup (tab c m n))))(h1:E1 δ=aa (.val (.int (a:Int))))(h2:E2 δ=aa (.val (.int (b:Int))))(ha:a<=m)(hb:b<=n) :
  ex2 zch (ex2 zch E0 E1) E2 δ=aa (.val (oD (c a b))):=by
 simp only[ex2,h0,h1,zch,zcJ,iOf,jqa,tab_at c m n a rfl ha,jqc,h2,row_at c n a b rfl hb]
def clF{E9 X Y:FE}{δ:En}{v:Option Int}{a x:Int}(h9:E9 δ=aa (.val (oD v)))(hp:X δ=aa (.val (.int a)))(hc:Y δ=aa (.val (.int x))) :
  eAnd (ex2 gNoN E9 (eC .non)) (ex2 gEq (ex2 zci E9 X) Y) δ=aa (.val (.bl (match (generalizing:=false) v with|some v=>decide (v+a=x)|none=>false))):=by
 cases v with
 |none=>rw[oD_n]at h9;simp only[eAnd,ex2,h9,eC,gNoN,isN,jqa,jqt,bOf,zci,pI0,iOf,jqb,gEq,jqr,jrb]
 |some v=>rw[oD_s]at h9;by_cases e:v+a=x <;> simp only[eAnd,ex2,h9,eC,gNoN,isN,jqa,jqu,bOf,hp,zci,pI0,iOf,jqc,e,hc,gEq,zaG,jqy,jra,jqz]
def zhY(hP:P.length<=100000)(hT:T.length<=100000)(c:Nat->Nat->Option Int)(k:Kd5)(i j:Nat)(hi:i<=P.length)(hj:j<=T.length){x:Int}(hx:c i j=aa x) :
  zee [.tup (tab c P.length T.length),.tup (P.map .str),.str (mkS T),p.d,.int (i:Int),.int (j:Int),.str k.s]=aa (.val (.bl (lsB p c (zbF P T) P.length T.length i j x k))):=by
 suffices hF:∃δ',zdu [aa (.val (.tup (tab c P.length T.length))),aa (.val (.tup (P.map .str))),aa (.val (.str (mkS T))),aa (.val p.d),aa (.val (.int (i:Int))),aa (.val (.int (j:Int))),aa (.val (.str k.s)),ab,ab,ab]=aa (.rt (.val (.bl (lsB p c (zbF P T) P.length T.length i j x k))) δ')from
  hF.elim λ_ h=>(congrArg (λo=>dH o _) h).trans rfl
 have e7:=subI (E:=zab 4) (F:=ex1 (zkP [("same",1),("exchanged",1),("put",0),("left",1),("turned",2)]) (zab 6)) (δ:=[aa (.val (.tup (tab c P.length T.length))),aa (.val (.tup (P.map .str))),aa (.val (.str (mkS T))),aa (.val p.d),aa (.val (.int (i:Int))),aa (.val (.int (j:Int))),aa (.val (.str k.s)),ab,ab,ab]) rfl (tabC_k k rfl);have e8:=subI (E:=zab 5) (F:=ex1 (zkP [("same",1),("exchanged",1),("put",1),("left",0),("turned",2)]) (zab 6)) (δ:=[aa (.val (.tup (tab c P.length T.length))),aa (.val (.tup (P.map .str))),aa (.val (.str (mkS T))),aa (.val p.d),aa (.val (.int (i:Int))),aa (.val (.int (j:Int))),aa (.val (.str k.s)),aa (.val (.int ((i:Int)-(k.cu:Int)))),ab,ab]) rfl (tabS_k k rfl);rw[show zdu [aa (.val (.tup (tab c P.length T.length))),aa (.val (.tup (P.map .str))),aa (.val (.str (mkS T))),aa (.val p.d),aa (.val (.int (i:Int))),aa (.val (.int (j:Int))),aa (.val (.str k.s)),ab,ab,ab]=_ from (zbT e7).trans (zbT e8)];clear e7 e8;have hg:=orNeg (X:=zab 7) (Y:=zab 8) (δ:=[aa (.val (.tup (tab c P.length T.length))),aa (.val (.tup (P.map .str))),aa (.val (.str (mkS T))),aa (.val p.d),aa (.val (.int (i:Int))),aa (.val (.int (j:Int))),aa (.val (.str k.s)),aa (.val (.int ((i:Int)-(k.cu:Int)))),aa (.val (.int ((j:Int)-(k.su:Int)))),ab]) rfl rfl;unfold lsB;by_cases h1:k.cu<=i/\k.su<=j
 ·rw[if_pos h1];rw[decide_eq_false (by lia)]at hg;generalize hi':i-k.cu=i' at *;generalize hj':j-k.su=j' at *;have c1:(i:Int)-(k.cu:Int)=(i':Int):=by lia
  have c2:(j:Int)-(k.su:Int)=(j':Int):=by lia
  rw[c1,c2]at hg;have l1:i'<=P.length:=by lia
  have l2:j'<=T.length:=by lia
  have b2:=orNot (X:=zag [.v,.v] zei (zaa (zab 3) (zaa (zab 6) zae))) (Y:=zag [.v,.v,.v,.v,.v] zc8 (zaa (zab 1) (zaa (zab 2) (zaa (zab 7) (zaa (zab 8) (zaa (zab 6) zae)))))) (δ:=[aa (.val (.tup (tab c P.length T.length))),aa (.val (.tup (P.map .str))),aa (.val (.str (mkS T))),aa (.val p.d),aa (.val (.int (i:Int))),aa (.val (.int (j:Int))),aa (.val (.str k.s)),aa (.val (.int (i':Int))),aa (.val (.int (j':Int))),ab])
   (show zei [p.d,.str k.s]=_ from is_done_k p k) (show zc8 [.tup (P.map .str),.str (mkS T),.int (i':Int),.int (j':Int),.str k.s]=_ from stand_k P T hP hT k i' j' l1 l2)
  rw[c1,c2];show ∃δ',zah _ _ _=_;rw[zbY (f:=fIf _ _ _) (ziF hg)];cases d:(k.dn p&&stB (zbF P T) P.length T.length i' j' k)with
  |false=>
   rw[d]at b2;exact⟨_,zgx ((fIfT b2).trans (zep rfl))⟩
  |true=>
   rw[d]at b2;refine⟨?w,(zbY (ziF b2)).trans ((zbT (ixTab (c:=c) rfl rfl rfl l1 l2)).trans ?z)⟩
   case z=>
    refine zep ?_;refine clF (v:=c i' j') rfl (a:=k.pr p) ?_ ?_
    ·exact show zcA [p.d,.str k.s]=_ from zii p k
    ·refine(ixTab (c:=c) rfl rfl rfl hi hj).trans ?_;rw[hx,oD_s]
 ·rw[if_neg h1];rw[decide_eq_true (by lia)]at hg;exact⟨_,zgx ((fIfT hg).trans (zep rfl))⟩
end
section
open CE
variable (f:Nat->Nat->Bool)(p:Pr)
def zg0{cs:List (Option Int)}{x:Int}(h:lw cs=aa x):aa x∈cs:=by
 have:=zkg h;obtain⟨o,h1,h2⟩:=dR.mp this;cases h2;exact h1
def zbw{c:Option Int}{q x:Int}(h:stp c q=aa x):q≠0/\∃v,c=aa v/\v+q=x:=by
 unfold stp at h;by_cases e:q=0
 ·rw[if_pos e]at h;cases h
 ·rw[if_neg e]at h;cases c with
  |none=>cases h
  |some v=>cases h;exact⟨e,v,rfl,rfl⟩
def ziR{c:Nat->Nat->Option Int}{m n i j:Nat}{x v:Int}{k:Kd5}(h1:k.cu<=i)(h2:k.su<=j)(hi:i<=m)(hj:j<=n)(hd:k.dn p=true)(hf:k.ft f (i-k.cu) (j-k.su)=true)(hc:c (i-k.cu) (j-k.su)=aa v)(he:v+k.pr p=x):lsB p c f m n i j x k=true:=by
 unfold lsB stB;rw[if_pos ⟨h1,h2⟩,if_pos ⟨by lia,by lia⟩,hd,hf,hc];simp only[he,decide_true,Bool.and_self]
def ex_last{m n i j:Nat}{x:Int}(hi:i<=m)(hj:j<=n)(h0:0<i\/0<j)(h:cel f p false i j=aa x):∃k:Kd5,lsB p (cel f p false) f m n i j x k=true:=by
 cases i with
 |zero=>
  cases j with
  |zero=>lia
  |succ j=>
   rw[zh9,if_neg (by decide)]at h;obtain⟨q,v,e1,e2⟩:=zbw h;exact⟨.put,ziR f p (v:=v) (by decide) (by simp[Kd5.su]) hi hj (by simpa [Kd5.dn] using q) rfl (by simpa [Kd5.cu,Kd5.su] using e1) e2⟩
 |succ i=>
  cases j with
  |zero=>
   rw[zj4]at h;obtain⟨q,v,e1,e2⟩:=zbw h;exact⟨.left,ziR f p (v:=v) (by simp[Kd5.cu]) (by decide) hi hj (by simpa [Kd5.dn] using q) rfl (by simpa [Kd5.cu,Kd5.su] using e1) e2⟩
  |succ j=>
   rw[zfz]at h;have hm:=zg0 h;simp only[aF,bI,or_false]at hm;rcases hm with e|e|e|e
   ·by_cases q:f i j=true
    ·rw[if_pos q]at e;exact⟨.same,ziR f p (v:=x) (by simp[Kd5.cu]) (by simp[Kd5.su]) hi hj rfl (by simpa [Kd5.ft,Kd5.cu,Kd5.su] using q) (by simpa [Kd5.cu,Kd5.su] using e.symm) (by simp[Kd5.pr])⟩
    ·rw[if_neg q]at e;obtain⟨q2,v,e1,e2⟩:=zbw e.symm;exact⟨.exch,ziR f p (v:=v) (by simp[Kd5.cu]) (by simp[Kd5.su]) hi hj (by simpa [Kd5.dn] using q2) (by simpa [Kd5.ft,Kd5.cu,Kd5.su] using q) (by simpa [Kd5.cu,Kd5.su] using e1) e2⟩
   ·obtain⟨q2,v,e1,e2⟩:=zbw e.symm;exact⟨.put,ziR f p (v:=v) (by simp[Kd5.cu]) (by simp[Kd5.su]) hi hj (by simpa [Kd5.dn] using q2) rfl (by simpa [Kd5.cu,Kd5.su] using e1) e2⟩
   ·obtain⟨q2,v,e1,e2⟩:=zbw e.symm;exact⟨.left,ziR f p (v:=v) (by simp[Kd5.cu]) (by simp[Kd5.su]) hi hj (by simpa [Kd5.dn] using q2) rfl (by simpa [Kd5.cu,Kd5.su] using e1) e2⟩
   ·obtain⟨q2,v,e1,e2⟩:=zbw e.symm;unfold tc at e1;by_cases q:0<i/\0<j
    ·rw[if_pos q]at e1;by_cases q3:(f i (j-1)&&f (i-1) j)=true
     ·rw[if_pos q3]at e1;refine⟨.turn,ziR f p (v:=v) (by simp[Kd5.cu];lia) (by simp[Kd5.su];lia) hi hj (by simpa [Kd5.dn] using q2) ?_ ?_ e2⟩
      ·show(f (i+1-2+1) (j+1-2)&&f (i+1-2) (j+1-2+1))=true;rw[show i+1-2+1=i by lia,show j+1-2=j-1 by lia,show i+1-2=i-1 by lia,show j-1+1=j by lia];exact q3
      ·show cel f p false (i+1-2) (j+1-2)=aa v;rw[show i+1-2=i-1 by lia,show j+1-2=j-1 by lia];exact e1
     ·rw[if_neg q3]at e1;cases e1
    ·rw[if_neg q]at e1;cases e1
def ks5:List Kd5:=[.same,.exch,.put,.left,.turn]
def mem5(k:Kd5):k∈ks5:=by cases k <;> simp[ks5]
def zjN{ft:D->Option Bool}{fe:D->Option Ent}{b:Kd5->Bool}(h1:∀k:Kd5,ft (.str k.s)=aa (b k))(h2:∀z:Str,fe (.str z)=aa (.val (.str z))):∀ks:List Kd5,zdc ft fe ((ks.map Kd5.s).map .str)=aa (((ks.filter b).map Kd5.s).map .str)
 |[]=>rfl
 |k::ks=>by
  rw[aH,aH,zdc,h1,zjN h1 h2 ks,List.filter_cons];cases b k with
  |true=>simp only[cQ,if_true,h2,asV,eS,aH]
  |false=>simp only[cQ,if_false,bm]
def lastst_ok(P:List Str)(T:List Nat)(hP:P.length<=100000)(hT:T.length<=100000)(c:Nat->Nat->Option Int)(i j:Nat)(hi:i<=P.length)(hj:j<=T.length){x:Int}(hx:c i j=aa x)(hk:∃k,lsB p c (zbF P T) P.length T.length i j x k=true) :
  ∃k,lsB p c (zbF P T) P.length T.length i j x k=true/\zcn [.tup (tab c P.length T.length),.tup (P.map .str),.str (mkS T),p.d,.int (i:Int),.int (j:Int)]=aa (.val (.str k.s)):=by
 obtain⟨k0,hk0⟩:=hk;have hm:k0∈ks5.filter (lsB p c (zbF P T) P.length T.length i j x):=gc.mpr ⟨mem5 k0,hk0⟩;cases hl:ks5.filter (lsB p c (zbF P T) P.length T.length i j x)with
 |nil=>rw[hl]at hm;cases hm
 |cons k r=>
  have hk':lsB p c (zbF P T) P.length T.length i j x k=true:=(gc.mp (hl ▸ ax:k∈ks5.filter (lsB p c (zbF P T) P.length T.length i j x))).2;refine⟨k,hk',?_⟩;have ln:r.length+1<=5:=by
   have:=List.length_filter_le (lsB p c (zbF P T) P.length T.length i j x) ks5;rw[hl]at this;simpa [ks5] using this
  have cd:=zjN (ft:=λd=>zcq (cEn [0,1,2,3,4,5] [aa (.val (.tup (tab c P.length T.length))),aa (.val (.tup (P.map .str))),aa (.val (.str (mkS T))),aa (.val p.d),aa (.val (.int (i:Int))),aa (.val (.int (j:Int))),ab] d))
   (fe:=λd=>zdv (cEn [0,1,2,3,4,5] [aa (.val (.tup (tab c P.length T.length))),aa (.val (.tup (P.map .str))),aa (.val (.str (mkS T))),aa (.val p.d),aa (.val (.int (i:Int))),aa (.val (.int (j:Int))),ab] d))
   (b:=lsB p c (zbF P T) P.length T.length i j x) (λk=>by
    have:=zhY P T p hP hT c k i j hi hj hx;simp only[zcq,tOf,zag,zaa,zab,cEn,jqn,jqe,jqx,jqa,capt,jqf,jqo,zae,jqc,zaA,zbn,asV,this,bOf]) (λz=>rfl) ks5
  rw[hl]at cd;have ec:=zfc (fr:=[0,1,2,3,4,5]) (fi:=iK ["same","exchanged","put","left","turned"]) (ft:=zcq) (fe:=zdv) (δ:=[aa (.val (.tup (tab c P.length T.length))),aa (.val (.tup (P.map .str))),aa (.val (.str (mkS T))),aa (.val p.d),aa (.val (.int (i:Int))),aa (.val (.int (j:Int))),ab]) rfl cd (by simp;lia);have a0:atI (((k::r).map Kd5.s).map D.str) 0=aa (.str k.s):=zeH (by decide) rfl;rw[aH,aH]at a0 ec;simp (disch:=omega) only[zcn,zbb,stE,stN,jqc,jqa,zeN,zah,zaE,az,toN,jqi,jqj,ec,jqh,jqg,sqO,zaH,ex2,zab,jqf,jqe,eC,zdF,asL,iOf,a0,zdg]
end
section
open CE
def Run(f:Nat->Nat->Bool)(m n:Nat)(p:Pr):List Kd5->Nat->Nat->Prop
 |[],i,j=>i=m/\j=n
 |k::r,i,j=>k.dn p=true/\stB f m n i j k=true/\Run f m n p r (i+k.cu) (j+k.su)
def Kd5.pos(k:Kd5):1<=k.cu+k.su:=by cases k <;> decide
def zka(ks:List Kd5):List D:=(ks.reverse.map Kd5.s).map .str
variable (P:List Str)(T:List Nat)(p:Pr)(hP:P.length<=1000)(hT:T.length<=1000)
include hP hT
theorem back_turn(c:Nat->Nat->Option Int)(i j:Nat)(k:Kd5)(ks:List Kd5)(x7:Option Ent)(hi:k.cu<=i)(hj:k.su<=j)(hl:ks.length<=100000)
  (h:zcn [.tup (tab c P.length T.length),.tup (P.map .str),.str (mkS T),p.d,.int (i:Int),.int (j:Int)]=aa (.val (.str k.s))) :
  zbf [aa (.val (.tup (P.map .str))),aa (.val (.str (mkS T))),aa (.val p.d),aa (.val (.tup (tab c P.length T.length))),aa (.own (zka ks)),aa (.val (.int (i:Int))),aa (.val (.int (j:Int))),x7] =
  aa (.nx [aa (.val (.tup (P.map .str))),aa (.val (.str (mkS T))),aa (.val p.d),aa (.val (.tup (tab c P.length T.length))),aa (.own (zka (k::ks))),aa (.val (.int ((i-k.cu:Nat):Int))),aa (.val (.int ((j-k.su:Nat):Int))),aa (.val (.str k.s))]):=by
 have c1:((i-k.cu:Nat):Int)=(i:Int)-(k.cu:Int):=by lia
 have c2:((j-k.su:Nat):Int)=(j:Int)-(k.su:Int):=by lia
 have e:zka (k::ks)=zka ks++[.str k.s]:=by simp[zka]
 have ll:(zka ks).length<1000000:=by simp[zka];lia
 rw[c1,c2,e];generalize zka ks=acc at *;have s1:zag [.v,.v,.v,.v,.v,.v] zcn (zaa (zab 3) (zaa (zab 0) (zaa (zab 1) (zaa (zab 2) (zaa (zab 5) (zaa (zab 6) zae)))))) [aa (.val (.tup (P.map .str))),aa (.val (.str (mkS T))),aa (.val p.d),aa (.val (.tup (tab c P.length T.length))),aa (.own acc),aa (.val (.int (i:Int))),aa (.val (.int (j:Int))),x7]=aa (.val (.str k.s)):=h;exact(show zbf _=_ from zbT s1).trans ((zbY (fAppI (ds:=acc) (v:=.str k.s) rfl rfl ll)).trans ((zbT (subI (a:=(i:Int)) rfl (tabC_k k rfl))).trans (fSetI (subI (a:=(j:Int)) rfl (tabS_k k rfl)))))
theorem back_ok:∀(N i j:Nat) (ks:List Kd5) (x7:Option Ent) (x:Int),i+j<N->i<=P.length->j<=T.length->ks.length+i+j<=3000->cel (zbF P T) p false i j=aa x->Run (zbF P T) P.length T.length p ks i j ->
  ∃(ks':List Kd5) (y7:Option Ent),Run (zbF P T) P.length T.length p ks' 0 0/\(ks'.map (Kd5.pr p)).sum=x+(ks.map (Kd5.pr p)).sum/\ks'.length<=3000 /\
  whl zbh zbf N [aa (.val (.tup (P.map .str))),aa (.val (.str (mkS T))),aa (.val p.d),aa (.val (.tup (tab (cel (zbF P T) p false) P.length T.length))),aa (.own (zka ks)),aa (.val (.int (i:Int))),aa (.val (.int (j:Int))),x7] =
   aa (.nx [aa (.val (.tup (P.map .str))),aa (.val (.str (mkS T))),aa (.val p.d),aa (.val (.tup (tab (cel (zbF P T) p false) P.length T.length))),aa (.own (zka ks')),aa (.val (.int 0)),aa (.val (.int 0)),y7])
 |0,i,j,ks,x7,x,h,_,_,_,_,_=>by lia
 |N+1,i,j,ks,x7,x,h,hi,hj,hl,hc,hr=>by
  by_cases h0:0<i\/0<j
  ·obtain⟨k,hk,hg⟩:=lastst_ok p P T (by lia) (by lia) (cel (zbF P T) p false) i j hi hj hc (ex_last (zbF P T) p hi hj h0 hc);unfold lsB at hk;by_cases hb:k.cu<=i/\k.su<=j
   ·rw[if_pos hb,cc,cc]at hk;obtain⟨⟨hd,hs⟩,hv⟩:=hk;have pos:=k.pos;cases cv:cel (zbF P T) p false (i-k.cu) (j-k.su)with
    |none=>rw[cv]at hv;cases hv
    |some v=>
     rw[cv]at hv;have hv':v+k.pr p=x:=of_decide_eq_true hv;obtain⟨ks',y7,r1,r2,r3,r4⟩:=back_ok N (i-k.cu) (j-k.su) (k::ks) (aa (.val (.str k.s))) v (by lia) (by lia) (by lia) (by simp;lia) cv ⟨hd,hs,by rw[jD hb.1,jD hb.2];exact hr⟩;refine⟨ks',y7,r1,?_,r3,?_⟩
     ·rw[r2,aH,g6];lia
     ·have hw:zbh [aa (.val (.tup (P.map .str))),aa (.val (.str (mkS T))),aa (.val p.d),aa (.val (.tup (tab (cel (zbF P T) p false) P.length T.length))),aa (.own (zka ks)),aa (.val (.int (i:Int))),aa (.val (.int (j:Int))),x7]=aa true:=by
       refine(show zbh _=_ from orGt rfl rfl).trans ?_;rw[decide_eq_true (by lia)]
      rw[whl_go hw (back_turn P T p hP hT _ i j k ks x7 hb.1 hb.2 (by lia) hg)];exact r4
   ·rw[if_neg hb]at hk;cases hk
  ·have e1:i=0:=by lia
   have e2:j=0:=by lia
   subst e1 e2;rw[zir]at hc;cases hc;refine⟨ks,x7,hr,by lia,by lia,whl_end ?_⟩;exact orGt (a:=((0:Nat):Int)) (b:=((0:Nat):Int)) rfl rfl
end
section
open CE
variable (P:List Str)(T:List Nat)(p:Pr)(hP:P.length<=1000)(hT:T.length<=1000)
include hP hT
theorem row_some{x:Int}(h:cel (zbF P T) p false P.length T.length=aa x):∃ks:List Kd5,Run (zbF P T) P.length T.length p ks 0 0/\(ks.map (Kd5.pr p)).sum=x/\ks.length<=3000/\zcQ [.tup (P.map .str),.str (mkS T),p.d]=aa (.val (.tup ((ks.map Kd5.s).map .str))):=by
 obtain⟨ks,y7,r1,r2,r3,r4⟩:=back_ok P T p hP hT 2100 P.length T.length [] ab x (by lia) (am _) (am _) (by simp;lia) h ⟨rfl,rfl⟩;refine⟨ks,r1,by simpa using r2,r3,?_⟩;have c:=zfN P T p false (by lia) (by lia);have l1:=zdi (λi=>rowOf (cel (zbF P T) p false) T.length i) P.length;have l2:=zdi (λj=>oD (cel (zbF P T) p false P.length j)) T.length;rw[h,oD_s]at l2;have r5:whl zbh zbf 2100 [aa (.val (.tup (P.map .str))),aa (.val (.str (mkS T))),aa (.val p.d),aa (.val (.tup ((au (P.length+1)).map λi=>rowOf (cel (zbF P T) p false) T.length i))),aa (.own []),aa (.val (.int (P.length:Int))),aa (.val (.int (T.length:Int))),ab] =
   aa (.nx [aa (.val (.tup (P.map .str))),aa (.val (.str (mkS T))),aa (.val p.d),aa (.val (.tup ((au (P.length+1)).map λi=>rowOf (cel (zbF P T) p false) T.length i))),aa (.own (zka ks)),aa (.val (.int 0)),aa (.val (.int 0)),y7]):=r4
 have er:(zka ks).reverse=(ks.map Kd5.s).map .str:=by
  unfold zka;rw[<- iC,<- iC,List.reverse_reverse]
 unfold rowOf at l1 c r5;have hm:T.length<=1000000:=by lia
 simp (disch:=omega) only[zcQ,zbb,stE,stN,jqc,jqa,zdT,zah,zaE,zgc,zaa,zab,az,zae,toN,jqi,jqj,jqe,jqf,zaA,zbn,asV,c,jqh,jqg,sqO,fIf,tOf,ex2,ex1,eC,zd8,iOf,Int.reduceNeg,zch,zcJ,l1,l2,zjQ,isN,bOf,zaH,fNx,jqr,jrb,zde,jqq,Nat.reduceLeDiff,zd5,jra,eCB,zbk,aw,zdf,sOf,zau,zao,zaf];simp (disch:=omega) only[r5,jqa,sqO,zaH,ex1,zab,jqf,jqe,zi4,asL,er,toN,jqc,zdg]
end
section
open CE
def flat_oD(cs:List (Option Int)):(cs.map oD).all flD=true:=by
 rw[bH];intro d hd;obtain⟨c,_,rfl⟩:=bY.mp hd;cases c <;> rfl
def eqF_oD(c:Option Int)(x:Int):(eqF (oD c) (.int x)=true) ↔ c=aa x:=by
 cases c with
 |none=>simp[oD,eqF]
 |some a=>simp[oD,eqF]
def idx_first(cs:List (Option Int))(m:Int)(h:aa m∈cs):∃j:Nat,idxD (cs.map oD) (.int m)=aa (.val (.int (j:Int)))/\cs[j]? =aa (aa m)/\∀l,l<j->cs[l]?≠aa (aa m):=by
 unfold idxD;rw[flat_oD];cases q:(cs.map oD).findIdx? (λe=>eqF e (.int m))with
 |some j=>
  refine⟨j,rfl,?_⟩;obtain⟨h1,h2,h3⟩:=c6.mp q;have hj:j<cs.length:=by simpa using h1
  refine⟨?_,λl hl e=>?_⟩
  ·rw[iy]at h2;rw[aN hj,(eqF_oD _ _).mp h2]
  ·have:=h3 l hl;rw[iy]at this;have hl':l<cs.length:=by lia
   rw[aN hl']at e;exact this ((eqF_oD _ _).mpr (aR e))
 |none=>
  have:=ig.mp q (.int m) (bY.mpr ⟨aa m,h,rfl⟩);simp[eqF]at this
def zjH{α:Type}(l:List α)(d:α)(x:Nat)(h:x<l.length):l.reverse.getD x d=l.getD (l.length-1-x) d:=by
 rw[bM,bM,i6 h]
def zh7{α:Type}(l:List α)(d:α)(x n:Nat)(h:x<n):(l.take n).getD x d=l.getD x d:=by
 rw[bM,bM,di h]
def getD_sub{α:Type}(l:List α)(d:α)(b x n:Nat)(h:x<n):((l.drop b).take n).getD x d=l.getD (b+x) d:=by
 rw[zh7 _ _ _ _ h,bM,bM,gO]
variable (P:List Str)(T:List Nat)(p:Pr)(e:Nat)
abbrev fitB:Nat->Nat->Bool:=zbF P.reverse (T.take e).reverse
abbrev sub(l:Nat):List Nat:=(T.drop (e-l)).take l
abbrev ziI:List (Option Int):=(au (e+1)).map λl=>cel (fitB P T e) p false P.length l
variable (hP:P.length<=1000)(hT:T.length<=1000)(hp:p.Ok)(he:e<=T.length)
include he in
theorem fitB_eq(x y:Nat)(hx:x<P.length)(hy:y<e):fitB P T e x y=zbF P T (P.length-1-x) (e-1-y):=by
 have hl:(T.take e).length=e:=by rw[cr];lia
 unfold fitB zbF;rw[zjH P _ x hx,zjH (T.take e) _ y (by lia),hl,zh7 _ _ _ _ (by lia)]
theorem fitS_eq{l:Nat}(x y:Nat)(hy:y<l):zbF P (sub T e l) x y=zbF P T x (e-l+y):=by
 unfold zbF sub;rw[getD_sub _ _ _ _ _ hy]
include hp he in
theorem sub_cel{l:Nat}(hl:l<=e):cel (fitB P T e) p false P.length l=cel (zbF P (sub T e l)) p false P.length l:=
 rev_cel (fit:=zbF P T) hp hl (fitB_eq P T e he) λx y _ hy=>fitS_eq P T e x y hy
include hp he in
theorem free_told:cel (zbF P T) p true P.length e=lw (ziI P T p e):=free_cel hp (fitB_eq P T e he)
theorem sub_len{l:Nat}(he:e<=T.length)(hl:l<=e):(sub T e l).length=l:=by
 rw[cr,eB];lia
theorem cut_sub{b:Nat}(he:e<=T.length)(hb:b<=e):zfP T (aa (b:Int)) (aa (e:Int))=sub T e (e-b):=by
 unfold zfP sub;rw[HT.sIx_nat,HT.sIx_nat,dW (by lia),dW (by lia),show e-(e-b)=b by lia]
include hP hT he in
theorem by_len:zbm [.tup (P.map .str),.str (mkS (T.take e)),p.d]=aa (.val (.tup ((ziI P T p e).map oD))):=by
 have hl:(T.take e).length=e:=by rw[cr];lia
 have c:=zfN P.reverse (T.take e).reverse p false (by simp;lia) (by simp;lia);rw[iC,eN,eN,hl]at c;have l1:=zdi (λi=>rowOf (cel (fitB P T e) p false) e i) P.length;have hm:(T.take e).length<=1000000:=by lia
 have r:rowOf (cel (fitB P T e) p false) e P.length=.tup ((ziI P T p e).map oD):=by
  unfold rowOf ziI;rw[bN];rfl
 rw[r]at l1;generalize (ziI P T p e).map oD=told at *;simp (disch:=omega) only[zbm,zbb,stE,stN,jqc,jqa,zcc,zaH,ex2,zgc,zaa,ex1,zab,az,jqk,zae,eC,zd8,iOf,Int.reduceNeg,zch,zcJ,toN,jqe,gRvT,jqf,gRvS,sOf,zau,zao,zaY,zaf,jqi,jqj,zaA,zbn,asV,c,l1,zdg]
theorem low_some(cs:List (Option Int))(hl:cs.length<=1000000){x:Int}{j:Nat}(h:lw cs=aa x)(hj:idxD (cs.map oD) (.int x)=aa (.val (.int (j:Int)))):zcw [.tup (cs.map oD)]=aa (.val (.tup [.int (j:Int),.int x])):=by
 have l:=zkE cs hl;rw[h,oD_s]at l;unfold idxD at hj;simp (disch:=omega) only[zcw,zbb,stE,stN,jqc,jqa,zdC,zah,zaE,zag,zaa,zab,az,zae,toN,jqi,jqj,jqe,zaA,zbn,asV,l,jqh,jqg,sqO,fIf,tOf,ex2,jqf,eC,zjQ,isN,bOf,zaH,fNx,jqr,jrb,zhM,eBM,gIdxT,zcJ,vOf,idxD,hj,jqp,jqq,Nat.reduceLeDiff,zd5,jra,zdg]
include hP hT hp he
theorem zkK{x:Int}(h:cel (zbF P T) p true P.length e=aa x):∃(l:Nat) (row:List D),l<=e/\zbo [.tup (P.map .str),.str (mkS (sub T e l)),p.d]=aa (.val (.int x)) /\
  zdj [.tup (P.map .str),.str (mkS T),.int (e:Int),p.d]=aa (.val (.tup [.int ((e-l:Nat):Int),.tup row])):=by
 rw[free_told P T p e hp he]at h;obtain⟨l,hj,h1,_⟩:=idx_first (ziI P T p e) x (zg0 h);have hl:l<=e:=by
  have:=(a7.mp h1).1;simp at this;lia
 rw[aB,cg (by lia)]at h1;have hc1:cel (zbF P (sub T e l)) p false P.length (sub T e l).length=aa x:=by
  rw[sub_len T e he hl,<- sub_cel P T p e hp he hl];exact aR h1
 have hs:=sub_len T e he hl;obtain⟨ks,_,_,_,r4⟩:=row_some P (sub T e l) p hP (by lia) hc1;have pe:=price_eq P (sub T e l) p (by lia) (by lia);rw[hc1]at pe;refine⟨l,(ks.map Kd5.s).map D.str,hl,pe,?_⟩;have b:=by_len P T p e hP hT he;have f:=low_some (ziI P T p e) (by simp;lia) h hj;have n1:¬ ((e:Int)<0):=by lia
 have n2:¬ ((e:Int) > (T.length:Int)):=by lia
 have hm:T.length<=1000000:=by lia
 have hc:=cutG_to T e;have c1:(e:Int)-(l:Int)=((e-l:Nat):Int):=by lia
 have c2:=cut_sub T e (b:=e-l) he (by lia);rw[show e-(e-l)=l by lia]at c2;have x0:atI [D.int (l:Int),D.int x] 0=aa (.int (l:Int)):=rfl;generalize (ziI P T p e).map oD=told at *;generalize (ks.map Kd5.s).map D.str=row at *;generalize sub T e l=sb at *;simp (disch:=omega) only[zdj,zbb,stE,stN,jqc,jqa,zes,zah,fIf,fOr,tOf,ex2,zab,az,eC,gLt,pI0,iOf,eCB,zaa,zae,gGt,zaH,toN,fNx,zhI,jqi,jqj,jqf,jqe,n1,jqz,bOf,zdf,sOf,zau,zao,zaf,n2,jqr,jrb,sqO,zaE,zag,eSl,oNo,oSo,gSlS,zaY,hc,zaA,zbn,asV,b,f,jqh,jqg,zjQ,isN,zch,zcJ,x0,c1,zhM,c2,r4,jqp,jqq,Nat.reduceLeDiff,zd5,jra,zdg]
end
section
open CE
variable (P:List Str)(T:List Nat)(p:Pr)
def siO(most:Int)(e:Nat)(prs:List D):OT:=.ins "Sight" ["most","end","pairs"] [.val (.int most),.val (.int (e:Int)),.lst prs]
def prD(most:Int)(x:Option Int)(j:Nat):List D:=match x with
 |some x=>if x<=most then [.tup [.int (j:Int),.int x]]else []
 |none=>[]
def ziW(most:Int)(x:Option Int)(j:Nat):(prD most x j).length<=1:=by
 unfold prD;split
 ·split <;> simp
 ·simp
def zjE(most:Int):zbg (.ins "Sight" [] []) [.int most]=aa (.non,siO most 0 []):=by
 simp only[zbg,zhV,jqp,jqq,bv,zcI,zah,zgf,zab,jqn,jqo,az,jqk,jqf,jqe,jqa,toO,oAt,zce,jqj,jqg,sqO,eC,jqi,zde,zae,Nat.reduceLeDiff,zd5,jqc,jra,endM,siO]
 all_goals rfl
def zje(most:Int)(x:Option Int)(e:Nat)(prs:List D)(hl:prs.length<100000):za9 (siO most e prs) [oD x]=aa (.non,siO most (e+1) (prs++prD most x e)):=by
 have ee:((e+1:Nat):Int)=(e:Int)+1:=rfl;unfold siO;rw[ee];cases x with
 |none=>
  rw[show prD most ab e=[]from rfl,bp];simp (disch:=omega) only[za9,zhV,oD_n,jqp,jqq,bv,zcC,zah,fIf,zh4,tOf,ex2,zab,jqn,jqo,az,jqk,jqf,jqe,eC,gNoN,isN,jqa,jqt,bOf,zhT,oAt,zce,fE,gLe,pI0,iOf,jqc,jqb,jqr,jrb,fFApp,zhM,zaa,zae,Nat.reduceAdd,Nat.reduceLeDiff,zd5,asV,jra,jqg,lOf,jqh,zao,zaf,fNx,zci,sqO,zgw,toO,Nat.reduceLT,endM]
 |some x=>
  by_cases h:x<=most
  ·rw[show prD most (aa x) e=[.tup [.int (e:Int),.int x]]from if_pos h];simp (disch:=omega) only[za9,zhV,oD_s,jqp,jqq,bv,zcC,zah,fIf,zh4,tOf,ex2,zab,jqn,jqo,az,jqk,jqf,jqe,eC,gNoN,isN,jqa,jqu,bOf,zhT,oAt,zce,fE,gLe,pI0,iOf,jqc,h,jqy,jra,fFApp,zhM,zaa,zae,Nat.reduceAdd,Nat.reduceLeDiff,zd5,asV,jqg,lOf,jqh,zao,zaf,fNx,zci,sqO,zgw,toO,Nat.reduceLT,endM]
  ·rw[show prD most (aa x) e=[]from if_neg h,bp];simp (disch:=omega) only[za9,zhV,oD_s,jqp,jqq,bv,zcC,zah,fIf,zh4,tOf,ex2,zab,jqn,jqo,az,jqk,jqf,jqe,eC,gNoN,isN,jqa,jqu,bOf,zhT,oAt,zce,fE,gLe,pI0,iOf,jqc,h,jqz,jra,fFApp,zhM,zaa,zae,Nat.reduceAdd,Nat.reduceLeDiff,zd5,asV,jqg,lOf,jqh,zao,zaf,fNx,jqr,jrb,zci,sqO,zgw,toO,Nat.reduceLT,endM]
def tell_ok(most:Int)(e:Nat)(prs:List D):zcE (siO most e prs) []=aa (.tup prs,siO most e []):=by
 unfold siO;simp (disch:=omega) only[zcE,zhV,jqq,zen,zah,zaE,eCB,zaa,zhT,oAt,jqo,az,jqi,jqj,jqe,jqa,zce,jqf,fE,zae,jqc,zcF,asL,jqh,jqg,toN,sqO,zgw,zde,Nat.reduceLeDiff,zd5,jra,toO,jqp,bv,Nat.reduceAdd,Nat.reduceLT,zcU,endM]
abbrev cT:Nat->Nat->Option Int:=cel (zbF P T) p true
def prR(most:Int)(a b:Nat):List D:=(cJ a (b-a)).flatMap λj=>prD most (cT P T p P.length j) j
def zex(most:Int)(a:Nat):prR P T p most a a=[]:=by simp[prR]
def zg6(most:Int){a b:Nat}(h:a<=b):prR P T p most a (b+1)=prR P T p most a b++prD most (cT P T p P.length b) b:=by
 unfold prR;rw[show b+1-a=(b-a)+1 by lia,List.range'_concat,jp];simp[show a+(b-a)=b by lia]
def zhH(most:Int)(a b:Nat):(prR P T p most a b).length<=b-a:=by
 have:∀(l:List Nat),(l.flatMap λj=>prD most (cT P T p P.length j) j).length<=l.length:=λl=>by
  induction l with
  |nil=>simp
  |cons x l ih=>
   have:=ziW most (cT P T p P.length x) x;simp only[fP,a8,aJ];lia
 have h:=this (cJ a (b-a));rwa [List.length_range']at h
def ziL(most:Int){a b d:Nat}(h1:a<=b)(h2:b<=d):prR P T p most a b++prR P T p most b d=prR P T p most a d:=by
 unfold prR;rw[<- jp,show d-a=(b-a)+(d-b) by lia,<- List.range'_append_1,show a+(b-a)=b by lia]
end
section
open CE
variable (P:List Str)(T:List Nat)(p:Pr)
def isC_si(most:Int)(e:Nat)(prs:List D):isC "Sight" ["most","end","pairs"] (siO most e prs)=aa [.val (.int most),.val (.int (e:Int)),.lst prs]:=zce
def zgN(x0 x1 x3 y2:Option Ent)(most:Int):∀(n a:Nat) (prs:List D) (x5:Option Ent),prs.length+n<100000->∃y5,
  loop (gNm 5) zdt ((cJ a n).map λ(j:Nat)=>oD (cT P T p P.length j)) [x0,x1,y2,x3,aa (.obj (siO most a prs)),x5] =
  aa (.nx [x0,x1,y2,x3,aa (.obj (siO most (a+n) (prs++prR P T p most a (a+n)))),y5])
 |0,a,prs,x5,_=>⟨x5,by rw[gq,zex,bp];rfl⟩
 |n+1,a,prs,x5,hl=>by
  have cm:=zje most (cT P T p P.length a) a prs (by lia);have st:zdt [x0,x1,y2,x3,aa (.obj (siO most a prs)),aa (.val (oD (cT P T p P.length a)))]=aa (.nx [x0,x1,y2,x3,aa (.obj (siO most (a+1) (prs++prD most (cT P T p P.length a) a))),aa (.val (oD (cT P T p P.length a)))]):=by
   have c1:=isC_si most a prs;generalize siO most a prs=o1 at *;generalize siO most (a+1) (prs++prD most (cT P T p P.length a) a)=o2 at *;generalize oD (cT P T p P.length a)=d at *;simp only[zdt,fX,xM,oAt,jqf,jqe,zaa,zab,zae,jqc,jqa,zd5,asV,jqh,jqg,c1,cm]
  have pl:=ziW most (cT P T p P.length a) a;obtain⟨y5,e⟩:=zgN x0 x1 x3 y2 most n (a+1) (prs++prD most (cT P T p P.length a) a) (aa (.val (oD (cT P T p P.length a)))) (by rw[a8];lia);refine⟨y5,fq (zaV rfl st) (fq e ?_)⟩;have q:prD most (cT P T p P.length a) a=prR P T p most a (a+1):=by rw[zg6 P T p most (am a),zex,cD]
  rw[bw,q,ziL P T p most (by lia) (by lia),show a+1+n=a+(n+1) by lia]
variable (hP:P.length<=100000)(hT:T.length<=10000)
include hP hT
theorem ends_at:zbR [.tup (P.map .str),.str (mkS T),p.d]=aa (.val (.tup ((cJ 0 (T.length+1)).map λ(j:Nat)=>oD (cT P T p P.length j)))):=by
 have c:=zfN P T p true hP (by lia);have l1:=zdi (λi=>rowOf (cel (zbF P T) p true) T.length i) P.length;rw[<- gu];simp (disch:=omega) only[zbR,zbb,stE,stN,jqc,jqa,zcH,zaH,ex2,zag,zaa,zab,az,jqk,eC,zae,ex1,zd8,iOf,Int.reduceNeg,zch,zcJ,toN,jqe,jqf,zaA,zbn,asV,c,l1,zdg];rfl
theorem ends_ok(most:Int):zdH [.tup (P.map .str),.str (mkS T),.int most,p.d]=aa (.val (.tup (prR P T p most 0 (T.length+1)))):=by
 have e:=ends_at P T p hP hT;obtain⟨y5,lo⟩:=zgN P T p (aa (.val (.tup (P.map .str)))) (aa (.val (.str (mkS T)))) (aa (.val p.d)) (aa (.val (.int most))) most (T.length+1) 0 [] ab (by simp;lia);rw[cD,bv]at lo;have t:=tell_ok most (T.length+1) (prR P T p most 0 (T.length+1));have i1:=zjE most;have c2:=isC_si most (T.length+1) (prR P T p most 0 (T.length+1));generalize (cJ 0 (T.length+1)).map (λ(j:Nat)=>oD (cT P T p P.length j))=ls at *;generalize siO most 0 []=o1 at *;generalize siO most (T.length+1) (prR P T p most 0 (T.length+1))=o2 at *;generalize siO most (T.length+1) []=o3 at *;generalize prR P T p most 0 (T.length+1)=rr at *;generalize P.map D.str=pp at *;simp only[zdH,zbb,stE,stN,jqc,jqa,zgg,zah,fSetO,ziv,zaa,zab,az,zae,jqi,jqj,jqf,jqe,zd5,asV,i1,jqh,jqg,sqO,zd4,iT,zag,zaA,zbn,e,zcJ,lo,fXRet,xM,oAt,c2,t,zdg]
end
section
open CE
variable (P:List Str)(T:List Nat)(p:Pr)
def zkG(c:Nat->Nat->Option Int)(m:Nat):Nat->List D
 |0=>[zbA c m 0]
 |j+1=>[zbA c m j,zbA c m (j+1)]
def zfa(T:List Nat):Nat->List Nat
 |0=>[]
 |j+1=>[T.getD j 0]
def fiO(most:Int)(j:Nat)(prs:List D):OT:=.ins "Finder" ["pattern","prices","columns","last_sign","sight"] [.val (.tup (P.map .str)),.val p.d,.lst (zkG (cT P T p) P.length j),.val (.str (mkS (zfa T j))),siO most (j+1) prs]
variable (hP:P.length<=100000)(hT:T.length<=10000)
theorem last_of(c:Nat->Nat->Option Int)(m j:Nat):atI ((au (m+1)).map λi=>oD (c i j)) (-1)=aa (oD (c m j)):=zdi (λi=>oD (c i j)) m
include hP
theorem finit_ok(most:Int):zbz (.ins "Finder" [] []) [.tup (P.map .str),.int most,p.d]=aa (.non,fiO P T p most 0 (prR P T p most 0 1)):=by
 have a1:=zh0 P p true (zbF P T) hP;have a2:=zjE most;have a3:=zje most (cT P T p P.length 0) 0 [] (by simp);have e1:prR P T p most 0 1=[]++prD most (cT P T p P.length 0) 0:=by rw[zg6 P T p most (am 0),zex]
 have l1:=last_of (cT P T p) P.length 0;have l0:∀d:D,atI [d] (-1)=aa d:=λ_=>rfl;rw[e1];unfold fiO zkG zfa;unfold siO at *;unfold zbA at *;simp only[cT]at *;generalize (au (P.length+1)).map (λi=>oD (cel (zbF P T) p true i 0))=col at *;generalize P.map D.str=pp at *;simp only[zbz,zhV,jqp,jqq,bv,Nat.reduceAdd,zco,zah,zgf,zab,jqn,jqo,az,jqk,jqf,jqe,jqa,toO,oAt,zce,jqj,jqg,sqO,jqi,zde,zaa,zag,zae,jqc,zaA,zbn,asV,a1,Nat.reduceLeDiff,zd5,jra,eC,ziv,a2,fX,xMF,ex2,zhT,fE,ex1,zd8,iOf,Int.reduceNeg,zdF,asL,l0,zch,zcJ,l1,jqh,a3,endM];rfl
theorem fread_ok(hT:T.length<=10000)(most:Int)(j:Nat)(hj:j<T.length)(prs:List D)(hl:prs.length<100000) :
  zcM (fiO P T p most j prs) [.str (mkS [T.getD j 0])]=aa (.non,fiO P T p most (j+1) (prs++prD most (cT P T p P.length (j+1)) (j+1))):=by
 have W:Win (cT P T p) (zbF P T) P j (zkG (cT P T p) P.length j) (zfa T j++[T.getD j 0]):=by
  cases j with
  |zero=>exact⟨by simp[zfa],rfl,⟨T.getD 0 0,rfl,λi _=>rfl⟩,.inl ⟨by simp[zfa],rfl⟩⟩
  |succ j=>exact⟨by simp[zfa],rfl,⟨T.getD (j+1) 0,rfl,λi _=>rfl⟩,.inr ⟨by simp[zfa],by lia,rfl,T.getD j 0,rfl,λi _=>rfl⟩⟩
 have a1:=zgT P p true (zbF P T) _ _ j W hP;have a3:=zje most (cT P T p P.length (j+1)) (j+1) prs hl;have l1:=last_of (cT P T p) P.length (j+1);have l2:=W.c1;have e2:zkG (cT P T p) P.length (j+1)=[zbA (cT P T p) P.length j,zbA (cT P T p) P.length (j+1)]:=rfl;have e3:zfa T (j+1)=[T.getD j 0]:=rfl;have e4:mkS (zfa T j++[T.getD j 0])=mkS (zfa T j)++mkS [T.getD j 0]:=(zeh _ _).symm;have hs:(mkS (zfa T j)).length+(mkS [T.getD j 0]).length<=1000000:=by cases j <;> simp[zfa,zau]
 rw[e4]at a1;unfold fiO;rw[e2,e3];unfold siO at *;unfold zbA at a1 l2 ⊢;simp only[cT]at *;generalize (au (P.length+1)).map (λi=>oD (cel (zbF P T) p true i (j+1)))=col at *;generalize (au (P.length+1)).map (λi=>oD (cel (zbF P T) p true i j))=col0 at *;generalize zkG (cel (zbF P T) p true) P.length j=fc at *;generalize P.map D.str=pp at *;generalize mkS (zfa T j)=ls at *;generalize mkS [T.getD j 0]=sg at *;simp (disch:=omega) only[zcM,zhV,jqp,jqq,bv,zd3,zah,zaE,zag,zaa,zhT,oAt,jqn,jqo,az,jqi,jqj,jqe,jqa,zce,jqf,fE,ex2,zab,zeE,sOf,zao,zaf,eC,zae,jqc,zaA,zbn,asL,asV,a1,jqh,jqg,toN,sqO,zgw,zde,ex1,zd8,iOf,Int.reduceNeg,zdF,l2,Nat.reduceAdd,Nat.reduceLeDiff,zd5,jra,toO,Nat.reduceLT,fX,xMF,zch,zcJ,l1,a3,endM]
end
section
open CE
variable (P:List Str)(T:List Nat)(p:Pr)
variable (hP:P.length<=100000)(hT:T.length<=10000)
include hP hT
theorem ziD(most:Int)(x1:Option Ent):∀(w:List Nat) (j:Nat) (prs:List D) (v2:Option Ent),j+w.length<=T.length->w=(T.drop j).take w.length->prs.length+w.length<100000->∃y2,
  loop (gNm 2) zbS (w.map λc=>D.str (mkS [c])) [aa (.obj (fiO P T p most j prs)),x1,v2]=aa (.nx [aa (.obj (fiO P T p most (j+w.length) (prs++prR P T p most (j+1) (j+w.length+1)))),x1,y2])
 |[],j,prs,v2,_,_,_=>⟨v2,by simp[loop,zex]⟩
 |c::w,j,prs,v2,hl,hw,hp=>by
  simp only[aJ]at hl hw hp;have hj:j<T.length:=by lia
  rw[bq hj,gB,iN]at hw;have hc:c=T.getD j 0:=by rw[hw.1];simp[hj]
  have r:=fread_ok P T p hP hT most j hj prs (by lia);have pl:=ziW most (cT P T p P.length (j+1)) (j+1);have st:zbS [aa (.obj (fiO P T p most j prs)),x1,aa (.val (.str (mkS [c])))]=aa (.nx [aa (.obj (fiO P T p most (j+1) (prs++prD most (cT P T p P.length (j+1)) (j+1)))),x1,aa (.val (.str (mkS [c])))]):=by
   rw[hc];unfold fiO at *;generalize P.map D.str=pp at *;simp only[zbS,fX,xM,oAt,jqe,zaa,zab,jqf,zae,jqc,jqa,zd5,asV,jqg,zce,r]
  obtain⟨y2,e⟩:=ziD most x1 w (j+1) (prs++prD most (cT P T p P.length (j+1)) (j+1)) (aa (.val (.str (mkS [c])))) (by lia) hw.2 (by rw[a8];lia);refine⟨y2,fq (zaV rfl st) (fq e ?_)⟩;rw[aJ,show j+1+w.length=j+(w.length+1) by lia,bw];have q:prD most (cT P T p P.length (j+1)) (j+1)=prR P T p most (j+1) (j+1+1):=by rw[zg6 P T p most (am (j+1)),zex,cD]
  rw[q,ziL P T p most (by lia) (by lia)]
theorem feed_ok(most:Int)(w:List Nat)(j:Nat)(prs:List D)(h1:j+w.length<=T.length)(h2:w=(T.drop j).take w.length)(h3:prs.length+w.length<100000) :
  zb7 (fiO P T p most j prs) [.str (mkS w)]=aa (.tup (prs++prR P T p most (j+1) (j+w.length+1)),fiO P T p most (j+w.length) []):=by
 obtain⟨y2,e⟩:=ziD P T p hP hT most (aa (.val (.str (mkS w)))) w j prs ab h1 h2 h3;have t:=tell_ok most (j+w.length+1) (prs++prR P T p most (j+1) (j+w.length+1));unfold fiO at *;unfold siO at *;generalize P.map D.str=pp at *;generalize prs++prR P T p most (j+1) (j+w.length+1)=rr at *;simp only[zb7,zhV,jqp,jqq,bv,zdS,zah,zd4,iS,zab,jqn,jqo,az,jqi,jqj,jqf,jqe,sOf,jqa,jqc,zaY,e,sqO,fXRet,xMF,oAt,zce,zae,zd5,jqg,jqh,t,endM,jra]
end
section
open CE
def rwE(most:Int)(n:Int)(x:Option Int)(j:Nat):List RwI:=match x with
 |some x=>if x<=most then [[(j:Int),n,x]]else []
 |none=>[]
def rwE_len(most n:Int)(x:Option Int)(j:Nat):(rwE most n x j).length<=1:=by
 unfold rwE;split
 ·split <;> simp
 ·simp
variable (T:List Nat)(p:Pr)(most:Int)
def rwN(n:Int)(P:List Str)(js:List Nat):List RwI:=js.flatMap λj=>rwE most n (cT P T p P.length j) j
def zgr(n:Int)(P:List Str):∀js:List Nat,(rwN T p most n P js).length<=js.length
 |[]=>am _
 |j::js=>by
  have h1:=rwE_len most n (cT P T p P.length j) j;have h2:=zgr n P js;unfold rwN at h2 ⊢;rw[fP,a8,aJ];lia
def rwA:List (List Str)->Nat->List RwI
 |[],_=>[]
 |P::Ps,n=>rwN T p most (n:Int) P (au (T.length+1))++rwA Ps (n+1)
def zhc:∀(Ps:List (List Str)) (n:Nat),(rwA T p most Ps n).length<=Ps.length*(T.length+1)
 |[],n=>aU _
 |P::Ps,n=>by
  have h1:=zgr T p most (n:Int) P (au (T.length+1));have h2:=zhc Ps (n+1);rw[cz]at h1;rw[rwA,a8,aJ,Nat.succ_mul];lia
def zhG(x0 x1 x2 x3 x6:Option Ent)(n:Int)(P:List Str):∀(js:List Nat) (acc:List RwI) (x7 x8:Option Ent),acc.length+js.length<100000->∃y7 y8,
  loop (gTp (zbM (gNm 7) (zbM (gNm 8) zfH))) zcj (js.flatMap λj=>prD most (cT P T p P.length j) j) [x0,x1,x2,x3,aa (.own (acc.map zeB)),aa (.val (.int n)),x6,x7,x8] =
  aa (.nx [x0,x1,x2,x3,aa (.own ((acc++rwN T p most n P js).map zeB)),aa (.val (.int n)),x6,y7,y8])
 |[],acc,x7,x8,_=>⟨x7,x8,by rw[show rwN T p most n P []=[]from rfl,bp];rfl⟩
 |j::js,acc,x7,x8,h=>by
  rw[aJ]at h;rw[show rwN T p most n P (j::js)=rwE most n (cT P T p P.length j) j++rwN T p most n P js from rfl,fP];cases hx:cT P T p P.length j with
  |none=>
   obtain⟨y7,y8,e⟩:=zhG x0 x1 x2 x3 x6 n P js acc x7 x8 (by lia);exact⟨y7,y8,e⟩
  |some x=>
   by_cases hm:x<=most
   ·rw[show prD most (aa x) j=[.tup [.int (j:Int),.int x]]from if_pos hm,show rwE most n (aa x) j=[[(j:Int),n,x]]from if_pos hm];obtain⟨y7,y8,e⟩:=zhG x0 x1 x2 x3 x6 n P js (acc++[[(j:Int),n,x]]) (aa (.val (.int (j:Int)))) (aa (.val (.int x))) (by rw[a8,f9];lia);refine⟨y7,y8,?_⟩;have st:zcj [x0,x1,x2,x3,aa (.own (acc.map zeB)),aa (.val (.int n)),x6,aa (.val (.int (j:Int))),aa (.val (.int x))]=aa (.nx [x0,x1,x2,x3,aa (.own ((acc++[[(j:Int),n,x]]).map zeB)),aa (.val (.int n)),x6,aa (.val (.int (j:Int))),aa (.val (.int x))]):=by
     rw[cC];exact fAppI rfl (show zhM _ _=_ from rfl) (by rw[aw];lia)
    rw[<- bw];exact(zaV rfl st).trans e
   ·rw[show prD most (aa x) j=[]from if_neg hm,show rwE most n (aa x) j=[]from if_neg hm];obtain⟨y7,y8,e⟩:=zhG x0 x1 x2 x3 x6 n P js acc x7 x8 (by lia);exact⟨y7,y8,e⟩
variable (hT:T.length<=100)
include hT
theorem many_turn(x0:Option Ent)(n:Nat)(P:List Str)(hP:P.length<=1000)(acc:List RwI)(ha:acc.length<10000)(x7 x8:Option Ent):∃y7 y8,
  zck [x0,aa (.val (.str (mkS T))),aa (.val (.int most)),aa (.val p.d),aa (.own (acc.map zeB)),aa (.val (.int (n:Int))),aa (.val (.tup (P.map .str))),x7,x8] =
  aa (.nx [x0,aa (.val (.str (mkS T))),aa (.val (.int most)),aa (.val p.d),aa (.own ((acc++rwN T p most (n:Int) P (au (T.length+1))).map zeB)),aa (.val (.int (n:Int))),aa (.val (.tup (P.map .str))),y7,y8]):=by
 have a1:=ends_ok P T p (by lia) (by lia) most;obtain⟨y7,y8,e⟩:=zhG T p most x0 (aa (.val (.str (mkS T)))) (aa (.val (.int most))) (aa (.val p.d)) (aa (.val (.tup (P.map .str)))) (n:Int) P (au (T.length+1)) acc x7 x8 (by rw[cz];lia);refine⟨y7,y8,?_⟩;have er:prR P T p most 0 (T.length+1)=(au (T.length+1)).flatMap λj=>prD most (cT P T p P.length j) j:=by
  unfold prR;rw[du,gu]
 rw[er]at a1;generalize ((au (T.length+1)).flatMap λj=>prD most (cT P T p P.length j) j)=rr at a1 e;generalize P.map D.str=pp at a1 e ⊢;have e3:iT (zag [.v,.v,.v,.v] zdH (zaa (zab 6) (zaa (zab 1) (zaa (zab 2) (zaa (zab 3) zae))))) [x0,aa (.val (.str (mkS T))),aa (.val (.int most)),aa (.val p.d),aa (.own (acc.map zeB)),aa (.val (.int (n:Int))),aa (.val (.tup pp)),x7,x8]=aa rr:=by
  simp only[iT,zag,zaa,zab,jqf,jqe,zae,jqc,jqa,zaA,zbn,asV,a1,zcJ]
 show zd4 _ _ _ _=_;unfold zd4;exact(congrArg (λo=>dH o _) e3).trans e
theorem zhX(x0:Option Ent):∀(Ps:List (List Str)) (n:Nat) (acc:List RwI) (x5 x6 x7 x8:Option Ent),(∀P∈Ps,P.length<=1000)->acc.length+Ps.length*101<10000->∃y5 y6 y7 y8,
  loop (gTp (zbM (gNm 5) (zbM (gNm 6) zfH))) zck ((Ps.zipIdx n).map λq=>D.tup [.int (q.2:Int),.tup (q.1.map .str)]) [x0,aa (.val (.str (mkS T))),aa (.val (.int most)),aa (.val p.d),aa (.own (acc.map zeB)),x5,x6,x7,x8] =
  aa (.nx [x0,aa (.val (.str (mkS T))),aa (.val (.int most)),aa (.val p.d),aa (.own ((acc++rwA T p most Ps n).map zeB)),y5,y6,y7,y8])
 |[],n,acc,x5,x6,x7,x8,_,_=>⟨x5,x6,x7,x8,by rw[show rwA T p most [] n=[]from rfl,bp];rfl⟩
 |P::Ps,n,acc,x5,x6,x7,x8,hP,h=>by
  rw[aJ]at h;obtain⟨z7,z8,e1⟩:=many_turn T p most hT x0 n P (hP P ax) acc (by lia) x7 x8;have h1:=zgr T p most (n:Int) P (au (T.length+1));rw[cz]at h1;obtain⟨y5,y6,y7,y8,e2⟩:=zhX x0 Ps (n+1) (acc++rwN T p most (n:Int) P (au (T.length+1))) (aa (.val (.int (n:Int)))) (aa (.val (.tup (P.map .str)))) z7 z8 (λQ hQ=>hP Q (aq _ hQ)) (by rw[a8];lia);refine⟨y5,y6,y7,y8,?_⟩;rw[fV,aH,rwA,<- bw];exact(zaV rfl e1).trans e2
omit hT in
theorem zjs{rows:List RwI}(hl:rows.length<=1000000)(hr:∀r∈rows,r≠[]){δ:En}{E:FE}(h:E δ=aa (.vw (rows.map zeB))):eCB zcF (zaa (eCB zi5 (zaa E zae)) zae) δ=aa (.val (.tup ((zkQ rows).map zeB))):=by
 have hm:zih (rows.map zeB)=aa rows:=by
  clear hl hr h
  induction rows with
  |nil=>rfl
  |cons r rows ih=>
   have hi:∀r:RwI,zgE (r.map D.int)=aa r:=λr=>by
    induction r with
    |nil=>rfl
    |cons i r ih=>rw[aH,zgE,ih];rfl
   rw[aH,zih,ih,show L3.rowOf (zeB r)=aa r from hi r];rfl
 have e:eCB zi5 (zaa E zae) δ=aa (.own ((zkQ rows).map zeB)):=by
  unfold eCB zaa zae;rw[h];simp only[cQ,zi5,asL,hm,eS];rw[eq_true (And.intro hr hl),zaf]
 have hz:((zkQ rows).map zeB).length<=1000000:=by rw[aw,(zfd rows).length_eq];exact hl
 generalize eCB zi5 (zaa E zae)=EE at e;simp only[eCB,zaa,e,zae,jqc,jqa,zcF,asL]
omit hT in
theorem rwA_ne:∀(Ps:List (List Str)) (n:Nat),∀r∈rwA T p most Ps n,∃a b c:Int,r=[a,b,c]
 |[],n,r,h=>by cases h
 |P::Ps,n,r,h=>by
  rcases br.mp h with h|h
  ·obtain⟨j,_,hj⟩:=jW.mp h;unfold rwE at hj;split at hj
   ·split at hj
    ·rw[bn]at hj;exact⟨_,_,_,hj⟩
    ·cases hj
   ·cases hj
  ·exact rwA_ne Ps (n+1) r h
theorem enuD_pats(Ps:List (List Str)):enuD (Ps.map λP=>.tup (P.map .str))=(Ps.zipIdx 0).map λq=>D.tup [.int (q.2:Int),.tup (q.1.map .str)]:=by
 unfold enuD;rw[List.zipIdx_map,bN];rfl
theorem many_ok(Ps:List (List Str))(hP:∀P∈Ps,P.length<=1000)(hl:Ps.length<=20):zcp [.tup (Ps.map λP=>.tup (P.map .str)),.str (mkS T),.int most,p.d]=aa (.val (.tup ((zkQ (rwA T p most Ps 0)).map zeB))):=by
 obtain⟨y5,y6,y7,y8,e⟩:=zhX T p most hT (aa (.val (.tup (Ps.map λP=>.tup (P.map .str))))) Ps 0 [] ab ab ab ab hP (by simp;lia);have hA:=zhc T p most Ps 0;have hA2:Ps.length*(T.length+1)<=20*101:=ja hl (by lia);have hs:=zjs (rows:=rwA T p most Ps 0) (by lia) (λr hr=>by obtain⟨a,b,c,rfl⟩:=rwA_ne T p most Ps 0 r hr;simp) (E:=zab 4) (δ:=[aa (.val (.tup (Ps.map λP=>.tup (P.map .str)))),aa (.val (.str (mkS T))),aa (.val (.int most)),aa (.val p.d),aa (.own ((rwA T p most Ps 0).map zeB)),y5,y6,y7,y8]) rfl;rw[cD]at e;have e0:iEnuT (zab 0) [aa (.val (.tup (Ps.map λP=>.tup (P.map .str)))),aa (.val (.str (mkS T))),aa (.val (.int most)),aa (.val p.d),aa (.own []),ab,ab,ab,ab]=aa ((Ps.zipIdx 0).map λq=>D.tup [.int (q.2:Int),.tup (q.1.map .str)]):=by
  unfold iEnuT;show aa (enuD _)=_;rw[enuD_pats T hT]
 have hF:zcr [aa (.val (.tup (Ps.map λP=>.tup (P.map .str)))),aa (.val (.str (mkS T))),aa (.val (.int most)),aa (.val p.d),ab,ab,ab,ab,ab]=aa (.rt (.val (.tup ((zkQ (rwA T p most Ps 0)).map zeB))) [aa (.val (.tup (Ps.map λP=>.tup (P.map .str)))),aa (.val (.str (mkS T))),aa (.val (.int most)),aa (.val p.d),aa (.own ((rwA T p most Ps 0).map zeB)),y5,y6,y7,y8]):=
  (show zcr _=_ from zbY (zks (show zde zae _=aa (.own [])from rfl))).trans ((forN e0 e).trans (zep hs))
 exact(congrArg (λo=>dH o _) hF).trans rfl
end
section
def zdG(i:Int):zbQ [.int i,.int i]=aa (.val (.bl true)):=by
 have t1:("int" == "int")=true:=rfl;have t2:("int" == "bool")=false:=rfl;have t3:("int" == "tuple")=false:=rfl;have t4:("bool" == "int")=false:=rfl;simp (disch:=omega) only[zbQ,zbb,stE,stN,jqc,jqa,zaS,zah,fIf,tOf,ex1,zab,az,fOr,zgR,ex2,eCB,zaa,zae,gNe,zaH,eC,toN,fNx,jqi,jqj,jqf,jqe,gIsi,obD,jqr,isiD,tyN,t3,t2,d9,jj,jrb,bOf,jqu,zbk,zcJ,asL,jqd,jqb,jra,sqO,eAnd,t1,t4,gNot,gEq,zaG,jqy,zdg]
def zgX{rg:List D->Option Ent}(a b:Option Ent):∀(ds:List D) (x y:Option Ent),(∀d∈ds,rg [d,d]=aa (.val (.bl true)))->∃x' y',loop (gTp (zbM (gNm 2) (zbM (gNm 3) zfH))) (zcb rg) ((ds.zip ds).map λp=>D.tup [p.1,p.2]) [a,b,x,y]=aa (.nx [a,b,x',y'])
 |[],x,y,_=>⟨x,y,rfl⟩
 |d::ds,x,y,h=>by
  have h1:=h d ax;have st:zcb rg [a,b,aa (.val d),aa (.val d)]=aa (.nx [a,b,aa (.val d),aa (.val d)]):=by
   simp only[zcb,fIf,zgR,tOf,zag,zaa,zab,jqf,jqe,zae,jqc,jqa,zaA,zbn,asV,h1,bOf,jqt,zaH,eC,toN,fNx,jqr,jrb]
  obtain⟨x',y',e⟩:=zgX a b ds (aa (.val d)) (aa (.val d)) λz hz=>h z (aq _ hz);exact⟨x',y',fq (zaV rfl st) e⟩
def zeR{rg:List D->Option Ent}(ds:List D)(hl:ds.length<=100000)(h:∀d∈ds,rg [d,d]=aa (.val (.bl true))):zbb [.v,.v] 2 (zaS rg) [.tup ds,.tup ds]=aa (.val (.bl true)):=by
 obtain⟨x',y',e⟩:=zgX (aa (.val (.tup ds))) (aa (.val (.tup ds))) ds ab ab h;have t1:("tuple" == "tuple")=true:=rfl;generalize hz:(ds.zip ds).map (λp=>D.tup [p.1,p.2])=zz at *;simp (disch:=omega) only[zbb,stE,stN,jqc,jqa,zaS,zah,fIf,tOf,ex1,zab,az,fOr,zgR,ex2,eCB,zaa,zae,gNe,zaH,eC,toN,fNx,jqi,jqj,jqf,jqe,gIsi,obD,jqr,isiD,tyN,t1,jC,jrb,bOf,jqt,zbk,zcJ,zaG,jqy,sqO,zd4,iZip,qV,qOf,hz,e,jra,zdg]
def zjf(ds:List D)(hl:ds.length<=100000)(h:∀d∈ds,∃i j:Int,d=.tup [.int i,.int j]):zaZ [.tup ds,.tup ds]=aa (.val (.bl true)):=by
 unfold zaZ;refine zeR ds hl λd hd=>?_;obtain⟨i,j,rfl⟩:=h d hd;unfold zbL;refine zeR [.int i,.int j] (by simp) λd hd=>?_;simp only[aF,bI,or_false]at hd;rcases hd with rfl|rfl
 ·exact zdG _
 ·exact zdG _
end
def zkw(rows:List RwI)(hl:rows.length<=100000)(h:∀r∈rows,∃a b c:Int,r=[a,b,c]):zaZ [.tup (rows.map zeB),.tup (rows.map zeB)]=aa (.val (.bl true)):=by
 unfold zaZ;refine zeR _ (by rw[aw];exact hl) λd hd=>?_;obtain⟨r,hr,rfl⟩:=bY.mp hd;obtain⟨a,b,c,rfl⟩:=h r hr;unfold zbL;refine zeR [.int a,.int b,.int c] (by simp) λd hd=>?_;simp only[aF,bI,or_false]at hd;rcases hd with rfl|rfl|rfl
 ·exact zdG _
 ·exact zdG _
 ·exact zdG _
section
open CE
variable (P:List Str)(T:List Nat)(p:Pr)
def isC_fi(most:Int)(j:Nat)(prs:List D):isC "Finder" ["pattern","prices","columns","last_sign","sight"] (fiO P T p most j prs)=aa [.val (.tup (P.map .str)),.val p.d,.lst (zkG (cT P T p) P.length j),.val (.str (mkS (zfa T j))),siO most (j+1) prs]:=zce
abbrev zhJ(n most:Int)(x5 x6 x7 x8 x9 x10 x11 x12:Option Ent):En:=[aa (.val (.tup (P.map .str))),aa (.val (.int n)),aa (.val (.str (mkS T))),aa (.val (.int most)),aa (.val p.d),x5,x6,x7,x8,x9,x10,x11,x12]
def prR_cel{most:Int}{a b:Nat}{d:D}(h:d∈prR P T p most a b):∃(j:Nat) (y:Int),j<b/\d=.tup [.int (j:Int),.int y]/\cT P T p P.length j=aa y:=by
 obtain⟨j,h1,h2⟩:=jW.mp h;rw[List.mem_range'_1]at h1;unfold prD at h2;split at h2
 ·rename_i y hy;split at h2
  ·exact⟨j,y,by lia,bn.mp h2,hy⟩
  ·cases h2
 ·cases h2
def zkd(n most:Int)(x5 x6 x7 x8 x9 x10 x11 x12:Option Ent):∀js:List Nat,zdc (λd=>(two d).bind λq=>zdD (cEn2 [1] (zhJ P T p n most x5 x6 x7 x8 x9 x10 x11 x12) q.1 q.2)) (λd=>(two d).bind λq=>zdQ (cEn2 [1] (zhJ P T p n most x5 x6 x7 x8 x9 x10 x11 x12) q.1 q.2)) (js.flatMap λj=>prD most (cT P T p P.length j) j)=aa ((rwN T p most n P js).map zeB)
 |[]=>rfl
 |j::js=>by
  rw[show rwN T p most n P (j::js)=rwE most n (cT P T p P.length j) j++rwN T p most n P js from rfl,fP];have ih:=zkd n most x5 x6 x7 x8 x9 x10 x11 x12 js;generalize cT P T p P.length j=x;cases x with
  |none=>exact ih
  |some x=>
   by_cases hm:x<=most
   ·rw[show prD most (aa x) j=[.tup [.int (j:Int),.int x]]from if_pos hm,show rwE most n (aa x) j=[[(j:Int),n,x]]from if_pos hm];rw[List.singleton_append,zdc,ih];rfl
   ·rw[show prD most (aa x) j=[]from if_neg hm,show rwE most n (aa x) j=[]from if_neg hm];exact ih
variable (hP:P.length<=1000)(hT:T.length<=1000)
include hP hT
theorem one_turn(n most:Int)(x5 x9 x10 x11 x12:Option Ent)(j:Nat)(hj:j<T.length) :
  zcP (zhJ P T p n most x5 (aa (.obj (fiO P T p most j []))) (aa (.val (.tup (prR P T p most 0 (j+1))))) (aa (.val (.str (mkS [T.getD j 0])))) x9 x10 x11 x12) =
  aa (.nx (zhJ P T p n most x5 (aa (.obj (fiO P T p most (j+1) []))) (aa (.val (.tup (prR P T p most 0 (j+1+1))))) (aa (.val (.str (mkS [T.getD j 0])))) x9 x10 x11 x12)):=by
 have f:=feed_ok P T p (by lia) (by lia) most [T.getD j 0] j [] (by simp;lia) (by rw[show [T.getD j 0].length=1 from rfl,bq hj,gB,i4];simp[hj]) (by simp);rw[cD,show j + [T.getD j 0].length=j+1 from rfl]at f;have c1:=isC_fi P T p most j [];have l1:=zhH P T p most 0 (j+1);have l2:=zhH P T p most (j+1) (j+1+1);have hl:(prR P T p most 0 (j+1)).length+(prR P T p most (j+1) (j+1+1)).length<=1000000:=by lia
 rw[<- ziL P T p most (aU (j+1)) (cY (j+1))];unfold zhJ;generalize fiO P T p most j []=o1 at *;generalize fiO P T p most (j+1) []=o2 at *;generalize prR P T p most 0 (j+1)=r1 at *;generalize prR P T p most (j+1) (j+1+1)=r2 at *;generalize P.map D.str=pp at *;generalize mkS [T.getD j 0]=zz at *;simp only[zcP,fXSet,x2,xP,zab,jqf,jqe,jqa,asV,jqc,xM,oAt,zaa,zae,gCatT,zcJ,zd5,jqh,jqg,c1,f,hl,zao,zaf]
theorem zj3(n most:Int)(x5 x9 x10 x11 x12:Option Ent):∀(w:List Nat) (j:Nat) (x8:Option Ent),w=T.drop j->j<=T.length->∃y8,
  loop (gNm 8) zcP (w.map λc=>D.str (mkS [c])) (zhJ P T p n most x5 (aa (.obj (fiO P T p most j []))) (aa (.val (.tup (prR P T p most 0 (j+1))))) x8 x9 x10 x11 x12) =
  aa (.nx (zhJ P T p n most x5 (aa (.obj (fiO P T p most T.length []))) (aa (.val (.tup (prR P T p most 0 (T.length+1))))) y8 x9 x10 x11 x12))
 |[],j,x8,hw,hj=>by
  have:j=T.length:=by
   have:=congrArg fQ hw;simp at this;lia
  subst this;exact⟨x8,rfl⟩
 |c::w,j,x8,hw,hj=>by
  have hj':j<T.length:=by
   have:=congrArg fQ hw;simp at this;lia
  rw[bq hj',iN]at hw;have hc:c=T.getD j 0:=by rw[hw.1];simp[hj']
  obtain⟨y8,e⟩:=zj3 n most x5 x9 x10 x11 x12 w (j+1) (aa (.val (.str (mkS [T.getD j 0])))) hw.2 hj';refine⟨y8,?_⟩;rw[hc,aH];exact(zaV rfl (one_turn P T p hP hT n most x5 x9 x10 x11 x12 j hj')).trans e
variable (hp:p.Ok)
include hp
theorem zif(n most:Int)(x5 x6 x7 x8:Option Ent):∀(ds:List D) (x9 x10 x11 x12:Option Ent),(∀d∈ds,d∈prR P T p most 0 (T.length+1))->∃y9 y10 y11 y12,
  loop (gTp (zbM (gNm 9) (zbM (gNm 10) zfH))) zcZ ds (zhJ P T p n most x5 x6 x7 x8 x9 x10 x11 x12)=aa (.nx (zhJ P T p n most x5 x6 x7 x8 y9 y10 y11 y12))
 |[],x9,x10,x11,x12,_=>⟨x9,x10,x11,x12,rfl⟩
 |d::ds,x9,x10,x11,x12,h=>by
  obtain⟨j,y,hj,rfl,hc⟩:=prR_cel P T p (h d ax);obtain⟨l,row,hl,pe,sa⟩:=zkK P T p j hP hT hp (by lia) hc;have c2:=cut_sub T j (b:=j-l) (by lia) (by lia);rw[show j-(j-l)=l by lia]at c2;have hm:T.length<=1000000:=by lia
  have st:zcZ (zhJ P T p n most x5 x6 x7 x8 (aa (.val (.int (j:Int)))) (aa (.val (.int y))) x11 x12)=aa (.nx (zhJ P T p n most x5 x6 x7 x8 (aa (.val (.int (j:Int)))) (aa (.val (.int y))) (aa (.val (.int ((j-l:Nat):Int)))) (aa (.val (.tup row))))):=by
   unfold zhJ;generalize P.map D.str=pp at *;generalize sub T j l=sb at *;generalize ((j-l:Nat):Int)=bb at *;simp (disch:=omega) only[zcZ,zah,fAsg,zag,zaa,zab,jqe,jqf,zae,jqc,jqa,zaA,zbn,asV,sa,gTp,zbM,gNm,jqh,jqg,zfH,sqO,fIf,tOf,ex2,eSl,oSo,iOf,gSlS,sOf,zau,zao,zaY,c2,zaf,pe,gNe,zaG,jqy,jqt,bOf,zaH,eC,toN,fNx,jqr,jrb]
  obtain⟨y9,y10,y11,y12,e⟩:=zif n most x5 x6 x7 x8 ds (aa (.val (.int (j:Int)))) (aa (.val (.int y))) (aa (.val (.int ((j-l:Nat):Int)))) (aa (.val (.tup row))) λz hz=>h z (aq _ hz);exact⟨y9,y10,y11,y12,(zaV rfl st).trans e⟩
theorem one_ok(n most:Int):zfw [.tup (P.map .str),.int n,.str (mkS T),.int most,p.d]=aa (.own ((rwN T p most n P (au (T.length+1))).map zeB)):=by
 have a1:=ends_ok P T p (by lia) (by lia) most;have a2:=finit_ok P T p (by lia) most;have a3:=feed_ok P T p (by lia) (by lia) most [] 0 (prR P T p most 0 1) (by simp) (by simp) (by have:=zhH P T p most 0 1;simp;lia);rw[show 0+([]:List Nat).length=0 from rfl,zex,bp]at a3;have hl:=zhH P T p most 0 (T.length+1);have al:zaZ [.tup (prR P T p most 0 (T.length+1)),.tup (prR P T p most 0 (T.length+1))]=aa (.val (.bl true)):=by
  refine zjf _ (by lia) λd hd=>?_;obtain⟨i,y,_,e,_⟩:=prR_cel P T p hd;exact⟨i,y,e⟩
 have c1:=isC_fi P T p most 0 (prR P T p most 0 1);obtain⟨y8,e4⟩:=zj3 P T p hP hT n most (aa (.val (.tup (prR P T p most 0 (T.length+1))))) ab ab ab ab T 0 ab rfl (aU _);obtain⟨y9,y10,y11,y12,e6⟩:=zif P T p hP hT hp n most (aa (.val (.tup (prR P T p most 0 (T.length+1))))) (aa (.obj (fiO P T p most T.length []))) (aa (.val (.tup (prR P T p most 0 (T.length+1))))) y8 (zfP (prR P T p most 0 (T.length+1)) ab (aa 2)++zfP (prR P T p most 0 (T.length+1)) (aa (-1)) ab) ab ab ab ab λd hd=>by
  unfold zfP at hd;rcases br.mp hd with h|h
  ·exact jh (ji h)
  ·exact jh (ji h)
 have er:prR P T p most 0 (T.length+1)=(au (T.length+1)).flatMap λj=>prD most (cT P T p P.length j) j:=by
  unfold prR;rw[du,gu]
 have e7:eL2 [1] (iT (zab 5)) zdD zdQ (zhJ P T p n most (aa (.val (.tup (prR P T p most 0 (T.length+1))))) (aa (.obj (fiO P T p most T.length []))) (aa (.val (.tup (prR P T p most 0 (T.length+1))))) y8 y9 y10 y11 y12)=aa (.own ((rwN T p most n P (au (T.length+1))).map zeB)):=by
  have c:=zkd P T p n most (aa (.val (.tup (prR P T p most 0 (T.length+1))))) (aa (.obj (fiO P T p most T.length []))) (aa (.val (.tup (prR P T p most 0 (T.length+1))))) y8 y9 y10 y11 y12 (au (T.length+1));rw[<- er]at c;unfold eL2;show(zdc _ _ (prR P T p most 0 (T.length+1))).bind _=_;rw[c];have hn:=zgr T p most n P (au (T.length+1));rw[cz]at hn;exact if_pos (by rw[aw];lia)
 have me:mkS []=("" : Str):=rfl;rw[me]at a3;have hc:(zfP (prR P T p most 0 (T.length+1)) ab (aa 2)).length+(zfP (prR P T p most 0 (T.length+1)) (aa (-1)) ab).length<=1000000:=by
  unfold zfP;simp only[cr,eB];lia
 have hF:zev (zhJ P T p n most ab ab ab ab ab ab ab ab)=aa (.rt (.own ((rwN T p most n P (au (T.length+1))).map zeB)) (zhJ P T p n most (aa (.val (.tup (prR P T p most 0 (T.length+1))))) (aa (.obj (fiO P T p most T.length []))) (aa (.val (.tup (prR P T p most 0 (T.length+1))))) y8 y9 y10 y11 y12)):=by
  refine(show zev _=_ from zbT (v:=.tup (prR P T p most 0 (T.length+1))) ?h1).trans ((zbY (δ':=zhJ P T p n most (aa (.val (.tup (prR P T p most 0 (T.length+1))))) (aa (.obj (fiO P T p most 0 (prR P T p most 0 1)))) ab ab ab ab ab ab) ?h2).trans ((zbY (δ':=zhJ P T p n most (aa (.val (.tup (prR P T p most 0 (T.length+1))))) (aa (.obj (fiO P T p most 0 []))) (aa (.val (.tup (prR P T p most 0 1)))) ab ab ab ab ab) ?h3).trans ((forN (ds:=T.map λc=>D.str (mkS [c])) ?h4 e4).trans ((zbY (ziF ?h5)).trans ((forN ?h6 e6).trans ?h7)))))
  case h7=>unfold zaH;rw[e7];rfl
  all_goals clear e4 e6 e7 hp er
  all_goals generalize fiO P T p most 0 (prR P T p most 0 1)=o1 at *
  all_goals generalize fiO P T p most 0 []=o2 at *
  all_goals generalize fiO P T p most T.length []=o3 at *
  all_goals generalize prR P T p most 0 (T.length+1)=E at *
  all_goals generalize prR P T p most 0 1=E1 at *
  all_goals unfold zhJ
  all_goals generalize P.map D.str=pp at *
  ·simp only[zag,zaa,zab,jqe,jqf,zae,jqc,jqa,zaA,zbn,asV,a1]
  ·simp only[fSetO,ziv,zaa,zab,jqh,jqg,jqe,jqf,zae,jqc,jqa,zd5,asV,a2]
  ·simp only[fXSet,xM,oAt,jqf,jqe,zaa,eC,zae,jqc,jqa,zd5,asV,jqh,jqg,c1,bv,a3]
  ·simp only[iS,zab,jqf,jqe,sOf,jqa,jqc,zaY]
  ·simp only[zgR,tOf,zag,zaa,zab,jqf,jqe,zae,jqc,jqa,zaA,zbn,asV,al,bOf,jqt]
  ·simp only[iT,ex2,eSl,zab,jqf,jqe,oNo,oSo,eC,jqa,iOf,jqc,gSlT,zcJ,ex1,zd8,Int.reduceNeg,gCatT,hc,zao,zaf]
 exact(congrArg (λo=>dH o _) hF).trans rfl
end
section
open PT
def eq_pD(P:List (List Nat)):zgA (eqD 8) (pD P) (pD P)=aa true:=zgn λd hd=>by
 obtain⟨w,_,rfl⟩:=bY.mp hd;simp[eqD,flD,eqF]
end
def frzI{i:Nat}{g:FS}{δ:En}{ds:List D}(h:δ[i]? =aa (aa (.own ds))):fFrz i g δ=g (δ.set i (aa (.val (.lst ds)))):=by unfold fFrz;rw[h]
section
open CE PT
variable (T:List Nat)(p:Pr)(most:Int)
def rwA_app(P:List Str):∀(Ps:List (List Str)) (n:Nat),rwA T p most (Ps++[P]) n=rwA T p most Ps n++rwN T p most ((n+Ps.length:Nat):Int) P (au (T.length+1))
 |[],n=>by show _++[]=[]++_;rw[bp];rfl
 |Q::Ps,n=>by
  show _++rwA T p most (Ps++[P]) (n+1)=(_++_)++_;rw[rwA_app P Ps (n+1),bw,aJ,show n+1+Ps.length=n+(Ps.length+1) by lia]
abbrev f63(ns:List Int)(c0:Int)(ws:List Nat)(sz:List D)(Ps:List (List Str))(x9 x10 x11 x12 x13:Option Ent):En:=
 [aa (.bor (ns.map .int)),aa (.val (.int c0)),aa (.own (ws.map λw=>.str (mkS [w]))),aa (.val (.str (mkS T))),aa (.val p.d),aa (.val (.lst sz)),aa (.val (.int most)),aa (.own (Ps.map λP=>.tup (P.map .str))),aa (.own ((rwA T p most Ps 0).map zeB)),x9,x10,x11,x12,x13]
variable (hT:T.length<=100)(hp:p.Ok)
include hT hp
theorem turn63(ns:List Int)(c0:Int)(ws:List Nat)(w2:2<=ws.length)(w26:ws.length<=26)(hw:∀w∈ws,97<=w/\w<=122)(sz:List D)(Ps:List (List Str))(hl:Ps.length<=10)(s:Int)(s0:0<=s)(s1:s<=40)(x10 x11 x12 x13:Option Ent) :
  ∃(P:List Str) (y10 y11 y12 y13:Option Ent),P.length<=1000/\zfK (f63 T p most ns c0 ws sz Ps (aa (.val (.int s))) x10 x11 x12 x13)=aa (.nx (f63 T p most ns c0 ws sz (Ps++[P]) (aa (.val (.int s))) y10 y11 y12 y13)):=by
 obtain⟨c,hc⟩:=zgs ns (4+(Ps.length:Int)) (by lia) (by lia);obtain⟨w,h1,h2,h3⟩:=zi9 ws c s (by lia) w26 hw s0 (by lia);have ew:pDs w=(w.map mkS).map D.str:=by rw[bN];rfl
 have e0:zgA (eqD 8) (pDs w) (pDs w)=aa true:=eq_pD w;have k1:zbP [.tup (pDs w)]=aa (.val (.str (mkS (wrs w)))):=show_ok w h3 (by lia);have k2:zbK [.str (mkS (wrs w))]=aa (.val (.tup (pDs w))):=read_ok w h3 (by lia);have k3:zbN [.tup (pDs w)]=aa (.val (.str (mkS (wrs w)))):=zkk w h3 (by lia);have o1:=one_ok (w.map mkS) T p (by rw[aw];lia) (by lia) hp (Ps.length:Int) most;rw[<- ew]at o1;have hA:=zhc T p most Ps 0;have hA2:Ps.length*(T.length+1)<=10*101:=ja hl (by lia);have hn:=zgr T p most (Ps.length:Int) (w.map mkS) (au (T.length+1));rw[cz]at hn;have hz:(Ps.map λP=>D.tup (P.map .str)).length=Ps.length:=aw ..;have hz1:Ps.length<=1000000:=by lia
 have hz2:Ps.length+1<=1000000:=by lia
 have hx:((rwA T p most Ps 0).map zeB).length+((rwN T p most (Ps.length:Int) (w.map mkS) (au (T.length+1))).map zeB).length<=1000000:=by rw[aw,aw];lia
 refine⟨w.map mkS,aa (.val (.tup (pDs w))),aa (.val (.str (mkS (wrs w)))),aa (.val (.tup (pDs w))),aa (.own ((rwN T p most (Ps.length:Int) (w.map mkS) (au (T.length+1))).map zeB)),by rw[aw];lia,?_⟩;unfold f63;rw[rwA_app,bv,cC,cC,show [w.map mkS].map (λP=>D.tup (P.map D.str))=[.tup (pDs w)]from (congrArg (λz=>[D.tup z]) ew).symm];generalize (rwN T p most (Ps.length:Int) (w.map mkS) (au (T.length+1))).map zeB=R at *;generalize (rwA T p most Ps 0).map zeB=A at *;generalize Ps.map (λP=>D.tup (P.map .str))=Q at *;generalize pDs w=W at *;generalize ws.map (λw=>D.str (mkS [w]))=wl at *;generalize ns.map D.int=nn at *;generalize mkS (wrs w)=zw at *;generalize Ps.length=L at *;have t1:(zw=zw)=True:=eq_true rfl;unfold zfK;simp only[zah,zaE,zag,zaa,zab,jqf,jqe,ex2,eC,eCB,zae,jqc,jqa,zbk,zcJ,asL,hz,zci,pI0,iOf,zaA,zbn,asV,hc,h1,jqh,jqg,toN,sqO,k3,k2,fIf,fOr,tOf,gNeD,sqOf,e0,jqt,bOf,k1,gNe,zdR,jqy,jqr,jrb,zaH,fNx,o1,zjQ,isN,zhw,hz2,zao,zaf,fExtV,asLt,hx]
theorem loop63(ns:List Int)(c0:Int)(ws:List Nat)(w2:2<=ws.length)(w26:ws.length<=26)(hw:∀w∈ws,97<=w/\w<=122)(sz:List D):∀(fs:List Int) (Ps:List (List Str)) (x9 x10 x11 x12 x13:Option Ent),(∀f∈fs,0<=f/\f<7)->Ps.length+fs.length<=10->(∀P∈Ps,P.length<=1000) ->
  ∃(Qs:List (List Str)) (y9 y10 y11 y12 y13:Option Ent),Qs.length<=10/\(∀P∈Qs,P.length<=1000)/\loop (gNm 9) zfK (fs.map D.int) (f63 T p most ns c0 ws sz Ps x9 x10 x11 x12 x13)=aa (.nx (f63 T p most ns c0 ws sz Qs y9 y10 y11 y12 y13))
 |[],Ps,x9,x10,x11,x12,x13,_,h,hP=>⟨Ps,x9,x10,x11,x12,x13,by simpa using h,hP,rfl⟩
 |f::fs,Ps,x9,x10,x11,x12,x13,hf,h,hP=>by
  rw[aJ]at h;have h0:=hf f ax;obtain⟨P,y10,y11,y12,y13,hl,e⟩:=turn63 T p most hT hp ns c0 ws w2 w26 hw sz Ps (by lia) f h0.1 (by lia) x10 x11 x12 x13;obtain⟨Qs,z9,z10,z11,z12,z13,q1,q2,q3⟩:=loop63 ns c0 ws w2 w26 hw sz fs (Ps++[P]) (aa (.val (.int f))) y10 y11 y12 y13 (λx hx=>hf x (aq _ hx)) (by rw[a8,f9];lia) λQ hQ=>(br.mp hQ).elim (hP Q) λz=>by rw[bn.mp z];exact hl
  exact⟨Qs,z9,z10,z11,z12,z13,q1,q2,(zaV rfl e).trans q3⟩
theorem tail63(ns:List Int)(c0:Int)(ws:List Nat)(w2:2<=ws.length)(w26:ws.length<=26)(hw:∀w∈ws,97<=w/\w<=122)(fs:List Int)(hf:∀f∈fs,0<=f/\f<7)(hl:fs.length<=10) :
  ∃δ,zhf [aa (.bor (ns.map .int)),aa (.val (.int c0)),aa (.own (ws.map λw=>.str (mkS [w]))),aa (.val (.str (mkS T))),aa (.val p.d),aa (.own (fs.map .int)),aa (.val (.int most)),aa (.own []),aa (.own []),ab,ab,ab,ab,ab]=aa (.rt (.val (.bl true)) δ):=by
 obtain⟨Qs,y9,y10,y11,y12,y13,q1,q2,q3⟩:=loop63 T p most hT hp ns c0 ws w2 w26 hw (fs.map .int) fs [] ab ab ab ab ab hf (by simpa using hl) λ_ h=>by cases h
 have hA:=zhc T p most Qs 0;have hA2:Qs.length*(T.length+1)<=20*101:=ja (by lia) (by lia);have hne:=rwA_ne T p most Qs 0;have m1:=many_ok T p most hT Qs q2 (by lia);have hz:(Qs.map λP=>D.tup (P.map .str)).length<=1000000:=by rw[aw];lia
 have s1:=zjs (rows:=rwA T p most Qs 0) (by lia) (λr hr=>by obtain⟨a,b,c,rfl⟩:=hne r hr;simp) (E:=zab 8) (δ:=f63 T p most ns c0 ws (fs.map .int) Qs y9 y10 y11 y12 y13) rfl;have al:=zkw (zkQ (rwA T p most Qs 0)) (by rw[(zfd _).length_eq];lia) (λr hr=>hne r ((zfd _).mem_iff.mp hr));refine⟨_,(show zhf _=_ from frzI (ds:=fs.map .int) rfl).trans ((forN (ds:=fs.map .int) rfl q3).trans (zep ?_))⟩;generalize (zkQ (rwA T p most Qs 0)).map zeB=R1 at m1 s1 al;have e5:eCB zcF (zaa (zab 7) zae) (f63 T p most ns c0 ws (fs.map .int) Qs y9 y10 y11 y12 y13)=aa (.val (.tup (Qs.map λP=>.tup (P.map .str)))):=by
  unfold f63;generalize Qs.map (λP=>D.tup (P.map .str))=qq at hz ⊢;simp only[eCB,zaa,zab,jqf,jqe,zae,jqc,jqa,zcF,asL]
 have e6:zag [.v,.v,.v,.v] zcp (zaa (eCB zcF (zaa (zab 7) zae)) (zaa (zab 3) (zaa (zab 6) (zaa (zab 4) zae)))) (f63 T p most ns c0 ws (fs.map .int) Qs y9 y10 y11 y12 y13)=aa (.val (.tup R1)):=by
  generalize eCB zcF (zaa (zab 7) zae)=E5 at e5;unfold f63 at e5 ⊢;generalize Qs.map (λP=>D.tup (P.map .str))=qq at m1 e5 ⊢;simp only[zag,zaa,e5,zab,jqf,jqe,zae,jqc,jqa,zaA,zbn,asV,m1]
 exact(zkM (g:=zeo) e6 s1).trans al
end
def callB{g:List D->Option Ent}{E:FE}{δ:En}{nn:List D}{i:Int}{v:D}(h:E δ=aa (.bor nn))(hg:g [.lst nn,.int i]=aa (.val v)):zag [.b,.v] g (zaa E (zaa (eC (.int i)) zae)) δ=aa (.val v):=by simp only[zag,zaa,h,eC,zae,jqc,jqa,zaA,zbn,asL,asV,hg]
open CE in
def main(ns:List Int)(hn:ns.length<=63):g_law [.lst (ns.map .int)]=aa (.val (.bl true)):=by
 obtain⟨c0,h0⟩:=zgs ns 0 (by decide) (by decide);obtain⟨c1,h1⟩:=zgs ns 1 (by decide) (by decide);obtain⟨c2,h2⟩:=zgs ns 2 (by decide) (by decide);obtain⟨c3,h3⟩:=zgs ns 3 (by decide) (by decide);obtain⟨ws,hws,w2,w26,hw⟩:=pool_ok c0;have m6:=cG (c0 / 2704) (show(0:Int)<6 by decide);have m26:=cG (c0 / 104) (show(0:Int)<26 by decide);obtain⟨t,ht,tl,_⟩:=text_ok ws c1 (c0 / 104%26) (by lia) w26 (cM _ (by decide)) (by lia);obtain⟨p,hp,po⟩:=prices_ok c2;obtain⟨fs,hfs,fl,fd⟩:=ze6 c3 7 (c0 / 2704%6) (by decide) (by decide) (cM _ (by decide)) (by lia);obtain⟨δ,hE⟩:=tail63 t p (c0 / 16224%10) (by lia) ⟨po.a.1,po.b.1,po.c.1,po.d.1⟩ ns c0 ws w2 w26 hw fs fd (by lia);have v2:zag [.v] zc5 (zaa (zab 1) zae) [aa (.bor (ns.map .int)),aa (.val (.int c0)),ab,ab,ab,ab,ab,ab,ab,ab,ab,ab,ab,ab]=aa (.own (ws.map λw=>.str (mkS [w]))):=by
  generalize ws.map (λw=>D.str (mkS [w]))=wl at *;simp only[zag,zaa,zab,jqf,jqe,zae,jqc,jqa,zaA,zbn,asV,hws]
 have v3:zag [.b,.v,.v] zc4 (zaa (zab 2) (zaa (zag [.b,.v] zap (zaa (zab 0) (zaa (eC (.int 1)) zae))) (zaa (ex2 zc2 (ex2 zeF (zab 1) (eC (.int 104))) (eC (.int 26))) zae))) [aa (.bor (ns.map .int)),aa (.val (.int c0)),aa (.own (ws.map λw=>.str (mkS [w]))),ab,ab,ab,ab,ab,ab,ab,ab,ab,ab,ab]=aa (.val (.str (mkS t))):=by
  have z1:=callB (g:=zap) (E:=zab 0) (δ:=[aa (.bor (ns.map .int)),aa (.val (.int c0)),aa (.own (ws.map λw=>.str (mkS [w]))),ab,ab,ab,ab,ab,ab,ab,ab,ab,ab,ab]) rfl h1;have z2:=modI (E:=ex2 zeF (zab 1) (eC (.int 104))) (F:=eC (.int 26)) (δ:=[aa (.bor (ns.map .int)),aa (.val (.int c0)),aa (.own (ws.map λw=>.str (mkS [w]))),ab,ab,ab,ab,ab,ab,ab,ab,ab,ab,ab]) (divI rfl rfl (by decide)) rfl (by decide);generalize zag [.b,.v] zap (zaa (zab 0) (zaa (eC (.int 1)) zae))=E1 at z1 ⊢;generalize ex2 zc2 (ex2 zeF (zab 1) (eC (.int 104))) (eC (.int 26))=E2 at z2 ⊢;generalize ws.map (λw=>D.str (mkS [w]))=wl at *;simp only[zag,zaa,zab,jqf,jqe,z1,z2,zae,jqc,jqa,zaA,zbn,asL,asV,ht]
 have v4:zag [.v] zcV (zaa (zag [.b,.v] zap (zaa (zab 0) (zaa (eC (.int 2)) zae))) zae) [aa (.bor (ns.map .int)),aa (.val (.int c0)),aa (.own (ws.map λw=>.str (mkS [w]))),aa (.val (.str (mkS t))),ab,ab,ab,ab,ab,ab,ab,ab,ab,ab]=aa (.val p.d):=by
  have z1:=callB (g:=zap) (E:=zab 0) (δ:=[aa (.bor (ns.map .int)),aa (.val (.int c0)),aa (.own (ws.map λw=>.str (mkS [w]))),aa (.val (.str (mkS t))),ab,ab,ab,ab,ab,ab,ab,ab,ab,ab]) rfl h2;generalize zag [.b,.v] zap (zaa (zab 0) (zaa (eC (.int 2)) zae))=E1 at z1 ⊢;simp only[zag,zaa,z1,zae,jqc,jqa,zaA,zbn,asV,hp]
 have v5:zag [.v,.v,.v] zax (zaa (zag [.b,.v] zap (zaa (zab 0) (zaa (eC (.int 3)) zae))) (zaa (eC (.int 7)) (zaa (ex2 zc2 (ex2 zeF (zab 1) (eC (.int 2704))) (eC (.int 6))) zae))) [aa (.bor (ns.map .int)),aa (.val (.int c0)),aa (.own (ws.map λw=>.str (mkS [w]))),aa (.val (.str (mkS t))),aa (.val p.d),ab,ab,ab,ab,ab,ab,ab,ab,ab]=aa (.own (fs.map .int)):=by
  have z1:=callB (g:=zap) (E:=zab 0) (δ:=[aa (.bor (ns.map .int)),aa (.val (.int c0)),aa (.own (ws.map λw=>.str (mkS [w]))),aa (.val (.str (mkS t))),aa (.val p.d),ab,ab,ab,ab,ab,ab,ab,ab,ab]) rfl h3;have z2:=modI (E:=ex2 zeF (zab 1) (eC (.int 2704))) (F:=eC (.int 6)) (δ:=[aa (.bor (ns.map .int)),aa (.val (.int c0)),aa (.own (ws.map λw=>.str (mkS [w]))),aa (.val (.str (mkS t))),aa (.val p.d),ab,ab,ab,ab,ab,ab,ab,ab,ab]) (divI rfl rfl (by decide)) rfl (by decide);generalize zag [.b,.v] zap (zaa (zab 0) (zaa (eC (.int 3)) zae))=E1 at z1 ⊢;generalize ex2 zc2 (ex2 zeF (zab 1) (eC (.int 2704))) (eC (.int 6))=E2 at z2 ⊢;generalize fs.map D.int=ff at *;simp only[zag,zaa,z1,eC,z2,zae,jqc,jqa,zaA,zbn,asV,hfs]
 have hF:F_law [aa (.bor (ns.map .int)),ab,ab,ab,ab,ab,ab,ab,ab,ab,ab,ab,ab,ab]=aa (.rt (.val (.bl true)) δ):=
  (show F_law _=_ from zbT (callB (E:=zab 0) rfl h0)).trans ((show zjw _=_ from zbY (zks v2)).trans ((show zj7 _=_ from zbT v3).trans ((show zkc _=_ from zbT v4).trans ((show zjt _=_ from zbY (zks v5)).trans ((show zj5 _=_ from zbT (modI (divI rfl rfl (by decide)) rfl (by decide))).trans ((show zj8 _=_ from zbY (zks (show zde zae _=aa (.own [])from rfl))).trans ((show zj0 _=_ from zbY (zks (show zde zae _=aa (.own [])from rfl))).trans hE)))))))
 exact(congrArg (λo=>dH o _) hF).trans rfl
end N63
namespace N63
open PySem L2 L3 PyProof.Rows
abbrev FnG(K:ag)(x:Str)(st:Stmt):Prop:=∃(f:ai) (oc:af) (od:Option ai) (kV doc pm:af) (an:Option ai) (cdv ct:af) (osl:Array (Option af)),be K aV x=aa (aa (.ref f))/\K.lookup f=aa ⟨oc,od,.func (bV x x (zbI st) (zbl st) (zad st) .none kV doc pm an cdv ct),osl⟩/\ck K cdv x=true/\bJ K (.ref f)=true
def zaD{K:ag}{h:aT}{mg:Str->Option af}{x:Str}{st:Stmt}{ps:List Str}(X:K.In h)(G:h.Ns aV mg)(q:FnG K x st)
  (hb:∀(kV doc pm:af) (an:Option ai) (cdv ct:af) (us:List af),us.length=ps.length->bindArgs (bV x x (zbI st) (zbl st) (zad st) .none kV doc pm an cdv ct) ⟨us,[]⟩=pure (ps.zip us):=by intro _ _ _ _ _ _ us hl;first|(obtain⟨_,rfl⟩:=len1 hl;rfl)|(obtain⟨_,_,rfl⟩:=len2 hl;rfl)|(obtain⟨_,_,_,rfl⟩:=len3 hl;rfl)|(obtain⟨_,_,_,_,rfl⟩:=len4 hl;rfl)|(obtain⟨_,_,_,_,_,rfl⟩:=len5 hl;rfl)|(obtain⟨_,_,_,_,_,_,rfl⟩:=len6 hl;rfl)|(obtain⟨_,_,_,_,_,_,_,rfl⟩:=len7 hl;rfl)):∃f fd,Def K mg x st ps f fd:=by
 obtain⟨f,oc,od,kV,doc,pm,an,cdv,ct,osl,a,l,c,k⟩:=q;exact⟨_,_,zeU l c k,ca X G a,(zeU l c k).binds hb⟩
def spLaw(K:ag):Sp:=λvs H Q _=>∃(a:ai) (ns:List Int),vs=[.ref a]/\SqL K H a (ns.map V.int)/\ns.length<=63/\∀H',Q (.bl true) H'
def sp_law{K:ag}{vs:List V}{H:Hp}{Q:VK}{E:XK}(h:spLaw K vs H Q E):spD K [.b] g_law vs H Q E:=by
 obtain⟨a,ns,rfl,hq,hl,k⟩:=h;refine⟨λ_=>ab,_,_,λ_ _ e=>(nomatch e),.cons (k:=.b) (d:=.lst (ns.map D.int)) ⟨a,_,rfl,hq,Reps.ints ns⟩ .nil,main ns hl,λv F' H' _ r=>?_⟩;cases zg2 r;exact k H'
def all_mk{l:iI}{w:aO}{K:ag}{h:aT}{mg:Str->Option af}{fa:ai}(X:K.In h)(G:h.Ns aV mg)(hfa:mg "law" =aa (.ref fa))
  (a_Finder:be K aV "Finder" =aa (aa (.ref C_Finder))) (p1_Finder:dL K C_Finder kf=true) (p2_Finder:d7 K C_Finder=true) (p3_Finder:fM K C_Finder=true) (p4_Finder:ba K (.ref C_Finder) "__setattr__" =aa (aa (.builtin "object.__setattr__")))
  (n_Finder_pattern:ba K (.ref C_Finder) "pattern" =aa ab)
  (n_Finder_prices:ba K (.ref C_Finder) "prices" =aa ab)
  (n_Finder_columns:ba K (.ref C_Finder) "columns" =aa ab)
  (n_Finder_last_sign:ba K (.ref C_Finder) "last_sign" =aa ab)
  (n_Finder_sight:ba K (.ref C_Finder) "sight" =aa ab)
  (m1_Finder:gg K C_Finder=true) (m2_Finder:bJ K (.ref C_Finder)=true)
  (a_Sight:be K aV "Sight" =aa (aa (.ref C_Sight))) (p1_Sight:dL K C_Sight kf=true) (p2_Sight:d7 K C_Sight=true) (p3_Sight:fM K C_Sight=true) (p4_Sight:ba K (.ref C_Sight) "__setattr__" =aa (aa (.builtin "object.__setattr__")))
  (n_Sight_most:ba K (.ref C_Sight) "most" =aa ab)
  (n_Sight_end:ba K (.ref C_Sight) "end" =aa ab)
  (n_Sight_pairs:ba K (.ref C_Sight) "pairs" =aa ab)
  (m1_Sight:gg K C_Sight=true) (m2_Sight:bJ K (.ref C_Sight)=true)
  (a_18:be K aV "cells_of" =aa (aa (.ref f_18))) (l_18:K.lookup f_18=aa ⟨oc_18,od_18,.func (bV "cells_of" "cells_of" (zbI zbt) (zbl zbt) (zad zbt) df_18 kV_18 dc_18 pm_18 an_18 cd_18 ct_18),sl_18⟩) (c_18:ck K cd_18 "cells_of" =true) (k_18:bJ K (.ref f_18)=true)
  (e_18:DfOk K df_18)
  (l_31:FnG K "price_between" zbV)
  (l_36:FnG K "row_across" zcN)
  (l_23:FnG K "first_column" zb6)
  (l_25:FnG K "further_column" zbC)
  (l_17:FnG K "cell_ahead_of_turn" zaW)
  (l_41:FnG K "stepped" zew)
  (l_30:FnG K "lowest" zff)
  (l_37:FnG K "row_between" zct)
  (l_28:FnG K "last_step" zdn)
  (l_19:FnG K "comes_last" zcO)
  (l_16:FnG K "can_stand" zdr)
  (l_27:FnG K "is_done" zey)
  (l_40:FnG K "step_price" zcW)
  (l_21:FnG K "ends_in" zeu)
  (l_42:FnG K "stretch_at" zcT)
  (l_22:FnG K "ends_of_many" zb4)
  (l_32:FnG K "prices_at_ends" zbB)
  (l_33:FnG K "prices_by_length" zbe)
  (l_24:FnG K "first_lowest" zcg)
  (l_39:FnG K "show_pattern" zb5)
  (l_38:FnG K "show_class" zcY)
  (l_35:FnG K "read_pattern" zb1)
  (l_20:FnG K "end_of_class" zb9)
  (l_34:FnG K "read_class" zcR)
  (l_26:FnG K "is_class" zdU)
  (l_7:FnG K "_law_cell" zdp)
  (l_9:FnG K "_law_digits" zcv)
  (l_12:FnG K "_law_pool" zdk)
  (l_14:FnG K "_law_text" zdl)
  (l_8:FnG K "_law_class" zcX)
  (l_11:FnG K "_law_pattern" zb3)
  (l_13:FnG K "_law_prices" zcs)
  (l_6:FnG K "_law_alike" zbc)
  (l_15:FnG K "_law_written" zb2)
  (l_10:FnG K "_law_one" zdX)
  (a_29:be K aV "law" =aa (aa (.ref f_29))) (l_29:K.lookup f_29=aa ⟨oc_29,od_29,.func (bV "law" "law" (zbI zeW) (zbl zeW) (zad zeW) .none kV_29 dc_29 pm_29 an_29 cd_29 ct_29),sl_29⟩) (c_29:ck K cd_29 "law" =true) (k_29:bJ K (.ref f_29)=true)
  (a_3:ba K (.ref C_Sight) "__init__" =aa (aa (.ref f_3))) (l_3:K.lookup f_3=aa ⟨oc_3,od_3,.func (bV "__init__" "Sight.__init__" (zbI zay) (zbl zay) (zad zay) .none kV_3 dc_3 pm_3 an_3 cd_3 ct_3),sl_3⟩) (c_3:ck K cd_3 "Sight.__init__" =true) (k_3:bJ K (.ref f_3)=true) (i_3:dr K (.ref f_3)=true)
  (a_4:ba K (.ref C_Sight) "come" =aa (aa (.ref f_4))) (l_4:K.lookup f_4=aa ⟨oc_4,od_4,.func (bV "come" "Sight.come" (zbI zaR) (zbl zaR) (zad zaR) .none kV_4 dc_4 pm_4 an_4 cd_4 ct_4),sl_4⟩) (c_4:ck K cd_4 "Sight.come" =true) (k_4:bJ K (.ref f_4)=true) (i_4:dr K (.ref f_4)=true)
  (a_5:ba K (.ref C_Sight) "tell" =aa (aa (.ref f_5))) (l_5:K.lookup f_5=aa ⟨oc_5,od_5,.func (bV "tell" "Sight.tell" (zbI zaT) (zbl zaT) (zad zaT) .none kV_5 dc_5 pm_5 an_5 cd_5 ct_5),sl_5⟩) (c_5:ck K cd_5 "Sight.tell" =true) (k_5:bJ K (.ref f_5)=true) (i_5:dr K (.ref f_5)=true)
  (a_0:ba K (.ref C_Finder) "__init__" =aa (aa (.ref f_0))) (l_0:K.lookup f_0=aa ⟨oc_0,od_0,.func (bV "__init__" "Finder.__init__" (zbI zav) (zbl zav) (zad zav) .none kV_0 dc_0 pm_0 an_0 cd_0 ct_0),sl_0⟩) (c_0:ck K cd_0 "Finder.__init__" =true) (k_0:bJ K (.ref f_0)=true) (i_0:dr K (.ref f_0)=true)
  (a_1:ba K (.ref C_Finder) "feed" =aa (aa (.ref f_1))) (l_1:K.lookup f_1=aa ⟨oc_1,od_1,.func (bV "feed" "Finder.feed" (zbI zaL) (zbl zaL) (zad zaL) .none kV_1 dc_1 pm_1 an_1 cd_1 ct_1),sl_1⟩) (c_1:ck K cd_1 "Finder.feed" =true) (k_1:bJ K (.ref f_1)=true) (i_1:dr K (.ref f_1)=true)
  (a_2:ba K (.ref C_Finder) "read" =aa (aa (.ref f_2))) (l_2:K.lookup f_2=aa ⟨oc_2,od_2,.func (bV "read" "Finder.read" (zbI zaJ) (zbl zaJ) (zad zaJ) .none kV_2 dc_2 pm_2 an_2 cd_2 ct_2),sl_2⟩) (c_2:ck K cd_2 "Finder.read" =true) (k_2:bJ K (.ref f_2)=true) (i_2:dr K (.ref f_2)=true)
  (z_all:be K aV "all" =aa ab)
  (z_bool:be K aV "bool" =aa ab)
  (z_enumerate:be K aV "enumerate" =aa ab)
  (z_int:be K aV "int" =aa ab)
  (z_isinstance:be K aV "isinstance" =aa ab)
  (z_len:be K aV "len" =aa ab)
  (z_list:be K aV "list" =aa ab)
  (z_min:be K aV "min" =aa ab)
  (z_range:be K aV "range" =aa ab)
  (z_reversed:be K aV "reversed" =aa ab)
  (z_set:be K aV "set" =aa ab)
  (z_sorted:be K aV "sorted" =aa ab)
  (z_str:be K aV "str" =aa ab)
  (z_tuple:be K aV "tuple" =aa ab)
  (z_zip:be K aV "zip" =aa ab)
  (q_PUT:be K aV "PUT" =aa (aa (.int 0 tk_PUT)))
  (q_LEFT:be K aV "LEFT" =aa (aa (.int 1 tk_LEFT)))
  (q_EXCHANGED:be K aV "EXCHANGED" =aa (aa (.int 2 tk_EXCHANGED)))
  (q_TURNED:be K aV "TURNED" =aa (aa (.int 3 tk_TURNED)))
  (q_LETTERS:be K aV "LETTERS" =aa (aa (.str "abcdefghijklmnopqrstuvwxyz" tk_LETTERS)))
  (q_MOST_CLASSES:be K aV "MOST_CLASSES" =aa (aa (.int 40 tk_MOST_CLASSES)))
  (q_CLASSES_USED:be K aV "CLASSES_USED" =aa (aa (.ref ta_CLASSES_USED))) (l_CLASSES_USED:K.lookup ta_CLASSES_USED=aa ⟨.type "dict",ab,.dict es_CLASSES_USED ep_CLASSES_USED,#[]⟩) (c_CLASSES_USED:RowsK K es_CLASSES_USED [("same",1),("exchanged",1),("put",0),("left",1),("turned",2)]) (m_CLASSES_USED:(ta_CLASSES_USED==sysModules)=false)
  (q_SIGNS_USED:be K aV "SIGNS_USED" =aa (aa (.ref ta_SIGNS_USED))) (l_SIGNS_USED:K.lookup ta_SIGNS_USED=aa ⟨.type "dict",ab,.dict es_SIGNS_USED ep_SIGNS_USED,#[]⟩) (c_SIGNS_USED:RowsK K es_SIGNS_USED [("same",1),("exchanged",1),("put",1),("left",0),("turned",2)]) (m_SIGNS_USED:(ta_SIGNS_USED==sysModules)=false)
  (q_PLACE_IN_PRICES:be K aV "PLACE_IN_PRICES" =aa (aa (.ref ta_PLACE_IN_PRICES))) (l_PLACE_IN_PRICES:K.lookup ta_PLACE_IN_PRICES=aa ⟨.type "dict",ab,.dict es_PLACE_IN_PRICES ep_PLACE_IN_PRICES,#[]⟩) (c_PLACE_IN_PRICES:RowsK K es_PLACE_IN_PRICES [("put",0),("left",1),("exchanged",2),("turned",3)]) (m_PLACE_IN_PRICES:(ta_PLACE_IN_PRICES==sysModules)=false)
  (h_CLASSES_USED:es_CLASSES_USED.toList.map (·.hash)=(([("same",1),("exchanged",1),("put",0),("left",1),("turned",2)]:List (Str×Int)).map (·.1)).map (hashStr w)) :
  ∃fd:bF,(∀(s:ah) (v:af),BindsTo s fd ⟨[v],[]⟩ [("_law_script",v)])/\∀base:aT,K.In base->base.Ns aV mg->FnOk l.prog w K mg base CX0 8 fa fd ["_law_script"] (spLaw K):=by
 have e:=hfa.symm.trans (ca X G a_29)
 cases e;have DC_Finder:ClsD K mg "Finder" ["pattern","prices","columns","last_sign","sight"] C_Finder:=⟨a_Finder,ca X G a_Finder,⟨p1_Finder,p2_Finder,p3_Finder,p4_Finder⟩,λf hf=>by
  simp only[aF,bI,or_false]at hf;rcases hf with rfl|rfl|rfl|rfl|rfl
  ·exact n_Finder_pattern
  ·exact n_Finder_prices
  ·exact n_Finder_columns
  ·exact n_Finder_last_sign
  ·exact n_Finder_sight⟩
 have DC_Sight:ClsD K mg "Sight" ["most","end","pairs"] C_Sight:=⟨a_Sight,ca X G a_Sight,⟨p1_Sight,p2_Sight,p3_Sight,p4_Sight⟩,λf hf=>by
  simp only[aF,bI,or_false]at hf;rcases hf with rfl|rfl|rfl
  ·exact n_Sight_most
  ·exact n_Sight_end
  ·exact n_Sight_pairs⟩
 obtain⟨T_18,o_18,n_18,rfl,h1_18,h2_18⟩:=e_18;have F_18:FunA K "cells_of" "cells_of" zbt f_18 _:=⟨⟨oc_18,od_18,.ref T_18,kV_18,dc_18,pm_18,an_18,cd_18,ct_18,sl_18,rfl,l_18,c_18⟩,k_18⟩
 have D_18:DefD K mg "cells_of" zbt ["P","T","prices","free"] _ _:=⟨F_18,ca X G a_18,(λs us KI hl=>by rw[bp]at hl ⊢;obtain⟨_,_,_,_,rfl⟩:=len4 hl;exact iP KI rfl h1_18 h2_18 rfl rfl),(λs us KI hl=>by obtain⟨_,_,_,rfl⟩:=len3 (show us.length=3 from kX ((a8 (as:=us) (bs:=[gb false])).symm.trans hl));exact iP KI rfl h1_18 h2_18 rfl rfl),⟨(λs us ws KI hl=>by
  obtain⟨e1,e2,e3⟩:=gK_shape hl;rw[e3];obtain⟨_,_,_,rfl⟩:=len3 e1;obtain⟨_,rfl⟩:=len1 e2;exact iP KI rfl h1_18 h2_18 rfl rfl),λr rz=>gK_rel r rz⟩⟩
 have F_29:=zeU (st:=zeW) l_29 c_29 k_29;have F_3:=zeU (st:=zay) l_3 c_3 k_3;have D_3:MakeD K "Sight" zay "Sight.__init__" ["self","most"] _ _:=⟨.of F_3,λC h=>by cases zb8 a_Sight h;exact⟨m1_Sight,a_3,i_3,m2_Sight⟩,F_3.binds (ps:=["self","most"]) λ_ _ _ _ _ _ us hl=>by obtain⟨_,_,rfl⟩:=len2 hl;rfl⟩
 have F_4:=zeU (st:=zaR) l_4 c_4 k_4;have D_4:MethD K "Sight" "come" zaR "Sight.come" ["self","price"] _ _:=⟨.of F_4,λC h=>by cases zb8 a_Sight h;exact⟨a_4,i_4,k_4⟩,F_4.binds (ps:=["self","price"]) λ_ _ _ _ _ _ us hl=>by obtain⟨_,_,rfl⟩:=len2 hl;rfl⟩
 have F_5:=zeU (st:=zaT) l_5 c_5 k_5;have D_5:MethD K "Sight" "tell" zaT "Sight.tell" ["self"] _ _:=⟨.of F_5,λC h=>by cases zb8 a_Sight h;exact⟨a_5,i_5,k_5⟩,F_5.binds (ps:=["self"]) λ_ _ _ _ _ _ us hl=>by obtain⟨_,rfl⟩:=len1 hl;rfl⟩
 have F_0:=zeU (st:=zav) l_0 c_0 k_0;have D_0:MakeD K "Finder" zav "Finder.__init__" ["self","P","most","prices"] _ _:=⟨.of F_0,λC h=>by cases zb8 a_Finder h;exact⟨m1_Finder,a_0,i_0,m2_Finder⟩,F_0.binds (ps:=["self","P","most","prices"]) λ_ _ _ _ _ _ us hl=>by obtain⟨_,_,_,_,rfl⟩:=len4 hl;rfl⟩
 have F_1:=zeU (st:=zaL) l_1 c_1 k_1;have D_1:MethD K "Finder" "feed" zaL "Finder.feed" ["self","T"] _ _:=⟨.of F_1,λC h=>by cases zb8 a_Finder h;exact⟨a_1,i_1,k_1⟩,F_1.binds (ps:=["self","T"]) λ_ _ _ _ _ _ us hl=>by obtain⟨_,_,rfl⟩:=len2 hl;rfl⟩
 have F_2:=zeU (st:=zaJ) l_2 c_2 k_2;have D_2:MethD K "Finder" "read" zaJ "Finder.read" ["self","sign"] _ _:=⟨.of F_2,λC h=>by cases zb8 a_Finder h;exact⟨a_2,i_2,k_2⟩,F_2.binds (ps:=["self","sign"]) λ_ _ _ _ _ _ us hl=>by obtain⟨_,_,rfl⟩:=len2 hl;rfl⟩
 have T:Txt w K mg:={ m_all:=bx X G z_all,m_bool:=bx X G z_bool,m_enumerate:=bx X G z_enumerate,m_int:=bx X G z_int,m_isinstance:=bx X G z_isinstance,m_len:=bx X G z_len,m_list:=bx X G z_list,m_min:=bx X G z_min,m_range:=bx X G z_range,m_reversed:=bx X G z_reversed,m_set:=bx X G z_set,m_sorted:=bx X G z_sorted,m_str:=bx X G z_str,m_tuple:=bx X G z_tuple,m_zip:=bx X G z_zip,g_PUT:=⟨_,ca X G q_PUT,⟨_,rfl⟩⟩,g_LEFT:=⟨_,ca X G q_LEFT,⟨_,rfl⟩⟩,g_EXCHANGED:=⟨_,ca X G q_EXCHANGED,⟨_,rfl⟩⟩,g_TURNED:=⟨_,ca X G q_TURNED,⟨_,rfl⟩⟩,g_LETTERS:=⟨_,ca X G q_LETTERS,⟨_,rfl⟩⟩,g_MOST_CLASSES:=⟨_,ca X G q_MOST_CLASSES,⟨_,rfl⟩⟩,t_CLASSES_USED:=⟨_,ca X G q_CLASSES_USED,zi8 l_CLASSES_USED c_CLASSES_USED m_CLASSES_USED⟩,t_SIGNS_USED:=⟨_,ca X G q_SIGNS_USED,zi8 l_SIGNS_USED c_SIGNS_USED m_SIGNS_USED⟩,t_PLACE_IN_PRICES:=⟨_,ca X G q_PLACE_IN_PRICES,zi8 l_PLACE_IN_PRICES c_PLACE_IN_PRICES m_PLACE_IN_PRICES⟩,k_CLASSES_USED:=⟨_,ca X G q_CLASSES_USED,keysK_of l_CLASSES_USED c_CLASSES_USED m_CLASSES_USED h_CLASSES_USED (by decide)⟩,c_Finder:=⟨_,DC_Finder⟩,c_Sight:=⟨_,DC_Sight⟩,d_cells_of:=⟨_,_,D_18⟩,d_price_between:=zaD X G l_31,d_row_across:=zaD X G l_36,d_first_column:=zaD X G l_23,d_further_column:=zaD X G l_25,d_cell_ahead_of_turn:=zaD X G l_17,d_stepped:=zaD X G l_41,d_lowest:=zaD X G l_30,d_row_between:=zaD X G l_37,d_last_step:=zaD X G l_28,d_comes_last:=zaD X G l_19,d_can_stand:=zaD X G l_16,d_is_done:=zaD X G l_27,d_step_price:=zaD X G l_40,d_ends_in:=zaD X G l_21,d_stretch_at:=zaD X G l_42,d_ends_of_many:=zaD X G l_22,d_prices_at_ends:=zaD X G l_32,d_prices_by_length:=zaD X G l_33,d_first_lowest:=zaD X G l_24,d_show_pattern:=zaD X G l_39,d_show_class:=zaD X G l_38,d_read_pattern:=zaD X G l_35,d_end_of_class:=zaD X G l_20,d_read_class:=zaD X G l_34,d_is_class:=zaD X G l_26,d__law_cell:=zaD X G l_7,d__law_digits:=zaD X G l_9,d__law_pool:=zaD X G l_12,d__law_text:=zaD X G l_14,d__law_class:=zaD X G l_8,d__law_pattern:=zaD X G l_11,d__law_prices:=zaD X G l_13,d__law_alike:=zaD X G l_6,d__law_written:=zaD X G l_15,d__law_one:=zaD X G l_10,d_Sight___init__:=⟨_,_,D_3⟩,d_Sight_come:=⟨_,_,D_4⟩,d_Sight_tell:=⟨_,_,D_5⟩,d_Finder___init__:=⟨_,_,D_0⟩,d_Finder_feed:=⟨_,_,D_1⟩,d_Finder_read:=⟨_,_,D_2⟩}
 exact⟨bV "law" "law" (zbI zeW) (zbl zeW) (zad zeW) .none kV_29 dc_29 pm_29 an_29 cd_29 ct_29,λs v=>.of_eq rfl,λbase _ _=>(ok_law T (.of F_29)).imp λ_ _ _ _ h=>sp_law h⟩
def walk{l:iI}{q:aK}{loose:List Str}{XP:(Str->Option af)->aT->Prop}{YP:aO->aT->Prop}{d:DefRec}{K:Params->ag}(hn:l.most=aa 63)(hdf:d.params.defaults=[])
  (hY:∀(w:aO) (h:aT),YP w h->(K w.params).In h)
  (F:∀ (w:aO) (mg:Str->Option af) (fa:ai) (h:aT),(K w.params).In h->h.Ns aV mg->mg d.name=aa (.ref fa) ->
   ∃fd:bF,(∀(s:ah) (u:af),BindsTo s fd ⟨[u],[]⟩ [("_law_script",u)])/\∀base:aT,(K w.params).In base->base.Ns aV mg->FnOk l.prog w (K w.params) mg base CX0 8 fa fd ["_law_script"] (spLaw (K w.params))) :
  kh q loose XP YP l.row.toRowW d [] (λf vs=>jX f vs):=
 L2.walk_of (n:=63) (k:=8) (x:= "_law_script") (CX:=λ_=>CX0) (sp:=λw=>spLaw (K w.params)) hn (by decide) hdf ⟨rfl,by decide,by decide⟩ hY F (λ_ _ a ns hl _ hS=>⟨a,ns,rfl,hS,hl,λ_=>rfl⟩) λ_ _ _ _ _ z=>z
end N63
open PySem PySem.W PyProof.Rows
set_option maxRecDepth 100000 in
set_option maxHeartbeats 0 in
theorem PySem.Challenge.cw_nearfind_k63_whole_from_texts_holds : PySem.Challenge.rw_nearfind_k63_whole_from_texts.Holds := by
 refine holds_law (by kernel_rfl) λsaid=>?_;refine holds_open (q:=TopH.topView) (loose:=TopH.topLoose) (Xt:=λs=>recOk (kH TopH.topRow) s) (XP:=λ_ _=>True) (Yf:=TopH.topHook.obs) (Ya:=TopH.topHook.val) (YP:=TopH.topHook.says) (N:=12000) TopH.topLeft TopH.topHook.of TopH.topHook.keeps (λ_ _=>trivial) (λ_ _ _ _ _=>trivial) (by rfl) (by rfl) (by rfl) (λs e=>recFacts_of e) (by rfl) (by assumption) (by decide +kernel) ⟨rfl,rfl,rfl,rfl,rfl,by decide +kernel⟩ ?hw ?hc
 (case hw=>w_witness2)
 unfold TopH.topHook
 k_fill
 refine N63.walk (l:=PySem.Challenge.rw_nearfind_k63_whole_from_texts) rfl rfl (λw h Y=>PySem.W.kIn_of Y) ?F
 case F=>
  intro w mg fa h KX G hmg;refine' N63.all_mk KX G hmg ..
  all_goals first|k_is|exact⟨_,_,_,_,_,_,_,_,_,_,by k_is,by k_is,by k_is,by k_is⟩|exact⟨_,_,_,rfl,by k_is,rfl⟩|(unfold L2.RowsK;kernel_rfl)|kernel_rfl|skip
#print axioms PySem.Challenge.cw_nearfind_k63_whole_from_texts_holds


