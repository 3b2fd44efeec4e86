import PyProof.Rows.All
import Wide.All
import OpenK.AllK
import Wide.FinOn
import Lean
import PyProof.EqAt
import PyProof.EqKinds
import PyProof.TupleCall
import PyProof.NeKinds
import PyProof.SetNew
import PyProof.SetRoads
import PyProof.Rows.SetFrom
import PyProof.CollectStr
import PyProof.ZipIter
import PyProof.Rows.StrNews2
import PyProof.Rows.StrCut
import PyProof.EnumMake
import PyProof.Draws
import PyProof.ExcBaseAll.ValueError
import PyProof.ExcAttrAll.ValueError
import PySem.Challenge.RW_nearfind_k35_whole_machines_alike
open Array renaming length_toList->dy,eq_empty_of_size_eq_zero->eY,getD_eq_getD_getElem?->fR,toList_push->f9,getElem?_eq_getElem->gj,getElem?_toList->g6,toList->jF
open Bool renaming false_ne_true->aU,false_eq_true->bp,and_eq_true->cV,and_false->dq,eq_iff_iff->dC,and_true->dX,or_false->eF,not_true->eG,or_eq_false_iff->eZ,false_and->fI,or_eq_true->gO,and_eq_false_imp->g9,and_self->ii,or_eq_true_iff->ip,not_eq_true'->iP,eq_false_iff->iU
open Classical renaming propDecidable->j2
open Eq renaming trans->dw
open False renaming elim->bx
open ForInStep renaming yield->eW
open Int renaming emod_nonneg->cv,emod_lt_of_pos->cy,toNat_natCast->c7,natCast_nonneg->eu,eq_ofNat_of_zero_le->eB
open List renaming range->au,mem_cons_of_mem->av,length_map->ax,replicate->aB,mem_cons_self->aC,mem_cons->aF,getElem?_map->aG,map_cons->aH,length_cons->aL,getElem?_eq_some_iff->aO,mem_append_right->aS,nodup_cons->a7,length_append->a9,getElem?_set->bf,getElem?_eq_getElem->bg,getElem?_append_left->bo,size_toArray->bu,not_mem_nil->bw,getElem?_range->bE,append_nil->bF,map_append->bG,nodup_append->bH,mem_of_getElem?->bJ,mem_singleton->bL,lookup_cons->bN,drop_eq_getElem_cons->bQ,lookup->bX,length_range->bY,mem_append->b6,mem_append_left->b9,map_nil->cc,range_succ->cf,zip_cons_cons->cx,length_nil->cD,length_replicate->cE,map_map->cI,range'->cJ,append_assoc->cL,find?_cons_of_pos->cN,find?_cons_of_neg->cO,getElem?_append_right->cR,all_eq_true->cU,mem_map->cY,nil_append->cZ,getElem?_replicate->c9,filterMap_cons->da,zipWith_cons_cons->de,getElem?_eq_none->dg,range_eq_range'->dj,map_congr_left->dz,getElem?_cons_succ->dA,mem_filterMap->dB,length->dF,mem_range->dJ,length_take->dP,length_drop->dQ,ext_getElem->dR,isEmpty_nil->dS,getD_eq_getElem?_getD->dZ,forIn_cons->d5,rel_of_pairwise_cons->d6,getElem?_take_of_lt->d9,zipWith->em,forIn_nil->ey,map_snd_zip->eI,drop_length->eJ,getElem_mem->eK,range'_succ->eL,cons_append->eN,length_singleton->eQ,foldl_cons->eX,length_zip->fq,getElem?_zipIdx->fw,mem_iff_getElem->fD,all_cons->fW,length_eraseIdx_of_lt->fZ,getElem?_eq_none_iff->gh,getLast?_eq_getElem?->gi,getElem_inj->gq,take_length->gz,zipIdx_cons->gD,length_eq_zero_iff->gI,of_mem_zip->gM,range_zero->gP,getElem?_set_self->gR,take_of_length_le->gX,getElem?_set_ne->hU,flatMap_append->iq,take_succ_cons->ir,flatMap_cons->iV,map_fst_zip->i6,getElem_map->i7,mem_filter->jb,zipIdx_nil->ji,drop_zero->jk,sum_cons->js,map->kM
open List.Pairwise renaming of_cons->hG,nil->kF
open List.cons renaming injEq->fC
open Nat renaming le_refl->aA,ne_of_lt->aV,zero_add->bj,lt_of_lt_of_le->bn,le_trans->bK,lt_irrefl->bT,zero_le->cg,lt_succ_self->cG,lt_succ_of_lt->c8,le_succ->dk,testBit_or->dr,testBit_and->dE,testBit_shiftLeft->dM,testBit_two_pow_sub_one->dN,eq_of_testBit_eq->dU,le_of_lt->d7,le_add_right->eM,zero_testBit->eO,ne_of_gt->eS,testBit_two_pow->fH,le_of_eq->gu,or_zero->gY,pow_le_pow_right->ib,lt_of_le_of_lt->iF,add_sub_cancel->iH,min_eq_right->i5,succ_ne_self->i9,not_lt->je,min_eq_left->jf,two_pow_pos->jj,lt_trans->jS,min_self->jV,testBit->ka,mod_lt->kl
open Ne renaming symm->cr
open Option renaming some->ae,none->af,bind_some->bU,bind->cP,map_some->dD,map_eq_some_iff->dH,getD_none->i4,none->j8
open Option.some renaming inj->bc,injEq->gb
open Or renaming inl->aE,inr->bd
open Prod renaming snd->kL
open PyProof.Rows renaming callWith_type1->bV,callWith_builtin1->eT,callWith_kw->jT
open PyProof.Rows.F renaming plain_set_update_loop->eD,entry_set_update_loop->gH
open PySem renaming Value->ag,Addr->ai,wpAny_bind->aj,Shared->am,wpAny_pure->aw,wpAny->ay,mainGlobals->aD,Program->aR,Heap->aW,World->aX,starEach->aY,bootBuiltins->aZ,Around->a8,sizeLine->ba,FuncData->bq,compareOp->bB,wpAny_mono->bI,mem_of_lookup->bM,foldedSetIterable->bW,assignEach->ck,attributeBase->cq,wpAny_holding->cz,sizeLine_eq->cA,wpAny_Call_Name_kw->cH,Within->iy,call->jd,KeyKind->jp
open PySem.Around renaming under_plainId->ce,under->iC
open PySem.AutoSeq1 renaming wpAny_loadPart'->ek
open PySem.Builtin.Builtins renaming bindParams->fP
open PySem.Builtin.Frozenset renaming updateFrom->fK,newClass->jr,addrOf->jX,sizeOf->jY,slot0->j3
open PySem.Builtin.List renaming listExtendWith->fS,listSameRef->gC,listLengthHint->jo,listUpdate->j4,listTouch->j9
open PySem.Builtin.Range renaming rangeSize->jZ
open PySem.Builtin.SmallTypes renaming nextOf->bD,ownedTupleIsFree->cK,ownedTupleHandOut->ei
open PySem.Builtin.Str renaming occurrences->bP,strSliceIndices->cM
open PySem.Builtin.Tuple renaming tupleHashOf->jD
open PySem.Calls renaming Name_function_global->fV,evalArgs_plain->hZ,spliced_cons->iE,spliced_nil->iM
open PySem.Code renaming isFrame->iD,frames->j7
open PySem.Data renaming cell->fN,fields->gT,seq->i0
open PySem.DictEntry renaming refKey->kJ
open PySem.EqMixed renaming eq_bool_str->jw,eq_str_bool->jx,ne_bool_str->jB,ne_str_bool->jC,eq_int_str->jJ,eq_str_int->jL,ne_int_str->jP,ne_str_int->jR
open PySem.EqNone renaming eq_none_none->jt,eq_none_bool->ju,eq_bool_none->jv,ne_none_none->jy,ne_none_bool->jz,ne_bool_none->jA,eq_none_int->jG,eq_none_str->jH,eq_int_none->jI,eq_str_none->jK,ne_none_int->jM,ne_none_str->jN,ne_int_none->jO,ne_str_none->jQ
open PySem.F renaming plain_min_loop->bR,slot_tuple_iterator_next->dh,called_set->dv,entry_min_loop->dG,excBase_ValueError->dY,args_tuple_add_2->ef,entry_tuple_add->ez,slot_tuple_add->eE,slot_dict_get->eR,slot_zip_next->fg,args_tuple_iterator_next_1->fL,entry_tuple_iterator_next->fU,slot_list_append->gw,type_list_append->gy,plainAttrs_list->gG,plainAttrs_dict->gJ,plainAttrs_str->gW,type_dict_get->hJ,plain_list_iadd->iO,args_zip_next_1->iQ,entry_zip_next->i8,plain_set_new->jg,slot_set_iter->jh
open PySem.Heap renaming get?_push_of_some->aq,get?_push_size->az,lt_size->aK,size_push->bC,get?_update_other->ci,get?_update_self->cW,SameBut->du,FlyingW->fB,get?_push_ne->iR,ExtBut->iZ
open PySem.Heap.DictOf renaming new->kR
open PySem.Heap.DictOfH renaming new->kQ
open PySem.Heap.IsList renaming push->kP
open PySem.Heap.IsSliceOf renaming new->kA
open PySem.Heap.IsTuple renaming push->kH
open PySem.Heap.SameBut renaming update->d3
open PySem.Heap.UpToSlots renaming of_keeps->j5
open PySem.IsL renaming update->kK
open PySem.NameKind renaming free->bz,cell->cS
open PySem.Obj renaming mapSeq->eV,putSet->ia,data_mapFields->iG
open PySem.Paired renaming length->ic
open PySem.PassesOwn renaming leaving->kI,never->kS
open PySem.SeqAt renaming EqAt->hW
open PySem.SeqAt.EqAt renaming same->eU,of_refs->fQ,none_int->ik,int_none->im,int_str->iu,str_int->iw,none_bool->kf,bool_none->kg,bool_bool->kh,none_str->km,bool_int->ko,bool_str->kt,int_bool->ku,str_none->kx,str_bool->ky,int_int->kB,str_str->kC
open PySem.SeqAt.RcAt renaming lists_lengths->jW,tuples->kG,lists->kO
open PySem.SetTable renaming below->dL
open PySem.SetTable.below renaming go->iN
open PySem.Shared renaming heap->fM,TypeIs->fY
open PySem.Spec renaming bitNot->cC,bitAnd->gc,ltCps->gF,bitOr->ja
open PySem.Str renaming ofString->bZ,length->hV,empty->iA,join->jU
open PySem.StrLaws renaming strSliceIndices_plain->fF
open PySem.Txt renaming slice_le->gA,join->gB,slice->jn
open PySem.Value renaming ref->bO,str->cw,none->cQ,type->dO,isStrOf->dW,int->eP,bool->gg,isStrOf_shape->ij,isInt_shape->iI,isInt->iW,float->iY,bytes->j6
open PySem.W renaming Frag->ak,keepIn->aI,nsIn->aJ,codeIn->aM,mg_of->aP,fnOf->aQ,findIn->aT,mg_none_of->bS,kia_one->cu,emptyDict->cB,isFn->cF,instObj->cX,plainGet->db,hasDictIn->di,kitOne->dm,plainOver->dI,makesIn->d4,callWith_K->d8,plainGet_of->fG,lookIn->fJ,methodObj->f6,specialIn->f7,takerIn->gL,OpenLaw->gN,binds_K->gQ,cellsFrom_some->gU,methodCall_KW->gZ,mroIn->ig,kitx_list->iJ,kitx_dict->iK,handedIn->i3,takesIn->jc,exmOne->jl,kitAny->jm,WalkO->jq
open PySem.W.Looks renaming here->kz
open PySem.W.RowW renaming records->jE
open PySem.W.WData renaming int->kD
open PySem.W.WShape renaming has->ki
open PySem.Walks renaming list->kj
open PySem.Within renaming cons->kE
open Sum renaming inr->bA,inl->gk
open Sum.inr renaming inj->iX
open True renaming intro->dc
noncomputable section
namespace TopH
open PySem PySem.W PyProof.Rows
local macro_rules | `(tactic| o_head $H)=>`(tactic| (contradiction;exact $H))
set_option maxRecDepth 100000
set_option maxHeartbeats 0 in
noncomputable def topHook:Hook:=by
 refine(fun(_:False->PySem.Challenge.rw_nearfind_k35_whole_machines_alike.row.Holds)=>?H) ?g
 rotate_left
 intro _
 k_head
abbrev topProg:aR:=PySem.Challenge.pw_nearfind_k35_whole_machines_alike
noncomputable def topView:aR:=view topProg [48]
noncomputable def topLoose:List Str:=["PUT","LEFT","EXCHANGED","TURNED","cells_of","row_across","first_column","further_column","cell_ahead_of_turn","stepped","lowest","FindError","NoPrices","TooMany","LETTERS","MOST_ROOMS","rooms_for","ends_by_rooms","numbers_met","low_cells","columns_behind","Sight","ends_in","prices_at_ends","Bits","fitting_bits","first_rows","further_rows","slips_of_whole","bits_up_to","Finder","_law_cell","_law_digits","_law_pool","_law_text","_law_class","_law_pattern","_law_alike","_law_pieces","_law_rooms","_law_fed"].map bZ
abbrev topRow:RowW:=OpenRow.toRowW (OpenLaw.row PySem.Challenge.rw_nearfind_k35_whole_machines_alike)
abbrev topAt(w:aX):Prop:=(openEnds treeTable topProg w 12000).map (fun s=>(openSeen topView topLoose (importedModules topProg.main.body) (fun s=>recOk (jE topRow) s) true s,topHook.obs s))=ae (openGood topView topLoose,topHook.val w)
theorem topLeft(w:aX):topAt w:=by kernel_rfl
end TopH
set_option Elab.async false
set_option linter.all false
set_option maxRecDepth 100000
namespace L2
open PySem PySem.Spec PyProof.Rows
abbrev Key:=Sum Int Str
def keyIs:Key->ag->Bool
 | .inl k,v=>iW k v
 | .inr x,v=>dW x v
def keyH(w:aX):Key->Int
 | .inl k=>hashInt k
 | .inr x=>hashStr w x
theorem zbE:∀ {k:Key} {v:ag},keyIs k v=true->(∃ i t,k=gk i/\v=eP i t) \/ (∃ x t,k=bA x/\v=cw x t)
 | .inl i,v,h=>by
  obtain⟨t,e⟩:=iI (k:=i) (v:=v) h
  exact .inl ⟨i,t,rfl,e⟩
 | .inr x,v,h=>by
  obtain⟨t,e⟩:=ij (x:=x) (v:=v) h
  exact .inr ⟨x,t,rfl,e⟩
theorem key_ll(a b:Int):decide ((gk a:Key)=gk b)=(a == b):=by
 by_cases e:a=b
 ·subst e;simp
 ·have h:¬ (gk a:Key)=gk b:=fun q=>e (Sum.inl.inj q)
  rw[decide_eq_false h]
  exact(beq_eq_false_iff_ne.mpr e).symm
theorem key_rr(a b:Str):decide ((bA a:Key)=bA b)=decide (a=b):=by
 by_cases e:a=b
 ·subst e;simp
 ·have h:¬ (bA a:Key)=bA b:=fun q=>e (iX q)
  rw[decide_eq_false h,decide_eq_false e]
theorem key_lr(a:Int)(b:Str):decide ((gk a:Key)=bA b)=false:=decide_eq_false (fun q=>nomatch q)
theorem key_rl(a:Str)(b:Int):decide ((bA a:Key)=gk b)=false:=decide_eq_false (fun q=>nomatch q)
def zg0(prog:aR)(w:aX):jp prog w Key where
 is:=keyIs
 hash:=keyH w
 inj:=fun v a b ha hb=>by
  rcases zbE ha with ⟨i,t,rfl,rfl⟩ | ⟨x,t,rfl,rfl⟩
  ·rcases zbE hb with ⟨j,u,rfl,e⟩ | ⟨y,u,rfl,e⟩
   ·injection e with e1 _;rw[e1]
   ·exact nomatch e
  ·rcases zbE hb with ⟨j,u,rfl,e⟩ | ⟨y,u,rfl,e⟩
   ·exact nomatch e
   ·injection e with e1 _;rw[e1]
 byValue:=fun k v h=>by
  rcases zbE h with ⟨i,t,rfl,rfl⟩ | ⟨x,t,rfl,rfl⟩ <;> rfl
 pyHash:=fun hv h=>by
  rcases zbE hv with ⟨i,t,rfl,rfl⟩ | ⟨x,t,rfl,rfl⟩
  ·exact wpAny_pyHash_int h
  ·exact wpAny_pyHash_str h
 eqBool:=fun hu hv h=>by
  rcases zbE hu with ⟨i,t,rfl,rfl⟩ | ⟨x,t,rfl,rfl⟩
  ·rcases zbE hv with ⟨j,u,rfl,rfl⟩ | ⟨y,u,rfl,rfl⟩
   ·rw[key_ll] at h;exact wpAny_eqBool_int h
   ·rw[key_lr] at h;exact iu i t y u _ _ _ _ h
  ·rcases zbE hv with ⟨j,u,rfl,rfl⟩ | ⟨y,u,rfl,rfl⟩
   ·rw[key_rl] at h;exact iw x t j u _ _ _ _ h
   ·rw[key_rr] at h;exact wpAny_eqBool_str h
 «strs» :=fun k x t v h=>by
  rcases zbE h with ⟨i,u,rfl,e⟩ | ⟨y,u,rfl,e⟩
  ·exact nomatch e
  ·injection e with e1 _
   subst e1
   cases v <;> rfl
end L2
namespace L2
open PySem PySem.Spec PyProof.Rows
inductive V where
 | non | bl (b:Bool) | int (i:Int) | str (x:Str) | byt (b:Array UInt8) | flt (b:UInt64) | ref (a:ai) | ty (n:String)
 deriving DecidableEq
def RelV:V->ag->Prop
 | .non,u=>u=cQ
 | .bl b,u=>u=gg b
 | .int i,u=>∃ t,u=eP i t
 | .str x,u=>∃ t,u=cw x t
 | .byt b,u=>∃ t,u=j6 b t
 | .flt b,u=>∃ t,u=iY b t
 | .ref a,u=>u=bO a
 | .ty n,u=>u=dO n
abbrev Vals:List V->List ag->Prop:=Paired RelV
theorem Vals.length{xs:List V}{us:List ag}(r:Vals xs us):xs.length=us.length:=ic r
theorem Vals.get:∀ {xs:List V} {us:List ag} {i:Nat} {x:V},Vals xs us->xs[i]? = ae x->∃ u,us[i]? = ae u/\RelV x u
 | _,_,_,_,.nil,e=>by simp at e
 | _,_,0,_,.cons r _,e=>by simp at e;subst e;exact⟨_,rfl,r⟩
 | _,_,i+1,x,.cons _ t,e=>by
  obtain⟨u,h1,h2⟩:=Vals.get (i:=i) (x:=x) t (by simpa using e)
  exact⟨u,by simpa using h1,h2⟩
theorem Vals.append:∀ {xs ys:List V} {us ws:List ag},Vals xs us->Vals ys ws->Vals (xs ++ ys) (us ++ ws)
 | _,_,_,_,.nil,s=>s
 | _,_,_,_,.cons r t,s=>.cons r (Vals.append t s)
theorem Vals.take:∀ {xs:List V} {us:List ag} (n:Nat),Vals xs us->Vals (xs.take n) (us.take n)
 | _,_,0,_=>.nil
 | _,_,_+1,.nil=>.nil
 | _,_,n+1,.cons r t=>.cons r (Vals.take n t)
theorem Vals.drop:∀ {xs:List V} {us:List ag} (n:Nat),Vals xs us->Vals (xs.drop n) (us.drop n)
 | _,_,0,r=>r
 | _,_,_+1,.nil=>.nil
 | _,_,n+1,.cons _ t=>Vals.drop n t
theorem Vals.none_of:∀ {xs:List V} {us:List ag} {i:Nat},Vals xs us->xs[i]? = af->us[i]? = af:=fun {xs us i} r e=>by
 have h1:=r.length
 have h2:xs.length<=i:=gh.mp e
 exact gh.mpr (by lia)
def RelO:Option V->Option ag->Prop
 | some v,ae u=>RelV v u
 | none,af=>True
 | _,_=>False
def KV{κ:Type}:List (κ × V)->List (κ × ag)->Prop:=Paired fun(p:κ × V) (q:κ × ag)=>p.1=q.1/\RelV p.2 q.2
def kV:Key->V
 | .inl i=>.int i
 | .inr x=>.str x
inductive HO where
  | lst (xs:List V)
  | tup (xs:List V)
  | dK (kvs:List (Key × V)) | dT (kvs:List (List Key × V))
  | set (S:Int->Bool) (n:Nat)
  | ins (C dx:ai) (fs:List (Str × V))
  | own (x:ai)
  | xd (fs:List (Str × V))
  | met (f x:ai)
  | rng (lo hi:Int)
  | frz (o:Obj) (u:HO)
  | tbl (ps:Array ag)
  | ext (φ:aW->Prop)
abbrev Hp:=ai->Option HO
def upd(H:Hp)(a:ai)(o:HO):Hp:=fun b=>if b=a then ae o else H b
theorem zai{H:Hp}{a:ai}{o:HO}:upd H a o a=ae o:=by unfold upd;rw[if_pos rfl]
theorem zaj{H:Hp}{a b:ai}{o:HO}(h:b ≠ a):upd H a o b=H b:=by unfold upd;rw[if_neg h]
theorem zaA{H:Hp}{a b:ai}{o:HO}(h:H a=ae o)(h':H b=af):a ≠ b:=by
 intro e;subst e;rw[h] at h';cases h'
section
variable (P:aR)(w:aX)
def TupN(h:aW)(a:ai)(ts:Array ag):Prop:=∃ o,h.get? a=ae o/\o.cls=.type "tuple" /\ ∃ n,(o.data,o.dict)=(i0 ts n,af)
theorem TupN.is{h:aW}{a:ai}{ts:Array ag}(x:TupN h a ts):IsTup h a ts:=let⟨o,e,c,n,d⟩:=x;⟨o,e,c,n,(Prod.mk.inj d).1⟩
theorem TupN.lt{h:aW}{a:ai}{ts:Array ag}(x:TupN h a ts):a<h.objs.size:=x.is.lt
theorem TupN.new(h:aW)(ts:Array ag):TupN (h.push { cls:=.type "tuple",data:=.seq ts}) h.objs.size ts:=⟨_,az _ rfl,rfl,0,rfl⟩
instance {h:aW}{a:ai}{ts:Array ag}:Coe (TupN h a ts) (IsTup h a ts):=⟨TupN.is⟩
def ObjOk(H:Hp)(h:aW)(a:ai):HO->Prop
 | .lst xs=>xs.length<=ba/\∃ (its:List ag) (n:Nat),Vals xs its/\h.get? a=ae { cls:=.type "list",data:=.seq its.toArray n}
 | .tup xs=>xs.length<=ba/\∃ its:List ag,Vals xs its/\TupN h a its.toArray
 | .dK kvs=>kvs.length<=ba/\(a == sysModules)=false/\∃ vs,KV kvs vs/\h.DictOf (zg0 P w) a vs
 | .dT kvs=>kvs.length<=ba/\(a == sysModules)=false/\∃ xs:List (List Key × ai × ag),
   Paired (fun(p:List Key × V) (q:List Key × ai × ag)=>p.1=q.1/\H q.2.1=ae (.tup (p.1.map kV))/\RelV p.2 q.2.2) kvs xs /\
   ∃ o es ep,h.get? a=ae o/\o.ExactDict/\o.data=.dict es ep/\es.toList=xs.map (entryOfKey (tupleKind (zg0 P w)))/\(xs.map (·.1)).Nodup
 | .set S n=>h.SetOf (intKind P w) a S n
 | .ins C dx fs=>H dx=ae (.own a)/\fs.length<=1000/\dx ≠ a/\h.get? a=ae (cX C dx) /\
   ∃ mA,h.Ns1 dx mA/\(∀ f,RelO (fs.lookup f) (mA f))/\iy mA (fs.map (·.1))
 | .own _=>∃ o,h.get? a=ae o
 | .xd fs=>∃ mA,h.Ns1 a mA/\∀ f,RelO (fs.lookup f) (mA f)
 | .rng lo hi=>∃ t u v,h.get? a=ae { cls:=.type "range",data:=.fields #[.int lo t,.int hi u,.int 1 v]}
 | .frz o u=>h.get? a=ae o/\ObjOk H h a u
 | .tbl ps=>h.get? a=ae { cls:=.none,data:=.fields ps}
 | .met f x=>h.get? a=ae (f6 (.ref f) (.ref x))
 | .ext φ=>φ h/\(∃ o,h.get? a=ae o)/\∀ h1 h2:aW,φ h1->(∀ o,h1.get? a=ae o->h2.get? a=ae o)->φ h2
def HOk(H:Hp)(h:aW):Prop:=∀ a o,H a=ae o->ObjOk P w H h a o
end
section
variable {P:aR}{w:aX}{H H':Hp}{h h':aW}{a:ai}{o:HO}
theorem ObjOk.lt(x:ObjOk P w H h a o):a<h.objs.size:=by
 cases o with
 | lst xs=>obtain⟨_,_,_,_,e⟩:=x;exact aK e
 | tup xs=>obtain⟨_,_,_,p⟩:=x;exact p.lt
 | dK kvs=>obtain⟨_,_,_,_,o,_,_,e,_⟩:=x;exact aK e
 | dT kvs=>obtain⟨_,_,_,_,o,_,_,e,_⟩:=x;exact aK e
 | set S n=>obtain⟨o,_,_,_,e,_⟩:=x;exact aK e
 | ins C dx fs=>obtain⟨_,_,_,e,_⟩:=x;exact aK e
 | own y=>obtain⟨_,e⟩:=x;exact aK e
 | xd fs=>obtain⟨_,⟨_,_,_,e,_⟩,_⟩:=x;exact aK e
 | rng lo hi=>obtain⟨_,_,_,e⟩:=x;exact aK e
 | frz ob u=>obtain⟨e,_⟩:=x;exact aK e
 | tbl ps=>exact aK (show h.get? a=ae _ from x)
 | met f y=>exact aK (show h.get? a=ae _ from x)
 | ext φ=>obtain⟨_,⟨_,e⟩,_⟩:=x;exact aK e
theorem Paired.mapP{α β:Type}{F G:α->β->Prop}:∀ {l₁:List α} {l₂:List β},Paired F l₁ l₂->(∀ a b,F a b->G a b)->Paired G l₁ l₂
 | _,_,.nil,_=>.nil
 | _,_,.cons r t,f=>.cons (f _ _ r) (Paired.mapP t f)
theorem ObjOk.stay(x:ObjOk P w H h a o)(k:∀ b u,(b=a \/ H b=ae (.own a))->h.get? b=ae u->h'.get? b=ae u)
  (ho:∀ b,H b=ae (.own a)->H' b=ae (.own a)) (ht:∀ b xs,H b=ae (.tup xs)->H' b=ae (.tup xs)):ObjOk P w H' h' a o:=by
 induction o with
 | lst xs=>obtain⟨z,its,n,r,e⟩:=x;exact⟨z,its,n,r,k _ _ (.inl rfl) e⟩
 | tup xs=>obtain⟨z,its,r,ob,e,c⟩:=x;exact⟨z,its,r,ob,k _ _ (.inl rfl) e,c⟩
 | dK kvs=>obtain⟨z,y,vs,r,ob,es,ep,e,c⟩:=x;exact⟨z,y,vs,r,ob,es,ep,k _ _ (.inl rfl) e,c⟩
 | dT kvs=>
  obtain⟨z,y,xs,r,ob,es,ep,e,c⟩:=x
  exact⟨z,y,xs,Paired.mapP r fun p q z=>⟨z.1,ht _ _ z.2.1,z.2.2⟩,ob,es,ep,k _ _ (.inl rfl) e,c⟩
 | set S n=>obtain⟨ob,es,ep,t,e,c⟩:=x;exact⟨ob,es,ep,t,k _ _ (.inl rfl) e,c⟩
 | ins C dx fs=>
  obtain⟨d,z,ne,e,mA,⟨od,es,ep,e2,c⟩,r⟩:=x
  exact⟨ho _ d,z,ne,k _ _ (.inl rfl) e,mA,⟨od,es,ep,k _ _ (.inr d) e2,c⟩,r⟩
 | own y=>obtain⟨ob,e⟩:=x;exact⟨ob,k _ _ (.inl rfl) e⟩
 | xd fs=>obtain⟨mA,⟨od,es,ep,e,c⟩,r⟩:=x;exact⟨mA,⟨od,es,ep,k _ _ (.inl rfl) e,c⟩,r⟩
 | rng lo hi=>obtain⟨t,u,v,e⟩:=x;exact⟨t,u,v,k _ _ (.inl rfl) e⟩
 | frz ob u ih=>obtain⟨e,q⟩:=x;exact⟨k _ _ (.inl rfl) e,ih q⟩
 | tbl ps=>
  have e:h.get? a=ae { cls:=.none,data:=.fields ps}:=x
  show h'.get? a=ae { cls:=.none,data:=.fields ps}
  exact k a _ (.inl rfl) e
 | met f y=>
  have e:h.get? a=ae (f6 (.ref f) (.ref y)):=x
  show h'.get? a=ae (f6 (.ref f) (.ref y))
  exact k a _ (.inl rfl) e
 | ext φ=>obtain⟨p,⟨o,e⟩,st⟩:=x;exact⟨st _ _ p fun o q=>k _ _ (.inl rfl) q,⟨o,k _ _ (.inl rfl) e⟩,st⟩
theorem HOk.lt(x:HOk P w H h)(e:H a=ae o):a<h.objs.size:=(x a o e).lt
theorem HOk.fresh(x:HOk P w H h)(e:h.objs.size<=a):H a=af:=by
 cases q:H a with
 | none=>rfl
 | some u=>exact absurd (bn (x.lt q) e) (bT _)
theorem HOk.kept(x:HOk P w H h)(k:∀ b u,h.get? b=ae u->h'.get? b=ae u):HOk P w H h':=fun a o e=>
 (x a o e).stay (fun b u _ q=>k b u q) (fun _ q=>q) fun _ _ q=>q
theorem HOk.laid(x:HOk P w H h)(k:∀ b u,h.get? b=ae u->h'.get? b=ae u)(hp:h.objs.size<=a)(new:ObjOk P w (upd H a o) h' a o):HOk P w (upd H a o) h':=fun b u e=>by
 have hn:=x.fresh hp
 by_cases hb:b=a
 ·subst hb;rw[zai] at e;cases e;exact new
 ·rw[zaj hb] at e
  exact(x b u e).stay (fun c v _ q=>k c v q) (fun c q=>by rw[zaj (zaA q hn)];exact q) fun c xs q=>by rw[zaj (zaA q hn)];exact q
end
def Rd(H:Hp)(a:ai)(u:HO):Prop:=H a=ae u \/ ∃ o,H a=ae (.frz o u)
theorem Rd.of{H:Hp}{a:ai}{u:HO}(h:H a=ae u):Rd H a u:=.inl h
theorem Rd.ok{P:aR}{w:aX}{H:Hp}{h:aW}{a:ai}{u:HO}(r:Rd H a u)(x:HOk P w H h):ObjOk P w H h a u:=by
 rcases r with r | ⟨o,r⟩
 ·exact x a u r
 ·obtain⟨_,q⟩:=x a _ r
  exact q
def Mut:Option HO->Prop
 | some (.lst _)=>True
 | some (.dK _)=>True
 | some (.dT _)=>True
 | some (.set _ _)=>True
 | some (.ins _ _ _)=>True
 | some (.ext _)=>True
 | _=>False
section
variable {P:aR}{w:aX}{H:Hp}{h h':aW}{x e:ai}{o':HO}
theorem HOk.write(ok:HOk P w H h)(mu:Mut (H x))(he:e=x \/ H e=ae (.own x))(k:∀ b u,b ≠ e->h.get? b=ae u->h'.get? b=ae u)(heo:∃ u,h'.get? e=ae u)
  (new:ObjOk P w (upd H x o') h' x o'):HOk P w (upd H x o') h':=fun b u q=>by
 have nown:∀ c y,H c=ae (.own y)->c ≠ x:=fun c y r z=>by subst z;rw[r] at mu;exact mu
 have ntup:∀ c xs,H c=ae (.tup xs)->c ≠ x:=fun c xs r z=>by subst z;rw[r] at mu;exact mu
 by_cases hb:b=x
 ·subst hb;rw[zai] at q;cases q;exact new
 ·rw[zaj hb] at q
  by_cases hbe:b=e
  ·have q':H b=ae (.own x):=by
    rcases he with z | z
    ·exact absurd (hbe.trans z) hb
    ·rw[hbe];exact z
   rw[q] at q';cases q'
   obtain⟨v,hv⟩:=heo
   exact⟨v,by rw[hbe];exact hv⟩
  ·refine(ok b u q).stay (fun c v hc r=>k c v ?_ r) (fun c r=>by rw[zaj (nown c b r)];exact r) fun c xs r=>by rw[zaj (ntup c xs r)];exact r
   rcases hc with rfl | hc
   ·exact hbe
   ·rintro rfl
    rcases he with z | z
    ·exact nown c b hc z
    ·rw[hc] at z;cases z;exact hb rfl
end
structure Un(fs ex:List ai)(H H':Hp)(h h':aW):Prop where
 keep:∀ b o,h.get? b=ae o->H b=af->b ∉ fs->b ∉ ex->h'.get? b=ae o
 slot:∀ b o,h.get? b=ae o->H b=af->b ∈ fs->b ∉ ex->∃ sl,h'.get? b=ae { o with slots:=sl}
 free:∀ b o,h.get? b=ae o->H b=af->b ∉ ex->H' b=af
 there:∀ b o,h.get? b=ae o->b ∉ ex->∃ o',h'.get? b=ae o'
 tups:∀ b xs,H b=ae (.tup xs)->H' b=ae (.tup xs)
 frzs:∀ b o u,H b=ae (.frz o u)->H' b=ae (.frz o u)
 tbls:∀ b ps,H b=ae (.tbl ps)->∃ more,H' b=ae (.tbl (ps ++ more))
section
variable {fs fs' ex ex':List ai}{H H1 H2:Hp}{h h1 h2 h':aW}{a x e:ai}{o:HO}
theorem Un.any(u:Un fs ex H H1 h h1){b:ai}{ob:Obj}(q:h.get? b=ae ob)(n:H b=af)(hx:b ∉ ex):∃ sl,h1.get? b=ae { ob with slots:=sl}:=by
 by_cases hb:b ∈ fs
 ·exact u.slot b ob q n hb hx
 ·exact⟨ob.slots,u.keep b ob q n hb hx⟩
theorem Un.kept(k:∀ b u,h.get? b=ae u->h'.get? b=ae u):Un fs ex H H h h':=
 ⟨fun b ob q _ _ _=>k b ob q,fun b ob q _ _ _=>⟨ob.slots,k b ob q⟩,fun _ _ _ n _=>n,fun b ob q _=>⟨ob,k b ob q⟩,fun _ _ q=>q,fun _ _ _ q=>q,fun _ ps q=>⟨#[],by rw[q];simp⟩⟩
theorem Un.refl:Un fs ex H H h h:=Un.kept fun _ _ q=>q
theorem Un.laid(k:∀ b u,h.get? b=ae u->h'.get? b=ae u)(hp:h.objs.size<=a)(hn:H a=af):Un fs ex H (upd H a o) h h' where
 keep:=fun b u q _ _ _=>k b u q
 slot:=fun b u q _ _ _=>⟨u.slots,k b u q⟩
 free:=fun b u q n _=>by rw[zaj (aV (bn (aK q) hp))];exact n
 there:=fun b u q _=>⟨u,k b u q⟩
 tups:=fun b xs q=>by rw[zaj (zaA q hn)];exact q
 frzs:=fun b u xs q=>by rw[zaj (zaA q hn)];exact q
 tbls:=fun b ps q=>⟨#[],by rw[zaj (zaA q hn),q];simp⟩
theorem Un.write(mu:Mut (H x))(he:e=x \/ H e=ae (.own x))(k:∀ b u,b ≠ e->h.get? b=ae u->h'.get? b=ae u)(heo:∃ u,h'.get? e=ae u):Un fs ex H (upd H x o) h h':=by
 have hx:∀ b,H b=af->b ≠ x:=fun b n z=>by subst z;rw[n] at mu;exact mu
 have hb:∀ b,H b=af->b ≠ e:=fun b n z=>by
  subst z
  rcases he with r | r
  ·exact hx b n r
  ·rw[n] at r;cases r
 have hm:∀ b u,H b=ae u->¬ Mut (ae u)->b ≠ x:=fun b u q nm z=>by subst z;rw[q] at mu;exact nm mu
 refine⟨fun b u q n _ _=>k b u (hb b n) q,fun b u q n _ _=>⟨u.slots,k b u (hb b n) q⟩,fun b u q n _=>by rw[zaj (hx b n)];exact n,fun b u q _=>?_,
  fun b xs q=>by rw[zaj (hm b _ q fun z=>z)];exact q,fun b u xs q=>by rw[zaj (hm b _ q fun z=>z)];exact q,fun b ps q=>⟨#[],by rw[zaj (hm b _ q fun z=>z),q];simp⟩⟩
 by_cases hbe:b=e
 ·subst hbe;exact heo
 ·exact⟨u,k b u hbe q⟩
end
def trk(h:aW)(H:Hp):List ai:=(au h.objs.size).filter fun a=>(H a).isSome
def hidT(h:aW)(H:Hp):aW:=PySem.W.hideAll h (trk h H)
theorem hidT_size(h:aW)(H:Hp):(hidT h H).objs.size=h.objs.size:=PySem.W.hideAll_size _ _
theorem hidT_get{h:aW}{H:Hp}{b:ai}{o:Obj}(e:h.get? b=ae o)(n:H b=af):(hidT h H).get? b=ae o:=
 PySem.W.hideAll_get _ e fun hm=>by
  have q:(H b).isSome=true:=(jb.mp hm).2
  rw[n] at q;simp at q
theorem of_hidT{h:aW}{H:Hp}{b:ai}{o:Obj}(e:(hidT h H).get? b=ae o):h.get? b=ae o/\H b=af:=by
 have e':h.get? b=ae o:=PySem.W.of_hideAll (trk h H) e
 refine⟨e',?_⟩
 cases q:H b with
 | none=>rfl
 | some x=>
  have hm:b ∈ trk h H:=jb.mpr ⟨dJ.mpr (aK e'),by simp[q]⟩
  have z:(hidT h H).get? b=af:=PySem.W.hideAll_none (trk h H) hm
  rw[z] at e;cases e
def allNews(g h:aW)(L:ai):List (ai × Obj):=(au h.objs.size).filterMap fun a=>if a=L \/ (g.get? a).isSome=true then af else (h.get? a).map fun o=>(a,o)
def rest(g h:aW)(L d:ai):List (ai × Obj):=(allNews g h L).filter fun p=>decide (p.1 ≠ d)
end L2
namespace L2
open PySem PySem.Spec PyProof.Rows
structure Mod(K:ak)(mg:Str->Option ag)(base:aW):Prop where
 kin:K.In base
 glob:base.Ns aD mg
 blt:∃ mb,base.Ns builtinsNs mb/\∀ x:Str,x ≠ "__name__" -> mb x=aZ x
 nolimit:base.NoLimit
structure Cx where
 prog:aR
 w:aX
 K:ak
 mg:Str->Option ag
 base:aW
 A:a8
 N:List Str
 s₀:am
 H₀:Hp
 env:Env
 outer:List Env
 stack:List Env
 ex:List ai
 fn:Str->Bool
 calm:Bool
 pn:List (ai × Obj)
 xe:ag->am->Prop
def frs(l:List Env):List ai:=l.filterMap (·.frame)
abbrev Cx.fs(X:Cx):List ai:=frs X.outer
def Vis(sc:Scope)(x:Str):Prop:=sc.names.lookup x=ae .local \/ sc.names.lookup x=ae .cell \/ sc.names.lookup x=ae .free
def Loc(sc:Scope)(x:Str):Prop:=sc.names.lookup x=ae .local \/ sc.names.lookup x=ae .cell
def Look(env:Env)(h:aW)(m:Str->Option ag)(x:Str)(u:ag):Prop:=
 (env.kindOf x=ae .local/\m x=ae u) \/ ((env.kindOf x=ae .cell \/ env.kindOf x=ae .free)/\∃ c,env.cells.lookup x=ae c/\h.IsCell c (ae u))
structure Cx.Ok(X:Cx):Prop where
 mod:Mod X.K X.mg X.base
 kind:X.env.scope.kind=.function
 glob:X.env.globals=aD
 blt:X.env.builtins=builtinsNs
 above:X.s₀.heap.objs.size<=X.env.locals
 inj:∀ x y c,X.env.cells.lookup x=ae c->X.env.cells.lookup y=ae c->x=y
 has:∀ x,(X.env.kindOf x=ae .cell \/ X.env.kindOf x=ae .free)->∃ c,X.env.cells.lookup x=ae c
 cab:∀ x c,X.fn x=true->X.env.cells.lookup x=ae c->X.s₀.heap.objs.size<=c
 hd:X.calm=true->X.A.handled=af
 frames:X.A.frames=ae X.stack
 stk:X.stack=X.outer \/ (X.stack=X.env :: X.outer/\X.env.frame=ae X.env.locals)
 exf:∀ b ∈ X.ex,b ≠ X.env.locals/\∀ x c,X.env.cells.lookup x=ae c->c ≠ b
 bs:∀ b o,X.base.get? b=ae o->X.s₀.heap.get? b=ae o/\X.H₀ b=af
 bsz:X.base.objs.size<=X.s₀.heap.objs.size
 noex:∀ b o,X.base.get? b=ae o->b ∉ X.ex
 exfs:∀ b ∈ X.ex,b ∉ X.fs
 funs:X.s₀.heap.FunFrames X.base X.outer
 frf:∀ b ∈ X.fs,X.H₀ b=af
structure Inv(X:Cx)(pins:List (ai × Obj))(σ:List (Option V))(H:Hp)(s:am):Prop where
 ok:X.Ok
 os:s.os=X.s₀.os
 bare:AllBare s.gens
 base:Un X.fs X.ex X.H₀ H X.s₀.heap s.heap
 loc:∃ m,s.heap.Ns X.env.locals m/\∀ (i:Nat) (x:Str) (v:V),X.N[i]? = ae x->σ[i]? = ae (ae v)->Vis X.env.scope x->∃ u,RelV v u/\Look X.env s.heap m x u
 cell:∀ x c,X.env.cells.lookup x=ae c->∃ v,s.heap.IsCell c v
 free:H X.env.locals=af
 freeC:∀ x c,X.env.cells.lookup x=ae c->H c=af
 pin:∀ p ∈ X.pn ++ pins,s.heap.get? p.1=ae p.2/\H p.1=af/\p.1 ≠ X.env.locals/\p.1 ∉ X.fs/\∀ v,p.2.data ≠ .cell v
 hok:HOk X.prog X.w H s.heap
 len:σ.length=X.N.length
section
variable {X:Cx}{pins:List (ai × Obj)}{σ:List (Option V)}{H H':Hp}{s:am}{h':aW}
theorem Cx.Ok.nofr(ok:X.Ok){b:ai}{o:Obj}(e:X.base.get? b=ae o):b ∉ X.fs:=fun hb=>by
 have:=(ok.funs.mem hb).1
 rw[e] at this;cases this
theorem Inv.bs(I:Inv X pins σ H s):∀ b o,X.base.get? b=ae o->s.heap.get? b=ae o/\H b=af:=fun b o e=>
 ⟨I.base.keep b o (I.ok.bs b o e).1 (I.ok.bs b o e).2 (I.ok.nofr e) (I.ok.noex b o e),I.base.free b o (I.ok.bs b o e).1 (I.ok.bs b o e).2 (I.ok.noex b o e)⟩
theorem Inv.bk(I:Inv X pins σ H s):∀ b o,X.base.get? b=ae o->s.heap.get? b=ae o:=fun b o e=>(I.bs b o e).1
theorem Inv.mod(I:Inv X pins σ H s):Mod X.K X.mg X.base:=I.ok.mod
theorem Inv.kIn(I:Inv X pins σ H s):X.K.In s.heap:=I.ok.mod.kin.keeps I.bk
theorem Inv.lt(I:Inv X pins σ H s):X.env.locals<s.heap.objs.size:=let⟨_,hn,_⟩:=I.loc;hn.lt
theorem Inv.sz(I:Inv X pins σ H s):X.s₀.heap.objs.size<=s.heap.objs.size:=bK I.ok.above (d7 I.lt)
theorem Inv.nofs(I:Inv X pins σ H s){a:ai}(h:s.heap.objs.size<=a):a ∉ X.fs:=fun hb=>by
 obtain⟨_,o,ho,_⟩:=I.ok.funs.mem hb
 exact absurd (bn (aK ho) (bK I.sz h)) (bT _)
theorem Inv.cne(I:Inv X pins σ H s):∀ x c,X.env.cells.lookup x=ae c->c ≠ X.env.locals:=fun x c e z=>by
 obtain⟨v,o,ho,hd⟩:=I.cell x c e
 obtain⟨m,⟨o',es,ep,ho',hd',_⟩,_⟩:=I.loc
 rw[z,ho'] at ho;cases ho;rw[hd'] at hd;cases hd
theorem Inv.funs(I:Inv X pins σ H s):s.heap.FunFrames X.base X.outer:=by
 have all:∀ (l:List Env),(∀ b ∈ frs l,b ∈ X.fs)->X.s₀.heap.FunFrames X.base l->s.heap.FunFrames X.base l:=by
  intro l
  induction l with
  | nil=>intro _ _;trivial
  | cons env r ih=>
   intro hs hl
   obtain⟨hk,⟨L,o,hf,hn,ho,hd⟩,hr⟩:=hl
   have hL:L ∈ X.fs:=hs L (by unfold frs;rw[da,hf];exact aC)
   obtain⟨sl,e⟩:=I.base.slot L o ho (I.ok.frf L hL) hL fun z=>I.ok.exfs L z hL
   exact⟨hk,⟨L,_,hf,hn,e,hd⟩,ih (fun b hb=>hs b (by unfold frs;rw[da,hf];exact av _ hb)) hr⟩
 exact all X.outer (fun _ hb=>hb) I.ok.funs
theorem Inv.stack(I:Inv X pins σ H s):s.heap.FunFrames X.base X.stack:=by
 rcases I.ok.stk with e | ⟨e,hf⟩
 ·rw[e];exact I.funs
 ·rw[e]
  obtain⟨m,hn,_⟩:=I.loc
  refine .cons (by rw[I.ok.kind];decide) hf hn ?_ I.funs
  exact Heap.get?_none_of_le (bK I.ok.bsz I.ok.above)
theorem Inv.stkSub(I:Inv X pins σ H s):∀ b ∈ frs X.stack,b ∈ X.env.locals :: X.fs:=fun b hb=>by
 rcases I.ok.stk with e | ⟨e,hf⟩
 ·rw[e] at hb;exact av _ hb
 ·rw[e] at hb
  unfold frs at hb
  rw[da,hf] at hb
  exact hb
theorem Inv.stkFree(I:Inv X pins σ H s):∀ b ∈ frs X.stack,H b=af:=fun b hb=>by
 rcases aF.mp (I.stkSub b hb) with e | hb
 ·rw[e];exact I.free
 ·obtain⟨_,o,ho,_⟩:=I.ok.funs.mem hb
  exact I.base.free b o ho (I.ok.frf b hb) fun z=>I.ok.exfs b z hb
theorem Inv.step{g':Array GenState}{t':Nat}{d':Drawn}{ch:List ai}(I:Inv X pins σ H s)
  (hch:∀ b ∈ ch,(b ∈ X.ex \/ X.s₀.heap.objs.size<=b)/\b ≠ X.env.locals/\(∀ x c,X.env.cells.lookup x=ae c->c ≠ b)/\∀ p ∈ X.pn ++ pins,p.1 ≠ b)
  (keep:∀ b o,b ≠ X.env.locals->b ∉ X.fs->b ∉ ch->s.heap.get? b=ae o->H b=af->h'.get? b=ae o)
  (slot:∀ b o,b ≠ X.env.locals->b ∈ X.fs->b ∉ ch->s.heap.get? b=ae o->H b=af->∃ sl,h'.get? b=ae { o with slots:=sl}) (free:∀ b o,b ∉ ch->s.heap.get? b=ae o->H b=af->H' b=af)
  (there:∀ b o,b ∉ ch->s.heap.get? b=ae o->∃ o',h'.get? b=ae o')
  (tups:∀ b xs,H b=ae (.tup xs)->H' b=ae (.tup xs)) (frzs:∀ b o u,H b=ae (.frz o u)->H' b=ae (.frz o u)) (tbls:∀ b ps,H b=ae (.tbl ps)->∃ more,H' b=ae (.tbl (ps ++ more)))
  (ns:∀ m,s.heap.Ns X.env.locals m->h'.Ns X.env.locals m) (hok:HOk X.prog X.w H' h') (hg:AllBare g') :
  Inv X pins σ H' { s with heap:=h',gens:=g',drawn:=d',toks:=t'}:=by
 have neL:∀ b o,X.s₀.heap.get? b=ae o->b ≠ X.env.locals:=fun b o e=>aV (bn (aK e) I.ok.above)
 have neC:∀ b o,X.s₀.heap.get? b=ae o->b ∉ X.ex->b ∉ ch:=fun b o e hx hb=>by
  rcases (hch b hb).1 with z | z
  ·exact hx z
  ·exact absurd (bn (aK e) z) (bT _)
 have cellK:∀ x c,X.env.cells.lookup x=ae c->∀ v,s.heap.IsCell c v->h'.IsCell c v:=fun x c e v ⟨o,ho,hd⟩=>by
  have nch:c ∉ ch:=fun z=>(hch c z).2.2.1 x c e rfl
  by_cases hc:c ∈ X.fs
  ·obtain⟨sl,q⟩:=slot c o (I.cne x c e) hc nch ho (I.freeC x c e)
   exact⟨_,q,hd⟩
  ·exact⟨o,keep c o (I.cne x c e) hc nch ho (I.freeC x c e),hd⟩
 refine⟨I.ok,I.os,hg,⟨fun b o e n hb hx=>?_,fun b o e n hb hx=>?_,fun b o e n hx=>?_,fun b o e hx=>?_,fun b xs e=>tups b xs (I.base.tups b xs e),fun b o xs e=>frzs b o xs (I.base.frzs b o xs e),fun b ps e=>?_⟩,?_,fun x c e=>?_,?_,fun x c e=>?_,fun p hp=>?_,hok,I.len⟩
 ·exact keep b o (neL b o e) hb (neC b o e hx) (I.base.keep b o e n hb hx) (I.base.free b o e n hx)
 ·obtain⟨sl,e1⟩:=I.base.slot b o e n hb hx
  obtain⟨sl',e2⟩:=slot b _ (neL b o e) hb (neC b o e hx) e1 (I.base.free b o e n hx)
  exact⟨sl',e2⟩
 ·obtain⟨o',e1⟩:=I.base.there b o e hx
  exact free b o' (neC b o e hx) e1 (I.base.free b o e n hx)
 ·obtain⟨o',e1⟩:=I.base.there b o e hx
  exact there b o' (neC b o e hx) e1
 ·obtain⟨m1,e1⟩:=I.base.tbls b ps e
  obtain⟨m2,e2⟩:=tbls b _ e1
  exact⟨m1 ++ m2,by rw[e2,Array.append_assoc]⟩
 ·obtain⟨m,hn,hl⟩:=I.loc
  refine⟨m,ns m hn,fun i x v e1 e2 e3=>?_⟩
  obtain⟨u,r,l⟩:=hl i x v e1 e2 e3
  refine⟨u,r,?_⟩
  rcases l with l | ⟨k,c,e,z⟩
  ·exact .inl l
  ·exact .inr ⟨k,c,e,cellK x c e _ z⟩
 ·obtain⟨v,z⟩:=I.cell x c e
  exact⟨v,cellK x c e v z⟩
 ·obtain⟨m,⟨o,_,_,ho,_⟩,_⟩:=I.loc
  exact free _ o (fun z=>(hch _ z).2.1 rfl) ho I.free
 ·obtain⟨v,o,ho,hd⟩:=I.cell x c e
  exact free c o (fun z=>(hch c z).2.2.1 x c e rfl) ho (I.freeC x c e)
 ·obtain⟨e,n,ne,nf,d⟩:=I.pin p hp
  have nch:p.1 ∉ ch:=fun z=>(hch p.1 z).2.2.2 p hp rfl
  exact⟨keep p.1 p.2 ne nf nch e n,free p.1 p.2 nch e n,ne,nf,d⟩
theorem Inv.un{t':Nat}(I:Inv X pins σ H s)(u:Un X.fs [] H H' s.heap h')(hok:HOk X.prog X.w H' h'):Inv X pins σ H' { s with heap:=h',toks:=t'}:=by
 obtain⟨m,⟨o,es,ep,ho,r⟩,_⟩:=id I.loc
 obtain⟨sl,hL⟩:=u.any ho I.free (by simp)
 exact I.step (g':=s.gens) (d':=s.drawn) (ch:=[]) (fun _ z=>nomatch z) (fun b o _ hb _ e n=>u.keep b o e n hb (by simp)) (fun b o _ hb _ e n=>u.slot b o e n hb (by simp)) (fun b o _ e n=>u.free b o e n (by simp)) (fun b o _ e=>u.there b o e (by simp)) u.tups u.frzs u.tbls (fun m' hm=>by
  obtain⟨o',es',ep',ho',r'⟩:=hm
  rw[ho] at ho';cases ho'
  exact⟨_,es',ep',hL,r'⟩) hok I.bare
theorem Inv.call{g':Array GenState}{t':Nat}{d':Drawn}{ch:List ai}(I:Inv X pins σ H s)(u:Un (frs X.stack) ch H H' s.heap h')(hok:HOk X.prog X.w H' h')(hg:AllBare g')
  (hch:∀ b ∈ ch,(b ∈ X.ex \/ X.s₀.heap.objs.size<=b)/\b ≠ X.env.locals/\(∀ x c,X.env.cells.lookup x=ae c->c ≠ b)/\∀ p ∈ X.pn ++ pins,p.1 ≠ b) :
  Inv X pins σ H' { s with heap:=h',gens:=g',drawn:=d',toks:=t'}:=by
 obtain⟨m,⟨o,es,ep,ho,r⟩,_⟩:=id I.loc
 obtain⟨sl,hL⟩:=u.any ho I.free fun z=>(hch _ z).2.1 rfl
 exact I.step (ch:=ch) hch (fun b o hL hb hc e n=>u.keep b o e n (fun z=>(aF.mp (I.stkSub b z)).elim hL hb) hc) (fun b o _ _ hc e n=>u.any e n hc) (fun b o hc e n=>u.free b o e n hc) (fun b o hc e=>u.there b o e hc) u.tups u.frzs u.tbls (fun m' hm=>by
  obtain⟨o',es',ep',ho',r'⟩:=hm
  rw[ho] at ho';cases ho'
  exact⟨_,es',ep',hL,r'⟩) hok hg
theorem Inv.turned{t':Nat}{it:ai}(I:Inv X pins σ H s)(k:∀ b o,b ≠ it->s.heap.get? b=ae o->h'.get? b=ae o)(hn:H it=af)(hL:it ≠ X.env.locals)
  (h1:it ∈ X.ex \/ X.s₀.heap.objs.size<=it) (h2:∀ x c,X.env.cells.lookup x=ae c->c ≠ it) (h3:∀ p ∈ X.pn ++ pins,p.1 ≠ it):Inv X pins σ H { s with heap:=h',toks:=t'}:=by
 have nit:∀ b u,H b=ae u->b ≠ it:=fun b u e z=>by rw[z,hn] at e;cases e
 refine I.step (g':=s.gens) (d':=s.drawn) (ch:=[it]) (fun b hb=>?_) (fun b o _ _ hc e _=>k b o (fun z=>hc (by simp[z])) e) (fun b o _ _ hc e _=>⟨o.slots,k b o (fun z=>hc (by simp[z])) e⟩) (fun _ _ _ _ n=>n)
  (fun b o hc e=>⟨o,k b o (fun z=>hc (by simp[z])) e⟩) (fun _ _ e=>e) (fun _ _ _ e=>e) (fun b ps e=>⟨#[],by rw[e];simp⟩) (fun m hm=>?_) (fun b u e=>?_) I.bare
 ·have e:b=it:=by simpa using hb
  subst e
  exact⟨h1,hL,h2,h3⟩
 ·obtain⟨o,es,ep,ho,r⟩:=hm
  exact⟨o,es,ep,k _ o (cr hL) ho,r⟩
 ·refine(I.hok b u e).stay (fun c v hc q=>k c v ?_ q) (fun _ q=>q) fun _ _ q=>q
  rcases hc with z | z
  ·rw[z];exact nit b u e
  ·exact nit c _ z
theorem Inv.tok(I:Inv X pins σ H s)(t:Nat):Inv X pins σ H { s with toks:=t}:=I.un (h':=s.heap) (t':=t) Un.refl I.hok
theorem Inv.kept{t':Nat}(I:Inv X pins σ H s)(k:∀ b u,s.heap.get? b=ae u->h'.get? b=ae u):Inv X pins σ H { s with heap:=h',toks:=t'}:=I.un (Un.kept k) (I.hok.kept k)
theorem Inv.laid{a:ai}{o:HO}{t':Nat}(I:Inv X pins σ H s)(k:∀ b u,s.heap.get? b=ae u->h'.get? b=ae u)(hp:s.heap.objs.size<=a)(new:ObjOk X.prog X.w (upd H a o) h' a o) :
  Inv X pins σ (upd H a o) { s with heap:=h',toks:=t'}:=I.un (Un.laid k hp (I.hok.fresh hp)) (I.hok.laid k hp new)
theorem Inv.write{x e:ai}{o:HO}{t':Nat}(I:Inv X pins σ H s)(mu:Mut (H x))(he:e=x \/ H e=ae (.own x))(k:∀ b u,b ≠ e->s.heap.get? b=ae u->h'.get? b=ae u)(heo:∃ u,h'.get? e=ae u)
  (new:ObjOk X.prog X.w (upd H x o) h' x o):Inv X pins σ (upd H x o) { s with heap:=h',toks:=t'}:=I.un (Un.write mu he k heo) (I.hok.write mu he k heo new)
theorem Inv.pins_of{pins':List (ai × Obj)}(I:Inv X pins σ H s)(h:∀ p ∈ pins',s.heap.get? p.1=ae p.2/\H p.1=af/\p.1 ≠ X.env.locals/\p.1 ∉ X.fs/\∀ v,p.2.data ≠ .cell v):Inv X pins' σ H s:=
 ⟨I.ok,I.os,I.bare,I.base,I.loc,I.cell,I.free,I.freeC,fun p hp=>(b6.mp hp).elim (fun z=>I.pin p (b9 _ z)) (h p),I.hok,I.len⟩
theorem ziS{N:List Str}(hN:N.Nodup){i j:Nat}{x:Str}(a:N[i]? = ae x)(b:N[j]? = ae x):i=j:=by
 obtain⟨h1,e1⟩:=aO.mp a
 obtain⟨h2,e2⟩:=aO.mp b
 exact(gq hN).mp (e1.trans e2.symm)
theorem zhL{M:Model}{A:a8}{E:ag->am->Prop}{i:Nat}{x:Str}{v:V}{u:ag}{Q:Unit->am->Prop}(I:Inv X pins σ H s)(hN:X.N.Nodup)(hi:X.N[i]? = ae x)(hx:Loc X.env.scope x)(r:RelV v u)
  (h:∀ s',Inv X pins (σ.set i (ae v)) H s'->(∃ a,du a s.heap s'.heap/\(a=X.env.locals \/ X.env.cells.lookup x=ae a))->Q () s') (hf:X.fn x=true \/ X.env.scope.names.lookup x=ae .local:=by first | exact .inl rfl | exact .inr rfl | assumption):ay M A (storeName X.env x u) Q E s:=by
 obtain⟨m,hn,hl⟩:=id I.loc
 have hcls:(X.env.scope.kind == .class || (X.env.scope.kind == .module && X.env.locals != X.env.globals))=false:=by rw[I.ok.kind];rfl
 have hiσ:i<σ.length:=by rw[I.len];exact(aO.mp hi).1
 have cne:=I.cne
 have tracked:∀ {a:ai} {h':aW},(∃ o,s.heap.get? a=ae o/\H a=af)->du a s.heap h'->HOk X.prog X.w H h':=fun {a h'} ha hs b ob e=>by
  obtain⟨_,_,hfree⟩:=ha
  refine(I.hok b ob e).stay (fun c w' hc q=>(hs.2 c ?_).trans q) (fun _ q=>q) fun _ _ q=>q
  rintro rfl
  rcases hc with rfl | hc
  ·rw[hfree] at e;cases e
  ·rw[hfree] at hc;cases hc
 rcases hx with hk | hk
 ·refine wpAny_storeName_local hk hn (fun h' hn' hs=>?_) hcls
  obtain⟨oL,_,_,hoL,_⟩:=id hn
  refine h _ ⟨I.ok,I.os,I.bare,⟨fun b o e n hb hx=>?_,fun b o e n hb hx=>?_,I.base.free,fun b o e hx=>?_,I.base.tups,I.base.frzs,I.base.tbls⟩,⟨_,hn',fun j y v' e1 e2 e3=>?_⟩,fun y c e=>?_,I.free,I.freeC,fun p hp=>?_,tracked ⟨oL,hoL,I.free⟩ hs,by simpa using I.len⟩ ⟨_,hs,.inl rfl⟩
  ·exact(hs.2 b (aV (bn (aK e) I.ok.above))).trans (I.base.keep b o e n hb hx)
  ·obtain⟨sl,e1⟩:=I.base.slot b o e n hb hx
   exact⟨sl,(hs.2 b (aV (bn (aK e) I.ok.above))).trans e1⟩
  ·obtain⟨o',e1⟩:=I.base.there b o e hx
   exact⟨o',(hs.2 b (aV (bn (aK e) I.ok.above))).trans e1⟩
  ·by_cases hj:j=i
   ·subst hj
    rw[hi] at e1;cases e1
    rw[gR hiσ] at e2
    cases e2
    exact⟨u,r,.inl ⟨hk,by simp⟩⟩
   ·rw[hU (cr hj)] at e2
    obtain⟨u',r',q⟩:=hl j y v' e1 e2 e3
    refine⟨u',r',?_⟩
    rcases q with ⟨k,e⟩ | ⟨k,c,e,z⟩
    ·refine .inl ⟨k,?_⟩
     have:y ≠ x:=fun e=>hj (ziS hN e1 (e ▸ hi))
     simp[this,e]
    ·exact .inr ⟨k,c,e,z.sameBut hs (cne y c e)⟩
  ·obtain⟨w',z⟩:=I.cell y c e
   exact⟨w',z.sameBut hs (cne y c e)⟩
  ·obtain⟨e,n,ne,nf,d⟩:=I.pin p hp
   exact⟨(hs.2 p.1 ne).trans e,n,ne,nf,d⟩
 ·have hfn:X.fn x=true:=by
   rcases hf with z | z
   ·exact z
   ·rw[z] at hk;cases hk
  obtain⟨c,hc⟩:=I.ok.has x (.inl hk)
  obtain⟨w',z⟩:=I.cell x c hc
  refine wpAny_storeName_cell I.ok.kind hk hc z (fun h' hc' hs=>?_)
  obtain⟨oc,hoc,hocd⟩:=id z
  refine h { s with heap:=h'} ⟨I.ok,I.os,I.bare,⟨fun b o e n hb hx=>?_,fun b o e n hb hx=>?_,I.base.free,fun b o e hx=>?_,I.base.tups,I.base.frzs,I.base.tbls⟩,⟨m,hn.sameBut hs (cr (cne x c hc)),fun j y v' e1 e2 e3=>?_⟩,fun y c' e=>?_,I.free,I.freeC,fun p hp=>?_,tracked ⟨oc,hoc,I.freeC x c hc⟩ hs,by simpa using I.len⟩ ⟨c,hs,.inr hc⟩
  ·exact(hs.2 b (aV (bn (aK e) (I.ok.cab x c hfn hc)))).trans (I.base.keep b o e n hb hx)
  ·obtain⟨sl,e1⟩:=I.base.slot b o e n hb hx
   exact⟨sl,(hs.2 b (aV (bn (aK e) (I.ok.cab x c hfn hc)))).trans e1⟩
  ·obtain⟨o',e1⟩:=I.base.there b o e hx
   exact⟨o',(hs.2 b (aV (bn (aK e) (I.ok.cab x c hfn hc)))).trans e1⟩
  ·by_cases hj:j=i
   ·subst hj
    rw[hi] at e1;cases e1
    rw[gR hiσ] at e2
    cases e2
    exact⟨u,r,.inr ⟨.inl hk,c,hc,hc'⟩⟩
   ·rw[hU (cr hj)] at e2
    obtain⟨u',r',q⟩:=hl j y v' e1 e2 e3
    refine⟨u',r',?_⟩
    rcases q with q | ⟨k,c',e,z'⟩
    ·exact .inl q
    ·refine .inr ⟨k,c',e,z'.sameBut hs ?_⟩
     rintro rfl
     exact hj (ziS hN e1 (I.ok.inj _ _ _ e hc ▸ hi))
  ·by_cases hcc:c'=c
   ·subst hcc;exact⟨_,hc'⟩
   ·obtain⟨w2,z2⟩:=I.cell y c' e
    exact⟨w2,z2.sameBut hs hcc⟩
  ·obtain⟨e,n,ne,nf,d⟩:=I.pin p hp
   refine⟨(hs.2 p.1 ?_).trans e,n,ne,nf,d⟩
   intro q
   rw[q,hoc] at e
   have q':oc=p.2:=bc e
   exact d w' (by rw[<- q'];exact hocd)
theorem zfE{M:Model}{A:a8}{E:ag->am->Prop}{i:Nat}{x:Str}{v:V}{u:ag}{Q:Unit->am->Prop}(I:Inv X pins σ H s)(hN:X.N.Nodup)(hi:X.N[i]? = ae x)(hx:Loc X.env.scope x)(r:RelV v u)
  (h:∀ s',Inv X pins (σ.set i (ae v)) H s'->Q () s') (hf:X.fn x=true \/ X.env.scope.names.lookup x=ae .local:=by first | exact .inl rfl | exact .inr rfl | assumption):ay M A (storeName X.env x u) Q E s:=
 zhL I hN hi hx r (fun s' I' _=>h s' I') hf
theorem Inv.call'{s':am}{ch:List ai}(I:Inv X pins σ H s)(ho:s'.os=s.os)(u:Un (frs X.stack) ch H H' s.heap s'.heap)(hok:HOk X.prog X.w H' s'.heap)(hg:AllBare s'.gens)
  (hch:∀ b ∈ ch,(b ∈ X.ex \/ X.s₀.heap.objs.size<=b)/\b ≠ X.env.locals/\(∀ x c,X.env.cells.lookup x=ae c->c ≠ b)/\∀ p ∈ X.pn ++ pins,p.1 ≠ b):Inv X pins σ H' s':=by
 obtain⟨h',g',d',t',o'⟩:=s'
 have e:o'=s.os:=ho
 subst e
 exact I.call (g':=g') (t':=t') (d':=d') u hok hg hch
end
abbrev XK:=ag->Option ai->Hp->Prop
abbrev St:=List (Option V)
abbrev VK:=V->Hp->Prop
abbrev TE:=St->Hp->VK->Prop
abbrev TT:=St->Hp->(Bool->Hp->Prop)->Prop
abbrev TA:=St->Hp->(List V->Hp->Prop)->Prop
structure Ends where
 nx:St->Hp->Prop
 rt:VK
 bk:St->Hp->Prop:=fun _ _=>False
 ct:St->Hp->Prop:=fun _ _=>False
abbrev TS:=Ends->St->Hp->Prop
def EP(X:Cx)(pins:List (ai × Obj))(σ:St)(Q:VK)(u:ag)(s':am):Prop:=∃ v H',Inv X pins σ H' s'/\RelV v u/\Q v H'
def TP(X:Cx)(pins:List (ai × Obj))(σ:St)(Q:Bool->Hp->Prop)(b:Bool)(s':am):Prop:=∃ H',Inv X pins σ H' s'/\Q b H'
def AP(X:Cx)(pins:List (ai × Obj))(σ:St)(Q:List V->Hp->Prop)(us:List ag)(s':am):Prop:=∃ vs H',Inv X pins σ H' s'/\Vals vs us/\Q vs H'
def SP(X:Cx)(pins:List (ai × Obj))(D:Ends)(f:Flow)(s':am):Prop:=
 match f with
 | .next=>∃ σ' H',Inv X pins σ' H' s'/\D.nx σ' H'
 | .brk=>∃ σ' H',Inv X pins σ' H' s'/\D.bk σ' H'
 | .cont=>∃ σ' H',Inv X pins σ' H' s'/\D.ct σ' H'
 | .ret u=>∃ v σ' H',Inv X pins σ' H' s'/\RelV v u/\D.rt v H'
def PE(X:Cx)(e:Expr)(t:TE):Prop:=
 ∀ (pins:List (ai × Obj)) (s:am) (σ:St) (H:Hp) (Q:VK),Inv X pins σ H s->t σ H Q->ay (model X.prog X.w) X.A (eval e X.env) (EP X pins σ Q) X.xe s
def PT(X:Cx)(e:Expr)(t:TT):Prop:=
 ∀ (pins:List (ai × Obj)) (s:am) (σ:St) (H:Hp) (Q:Bool->Hp->Prop),Inv X pins σ H s->t σ H Q->ay (model X.prog X.w) X.A (isTrue e X.env (eval e X.env)) (TP X pins σ Q) X.xe s
def PW(X:Cx)(e:Expr)(t:TT):Prop:=
 ∀ (whole:Sem ag) (pins:List (ai × Obj)) (s:am) (σ:St) (H:Hp) (Q:Bool->Hp->Prop),Inv X pins σ H s->t σ H Q->ay (model X.prog X.w) X.A (isTrue e X.env whole) (TP X pins σ Q) X.xe s
theorem PW.pt{X:Cx}{e:Expr}{t:TT}(h:PW X e t):PT X e t:=h _
def PA(X:Cx)(es:List Expr)(t:TA):Prop:=
 ∀ (pos:Pos) (pins:List (ai × Obj)) (s:am) (σ:St) (H:Hp) (Q:List V->Hp->Prop),Inv X pins σ H s->t σ H Q->ay (model X.prog X.w) X.A (spliced (backTo pos (aY es X.env))) (AP X pins σ Q) X.xe s
def PS(X:Cx)(st:Stmt)(t:TS):Prop:=
 ∀ (pins:List (ai × Obj)) (s:am) (σ:St) (H:Hp) (D:Ends),Inv X pins σ H s->t D σ H->ay (model X.prog X.w) X.A (exec st X.env) (SP X pins D) X.xe s
def PSs(X:Cx)(st:List Stmt)(t:TS):Prop:=
 ∀ (pins:List (ai × Obj)) (s:am) (σ:St) (H:Hp) (D:Ends),Inv X pins σ H s->t D σ H->ay (model X.prog X.w) X.A (execs st X.env) (SP X pins D) X.xe s
theorem thn{α:Type}{t:Sem α}{Q Q':α->am->Prop}{M:Model}{A:a8}{E:ag->am->Prop}{s:am}(h:ay M A t Q E s)(hQ:∀ a s,Q a s->Q' a s):ay M A t Q' E s:=bI h hQ fun _ _ x=>x
end L2
namespace L2
open PySem PySem.Spec PyProof.Rows
section
variable {X:Cx}
def tVar(i:Nat):TE:=fun σ H Q=>∃ v,σ[i]? = ae (ae v)/\Q v H
def tC(v:V):TE:=fun _ H Q=>Q v H
theorem pe_var{i:Nat}{x:Str}{pos:Pos}(hN:X.N[i]? = ae x)(hv:Vis X.env.scope x)(hd:(x == ("__debug__" : Str))=false:=by decide)(hcd:(x == ("__classdict__" : Str))=false:=by decide):PE X (.Name x pos) (tVar i):=by
 intro pins s σ H Q I h
 obtain⟨v,e,h⟩:=h
 obtain⟨m,hn,hl⟩:=I.loc
 obtain⟨u,r,l⟩:=hl i x v hN e hv
 have fin:EP X pins σ Q u s:=⟨v,H,I,r,h⟩
 rcases l with ⟨hk,hm⟩ | ⟨hk,c,hc,hcell⟩
 ·exact wpAny_Name (wpAny_loadName_local I.ok.kind hk hn hm fin) hd
 ·rcases hk with hk | hk
  ·exact wpAny_Name (wpAny_loadName_cell I.ok.kind hk hc hcell fin) hd
  ·exact wpAny_Name (wpAny_loadName_free I.ok.kind hk hc hcell fin hcd) hd
theorem pe_int{i j pos}:PE X (.Constant (.int i) j pos) (tC (.int i)):=fun _ _ _ H _ I h=>wpAny_Constant_int ⟨.int i,H,I.tok _,⟨_,rfl⟩,h⟩
theorem pe_bl{b j pos}:PE X (.Constant (.bool b) j pos) (tC (.bl b)):=fun _ _ _ H _ I h=>Constant_bool ⟨.bl b,H,I,rfl,h⟩
theorem pe_non{j pos}:PE X (.Constant .none j pos) (tC .non):=fun _ _ _ H _ I h=>Constant_none ⟨.non,H,I,rfl,h⟩
theorem pe_str{x j pos}:PE X (.Constant (.str x) j pos) (tC (.str x)):=fun _ _ _ H _ I h=>Calls.Constant_str ⟨.str x,H,I.tok _,⟨_,rfl⟩,h⟩
def Gl(X:Cx)(x:Str):Prop:=X.env.kindOf x=ae .globalImplicit
theorem zfi{E:ag->am->Prop}{pins:List (ai × Obj)}{s:am}{σ:St}{H:Hp}{x:Str}{u:ag}{pos:Pos}{Q:ag->am->Prop}(I:Inv X pins σ H s)(hg:Gl X x)(hm:X.mg x=ae u)(h:Q u s)
  (hd:(x == ("__debug__" : Str))=false:=by decide):ay (model X.prog X.w) X.A (eval (.Name x pos) X.env) Q E s:=
 fV I.ok.kind hg (Calls.loadGlobal_global (by rw[I.ok.glob];exact I.mod.glob.keeps I.bk) hm h) hd
theorem zei{E:ag->am->Prop}{pins:List (ai × Obj)}{s:am}{σ:St}{H:Hp}{x:Str}{u:ag}{pos:Pos}{Q:ag->am->Prop}(I:Inv X pins σ H s)(hg:Gl X x)(hm:X.mg x=af)(hv:aZ x=ae u)(h:Q u s)
  (hn:x ≠ "__name__" :=by decide) (hd:(x == ("__debug__" : Str))=false:=by decide):ay (model X.prog X.w) X.A (eval (.Name x pos) X.env) Q E s:=by
 obtain⟨mb,h1,h2⟩:=I.mod.blt
 exact fV I.ok.kind hg (Calls.loadGlobal_builtin (by rw[I.ok.glob];exact I.mod.glob.keeps I.bk) hm (by rw[I.ok.blt];exact h1.keeps I.bk) ((h2 x hn).trans hv) h) hd
theorem pe_glob{x:Str}{v:V}{u:ag}{pos:Pos}(hg:Gl X x)(hm:X.mg x=ae u)(r:RelV v u)(hd:(x == ("__debug__" : Str))=false:=by decide):PE X (.Name x pos) (tC v):=
 fun _ _ _ H _ I h=>zfi I hg hm ⟨v,H,I,r,h⟩ hd
theorem pe_bltn{x:Str}{v:V}{u:ag}{pos:Pos}(hg:Gl X x)(hm:X.mg x=af)(hv:aZ x=ae u)(r:RelV v u)(hn:x ≠ "__name__" :=by decide)(hd:(x == ("__debug__" : Str))=false:=by decide):PE X (.Name x pos) (tC v):=
 fun _ _ _ H _ I h=>zei I hg hm hv ⟨v,H,I,r,h⟩ hn hd
variable {a b:Expr}{ta tb:TE}{pos:Pos}
def tB(t:TE):TT:=fun σ H Q=>t σ H fun x H1=>∃ c,x=.bl c/\Q c H1
theorem pt_val{e:Expr}{t:TE}(h:PE X e t)(he:∀ whole,isTrue e X.env whole=(do let v <- whole;standAt e.pos;holding [v] (truthy v)):=by intro _;rfl):PT X e (tB t):=by
 intro pins s σ H Q I hw
 refine isTrue_plain (thn (h pins s σ H _ I hw) fun v s1 ⟨x,H1,I1,r1,q1⟩=>?_) (he _)
 obtain⟨d,rfl,q⟩:=q1
 cases r1
 exact wpAny_truthy_bool ⟨H1,I1,q⟩
variable {tA tB':TT}{rest:List Expr}
def tAnd(t u:TT):TT:=fun σ H Q=>t σ H fun c H1=>if c=true then u σ H1 Q else Q false H1
def tOr(t u:TT):TT:=fun σ H Q=>t σ H fun c H1=>if c=true then Q true H1 else u σ H1 Q
def tNot(t:TT):TT:=fun σ H Q=>t σ H fun c H1=>Q (!c) H1
theorem pw_and1(ha:PT X a tA):PW X (.BoolOp .And [a] pos) tA:=by
 intro wh pins s σ H Q I h
 refine isTrue_and (thn (ha pins s σ H Q I h) fun c s1 e=>?_)
 cases c with
 | true=>exact isTrue_and_nil e
 | false=>exact e
theorem pw_or1(ha:PT X a tA):PW X (.BoolOp .Or [a] pos) tA:=by
 intro wh pins s σ H Q I h
 refine isTrue_or (thn (ha pins s σ H Q I h) fun c s1 e=>?_)
 cases c with
 | false=>exact isTrue_or_nil e
 | true=>exact e
theorem pw_and(ha:PT X a tA)(hb:PW X (.BoolOp .And (b :: rest) pos) tB'):PW X (.BoolOp .And (a :: b :: rest) pos) (tAnd tA tB'):=by
 intro wh pins s σ H Q I h
 refine isTrue_and (thn (ha pins s σ H _ I h) fun c s1 ⟨H1,I1,q1⟩=>?_)
 cases c with
 | true=>exact hb wh pins s1 σ H1 Q I1 q1
 | false=>exact⟨H1,I1,q1⟩
theorem pw_or(ha:PT X a tA)(hb:PW X (.BoolOp .Or (b :: rest) pos) tB'):PW X (.BoolOp .Or (a :: b :: rest) pos) (tOr tA tB'):=by
 intro wh pins s σ H Q I h
 refine isTrue_or (thn (ha pins s σ H _ I h) fun c s1 ⟨H1,I1,q1⟩=>?_)
 cases c with
 | true=>exact⟨H1,I1,q1⟩
 | false=>exact hb wh pins s1 σ H1 Q I1 q1
theorem pt_not(ha:PT X a tA):PT X (.UnaryOp .Not a pos) (tNot tA):=by
 intro pins s σ H Q I h
 exact isTrue_not (ha pins s σ H (fun c H1=>Q (!c) H1) I h)
def tAndV(ta tb:TE):TE:=fun σ H Q=>ta σ H fun x H1=>∃ c,x=.bl c/\if c=true then tb σ H1 Q else Q (.bl false) H1
def tNotV(ta:TE):TE:=fun σ H Q=>ta σ H fun x H1=>∃ c,x=.bl c/\Q (.bl (!c)) H1
theorem pe_one{op}{t:TE}(h:PE X a t):PE X (.BoolOp op [a] pos) t:=fun pins s σ H Q I hw=>BoolOp_one (h pins s σ H Q I hw)
theorem pe_and(ha:PE X a ta)(hb:PE X (.BoolOp .And (b :: rest) pos) tb):PE X (.BoolOp .And (a :: b :: rest) pos) (tAndV ta tb):=by
 intro pins s σ H Q I h
 refine BoolOp_and (thn (ha pins s σ H _ I h) fun v s1 ⟨x,H1,I1,r1,q1⟩=>?_)
 obtain⟨c,rfl,q1⟩:=q1
 cases r1
 refine wpAny_truthy_bool ?_
 cases c with
 | true=>exact hb pins s1 σ H1 Q I1 q1
 | false=>exact⟨.bl false,H1,I1,rfl,q1⟩
theorem pe_not(ha:PE X a ta):PE X (.UnaryOp .Not a pos) (tNotV ta):=by
 intro pins s σ H Q I h
 refine UnaryOp_ (thn (ha pins s σ H _ I h) fun v s1 ⟨x,H1,I1,r1,q1⟩=>?_)
 obtain⟨c,rfl,q1⟩:=q1
 cases r1
 exact not_of (wpAny_truthy_bool ⟨.bl (!c),H1,I1,rfl,q1⟩)
def tIf(t:TT)(ta tb:TE):TE:=fun σ H Q=>t σ H fun c H1=>if c=true then ta σ H1 Q else tb σ H1 Q
theorem pe_ifExp{c:Expr}(hc:PT X c tA)(ha:PE X a ta)(hb:PE X b tb):PE X (.IfExp c a b pos) (tIf tA ta tb):=by
 intro pins s σ H Q I h
 refine wpAny_IfExp (thn (hc pins s σ H _ I h) fun d s1 ⟨H1,I1,q1⟩=>?_)
 cases d with
 | true=>exact ha pins s1 σ H1 Q I1 q1
 | false=>exact hb pins s1 σ H1 Q I1 q1
end
end L2
namespace L2
open PySem PySem.Spec PyProof.Rows
def SqL(K:ak)(H:Hp)(a:ai)(xs:List V):Prop:=
 Rd H a (.lst xs) \/
  ∃ (o:Obj) (its:Array ag) (n:Nat),K.lookup a=ae o/\o.cls=.type "list" /\ o.dict=af/\o.data=.seq its n/\its.size<=ba/\Vals xs its.toList
def SqT(K:ak)(H:Hp)(a:ai)(xs:List V):Prop:=
 Rd H a (.tup xs) \/
  ∃ (o:Obj) (its:Array ag) (n:Nat),K.lookup a=ae o/\o.cls=.type "tuple" /\ o.data=.seq its n/\its.size<=ba/\Vals xs its.toList
def absV:ag->Option V
 | .none=>ae .non
 | .bool b=>ae (.bl b)
 | .int i _=>ae (.int i)
 | .str x _=>ae (.str x)
 | .bytes b _=>ae (.byt b)
 | .float b _=>ae (.flt b)
 | .ref a=>ae (.ref a)
 | .type n=>ae (.ty n)
 | _=>af
theorem RelV.abs{x:V}{u:ag}(r:RelV x u):absV u=ae x:=by
 cases x with
 | non=>cases r;rfl
 | bl _=>cases r;rfl
 | int _=>obtain⟨t,rfl⟩:=r;rfl
 | str _=>obtain⟨t,rfl⟩:=r;rfl
 | byt _=>obtain⟨t,rfl⟩:=r;rfl
 | flt _=>obtain⟨t,rfl⟩:=r;rfl
 | ref _=>cases r;rfl
 | ty _=>cases r;rfl
theorem RelV.inj{x y:V}{u:ag}(r:RelV x u)(q:RelV y u):x=y:=bc (r.abs.symm.trans q.abs)
theorem Vals.inj:∀ {xs ys:List V} {us:List ag},Vals xs us->Vals ys us->xs=ys
 | _,_,_,.nil,.nil=>rfl
 | _,_,_,.cons r t,.cons r' t'=>by rw[r.inj r',Vals.inj t t']
section
variable {X:Cx}{pins:List (ai × Obj)}{σ:St}{H:Hp}{s:am}{a:ai}{xs ys:List V}
theorem SqL.of{K:ak}(h:H a=ae (.lst xs)):SqL K H a xs:=.inl (.inl h)
theorem SqT.of{K:ak}(h:H a=ae (.tup xs)):SqT K H a xs:=.inl (.inl h)
theorem Inv.list(I:Inv X pins σ H s)(h:SqL X.K H a xs):∃ its:List ag,Vals xs its/\PlainL s.heap a its.toArray/\xs.length<=ba:=by
 rcases h with h | ⟨o,its,n,hk,hc,hd,hs,hz,r⟩
 ·obtain⟨z,its,n,r,e⟩:=h.ok I.hok
  exact⟨its,r,⟨_,n,e,rfl,rfl,rfl⟩,z⟩
 ·refine⟨its.toList,r,⟨o,n,I.kIn a o hk,hc,hd,by simpa using hs⟩,?_⟩
  have e:=r.length
  simp only[dy] at e
  lia
theorem Inv.tuple(I:Inv X pins σ H s)(h:SqT X.K H a xs):∃ its:List ag,Vals xs its/\IsTup s.heap a its.toArray/\xs.length<=ba:=by
 rcases h with h | ⟨o,its,n,hk,hc,hs,hz,r⟩
 ·obtain⟨z,its,r,p⟩:=h.ok I.hok
  exact⟨its,r,p,z⟩
 ·refine⟨its.toList,r,⟨o,I.kIn a o hk,hc,n,by simpa using hs⟩,?_⟩
  have e:=r.length
  simp only[dy] at e
  lia
theorem Inv.list_inj(I:Inv X pins σ H s)(h:SqL X.K H a xs)(h':SqL X.K H a ys):xs=ys:=by
 obtain⟨its,r,⟨o,n,e,_,_,d⟩,_⟩:=I.list h
 obtain⟨its',r',⟨o',n',e',_,_,d'⟩,_⟩:=I.list h'
 rw[e] at e';cases e'
 rw[d] at d'
 injection d' with d1 _
 have:its=its':=by simpa using congrArg jF d1
 subst this
 exact r.inj r'
theorem Inv.tuple_inj(I:Inv X pins σ H s)(h:SqT X.K H a xs)(h':SqT X.K H a ys):xs=ys:=by
 obtain⟨its,r,⟨o,e,_,n,d⟩,_⟩:=I.tuple h
 obtain⟨its',r',⟨o',e',_,n',d'⟩,_⟩:=I.tuple h'
 rw[e] at e';cases e'
 rw[d] at d'
 injection d' with d1 _
 have:its=its':=by simpa using congrArg jF d1
 subst this
 exact r.inj r'
end
abbrev Cx.wish(X:Cx)(E:ag->am->Prop):Cx:={ X with xe:=E}
abbrev Cx.nox(X:Cx):Cx:=X.wish fun _ _=>False
theorem Cx.Ok.wish{X:Cx}(ok:X.Ok)(E:ag->am->Prop):(X.wish E).Ok:=
 ⟨ok.mod,ok.kind,ok.glob,ok.blt,ok.above,ok.inj,ok.has,ok.cab,ok.hd,ok.frames,ok.stk,ok.exf,ok.bs,ok.bsz,ok.noex,ok.exfs,ok.funs,ok.frf⟩
theorem Cx.Ok.unwish{X:Cx}{E:ag->am->Prop}(ok:(X.wish E).Ok):X.Ok:=
 ⟨ok.mod,ok.kind,ok.glob,ok.blt,ok.above,ok.inj,ok.has,ok.cab,ok.hd,ok.frames,ok.stk,ok.exf,ok.bs,ok.bsz,ok.noex,ok.exfs,ok.funs,ok.frf⟩
section
variable {X:Cx}{pins:List (ai × Obj)}{σ:St}{H:Hp}{s:am}{E:ag->am->Prop}
theorem Inv.wish(I:Inv X pins σ H s)(E:ag->am->Prop):Inv (X.wish E) pins σ H s:=⟨I.ok.wish E,I.os,I.bare,I.base,I.loc,I.cell,I.free,I.freeC,I.pin,I.hok,I.len⟩
theorem Inv.unwish(I:Inv (X.wish E) pins σ H s):Inv X pins σ H s:=⟨I.ok.unwish,I.os,I.bare,I.base,I.loc,I.cell,I.free,I.freeC,I.pin,I.hok,I.len⟩
theorem SP.unwish{D:Ends}{f:Flow}{s':am}(h:SP (X.wish E) pins D f s'):SP X pins D f s':=by
 cases f with
 | next=>obtain⟨σ',H',I,q⟩:=h;exact⟨σ',H',I.unwish,q⟩
 | brk=>obtain⟨σ',H',I,q⟩:=h;exact⟨σ',H',I.unwish,q⟩
 | cont=>obtain⟨σ',H',I,q⟩:=h;exact⟨σ',H',I.unwish,q⟩
 | ret u=>obtain⟨v,σ',H',I,r,q⟩:=h;exact⟨v,σ',H',I.unwish,r,q⟩
theorem PE.nox{e:Expr}{t:TE}(h:PE X.nox e t):PE X e t:=fun pins s σ H Q I hw=>
 bI (h pins s σ H Q (I.wish _) hw) (fun _ _ ⟨v,H',I',r,q⟩=>⟨v,H',I'.unwish,r,q⟩) fun _ _ z=>bx z
theorem PT.nox{e:Expr}{t:TT}(h:PT X.nox e t):PT X e t:=fun pins s σ H Q I hw=>
 bI (h pins s σ H Q (I.wish _) hw) (fun _ _ ⟨H',I',q⟩=>⟨H',I'.unwish,q⟩) fun _ _ z=>bx z
theorem PSs.nox{st:List Stmt}{t:TS}(h:PSs X.nox st t):PSs X st t:=fun pins s σ H D I hw=>
 bI (h pins s σ H D (I.wish _) hw) (fun _ _ q=>q.unwish) fun _ _ z=>bx z
end
section
variable {X:Cx}{st:Stmt}{rest:List Stmt}{t u:TS}{e:Expr}{te:TE}{pos:Pos}
def tNext:TS:=fun D σ H=>D.nx σ H
def tSeq(t u:TS):TS:=fun D σ H=>t { D with nx:=u D} σ H
theorem pss_nil:PSs X [] tNext:=fun _ _ σ H _ I h=>wpAny_execs_nil ⟨σ,H,I,h⟩
theorem pss_cons(h1:PS X st t)(h2:PSs X rest u):PSs X (st :: rest) (tSeq t u):=by
 intro pins s σ H D I h
 refine wpAny_execs_cons (thn (h1 pins s σ H { D with nx:=u D} I h) fun f s1 q=>?_)
 cases f with
 | next=>
  obtain⟨σ',H',I',q⟩:=q
  exact h2 pins s1 σ' H' D I' q
 | ret v=>exact q
 | brk=>exact q
 | cont=>exact q
theorem pss_one(h1:PS X st t):PSs X [st] t:=by
 intro pins s σ H D I h
 refine wpAny_execs_cons (thn (h1 pins s σ H D I h) fun f s1 q=>?_)
 cases f with
 | next=>exact wpAny_execs_nil q
 | ret v=>exact q
 | brk=>exact q
 | cont=>exact q
theorem Inv.quiet{pins:List (ai × Obj)}{σ:St}{H:Hp}{s:am}(I:Inv X pins σ H s):interactive X.env=false:=by simp[interactive,I.ok.kind]
def tDrop(te:TE):TS:=fun D σ H=>te σ H fun _ H1=>D.nx σ H1
theorem ps_expr(he:PE X e te)(hs:swapsWith e af pos.line X.env=pure false:=by rfl):PS X (.Expr e pos) (tDrop te):=by
 intro pins s σ H D I h
 exact wpAny_Expr_any (thn (he pins s σ H _ I h) fun v s1 ⟨x,H1,I1,r1,q1⟩=>⟨σ,H1,I1,q1⟩) I.quiet hs
def tRet(te:TE):TS:=fun D σ H=>te σ H D.rt
theorem ps_ret(he:PE X e te):PS X (.Return (ae e) pos) (tRet te):=by
 intro pins s σ H D I h
 exact wpAny_Return_some (thn (he pins s σ H _ I h) fun v s1 ⟨x,H1,I1,r1,q1⟩=>⟨x,σ,H1,I1,r1,q1⟩)
def tIfS(c:TT)(t u:TS):TS:=fun D σ H=>c σ H fun b H1=>if b=true then t D σ H1 else u D σ H1
theorem ps_if{c:Expr}{a b:List Stmt}{tc:TT}(hc:PT X c tc)(ha:PSs X a t)(hb:PSs X b u):PS X (.If c a b pos) (tIfS tc t u):=by
 intro pins s σ H D I h
 refine wpAny_If (thn (hc pins s σ H _ I h) fun d s1 ⟨H1,I1,q1⟩=>?_)
 cases d with
 | true=>exact ha pins s1 σ H1 D I1 q1
 | false=>exact hb pins s1 σ H1 D I1 q1
def ziM:TS:=fun _ _ _=>False
theorem ps_never:PS X st ziM:=fun _ _ _ _ _ _ h=>h.elim
theorem pss_never{sts:List Stmt}:PSs X sts ziM:=fun _ _ _ _ _ _ h=>h.elim
end
abbrev TG:=V->St->Hp->(St->Hp->Prop)->Prop
abbrev TGs:=List V->St->Hp->(St->Hp->Prop)->Prop
def PG(X:Cx)(target:Expr)(t:TG):Prop:=
 ∀ (pins:List (ai × Obj)) (s:am) (σ:St) (H:Hp) (v:V) (u:ag) (Q:St->Hp->Prop),Inv X pins σ H s->RelV v u->t v σ H Q ->
  ay (model X.prog X.w) X.A (assign target X.env u) (fun _ s'=>∃ σ' H',Inv X pins σ' H' s'/\Q σ' H') X.xe s
def PGs(X:Cx)(ts:List Expr)(t:TGs):Prop:=
 ∀ (pins:List (ai × Obj)) (s:am) (σ:St) (H:Hp) (vs:List V) (us:List ag) (Q:St->Hp->Prop),Inv X pins σ H s->Vals vs us->t vs σ H Q ->
  ay (model X.prog X.w) X.A (assignInOrder ((ck ts X.env).map (·.2)) us) (fun _ s'=>∃ σ' H',Inv X pins σ' H' s'/\Q σ' H') X.xe s
abbrev TSet:=V->V->V->Hp->(Hp->Prop)->Prop
def PSet(X:Cx)(t:TSet):Prop:=
 ∀ (pins:List (ai × Obj)) (s:am) (σ:St) (H:Hp) (o i v:V) (ov iv u:ag) (Q:Hp->Prop),Inv X pins σ H s->RelV o ov->RelV i iv->RelV v u->t o i v H Q ->
  ay (model X.prog X.w) X.A (setItem ov iv u) (fun _ s'=>∃ H',Inv X pins σ H' s'/\Q H') X.xe s
section
variable {X:Cx}{pos:Pos}
def zgo(i:Nat):TG:=fun v σ H Q=>Q (σ.set i (ae v)) H
theorem zh1{i:Nat}{x:Str}(hN:X.N.Nodup)(hi:X.N[i]? = ae x)(hx:Loc X.env.scope x)(hf:X.fn x=true \/ X.env.scope.names.lookup x=ae .local:=by first | exact .inl rfl | exact .inr rfl | assumption):PG X (.Name x pos) (zgo i):=by
 intro pins s σ H v u Q I r h
 exact wpAny_assign_Name (zfE I hN hi hx r (fun s' I'=>⟨_,H,I',h⟩) hf)
def gNil:TGs:=fun vs σ H Q=>vs=[]/\Q σ H
def gCons(t:TG)(u:TGs):TGs:=fun vs σ H Q=>∃ v r,vs=v :: r/\t v σ H fun σ' H'=>u r σ' H' Q
theorem pgs_nil:PGs X [] gNil:=by
 intro pins s σ H vs us Q I r h
 obtain⟨e,h⟩:=h
 subst e
 cases r
 exact assignInOrder_nil ⟨σ,H,I,h⟩
theorem zgX{e:Expr}{es:List Expr}{t:TG}{u:TGs}(h1:PG X e t)(h2:PGs X es u)
  (hs:(ck (e :: es) X.env).map (·.2)=assign e X.env :: (ck es X.env).map (·.2):=by rfl):PGs X (e :: es) (gCons t u):=by
 intro pins s σ H vs us Q I r h
 obtain⟨v,vr,e1,h⟩:=h
 subst e1
 cases r with
 | cons r rr=>
  rw[hs]
  refine assignInOrder_cons (thn (h1 pins s σ H _ _ _ I r h) fun _ s1 ⟨σ1,H1,I1,q1⟩=>?_)
  exact h2 pins s1 σ1 H1 _ _ Q I1 rr q1
def gTup(K:ak)(n:Nat)(t:TGs):TG:=fun v σ H Q=>∃ a xs,v=.ref a/\SqT K H a xs/\xs.length=n/\t xs σ H Q
theorem pg_tup{es:List Expr}{k:Nat}{t:TGs}{n:Nat}(hc:X.calm=true)(h:PGs X es t)
  (hn:(ck es X.env).length=n:=by rfl) (hst:(ck es X.env).findIdx? (·.1)=af:=by rfl):PG X (.Tuple es k pos) (gTup X.K n t):=by
 intro pins s σ H v u Q I r hw
 obtain⟨a,xs,e1,hq,hl,hw⟩:=hw
 subst e1
 cases r
 obtain⟨its,rv,ht,hz⟩:=I.tuple hq
 refine assign_Tuple_tuple (I.ok.hd hc) ht (by simp[hn,<- hl,rv.length]) hst fun h' hx=>?_
 have I1:Inv X pins σ H { s with heap:=h'}:=I.kept (t':=s.toks) fun b o e=>hx b o (aV (aK e)) e
 exact h pins _ σ H xs _ Q I1 (by simpa using rv) hw
def gSub(to ti:TE)(t:TSet):TG:=fun v σ H Q=>to σ H fun o H1=>ti σ H1 fun i H2=>t o i v H2 fun H3=>Q σ H3
theorem pg_sub{o i:Expr}{to ti:TE}{t:TSet}(ho:PE X o to)(hi:PE X i ti)(hs:PSet X t)
  (ha:∀ v,assign (.Subscript o i pos) X.env v=(do
   let ov <- holding [v] (eval o X.env)
   let iv <- holding [v,ov] (eval i X.env)
   standAt pos
   holding [v,ov,iv] (setItem ov iv v)
   release [v,ov,iv] []):=by intro _;rfl):PG X (.Subscript o i pos) (gSub to ti t):=by
 intro pins s σ H v u Q I r h
 rw[ha]
 refine aj (cz (thn (ho pins s σ H _ I h) fun ov s1 ⟨x,H1,I1,r1,q1⟩=>?_))
 refine aj (cz (thn (hi pins s1 σ H1 _ I1 q1) fun iv s2 ⟨y,H2,I2,r2,q2⟩=>?_))
 refine aj (wpAny_standAt (aj (cz (thn (hs pins s2 σ H2 x y v ov iv u _ I2 r1 r2 r q2) fun _ s3 ⟨H3,I3,q3⟩=>?_))))
 exact wpAny_release ⟨σ,H3,I3,q3⟩
def tAsg(te:TE)(g:TG):TS:=fun D σ H=>te σ H fun x H1=>g x σ H1 D.nx
theorem ps_asg{tg e:Expr}{te:TE}{g:TG}(he:PE X e te)(hg:PG X tg g)(hs:swapsWithSole [tg] e pos.line X.env=pure false:=by rfl)(hw:swappedStores [tg] e X.env=pure af:=by rfl)
  (h1:(ck [tg] X.env).map (·.2)=[assign tg X.env]:=by rfl):PS X (.Assign [tg] e pos) (tAsg te g):=by
 intro pins s σ H D I h
 refine wpAny_Assign_stores (thn (he pins s σ H _ I h) fun v s1 ⟨x,H1,I1,r1,q1⟩=>?_) hs hw
 rw[h1]
 exact thn (hg pins s1 σ H1 x v _ I1 r1 q1) fun _ s2 q=>q
theorem ps_set{i:Nat}{x:Str}{e:Expr}{te:TE}{pos':Pos}(hN:X.N.Nodup)(hi:X.N[i]? = ae x)(hx:Loc X.env.scope x)(he:PE X e te)(hs:swapsWith e (ae (.Name x pos')) pos.line X.env=pure false:=by rfl)(hf:X.fn x=true \/ X.env.scope.names.lookup x=ae .local:=by first | exact .inl rfl | exact .inr rfl | assumption) :
  PS X (.Assign [.Name x pos'] e pos) (tAsg te (zgo i)):=by
 intro pins s σ H D I h
 refine wpAny_Assign_Name (thn (he pins s σ H _ I h) fun v s1 ⟨y,H1,I1,r1,q1⟩=>?_) hs
 exact zfE I1 hN hi hx r1 (fun s2 I2=>⟨_,H1,I2,q1⟩) hf
end
section
variable {X:Cx}{pos:Pos}
def tWhile(c:TT)(tb:TS):TS:=fun D σ H=>∃ W:Nat->St->Hp->Prop,(∃ m,W m σ H)/\∀ m σ H,W m σ H ->
 c σ H fun b H1=>if b=true then ∃ N:St->Hp->Prop,(∀ σ' H',N σ' H'->∃ m',m'<m/\W m' σ' H')/\tb { D with nx:=N,ct:=N,bk:=D.nx} σ H1 else D.nx σ H1
theorem ps_while{c:Expr}{body:List Stmt}{tc:TT}{tb:TS}(hp:PassesOwn (model X.prog X.w) X.A X.env X.xe)(hc:PT X c tc)(hb:PSs X body tb):PS X (.While c body [] pos) (tWhile tc tb):=by
 intro pins s σ H D I h
 obtain⟨W,⟨m0,w0⟩,turn⟩:=h
 refine wpAny_While (codeAny_whileLoop (fun n s'=>∃ σ' H',Inv X pins σ' H' s'/\W n σ' H') ?_ m0 ⟨σ,H,I,w0⟩)
 rintro n s1 ⟨σ1,H1,I1,w1⟩
 refine wpAny_passesOwn hp (thn (hc pins s1 σ1 H1 _ I1 (turn n σ1 H1 w1)) fun b s2 ⟨H2,I2,q2⟩=>?_)
 cases b with
 | true=>
  obtain⟨N,hN,q2⟩:=q2
  rw[if_pos rfl]
  refine wpAny_passesOwn hp (thn (hb pins s2 σ1 H2 _ I2 q2) fun f s3 q3=>?_)
  cases f with
  | next=>
   obtain⟨σ3,H3,I3,n3⟩:=q3
   obtain⟨m',hm,w3⟩:=hN σ3 H3 n3
   exact⟨m',hm,σ3,H3,I3,w3⟩
  | cont=>
   obtain⟨σ3,H3,I3,n3⟩:=q3
   obtain⟨m',hm,w3⟩:=hN σ3 H3 n3
   exact⟨m',hm,σ3,H3,I3,w3⟩
  | brk=>exact q3
  | ret v=>exact q3
 | false=>
  rw[if_neg aU]
  exact wpAny_execs_nil ⟨σ1,H2,I2,q2⟩
end
structure It where
 go:Nat->Hp->Prop
 yld:Nat->Hp->V->Hp->Prop
 stop:Nat->Hp->Prop
def ze0(X:Cx)(pins:List (ai × Obj))(H:Hp)(b:ai):Prop:=
 H b=af/\b ≠ X.env.locals/\b ∉ X.fs/\(b ∈ X.ex \/ X.s₀.heap.objs.size<=b)/\(∀ x c,X.env.cells.lookup x=ae c->c ≠ b)/\∀ p ∈ X.pn ++ pins,p.1 ≠ b
theorem Inv.fpOk{X:Cx}{pins:List (ai × Obj)}{σ:St}{H H':Hp}{s:am}{b:ai}(I:Inv X pins σ H s)(hb:s.heap.objs.size<=b)(hn:H' b=af):ze0 X pins H' b:=by
 refine⟨hn,eS (bn I.lt hb),I.nofs hb,.inr (bK I.sz hb),fun x c e z=>?_,fun p hp z=>?_⟩
 ·obtain⟨v,q⟩:=I.cell x c e
  exact absurd (bn q.lt (by rw[z];exact hb)) (bT _)
 ·exact absurd (bn (aK (I.pin p hp).1) (by rw[z];exact hb)) (bT _)
structure Turn(P:aR)(w:aX)(K:ak)(tg:Expr)(J:It)(fp:List ai)(it:ai)(tn:Nat->aW->Prop):Prop where
 mem:it ∈ fp
 obj:∀ i h,tn i h->∀ b ∈ fp,∃ o,h.get? b=ae o/\∀ v,o.data ≠ .cell v
 keep:∀ i h h',tn i h->(∀ b ∈ fp,∀ o,h.get? b=ae o->h'.get? b=ae o)->tn i h'
 item:∀ (X:Cx),X.prog=P->X.w=w->X.K=K->X.calm=true->∀ (i:Nat) (pins:List (ai × Obj)) (s:am) (σ:St) (H:Hp) (E:ag->am->Prop),Inv X pins σ H s->(∀ b ∈ fp,ze0 X pins H b)->tn i s.heap->J.go i H ->
  ay (model P w) X.A (pyNext (.ref it)) (fun r s1=>∃ u,r=ae u /\
   ay (model P w) X.A (letOwnedTupleGo tg (.ref it) u) (fun _ s2=>∃ x H',Inv X pins σ H' s2/\RelV x u/\J.yld i H x H'/\tn (i+1) s2.heap/\∀ b ∈ fp,H' b=af) E s1) E s
 done:∀ (X:Cx),X.prog=P->X.w=w->X.K=K->X.calm=true->∀ (i:Nat) (pins:List (ai × Obj)) (s:am) (σ:St) (H:Hp) (E:ag->am->Prop),Inv X pins σ H s->(∀ b ∈ fp,ze0 X pins H b)->tn i s.heap->J.stop i H ->
  ay (model P w) X.A (pyNext (.ref it)) (fun r s1=>r=af/\Inv X pins σ H s1) E s
 self:∀ (A:a8) (i:Nat) (s:am) (Q:ag->am->Prop) (E:ag->am->Prop),tn i s.heap->Q (.ref it) s->ay (model P w) A (pyIter (.ref it)) Q E s
abbrev TI:=St->Hp->(It->Hp->Prop)->Prop
def PIE(X:Cx)(pins:List (ai × Obj))(σ:St)(tg:Expr)(R:It->Hp->Prop)(itv:ag)(s2:am):Prop:=
 ∃ (it:ai) (fp:List ai) (tn:Nat->aW->Prop) (J:It) (H':Hp),itv=.ref it/\Inv X pins σ H' s2/\Turn X.prog X.w X.K tg J fp it tn/\tn 0 s2.heap/\(∀ b ∈ fp,ze0 X pins H' b)/\R J H'
def PI(X:Cx)(tg iter:Expr)(wi:TI):Prop:=
 ∀ (pins:List (ai × Obj)) (s:am) (σ:St) (H:Hp) (R:It->Hp->Prop),Inv X pins σ H s->wi σ H R ->
  ay (model X.prog X.w) X.A (eval iter X.env) (fun v s1=>ay (model X.prog X.w) X.A (pyIter v) (PIE X pins σ tg R) X.xe s1) X.xe s
theorem go_of{M:Model}{A:a8}{E:ag->am->Prop}{s:am}{tg:Expr}{it:ai}{u:ag}{o:Obj}{n:String}{vs:Array ag}{Q:Unit->am->Prop}(ho:s.heap.get? it=ae o)(hc:o.cls=.type n)(hd:o.data=.fields vs)
    (hn:["enumerate","zip","dict_itemiterator","dict_reverseitemiterator","odict_iterator","itertools.zip_longest","itertools.pairwise"].contains n=false) (hQ:Q () s):ay M A (letOwnedTupleGo tg (.ref it) u) Q E s:=by
  unfold letOwnedTupleGo
  cases tg <;> first
    | exact aw hQ
    | (cases u <;> first
        | exact aw hQ
        | (refine aj (wpAny_load ho ?_)
           rw[hc,hd]
           show ay M A (if (["enumerate","zip","dict_itemiterator","dict_reverseitemiterator","odict_iterator","itertools.zip_longest","itertools.pairwise"].contains n && vs[0]? == ae (rawInt _))=true then _ else _) Q E s
           rw[if_neg (by intro h;rw[hn,fI] at h;cases h)]
           exact aw hQ))
def Itl(K:ak)(a:ai):It:=
 ⟨fun i H=>∃ xs x,SqL K H a xs/\xs[i]? = ae x,fun i H x H'=>H'=H/\∀ xs,SqL K H a xs->xs[i]? = ae x,fun i H=>∃ xs,SqL K H a xs/\xs.length<=i⟩
def Itt(K:ak)(a:ai):It:=
 ⟨fun i H=>∃ xs x,SqT K H a xs/\xs[i]? = ae x,fun i H x H'=>H'=H/\∀ xs,SqT K H a xs->xs[i]? = ae x,fun i H=>∃ xs,SqT K H a xs/\xs.length<=i⟩
def Itr(lo:Int)(n:Nat):It:=⟨fun i _=>i<n,fun i H x H'=>H'=H/\x=.int (lo+i),fun i _=>n<=i⟩
theorem zhM{P:aR}{w:aX}{K:ak}{tg:Expr}(a it:ai):Turn P w K tg (Itl K a) [it] it (fun i h=>h.IsListIter it a i) where
 mem:=by simp
 obj:=fun i h st b hb=>by
  have e:b=it:=by simpa using hb
  subst e
  obtain⟨o,e,c,d⟩:=st
  exact⟨o,e,fun v z=>by rw[d] at z;cases z⟩
 keep:=fun i h h' st k=>st.at fun o e=>k it (by simp) o e
 item:=by
  intro X hP hw hK hc i pins s σ H E I hf st hg
  subst hP hw hK
  obtain⟨xs,x,hq,hx⟩:=hg
  obtain⟨its,rv,p,hz⟩:=I.list hq
  obtain⟨u,hu,ru⟩:=rv.get hx
  obtain⟨f0,f1,f2,f3,f4,f5⟩:=hf it (by simp)
  refine wpAny_pyNext_list_item st p.isList (x:=u) (by simpa using hu) fun h' st' sb=>?_
  have I1:Inv X pins σ H { s with heap:=h'}:=I.turned (t':=s.toks) (fun b o hb e=>(sb.2 b hb).trans e) f0 f1 f3 f4 f5
  obtain⟨o,e,c,d⟩:=id st'
  exact⟨u,rfl,go_of (s:={ s with heap:=h'}) e c d (by decide) ⟨x,H,I1,ru,⟨rfl,fun ys hy=>by rw[I.list_inj hy hq];exact hx⟩,st',fun b hb=>(hf b hb).1⟩⟩
 done:=by
  intro X hP hw hK hc i pins s σ H E I hf st hg
  subst hP hw hK
  obtain⟨xs,hq,hx⟩:=hg
  obtain⟨its,rv,p,hz⟩:=I.list hq
  obtain⟨f0,f1,f2,f3,f4,f5⟩:=hf it (by simp)
  have hl:=rv.length
  exact wpAny_pyNext_list_end (I.ok.hd hc) st p.isList (by simp;lia) fun h' eb=>⟨rfl,I.turned (t':=s.toks) (fun b o hb e=>eb b o hb e) f0 f1 f3 f4 f5⟩
 self:=fun _ _ _ _ _ st h=>wpAny_pyIter_listiter st h
theorem zgI{P:aR}{w:aX}{K:ak}{tg:Expr}(a it:ai):Turn P w K tg (Itt K a) [it] it (fun i h=>h.IsTupleIter it a i) where
 mem:=by simp
 obj:=fun i h st b hb=>by
  have e:b=it:=by simpa using hb
  subst e
  obtain⟨o,e,c,d⟩:=st
  exact⟨o,e,fun v z=>by rw[d] at z;cases z⟩
 keep:=fun i h h' st k=>st.at fun o e=>k it (by simp) o e
 item:=by
  intro X hP hw hK hc i pins s σ H E I hf st hg
  subst hP hw hK
  obtain⟨xs,x,hq,hx⟩:=hg
  obtain⟨its,rv,p,hz⟩:=I.tuple hq
  obtain⟨u,hu,ru⟩:=rv.get hx
  obtain⟨f0,f1,f2,f3,f4,f5⟩:=hf it (by simp)
  refine wpAny_pyNext_tuple_item st (show s.heap.IsTuple a its.toArray from p) (x:=u) (by simpa using hu) fun h' st' sb=>?_
  have I1:Inv X pins σ H { s with heap:=h'}:=I.turned (t':=s.toks) (fun b o hb e=>(sb.2 b hb).trans e) f0 f1 f3 f4 f5
  obtain⟨o,e,c,d⟩:=id st'
  exact⟨u,rfl,go_of (s:={ s with heap:=h'}) e c d (by decide) ⟨x,H,I1,ru,⟨rfl,fun ys hy=>by rw[I.tuple_inj hy hq];exact hx⟩,st',fun b hb=>(hf b hb).1⟩⟩
 done:=by
  intro X hP hw hK hc i pins s σ H E I hf st hg
  subst hP hw hK
  obtain⟨xs,hq,hx⟩:=hg
  obtain⟨its,rv,p,hz⟩:=I.tuple hq
  obtain⟨f0,f1,f2,f3,f4,f5⟩:=hf it (by simp)
  have hl:=rv.length
  exact wpAny_pyNext_tuple_end (I.ok.hd hc) st (show s.heap.IsTuple a its.toArray from p) (by simp;lia) fun h' eb=>⟨rfl,I.turned (t':=s.toks) (fun b o hb e=>eb b o hb e) f0 f1 f3 f4 f5⟩
 self:=fun _ _ _ _ _ st h=>wpAny_pyIter_tupleiter st h
theorem zjf{P:aR}{w:aX}{K:ak}{tg:Expr}(it:ai)(lo:Int)(n:Nat):Turn P w K tg (Itr lo n) [it] it (fun i h=>IsRangeIter h it (lo+(i:Nat) * 1) ((n:Int) - (i:Nat)) 1) where
 mem:=by simp
 obj:=fun i h st b hb=>by
  have e:b=it:=by simpa using hb
  subst e
  exact⟨_,st,fun v z=>by
   have z':gT _=fN v:=z
   cases z'⟩
 keep:=fun i h h' st k=>k it (by simp) _ st
 item:=by
  intro X hP hw hK hc i pins s σ H E I hf st hg
  subst hP hw hK
  obtain⟨f0,f1,f2,f3,f4,f5⟩:=hf it (by simp)
  have W:=Walks.range (prog:=X.prog) (w:=X.w) (I.ok.hd hc) it lo 1 n
  refine W.item i s _ _ hg st fun v h' tk hv st' kk=>?_
  obtain⟨t,rfl⟩:=hv
  have I1:Inv X pins σ H { s with heap:=h',toks:=tk}:=I.turned (fun b o hb e=>kk b o (by simpa using hb) e) f0 f1 f3 f4 f5
  refine⟨_,rfl,go_of (s:={ s with heap:=h',toks:=tk}) (n:= "range_iterator") st' rfl rfl (by decide) ⟨.int (lo+i),H,I1,⟨t,?_⟩,⟨rfl,rfl⟩,st',fun b hb=>(hf b hb).1⟩⟩
  rw[Int.mul_one]
 done:=by
  intro X hP hw hK hc i pins s σ H E I hf st hg
  subst hP hw hK
  obtain⟨f0,f1,f2,f3,f4,f5⟩:=hf it (by simp)
  exact wpAny_pyNext_range_end (I.ok.hd hc) st (by have:n<=i:=hg;lia) fun h' eb=>⟨rfl,I.turned (t':=s.toks) (fun b o hb e=>eb b o hb e) f0 f1 f3 f4 f5⟩
 self:=fun _ _ _ _ _ st h=>wpAny_pyIter_rangeiter st h
end L2
namespace L2
open PySem PySem.Spec PyProof.Rows
section
variable {X:Cx}{tg:Expr}
def iList(K:ak)(tl:TE):TI:=fun σ H R=>tl σ H fun x H1=>∃ a,x=.ref a/\(∃ xs,SqL K H1 a xs)/\R (Itl K a) H1
def iTup(K:ak)(tl:TE):TI:=fun σ H R=>tl σ H fun x H1=>∃ a,x=.ref a/\(∃ xs,SqT K H1 a xs)/\R (Itt K a) H1
theorem pi_list{l:Expr}{tl:TE}(hl:PE X l tl):PI X tg l (iList X.K tl):=by
 intro pins s σ H R I h
 refine thn (hl pins s σ H _ I h) fun v s1 ⟨x,H1,I1,r1,q1⟩=>?_
 obtain⟨a,e,⟨xs,hq⟩,q⟩:=q1
 subst e
 cases r1
 obtain⟨its,rv,p,hz⟩:=I1.list hq
 refine wpAny_pyIter_list p.isList ?_
 refine⟨s1.heap.objs.size,[s1.heap.objs.size],_,_,H1,rfl,I1.kept (t':=s1.toks) fun b o e=>aq _ e,zhM a _,⟨_,az _ rfl,rfl,rfl⟩,fun b hb=>?_,q⟩
 have e:b=s1.heap.objs.size:=by simpa using hb
 subst e
 exact I1.fpOk (aA _) (I1.hok.fresh (aA _))
theorem pi_tup{l:Expr}{tl:TE}(hl:PE X l tl):PI X tg l (iTup X.K tl):=by
 intro pins s σ H R I h
 refine thn (hl pins s σ H _ I h) fun v s1 ⟨x,H1,I1,r1,q1⟩=>?_
 obtain⟨a,e,⟨xs,hq⟩,q⟩:=q1
 subst e
 cases r1
 obtain⟨its,rv,p,hz⟩:=I1.tuple hq
 refine wpAny_pyIter_tuple (show s1.heap.IsTuple a its.toArray from p) ?_
 refine⟨s1.heap.objs.size,[s1.heap.objs.size],_,_,H1,rfl,I1.kept (t':=s1.toks) fun b o e=>aq _ e,zgI a _,⟨_,az _ rfl,rfl,rfl⟩,fun b hb=>?_,q⟩
 have e:b=s1.heap.objs.size:=by simpa using hb
 subst e
 exact I1.fpOk (aA _) (I1.hok.fresh (aA _))
theorem ziH{pins:List (ai × Obj)}{σ:St}{H:Hp}{s:am}{R:It->Hp->Prop}{E:ag->am->Prop}{lo hi:Int}{t u v:Tok}{tk:Nat}(I:Inv X pins σ H s)(h1:-(2 ^ 62)<=lo)(h2:lo<2 ^ 62)(h3:-(2 ^ 62)<=hi)(h4:hi<2 ^ 62)
  (q:R (Itr lo (hi - lo).toNat) H):ay (model X.prog X.w) X.A (pyIter (.ref s.heap.objs.size)) (PIE X pins σ tg R) E { s with heap:=s.heap.push { cls:=.type "range",data:=.fields #[.int lo t,.int hi u,.int 1 v]},toks:=tk}:=by
 refine wpAny_pyIter_range (IsRange.new ..) (small_one h1 h2 h3 h4) ?_
 have I1:Inv X pins σ H { s with heap:=s.heap.push { cls:=.type "range",data:=.fields #[.int lo t,.int hi u,.int 1 v]},toks:=tk}:=I.kept fun b o e=>aq _ e
 refine⟨(s.heap.push { cls:=.type "range",data:=.fields #[.int lo t,.int hi u,.int 1 v]}).objs.size,[(s.heap.push { cls:=.type "range",data:=.fields #[.int lo t,.int hi u,.int 1 v]}).objs.size],_,_,H,rfl,
  I1.kept (t':=tk) fun b o e=>aq _ e,zjf _ lo (hi - lo).toNat,?_,fun b hb=>?_,q⟩
 ·have e1:lo+((0:Nat):Int) * 1=lo:=by simp
  have e2:(((hi - lo).toNat:Nat):Int) - ((0:Nat):Int)=jZ lo hi 1:=by rw[rangeSize_one];split <;> lia
  show IsRangeIter _ _ (lo+((0:Nat):Int) * 1) ((((hi - lo).toNat:Nat):Int) - ((0:Nat):Int)) 1
  rw[e1,e2]
  exact az _ rfl
 ·have e:b=(s.heap.push { cls:=.type "range",data:=.fields #[.int lo t,.int hi u,.int 1 v]}).objs.size:=by simpa using hb
  subst e
  exact I1.fpOk (aA _) (I1.hok.fresh (aA _))
def iRng1(ta:TA):TI:=fun σ H R=>ta σ H fun vs H1=>∃ j:Int,vs=[.int j] /\ -(2 ^ 62)<=j/\j<2 ^ 62/\R (Itr 0 j.toNat) H1
def iRng2(ta:TA):TI:=fun σ H R=>ta σ H fun vs H1=>∃ i j:Int,vs=[.int i,.int j]/\(-(2 ^ 62)<=i/\i<2 ^ 62 /\ -(2 ^ 62)<=j/\j<2 ^ 62)/\R (Itr i (j - i).toNat) H1
theorem pi_range1{a:Expr}{ta:TA}{p pos:Pos}(hg:Gl X "range")(hm:X.mg "range" = af)(ha:PA X [a] ta)(hs:aY [a] X.env=[(false,eval a X.env)]:=by rfl):PI X tg (.Call (.Name "range" p) [a] [] pos) (iRng1 ta):=by
 intro pins s σ H R I h
 refine Call_ (zei I hg hm boot_range (bV (thn (ha pos pins s σ H _ I h) fun us s1 ⟨vs,H1,I1,r1,q1⟩=>?_) hs rfl))
 obtain⟨j,e,q1,q2,q⟩:=q1
 subst e
 cases r1 with
 | cons r rr=>
  cases rr
  obtain⟨t,rfl⟩:=r
  exact call_range_1 (ziH I1 (by lia) (by lia) q1 q2 (by simpa using q))
theorem pi_range2{a b:Expr}{ta:TA}{p pos:Pos}(hg:Gl X "range")(hm:X.mg "range" = af)(ha:PA X [a,b] ta)(hs:aY [a,b] X.env=[(false,eval a X.env),(false,eval b X.env)]:=by rfl)(hs2:aY [b] X.env=[(false,eval b X.env)]:=by rfl) :
  PI X tg (.Call (.Name "range" p) [a,b] [] pos) (iRng2 ta):=by
 intro pins s σ H R I h
 refine Call_ (zei I hg hm boot_range (bV (thn (ha pos pins s σ H _ I h) fun us s1 ⟨vs,H1,I1,r1,q1⟩=>?_) (by rw[hs,hs2]) (by rw[hs2];rfl)))
 obtain⟨i,j,e,⟨q1,q2,q3,q4⟩,q⟩:=q1
 subst e
 cases r1 with
 | cons r rr=>
  cases rr with
  | cons r' rr=>
   cases rr
   obtain⟨t,rfl⟩:=r
   obtain⟨t',rfl⟩:=r'
   exact call_range_2 (ziH I1 q1 q2 q3 q4 q)
def tFor(wi:TI)(g:TG)(tb:TS):TS:=fun D σ H=>wi σ H fun J H1=>∃ W:Nat->Nat->St->Hp->Prop,(∃ m,W 0 m σ H1)/\∀ i m σ H,W i m σ H ->
 (J.stop i H/\D.nx σ H) \/ (J.go i H/\∃ N:St->Hp->Prop,(∀ σ' H',N σ' H'->∃ m',m'<m/\W (i+1) m' σ' H')/\∀ x H',J.yld i H x H'->g x σ H' fun σ2 H2=>tb { D with nx:=N,ct:=N,bk:=D.nx} σ2 H2)
def zfK(fp:List ai)(h:aW):List (ai × Obj):=fp.filterMap fun b=>(h.get? b).map fun o=>(b,o)
theorem zdf{fp:List ai}{h:aW}{b:ai}{o:Obj}(hb:b ∈ fp)(e:h.get? b=ae o):(b,o) ∈ zfK fp h:=dB.mpr ⟨b,hb,by rw[e];rfl⟩
theorem of_pinsAt{fp:List ai}{h:aW}{p:ai × Obj}(hp:p ∈ zfK fp h):p.1 ∈ fp/\h.get? p.1=ae p.2:=by
 obtain⟨b,hb,e⟩:=dB.mp hp
 cases q:h.get? b with
 | none=>rw[q] at e;cases e
 | some o=>
  rw[q] at e
  have e':(b,o)=p:=bc e
  subst e'
  exact⟨hb,q⟩
theorem Inv.pinned{pins:List (ai × Obj)}{σ:St}{H:Hp}{s:am}{fp:List ai}(I:Inv X pins σ H s)(hf:∀ b ∈ fp,ze0 X pins H b)(ho:∀ b ∈ fp,∃ o,s.heap.get? b=ae o/\∀ v,o.data ≠ .cell v):Inv X (pins ++ zfK fp s.heap) σ H s:=
 I.pins_of fun p hp=>(b6.mp hp).elim (fun z=>I.pin p (aS _ z)) fun z=>by
  obtain⟨hb,e⟩:=of_pinsAt z
  obtain⟨f0,f1,f2,_⟩:=hf p.1 hb
  obtain⟨o,e',d⟩:=ho p.1 hb
  rw[e] at e';cases e'
  exact⟨e,f0,f1,f2,d⟩
theorem Inv.unpinned{pins pl:List (ai × Obj)}{σ:St}{H:Hp}{s:am}(I:Inv X (pins ++ pl) σ H s):Inv X pins σ H s:=I.pins_of fun p hp=>I.pin p (aS _ (b9 _ hp))
theorem ps_for{iter:Expr}{body:List Stmt}{wi:TI}{g:TG}{tb:TS}{pos:Pos}(hp:PassesOwn (model X.prog X.w) X.A X.env X.xe)(hc:X.calm=true)(hi:PI X tg iter wi)(hg:PG X tg g)(hb:PSs X body tb)
  (hs:∀ x,bW iter X.env x=pure x:=by intro _;rfl):PS X (.For tg iter body [] pos) (tFor wi g tb):=by
 intro pins s σ H D I h
 refine wpAny_For (thn (hi pins s σ H _ I h) fun v s1 h1=>thn h1 fun itv s2 h2=>?_) hs
 obtain⟨it,fp,tn,J,H2,e,I2,T,st2,f2,W,⟨m0,w0⟩,turn⟩:=h2
 subst e
 have stat:∀ {H':Hp},(∀ b ∈ fp,H' b=af)->∀ b ∈ fp,ze0 X pins H' b:=fun hn b hb=>⟨hn b hb,(f2 b hb).2⟩
 refine codeAny_forLoop_any (fun n s'=>∃ i σ' H',Inv X pins σ' H' s'/\tn i s'.heap/\(∀ b ∈ fp,H' b=af)/\W i n σ' H') ?_ m0 ⟨0,σ,H2,I2,st2,fun b hb=>(f2 b hb).1,w0⟩
 rintro n s3 ⟨i,σ3,H3,I3,st3,fr3,w3⟩
 rcases turn i n σ3 H3 w3 with ⟨stop,qn⟩ | ⟨go,N,hN,step⟩
 ·refine wpAny_passesOwn hp (thn (T.done X rfl rfl rfl hc i pins s3 σ3 H3 X.xe I3 (stat fr3) st3 stop) fun r s4 ⟨hr,I4⟩=>?_)
  subst hr
  exact wpAny_execs_nil ⟨σ3,H3,I4,qn⟩
 ·refine wpAny_passesOwn hp (thn (T.item X rfl rfl rfl hc i pins s3 σ3 H3 X.xe I3 (stat fr3) st3 go) fun r s4 ⟨u,hr,h4⟩=>?_)
  subst hr
  refine wpAny_passesOwn hp (thn h4 fun _ s5 ⟨x,H5,I5,r5,y5,st5,fr5⟩=>?_)
  have I5':=I5.pinned (stat fr5) (T.obj _ _ st5)
  refine wpAny_passesOwn hp (thn (hg _ s5 σ3 H5 x u _ I5' r5 (step x H5 y5)) fun _ s6 ⟨σ6,H6,I6,q6⟩=>?_)
  refine wpAny_passesOwn hp (thn (hb _ s6 σ6 H6 _ I6 q6) fun f s7 q7=>?_)
  have again:∀ {σ7:St} {H7:Hp},Inv X (pins ++ zfK fp s5.heap) σ7 H7 s7->N σ7 H7->∃ m,m<n/\∃ i σ' H',Inv X pins σ' H' s7/\tn i s7.heap/\(∀ b ∈ fp,H' b=af)/\W i m σ' H':=fun {σ7 H7} I7 n7=>by
   obtain⟨m',hm,w7⟩:=hN σ7 H7 n7
   refine⟨m',hm,i+1,σ7,H7,I7.unpinned,T.keep _ _ _ st5 fun b hb o e=>(I7.pin (b,o) (aS _ (aS _ (zdf hb e)))).1,fun b hb=>?_,w7⟩
   obtain⟨o,e,d⟩:=T.obj _ _ st5 b hb
   exact(I7.pin (b,o) (aS _ (aS _ (zdf hb e)))).2.1
  cases f with
  | next=>obtain⟨σ7,H7,I7,n7⟩:=q7;exact again I7 n7
  | cont=>obtain⟨σ7,H7,I7,n7⟩:=q7;exact again I7 n7
  | brk=>obtain⟨σ7,H7,I7,q7⟩:=q7;exact⟨σ7,H7,I7.unpinned,q7⟩
  | ret v=>obtain⟨x7,σ7,H7,I7,r7,q7⟩:=q7;exact⟨x7,σ7,H7,I7.unpinned,r7,q7⟩
end
end L2
namespace L2
open PySem PySem.Spec PyProof.Rows
abbrev R2:=V->V->Hp->VK->Prop
def OpR(X:Cx)(f:ag->ag->Sem ag)(r:R2):Prop:=
 ∀ (pins:List (ai × Obj)) (s:am) (σ:St) (H:Hp) (x y:V) (v u:ag) (Q:VK),Inv X pins σ H s->RelV x v->RelV y u->r x y H Q ->
  ay (model X.prog X.w) X.A (f v u) (EP X pins σ Q) X.xe s
def UnR(X:Cx)(f:ag->Sem ag)(r:V->Hp->VK->Prop):Prop:=
 ∀ (pins:List (ai × Obj)) (s:am) (σ:St) (H:Hp) (x:V) (v:ag) (Q:VK),Inv X pins σ H s->RelV x v->r x H Q ->
  ay (model X.prog X.w) X.A (f v) (EP X pins σ Q) X.xe s
def zgn(X:Cx)(f:ag)(r:List V->Hp->VK->Prop):Prop:=
 ∀ (pins:List (ai × Obj)) (s:am) (σ:St) (H:Hp) (xs:List V) (us:List ag) (Q:VK),Inv X pins σ H s->Vals xs us->r xs H Q ->
  ay (model X.prog X.w) X.A (call f us) (EP X pins σ Q) X.xe s
def tOp(r:R2)(ta tb:TE):TE:=fun σ H Q=>ta σ H fun x H1=>tb σ H1 fun y H2=>r x y H2 Q
def tUn(r:V->Hp->VK->Prop)(ta:TE):TE:=fun σ H Q=>ta σ H fun x H1=>r x H1 Q
def rI(C:Int->Int->Prop)(g:Int->Int->V):R2:=fun x y H Q=>∃ i j,x=.int i/\y=.int j/\C i j/\Q (g i j) H
def rI0(g:Int->Int->V):R2:=fun x y H Q=>∃ i j,x=.int i/\y=.int j/\Q (g i j) H
def rU(g:Int->V):V->Hp->VK->Prop:=fun x H Q=>∃ i,x=.int i/\Q (g i) H
section
variable {X:Cx}{a b c:Expr}{ta tb tc:TE}{pos:Pos}
theorem binT(ha:PE X a ta)(hb:PE X b tb){pins:List (ai × Obj)}{s:am}{σ:St}{H:Hp}{R:V->V->Hp->Prop}(I:Inv X pins σ H s)
  (h:ta σ H fun x H1=>tb σ H1 fun y H2=>R x y H2) {Q:ag->am->Prop} {f:ag->ag->Sem ag}
  (hf:∀ v u s2 x y H2,Inv X pins σ H2 s2->RelV x v->RelV y u->R x y H2->ay (model X.prog X.w) X.A (f v u) Q X.xe s2) :
  ay (model X.prog X.w) X.A (eval a X.env) (fun v s₁=>ay (model X.prog X.w) X.A (eval b X.env) (fun u s₂=>ay (model X.prog X.w) X.A (f v u) Q X.xe s₂) X.xe s₁) X.xe s:=by
 refine thn (ha pins s σ H _ I h) fun v s1 ⟨x,H1,I1,r1,q1⟩=>?_
 refine thn (hb pins s1 σ H1 _ I1 q1) fun u s2 ⟨y,H2,I2,r2,q2⟩=>?_
 exact hf v u s2 x y H2 I2 r1 r2 q2
theorem pe_op{op:Operator}{r:R2}(ho:OpR X (binaryOp op) r)(ha:PE X a ta)(hb:PE X b tb):PE X (.BinOp a op b pos) (tOp r ta tb):=by
 intro pins s σ H Q I h
 exact wpAny_BinOp (binT ha hb I h fun v u s2 x y H2 I2 rx ry q=>ho pins s2 σ H2 x y v u Q I2 rx ry q)
theorem pe_un{op:UnaryOp}{r:V->Hp->VK->Prop}(ho:UnR X (unaryOp op) r)(ha:PE X a ta):PE X (.UnaryOp op a pos) (tUn r ta):=by
 intro pins s σ H Q I h
 exact UnaryOp_ (thn (ha pins s σ H _ I h) fun v s1 ⟨x,H1,I1,r1,q1⟩=>ho pins s1 σ H1 x v Q I1 r1 q1)
theorem opI{f:ag->ag->Sem ag}{C:Int->Int->Prop}{g:Int->Int->Int}
  (rule:∀ (i j:Int) (t u:Tok) (s:am) (Q:ag->am->Prop) (E:ag->am->Prop),C i j->Q (.int (g i j) s.toks) { s with toks:=s.toks+1}->ay (model X.prog X.w) X.A (f (.int i t) (.int j u)) Q E s) :
  OpR X f (rI C fun i j=>.int (g i j)):=by
 intro pins s σ H x y v u Q I rx ry h
 obtain⟨i,j,rfl,rfl,hc,q⟩:=h
 obtain⟨t,rfl⟩:=rx
 obtain⟨t',rfl⟩:=ry
 exact rule i j t t' s _ _ hc ⟨.int (g i j),H,I.tok _,⟨_,rfl⟩,q⟩
theorem opI0{f:ag->ag->Sem ag}{g:Int->Int->Int}
  (rule:∀ (i j:Int) (t u:Tok) (s:am) (Q:ag->am->Prop) (E:ag->am->Prop),Q (.int (g i j) s.toks) { s with toks:=s.toks+1}->ay (model X.prog X.w) X.A (f (.int i t) (.int j u)) Q E s) :
  OpR X f (rI0 fun i j=>.int (g i j)):=by
 intro pins s σ H x y v u Q I rx ry h
 obtain⟨i,j,rfl,rfl,q⟩:=h
 obtain⟨t,rfl⟩:=rx
 obtain⟨t',rfl⟩:=ry
 exact rule i j t t' s _ _ ⟨.int (g i j),H,I.tok _,⟨_,rfl⟩,q⟩
theorem opB0{f:ag->ag->Sem ag}{g:Int->Int->Bool}
  (rule:∀ (i j:Int) (t u:Tok) (s:am) (Q:ag->am->Prop) (E:ag->am->Prop),Q (.bool (g i j)) s->ay (model X.prog X.w) X.A (f (.int i t) (.int j u)) Q E s) :
  OpR X f (rI0 fun i j=>.bl (g i j)):=by
 intro pins s σ H x y v u Q I rx ry h
 obtain⟨i,j,rfl,rfl,q⟩:=h
 obtain⟨t,rfl⟩:=rx
 obtain⟨t',rfl⟩:=ry
 exact rule i j t t' s _ _ ⟨.bl (g i j),H,I,rfl,q⟩
def CDiv(i j:Int):Prop:=0<j/\j<1073741824
def CPow(i j:Int):Prop:=0<=j/\j<=1000000/\i.natAbs<2 ^ 64
def CMul(i j:Int):Prop:=(-(2 ^ 64)<i/\i<2 ^ 64) \/ (-(2 ^ 64)<j/\j<2 ^ 64)
theorem CMul.ok{i j:Int}(h:CMul i j):IntMulOk i j:=by
 rcases h with ⟨h1,h2⟩ | ⟨h1,h2⟩
 ·exact .of_left (intBits_le_64 h1 h2)
 ·exact .of_right (intBits_le_64 h1 h2)
theorem op_add:OpR X (binaryOp .Add) (rI0 fun i j=>.int (i+j)):=opI0 fun _ _ _ _ _ _ _ q=>add_int q
theorem op_sub:OpR X (binaryOp .Sub) (rI0 fun i j=>.int (i - j)):=opI0 fun _ _ _ _ _ _ _ q=>sub_int q
theorem op_mul:OpR X (binaryOp .Mult) (rI CMul fun i j=>.int (i * j)):=opI fun _ _ _ _ _ _ _ hc q=>mul_int q hc.ok
theorem op_fdiv:OpR X (binaryOp .FloorDiv) (rI CDiv fun i j=>.int (i / j)):=opI fun i j _ _ _ _ _ hc q=>by
 have h1:(0:Int)<j:=hc.1
 have h2:j<1073741824:=hc.2
 exact floordiv_int (by lia) (by rw[Int.fdiv_eq_ediv_of_nonneg i (by lia)];exact q) (.inl (PyProof.noPylong_small (by lia)))
theorem op_mod:OpR X (binaryOp .Mod) (rI (fun _ j=>0<j) fun i j=>.int (i % j)):=opI fun i j _ _ _ _ _ hc q=>by
 have h1:(0:Int)<j:=hc
 exact mod_int' (by lia) (by rw[Int.fmod_eq_emod_of_nonneg i (by lia)];exact q)
theorem op_shl:OpR X (binaryOp .LShift) (rI CPow fun i j=>.int (i * 2 ^ j.toNat)):=opI fun _ _ _ _ _ _ _ hc q=>lshift_int_small hc.1 hc.2.1 hc.2.2 q
theorem op_and:OpR X (binaryOp .BitAnd) (rI0 fun i j=>.int (Builtin.bitAnd i j)):=opI0 fun _ _ _ _ _ _ _ q=>and_int q
theorem op_or:OpR X (binaryOp .BitOr) (rI0 fun i j=>.int (Builtin.bitOr i j)):=opI0 fun _ _ _ _ _ _ _ q=>or_int q
theorem unI{f:ag->Sem ag}{g:Int->Int}
  (rule:∀ (i:Int) (t:Tok) (s:am) (Q:ag->am->Prop) (E:ag->am->Prop),Q (.int (g i) s.toks) { s with toks:=s.toks+1}->ay (model X.prog X.w) X.A (f (.int i t)) Q E s) :
  UnR X f (rU fun i=>.int (g i)):=by
 intro pins s σ H x v Q I rx h
 obtain⟨i,rfl,q⟩:=h
 obtain⟨t,rfl⟩:=rx
 exact rule i t s _ _ ⟨.int (g i),H,I.tok _,⟨_,rfl⟩,q⟩
theorem un_neg:UnR X (unaryOp .USub) (rU fun i=>.int (-i)):=unI fun _ _ _ _ _ q=>neg_int q
end
def scal:V->V->Bool
 | .non,.non=>true | .non,.int _=>true | .int _,.non=>true | .non,.bl _=>true | .bl _,.non=>true | .non,.str _=>true | .str _,.non=>true
 | .int _,.int _=>true | .bl _,.bl _=>true | .str _,.str _=>true | .byt _,.byt _=>true
 | .int _,.str _=>true | .str _,.int _=>true | .bl _,.str _=>true | .str _,.bl _=>true
 | _,_=>false
def rEq:R2:=fun x y H Q=>scal x y=true/\Q (.bl (decide (x=y))) H
def rNe:R2:=fun x y H Q=>scal x y=true/\Q (.bl (!decide (x=y))) H
theorem dec_int{i j:Int}:decide (V.int i=V.int j)=(i == j):=by
 rw[dC]
 simp
theorem dec_bl{i j:Bool}:decide (V.bl i=V.bl j)=(i == j):=by
 rw[dC]
 simp
theorem dec_str{i j:Str}:decide (V.str i=V.str j)=(i == j):=by
 rw[dC]
 simp
theorem dec_byt{i j:Array UInt8}:decide (V.byt i=V.byt j)=(i.toList == j.toList):=by
 rw[dC]
 cases i
 cases j
 simp
section
variable {X:Cx}{a b c:Expr}{ta tb tc:TE}{pos:Pos}
theorem zaW{pins:List (ai × Obj)}{σ:St}{H:Hp}{s:am}{Q:VK}{k k':Bool}(I:Inv X pins σ H s)(q:Q (.bl k) H)(e:k=k'):EP X pins σ Q (.bool k') s:=by
 subst e
 exact⟨.bl k,H,I,rfl,q⟩
theorem op_eq:OpR X (bB .Eq) rEq:=by
 intro pins s σ H x y v u Q I rx ry h
 obtain⟨hs,q⟩:=h
 cases x with
 | non=>
  cases rx
  cases y with
  | non=>cases ry;exact jt (zaW I q (by simp))
  | bl j=>cases ry;exact ju (zaW I q (by simp))
  | int j=>obtain⟨t',rfl⟩:=ry;exact jG (zaW I q (by simp))
  | str j=>obtain⟨t',rfl⟩:=ry;exact jH (zaW I q (by simp))
  | _=>exact absurd (show false=true from hs) aU
 | bl i=>
  cases rx
  cases y with
  | non=>cases ry;exact jv (zaW I q (by simp))
  | bl j=>cases ry;exact eq_bool (zaW I q dec_bl)
  | str j=>obtain⟨t',rfl⟩:=ry;exact jw (zaW I q (by simp))
  | _=>exact absurd (show false=true from hs) aU
 | int i=>
  obtain⟨t,rfl⟩:=rx
  cases y with
  | non=>cases ry;exact jI (zaW I q (by simp))
  | int j=>obtain⟨t',rfl⟩:=ry;exact eq_int (zaW I q dec_int)
  | str j=>obtain⟨t',rfl⟩:=ry;exact jJ (zaW I q (by simp))
  | _=>exact absurd (show false=true from hs) aU
 | str i=>
  obtain⟨t,rfl⟩:=rx
  cases y with
  | non=>cases ry;exact jK (zaW I q (by simp))
  | bl j=>cases ry;exact jx (zaW I q (by simp))
  | int j=>obtain⟨t',rfl⟩:=ry;exact jL (zaW I q (by simp))
  | str j=>obtain⟨t',rfl⟩:=ry;exact eq_str (zaW I q dec_str)
  | _=>exact absurd (show false=true from hs) aU
 | byt i=>
  obtain⟨t,rfl⟩:=rx
  cases y with
  | byt j=>obtain⟨t',rfl⟩:=ry;exact PySem.W.eq_bytes (zaW I q dec_byt)
  | _=>exact absurd (show false=true from hs) aU
 | _=>cases y <;> exact absurd (show false=true from hs) aU
theorem op_ne:OpR X (bB .NotEq) rNe:=by
 intro pins s σ H x y v u Q I rx ry h
 obtain⟨hs,q⟩:=h
 cases x with
 | non=>
  cases rx
  cases y with
  | non=>cases ry;exact jy (zaW I q (by simp))
  | bl j=>cases ry;exact jz (zaW I q (by simp))
  | int j=>obtain⟨t',rfl⟩:=ry;exact jM (zaW I q (by simp))
  | str j=>obtain⟨t',rfl⟩:=ry;exact jN (zaW I q (by simp))
  | _=>exact absurd (show false=true from hs) aU
 | bl i=>
  cases rx
  cases y with
  | non=>cases ry;exact jA (zaW I q (by simp))
  | bl j=>cases ry;exact ne_bool (zaW I q (congrArg not dec_bl))
  | str j=>obtain⟨t',rfl⟩:=ry;exact jB (zaW I q (by simp))
  | _=>exact absurd (show false=true from hs) aU
 | int i=>
  obtain⟨t,rfl⟩:=rx
  cases y with
  | non=>cases ry;exact jO (zaW I q (by simp))
  | int j=>obtain⟨t',rfl⟩:=ry;exact ne_int (zaW I q (congrArg not dec_int))
  | str j=>obtain⟨t',rfl⟩:=ry;exact jP (zaW I q (by simp))
  | _=>exact absurd (show false=true from hs) aU
 | str i=>
  obtain⟨t,rfl⟩:=rx
  cases y with
  | non=>cases ry;exact jQ (zaW I q (by simp))
  | bl j=>cases ry;exact jC (zaW I q (by simp))
  | int j=>obtain⟨t',rfl⟩:=ry;exact jR (zaW I q (by simp))
  | str j=>obtain⟨t',rfl⟩:=ry;exact ne_str (zaW I q (congrArg not dec_str))
  | _=>exact absurd (show false=true from hs) aU
 | byt i=>
  obtain⟨t,rfl⟩:=rx
  cases y with
  | byt j=>obtain⟨t',rfl⟩:=ry;exact PySem.W.ne_bytes (zaW I q (congrArg not dec_byt))
  | _=>exact absurd (show false=true from hs) aU
 | _=>cases y <;> exact absurd (show false=true from hs) aU
theorem op_lt:OpR X (bB .Lt) (rI0 fun i j=>.bl (decide (i<j))):=opB0 fun _ _ _ _ _ _ _ q=>lt_int q
theorem op_le:OpR X (bB .LtE) (rI0 fun i j=>.bl (decide (i<=j))):=opB0 fun _ _ _ _ _ _ _ q=>le_int q
theorem op_gt:OpR X (bB .Gt) (rI0 fun i j=>.bl (decide (j<i))):=opB0 fun _ _ _ _ _ _ _ q=>gt_int q
theorem op_in_str:OpR X (bB .In) (fun x y H Q=>∃ i j,x=.str i/\y=.str j/\Q (.bl (!(bP j i 0 j.length 1).isEmpty)) H):=by
 intro pins s σ H x y v u Q I rx ry h
 obtain⟨i,j,rfl,rfl,q⟩:=h
 obtain⟨t,rfl⟩:=rx
 obtain⟨t',rfl⟩:=ry
 exact in_str (zaW I q rfl)
theorem op_isN:OpR X (bB .Is) (fun x y H Q=>y=.non/\Q (.bl (decide (x=.non))) H):=by
 intro pins s σ H x y v u Q I rx ry h
 obtain⟨rfl,q⟩:=h
 cases ry
 refine is_none_gen (zaW I q ?_)
 cases x <;> first
  | (cases rx;rfl)
  | (obtain⟨t,rfl⟩:=rx;rfl)
theorem op_notN:OpR X (bB .IsNot) (fun x y H Q=>y=.non/\Q (.bl (!decide (x=.non))) H):=by
 intro pins s σ H x y v u Q I rx ry h
 obtain⟨rfl,q⟩:=h
 cases ry
 refine isnot_none_gen (zaW I q ?_)
 cases x <;> first
  | (cases rx;rfl)
  | (obtain⟨t,rfl⟩:=rx;rfl)
theorem zhK:OpR X (bB .NotIn) (fun x y H Q=>∃ i j,x=.str i/\y=.str j/\Q (.bl (!(!(bP j i 0 j.length 1).isEmpty))) H):=by
 intro pins s σ H x y v u Q I rx ry h
 obtain⟨i,j,rfl,rfl,q⟩:=h
 obtain⟨t,rfl⟩:=rx
 obtain⟨t',rfl⟩:=ry
 exact notIn_str (zaW I q rfl)
theorem zaV(b:Expr){op:CmpOp}(h:op ≠ .In:=by decide)(h2:op ≠ .NotIn:=by decide):behindInMarks op b=false:=by
 have e1:(op == CmpOp.In)=false:=by cases op <;> first | rfl | exact absurd rfl h
 have e2:(op == CmpOp.NotIn)=false:=by cases op <;> first | rfl | exact absurd rfl h2
 cases b <;> simp[behindInMarks,e1,e2]
theorem pe_cmpR{op:CmpOp}{r:R2}(ho:OpR X (bB op) r)(ha:PE X a ta)(hb:PE X b tb)(hm:behindInMarks op b=false):PE X (.Compare a [op] [b] pos) (tOp r ta tb):=by
 intro pins s σ H Q I h
 exact wpAny_Compare1 (binT ha hb I h fun v u s2 x y H2 I2 rx ry q=>ho pins s2 σ H2 x y v u Q I2 rx ry q) hm
def tTest(t:TE):TT:=fun σ H Q=>t σ H fun x H'=>∃ k,x=.bl k/\Q k H'
theorem pt_cmpR{op:CmpOp}{r:R2}(ho:OpR X (bB op) r)(ha:PE X a ta)(hb:PE X b tb)(hm:behindInMarks op b=false):PT X (.Compare a [op] [b] pos) (tTest (tOp r ta tb)):=by
 intro pins s σ H Q I h
 refine wpAny_isTrue_Compare1 (thn (ha pins s σ H _ I h) fun v s1 ⟨x,H1,I1,r1,q1⟩=>thn (hb pins s1 σ H1 _ I1 q1) fun u s2 ⟨y,H2,I2,r2,q2⟩=>
  thn (ho pins s2 σ H2 x y v u _ I2 r1 r2 q2) fun c s3 ⟨z,H3,I3,r3,k,e,q3⟩=>?_) hm
 subst e
 cases r3
 exact wpAny_truthy_bool ⟨H3,I3,q3⟩
theorem zhl:(ba:Nat)<2 ^ 63:=by rw[cA];decide
theorem zi8:OpR X (binaryOp .Add) (fun x y H Q=>∃ i j,x=.str i/\y=.str j/\i.length+j.length<=ba/\Q (.str (i ++ j)) H):=by
 intro pins s σ H x y v u Q I rx ry h
 obtain⟨i,j,rfl,rfl,hz,q⟩:=h
 obtain⟨t,rfl⟩:=rx
 obtain⟨t',rfl⟩:=ry
 exact add_str (fun t' tk=>⟨.str (i ++ j),H,I.tok _,⟨_,rfl⟩,q⟩) hz
theorem vals1{x:V}{us:List ag}(r:Vals [x] us):∃ u,us=[u]/\RelV x u:=by
 cases r with
 | cons r1 r2=>cases r2;exact⟨_,rfl,r1⟩
theorem vals2{x y:V}{us:List ag}(r:Vals [x,y] us):∃ u w',us=[u,w']/\RelV x u/\RelV y w':=by
 cases r with
 | cons r1 r2=>
  cases r2 with
  | cons r3 r4=>cases r4;exact⟨_,_,rfl,r1,r3⟩
theorem call_min2(hc:X.calm=true):zgn X (.builtin "min") (fun xs H Q=>∃ i j,xs=[.int i,.int j]/\Q (.int (if j<i then j else i)) H):=by
 intro pins s σ H xs us Q I r h
 obtain⟨i,j,rfl,q⟩:=h
 obtain⟨u,w',rfl,⟨t,rfl⟩,⟨t',rfl⟩⟩:=vals2 r
 refine min_two_ints (I.ok.hd hc) fun h' tk k=>⟨_,H,I.kept k,?_,q⟩
 by_cases hj:j<i
 ·rw[if_pos hj,if_pos hj];exact⟨_,rfl⟩
 ·rw[if_neg hj,if_neg hj];exact⟨_,rfl⟩
end
end L2
namespace L2
open PySem PySem.Spec PyProof.Rows
structure ObjM(h:aW)(x dx C:ai)(mA:Str->Option ag):Prop where
 obj:h.get? x=ae (cX C dx)
 ns:h.Ns1 dx mA
 ne:dx ≠ x
theorem lookIn_ns{h:aW}{dx:ai}{mA:Str->Option ag}(n:h.Ns1 dx mA):∃ od,h.get? dx=ae od/\∀ name,fJ name od=ae (mA name):=by
 obtain⟨o,es,ep,ho,hd,hk,_,hm⟩:=n
 refine⟨o,ho,fun name=>?_⟩
 have e:=hm name
 unfold nsFind findBy at e
 rw[<- Array.find?_toList] at e
 unfold fJ
 rw[hd]
 dsimp only
 split
 ·rename_i y q
  rw[q] at e
  exact congrArg ae e
 ·rename_i q
  rw[q] at e
  have a:es.toList.any (·.refKey)=false:=by
   rw[List.any_eq_false]
   intro y hy
   obtain⟨z,t,hkey⟩:=hk y (Array.mem_toList_iff.mp hy)
   simp[kJ,hkey]
  have a':¬ es.toList.any (·.refKey)=true:=by rw[a];exact aU
  rw[if_neg a']
  exact congrArg ae e
theorem ObjM.look{h:aW}{x dx C:ai}{mA:Str->Option ag}(I:ObjM h x dx C mA):∃ od,PySem.W.InstAt h x (cX C dx) C (ae od)/\∀ name,fJ name od=ae (mA name):=
 let⟨od,ho,hl⟩:=lookIn_ns I.ns
 ⟨od,⟨I.obj,rfl,rfl,ho⟩,hl⟩
section
variable {prog:aR}{w:aX}{A:a8}{E:ag->am->Prop}{s:am}{K:ak}{x dx C f:ai}{mA:Str->Option ag}{name:Str}{v:ag}
theorem get_map{expr:Bool}{Q:ag->am->Prop}(X:K.In s.heap)(I:ObjM s.heap x dx C mA)(hg:db K C name=true)(hh:di K C=true)
  (ha:aT K (.ref C) name=ae af) (hv:mA name=ae v) (hv':i3 v=true) (h:Q v { s with toks:=s.toks+1}) :
  ay (model prog w) A (getAttr (.ref x) name expr) Q E s:=by
 obtain⟨od,J,hl⟩:=I.look
 exact PySem.W.get_value X J (fG hg).1 (PySem.W.findObj_own hh ha rfl (by rw[hl,hv])) hv' h
theorem get_meth{pl:Sem Bool}{Q:ag × List ag->am->Prop}(X:K.In s.heap)(I:ObjM s.heap x dx C mA)(hg:db K C name=true)
  (hf:aT K (.ref C) name=ae (ae (.ref f))) (ht:cF K (.ref f)=true) (hv:mA name=af) (h:Q (.ref f,[.ref x]) s) :
  ay (model prog w) A (getMethod (.ref x) name pl) Q E s:=by
 obtain⟨od,J,hl⟩:=I.look
 exact PySem.W.method_fn X J (fG hg).1 (fG hg).2 hf (beq_iff_eq.mp ht) (by show(fJ name od).map (·.isSome)=ae false;rw[hl,hv];rfl) h
theorem set_map{ns:List Str}{Q:Unit->am->Prop}(X:K.In s.heap)(I:ObjM s.heap x dx C mA)
  (hs:aT K (.ref C) "__setattr__" = ae (ae (.builtin "object.__setattr__"))) (hp:dI K C=true) (ht:gL K C name=ae af) (hh:di K C=true)
  (hw:iy mA ns) (hsz:ns.length<=ba)
  (h:∀ h',ObjM h' x dx C (fun y=>if y=name then ae v else mA y)->du dx s.heap h'->Q () { s with heap:=h',toks:=s.toks+2}) :
  ay (model prog w) A (setAttr (.ref x) name v) Q E s:=by
 obtain⟨od,J,hl⟩:=I.look
 refine PySem.W.set_plain X J hs (PySem.W.osa_open (s:={ s with toks:=s.toks+1}) (r:=af) X J hp ht fun b=>?_)
 obtain⟨cd,hc,hd'⟩:=PySem.W.any_some hh
 have hx:s.heap.get? x=ae ⟨.ref C,ae dx,.plain,#[]⟩:=I.obj
 refine aj (aw (aj (aj (wpAny_loadPart hx (aj (kz (s:={ s with toks:=s.toks+1}) (PySem.W.looks_clsIn X hc) ?_))))))
 rw[hd']
 refine aw (a:=ae dx) (aj (aw (aj ?_)))
 refine wpAny_nsSet1 (s:={ s with toks:=s.toks+1}) I.ns fun h' hn2 hs2=>?_
 obtain⟨oD,esD,epD,hoD,hdD,hcD⟩:=hn2.count (kE name v hw)
 refine aj (wpAny_lookBehind hoD (by rw[hdD];exact pastItsLine_dict (bK hcD (by rw[aL];lia))) ?_)
 exact aw (h _ ⟨(hs2.2 _ (cr I.ne)).trans I.obj,hn2,I.ne⟩ hs2)
theorem make_map{R:Result->am->Prop}{vs:List ag}{kw:List (Str × ag)}(X:K.In s.heap)(hm:d4 K C=true)
  (hi:aT K (.ref C) "__init__" = ae (ae (.ref f))) (hf:PySem.W.typeIn K (.ref f)=ae (.type "function"))
  (h:codeAny (model prog w) (A.under (.builtin "type.__call__" ⟨.ref C :: vs,kw⟩)) (.call (.ref f) ⟨.ref (s.heap.objs.size+1) :: vs,kw⟩) (PySem.W.InitBack (s.heap.objs.size+1) R)
   { s with heap:=(s.heap.push cB).push (cX C s.heap.objs.size)}) :
  codeAny (model prog w) A (.call (.ref C) ⟨vs,kw⟩) R s:=by
 obtain⟨hh,g,d,t,os⟩:=s
 exact PySem.W.make_core (PySem.W.makes_of X hm) (PySem.W.looks_findIn X hi) (fun self=>PySem.W.bind_fn X self hf) (.inl rfl) h
end
def zgi(f:Str)(v:V):List (Str × V)->List (Str × V)
 | []=>[(f,v)]
 | (g,x) :: r=>if g=f then (g,v) :: r else (g,x) :: zgi f v r
theorem zga(f g:Str)(v:V):∀ fs:List (Str × V),(zgi f v fs).lookup g=if g=f then ae v else fs.lookup g
 | []=>by
  show bX g [(f,v)]=_
  by_cases h:g=f
  ·have hb:(g == f)=true:=beq_iff_eq.mpr h
   simp only[bX,hb,if_pos h]
  ·have hb:(g == f)=false:=beq_eq_false_iff_ne.mpr h
   simp only[bX,hb,if_neg h]
 | (k,x) :: r=>by
  have ih:=zga f g v r
  rw[show zgi f v ((k,x) :: r)=(if k=f then (k,v) :: r else (k,x) :: zgi f v r) from rfl]
  by_cases hk:k=f
  ·rw[if_pos hk]
   by_cases h:g=k
   ·have hb:(g == k)=true:=beq_iff_eq.mpr h
    simp only[bX,hb,if_pos (h.trans hk)]
   ·have hb:(g == k)=false:=beq_eq_false_iff_ne.mpr h
    simp only[bX,hb,if_neg (fun e:g=f=>h (e.trans hk.symm))]
  ·rw[if_neg hk]
   by_cases h:g=k
   ·have hb:(g == k)=true:=beq_iff_eq.mpr h
    simp only[bX,hb,if_neg (fun e:g=f=>hk (h.symm.trans e))]
   ·have hb:(g == k)=false:=beq_eq_false_iff_ne.mpr h
    simp only[bX,hb]
    exact ih
theorem zgc(f:Str)(v:V):∀ fs:List (Str × V),f ∈ (zgi f v fs).map (·.1)/\∀ g,g ∈ fs.map (·.1)->g ∈ (zgi f v fs).map (·.1)
 | []=>⟨by simp[zgi],fun g h=>by simp at h⟩
 | (k,x) :: r=>by
  obtain⟨i1,i2⟩:=zgc f v r
  rw[show zgi f v ((k,x) :: r)=(if k=f then (k,v) :: r else (k,x) :: zgi f v r) from rfl]
  by_cases hk:k=f
  ·rw[if_pos hk]
   subst hk
   exact⟨by simp,fun g h=>by simpa using h⟩
  ·rw[if_neg hk]
   refine⟨?_,fun g h=>?_⟩
   ·rw[aH]
    exact av _ i1
   ·rw[aH] at h ⊢
    rcases aF.mp h with e | e
    ·exact aF.mpr (.inl e)
    ·exact av _ (i2 g e)
theorem zfL(f:Str)(v:V):∀ fs:List (Str × V),(zgi f v fs).length<=fs.length+1
 | []=>by simp[zgi]
 | (k,x) :: r=>by
  have ih:=zfL f v r
  rw[show zgi f v ((k,x) :: r)=(if k=f then (k,v) :: r else (k,x) :: zgi f v r) from rfl]
  by_cases hk:k=f
  ·rw[if_pos hk,aL,aL];lia
  ·rw[if_neg hk,aL,aL];lia
theorem RelO.some_of{v:V}{o:Option ag}(r:RelO (ae v) o):∃ u,o=ae u/\RelV v u:=by
 cases o with
 | none=>exact(show False from r).elim
 | some u=>exact⟨u,rfl,r⟩
theorem RelO.none_of{o:Option ag}(r:RelO af o):o=af:=by
 cases o with
 | none=>rfl
 | some u=>exact(show False from r).elim
theorem handed_of{v:V}{u:ag}(r:RelV v u):i3 u=true:=by
 cases v with
 | non=>cases (show u=cQ from r);rfl
 | bl b=>cases (show u=gg b from r);rfl
 | int i=>obtain⟨t,e⟩:=(show ∃ t,u=eP i t from r);cases e;rfl
 | str x=>obtain⟨t,e⟩:=(show ∃ t,u=cw x t from r);cases e;rfl
 | byt b=>obtain⟨t,e⟩:=(show ∃ t,u=j6 b t from r);cases e;rfl
 | flt b=>obtain⟨t,e⟩:=(show ∃ t,u=iY b t from r);cases e;rfl
 | ref a=>cases (show u=bO a from r);rfl
 | ty n=>cases (show u=dO n from r);rfl
section
variable {P:aR}{w:aX}{H H':Hp}{h h':aW}{a C dx:ai}{fs fs':List (Str × V)}
theorem zgN(hok:HOk P w H h)(e:H a=ae (.ins C dx fs)):∃ mA,ObjM h a dx C mA/\(∀ f,RelO (fs.lookup f) (mA f))/\iy mA (fs.map (·.1))/\fs.length<=1000/\H dx=ae (.own a):=by
 obtain⟨d,z,ne,ob,mA,n,r,q⟩:=(show ObjOk P w H h a (.ins C dx fs) from hok a _ e)
 exact⟨mA,⟨ob,n,ne⟩,r,q,z,d⟩
end
structure Cls(K:ak)(C:ai):Prop where
 pg:db K C iA=true
 hd:di K C=true
 po:dI K C=true
 sa:aT K (.ref C) "__setattr__" = ae (ae (.builtin "object.__setattr__"))
theorem Cls.get{K:ak}{C:ai}(c:Cls K C)(f:Str):db K C f=true:=c.pg
def NoAttr(K:ak)(C:ai)(f:Str):Prop:=aT K (.ref C) f=ae af
theorem NoAttr.taker{K:ak}{C:ai}{f:Str}(n:NoAttr K C f):gL K C f=ae af:=by
 unfold gL
 rw[show aT K (.ref C) f=ae af from n]
 rfl
structure Con(K:ak)(C:ai)(f:Str)(v:V)(u:ag):Prop where
 at_:aT K (.ref C) f=ae (ae u)
 rel:RelV v u
 get:f7 K u "__get__" = ae af
 cp:PySem.W.copiedNames.contains f=false
structure Meth(K:ak)(C:ai)(m:Str)(f:ai):Prop where
 at_:aT K (.ref C) m=ae (ae (.ref f))
 fn:cF K (.ref f)=true
 kp:aI K (.ref f)=true
section
variable {X:Cx}{pins:List (ai × Obj)}{σ:St}{H:Hp}{s:am}{a C dx:ai}{fs:List (Str × V)}{f:Str}{v:V}{A:a8}{E:ag->am->Prop}
theorem zjn{b:Bool}{Q:ag->am->Prop}(I:Inv X pins σ H s)(e:H a=ae (.ins C dx fs))(c:Cls X.K C)(n:NoAttr X.K C f)(l:fs.lookup f=ae v)
  (h:∀ u s',Inv X pins σ H s'->RelV v u->Q u s'):ay (model X.prog X.w) A (getAttr (.ref a) f b) Q E s:=by
 obtain⟨mA,O,r,_,_,_⟩:=zgN I.hok e
 obtain⟨u,hu,ru⟩:=RelO.some_of (v:=v) (o:=mA f) (by rw[<- l];exact r f)
 exact get_map I.kIn O (c.get f) c.hd n hu (handed_of ru) (h u _ (I.tok _) ru)
theorem zgy{m:Str}{g:ai}{pl:Sem Bool}{Q:ag × List ag->am->Prop}(I:Inv X pins σ H s)(e:H a=ae (.ins C dx fs))(c:Cls X.K C)(k:Meth X.K C m g)(l:fs.lookup m=af)
  (h:Q (.ref g,[.ref a]) s):ay (model X.prog X.w) A (getMethod (.ref a) m pl) Q E s:=by
 obtain⟨mA,O,r,_,_,_⟩:=zgN I.hok e
 have hn:mA m=af:=RelO.none_of (by rw[<- l];exact r m)
 exact get_meth I.kIn O (c.get m) k.at_ k.fn hn h
theorem zjz{y:V}{u:ag}{Q:Unit->am->Prop}(I:Inv X pins σ H s)(e:H a=ae (.ins C dx fs))(c:Cls X.K C)(n:NoAttr X.K C f)(hl:fs.length<1000)(ry:RelV y u)
  (h:∀ s',Inv X pins σ (upd H a (.ins C dx (zgi f y fs))) s'->Q () s'):ay (model X.prog X.w) A (setAttr (.ref a) f u) Q E s:=by
 obtain⟨mA,O,r,wi,_,ho⟩:=zgN I.hok e
 have hz:(fs.map (·.1)).length<=ba:=by rw[ax,cA];lia
 refine set_map I.kIn O c.sa c.po n.taker c.hd wi hz fun h' O' sb=>h _ ?_
 have hd:∃ o,h'.get? dx=ae o:=let⟨o,_,_,e',_⟩:=O'.ns;⟨o,e'⟩
 refine I.write (x:=a) (e:=dx) (by rw[e];exact dc) (.inr ho) (fun b q hb z=>(sb.2 b hb).trans z) hd ?_
 refine⟨by rw[zaj O.ne];exact ho,?_,O.ne,O'.obj,_,O'.ns,fun g=>?_,fun g hg=>?_⟩
 ·have:=zfL f y fs;lia
 ·show RelO ((zgi f y fs).lookup g) (if g=f then ae u else mA g)
  rw[zga]
  by_cases q:g=f
  ·rw[if_pos q,if_pos q];exact ry
  ·rw[if_neg q,if_neg q];exact r g
 ·by_cases q:g=f
  ·rw[q];exact(zgc f y fs).1
  ·refine(zgc f y fs).2 g (wi g fun z=>hg ?_)
   show(if g=f then ae u else mA g)=af
   rw[if_neg q];exact z
theorem Inv.made(I:Inv X pins σ H s):Inv X pins σ (upd (upd H s.heap.objs.size (.own (s.heap.objs.size+1))) (s.heap.objs.size+1) (.ins C s.heap.objs.size []))
  { s with heap:=(s.heap.push cB).push (cX C s.heap.objs.size)}:=by
 have e1:(s.heap.push cB).get? s.heap.objs.size=ae cB:=az s.heap rfl
 have e2:((s.heap.push cB).push (cX C s.heap.objs.size)).get? (s.heap.objs.size+1)=ae (cX C s.heap.objs.size):=by
  have:=az (s.heap.push cB) (o:=cX C s.heap.objs.size) rfl
  rwa [bC] at this
 have e3:(s.heap.push cB).Ns s.heap.objs.size (fun _=>af):=⟨cB,#[],_,e1,rfl,(fun e he=>absurd he (by simp)),fun _=>rfl⟩
 have I1:=I.laid (a:=s.heap.objs.size) (o:=.own (s.heap.objs.size+1)) (h':=s.heap.push cB) (t':=s.toks) (fun b u q=>aq _ q) (aA _) ⟨_,e1⟩
 refine I1.laid (a:=s.heap.objs.size+1) (o:=.ins C s.heap.objs.size []) (t':=s.toks) (fun b u q=>aq _ q) (gu (bC _ _)) ?_
 have ne:s.heap.objs.size ≠ s.heap.objs.size+1:=aV (cG _)
 refine⟨by rw[zaj ne,zai],cg _,ne,e2,fun _=>af,(Heap.Ns1.of_empty e3).at fun o q=>aq _ q,fun _=>dc,fun y hy=>absurd rfl hy⟩
theorem attr_of{prog:aR}{w:aX}{env:Env}{e:Expr}{f:Str}{pos:Pos}{s:am}{Q:ag->am->Prop}(hb:cq e f env (eval e env)=eval e env)
  (h:ay (model prog w) A (eval e env) (fun o s₁=>ay (model prog w) A (getAttr o f true) Q E s₁) E s):ay (model prog w) A (eval (.Attribute e f pos) env) Q E s:=
 Attribute_any_ h (by rw[arm_eval_Attribute,hb])
end
def tFld(K:ak)(ta:TE)(f:Str):TE:=fun σ H Q=>ta σ H fun x H1=>∃ a C dx fs v,x=.ref a/\H1 a=ae (.ins C dx fs)/\Cls K C/\NoAttr K C f/\fs.lookup f=ae v/\Q v H1
def sFld(K:ak)(ta tv:TE)(f:Str):TS:=fun D σ H=>tv σ H fun y H1=>ta σ H1 fun x H2=>∃ a C dx fs,x=.ref a/\H2 a=ae (.ins C dx fs)/\Cls K C/\NoAttr K C f/\fs.length<1000 /\
 D.nx σ (upd H2 a (.ins C dx (zgi f y fs)))
section
variable {X:Cx}{o e value:Expr}{f:Str}{pos pos' tpos:Pos}{ta tv:TE}
theorem ziJ(he:PE X e ta)(hb:cq e f X.env (eval e X.env)=eval e X.env):PE X (.Attribute e f pos) (tFld X.K ta f):=by
 intro pins s σ H Q I h
 refine attr_of hb (thn (he pins s σ H _ I h) fun u s1 ⟨x,H1,I1,rx,a,C,dx,fs,v,ex,ea,c,n,l,q⟩=>?_)
 subst ex
 obtain rfl:u=bO a:=rx
 exact zjn I1 ea c n l fun u' s2 I2 ru=>⟨v,H1,I2,ru,q⟩
theorem ps_fld(ha:PE X o ta)(hv:PE X value tv)(hs:swapsWith value (ae (.Attribute o f pos')) pos.line X.env=pure false):PS X (.Assign [.Attribute o f pos'] value pos) (sFld X.K ta tv f):=by
 intro pins s σ H D I h
 refine plainObj_wpAny_Assign_Attribute (thn (hv pins s σ H _ I h) fun u s1 ⟨y,H1,I1,ry,q⟩=>thn (ha pins s1 σ H1 _ I1 q) fun ov s2 ⟨x,H2,I2,rx,a,C,dx,fs,ex,ea,c,n,l,q2⟩=>?_) hs
 subst ex
 obtain rfl:ov=bO a:=rx
 exact zjz I2 ea c n l ry fun s3 I3=>⟨σ,_,I3,q2⟩
end
section
variable {X:Cx}{pins:List (ai × Obj)}{σ:St}{H:Hp}{s:am}{A:a8}{E:ag->am->Prop}{Q:ag->am->Prop}{c:ag}{b:Bool}
inductive TyOf(K:ak)(H:Hp):V->ag->Prop where
 | non:TyOf K H .non (.type "NoneType")
 | bl (x:Bool):TyOf K H (.bl x) (.type "bool")
 | int (i:Int):TyOf K H (.int i) (.type "int")
 | str (x:Str):TyOf K H (.str x) (.type "str")
 | flt (x:UInt64):TyOf K H (.flt x) (.type "float")
 | lst {a:ai} {xs:List V} (e:H a=ae (.lst xs)):TyOf K H (.ref a) (.type "list")
 | frz {a:ai} {o:Obj} {xs:List V} (e:H a=ae (.frz o (.lst xs))):TyOf K H (.ref a) (.type "list")
 | tup {a:ai} {xs:List V} (e:H a=ae (.tup xs)):TyOf K H (.ref a) (.type "tuple")
 | dK {a:ai} {kvs:List (Key × V)} (e:Rd H a (.dK kvs)):TyOf K H (.ref a) (.type "dict")
 | dT {a:ai} {kvs:List (List Key × V)} (e:H a=ae (.dT kvs)):TyOf K H (.ref a) (.type "dict")
 | ins {a C dx:ai} {fs:List (Str × V)} (e:H a=ae (.ins C dx fs)) (cl:Cls K C) (ha:aT K (.ref C) "__class__" = ae (ae (.builtin "object.__class__")))
   (hn:f7 K (.builtin "object.__class__") "__get__" = ae (ae (.builtin "getset_descriptor.__get__"))) (htk:jc K (.builtin "object.__class__")=ae true)
   (hm:ig K C (.type "object")=ae true):TyOf K H (.ref a) (.ref C)
theorem isinst_ok{x:V}{u t:ag}(I:Inv X pins σ H s)(rx:RelV x u)(ty:TyOf X.K H x t)(e:dm X.K t c=ae b)(h:∀ tk,Q (.bool b) { s with toks:=tk}) :
  ay (model X.prog X.w) A (call (.builtin "isinstance") [u,c]) Q E s:=by
 cases ty with
 | non=>cases (show u=cQ from rx);exact cu PySem.W.kitx_none I.kIn dc e (fun z=>nomatch z) h
 | bl y=>cases (show u=gg y from rx);exact cu PySem.W.kitx_bool I.kIn dc e (fun z=>nomatch z) h
 | int i=>obtain⟨t,q⟩:=(show ∃ t,u=eP i t from rx);cases q;exact cu PySem.W.kitx_int I.kIn dc e (fun z=>nomatch z) h
 | str y=>obtain⟨t,q⟩:=(show ∃ t,u=cw y t from rx);cases q;exact cu PySem.W.kitx_str I.kIn dc e (fun z=>nomatch z) h
 | flt y=>obtain⟨t,q⟩:=(show ∃ t,u=iY y t from rx);cases q;exact cu PySem.W.kitx_float I.kIn dc e (fun z=>nomatch z) h
 | @lst a xs ea=>
  cases (show u=bO a from rx)
  obtain⟨_,_,n,_,h1⟩:=(show ObjOk X.prog X.w H s.heap a (.lst xs) from I.hok a _ ea)
  exact cu iJ I.kIn ⟨_,h1,rfl⟩ e (fun z=>nomatch z) h
 | @frz a ob xs ea=>
  cases (show u=bO a from rx)
  obtain⟨_,_,_,n,_,h1⟩:=(show ObjOk X.prog X.w H s.heap a (.frz ob (.lst xs)) from I.hok a _ ea)
  exact cu iJ I.kIn ⟨_,h1,rfl⟩ e (fun z=>nomatch z) h
 | @tup a xs ea=>
  cases (show u=bO a from rx)
  obtain⟨_,_,_,p⟩:=(show ObjOk X.prog X.w H s.heap a (.tup xs) from I.hok a _ ea)
  obtain⟨o,h1,h2,_⟩:=p
  exact cu PySem.W.kitx_tuple I.kIn ⟨o,h1,h2⟩ e (fun z=>nomatch z) h
 | @dK a kvs ea=>
  cases (show u=bO a from rx)
  obtain⟨_,_,vs,_,p⟩:=(show ObjOk X.prog X.w H s.heap a (.dK kvs) from ea.ok I.hok)
  obtain⟨o,es,ep,h1,h2,_⟩:=p
  exact cu iK I.kIn ⟨o,h1,h2.1⟩ e (fun z=>nomatch z) h
 | @dT a kvs ea=>
  cases (show u=bO a from rx)
  obtain⟨_,_,xs,_,o,es,ep,h1,h2,_⟩:=(show ObjOk X.prog X.w H s.heap a (.dT kvs) from I.hok a _ ea)
  exact cu iK I.kIn ⟨o,h1,h2.1⟩ e (fun z=>nomatch z) h
 | @ins a C dx fs ea cl ha hn htk hm=>
  cases (show u=bO a from rx)
  obtain⟨mA,O,_⟩:=zgN I.hok ea
  obtain⟨od,J,_⟩:=O.look
  exact cu (PySem.W.kitx_own (cl.get _) cl.hd ha hn htk hm) I.kIn J e (fun z=>nomatch z) h
end
end L2
namespace L2
open PySem PySem.Spec PyProof.Rows
structure Room(k:Nat)(A:a8):Prop where
 hd:A.handled=af
 dp:A.depth+3 * k+5<recursionLimit
 un:A.units+16 * k+200<cLine
theorem Room.mono{j k:Nat}{A:a8}(r:Room k A)(h:j<=k):Room j A:=⟨r.hd,by have:=r.dp;lia,by have:=r.un;lia⟩
theorem Room.deeper{k:Nat}{A:a8}(r:Room (k+1) A)(env:Env):Room k (A.deeper env):=
 ⟨r.hd,by have:=r.dp;show A.depth+1+3 * k+5<_;lia,by have:=r.un;show A.units+3+16 * k+200<_;lia⟩
theorem zjD{A:a8}{C:ai}{us:List ag}{kw:List (Str × ag)}:(A.under (.builtin "type.__call__" ⟨.ref C :: us,kw⟩)).depth=A.depth+1:=by
 first | rfl | simp[iC,Code.weight,Code.isCreation,Code.isGuard,Code.isCaller,j7,iD,guardIds]
theorem zjB{A:a8}{C:ai}{us:List ag}{kw:List (Str × ag)}:(A.under (.builtin "type.__call__" ⟨.ref C :: us,kw⟩)).units=A.units+1:=by
 first | rfl | simp[iC,Code.cUnits,j7,iD]
theorem Room.make{k:Nat}{A:a8}(r:Room (k+1) A)(C:ai)(us:List ag)(kw:List (Str × ag)):Room k (A.under (.builtin "type.__call__" ⟨.ref C :: us,kw⟩)):=
 ⟨r.hd,by have:=r.dp;rw[zjD];lia,by have:=r.un;rw[zjB];lia⟩
theorem Room.depth{k:Nat}{A:a8}(r:Room k A):A.depth<recursionLimit:=by have:=r.dp;lia
theorem Room.units{k:Nat}{A:a8}(r:Room k A):A.units+64<cLine:=by have:=r.un;lia
def tNil:TA:=fun _ H Q=>Q [] H
def tCons(ta:TE)(tr:TA):TA:=fun σ H Q=>ta σ H fun x H1=>tr σ H1 fun xs H2=>Q (x :: xs) H2
section
variable {X:Cx}{e:Expr}{es:List Expr}{te:TE}{t:TA}{pos:Pos}
theorem pa_nil:PA X [] tNil:=fun _ _ _ _ H Q I h=>iM ⟨[],H,I,.nil,h⟩
theorem pa_cons(ha:PE X e te)(hr:PA X es t)(hs:aY (e :: es) X.env=(false,eval e X.env) :: aY es X.env:=by rfl):PA X (e :: es) (tCons te t):=by
 intro pos pins s σ H Q I h
 rw[hs]
 show ay _ _ (spliced ((false,eval e X.env) :: backTo pos (aY es X.env))) _ _ s
 refine iE (thn (ha pins s σ H _ I h) fun u s1 ⟨x,H1,I1,r1,q1⟩=>?_)
 exact thn (hr pos pins s1 σ H1 _ I1 q1) fun us s2 ⟨xs,H2,I2,r2,q2⟩=>⟨x :: xs,H2,I2,.cons r1 r2,q2⟩
def tTup(t:TA):TE:=fun σ H Q=>t σ H fun xs H1=>xs.length<=ba/\∀ p,H1 p=af->Q (.ref p) (upd H1 p (.tup xs))
def tLst(t:TA):TE:=fun σ H Q=>t σ H fun xs H1=>xs.length<=ba/\∀ p,H1 p=af->Q (.ref p) (upd H1 p (.lst xs))
theorem pe_tup{x1}(h:PA X es t):PE X (.Tuple es x1 pos) (tTup t):=by
 intro pins s σ H Q I hq
 refine wpAny_Tuple_spliced (thn (h pos pins s σ H _ I hq) fun us s1 ⟨xs,H1,I1,r,z,q⟩=>⟨by rw[<- r.length];exact z,?_⟩)
 have hf:H1 s1.heap.objs.size=af:=I1.hok.fresh (aA _)
 refine⟨.ref s1.heap.objs.size,upd H1 s1.heap.objs.size (.tup xs),I1.laid (t':=s1.toks) (fun b u e=>aq _ e) (aA _) ?_,rfl,q _ hf⟩
 exact⟨z,us,r,⟨_,az _ rfl,rfl,_,rfl⟩⟩
theorem pe_lst(h:PA X es t):PE X (.List es pos) (tLst t):=by
 intro pins s σ H Q I hq
 refine wpAny_List_spliced (thn (h pos pins s σ H _ I hq) fun us s1 ⟨xs,H1,I1,r,z,q⟩=>⟨by rw[<- r.length];exact z,?_⟩)
 have hf:H1 s1.heap.objs.size=af:=I1.hok.fresh (aA _)
 refine⟨.ref s1.heap.objs.size,upd H1 s1.heap.objs.size (.lst xs),I1.laid (t':=s1.toks) (fun b u e=>aq _ e) (aA _) ?_,rfl,q _ hf⟩
 exact⟨z,us,0,r,az _ rfl⟩
end
abbrev Sp:=List V->Hp->VK->XK->Prop
abbrev CXT:=List Env->Hp->am->XK->ag->am->Prop
structure Env0(P:aR)(w:aX)(K:ak)(mg:Str->Option ag)(base:aW)(A:a8)(outer:List Env)(s:am)(H:Hp):Prop where
 frames:A.frames=ae outer
 mod:Mod K mg base
 bs:∀ b o,base.get? b=ae o->s.heap.get? b=ae o/\H b=af
 bsz:base.objs.size<=s.heap.objs.size
 funs:s.heap.FunFrames base outer
 frf:∀ b ∈ frs outer,H b=af
 hok:HOk P w H s.heap
 bare:AllBare s.gens
def CE(outer:List Env)(P:aR)(w:aX)(H:Hp)(s:am)(Q:VK)(u:ag)(s':am):Prop:=
 ∃ v H',s'.os=s.os/\AllBare s'.gens/\Un (frs outer) [] H H' s.heap s'.heap/\HOk P w H' s'.heap/\RelV v u/\Q v H'
def CR(CX:CXT)(outer:List Env)(P:aR)(w:aX)(H:Hp)(s:am)(Q:VK)(E:XK)(r:Result)(s':am):Prop:=
 match r with
 | .ok (.ret u)=>CE outer P w H s Q u s'
 | .ok _=>False
 | .error e=>CX outer H s E e s'
structure FnOk(P:aR)(w:aX)(K:ak)(mg:Str->Option ag)(base:aW)(CX:CXT)(k:Nat)(f:ai)(fd:bq)(ps:List Str)(sp:Sp):Prop where
 len:∀ vs H Q E,sp vs H Q E->vs.length=ps.length
 run:∀ (A:a8) (outer:List Env) (s:am) (H:Hp) (args:Args) (us:List ag) (vs:List V) (Q:VK) (E:XK),Room k A->Env0 P w K mg base A outer s H->BindsTo s fd args (ps.zip us)->Vals vs us->sp vs H Q E ->
  codeAny (model P w) A (.call (.ref f) args) (CR CX outer P w H s Q E) s
theorem FnOk.imp{P:aR}{w:aX}{K:ak}{mg:Str->Option ag}{base:aW}{CX:CXT}{k:Nat}{f:ai}{fd:bq}{ps:List Str}{sp sp':Sp}(F:FnOk P w K mg base CX k f fd ps sp)
  (h:∀ vs H Q E,sp' vs H Q E->sp vs H Q E):FnOk P w K mg base CX k f fd ps sp':=
 ⟨fun vs H Q E q=>F.len vs H Q E (h _ _ _ _ q),fun A outer s H args us vs Q E hr he hb hv hs=>F.run A outer s H args us vs Q E hr he hb hv (h _ _ _ _ hs)⟩
theorem Env0.make{P:aR}{w:aX}{K:ak}{mg:Str->Option ag}{base:aW}{A:a8}{outer:List Env}{s:am}{H:Hp}(e:Env0 P w K mg base A outer s H)(C:ai)(us:List ag)(kw:List (Str × ag)) :
  Env0 P w K mg base (A.under (.builtin "type.__call__" ⟨.ref C :: us,kw⟩)) outer s H:=⟨by first | exact e.frames | (simpa [iC,Code.envs,iD,pushEnvs] using e.frames),e.mod,e.bs,e.bsz,e.funs,e.frf,e.hok,e.bare⟩
section
variable {X:Cx}{pins:List (ai × Obj)}{σ:St}{H:Hp}{s s':am}
theorem Inv.env0(I:Inv X pins σ H s):Env0 X.prog X.w X.K X.mg X.base X.A X.stack s H:=
 ⟨I.ok.frames,I.ok.mod,I.bs,bK I.ok.bsz I.sz,I.stack,I.stkFree,I.hok,I.bare⟩
theorem Inv.after{Q:VK}{u:ag}(I:Inv X pins σ H s)(h:CE X.stack X.prog X.w H s Q u s'):EP X pins σ Q u s':=by
 obtain⟨v,H',os,bare,un,hok,r,q⟩:=h
 obtain⟨hh,g,d,t,os'⟩:=s'
 obtain rfl:os'=s.os:=os
 exact⟨v,H',I.call (h':=hh) (g':=g) (d':=d) (t':=t) (ch:=[]) un hok bare (fun b z=>absurd z (by simp)),r,q⟩
end
def tCall(sp:Sp)(dvs:List V)(E:XK)(t:TA):TE:=fun σ H Q=>t σ H fun vs H1=>sp (vs ++ dvs) H1 Q E
def tMeth(C:ai)(m:Str)(sp:Sp)(dvs:List V)(E:XK)(ta:TE)(t:TA):TE:=fun σ H Q=>ta σ H fun x H1=>∃ a dx fs,x=.ref a/\H1 a=ae (.ins C dx fs)/\fs.lookup m=af /\
 t σ H1 fun vs H2=>sp (x :: (vs ++ dvs)) H2 Q E
def tMake(C:ai)(sp:Sp)(dvs:List V)(E:XK)(t:TA):TE:=fun σ H Q=>t σ H fun vs H1=>∀ x dx,H1 x=af->H1 dx=af->dx ≠ x ->
 sp (.ref x :: (vs ++ dvs)) (upd (upd H1 dx (.own x)) x (.ins C dx [])) (fun v H2=>v=.non/\Q (.ref x) H2) E
def Binds(K:ak)(fd:bq)(ps:List Str)(ds:List ag):Prop:=
 ∀ (s:am) (us:List ag),K.In s.heap->(us ++ ds).length=ps.length->BindsTo s fd ⟨us,[]⟩ (ps.zip (us ++ ds))
theorem Binds.all{K:ak}{fd:bq}{ps:List Str}(h:∀ us:List ag,us.length=ps.length->bindArgs fd ⟨us,[]⟩=pure (ps.zip us)):Binds K fd ps []:=fun s us _ hl=>by
 rw[bF] at hl ⊢
 exact .of_eq (h us hl)
def zc6(CX:CXT)(X:Cx)(E:XK):Prop:=∀ (pins:List (ai × Obj)) (σ:St) (H:Hp) (s:am) (e:ag) (s':am),Inv X pins σ H s->CX X.stack H s E e s'->X.xe e s'
section
variable {X:Cx}{CX:CXT}{k:Nat}{f C:ai}{fd:bq}{ps:List Str}{sp:Sp}{dvs:List V}{ds:List ag}{E:XK}{x m:Str}{p pos apos:Pos}{e o:Expr}{es:List Expr}{ta:TE}{t:TA}
theorem run_fn{pins:List (ai × Obj)}{σ:St}{H:Hp}{s:am}{Q:VK}{us:List ag}{vs:List V}(F:FnOk X.prog X.w X.K X.mg X.base CX k f fd ps sp)(hr:Room k X.A)(hb:Binds X.K fd ps ds)(hd:Vals dvs ds)(hx:zc6 CX X E)
  (I:Inv X pins σ H s) (r:Vals vs us) (h:sp (vs ++ dvs) H Q E):ay (model X.prog X.w) X.A (call (.ref f) us) (EP X pins σ Q) X.xe s:=by
 have r2:Vals (vs ++ dvs) (us ++ ds):=r.append hd
 have hl:(us ++ ds).length=ps.length:=by rw[<- r2.length];exact F.len _ _ _ _ h
 refine wpAny_call (codeAny_mono (F.run X.A X.stack s H ⟨us,[]⟩ (us ++ ds) (vs ++ dvs) Q E hr I.env0 (hb s us I.kIn hl) r2 h) fun r s' hq=>?_)
 cases r with
 | error e=>exact hx pins σ H s e s' I hq
 | ok fl=>
  cases fl with
  | ret u=>exact I.after hq
  | next=>exact bx hq
  | brk=>exact bx hq
  | cont=>exact bx hq
theorem pe_call(F:FnOk X.prog X.w X.K X.mg X.base CX k f fd ps sp)(hr:Room k X.A)(hg:Gl X x)(hm:X.mg x=ae (.ref f))(hk:aI X.K (.ref f)=true)(hb:Binds X.K fd ps ds)(hd:Vals dvs ds)(hx:zc6 CX X E)
  (ha:PA X (e :: es) t) (hdb:(x == ("__debug__" : Str))=false:=by decide) (he:aY (e :: es) X.env=(false,eval e X.env) :: aY es X.env:=by rfl) (hpl:(backTo pos (aY es X.env)).any (·.1)=false:=by rfl) :
  PE X (.Call (.Name x p) (e :: es) [] pos) (tCall sp dvs E t):=by
 intro pins s σ H Q I h
 refine cH (zfi I hg hm ?_ hdb)
 refine d8 (h₀:=X.base) I.ok.mod.kin hk (thn (ha pos pins s σ H _ I h) fun us s1 ⟨vs,H1,I1,r,q⟩=>⟨I1.kIn,?_⟩) he hpl
 exact run_fn F hr hb hd hx I1 r q
theorem pe_meth{pl:Sem Bool}(he:PE X o ta)(c:Cls X.K C)(hm:Meth X.K C m f)(F:FnOk X.prog X.w X.K X.mg X.base CX k f fd ps sp)(hr:Room k X.A)(hb:Binds X.K fd ps ds)(hd:Vals dvs ds)(hx:zc6 CX X E)(ha:PA X (e :: es) t)
  (hst:aY (e :: es) X.env=(false,eval e X.env) :: aY es X.env:=by rfl) (hpl:(backTo pos (aY es X.env)).any (·.1)=false:=by rfl)
  (ht:eval (.Call (.Attribute o m apos) (e :: es) [] pos) X.env=(do
   let ov <- eval o X.env
   standAt apos.atName
   let (f,first) <- holding [ov] (getMethod ov m pl)
   callWith pos f first (backTo pos (aY (e :: es) X.env)) (backToKw pos (keywordEach [] X.env))):=by rfl) :
  PE X (.Call (.Attribute o m apos) (e :: es) [] pos) (tMeth C m sp dvs E ta t):=by
 intro pins s σ H Q I h
 refine gZ (pl:=pl) (thn (he pins s σ H _ I h) fun u s1 ⟨x,H1,I1,rx,a,dx,fs,ex,ea,l,q⟩=>?_) ht
 subst ex
 obtain rfl:u=bO a:=rx
 refine zgy I1 ea c hm l ?_
 refine d8 (first:=[.ref a]) (h₀:=X.base) I.ok.mod.kin hm.kp (thn (ha pos pins s1 σ H1 _ I1 q) fun us s2 ⟨vs,H2,I2,r,q2⟩=>⟨I2.kIn,?_⟩) hst hpl
 exact run_fn (us:=.ref a :: us) (vs:=.ref a :: vs) F hr hb hd hx I2 (.cons rfl r) q2
theorem ziL{pl:Sem Bool}(he:PE X o ta)(c:Cls X.K C)(hm:Meth X.K C m f)(F:FnOk X.prog X.w X.K X.mg X.base CX k f fd ps sp)(hr:Room k X.A)(hb:Binds X.K fd ps ds)(hd:Vals dvs ds)(hx:zc6 CX X E)
  (ht:eval (.Call (.Attribute o m apos) [] [] pos) X.env=(do
   let ov <- eval o X.env
   standAt apos.atName
   let (f,first) <- holding [ov] (getMethod ov m pl)
   callWith pos f first (backTo pos (aY [] X.env)) (backToKw pos (keywordEach [] X.env))):=by rfl) :
  PE X (.Call (.Attribute o m apos) [] [] pos) (tMeth C m sp dvs E ta tNil):=by
 intro pins s σ H Q I h
 refine gZ (pl:=pl) (thn (he pins s σ H _ I h) fun u s1 ⟨x,H1,I1,rx,a,dx,fs,ex,ea,l,q⟩=>?_) ht
 subst ex
 obtain rfl:u=bO a:=rx
 refine zgy I1 ea c hm l ?_
 exact PySem.W.callWith_K0 (first:=[.ref a]) I1.kIn hm.kp (run_fn (us:=[.ref a]) (vs:=[.ref a]) F hr hb hd hx I1 (.cons rfl .nil) q)
structure Mk(K:ak)(C f:ai):Prop where
 makes:d4 K C=true
 init:aT K (.ref C) "__init__" = ae (ae (.ref f))
 fn:cF K (.ref f)=true
 kp:aI K (.ref C)=true
theorem run_make{pins:List (ai × Obj)}{σ:St}{H:Hp}{s:am}{Q:VK}{us:List ag}{vs:List V}(M:Mk X.K C f)(F:FnOk X.prog X.w X.K X.mg X.base CX k f fd ps sp)(hr:Room (k+1) X.A)(hb:Binds X.K fd ps ds)(hd:Vals dvs ds)
  (hx:zc6 CX X E) (I:Inv X pins σ H s) (r:Vals vs us)
  (h:∀ x dx,H x=af->H dx=af->dx ≠ x->sp (.ref x :: (vs ++ dvs)) (upd (upd H dx (.own x)) x (.ins C dx [])) (fun v H2=>v=.non/\Q (.ref x) H2) E) :
  ay (model X.prog X.w) X.A (call (.ref C) us) (EP X pins σ Q) X.xe s:=by
 have hq:=h (s.heap.objs.size+1) s.heap.objs.size (I.hok.fresh (dk _)) (I.hok.fresh (aA _)) (aV (cG _))
 have I2:=Inv.made (C:=C) I
 have r2:Vals (V.ref (s.heap.objs.size+1) :: (vs ++ dvs)) (bO (s.heap.objs.size+1) :: (us ++ ds)):=.cons rfl (r.append hd)
 have hl:(bO (s.heap.objs.size+1) :: us ++ ds).length=ps.length:=by
  have e:=r2.length
  rw[F.len _ _ _ _ hq] at e
  exact e.symm
 refine wpAny_call (make_map (f:=f) I.kIn M.makes M.init (beq_iff_eq.mp M.fn) (codeAny_mono (F.run _ X.stack _ _ ⟨bO (s.heap.objs.size+1) :: us,[]⟩ (bO (s.heap.objs.size+1) :: (us ++ ds)) _ _ E (hr.make C us [])
  (I2.env0.make C us []) (hb _ (bO (s.heap.objs.size+1) :: us) I2.kIn hl) r2 hq) fun r s' hq'=>?_))
 cases r with
 | error e=>exact hx pins σ _ _ e s' I2 hq'
 | ok fl=>
  cases fl with
  | ret u=>
   obtain⟨v,H',I3,rv,ev,q3⟩:=I2.after hq'
   subst ev
   exact⟨rv,⟨V.ref (s.heap.objs.size+1),H',I3,rfl,q3⟩⟩
  | next=>exact bx hq'
  | brk=>exact bx hq'
  | cont=>exact bx hq'
theorem pe_make(M:Mk X.K C f)(F:FnOk X.prog X.w X.K X.mg X.base CX k f fd ps sp)(hr:Room (k+1) X.A)(hg:Gl X x)(hm:X.mg x=ae (.ref C))(hb:Binds X.K fd ps ds)(hd:Vals dvs ds)(hx:zc6 CX X E)
  (ha:PA X (e :: es) t) (hdb:(x == ("__debug__" : Str))=false:=by decide) (he:aY (e :: es) X.env=(false,eval e X.env) :: aY es X.env:=by rfl) (hpl:(backTo pos (aY es X.env)).any (·.1)=false:=by rfl) :
  PE X (.Call (.Name x p) (e :: es) [] pos) (tMake C sp dvs E t):=by
 intro pins s σ H Q I h
 refine cH (zfi I hg hm ?_ hdb)
 refine d8 (h₀:=X.base) I.ok.mod.kin M.kp (thn (ha pos pins s σ H _ I h) fun us s1 ⟨vs,H1,I1,r,q⟩=>⟨I1.kIn,?_⟩) he hpl
 exact run_make M F hr hb hd hx I1 r q
end
def PK(X:Cx)(kws:List Keyword)(t:TA):Prop:=
 ∀ (pos:Pos) (pins:List (ai × Obj)) (s:am) (σ:St) (H:Hp) (Q:List V->Hp->Prop),Inv X pins σ H s->t σ H Q->ay (model X.prog X.w) X.A (evalAll ((backToKw pos (keywordEach kws X.env)).map (·.2))) (AP X pins σ Q) X.xe s
section
variable {X:Cx}{CX:CXT}{k:Nat}{f C:ai}{fd:bq}{ps ks:List Str}{sp:Sp}{E:XK}{x m:Str}{p pos apos kpos:Pos}{e o:Expr}{es:List Expr}{kws:List Keyword}{te ta:TE}{t tk:TA}{nm:Option Str}
theorem pk_nil:PK X [] tNil:=fun _ _ _ _ H Q I h=>wpAny_evalAll_nil ⟨[],H,I,.nil,h⟩
theorem pk_cons(ha:PE X e te)(hr:PK X kws t):PK X (⟨nm,e,kpos⟩ :: kws) (tCons te t):=by
 intro pos pins s σ H Q I h
 show ay _ _ (evalAll ((do let v <- eval e X.env;standAt pos;pure v) :: (backToKw pos (keywordEach kws X.env)).map (·.2))) _ _ s
 refine wpAny_evalAll_cons (aj (thn (ha pins s σ H _ I h) fun u s1 ⟨x,H1,I1,r1,q1⟩=>aj (wpAny_standAt (aw ?_))))
 exact thn (hr pos pins s1 σ H1 _ I1 q1) fun us s2 ⟨xs,H2,I2,r2,q2⟩=>⟨x :: xs,H2,I2,.cons r1 r2,q2⟩
structure KBinds(K:ak)(fd:bq)(ps ks:List Str)(g:List ag->List ag->List ag)(gV:List V->List V->List V):Prop where
 to:∀ (s:am) (us ws:List ag),K.In s.heap->(g us ws).length=ps.length->BindsTo s fd ⟨us,ks.zip ws⟩ (ps.zip (g us ws))
 rel:∀ {vs:List V} {us:List ag} {zs:List V} {ws:List ag},Vals vs us->Vals zs ws->Vals (gV vs zs) (g us ws)
variable {g:List ag->List ag->List ag}{gV:List V->List V->List V}
end
structure FnScope(N P:List Str)(sc:Scope):Prop where
 kind:sc.kind=.function
 co:sc.isCoroutine=false
 gen:sc.isGenerator=false
 nd:N.Nodup
 pre:N.take P.length=P
 par:∀ x ∈ P,sc.names.lookup x=ae .local \/ sc.names.lookup x=ae .cell
 nofree:∀ y ∈ sc.names,y.2 ≠ .free
theorem zhE{kindOf:Str->Option NameKind}{x:Str}:∀ {binds:List (Str × ag)} {m:Str->Option ag},(∀ v,(x,v) ∉ binds)->bindL kindOf binds m x=m x
 | [],_,_=>rfl
 | (n,v) :: r,m,h=>by
  unfold bindL
  rw[zhE fun w hw=>h w (av _ hw)]
  split
  ·have:x ≠ n:=by rintro rfl;exact h v aC
   simp[this]
  ·rfl
theorem zhm{kindOf:Str->Option NameKind}{x:Str}:∀ {binds:List (Str × ag)} {m:Str->Option ag},(∀ v,(x,v) ∉ binds)->bindC kindOf binds m x=m x
 | [],_,_=>rfl
 | (n,v) :: r,m,h=>by
  unfold bindC
  rw[zhm fun w hw=>h w (av _ hw)]
  split
  ·rfl
  ·have:x ≠ n:=by rintro rfl;exact h v aC
   simp[this]
theorem zhA{kindOf:Str->Option NameKind}{x:Str}{v:ag}:∀ {P:List Str} {vs:List ag} {i:Nat} {m:Str->Option ag},P.Nodup->P[i]? = ae x->vs[i]? = ae v->kindOf x=ae .local ->
  bindL kindOf (P.zip vs) m x=ae v
 | [],_,_,_,_,h,_,_=>by simp at h
 | _ :: _,[],_,_,_,_,h,_=>by simp at h
 | p :: P,w :: vs,0,m,nd,h1,h2,hk=>by
  simp at h1 h2;subst h1;subst h2
  show bindL kindOf ((p,w) :: P.zip vs) m p=_
  unfold bindL
  rw[zhE fun v hv=>(a7.mp nd).1 (gM hv).1,if_pos hk]
  simp
 | p :: P,w :: vs,i+1,m,nd,h1,h2,hk=>by
  show bindL kindOf ((p,w) :: P.zip vs) m x=_
  unfold bindL
  exact zhA (i:=i) (a7.mp nd).2 (by simpa using h1) (by simpa using h2) hk
theorem zhn{kindOf:Str->Option NameKind}{x:Str}{v:ag}:∀ {P:List Str} {vs:List ag} {i:Nat} {m:Str->Option ag},P.Nodup->P[i]? = ae x->vs[i]? = ae v->kindOf x ≠ ae .local ->
  bindC kindOf (P.zip vs) m x=ae v
 | [],_,_,_,_,h,_,_=>by simp at h
 | _ :: _,[],_,_,_,_,h,_=>by simp at h
 | p :: P,w :: vs,0,m,nd,h1,h2,hk=>by
  simp at h1 h2;subst h1;subst h2
  show bindC kindOf ((p,w) :: P.zip vs) m p=_
  unfold bindC
  rw[zhm fun v hv=>(a7.mp nd).1 (gM hv).1,if_neg hk]
  simp
 | p :: P,w :: vs,i+1,m,nd,h1,h2,hk=>by
  show bindC kindOf ((p,w) :: P.zip vs) m x=_
  unfold bindC
  exact zhn (i:=i) (a7.mp nd).2 (by simpa using h1) (by simpa using h2) hk
def start(N:List Str)(vs:List V):St:=vs.map ae ++ aB (N.length - vs.length) af
def zg8(CX:CXT)(P:aR)(w:aX)(K:ak)(mg:Str->Option ag)(base:aW)(N:List Str)(qual:Str)(scope:Scope)(f:ai)(cd:ag)(A:a8)(outer:List Env)(s:am)(H:Hp)(E:XK):Cx where
 prog:=P
 w:=w
 K:=K
 mg:=mg
 base:=base
 A:=A.deeper (envOfC qual scope s.heap.objs.size f cd)
 N:=N
 s₀:=s
 H₀:=H
 env:=envOfC qual scope s.heap.objs.size f cd
 outer:=outer
 stack:=envOfC qual scope s.heap.objs.size f cd :: outer
 ex:=[]
 calm:=true
 fn:=fun _=>true
 pn:=[]
 xe:=fun e s'=>ay (model P w) (A.deeper (envOfC qual scope s.heap.objs.size f cd)) (leaving (envOfC qual scope s.heap.objs.size f cd) e) (fun _ s''=>CX outer H s E e s'') (fun e' s''=>CX outer H s E e' s'') s'
theorem ziX{sc:Scope}{n:Nat}{x:Str}(h:sc.names.lookup x=ae .cell):∃ c,(cellsFrom n sc.names []).lookup x=ae c:=by
 have q:=gU sc.names n [] (.inl h)
 exact Option.isSome_iff_exists.mp q
theorem inv_start{CX:CXT}{P:aR}{w:aX}{K:ak}{mg:Str->Option ag}{base:aW}{N ps:List Str}{qual:Str}{scope:Scope}{f:ai}{cd:ag}{A:a8}{outer:List Env}{s s1:am}{H:Hp}{E:XK}{us:List ag}{vs:List V}
  (S:FnScope N ps scope) (hd:A.handled=af) (e0:Env0 P w K mg base A outer s H) (hl:vs.length=ps.length) (r:Vals vs us)
  (x:InCallC s s.heap.objs.size (bindL (envOfC qual scope s.heap.objs.size f cd).kindOf (ps.zip us) fun _=>af) (cellsFrom (s.heap.objs.size+1) scope.names []) (bindC (envOfC qual scope s.heap.objs.size f cd).kindOf (ps.zip us) fun _=>af) s1) :
  Inv (zg8 CX P w K mg base N qual scope f cd A outer s H E) [] (start N vs) H s1:=by
 have hpl:ps.length<=N.length:=by have:=congrArg dF S.pre;rw[dP] at this;lia
 obtain⟨h1,tk,rfl,hk⟩:=x.done
 have noA:∀ b:ai,b ∉ (zg8 CX P w K mg base N qual scope f cd A outer s H E).ex:=fun b z=>absurd (show b ∈ ([]:List ai) from z) (by simp)
 refine⟨⟨e0.mod,S.kind,rfl,rfl,aA _,fun y z c h1 h2=>?_,fun y hy=>?_,fun y c _ h=>?_,fun _=>hd,Around.frames_deeper e0.frames,.inr ⟨rfl,rfl⟩,fun b z=>absurd z (noA b),e0.bs,e0.bsz,fun b _ _=>noA b,fun b z=>absurd z (noA b),e0.funs,e0.frf⟩,
  rfl,e0.bare,Un.kept hk,⟨_,x.toInCall.ns,fun i y v h1 h2 h3=>?_⟩,fun y c h=>⟨_,x.cell y c h⟩,e0.hok.fresh (aA _),fun y c h=>?_,fun p hp=>absurd (show p ∈ ([]:List (ai × Obj)) from hp) (by simp),e0.hok.kept hk,?_⟩
 ·exact name_of_addr x.apart (bM h1) (bM h2)
 ·have hy:scope.names.lookup y=ae .cell \/ scope.names.lookup y=ae .free:=hy
  rcases hy with hy | hy
  ·exact ziX hy
  ·exact absurd rfl (S.nofree _ (bM hy))
 ·exact d7 (x.above y c (bM h))
 ·have hi:i<vs.length:=by
   unfold start at h2
   by_cases hi:i<vs.length
   ·exact hi
   ·rw[cR (by simpa using hi)] at h2
    rw[c9] at h2
    split at h2 <;> cases h2
  have ha:vs[i]? = ae v:=by
   unfold start at h2
   rw[bo (by simpa using hi),aG] at h2
   cases e:vs[i]? with
   | none=>rw[e] at h2;cases h2
   | some a=>rw[e] at h2;cases h2;rfl
  obtain⟨u,hu,rv⟩:=r.get ha
  have hp:ps[i]? = ae y:=by
   rw[<- S.pre,d9 (by lia)];exact h1
  have ndP:ps.Nodup:=by rw[<- S.pre];exact S.nd.sublist (List.take_sublist _ _)
  refine⟨u,rv,?_⟩
  rcases S.par y (bJ hp) with k | k
  ·exact .inl ⟨k,zhA ndP hp hu k⟩
  ·obtain⟨c,e⟩:=ziX (n:=s.heap.objs.size+1) k
   refine .inr ⟨.inl k,c,e,?_⟩
   have q:=x.cell y c e
   rw[zhn ndP hp hu (by show scope.names.lookup y ≠ _;rw[k];decide)] at q
   exact q
 ·exact e0.hok.fresh (d7 (x.above y c (bM h)))
 ·unfold start
  show _=N.length
  rw[a9,ax,cE]
  lia
theorem fn_of{CX:CXT}{P:aR}{w:aX}{K:ak}{mg:Str->Option ag}{base:aW}{k:Nat}{f:ai}{name qual:Str}{params:Arguments}{body:List Stmt}{scope:Scope}{dV kV doc pm cdv ct oc:ag}{an od:Option ai}
  {osl:Array (Option ag)} {N ps:List Str} {sp:Sp} (lk:K.lookup f=ae ⟨oc,od,.func (aQ name qual params body scope dV kV doc pm an cdv ct),osl⟩) (hcd:aM K cdv qual=true) (S:FnScope N ps scope)
  (len:∀ vs H Q E,sp vs H Q E->vs.length=ps.length)
  (hbody:∀ (A:a8) (outer:List Env) (s:am) (H:Hp) (vs:List V) (Q:VK) (E:XK),Room k (A.deeper (envOfC qual scope s.heap.objs.size f cdv))->sp vs H Q E ->
   ∃ t,PSs (zg8 CX P w K mg base N qual scope f cdv A outer s H E) body t/\t { nx:=fun _ H'=>Q .non H',rt:=Q} (start N vs) H) :
  FnOk P w K mg base CX (k+1) f (aQ name qual params body scope dV kV doc pm an cdv ct) ps sp:=by
 refine⟨len,fun A outer s H args us vs Q E hr e0 hb r hsp=>?_⟩
 have hl:=len _ _ _ _ hsp
 have KX:K.In s.heap:=e0.mod.kin.keeps fun b o e=>(e0.bs b o e).1
 have lim:s.heap.NoLimit:=e0.mod.nolimit.keeps fun b o e=>(e0.bs b o e).1
 have hkind:∀ y ∈ ps.zip us,scope.names.lookup y.1=ae .local \/ (scope.names.lookup y.1=ae .cell/\((cellsFrom (s.heap.objs.size+1) scope.names []).lookup y.1).isSome=true):=fun⟨n,v⟩ hy=>by
  rcases S.par n (gM hy).1 with q | q
  ·exact .inl q
  ·exact .inr ⟨q,gU _ _ _ (.inl q)⟩
 refine codeAny_call_function hr.depth (KX _ _ lk) rfl S.co S.gen rfl (PySem.W.codeRec_of KX hcd) (hb _ _ _ _ ?_)
 refine wpAny_newFunctionEnv_cells S.kind hkind fun env he s1 x=>?_
 subst he
 refine⟨lim.keeps x.toInCall.keep,codeAny_func ?_⟩
 obtain⟨t,ht,hq⟩:=hbody A outer s H vs Q E (hr.deeper _) hsp
 have I:Inv (zg8 CX P w K mg base N qual scope f cdv A outer s H E) [] (start N vs) H s1:=inv_start S hr.hd e0 hl r x
 refine bI (ht [] s1 (start N vs) H _ I hq) (fun fl s' hs=>?_) fun e s' hs=>hs
 have fin:∀ {σ':St} {H':Hp} {v:V} {u:ag},Inv (zg8 CX P w K mg base N qual scope f cdv A outer s H E) [] σ' H' s'->RelV v u->Q v H'->CE outer P w H s Q u s':=
  fun {σ' H' v u} J rv q=>⟨v,H',J.os,J.bare,J.base,J.hok,rv,q⟩
 cases fl with
 | ret u=>
  obtain⟨v,σ',H',J,rv,q⟩:=hs
  exact fin J rv q
 | next=>
  obtain⟨σ',H',J,q⟩:=hs
  exact fin (v:=V.non) (u:=cQ) J rfl q
 | brk=>
  obtain⟨_,_,_,q⟩:=hs
  exact bx q
 | cont=>
  obtain⟨_,_,_,q⟩:=hs
  exact bx q
end L2
namespace L2
open PySem PySem.Spec PyProof.Rows
section
variable {X:Cx}{x:Str}{p pos:Pos}{e:Expr}{es:List Expr}{t:TA}{id T:String}{r:List V->Hp->VK->Prop}
def tCB(r:List V->Hp->VK->Prop)(t:TA):TE:=fun σ H Q=>t σ H fun vs H1=>r vs H1 Q
theorem pe_callB(hc:zgn X (.builtin id) r)(hg:Gl X x)(hm:X.mg x=af)(hv:aZ x=ae (.builtin id))(ha:PA X (e :: es) t)(hn:x ≠ "__name__" :=by decide)(hdb:(x == ("__debug__" : Str))=false:=by decide)
  (he:aY (e :: es) X.env=(false,eval e X.env) :: aY es X.env:=by rfl) (hpl:(backTo pos (aY es X.env)).any (·.1)=false:=by rfl):PE X (.Call (.Name x p) (e :: es) [] pos) (tCB r t):=by
 intro pins s σ H Q I h
 refine cH (zei I hg hm hv ?_ hn hdb)
 exact eT (thn (ha pos pins s σ H _ I h) fun us s1 ⟨vs,H1,I1,r1,q1⟩=>hc pins s1 σ H1 vs us Q I1 r1 q1) he hpl
theorem pe_callTy(hc:zgn X (.type T) r)(hg:Gl X x)(hm:X.mg x=af)(hv:aZ x=ae (.type T))(ha:PA X (e :: es) t)(hn:x ≠ "__name__" :=by decide)(hdb:(x == ("__debug__" : Str))=false:=by decide)
  (he:aY (e :: es) X.env=(false,eval e X.env) :: aY es X.env:=by rfl) (hpl:(backTo pos (aY es X.env)).any (·.1)=false:=by rfl):PE X (.Call (.Name x p) (e :: es) [] pos) (tCB r t):=by
 intro pins s σ H Q I h
 refine cH (zei I hg hm hv ?_ hn hdb)
 exact bV (thn (ha pos pins s σ H _ I h) fun us s1 ⟨vs,H1,I1,r1,q1⟩=>hc pins s1 σ H1 vs us Q I1 r1 q1) he hpl
end
end L2
namespace HT
open PySem PyProof.Rows
section
open PySem.SeqAt
open PySem.AutoSeq1 (wpAny_loadPart')
open PySem.MeetsSeq PySem.MeetsSeq2 PySem.MeetsSeq3
end
section
variable {prog:aR}{w:aX}{A:a8}{E:ag->am->Prop}{s:am}
theorem cat_tup{t b:ai}{vs ws:List ag}{Q:ag->am->Prop}(ht:IsTup s.heap t vs.toArray)(hb:IsTup s.heap b ws.toArray)(hv:vs ≠ [])
  (h1:ws=[]->Q (.ref t) s) (h2:ws ≠ []->Q (.ref s.heap.objs.size) { s with heap:=s.heap.push { cls:=.type "tuple",data:=.seq (vs ++ ws).toArray}})
  (hsz:vs.length+ws.length<=ba):ay (model prog w) A (binaryOp .Add (.ref t) (.ref b)) Q E s:=by
 obtain⟨⟨cls,dd,data,sl⟩,ho,hc,n,hd⟩:=id ht
 obtain⟨⟨cls2,dd2,data2,sl2⟩,ho2,hc2,n2,hd2⟩:=id hb
 simp only at hc hd hc2 hd2
 subst hc hd hc2 hd2
 have e:vs.toArray ++ ws.toArray=(vs ++ ws).toArray:=by simp
 by_cases hw:ws=[]
 ·exact concat_meets ⟨_,ho,rfl⟩ ⟨_,ho2,rfl⟩ noFill_tuple_add seq_tuple_add eE ez (ef _ _)
   (tuple_addW1 t b vs.toArray ws.toArray n n2 dd dd2 sl sl2 (by simpa using hv) (by simp[hw])) ⟨ho,ho2,h1 hw⟩
 ·refine concat_meets ⟨_,ho,rfl⟩ ⟨_,ho2,rfl⟩ noFill_tuple_add seq_tuple_add eE ez (ef _ _)
   (tuple_addW2 t b vs.toArray ws.toArray n n2 dd dd2 sl sl2 (by simpa using hv) (by simpa using hw) (by rw[bu,bu];exact hsz)) ⟨ho,ho2,?_⟩
  rw[e]
  exact h2 hw
def sIx(n d:Nat):Option Int->Nat
 | none=>d
 | some v=>if v<0 then (v+(n:Int)).toNat else min v.toNat n
theorem sIx_none(n d:Nat):sIx n d af=d:=rfl
theorem sIx_nat(n d k:Nat):sIx n d (ae (k:Int))=min k n:=by
 show(if (k:Int)<0 then ((k:Int)+(n:Int)).toNat else min (k:Int).toNat n)=min k n
 rw[if_neg (by lia),c7]
theorem sIx_le(n d:Nat)(hd:d<=n)(o:Option Int):sIx n d o<=n:=by
 cases o with
 | none=>exact hd
 | some v=>
  show(if v<0 then (v+(n:Int)).toNat else min v.toNat n)<=n
  by_cases hv:v<0
  ·rw[if_pos hv];lia
  ·rw[if_neg hv];exact Nat.min_le_right _ _
end
end HT
namespace L2
open PySem PySem.Spec PyProof.Rows
abbrev TO:=St->Hp->(Option Int->Hp->Prop)->Prop
def PO(X:Cx)(e:Option Expr)(t:TO):Prop:=
 ∀ (pins:List (ai × Obj)) (s:am) (σ:St) (H:Hp) (Q:Option Int->Hp->Prop),Inv X pins σ H s->t σ H Q ->
  ay (model X.prog X.w) X.A (evalPart e X.env) (fun u s'=>∃ o H',Inv X pins σ H' s'/\IsPart u o/\Q o H') X.xe s
def tNoPart:TO:=fun _ H Q=>Q af H
def tPart(t:TE):TO:=fun σ H Q=>t σ H fun x H1=>∃ i,x=.int i/\Q (ae i) H1
section
variable {X:Cx}{e:Expr}{te:TE}{lo hi:Option Expr}{tl th:TO}{pos p2:Pos}
theorem po_none:PO X af tNoPart:=by
 intro pins s σ H Q I h
 rw[evalPart_none]
 exact aw ⟨af,H,I,.none,h⟩
theorem po_some(h:PE X e te):PO X (ae e) (tPart te):=by
 intro pins s σ H Q I hw
 rw[evalPart_some]
 refine thn (h pins s σ H _ I hw) fun u s1 ⟨x,H1,I1,r1,q1⟩=>?_
 obtain⟨i,rfl,q⟩:=q1
 obtain⟨t,rfl⟩:=r1
 exact⟨ae i,H1,I1,.int i t,q⟩
def SlR(X:Cx)(r:V->Option Int->Option Int->Hp->VK->Prop):Prop:=
 ∀ (pins:List (ai × Obj)) (s:am) (σ:St) (H:Hp) (x:V) (v vl vu:ag) (lo hi:Option Int) (sl:ai) (Q:VK),Inv X pins σ H s->RelV x v->s.heap.IsSliceOf sl vl vu .none->IsPart vl lo->IsPart vu hi->r x lo hi H Q ->
  ∃ T id,typeLookup (.type T) "__getitem__" = pure (ae (.builtin id))/\s.TypeIs v T/\ay (model X.prog X.w) X.A (getItem v (.ref sl)) (EP X pins σ Q) X.xe s
def tSl(r:V->Option Int->Option Int->Hp->VK->Prop)(te:TE)(tl th:TO):TE:=fun σ H Q=>te σ H fun x H1=>tl σ H1 fun l H2=>th σ H2 fun u H3=>r x l u H3 Q
theorem pe_slice{r:V->Option Int->Option Int->Hp->VK->Prop}(hr:SlR X r)(he:PE X e te)(hl:PO X lo tl)(hu:PO X hi th):PE X (.Subscript e (.Slice lo hi af p2) pos) (tSl r te tl th):=by
 intro pins s σ H Q I h
 refine Subscript_ (thn (he pins s σ H _ I h) fun v s1 ⟨x,H1,I1,r1,q1⟩=>?_)
 refine wpAny_Slice (thn (hl pins s1 σ H1 _ I1 q1) fun vl s2 ⟨l,H2,I2,pl,q2⟩=>thn (hu pins s2 σ H2 _ I2 q2) fun vu s3 ⟨u,H3,I3,pu,q3⟩=>?_)
 rw[evalPart_none]
 refine aw ?_
 have I4:Inv X pins σ H3 { s3 with heap:=s3.heap.push { cls:=.type "slice",data:=.fields #[vl,vu,.none]}}:=I3.kept (t':=s3.toks) fun b ob q=>aq _ q
 obtain⟨T,id,hT,ht,hg⟩:=hr pins { s3 with heap:=s3.heap.push { cls:=.type "slice",data:=.fields #[vl,vu,.none]}} σ H3 x v vl vu l u s3.heap.objs.size Q I4 r1 (kA ..) pl pu q3
 show ay (model X.prog X.w) X.A (subscriptTail e (.Slice lo hi af p2) v (.ref s3.heap.objs.size)) (EP X pins σ Q) X.xe { s3 with heap:=s3.heap.push { cls:=.type "slice",data:=.fields #[vl,vu,.none]}}
 exact tail_any (ops:=[.ref s3.heap.objs.size,v]) ht hT hg (by with_unfolding_all rfl)
def cutV(xs:List V)(lo hi:Option Int):List V:=(xs.drop (HT.sIx xs.length 0 lo)).take (HT.sIx xs.length xs.length hi - HT.sIx xs.length 0 lo)
theorem zis(xs:List V)(lo hi:Option Int):(cutV xs lo hi).length<=xs.length:=by
 unfold cutV
 rw[dP,dQ]
 lia
def rCatT(K:ak):R2:=fun x y H Q=>∃ a b xs ys,x=.ref a/\y=.ref b/\SqT K H a xs/\SqT K H b ys/\xs ≠ []/\xs.length+ys.length<=ba /\
 (ys=[]->Q (.ref a) H)/\(ys ≠ []->∀ p,H p=af->Q (.ref p) (upd H p (.tup (xs ++ ys))))
theorem Vals.nil_iff{xs:List V}{us:List ag}(r:Vals xs us):us=[] ↔ xs=[]:=by
 cases r with
 | nil=>simp
 | cons _ _=>simp
theorem op_catT:OpR X (binaryOp .Add) (rCatT X.K):=by
 intro pins s σ H x y v u Q I rx ry h
 obtain⟨a,b,xs,ys,rfl,rfl,ha,hb,hx,hz,q1,q2⟩:=h
 cases rx
 cases ry
 obtain⟨its,r1,p1,_⟩:=I.tuple ha
 obtain⟨its2,r2,p2,_⟩:=I.tuple hb
 refine HT.cat_tup p1 p2 (fun z=>hx (r1.nil_iff.mp z)) (fun z=>⟨.ref a,H,I,rfl,q1 (r2.nil_iff.mp z)⟩) (fun z=>?_) (by rw[<- r1.length,<- r2.length];exact hz)
 refine⟨.ref s.heap.objs.size,_,I.laid (t':=s.toks) (o:=.tup (xs ++ ys)) (fun b ob q=>aq _ q) (aA _) ?_,rfl,q2 (fun w=>z (r2.nil_iff.mpr w)) _ (I.hok.fresh (aA _))⟩
 exact⟨by rw[a9];exact hz,_,r1.append r2,TupN.new _ _⟩
end
end L2
namespace L2
open PySem PySem.Spec PyProof.Rows
def ixN(n:Nat)(i:Int):Option Nat:=if 0<=i then (if i<n then ae i.toNat else af) else if -(n:Int)<=i then ae (i+n).toNat else af
def atI{α:Type}(xs:List α)(i:Int):Option α:=(ixN xs.length i).bind fun j=>xs[j]?
theorem ixN_seq{n:Nat}{i:Int}{j:Nat}(h:ixN n i=ae j):seqIndex? i n=ae j/\j<n /\ -(n:Int)<=i/\i<n:=by
 unfold ixN at h
 by_cases h0:0<=i
 ·rw[if_pos h0] at h
  by_cases h1:i<n
  ·rw[if_pos h1] at h
   have e:i.toNat=j:=bc h
   exact⟨by rw[seqIndex_of h0 h1,e],by lia,by lia,h1⟩
  ·rw[if_neg h1] at h;cases h
 ·rw[if_neg h0] at h
  by_cases h1:-(n:Int)<=i
  ·rw[if_pos h1] at h
   have e:(i+n).toNat=j:=bc h
   exact⟨by rw[seqIndex_neg (by lia) h1,e],by lia,h1,by lia⟩
  ·rw[if_neg h1] at h;cases h
theorem zic{α:Type}{xs:List α}{i:Int}{v:α}(h:atI xs i=ae v):∃ j,seqIndex? i xs.length=ae j/\xs[j]? = ae v/\j<xs.length /\ -(xs.length:Int)<=i/\i<xs.length:=by
 unfold atI at h
 cases e:ixN xs.length i with
 | none=>rw[e] at h;cases h
 | some j=>
  rw[e] at h
  obtain⟨h1,h2,h3,h4⟩:=ixN_seq e
  exact⟨j,h1,h,h2,h3,h4⟩
def zh3(b:Expr):Prop:=∀ o i,subscripted b false o i=operate [o,i] (getItem o i)
def IxR(X:Cx)(r:R2):Prop:=
 ∀ (value slice:Expr) (pins:List (ai × Obj)) (s:am) (σ:St) (H:Hp) (x y:V) (v u:ag) (Q:VK),Inv X pins σ H s->RelV x v->RelV y u->r x y H Q ->
  subscripted slice false v u=operate [v,u] (getItem v u)->ay (model X.prog X.w) X.A (subscriptTail value slice v u) (EP X pins σ Q) X.xe s
def MtR(X:Cx)(id:String)(r:V->List V->Hp->VK->Prop):Prop:=
 ∀ (pins:List (ai × Obj)) (s:am) (σ:St) (H:Hp) (x:V) (xs:List V) (v:ag) (us:List ag) (Q:VK),Inv X pins σ H s->RelV x v->Vals xs us->r x xs H Q ->
  ay (model X.prog X.w) X.A (call (.builtin id) (v :: us)) (EP X pins σ Q) X.xe s
section
variable {X:Cx}{a b:Expr}{ta tb:TE}{pos:Pos}
theorem pe_ix{r:R2}(hr:IxR X r)(ha:PE X a ta)(hb:PE X b tb)(hs:zh3 b):PE X (.Subscript a b pos) (tOp r ta tb):=by
 intro pins s σ H Q I h
 exact Subscript_ (binT ha hb I h fun v u s2 x y H2 I2 rx ry q=>hr a b pins s2 σ H2 x y v u Q I2 rx ry q (hs _ _))
def rIxL(K:ak):R2:=fun x y H Q=>∃ p xs i v,x=.ref p/\y=.int i/\SqL K H p xs/\atI xs i=ae v/\Q v H
def rIxT(K:ak):R2:=fun x y H Q=>∃ p xs i v,x=.ref p/\y=.int i/\SqT K H p xs/\atI xs i=ae v/\Q v H
def rIxS:R2:=fun x y H Q=>∃ z i c,x=.str z/\y=.int i/\z.length<=ba/\atI z.cps.toList i=ae c/\Q (.str ⟨#[c]⟩) H
theorem ix_list:IxR X (rIxL X.K):=by
 intro value slice pins s σ H x y v u Q I rx ry h hs
 obtain⟨p,xs,i,z,rfl,rfl,hq,he,q⟩:=h
 cases rx
 obtain⟨t,rfl⟩:=ry
 obtain⟨its,r,pl,hz⟩:=I.list hq
 obtain⟨j,h1,h2,h3,h4,h5⟩:=zic he
 obtain⟨w,ew,rw'⟩:=r.get h2
 have hl:=r.length
 have hn:=zhl
 have fin:EP X pins σ Q w s:=⟨z,H,I,rw',q⟩
 by_cases h0:0<=i
 ·have hj:i.toNat=j:=by
   rw[seqIndex_of h0 h5] at h1
   exact bc h1
  exact item_listR pl.isList h0 (by lia) (by rw[hj];simpa using ew) fin hs
 ·have hj:(i+(its.toArray.size:Int)).toNat=j:=by
   rw[seqIndex_neg (by lia) h4] at h1
   rw[bu,<- hl]
   exact bc h1
  exact subscriptTail_builtinR (x:=w) pl.isList.typeIs slot_list_getitem.lookup
   (wpAny_getItem_list_neg (Q:=fun r s'=>r=w/\EP X pins σ Q r s') pl.isList (by lia) (by rw[bu] <;> lia) (by lia) (by rw[hj];simpa using ew) ⟨rfl,fin⟩) hs
theorem ix_tup:IxR X (rIxT X.K):=by
 intro value slice pins s σ H x y v u Q I rx ry h hs
 obtain⟨p,xs,i,z,rfl,rfl,hq,he,q⟩:=h
 cases rx
 obtain⟨t,rfl⟩:=ry
 obtain⟨its,r,pl,hz⟩:=I.tuple hq
 obtain⟨j,h1,h2,h3,h4,h5⟩:=zic he
 obtain⟨w,ew,rw'⟩:=r.get h2
 have hl:=r.length
 have hn:=zhl
 have fin:EP X pins σ Q w s:=⟨z,H,I,rw',q⟩
 exact subscriptTail_builtinR (x:=w) pl.typeIs slot_tuple_getitem.lookup
  (getItem_tuple (j:=j) (Q:=fun r s'=>r=w/\EP X pins σ Q r s') pl (by lia) (by lia) (by rw[bu,<- hl];exact h1) (by simpa using ew) ⟨rfl,fin⟩) hs
theorem ix_str:IxR X rIxS:=by
 intro value slice pins s σ H x y v u Q I rx ry h hs
 obtain⟨z,i,c,rfl,rfl,hz,he,q⟩:=h
 obtain⟨t,rfl⟩:=rx
 obtain⟨t',rfl⟩:=ry
 obtain⟨j,h1,h2,h3,h4,h5⟩:=zic he
 have hl:z.cps.toList.length=z.length:=by simp[hV]
 rw[hl] at h1 h4 h5
 have hn:=zhl
 exact tail_any (typeIs_str s z t) slot_str_getitem.lookup (getItem_str (c:=c) (by
  have e1:decide (i < -(2 ^ 63:Int))=false:=decide_eq_false (by lia)
  have e2:decide (i ≥ 2 ^ 63)=false:=decide_eq_false (by lia)
  rw[e1,e2,eF]) (by rw[h1];simpa using h2) ⟨.str ⟨#[c]⟩,H,I.tok _,⟨_,rfl⟩,q⟩) hs
theorem zhY(lo hi:Option Int)(n:Nat):(sliceBounds lo hi af n).1=((HT.sIx n 0 lo:Nat):Int)/\(sliceBounds lo hi af n).2.1=((HT.sIx n n hi:Nat):Int)/\(sliceBounds lo hi af n).2.2=1:=by
 refine⟨?_,?_,rfl⟩
 ·cases lo with
  | none=>simp[sliceBounds,HT.sIx]
  | some i=>
   simp only[sliceBounds,HT.sIx,i4,show(1:Int) > 0 by decide,if_true]
   by_cases h:i<0
   ·simp only[h,if_true] <;> lia
   ·simp only[h,if_false] <;> lia
 ·cases hi with
  | none=>simp[sliceBounds,HT.sIx]
  | some i=>
   simp only[sliceBounds,HT.sIx,i4,show(1:Int) > 0 by decide,if_true]
   by_cases h:i<0
   ·simp only[h,if_true] <;> lia
   ·simp only[h,if_false] <;> lia
theorem zg7(its:List ag)(lo hi:Option Int):slicePick its.toArray lo hi af=((its.drop (HT.sIx its.length 0 lo)).take (HT.sIx its.length its.length hi - HT.sIx its.length 0 lo)).toArray:=by
 obtain⟨h1,h2,h3⟩:=zhY lo hi its.toArray.size
 unfold slicePick
 rw[h1,h2,h3]
 simp only[sliceRange_one,pick_run,bu] <;> rfl
def rSlL(K:ak):V->Option Int->Option Int->Hp->VK->Prop:=fun x lo hi H Q=>∃ a xs,x=.ref a/\SqL K H a xs/\∀ p,H p=af->Q (.ref p) (upd H p (.lst (cutV xs lo hi)))
theorem sl_list:SlR X (rSlL X.K):=by
 intro pins s σ H x v vl vu lo hi sl Q I rx hs pl pu h
 obtain⟨a,xs,rfl,hx,q⟩:=h
 cases rx
 obtain⟨its,r,ht,hz⟩:=I.list hx
 have hlen:=r.length
 refine⟨"list",_,slot_list_getitem.lookup,ht.isList.typeIs,?_⟩
 refine wpAny_getItem_list_slice ht.isList hs pl pu .none (by simp) ?_ (by rw[bu] <;> lia)
 rw[zg7,<- hlen]
 refine⟨.ref s.heap.objs.size,_,I.laid (t':=s.toks) (o:=.lst (cutV xs lo hi)) (fun b ob q=>aq _ q) (aA _) ?_,rfl,q _ (I.hok.fresh (aA _))⟩
 exact⟨bK (zis xs lo hi) hz,_,0,(r.drop (HT.sIx xs.length 0 lo)).take (HT.sIx xs.length xs.length hi - HT.sIx xs.length 0 lo),az _ rfl⟩
def flatV:V->Bool
 | .non=>true
 | .bl _=>true
 | .int _=>true
 | .str _=>true
 | _=>false
def eqV:V->V->Bool
 | .non,.non=>true
 | .bl a,.bl b=>a == b
 | .bl a,.int b=>(if a then 1 else 0) == b
 | .int a,.bl b=>a == (if b then 1 else 0)
 | .int a,.int b=>a == b
 | .str a,.str b=>a == b
 | _,_=>false
theorem eqAt_V{A:a8}{s:am}{y x:V}{u v:ag}(ry:RelV y u)(rx:RelV x v)(fy:flatV y=true)(fx:flatV x=true):hW A s u v (eqV y x):=by
 cases y with
 | non=>
  cases ry
  cases x with
  | non=>cases rx;exact eU _
  | bl b=>cases rx;exact kf b
  | int b=>obtain⟨t,rfl⟩:=rx;exact ik b t
  | str b=>obtain⟨t,rfl⟩:=rx;exact km b t
  | _=>exact absurd (show false=true from fx) aU
 | bl a=>
  cases ry
  cases x with
  | non=>cases rx;exact kg a
  | bl b=>cases rx;exact kh a b
  | int b=>obtain⟨t,rfl⟩:=rx;exact ko a b t
  | str b=>obtain⟨t,rfl⟩:=rx;exact kt a b t
  | _=>exact absurd (show false=true from fx) aU
 | int a=>
  obtain⟨t',rfl⟩:=ry
  cases x with
  | non=>cases rx;exact im a t'
  | bl b=>cases rx;exact ku a t' b
  | int b=>obtain⟨t,rfl⟩:=rx;exact kB a t' b t
  | str b=>obtain⟨t,rfl⟩:=rx;exact iu a t' b t
  | _=>exact absurd (show false=true from fx) aU
 | str a=>
  obtain⟨t',rfl⟩:=ry
  cases x with
  | non=>cases rx;exact kx a t'
  | bl b=>cases rx;exact ky a t' b
  | int b=>obtain⟨t,rfl⟩:=rx;exact iw a t' b t
  | str b=>obtain⟨t,rfl⟩:=rx;exact kC a t' b t
  | _=>exact absurd (show false=true from fx) aU
 | _=>exact absurd (show false=true from fy) aU
theorem zhs:zgn X (.builtin "len") (fun xs H Q=>∃ p ys,xs=[.ref p]/\(SqL X.K H p ys \/ SqT X.K H p ys)/\Q (.int ys.length) H):=by
 intro pins s σ H xs us Q I r h
 obtain⟨p,ys,rfl,hq,q⟩:=h
 obtain⟨u,rfl,rx⟩:=vals1 r
 cases rx
 have hn:=zhl
 rcases hq with hq | hq
 ·obtain⟨its,r',pl,hz⟩:=I.list hq
  have hlen:=r'.length
  exact Calls.call_len_list pl.isList (by simp only[bu] <;> lia) ⟨.int ys.length,H,I.tok _,⟨s.toks+1,by rw[bu,hlen]⟩,q⟩
 ·obtain⟨its,r',pl,hz⟩:=I.tuple hq
  have hlen:=r'.length
  exact len_tuple pl (by simp only[bu] <;> lia) ⟨.int ys.length,H,I.tok _,⟨s.toks+1,by rw[bu,hlen]⟩,q⟩
theorem zhG:zgn X (.builtin "len") (fun xs H Q=>∃ z,xs=[.str z]/\z.length<=ba/\Q (.int z.length) H):=by
 intro pins s σ H xs us Q I r h
 obtain⟨z,rfl,hz,q⟩:=h
 obtain⟨u,rfl,t,rfl⟩:=vals1 r
 have hn:=zhl
 exact len_str (by lia) ⟨.int z.length,H,I.tok _,⟨_,rfl⟩,q⟩
theorem zgV:zgn X (.type "tuple") (fun xs H Q=>∃ p ys,xs=[.ref p]/\((SqL X.K H p ys/\∀ l,H l=af->Q (.ref l) (upd H l (.tup ys))) \/ (SqT X.K H p ys/\Q (.ref p) H))):=by
 intro pins s σ H xs us Q I r h
 obtain⟨p,ys,rfl,h⟩:=h
 obtain⟨u,rfl,rx⟩:=vals1 r
 cases rx
 rcases h with ⟨hq,q⟩ | ⟨hq,q⟩
 ·obtain⟨its,r',pl,hz⟩:=I.list hq
  have hlen:=r'.length
  refine call_tuple_list pl.isList (fun h' kp=>?_) (by simp only[bu] <;> lia)
  have I1:Inv X pins σ H { s with heap:=h'}:=I.kept (t':=s.toks) kp
  have I2:Inv X pins σ (upd H h'.objs.size (.tup ys)) { s with heap:=h'.push { cls:=.type "tuple",data:=.seq its.toArray}}:=
   I1.laid (t':=s.toks) (fun b o e=>aq _ e) (aA _) (show ObjOk X.prog X.w _ _ _ (.tup ys) from ⟨hz,its,r',TupN.new _ _⟩)
  exact⟨.ref h'.objs.size,_,I2,rfl,q _ (I1.hok.fresh (aA _))⟩
 ·obtain⟨its,r',pl,hz⟩:=I.tuple hq
  exact call_tuple_same pl ⟨.ref p,H,I,rfl,q⟩
def tyV(K:ak)(T:String)(x:V)(H:Hp):Prop:=match x with
 | .str _=>T = "str"
 | .int _=>T = "int"
 | .ref p=>(T = "list" /\ ∃ xs,SqL K H p xs) \/ (T = "tuple" /\ ∃ o,K.lookup p=ae o/\o.cls=.type "tuple" /\ o.dict=af) \/
   (T = "dict" /\ ((∃ kvs,Rd H p (.dK kvs)) \/ ∃ kvs,H p=ae (.dT kvs))) \/ (T = "set" /\ ∃ S n,H p=ae (.set S n))
 | _=>False
theorem tyV_is{pins:List (ai × Obj)}{σ:St}{H:Hp}{s:am}{T:String}{x:V}{v:ag}(I:Inv X pins σ H s)(r:RelV x v)(ty:tyV X.K T x H) :
  s.TypeIs v T/\∀ a,v=.ref a->∃ ob,s.heap.get? a=ae ob/\ob.dict=af:=by
 cases x with
 | str z=>
  obtain⟨t,rfl⟩:=r
  cases (show T = "str" from ty)
  exact⟨typeIs_str s z t,fun _ e=>nomatch e⟩
 | int i=>
  obtain⟨t,rfl⟩:=r
  cases (show T = "int" from ty)
  exact⟨typeIs_int s i t,fun _ e=>nomatch e⟩
 | ref p=>
  cases r
  rcases ty with ⟨rfl,xs,hq⟩ | ⟨rfl,o,hk,hc,hd⟩ | ⟨rfl,hk⟩ | ⟨rfl,S,n,hk⟩
  ·obtain⟨its,_,pl,_⟩:=I.list hq
   refine⟨pl.isList.typeIs,fun a e=>?_⟩
   cases e
   obtain⟨o,n,e,c,hd,_⟩:=pl
   exact⟨o,e,hd⟩
  ·refine⟨⟨o,I.kIn p o hk,hc⟩,fun a e=>?_⟩
   cases e
   exact⟨o,I.kIn _ o hk,hd⟩
  ·have z:∃ o,s.heap.get? p=ae o/\o.ExactDict:=by
    rcases hk with ⟨kvs,hk⟩ | ⟨kvs,hk⟩
    ·obtain⟨_,_,_,_,o,_,_,e,ex,_⟩:=hk.ok I.hok
     exact⟨o,e,ex⟩
    ·obtain⟨_,_,_,_,o,_,_,e,ex,_⟩:=I.hok p _ hk
     exact⟨o,e,ex⟩
   obtain⟨o,e,ex⟩:=z
   refine⟨⟨o,e,ex.1⟩,fun a e2=>?_⟩
   cases e2
   exact⟨o,e,ex.2.1⟩
  ·obtain⟨o,_,_,_,e,ex,_⟩:=I.hok p _ hk
   refine⟨⟨o,e,ex.1⟩,fun a e2=>?_⟩
   cases e2
   exact⟨o,e,ex.2.1⟩
 | _=>exact bx ty
def tBM(K:ak)(T:String)(r:V->List V->Hp->VK->Prop)(to:TE)(t:TA):TE:=fun σ H Q=>to σ H fun x H1=>tyV K T x H1/\t σ H1 fun xs H2=>r x xs H2 Q
variable {o e:Expr}{es:List Expr}{to:TE}{t:TA}{name:Str}{apos cpos:Pos}{T id:String}{r:V->List V->Hp->VK->Prop}
theorem pe_bm(pa:PlainAttrs T)(slot:Slot T name id)(hty:typeOf (.builtin id)=pure (.type "method_descriptor"))(hm:MtR X id r)(ho:PE X o to)(ha:PA X (e :: es) t)
  (hbase:cq o name X.env (eval o X.env)=eval o X.env:=by rfl)
  (hfew:((backTo cpos (aY (e :: es) X.env)).all (fun x=>!x.1) && (backToKw cpos (keywordEach [] X.env)).all (fun x=>x.1.isSome)
   && decide ((e :: es).length+([]:List Keyword).length+(if ([]:List Keyword).isEmpty then 0 else 1)<30))=true:=by rfl)
  (hline:(apos.endLine == cpos.line)=true:=by rfl) (hs:aY (e :: es) X.env=(false,eval e X.env) :: aY es X.env:=by rfl) (hplain:(backTo cpos (aY es X.env)).any (·.1)=false:=by rfl) :
  PE X (.Call (.Attribute o name apos) (e :: es) [] cpos) (tBM X.K T r to t):=by
 intro pins s σ H Q I h
 refine wpAny_Call_method_late hbase hfew hline rfl (thn (ho pins s σ H _ I h) fun v s1 ⟨x,H1,I1,r1,ty,q1⟩=>?_)
 obtain⟨h1,h2⟩:=tyV_is I1 r1 ty
 refine⟨T,id,pa,slot,hty,h1,h2,?_⟩
 have hA:=ha cpos pins s1 σ H1 _ I1 q1
 rw[hs] at hA ⊢
 refine Calls.callWith_builtin (by show(false || (backTo cpos (aY es X.env)).any (·.1))=false;rw[hplain] <;> rfl) (hZ ?_)
 exact thn hA fun us s2 ⟨vs,H2,I2,r2,q2⟩=>hm pins s2 σ H2 x vs v us Q I2 r1 r2 q2
end
end L2
namespace L2
open PySem PySem.Spec PyProof.Rows
def MtM(X:Cx)(id:String)(r:V->List V->Hp->VK->Prop):Prop:=
 ∀ (pins:List (ai × Obj)) (s:am) (σ:St) (H:Hp) (x:V) (xs:List V) (v:ag) (us:List ag) (Q:VK),Inv X pins σ H s->RelV x v->Vals xs us->r x xs H Q ->
  ay (model X.prog X.w) X.A (call (.builtin id) (v :: us)) (EP X pins σ Q) X.xe s
theorem Vals.one:∀ {x:V} {us:List ag},Vals [x] us->∃ u,us=[u]/\RelV x u
 | _,_,.cons r .nil=>⟨_,rfl,r⟩
section
variable {X:Cx}{pins:List (ai × Obj)}{σ:St}{H:Hp}{s:am}{l b:ai}{xs ys zs:List V}
theorem Inv.lset{its its':List ag}{n:Nat}{f:Array ag->Array ag}{t':Nat}(I:Inv X pins σ H s)(hH:H l=ae (.lst xs))
  (e:s.heap.get? l=ae { cls:=.type "list",data:=.seq its.toArray n}) (hf:f its.toArray=its'.toArray) (hv:Vals ys its') (hz:ys.length<=ba) :
  Inv X pins σ (upd H l (.lst ys)) { s with heap:=s.heap.update l (eV f),toks:=t'}:=by
 have q:=kK e f
 rw[hf] at q
 refine I.write (x:=l) (e:=l) (by rw[hH];exact trivial) (.inl rfl) (fun b' u hb hu=>(ci s.heap (eV f) (cr hb)).trans hu) ⟨_,q⟩ ?_
 exact⟨hz,its',_,hv,q⟩
theorem Inv.lnew{its:List ag}{t':Nat}(I:Inv X pins σ H s)(hv:Vals ys its)(hz:ys.length<=ba) :
  Inv X pins σ (upd H s.heap.objs.size (.lst ys)) { s with heap:=s.heap.push { cls:=.type "list",data:=.seq its.toArray},toks:=t'}:=
 I.laid (fun _ _ q=>aq _ q) (aA _) ⟨hz,its,0,hv,az _ rfl⟩
theorem Inv.fresh(I:Inv X pins σ H s):H s.heap.objs.size=af:=I.hok.fresh (aA _)
theorem Inv.lstM(I:Inv X pins σ H s)(hH:H l=ae (.lst xs)):xs.length<=ba/\∃ (its:List ag) (n:Nat),Vals xs its/\xs.length=its.length/\s.heap.get? l=ae { cls:=.type "list",data:=.seq its.toArray n}:=by
 obtain⟨z,its,n,r,e⟩:=I.hok l _ hH
 exact⟨z,its,n,r,r.length,e⟩
end
section
variable {X:Cx}
def rAppend:V->List V->Hp->VK->Prop:=fun x vs H Q=>∃ l xs y,x=.ref l/\vs=[y]/\H l=ae (.lst xs)/\xs.length<ba/\Q .non (upd H l (.lst (xs ++ [y])))
theorem zeZ:MtM X "list.append" rAppend:=by
 intro pins s σ H x vs v us Q I rx rv h
 obtain⟨l,xs,y,rfl,rfl,hH,hz,q⟩:=h
 cases rx
 obtain⟨u,rfl,ru⟩:=rv.one
 obtain⟨z,its,n,r,hl,e⟩:=I.lstM hH
 refine call_meets F.slot_list_append ⟨_,e,rfl⟩ F.entry_list_append (F.args_list_append_2 _ _) (PySem.list_append l its.toArray n u (by rw[bu];lia)) ⟨e,?_⟩
 refine⟨.non,_,I.lset (its':=its ++ [u]) hH e (by simp) (r.append (.cons ru .nil)) ?_,rfl,q⟩
 rw[a9,eQ]
 lia
def rCat:R2:=fun x y H Q=>∃ l b xs zs,x=.ref l/\y=.ref b/\H l=ae (.lst xs)/\H b=ae (.lst zs)/\xs.length+zs.length<=ba/\∀ p,H p=af->Q (.ref p) (upd H p (.lst (xs ++ zs)))
theorem op_cat:OpR X (binaryOp .Add) rCat:=by
 intro pins s σ H x y v u Q I rx ry h
 obtain⟨l,b,xs,zs,rfl,rfl,hH,hB,hz,q⟩:=h
 cases rx
 cases ry
 obtain⟨z,its,n,r,hl,e⟩:=I.lstM hH
 obtain⟨z2,its2,n2,r2,hl2,e2⟩:=I.lstM hB
 refine PySem.P.add_list e e2 ?_ (by rw[bu,bu];lia)
 have ea:its.toArray ++ its2.toArray=(its ++ its2).toArray:=by simp
 rw[ea]
 exact⟨.ref _,_,I.lnew (t':=s.toks) (r.append r2) (by rw[a9];lia),rfl,q _ I.fresh⟩
end
section
variable {prog:aR}{w:aX}{A:a8}{E:ag->am->Prop}{s:am}
end
section
variable {X:Cx}
end
end L2
namespace Att
open PySem PySem.W PySem.Calls PyProof.Rows
theorem zf6{P:Params}{h:aW}:∀ (ns:List Int) (vs:List ag),WellAll P h vs (ns.map kD)->IntsAre vs ns:=by
 intro ns
 induction ns with
 | nil=>
  intro vs w
  rw[cc] at w
  cases w
  exact .nil
 | cons n ns ih=>
  intro vs w
  rw[aH] at w
  cases w with
  | cons a b=>
   cases a
   exact .cons _ _ (ih _ b)
theorem script_of{l:OpenLaw}{n:Nat}(hn:l.most=ae n){P:Params}{h:aW}{args:List WData}{vals:List ag}
  (hpre:l.row.toRowW.claim.pre args=true) (hwl:WellAll P h vals args) :
  ∃ a vs ns,vals=[bO a]/\args=[WData.list (ns.map kD)]/\h.get? a=ae { cls:=.type "list",data:=.seq vs.toArray}/\IntsAre vs ns/\ns.length<=n:=by
 have hsh:WShape.hasAll [] args [.list .int]=true:=(pre_splitW hpre).1
 have hc:l.pre.holds [] { args:=args}=true:=(pre_splitW hpre).2
 obtain⟨d,r,rfl,h1,h2⟩:=hasAllW_cons hsh
 obtain rfl:=hasAllW_nil h2
 obtain⟨xs,rfl,h3⟩:=hasW_list h1
 obtain⟨ns,rfl⟩:=items_int h3
 have hlen:ns.length<=n:=by
  unfold OpenLaw.pre at hc
  have h4:(WTm.not (.lt (.lit (.int (n:Int))) (.len (.arg 0)))).holds [] { args:=[.list (ns.map .int)]}=true:=by
   have h4:=(holds_andW hc).1
   rw[hn] at h4
   exact h4
  have h5:=condW_of h4 (w_not (w_lt w_lit (w_len_list (w_arg rfl))))
  rw[ax] at h5
  refine Nat.le_of_not_lt fun q=>?_
  have q':(n:Int)<((ns.length:Nat):Int):=by lia
  first
   | (rw[decide_eq_true q'] at h5;exact absurd h5 (by decide))
   | (simp at h5;lia)
 cases hwl with
 | cons w1 w2=>
  cases w2
  cases w1 with
  | list ho hall=>exact⟨_,_,ns,rfl,rfl,ho,zf6 ns _ hall,hlen⟩
theorem post_true(l:OpenLaw)(args:List WData):l.row.toRowW.claim.post args (.bool true) args=true:=
 postW_of (r:=l.row.toRowW) (X:=(true == true))
  (show ki [] (.bool true) .bool=true by first | rfl | decide | simp[ki,WShape.arms,WShape.armsAll])
  (show(WTm.eq .res (.lit (.bool true))).value [] { args:=args,res:=ae (.bool true),after:=args}=ae (.bool (true == true)) from w_eq_bool (w_res rfl) w_lit) rfl
theorem attach_call{l:OpenLaw}{n:Nat}{q:aR}{loose:List Str}{XP:(Str->Option ag)->aW->Prop}{YP:aX->aW->Prop}{d:DefRec}
  (hn:l.most=ae n) (hdf:d.params.defaults=[])
  (call:∀ (w:aX) (s₀ s₁:am) (mg mb:Str->Option ag) (fa:ai) (o:Obj) (pm cd doc:ag) (a:ai) (vs:List ag) (ns:List Int),
   Ground q loose [] XP w s₀ mg mb s₁.heap->YP w s₁.heap ->
   s₁.heap.get? fa=ae o->o.data=.func (docDef d.name d.params d.body d.scope pm cd doc)->s₁.heap.CodeRec cd d.name->mg d.name=ae (.ref fa) ->
   s₁.heap.get? a=ae { cls:=.type "list",data:=.seq vs.toArray}->IntsAre vs ns->ns.length<=n->s₁.gens=#[] ->
   codeAny (model l.prog w) callerA (.call (.ref fa) ⟨[.ref a],[]⟩) (fun r s'=>r=.ok (.ret (.bool true))/\OldK s₁.heap s'.heap/\s'.os=s₁.os/\AllBare s'.gens) s₁) :
  WalkO q loose XP YP l.row.toRowW d [] (fun f vs=>jd f vs):=by
 intro w s₀ s₁ mg mb G Y fa o pm cd doc dV kV ho hd hcd hD hmg hg args vals as hpre hlay hrd hwl hlo
 obtain rfl:dV=.none:=Dflts.none hD hdf
 obtain rfl:kV=.none:=Dflts.noKw hD
 obtain⟨a,vs,ns,rfl,rfl,hobj,hints,hlen⟩:=script_of hn hpre hwl
 refine enter_call (codeAny_mono (call w s₀ s₁ mg mb fa o pm cd doc a vs ns G Y ho (fd_plain hd) hcd hmg hobj hints hlen hg) fun r s' hq=>?_)
 obtain⟨rfl,h2,h3,h4⟩:=hq
 exact⟨.inl ⟨.bool true,.bool true,[],rfl,fun _=>rfl,.bool true,post_true l _,fun _=>⟨kF,fun _ hm=>(nomatch hm)⟩⟩,h2,h3,h4⟩
section
variable {prog:aR}{w:aX}{A:a8}{E:ag->am->Prop}{s:am}{K:Frag}
end
end Att
namespace L2
open PySem PySem.Spec PyProof.Rows
theorem zhu:∀ {vs:List ag} {ns:List Int},IntsAre vs ns->Vals (ns.map V.int) vs
 | _,_,.nil=>.nil
 | _,_,.cons n t h=>.cons ⟨t,rfl⟩ (zhu h)
def Only(H:Hp):Prop:=∀ b,H b=af \/ ∃ o xs,H b=ae (.frz o (.lst xs))
theorem law_call{P:aR}{w:aX}{K:ak}{mg mb:Str->Option ag}{CX:CXT}{k:Nat}{fa a:ai}{fd:bq}{x:Str}{sp:Sp}{s₁:am}{vs:List ag}{ns:List Int}
  (KX:K.In s₁.heap) (hns:s₁.heap.Ns aD mg) (hb:s₁.heap.Ns builtinsNs mb) (hbb:∀ x:Str,x ≠ "__name__" -> mb x=aZ x) (hlim:s₁.heap.NoLimit) (hg:s₁.gens=#[])
  (ha:s₁.heap.get? a=ae { cls:=.type "list",data:=.seq vs.toArray}) (hi:IntsAre vs ns) (hl:ns.length<=ba) (hr:Room k callerA)
  (F:∀ base:aW,K.In base->base.Ns aD mg->FnOk P w K mg base CX k fa fd [x] sp) (hbind:∀ (s:am) (u:ag),BindsTo s fd ⟨[u],[]⟩ [(x,u)])
  (hsp:∀ H:Hp,Only H->SqL K H a (ns.map V.int)->sp [.ref a] H (fun v _=>v=.bl true) fun _ _ _=>False)
  (hCX:∀ H e s',CX [] H s₁ (fun _ _ _=>False) e s'->False) :
  codeAny (model P w) callerA (.call (.ref fa) ⟨[.ref a],[]⟩) (fun r s'=>r=.ok (.ret (.bool true))/\OldK s₁.heap s'.heap/\s'.os=s₁.os/\AllBare s'.gens) s₁:=by
 have rv:=zhu hi
 have lenV:=hi.length
 have core:∀ H:Hp,Only H->SqL K H a (ns.map V.int)->HOk P w H s₁.heap->(∀ b,H b ≠ af->b=a)->(H a ≠ af->K.lookup a=af) ->
   codeAny (model P w) callerA (.call (.ref fa) ⟨[.ref a],[]⟩) (fun r s'=>r=.ok (.ret (.bool true))/\OldK s₁.heap s'.heap/\s'.os=s₁.os/\AllBare s'.gens) s₁:=by
  intro H hO hS hok hA hK
  have base_of:∀ {b:ai} {o:Obj},s₁.heap.get? b=ae o->H b=af->(hidT s₁.heap H).get? b=ae o:=fun e n=>hidT_get e n
  have noA:∀ {b:ai} {o:Obj} {es:Array DictEntry} {ep:Nat},s₁.heap.get? b=ae o->o.data=.dict es ep->H b=af:=fun {b o es ep} e d=>by
   cases q:H b with
   | none=>rfl
   | some u=>
    have e':b=a:=hA b (by rw[q];simp)
    subst e'
    rw[ha] at e;cases e
    have d':i0 vs.toArray _=Data.dict es ep:=d
    cases d'
  have nsK:∀ {b:ai} {m:Str->Option ag},s₁.heap.Ns b m->(hidT s₁.heap H).Ns b m:=fun {b m} ⟨o,es,ep,e,d,r⟩=>⟨o,es,ep,base_of e (noA e d),d,r⟩
  have hKb:K.In (hidT s₁.heap H):=fun b o e=>base_of (KX b o e) (by
   cases q:H b with
   | none=>rfl
   | some u=>
    have e':b=a:=hA b (by rw[q];simp)
    subst e'
    rw[hK (by rw[q];simp)] at e;cases e)
  have hM:Mod K mg (hidT s₁.heap H):=⟨hKb,nsK hns,⟨mb,nsK hb,hbb⟩,let⟨mc,h1,h2⟩:=hlim;⟨mc,nsK h1,h2⟩⟩
  have e0:Env0 P w K mg (hidT s₁.heap H) callerA [] s₁ H:=⟨rfl,hM,fun b o e=>of_hidT e,gu (hidT_size _ _),trivial,fun b hb=>absurd (show b ∈ ([]:List ai) from hb) (by simp),hok,.of_eq hg⟩
  refine codeAny_mono ((F _ hKb (nsK hns)).run callerA [] s₁ H ⟨[.ref a],[]⟩ [.ref a] [.ref a] _ _ hr e0 (hbind s₁ (.ref a)) (.cons rfl .nil) (hsp H hO hS)) fun r s' h=>?_
  cases r with
  | error e=>exact(hCX H e s' h).elim
  | ok fl=>
   cases fl with
   | next=>exact bx h
   | brk=>exact bx h
   | cont=>exact bx h
   | ret u=>
    obtain⟨v,H',os,bare,un,hok',r',q⟩:=h
    have q':v=.bl true:=q
    subst q'
    obtain rfl:u=gg true:=r'
    refine⟨rfl,OldK.of_keep fun b o e=>?_,os,bare⟩
    cases q:H b with
    | none=>exact un.keep b o e q (by intro z;exact absurd (show b ∈ ([]:List ai) from z) (by simp)) (by simp)
    | some u=>
     rcases hO b with z | ⟨ob,xs,z⟩
     ·rw[q] at z;cases z
     ·have z2:=un.frzs b ob _ z
      obtain⟨e1,_⟩:=hok b _ z
      obtain⟨e2,_⟩:=hok' b _ z2
      rw[e] at e1;cases e1
      exact e2
 cases hk:K.lookup a with
 | some o=>
  have e:=KX a o hk
  rw[ha] at e
  cases e
  refine core (fun _=>af) (fun _=>.inl rfl) (.inr ⟨_,vs.toArray,_,hk,rfl,rfl,rfl,by rw[bu,lenV];exact hl,by simpa using rv⟩) (fun b u z=>by have z':(af:Option HO)=ae u:=z;cases z') (fun b z=>absurd rfl z) fun z=>absurd rfl z
 | none=>
  refine core (fun b=>if b=a then ae (.frz { cls:=.type "list",data:=.seq vs.toArray} (.lst (ns.map V.int))) else af) (fun b=>?_) (.inl (.inr ⟨{ cls:=.type "list",data:=.seq vs.toArray},if_pos rfl⟩)) (fun b u z=>?_) (fun b z=>?_) fun _=>hk
  ·by_cases hb:b=a
   ·exact .inr ⟨_,_,if_pos hb⟩
   ·exact .inl (if_neg hb)
  ·by_cases hb:b=a
   ·have z':=(if_pos hb).symm.trans z
    cases z'
    subst hb
    exact⟨ha,by rw[ax];exact hl,vs,_,rv,ha⟩
   ·have z':=(if_neg hb).symm.trans z
    cases z'
  ·by_cases hb:b=a
   ·exact hb
   ·exact absurd (if_neg hb) z
end L2
namespace L2
open PySem PySem.Spec PyProof.Rows
theorem walk_of{l:gN}{n k:Nat}{q:aR}{loose:List Str}{XP:(Str->Option ag)->aW->Prop}{YP:aX->aW->Prop}{d:DefRec}{K:Params->ak}{CX:aX->CXT}{sp:aX->Sp}{x:Str}
  (hn:l.most=ae n) (hn2:n<=ba) (hdf:d.params.defaults=[]) (hr:Room k callerA)
  (hY:∀ (w:aX) (h:aW),YP w h->(K w.params).In h)
  (F:∀ (w:aX) (mg:Str->Option ag) (fa:ai) (h:aW),(K w.params).In h->h.Ns aD mg->mg d.name=ae (.ref fa) ->
   ∃ fd:bq,(∀ (s:am) (u:ag),BindsTo s fd ⟨[u],[]⟩ [(x,u)]) /\
    ∀ base:aW,(K w.params).In base->base.Ns aD mg->FnOk l.prog w (K w.params) mg base (CX w) k fa fd [x] (sp w))
  (hsp:∀ (w:aX) (H:Hp) (a:ai) (ns:List Int),ns.length<=n->Only H->SqL (K w.params) H a (ns.map V.int)->sp w [.ref a] H (fun v _=>v=.bl true) fun _ _ _=>False)
  (hCX:∀ (w:aX) (H:Hp) (s:am) (e:ag) (s':am),CX w [] H s (fun _ _ _=>False) e s'->False) :
  jq q loose XP YP l.row.toRowW d [] (fun f vs=>jd f vs):=by
 refine Att.attach_call hn hdf fun w s₀ s₁ mg mb fa o pm cd doc a vs ns G Y ho hd hcd hmg hobj hints hlen hg=>?_
 have KX:=hY w _ Y
 obtain⟨fd,hb,hF⟩:=F w mg fa _ KX G.T.g hmg
 exact law_call KX G.T.g G.T.b G.T.builtins G.T.nolimit hg hobj hints (bK hlen hn2) hr hF hb (fun H hO hS=>hsp w H a ns hlen hO hS) fun H e s'=>hCX w H s₁ e s'
end L2
namespace L2
open PySem PySem.Spec PyProof.Rows
def zak(s:Stmt):Arguments:=match s with
 | .FunctionDef _ a _ _ _ _ _ _ _ _=>a
 | _=>{ posonlyargs:=[],args:=[],vararg:=af,kwonlyargs:=[],kw_defaults:=[],kwarg:=af,defaults:=[]}
def zah(s:Stmt):List Stmt:=match s with
 | .FunctionDef _ _ b _ _ _ _ _ _ _=>b
 | _=>[]
def zad(s:Stmt):Scope:=match s with
 | .FunctionDef _ _ _ _ _ _ sc _ _ _=>sc
 | _=>{ kind:=.function,names:=[],isGenerator:=false,isCoroutine:=false}
abbrev CX0:CXT:=fun _ _ _ _ _ _=>False
abbrev E0:XK:=fun _ _ _=>False
theorem zat{X:Cx}:zc6 CX0 X E0:=fun _ _ _ _ _ _ _ h=>h.elim
structure Fun(K:ak)(x qual:Str)(st:Stmt)(f:ai)(fd:bq):Prop where
 ex:∃ (oc:ag) (od:Option ai) (kV doc pm:ag) (an:Option ai) (cdv ct:ag) (osl:Array (Option ag)),
  fd=aQ x qual (zak st) (zah st) (zad st) .none kV doc pm an cdv ct/\K.lookup f=ae ⟨oc,od,.func fd,osl⟩/\aM K cdv qual=true
 kp:aI K (.ref f)=true
section
variable {P:aR}{w:aX}{K:ak}{mg:Str->Option ag}{base:aW}
theorem Fun.binds{x qual:Str}{st:Stmt}{f:ai}{fd:bq}{ps:List Str}(F:Fun K x qual st f fd)
  (h:∀ (kV doc pm:ag) (an:Option ai) (cdv ct:ag) (us:List ag),us.length=ps.length->bindArgs (aQ x qual (zak st) (zah st) (zad st) .none kV doc pm an cdv ct) ⟨us,[]⟩=pure (ps.zip us)):Binds K fd ps []:=by
 obtain⟨oc,od,kV,doc,pm,an,cdv,ct,osl,rfl,lk,hcd⟩:=F.ex
 exact .all (h kV doc pm an cdv ct)
theorem zaK{x qual:Str}{st:Stmt}{f:ai}{oc:ag}{od an:Option ai}{osl:Array (Option ag)}{kV doc pm cdv ct:ag}(l:K.lookup f=ae ⟨oc,od,.func (aQ x qual (zak st) (zah st) (zad st) .none kV doc pm an cdv ct),osl⟩)
  (c:aM K cdv qual=true) (k:aI K (.ref f)=true):Fun K x qual st f (aQ x qual (zak st) (zah st) (zad st) .none kV doc pm an cdv ct):=⟨⟨oc,od,kV,doc,pm,an,cdv,ct,osl,rfl,l,c⟩,k⟩
end
theorem zbn{A:a8}{k:Nat}(hr:Room k A):A.units+1<cLine:=iF (Nat.add_le_add_left (by decide:1<=64) _) hr.units
theorem zhz{n:Nat}(h:n<=1000):n<ba:=iF h (by decide)
section
variable {X:Cx}
end
theorem iteF{A B:Prop}(h:B):if false=true then A else B:=by
 rw[if_neg aU]
 exact h
theorem iteT{A B:Prop}(h:A):if true=true then A else B:=by
 rw[if_pos rfl]
 exact h
def Same(H H':Hp):Prop:=∀ b o,H b=ae o->H' b=ae o
theorem Same.refl(H:Hp):Same H H:=fun _ _ h=>h
theorem Same.trans{H H1 H2:Hp}(a:Same H H1)(b:Same H1 H2):Same H H2:=fun c o h=>b c o (a c o h)
theorem Same.free{H H':Hp}(e:Same H H'){l:ai}(h:H' l=j8):H l=j8:=by
 cases q:H l with
 | none=>rfl
 | some o=>
  rw[e l o q] at h
  cases h
theorem Same.seq{K:ak}{H H':Hp}{a:ai}{xs:List V}(e:Same H H')(h:SqL K H a xs):SqL K H' a xs:=by
 rcases h with (h | ⟨o,h⟩) | h
 ·exact .inl (.inl (e _ _ h))
 ·exact .inl (.inr ⟨o,e _ _ h⟩)
 ·exact .inr h
end L2

namespace L2
open PySem PySem.Spec PyProof.Rows
theorem zjt{α β:Type}{l:List α}{f:α->β->Sem (ForInStep β)}(g:β->α->β)(h:∀ x ∈ l,∀ c,f x c=pure (.yield (g c x)))(c:β):forIn l c f=pure (l.foldl g c):=by
 induction l generalizing c with
 | nil=>rfl
 | cons x l ih=>
  rw[d5,h x aC,pure_bind]
  exact ih (fun y hy=>h y (av _ hy)) _
def clG(env:Env)(cs:List (Str × ai))(x:Str × NameKind):List (Str × ai):=
 if (x.2 == bz)=true then (match env.cells.lookup x.1 with | some c=>(x.1,c) :: cs | none=>cs) else cs
def ziK(env:Env)(names:List (Str × NameKind)):List (Str × ai):=names.foldl (clG env) []
theorem zgE{scope:Scope}{env:Env}(h:∀ y ∈ scope.names,y.2=.free->∃ c,env.cells.lookup y.1=ae c):closureFor scope env=pure (ziK env scope.names):=by
 simp only[closureFor]
 rw[zjt (clG env) (fun x hx c=>by
  obtain⟨n,k⟩:=x
  cases hk:(k == bz) with
  | false=>simp only[clG,hk,bp,if_false]
  | true=>
   have e:k=.free:=by cases k <;> first | rfl | (exact absurd hk (by decide))
   obtain⟨c0,hc⟩:=h _ hx e
   simp only[clG,hk,if_true,cellOf,hc,pure_bind])]
 rfl
theorem zhk{env:Env}:∀ (names:List (Str × NameKind)) (cs:List (Str × ai)),(∀ y c,cs.lookup y=ae c->env.cells.lookup y=ae c) ->
  ∀ y c,(names.foldl (clG env) cs).lookup y=ae c->env.cells.lookup y=ae c
 | [],_,h,y,c,e=>h y c e
 | (n,k) :: r,cs,h,y,c,e=>by
  refine zhk r (clG env cs (n,k)) (fun z d hz=>?_) y c e
  unfold clG at hz
  split at hz
  ·cases q:env.cells.lookup n with
   | none=>simp only[q] at hz;exact h z d hz
   | some c0=>
    simp only[q,bN] at hz
    cases hb:z == n with
    | true=>
     simp only[hb] at hz
     cases hz
     have:z=n:=by simpa using hb
     rw[this];exact q
    | false=>simp only[hb] at hz;exact h z d hz
  ·exact h z d hz
theorem cl_has{env:Env}:∀ (names:List (Str × NameKind)) (cs:List (Str × ai)) (y:Str),(∃ c,env.cells.lookup y=ae c)->((∃ c,cs.lookup y=ae c) \/ (y,bz) ∈ names) ->
  ∃ c,(names.foldl (clG env) cs).lookup y=ae c
 | [],_,_,_,h=>by
  rcases h with h | h
  ·exact h
  ·cases h
 | (n,k) :: r,cs,y,hc,h=>by
  refine cl_has r (clG env cs (n,k)) y hc ?_
  have keep:(∃ c,cs.lookup y=ae c)->∃ c,(clG env cs (n,k)).lookup y=ae c:=fun⟨c,e⟩=>by
   unfold clG
   split
   ·cases q:env.cells.lookup n with
    | none=>exact⟨c,e⟩
    | some c0=>
     show ∃ c,bX y ((n,c0) :: cs)=ae c
     rw[bN]
     cases y == n with
     | true=>exact⟨c0,rfl⟩
     | false=>exact⟨c,e⟩
   ·exact⟨c,e⟩
  rcases h with h | h
  ·exact .inl (keep h)
  ·rcases aF.mp h with h | h
   ·cases h
    left
    obtain⟨c0,q⟩:=hc
    unfold clG
    rw[if_pos (by rfl)]
    show ∃ c,bX n (match env.cells.lookup n with | some c=>(n,c) :: cs | none=>cs)=ae c
    rw[q]
    refine⟨c0,?_⟩
    show bX n ((n,c0) :: cs)=ae c0
    rw[bN]
    simp
   ·exact .inr h
theorem zeg{env:Env}:∀ {names:List (Str × NameKind)} {x:Str},names.lookup x=ae .free ->
  (names.map fun(n,k)=>if (k == bz && env.scope.kind == .function && env.kindOf n == ae .cell) then (n,cS) else (n,k)).lookup x=ae .cell \/
  (names.map fun(n,k)=>if (k == bz && env.scope.kind == .function && env.kindOf n == ae .cell) then (n,cS) else (n,k)).lookup x=ae .free
 | [],_,h=>by simp at h
 | (n,k) :: r,x,h=>by
  have ih:=@zeg env r x
  show bX x ((if (k == bz && env.scope.kind == .function && env.kindOf n == ae .cell)=true then (n,cS) else (n,k)) :: _)=_ \/ bX x ((if (k == bz && env.scope.kind == .function && env.kindOf n == ae .cell)=true then (n,cS) else (n,k)) :: _)=_
  cases hx:x == n with
  | true=>
   simp only[bN,hx] at h
   cases h
   by_cases hc:(bz == bz && env.scope.kind == .function && env.kindOf n == ae .cell)=true
   ·rw[if_pos hc];left;simp only[bN,hx]
   ·rw[if_neg hc];right;simp only[bN,hx]
  | false=>
   simp only[bN,hx] at h
   by_cases hc:(k == bz && env.scope.kind == .function && env.kindOf n == ae .cell)=true
   ·rw[if_pos hc];simp only[bN,hx];exact ih h
   ·rw[if_neg hc];simp only[bN,hx];exact ih h
theorem zer{env:Env}:∀ {names:List (Str × NameKind)} {x:Str},(∀ y ∈ names,y.2 ≠ .cell) ->
  ((names.map fun(n,k)=>if (k == bz && env.scope.kind == .function && env.kindOf n == ae .cell) then (n,cS) else (n,k)).lookup x=ae .cell \/
  (names.map fun(n,k)=>if (k == bz && env.scope.kind == .function && env.kindOf n == ae .cell) then (n,cS) else (n,k)).lookup x=ae .free)->names.lookup x=ae .free
 | [],_,_,h=>by rcases h with h | h <;> simp at h
 | (n,k) :: r,x,hnc,h=>by
  have ih:=@zer env r x fun y hy=>hnc y (av _ hy)
  have h':bX x ((if (k == bz && env.scope.kind == .function && env.kindOf n == ae .cell)=true then (n,cS) else (n,k)) :: (r.map fun(n,k)=>if (k == bz && env.scope.kind == .function && env.kindOf n == ae .cell) then (n,cS) else (n,k)))=ae .cell \/ bX x ((if (k == bz && env.scope.kind == .function && env.kindOf n == ae .cell)=true then (n,cS) else (n,k)) :: (r.map fun(n,k)=>if (k == bz && env.scope.kind == .function && env.kindOf n == ae .cell) then (n,cS) else (n,k)))=ae .free:=h
  rw[bN]
  cases hx:x == n with
  | true=>
   have hk:k=.free:=by
    by_cases hc:(k == bz && env.scope.kind == .function && env.kindOf n == ae .cell)=true
    ·cases k <;> first | rfl | (simp at hc)
    ·rw[if_neg hc] at h'
     simp only[bN,hx] at h'
     rcases h' with h' | h'
     ·exact absurd (bc h') (hnc (n,k) aC)
     ·exact bc h'
   rw[hk]
  | false=>
   by_cases hc:(k == bz && env.scope.kind == .function && env.kindOf n == ae .cell)=true
   ·rw[if_pos hc] at h'
    simp only[bN,hx] at h'
    exact ih h'
   ·rw[if_neg hc] at h'
    simp only[bN,hx] at h'
    exact ih h'
structure CompSc(X:Cx)(N:List Str)(fr:List Nat)(x:Str)(scope:Scope):Prop where
 kind:scope.kind=.function
 chk:(scope.names.all fun y=>match y.2 with
  | .cell=>false
  | .local=>scope.names.lookup y.1 == ae .local
  | .free=>X.env.scope.names.lookup y.1 == ae .cell || X.env.scope.names.lookup y.1 == ae .free
  | _=>true)=true
 tg:scope.names.lookup x=ae .local
 nd:N.Nodup
 nm:N.map ae=ae x :: fr.map (fun i=>X.N[i]?)
 nf:(N.tail.all fun y=>scope.names.lookup y == ae .free)=true
theorem zbd{o:Option NameKind}{k:NameKind}(h:(o == ae k)=true):o=ae k:=by
 cases o with
 | none=>cases h
 | some j=>
  have:(j == k)=true:=h
  cases j <;> cases k <;> first | rfl | (exact absurd this (by decide))
section
variable {X:Cx}{N:List Str}{fr:List Nat}{x:Str}{scope:Scope}
theorem CompSc.ncell(S:CompSc X N fr x scope):∀ y ∈ scope.names,y.2 ≠ .cell:=fun y hy e=>by
 have h:=cU.mp S.chk y hy
 obtain⟨n,k⟩:=y
 cases (show k=.cell from e)
 exact absurd h (by simp)
theorem CompSc.loc(S:CompSc X N fr x scope):∀ y ∈ scope.names,y.2=.local->scope.names.lookup y.1=ae .local:=fun y hy e=>by
 have h:=cU.mp S.chk y hy
 obtain⟨n,k⟩:=y
 cases (show k=.local from e)
 exact zbd h
theorem CompSc.free(S:CompSc X N fr x scope):∀ y ∈ scope.names,y.2=.free->X.env.kindOf y.1=ae .cell \/ X.env.kindOf y.1=ae .free:=fun y hy e=>by
 have h:=cU.mp S.chk y hy
 obtain⟨n,k⟩:=y
 cases (show k=.free from e)
 have h':(X.env.scope.names.lookup n == ae .cell || X.env.scope.names.lookup n == ae .free)=true:=h
 rcases ip.mp h' with h' | h'
 ·exact .inl (zbd h')
 ·exact .inr (zbd h')
end
def zfc(fr:List Nat)(σ:St):St:=fr.map fun i=>(σ[i]?).join
def cxC(X:Cx)(N:List Str)(scope:Scope)(C:ai)(s₀:am)(H₀:Hp)(fp:List ai):Cx:=
 { X with N:=N,s₀:=s₀,H₀:=H₀,env:=compEnvC scope (ziK X.env scope.names) C X.env,outer:=X.stack,ex:=fp,fn:=fun _=>false,pn:=[],xe:=fun _ _=>False}
def PTs(X:Cx)(ifs:List Expr)(t:TT):Prop:=
 ∀ (pins:List (ai × Obj)) (s:am) (σ:St) (H:Hp) (Q:Bool->Hp->Prop),Inv X pins σ H s->t σ H Q ->
  ay (model X.prog X.w) X.A (forIn ifs true fun c r=>if r=true then do let ok <- isTrue c X.env (eval c X.env);pure (eW ok) else pure (eW r)) (TP X pins σ Q) X.xe s
def tNoIf:TT:=fun _ H Q=>Q true H
theorem pts_nil{X:Cx}:PTs X [] tNoIf:=fun _ _ _ H _ I h=>by
 rw[ey]
 exact aw ⟨H,I,h⟩
theorem pts_one{X:Cx}{c:Expr}{t:TT}(h:PT X c t):PTs X [c] t:=fun pins s σ H Q I hw=>by
 rw[d5,if_pos rfl]
 refine aj (aj (thn (h pins s σ H Q I hw) fun ok s1 q=>aw ?_))
 show ay _ _ (forIn ([]:List Expr) ok _) _ _ _
 rw[ey]
 exact aw q
def lcW(fr:List Nat)(tt:TT)(te:TE)(J:It)(σ:St)(H1:Hp)(R:ai->Hp->Prop):Prop:=
 ∀ a,H1 a=af->∃ W:Nat->Nat->List V->Hp->Prop,(∃ m,W 0 m [] (upd H1 a (.lst [])))/\∀ i m ys H,W i m ys H ->
  (J.stop i H/\R a H) \/ (J.go i H/\∀ x H',J.yld i H x H'->tt (ae x :: zfc fr σ) H' fun b H2=>
   if b=true then te (ae x :: zfc fr σ) H2 fun y H3=>H3 a=ae (.lst ys)/\ys.length<ba/\∃ m',m'<m/\W (i+1) m' (ys ++ [y]) (upd H3 a (.lst (ys ++ [y])))
   else ∃ m',m'<m/\W (i+1) m' ys H2)
def tLC(fr:List Nat)(wi:TI)(tt:TT)(te:TE):TE:=fun σ H Q=>wi σ H fun J H1=>lcW fr tt te J σ H1 fun a H2=>Q (.ref a) H2
section
variable {X:Cx}{N:List Str}{fr:List Nat}{x:Str}{scope:Scope}{pins:List (ai × Obj)}{σ:St}{H:Hp}{s:am}
theorem comp_inv(S:CompSc X N fr x scope){fp:List ai}{h₁:aW}{tk:Nat}(I:Inv X pins σ H s)(hf:∀ b ∈ fp,ze0 X pins H b)(hfo:∀ b ∈ fp,b<s.heap.objs.size)
  (hns:h₁.Ns s.heap.objs.size fun y=>([]:List (Str × ag)).reverse.lookup y) (old:∀ b o,s.heap.get? b=ae o->h₁.get? b=ae o) :
  Inv (cxC X N scope s.heap.objs.size s H fp) [] (af :: zfc fr σ) H { s with heap:=h₁,toks:=tk}:=by
 have sub:∀ y c,(ziK X.env scope.names).lookup y=ae c->X.env.cells.lookup y=ae c:=zhk scope.names [] (fun _ _ z=>by cases z)
 have has:∀ y,(y,bz) ∈ scope.names->∃ c,(ziK X.env scope.names).lookup y=ae c:=fun y hy=>cl_has scope.names [] y (I.ok.has y (S.free _ hy rfl)) (.inr hy)
 have celK:∀ c v,s.heap.IsCell c v->h₁.IsCell c v:=fun c v ⟨o,ho,hd⟩=>⟨o,old c o ho,hd⟩
 have hlen:N.length=fr.length+1:=by
  have:=congrArg dF S.nm
  simpa using this
 refine⟨⟨I.ok.mod,S.kind,I.ok.glob,I.ok.blt,aA _,fun y z c h1 h2=>I.ok.inj y z c (sub y c h1) (sub z c h2),fun y hy=>?_,fun y c hy _=>(by cases hy),I.ok.hd,I.ok.frames,.inl rfl,fun b hb=>⟨aV (hfo b hb),fun y c e=>(hf b hb).2.2.2.2.1 y c (sub y c e)⟩,
  I.bs,bK I.ok.bsz I.sz,fun b o e hb=>?_,fun b hb hfs=>?_,I.stack,I.stkFree⟩,rfl,I.bare,Un.kept old,⟨_,hns,fun i y v e1 e2 e3=>?_⟩,fun y c e=>?_,I.hok.fresh (aA _),fun y c e=>I.freeC y c (sub y c e),fun p hp=>absurd (show p ∈ ([]:List (ai × Obj)) from hp) (by simp),I.hok.kept old,?_⟩
 ·exact has y (bM (zer S.ncell hy))
 ·rcases (hf b hb).2.2.2.1 with z | z
  ·exact I.ok.noex b o e z
  ·exact absurd (bn (aK e) (bK I.ok.bsz z)) (bT _)
 ·rcases aF.mp (I.stkSub b hfs) with z | z
  ·exact(hf b hb).2.1 z
  ·exact(hf b hb).2.2.1 z
 ·cases i with
  | zero=>simp at e2
  | succ j=>
   have e1':N[j+1]? = ae y:=e1
   have q1:(N.map ae)[j+1]? = ae (ae y):=by rw[aG,e1'];rfl
   rw[S.nm,dA,aG] at q1
   have e2':(zfc fr σ)[j]? = ae (ae v):=by simpa using e2
   unfold zfc at e2'
   rw[aG] at e2'
   cases q:fr[j]? with
   | none=>rw[q] at q1;cases q1
   | some i'=>
    rw[q] at q1 e2'
    have n1:X.N[i']? = ae y:=bc q1
    have n2:(σ[i']?).join=ae v:=bc e2'
    have n3:σ[i']? = ae (ae v):=by
     cases q':σ[i']? with
     | none=>rw[q'] at n2;cases n2
     | some o=>rw[q'] at n2;rw[show o=ae v from n2]
    have hy:y ∈ N.tail:=by
     have:N.tail[j]? = ae y:=by rw[List.getElem?_tail];exact e1'
     exact bJ this
    have hfree:scope.names.lookup y=ae .free:=zbd (cU.mp S.nf y hy)
    have hk:=S.free _ (bM hfree) rfl
    obtain⟨m,hn,hl⟩:=I.loc
    obtain⟨u,r,l⟩:=hl i' y v n1 n3 (hk.elim (fun z=>.inr (.inl z)) fun z=>.inr (.inr z))
    refine⟨u,r,.inr ⟨zeg hfree,?_⟩⟩
    rcases l with ⟨k,_⟩ | ⟨k,c,ec,hc⟩
    ·rcases hk with z | z <;> (rw[show X.env.kindOf y=ae .local from k] at z;cases z)
    ·obtain⟨c',ec'⟩:=has y (bM hfree)
     have:c'=c:=bc ((sub y c' ec').symm.trans ec)
     rw[this] at ec'
     exact⟨c,ec',celK c _ hc⟩
 ·obtain⟨v,z⟩:=I.cell y c (sub y c e)
  exact⟨v,celK c v z⟩
 ·show(af :: zfc fr σ).length=N.length
  rw[hlen]
  simp[zfc]
theorem zgr{fp:List ai}{σ':St}{pins':List (ai × Obj)}{H':Hp}{s':am}{C:ai}(I:Inv X pins σ H s)(hf:∀ b ∈ fp,ze0 X pins H b)(J:Inv (cxC X N scope C s H fp) pins' σ' H' s'):Inv X pins σ H' s':=
 Inv.call' (ch:=fp) I J.os J.base J.hok J.bare fun b hb=>⟨(hf b hb).2.2.2.1,(hf b hb).2.1,(hf b hb).2.2.2.2.1,(hf b hb).2.2.2.2.2⟩
end
section
variable {X:Cx}{N:List Str}{fr:List Nat}{x:Str}{scope:Scope}{iter elt:Expr}{ifs:List Expr}{px pos:Pos}{wi:TI}{te:TE}{tt:TT}
theorem comp_core(S:CompSc X N fr x scope)(hc:X.calm=true)
  (ht:∀ (C:ai) (s₀:am) (H₀:Hp) (fp:List ai),PTs (cxC X N scope C s₀ H₀ fp) ifs tt) (he:∀ (C:ai) (s₀:am) (H₀:Hp) (fp:List ai),PE (cxC X N scope C s₀ H₀ fp) elt te)
  {pins:List (ai × Obj)} {σ:St} {H3:Hp} {s3:am} {R:ai->Hp->Prop} {RR:ag->ai->Result->am->Prop} {it D:ai} {fp:List ai} {tn:Nat->aW->Prop} {J:It} {h₁:aW} {o₁:Obj} {tk:Nat} {W:Nat->Nat->List V->Hp->Prop}
  (I3:Inv X pins σ H3 s3) (T:Turn X.prog X.w X.K (.Name x px) J fp it tn) (st3:tn 0 s3.heap) (hf3:∀ b ∈ fp,ze0 X pins H3 b) (hns₁:h₁.Ns s3.heap.objs.size fun y=>([]:List (Str × ag)).reverse.lookup y) (hsb₁:du s3.heap.objs.size (s3.heap.push o₁) h₁)
  (w0:∃ m,W 0 m [] H3) (turn:∀ i m ys H,W i m ys H ->
   (J.stop i H/\R D H) \/ (J.go i H/\∀ x H',J.yld i H x H'->tt (ae x :: zfc fr σ) H' fun b H2=>
    if b=true then te (ae x :: zfc fr σ) H2 fun y H3=>H3 D=ae (.lst ys)/\ys.length<ba/\∃ m',m'<m/\W (i+1) m' (ys ++ [y]) (upd H3 D (.lst (ys ++ [y])))
    else ∃ m',m'<m/\W (i+1) m' ys H2))
  (hRR:∀ (D C:ai) (H':Hp) (s':am) (m:Str->Option ag),s'.heap.Ns C m->C ≠ X.env.locals->H' C=af->X.s₀.heap.objs.size<=C->(∀ y c,X.env.cells.lookup y=ae c->c ≠ C)->(∀ p ∈ X.pn ++ pins,p.1 ≠ C)->Inv X pins σ H' s'->R D H'->RR (.ref D) C (.ok .next) s') :
  codeAny (model X.prog X.w) X.A (.compStart (.ListComp elt [⟨.Name x px,iter,ifs,0⟩] scope pos) 0 (.ref it) (.ref D) (compEnvC scope (ziK X.env scope.names) s3.heap.objs.size X.env)) (RR (.ref D) s3.heap.objs.size) { s3 with heap:=h₁,toks:=tk}:=by
 obtain⟨m0,w0⟩:=w0
 have hfo3:∀ b ∈ fp,b<s3.heap.objs.size:=fun b hb=>by
  obtain⟨o,e,_⟩:=T.obj 0 _ st3 b hb
  exact aK e
 have old:∀ b o,s3.heap.get? b=ae o->h₁.get? b=ae o:=fun b o e=>hsb₁.extBut b o (aV (aK e)) (aq _ e)
 have st1:tn 0 h₁:=T.keep 0 s3.heap h₁ st3 fun b hb o e=>old b o e
 have stat:∀ {pins':List (ai × Obj)} {H':Hp},(∀ b ∈ fp,H' b=af)->(∀ b ∈ fp,∀ p ∈ pins',p.1 ≠ b)->∀ b ∈ fp,ze0 (cxC X N scope s3.heap.objs.size s3 H3 fp) pins' H' b:=fun {pins' H'} hn hp b hb=>by
  refine⟨hn b hb,aV (hfo3 b hb),fun z=>?_,.inl hb,fun y c e=>(hf3 b hb).2.2.2.2.1 y c (zhk scope.names [] (fun _ _ z=>by cases z) y c e),fun p hp'=>hp b hb p (by simpa [cxC] using hp')⟩
  rcases aF.mp (I3.stkSub b z) with z | z
  ·exact(hf3 b hb).2.1 z
  ·exact(hf3 b hb).2.2.1 z
 have loop:∀ s4:am,Inv (cxC X N scope s3.heap.objs.size s3 H3 fp) [] (af :: zfc fr σ) H3 s4->tn 0 s4.heap ->
   codeAny (model X.prog X.w) X.A (.compLoop (.ListComp elt [⟨.Name x px,iter,ifs,0⟩] scope pos) 0 (.ref it) (.ref D) (compEnvC scope (ziK X.env scope.names) s3.heap.objs.size X.env)) (RR (.ref D) s3.heap.objs.size) s4:=by
  intro s4 I4 st4
  refine codeAny_compLoop_tests (fun n s'=>∃ i ys H' v0,Inv (cxC X N scope s3.heap.objs.size s3 H3 fp) [] (v0 :: zfc fr σ) H' s'/\tn i s'.heap/\(∀ b ∈ fp,H' b=af)/\W i n ys H') ?_ m0
   ⟨0,[],_,af,I4,st4,fun b hb=>(hf3 b hb).1,w0⟩
  rintro n s5 ⟨i,ys,H5,v0,I5,st5,fr5,w5⟩
  rcases turn i n ys H5 w5 with ⟨stop,qn⟩ | ⟨go,step⟩
  ·refine bI (T.done (cxC X N scope s3.heap.objs.size s3 H3 fp) rfl rfl rfl hc i [] s5 _ H5 (fun _ _=>False) I5 (stat fr5 (by simp)) st5 stop) (fun r s6 hr6=>?_) fun _ _ z=>z.elim
   obtain⟨hr,I6⟩:=hr6
   subst hr
   obtain⟨m,hn,_⟩:=id I6.loc
   refine hRR _ _ H5 s6 m hn ?_ I6.free ?_ ?_ ?_ (zgr I3 hf3 I6) qn
   ·exact eS I3.lt
   ·exact I3.sz
   ·intro y c e z
    obtain⟨v,q⟩:=I3.cell y c e
    exact absurd q.lt (by rw[z];exact bT _)
   ·intro p hp z
    exact absurd (aK (I3.pin p hp).1) (by rw[z];exact bT _)
  ·refine bI (T.item (cxC X N scope s3.heap.objs.size s3 H3 fp) rfl rfl rfl hc i [] s5 _ H5 (fun _ _=>False) I5 (stat fr5 (by simp)) st5 go) (fun r s6 hr6=>?_) fun _ _ z=>z.elim
   obtain⟨u,hr,h6⟩:=hr6
   subst hr
   show ay _ _ (assign (.Name x px) _ u) _ _ s6
   have el:∀ env:Env,(assign (.Name x px) env u)=(letOwnedTupleGo (.Name x px) (.ref it) u >>= fun _=>assign (.Name x px) env u):=fun env=>by
    rw[show letOwnedTupleGo (.Name x px) (.ref it) u=pure () from rfl,pure_bind]
   rw[el]
   refine aj (bI h6 (fun _ s7 h7=>?_) fun _ _ z=>z.elim)
   obtain⟨y,H7,I7,r7,y7,st7,fr7⟩:=h7
   have I7':=I7.pinned (stat fr7 (by simp)) (T.obj _ _ st7)
   have lx:(relabel scope X.env).names.lookup x=ae .local:=lookup_relabel_local S.tg
   have hN0:N[0]? = ae x:=by
    have:=congrArg (fun l=>l[0]?) S.nm
    simp only[aG,List.getElem?_cons_zero] at this
    cases q:N[0]? with
    | none=>rw[q] at this;cases this
    | some z=>rw[q] at this;exact bc this
   refine wpAny_assign_Name (zfE (i:=0) (v:=y) I7' S.nd hN0 (.inl lx) r7 (fun s8 I8=>?_) (.inr lx))
   have I8':Inv (cxC X N scope s3.heap.objs.size s3 H3 fp) ([] ++ zfK fp s7.heap) (ae y :: zfc fr σ) H7 s8:=I8
   refine bI (ht _ _ _ _ _ s8 _ H7 _ I8' (step y H7 y7)) (fun ok s9 h9=>?_) fun _ _ z=>z.elim
   obtain⟨H9,I9,q9⟩:=h9
   have again:∀ {s':am} {H':Hp},Inv (cxC X N scope s3.heap.objs.size s3 H3 fp) ([] ++ zfK fp s7.heap) (ae y :: zfc fr σ) H' s' ->
     Inv (cxC X N scope s3.heap.objs.size s3 H3 fp) [] (ae y :: zfc fr σ) H' s'/\tn (i+1) s'.heap/\∀ b ∈ fp,H' b=af:=fun {s' H'} I'=>by
    refine⟨I'.unpinned,T.keep _ _ _ st7 fun b hb o e=>(I'.pin (b,o) (aS _ (aS _ (zdf hb e)))).1,fun b hb=>?_⟩
    obtain⟨o,e,d⟩:=T.obj _ _ st7 b hb
    exact(I'.pin (b,o) (aS _ (aS _ (zdf hb e)))).2.1
   cases ok with
   | false=>
    rw[if_neg aU] at q9 ⊢
    obtain⟨m',hm,w9⟩:=q9
    obtain⟨a1,a2,a3⟩:=again I9
    exact⟨m',hm,i+1,ys,H9,ae y,a1,a2,a3,w9⟩
   | true=>
    rw[if_pos rfl] at q9 ⊢
    refine bI (he _ _ _ _ _ s9 _ H9 _ I9 q9) (fun zv s10 h10=>?_) fun _ _ z=>z.elim
    obtain⟨z,H10,I10,rz,hz,hlt,m',hm,w10⟩:=h10
    refine bI (zeZ (X:=cxC X N scope s3.heap.objs.size s3 H3 fp) _ s10 _ H10 (.ref D) [z] (.ref D) [zv] (fun _ H'=>H'=upd H10 D (.lst (ys ++ [z]))) I10 rfl (.cons rz .nil)
     ⟨_,ys,z,rfl,rfl,hz,hlt,rfl⟩) (fun _ s11 h11=>?_) fun _ _ z=>z.elim
    obtain⟨_,H11,I11,_,e11⟩:=h11
    subst e11
    obtain⟨a1,a2,a3⟩:=again I11
    exact⟨m',hm,i+1,ys ++ [z],_,ae y,a1,a2,a3,w10⟩
 have I4:=comp_inv S (tk:=tk) I3 hf3 hfo3 hns₁ old
 exact codeAny_compStart_list (loop _ I4 st1) (T.self _ 0 _ _ _ st1 (loop _ I4 st1))
theorem ziw(S:CompSc X N fr x scope)(hc:X.calm=true)
  (ht:∀ (C:ai) (s₀:am) (H₀:Hp) (fp:List ai),PTs (cxC X N scope C s₀ H₀ fp) ifs tt) (he:∀ (C:ai) (s₀:am) (H₀:Hp) (fp:List ai),PE (cxC X N scope C s₀ H₀ fp) elt te)
  {pins:List (ai × Obj)} {σ:St} {H:Hp} {s:am} {R:ai->Hp->Prop} {RR:ag->ai->Result->am->Prop} {it:ai} {fp:List ai} {tn:Nat->aW->Prop} {J:It} {E:ag->am->Prop}
  (I:Inv X pins σ H s) (T:Turn X.prog X.w X.K (.Name x px) J fp it tn) (st:tn 0 s.heap) (hf:∀ b ∈ fp,ze0 X pins H b) (h:lcW fr tt te J σ H R)
  (hRR:∀ (D C:ai) (H':Hp) (s':am) (m:Str->Option ag),s'.heap.Ns C m->C ≠ X.env.locals->H' C=af->X.s₀.heap.objs.size<=C->(∀ y c,X.env.cells.lookup y=ae c->c ≠ C)->(∀ p ∈ X.pn ++ pins,p.1 ≠ C)->Inv X pins σ H' s'->R D H'->RR (.ref D) C (.ok .next) s') :
  ay (model X.prog X.w) X.A (newList []) (fun acc s₃=>ay (model X.prog X.w) X.A (newFunctionEnv scope X.env.globals (ziK X.env scope.names) [] X.env.qual af .none (ae X.env)) (fun cenv s₄=>
   codeAny (model X.prog X.w) X.A (.compStart (.ListComp elt [⟨.Name x px,iter,ifs,0⟩] scope pos) 0 (.ref it) acc { cenv with scope:=relabel scope X.env}) (RR acc cenv.locals) s₄) E s₃) E s:=by
 refine wpAny_newObj_type (wpAny_newFunctionEnv S.ncell (by intro y hy;simp at hy) (fun h₁ hns₁ hsb₁=>?_) S.kind)
 have hD:H s.heap.objs.size=af:=I.hok.fresh (aA _)
 obtain⟨W,w0,turn⟩:=h _ hD
 have I3:Inv X pins σ (upd H s.heap.objs.size (.lst [])) { s with heap:=s.heap.push { cls:=.type "list",dict:=af,data:=.seq ([]:List ag).toArray}}:=
  I.laid (t':=s.toks) (fun b o e=>aq _ e) (aA _) ⟨cg _,[],_,.nil,az _ rfl⟩
 have hfo:∀ b ∈ fp,b<s.heap.objs.size:=fun b hb=>by
  obtain⟨o,e,_⟩:=T.obj 0 _ st b hb
  exact aK e
 have hf3:∀ b ∈ fp,ze0 X pins (upd H s.heap.objs.size (.lst [])) b:=fun b hb=>by
  obtain⟨f0,f1⟩:=hf b hb
  exact⟨by rw[zaj (aV (hfo b hb))];exact f0,f1⟩
 exact comp_core S hc ht he I3 T (T.keep 0 s.heap _ st fun b hb o e=>aq _ e) hf3 hns₁ hsb₁ w0 turn hRR
theorem CompSc.clos(S:CompSc X N fr x scope){pins:List (ai × Obj)}{σ:St}{H:Hp}{s:am}(I:Inv X pins σ H s):closureFor scope X.env=pure (ziK X.env scope.names):=
 zgE fun y hy e=>I.ok.has y.1 (S.free y hy e)
theorem pe_lc(S:CompSc X N fr x scope)(hc:X.calm=true)(hi:PI X (.Name x px) iter wi)
  (ht:∀ (C:ai) (s₀:am) (H₀:Hp) (fp:List ai),PTs (cxC X N scope C s₀ H₀ fp) ifs tt) (he:∀ (C:ai) (s₀:am) (H₀:Hp) (fp:List ai),PE (cxC X N scope C s₀ H₀ fp) elt te)
  (hs:∀ z,bW iter X.env z=pure z:=by intro _;rfl):PE X (.ListComp elt [⟨.Name x px,iter,ifs,0⟩] scope pos) (tLC fr wi tt te):=by
 intro pins s σ H Q I h
 rw[eval_ListComp]
 refine wpAny_comprehension_free (use:=af) (cl:=ziK X.env scope.names) rfl hs (S.clos I) S.kind S.loc (thn (hi pins s σ H _ I h) fun xv s1 h1=>thn h1 fun itv s2 h2=>?_)
 obtain⟨it,fp,tn,J,H2,e,I2,T,st2,f2,q⟩:=h2
 subst e
 refine ziw (RR:=fun acc C=>compPost (model X.prog X.w) X.A X.xe af (EP X pins σ Q) acc C) S hc ht he I2 T st2 f2 q ?_
 intro D C H' s' m hn c1 c2 c3 c4 c5 I' r
 refine⟨m,hn,fun h' hsb=>⟨.ref D,H',?_,rfl,r⟩⟩
 exact I'.turned (t':=s'.toks) (fun b o hb e=>(hsb.2 b hb).trans e) c2 c1 (.inr c3) c4 c5
theorem ps_setlc{i:Nat}{y:Str}{py spos:Pos}(hN:X.N.Nodup)(hi':X.N[i]? = ae y)(hy:Loc X.env.scope y)(S:CompSc X N fr x scope)(hc:X.calm=true)(hi:PI X (.Name x px) iter wi)
  (ht:∀ (C:ai) (s₀:am) (H₀:Hp) (fp:List ai),PTs (cxC X N scope C s₀ H₀ fp) ifs tt) (he:∀ (C:ai) (s₀:am) (H₀:Hp) (fp:List ai),PE (cxC X N scope C s₀ H₀ fp) elt te)
  (hsw:swapsWith (.ListComp elt [⟨.Name x px,iter,ifs,0⟩] scope pos) (ae (.Name y py)) spos.line X.env=pure true:=by rfl)
  (hs:∀ z,bW iter X.env z=pure z:=by intro _;rfl)
  (hf:X.fn y=true \/ X.env.scope.names.lookup y=ae .local:=by first | exact .inl rfl | exact .inr rfl | assumption) :
  PS X (.Assign [.Name y py] (.ListComp elt [⟨.Name x px,iter,ifs,0⟩] scope pos) spos) (tAsg (tLC fr wi tt te) (zgo i)):=by
 intro pins s σ H D I h
 rw[exec_Assign_Name_used _ _ _ _ hsw]
 refine aj (wpAny_standAt (aj ?_))
 show ay _ X.A (do let _ <- comprehension (.ListComp elt [⟨.Name x px,iter,ifs,0⟩] scope pos) scope X.env _ (newList []) false (eval iter X.env) (ae (assign (.Name y py) X.env))) _ _ s
 refine aj (bI (wpAny_comprehension_free (use:=ae (assign (.Name y py) X.env)) (cl:=ziK X.env scope.names) (Q:=fun _ s'=>SP X pins D .next s') rfl hs (S.clos I) S.kind S.loc
  (thn (hi pins s σ H _ I h) fun xv s1 h1=>thn h1 fun itv s2 h2=>?_)) (fun _ s' hq=>aw (aw hq)) fun _ _ e=>e)
 obtain⟨it,fp,tn,J,H2,e,I2,T,st2,f2,q⟩:=h2
 subst e
 refine ziw (RR:=fun acc C=>compPost (model X.prog X.w) X.A X.xe (ae (assign (.Name y py) X.env)) (fun _ s'=>SP X pins D .next s') acc C) S hc ht he I2 T st2 f2 q ?_
 intro D' C H' s' m hn c1 c2 c3 c4 c5 I' r
 show ay _ _ (assign (.Name y py) X.env (.ref D')) _ _ s'
 refine wpAny_assign_Name (zhL (v:=.ref D') I' hN hi' hy rfl (fun s'' I'' hc'=>?_) hf)
 obtain⟨c,hsb,hcc⟩:=hc'
 have hne:C ≠ c:=by
  rcases hcc with z | z
  ·rw[z];exact c1
  ·exact fun e=>c4 y c z e.symm
 refine⟨m,hn.sameBut hsb hne,fun h' hsb'=>⟨_,H',?_,r⟩⟩
 exact I''.turned (t':=s''.toks) (fun b o hb e=>(hsb'.2 b hb).trans e) c2 c1 (.inr c3) c4 c5
end
end L2

namespace L2
open PySem PySem.Spec PyProof.Rows
theorem Same.alloc{H:Hp}{p:ai}{o:HO}(h:H p=af):Same H (upd H p o):=fun b u e=>by rw[zaj (zaA e h)];exact e
def kTup(H:Hp)(zs:List V)(Q:VK):Prop:=∀ a H',Same H H'->H' a=ae (.tup zs)->Q (.ref a) H'
section
variable {X:Cx}
theorem op_catTU:OpR X (binaryOp .Add) (fun x y H Q=>∃ a b xs ys,x=.ref a/\y=.ref b/\H a=ae (.tup xs)/\H b=ae (.tup ys)/\xs.length+ys.length<=ba/\kTup H (xs ++ ys) Q):=by
 intro pins s σ H x y v u Q I rx ry h
 obtain⟨a,b,xs,ys,rfl,rfl,ha,hb,hz,q⟩:=h
 by_cases hx:xs=[]
 ·subst hx
  cases rx
  cases ry
  obtain⟨its,r1,p1,_⟩:=I.tuple (SqT.of ha)
  obtain⟨its2,r2,p2,_⟩:=I.tuple (SqT.of hb)
  obtain⟨⟨cls,dd,data,sl⟩,ho,hc,n,hd⟩:=id p1
  obtain⟨⟨cls2,dd2,data2,sl2⟩,ho2,hc2,n2,hd2⟩:=id p2
  simp only at hc hd hc2 hd2
  subst hc hd hc2 hd2
  have e:its=[]:=r1.nil_iff.mpr rfl
  exact concat_meets ⟨_,ho,rfl⟩ ⟨_,ho2,rfl⟩ noFill_tuple_add seq_tuple_add eE ez (ef _ _)
   (tuple_addW0 a b its.toArray its2.toArray n n2 dd dd2 sl sl2 (by rw[e];rfl)) ⟨ho,ho2,⟨.ref b,H,I,rfl,q b H (Same.refl H) hb⟩⟩
 ·exact op_catT pins s σ H _ _ v u Q I rx ry ⟨a,b,xs,ys,rfl,rfl,SqT.of ha,SqT.of hb,hx,hz,fun e=>q a H (Same.refl H) (by rw[e,bF];exact ha),fun _ p hp=>q p _ (Same.alloc hp) zai⟩
def rIsi(K:ak):List V->Hp->VK->Prop:=fun xs H Q=>∃ x n t b,xs=[x,.ty n]/\TyOf K H x t/\dm K t (.type n)=ae b/\Q (.bl b) H
theorem call_isi:zgn X (.builtin "isinstance") (rIsi X.K):=by
 intro pins s σ H xs us Q I r h
 obtain⟨x,n,t,b,rfl,ty,e,q⟩:=h
 obtain⟨u,w',rfl,rx,ry⟩:=vals2 r
 cases (show w'=dO n from ry)
 exact isinst_ok I rx ty e fun tk=>⟨.bl b,H,I.tok tk,rfl,q⟩
end
theorem pe_gl{X:Cx}{x:Str}{v:V}{pos:Pos}(hg:Gl X x)(h:∃ u,X.mg x=ae u/\RelV v u)(hd:(x == ("__debug__" : Str))=false:=by decide):PE X (.Name x pos) (tC v):=by
 obtain⟨u,hm,r⟩:=h
 exact pe_glob hg hm r hd
end L2
namespace HT
open PySem PyProof.Rows
section
variable {prog:aR}{w:aX}{A:a8}{E:ag->am->Prop}{s:am}
end
end HT
namespace L2
open PySem PySem.Spec PyProof.Rows
section
variable {X:Cx}
end
end L2
namespace L2
open PySem PySem.Spec PyProof.Rows
section
variable {X:Cx}{pins:List (ai × Obj)}{σ:St}{H:Hp}{s:am}{pos:Pos}
theorem Inv.big(I:Inv X pins σ H s):sysModules<s.heap.objs.size:=by
 have h:aD<s.heap.objs.size:=(I.mod.glob.keeps I.bk).lt
 exact jS (by decide) h
theorem dk_empty{P:aR}{w:aX}{H:Hp}(h:aW)(hb:sysModules<h.objs.size):ObjOk P w H (h.push { cls:=.type "dict",data:=.dict #[]}) h.objs.size (.dK []):=
 ⟨cg _,beq_eq_false_iff_ne.mpr (cr (aV hb)),[],.nil,kR h⟩
def tDNewK:TE:=fun _ H Q=>∀ p,H p=af->Q (.ref p) (upd H p (.dK []))
theorem pe_dnewK:PE X (.Dict [] [] pos) tDNewK:=fun pins s σ H Q I h=>
 wpAny_Dict_empty ⟨.ref s.heap.objs.size,_,I.laid (a:=s.heap.objs.size) (o:=.dK []) (t':=s.toks) (fun _ _ q=>aq _ q) (aA _) (dk_empty s.heap I.big),rfl,h _ (I.hok.fresh (aA _))⟩
end
end L2

namespace L2
open PySem PySem.Spec PyProof.Rows
def zan:Expr->Bool
 | .Starred _ _=>false
 | _=>true
theorem zao{e:Expr}{es:List Expr}{env:Env}(h:zan e=true):aY (e :: es) env=(false,eval e env) :: aY es env:=by
 cases e <;> first | rfl | (exact absurd h (by decide)) | (cases h)
theorem zcy{env:Env}{pos:Pos}:∀ {es:List Expr},es.all zan=true->(backTo pos (aY es env)).any (·.1)=false
 | [],_=>rfl
 | e :: es,h=>by
  rw[fW,cV] at h
  rw[zao h.1]
  show(false || (backTo pos (aY es env)).any (·.1))=false
  rw[zcy h.2]
  rfl
theorem zi5{env:Env}{pos:Pos}:∀ {es:List Expr},es.all zan=true->(backTo pos (aY es env)).all (fun x=>!x.1)=true
 | [],_=>rfl
 | e :: es,h=>by
  rw[fW,cV] at h
  rw[zao h.1]
  show(true && (backTo pos (aY es env)).all (fun x=>!x.1))=true
  rw[zi5 h.2]
  rfl
section
variable {X:Cx}{e o:Expr}{es:List Expr}{te to:TE}{t:TA}{x:Str}{p pos:Pos}
structure Def(K:ak)(mg:Str->Option ag)(x:Str)(st:Stmt)(ps:List Str)(f:ai)(fd:bq):Prop where
 fn:Fun K x x st f fd
 mg:mg x=ae (.ref f)
 b:Binds K fd ps []
theorem pbm{T id:String}{name:Str}{apos cpos:Pos}{r:V->List V->Hp->VK->Prop}(pa:PlainAttrs T)(slot:Slot T name id)(hty:typeOf (.builtin id)=pure (.type "method_descriptor"))(hm:MtR X id r)(ho:PE X o to)(ha:PA X (e :: es) t)
  (hbase:cq o name X.env (eval o X.env)=eval o X.env:=by rfl) (hl:decide ((e :: es).length+0+0<30)=true:=by rfl) (hline:(apos.endLine == cpos.line)=true:=by rfl)
  (h1:zan e=true:=by rfl) (h2:es.all zan=true:=by rfl):PE X (.Call (.Attribute o name apos) (e :: es) [] cpos) (tBM X.K T r to t):=by
 refine pe_bm pa slot hty hm ho ha hbase ?_ hline (zao h1) (zcy h2)
 rw[zi5 (es:=e :: es) (by rw[fW,h1,h2];rfl)]
 exact hl
end
end L2

namespace L2
open PySem PySem.Spec PyProof.Rows
structure WE(X:Cx)(e:Expr)(t:TE):Prop where
 h:PE X e t
structure WT(X:Cx)(e:Expr)(t:TT):Prop where
 h:PT X e t
structure WW(X:Cx)(e:Expr)(t:TT):Prop where
 h:PW X e t
structure WA(X:Cx)(es:List Expr)(t:TA):Prop where
 h:PA X es t
structure WS(X:Cx)(s:Stmt)(t:TS):Prop where
 h:PS X s t
structure WSs(X:Cx)(s:List Stmt)(t:TS):Prop where
 h:PSs X s t
structure WI(X:Cx)(tg e:Expr)(t:TI):Prop where
 h:PI X tg e t
structure WG(X:Cx)(e:Expr)(t:TG):Prop where
 h:PG X e t
structure WGs(X:Cx)(es:List Expr)(t:TGs):Prop where
 h:PGs X es t
structure WO(X:Cx)(e:Option Expr)(t:TO):Prop where
 h:PO X e t
structure WTs(X:Cx)(es:List Expr)(t:TT):Prop where
 h:PTs X es t
section
variable {X:Cx}{a b c e o:Expr}{es rest:List Expr}{pos pos' p p2:Pos}{ta tb tc te to:TE}{tA tB':TT}{t:TA}{x:Str}{r r':R2}
theorem wv(i:Nat)(hN:X.N[i]? = ae x:=by rfl)(hv:Vis X.env.scope x:=by first | exact aE rfl | exact bd (aE rfl) | exact bd (bd rfl))(hd:(x == ("__debug__" : Str))=false:=by decide)
  (hcd:(x == ("__classdict__" : Str))=false:=by decide):WE X (.Name x pos) (tVar i):=⟨pe_var hN hv hd hcd⟩
theorem wint{i:Int}{j:Nat}:WE X (.Constant (.int i) j pos) (tC (.int i)):=⟨pe_int⟩
theorem wbl{i:Bool}{j:Nat}:WE X (.Constant (.bool i) j pos) (tC (.bl i)):=⟨pe_bl⟩
theorem wnon{j:Nat}:WE X (.Constant .none j pos) (tC .non):=⟨pe_non⟩
theorem wstr{i:Str}{j:Nat}:WE X (.Constant (.str i) j pos) (tC (.str i)):=⟨pe_str⟩
theorem wgl{v:V}(hg:Gl X x)(h:∃ u,X.mg x=ae u/\RelV v u)(hd:(x == ("__debug__" : Str))=false:=by decide):WE X (.Name x pos) (tC v):=⟨pe_gl hg h hd⟩
theorem wbt{n:String}(hg:Gl X x)(hm:X.mg x=af)(hv:aZ x=ae (.type n))(hn:x ≠ "__name__" :=by decide)(hd:(x == ("__debug__" : Str))=false:=by decide):WE X (.Name x pos) (tC (.ty n)):=⟨pe_bltn (v:=.ty n) hg hm hv rfl hn hd⟩
theorem wop{op:Operator}(ho:OpR X (binaryOp op) r)(ha:WE X a ta)(hb:WE X b tb):WE X (.BinOp a op b pos) (tOp r ta tb):=⟨pe_op ho ha.h hb.h⟩
theorem wun{op:UnaryOp}{q:V->Hp->VK->Prop}(ho:UnR X (unaryOp op) q)(ha:WE X a ta):WE X (.UnaryOp op a pos) (tUn q ta):=⟨pe_un ho ha.h⟩
theorem wcmp{op:CmpOp}(ho:OpR X (bB op) r)(ha:WE X a ta)(hb:WE X b tb)(hm:behindInMarks op b=false):WE X (.Compare a [op] [b] pos) (tOp r ta tb):=⟨pe_cmpR ho ha.h hb.h hm⟩
theorem wone{op:BoolOp}(h:WE X a ta):WE X (.BoolOp op [a] pos) ta:=⟨pe_one h.h⟩
theorem wand(ha:WE X a ta)(hb:WE X (.BoolOp .And (b :: rest) pos) tb):WE X (.BoolOp .And (a :: b :: rest) pos) (tAndV ta tb):=⟨pe_and ha.h hb.h⟩
theorem wnotV(ha:WE X a ta):WE X (.UnaryOp .Not a pos) (tNotV ta):=⟨pe_not ha.h⟩
theorem wif(hc:WT X c tA)(ha:WE X a ta)(hb:WE X b tb):WE X (.IfExp c a b pos) (tIf tA ta tb):=⟨pe_ifExp hc.h ha.h hb.h⟩
theorem wtup{x1:Nat}(h:WA X es t):WE X (.Tuple es x1 pos) (tTup t):=⟨pe_tup h.h⟩
theorem wlst(h:WA X es t):WE X (.List es pos) (tLst t):=⟨pe_lst h.h⟩
theorem wdnew:WE X (.Dict [] [] pos) tDNewK:=⟨pe_dnewK⟩
theorem wix{r:R2}(hr:IxR X r)(ha:WE X a ta)(hb:WE X b tb)(hs:zh3 b):WE X (.Subscript a b pos) (tOp r ta tb):=⟨pe_ix hr ha.h hb.h hs⟩
theorem wslice{lo hi:Option Expr}{tl th:TO}{r:V->Option Int->Option Int->Hp->VK->Prop}(hr:SlR X r)(he:WE X e te)(hl:WO X lo tl)(hu:WO X hi th):WE X (.Subscript e (.Slice lo hi af p2) pos) (tSl r te tl th):=⟨pe_slice hr he.h hl.h hu.h⟩
theorem wnil:WA X [] tNil:=⟨pa_nil⟩
theorem wac(ha:WE X e te)(hr:WA X es t)(h:zan e=true:=by rfl):WA X (e :: es) (tCons te t):=⟨pa_cons ha.h hr.h (zao h)⟩
theorem won:WO X af tNoPart:=⟨po_none⟩
theorem wos(h:WE X e te):WO X (ae e) (tPart te):=⟨po_some h.h⟩
theorem wcb{id:String}{r:List V->Hp->VK->Prop}(hc:zgn X (.builtin id) r)(hg:Gl X x)(hm:X.mg x=af)(hv:aZ x=ae (.builtin id))(ha:WA X (e :: es) t)(hn:x ≠ "__name__" :=by decide)(hdb:(x == ("__debug__" : Str))=false:=by decide)
  (h1:zan e=true:=by rfl) (h2:es.all zan=true:=by rfl):WE X (.Call (.Name x p) (e :: es) [] pos) (tCB r t):=⟨pe_callB hc hg hm hv ha.h hn hdb (zao h1) (zcy h2)⟩
theorem wct{T:String}{r:List V->Hp->VK->Prop}(hc:zgn X (.type T) r)(hg:Gl X x)(hm:X.mg x=af)(hv:aZ x=ae (.type T))(ha:WA X (e :: es) t)(hn:x ≠ "__name__" :=by decide)(hdb:(x == ("__debug__" : Str))=false:=by decide)
  (h1:zan e=true:=by rfl) (h2:es.all zan=true:=by rfl):WE X (.Call (.Name x p) (e :: es) [] pos) (tCB r t):=⟨pe_callTy hc hg hm hv ha.h hn hdb (zao h1) (zcy h2)⟩
theorem wcl{CX:CXT}{k j:Nat}{f:ai}{fd:bq}{ps:List Str}{sp:Sp}{st:Stmt}{E:XK}(F:FnOk X.prog X.w X.K X.mg X.base CX k f fd ps sp)(D:Def X.K X.mg x st ps f fd)(hr:Room j X.A)(hg:Gl X x)(hx:zc6 CX X E)
  (ha:WA X (e :: es) t) (hjk:k<=j:=by decide) (hdb:(x == ("__debug__" : Str))=false:=by decide) (h1:zan e=true:=by rfl) (h2:es.all zan=true:=by rfl) :
  WE X (.Call (.Name x p) (e :: es) [] pos) (tCall sp [] E t):=⟨pe_call F (hr.mono hjk) hg D.mg D.fn.kp D.b .nil hx ha.h hdb (zao h1) (zcy h2)⟩
theorem wbm{T id:String}{name:Str}{apos cpos:Pos}{r:V->List V->Hp->VK->Prop}(pa:PlainAttrs T)(slot:Slot T name id)(hty:typeOf (.builtin id)=pure (.type "method_descriptor"))(hm:MtR X id r)(ho:WE X o to)(ha:WA X (e :: es) t)
  (hbase:cq o name X.env (eval o X.env)=eval o X.env:=by rfl) (hl:decide ((e :: es).length+0+0<30)=true:=by rfl) (hline:(apos.endLine == cpos.line)=true:=by rfl)
  (h1:zan e=true:=by rfl) (h2:es.all zan=true:=by rfl):WE X (.Call (.Attribute o name apos) (e :: es) [] cpos) (tBM X.K T r to t):=⟨pbm pa slot hty hm ho.h ha.h hbase hl hline h1 h2⟩
theorem tcmp{op:CmpOp}(ho:OpR X (bB op) r)(ha:WE X a ta)(hb:WE X b tb)(hm:behindInMarks op b=false):WT X (.Compare a [op] [b] pos) (tTest (tOp r ta tb)):=⟨pt_cmpR ho ha.h hb.h hm⟩
theorem tand1(ha:WT X a tA):WW X (.BoolOp .And [a] pos) tA:=⟨pw_and1 ha.h⟩
theorem tor1(ha:WT X a tA):WW X (.BoolOp .Or [a] pos) tA:=⟨pw_or1 ha.h⟩
theorem tand(ha:WT X a tA)(hb:WW X (.BoolOp .And (b :: rest) pos) tB'):WW X (.BoolOp .And (a :: b :: rest) pos) (tAnd tA tB'):=⟨pw_and ha.h hb.h⟩
theorem tor(ha:WT X a tA)(hb:WW X (.BoolOp .Or (b :: rest) pos) tB'):WW X (.BoolOp .Or (a :: b :: rest) pos) (tOr tA tB'):=⟨pw_or ha.h hb.h⟩
theorem tw(h:WW X a tA):WT X a tA:=⟨h.h.pt⟩
theorem tnot(ha:WT X a tA):WT X (.UnaryOp .Not a pos) (tNot tA):=⟨pt_not ha.h⟩
theorem tval(h:WE X e te)(he:∀ whole,isTrue e X.env whole=(do let v <- whole;standAt e.pos;holding [v] (truthy v)):=by intro _;rfl):WT X e (tB te):=⟨pt_val h.h he⟩
theorem ifs0:WTs X [] tNoIf:=⟨pts_nil⟩
theorem ifs1(h:WT X c tA):WTs X [c] tA:=⟨pts_one h.h⟩
end
section
variable {X:Cx}{e c tg iter:Expr}{es:List Expr}{pos pos' p:Pos}{te:TE}{tc:TT}{ta:TA}{x:Str}{st:Stmt}{sr body els:List Stmt}{t u tb:TS}{wi:TI}{g:TG}{gs:TGs}
theorem il(h:WE X e te):WI X tg e (iList X.K te):=⟨pi_list h.h⟩
theorem it(h:WE X e te):WI X tg e (iTup X.K te):=⟨pi_tup h.h⟩
theorem ir1(hg:Gl X "range")(hm:X.mg "range" = af)(ha:WA X [e] ta)(h1:zan e=true:=by rfl):WI X tg (.Call (.Name "range" p) [e] [] pos) (iRng1 ta):=⟨pi_range1 hg hm ha.h (zao h1)⟩
theorem ir2{b:Expr}(hg:Gl X "range")(hm:X.mg "range" = af)(ha:WA X [e,b] ta)(h1:zan e=true:=by rfl)(h2:zan b=true:=by rfl):WI X tg (.Call (.Name "range" p) [e,b] [] pos) (iRng2 ta):=⟨pi_range2 hg hm ha.h (by rw[zao h1,zao h2];rfl) (by rw[zao h2];rfl)⟩
theorem gn{i:Nat}(hN:X.N.Nodup)(hi:X.N[i]? = ae x)(hx:Loc X.env.scope x)(hf:X.fn x=true \/ X.env.scope.names.lookup x=ae .local:=by first | exact .inl rfl | exact .inr rfl | assumption):WG X (.Name x pos) (zgo i):=⟨zh1 hN hi hx hf⟩
theorem gs0:WGs X [] gNil:=⟨pgs_nil⟩
theorem gs1(h1:WG X e g)(h2:WGs X es gs)(hs:(ck (e :: es) X.env).map (·.2)=assign e X.env :: (ck es X.env).map (·.2):=by rfl):WGs X (e :: es) (gCons g gs):=⟨zgX h1.h h2.h hs⟩
theorem gt{k n:Nat}(hc:X.calm=true)(h:WGs X es gs)(hn:(ck es X.env).length=n:=by rfl)(hst:(ck es X.env).findIdx? (·.1)=af:=by rfl):WG X (.Tuple es k pos) (gTup X.K n gs):=⟨pg_tup hc h.h hn hst⟩
theorem s0:WSs X [] tNext:=⟨pss_nil⟩
theorem sc(h1:WS X st t)(h2:WSs X sr u):WSs X (st :: sr) (tSeq t u):=⟨pss_cons h1.h h2.h⟩
theorem s1(h1:WS X st t):WSs X [st] t:=⟨pss_one h1.h⟩
theorem ssn:WSs X sr ziM:=⟨pss_never⟩
theorem snev:WS X st ziM:=⟨ps_never⟩
theorem sex(he:WE X e te)(hs:swapsWith e af pos.line X.env=pure false:=by rfl):WS X (.Expr e pos) (tDrop te):=⟨ps_expr he.h hs⟩
theorem sret(he:WE X e te):WS X (.Return (ae e) pos) (tRet te):=⟨ps_ret he.h⟩
theorem sif(hc:WT X c tc)(ha:WSs X body t)(hb:WSs X els u):WS X (.If c body els pos) (tIfS tc t u):=⟨ps_if hc.h ha.h hb.h⟩
theorem sset{i:Nat}(hN:X.N.Nodup)(hi:X.N[i]? = ae x)(hx:Loc X.env.scope x)(he:WE X e te)(hs:swapsWith e (ae (.Name x pos')) pos.line X.env=pure false:=by rfl)(hf:X.fn x=true \/ X.env.scope.names.lookup x=ae .local:=by first | exact .inl rfl | exact .inr rfl | assumption) :
  WS X (.Assign [.Name x pos'] e pos) (tAsg te (zgo i)):=⟨ps_set hN hi hx he.h hs hf⟩
theorem sasg(he:WE X e te)(hg:WG X tg g)(hs:swapsWithSole [tg] e pos.line X.env=pure false:=by rfl)(hw:swappedStores [tg] e X.env=pure af:=by rfl)(h1:(ck [tg] X.env).map (·.2)=[assign tg X.env]:=by rfl):WS X (.Assign [tg] e pos) (tAsg te g):=⟨ps_asg he.h hg.h hs hw h1⟩
theorem sfor(hp:PassesOwn (model X.prog X.w) X.A X.env X.xe)(hc:X.calm=true)(hi:WI X tg iter wi)(hg:WG X tg g)(hb:WSs X body tb)(hs:∀ z,bW iter X.env z=pure z:=by intro _;rfl):WS X (.For tg iter body [] pos) (tFor wi g tb):=⟨ps_for hp hc hi.h hg.h hb.h hs⟩
theorem swhile(hp:PassesOwn (model X.prog X.w) X.A X.env X.xe)(hc:WT X c tc)(hb:WSs X body tb):WS X (.While c body [] pos) (tWhile tc tb):=⟨ps_while hp hc.h hb.h⟩
end
section
variable {X:Cx}{N:List Str}{fr:List Nat}{x:Str}{scope:Scope}{iter elt:Expr}{ifs:List Expr}{px pos:Pos}{wi:TI}{te:TE}{tt:TT}
theorem wlc(S:CompSc X N fr x scope)(hc:X.calm=true)(hi:WI X (.Name x px) iter wi)
  (ht:∀ (C:ai) (s₀:am) (H₀:Hp) (fp:List ai),WTs (cxC X N scope C s₀ H₀ fp) ifs tt) (he:∀ (C:ai) (s₀:am) (H₀:Hp) (fp:List ai),WE (cxC X N scope C s₀ H₀ fp) elt te)
  (hs:∀ z,bW iter X.env z=pure z:=by intro _;rfl):WE X (.ListComp elt [⟨.Name x px,iter,ifs,0⟩] scope pos) (tLC fr wi tt te):=⟨pe_lc S hc hi.h (fun C s₀ H₀ fp=>(ht C s₀ H₀ fp).h) (fun C s₀ H₀ fp=>(he C s₀ H₀ fp).h) hs⟩
theorem ssetlc{i:Nat}{y:Str}{py spos:Pos}(hN:X.N.Nodup)(hi':X.N[i]? = ae y)(hy:Loc X.env.scope y)(S:CompSc X N fr x scope)(hc:X.calm=true)(hi:WI X (.Name x px) iter wi)
  (ht:∀ (C:ai) (s₀:am) (H₀:Hp) (fp:List ai),WTs (cxC X N scope C s₀ H₀ fp) ifs tt) (he:∀ (C:ai) (s₀:am) (H₀:Hp) (fp:List ai),WE (cxC X N scope C s₀ H₀ fp) elt te)
  (hsw:swapsWith (.ListComp elt [⟨.Name x px,iter,ifs,0⟩] scope pos) (ae (.Name y py)) spos.line X.env=pure true:=by rfl)
  (hs:∀ z,bW iter X.env z=pure z:=by intro _;rfl)
  (hf:X.fn y=true \/ X.env.scope.names.lookup y=ae .local:=by first | exact .inl rfl | exact .inr rfl | assumption) :
  WS X (.Assign [.Name y py] (.ListComp elt [⟨.Name x px,iter,ifs,0⟩] scope pos) spos) (tAsg (tLC fr wi tt te) (zgo i)):=
 ⟨ps_setlc hN hi' hy S hc hi.h (fun C s₀ H₀ fp=>(ht C s₀ H₀ fp).h) (fun C s₀ H₀ fp=>(he C s₀ H₀ fp).h) hsw hs hf⟩
end
end L2

set_option maxRecDepth 100000
set_option maxHeartbeats 4000000
namespace L2
open PySem PySem.Spec PyProof.Rows
abbrev KN:=Option Int
def kN:KN->V
 | none=>.non
 | some i=>.int i
def nIs:KN->ag->Bool
 | none,.none=>true
 | some k,v=>iW k v
 | _,_=>false
def nHash:KN->Int
 | none=>reduceHash 0xFCA86420
 | some k=>hashInt k
theorem zcw:∀ {k:KN} {v:ag},nIs k v=true->(k=af/\v=.none) \/ ∃ i t,k=ae i/\v=eP i t
 | none,v,h=>by cases v <;> first | exact .inl ⟨rfl,rfl⟩ | cases h
 | some i,v,h=>by
  obtain⟨t,e⟩:=iI (k:=i) (v:=v) h
  exact .inr ⟨i,t,rfl,e⟩
theorem nIs_int(i:Int)(t:Tok):nIs (ae i) (.int i t)=true:=by simp[nIs,iW]
theorem zjb{prog:aR}{w:aX}{A:a8}{E:ag->am->Prop}{s:am}{Q:Int->am->Prop}(h:Q (nHash af) { s with toks:=s.toks+1}):ay (model prog w) A (PySem.pyHash .none) Q E s:=
 PySem.W.pyHash_slot (T:= "NoneType") rfl F.slot_NoneType_hash F.entry_NoneType_hash (F.args_NoneType_hash_1 _) (beq_builtin_none _) (.inl rfl) (aj (aw (aj (wpAny_mkInt (aw ⟨_,_,rfl,h⟩)))))
def nKind(prog:aR)(w:aX):jp prog w KN where
 is:=nIs
 hash:=nHash
 inj:=fun v a b ha hb=>by
  rcases zcw ha with ⟨rfl,rfl⟩ | ⟨i,t,rfl,rfl⟩
  ·rcases zcw hb with ⟨rfl,_⟩ | ⟨j,u,rfl,e⟩
   ·rfl
   ·exact nomatch e
  ·rcases zcw hb with ⟨rfl,e⟩ | ⟨j,u,rfl,e⟩
   ·exact nomatch e
   ·injection e with e1 _;rw[e1]
 byValue:=fun k v h=>by
  rcases zcw h with ⟨rfl,rfl⟩ | ⟨i,t,rfl,rfl⟩ <;> rfl
 pyHash:=fun hv h=>by
  rcases zcw hv with ⟨rfl,rfl⟩ | ⟨i,t,rfl,rfl⟩
  ·exact zjb h
  ·exact wpAny_pyHash_int h
 eqBool:=fun hu hv h=>by
  rcases zcw hu with ⟨rfl,rfl⟩ | ⟨i,t,rfl,rfl⟩
  ·rcases zcw hv with ⟨rfl,rfl⟩ | ⟨j,u,rfl,rfl⟩
   ·exact eU _ _ _ _ _ (by simpa using h)
   ·exact ik j u _ _ _ _ (by simpa using h)
  ·rcases zcw hv with ⟨rfl,rfl⟩ | ⟨j,u,rfl,rfl⟩
   ·exact im i t _ _ _ _ (by simpa using h)
   ·refine wpAny_eqBool_int ?_
    have e:(i == j)=decide ((ae i:KN)=ae j):=by
     by_cases q:i=j
     ·subst q;simp
     ·have q':¬ (ae i:KN)=ae j:=fun z=>q (bc z)
      rw[decide_eq_false q',beq_eq_false_iff_ne.mpr q]
    rw[e];exact h
 «strs» :=fun k x t v h=>by
  rcases zcw h with ⟨_,e⟩ | ⟨i,u,_,e⟩ <;> exact nomatch e
def dtE(q:List KN × ai × ag):DictEntry:=⟨reduceHash (jD (q.1.map nHash)),.ref q.2.1,q.2.2⟩
def DtP:List (List KN × ai × V)->List (List KN × ai × ag)->Prop:=Paired fun p q=>p.1=q.1/\p.2.1=q.2.1/\RelV p.2.2 q.2.2
def DtOk(l:ai)(xs:List (List KN × ai × V))(h:aW):Prop:=
 (l == sysModules)=false/\xs.length<=ba/\∃ ys,DtP xs ys/\∃ o es ep,h.get? l=ae o/\o.ExactDict/\o.data=.dict es ep/\es.toList=ys.map dtE/\(ys.map (·.1)).Nodup
def dtO(l:ai)(xs:List (List KN × ai × V)):HO:=.ext (DtOk l xs)
end L2

namespace L3
open PySem PySem.Spec PyProof.Rows L2
inductive D where
 | non | bl (b:Bool) | int (i:Int) | str (x:Str) | tup (l:List D) | lst (l:List D) | dic (ks:List Str) (l:List D)
inductive OT where
 | val (d:D) | lst (l:List D) | ins (c:Str) (ns:List Str) (l:List OT) | dic (ks:List Str) (l:List D) | dcT (ks:List (List KN)) (l:List D)
inductive Ent where
 | val (d:D) | own (l:List D) | bor (l:List D) | vw (l:List D) | obj (o:OT) | vwt (ks:List (List KN)) (l:List D) | bt (l:List D)
abbrev En:=List (Option Ent)
abbrev Sg:=L2.St
mutual
inductive Rep(F:Hp):V->D->Prop
 | non:Rep F .non .non
 | bl (b:Bool):Rep F (.bl b) (.bl b)
 | int (i:Int):Rep F (.int i) (.int i)
 | str (x:Str):Rep F (.str x) (.str x)
 | tup {a:ai} {vs:List V} {ds:List D}:F a=ae (.tup vs)->Reps F vs ds->Rep F (.ref a) (.tup ds)
 | lst {a:ai} {vs:List V} {ds:List D}:F a=ae (.lst vs)->Reps F vs ds->Rep F (.ref a) (.lst ds)
 | dic {a:ai} {o:Obj} {ks:List Str} {vs:List V} {ds:List D}:F a=ae (.frz o (.dK ((ks.map bA).zip vs)))->ks.length=vs.length->Reps F vs ds->Rep F (.ref a) (.dic ks ds)
inductive Reps(F:Hp):List V->List D->Prop
 | nil:Reps F [] []
 | cons {v:V} {d:D} {vs:List V} {ds:List D}:Rep F v d->Reps F vs ds->Reps F (v :: vs) (d :: ds)
end
section
variable {F F':Hp}{v:V}{d:D}{vs ws:List V}{ds es:List D}
mutual
theorem Rep.mono(s:Same F F'):∀ {v:V} {d:D},Rep F v d->Rep F' v d
 | _,_,.non=>.non
 | _,_,.bl b=>.bl b
 | _,_,.int i=>.int i
 | _,_,.str x=>.str x
 | _,_,.tup e r=>.tup (s _ _ e) (Reps.mono s r)
 | _,_,.lst e r=>.lst (s _ _ e) (Reps.mono s r)
 | _,_,.dic e l r=>.dic (s _ _ e) l (Reps.mono s r)
theorem Reps.mono(s:Same F F'):∀ {vs:List V} {ds:List D},Reps F vs ds->Reps F' vs ds
 | _,_,.nil=>.nil
 | _,_,.cons h r=>.cons (Rep.mono s h) (Reps.mono s r)
end
theorem Reps.length:∀ {vs:List V} {ds:List D},Reps F vs ds->vs.length=ds.length
 | _,_,.nil=>rfl
 | _,_,.cons _ r=>by rw[aL,aL,Reps.length r]
theorem Reps.get:∀ {vs:List V} {ds:List D} {i:Nat} {d:D},Reps F vs ds->ds[i]? = ae d->∃ v,vs[i]? = ae v/\Rep F v d
 | _,_,_,_,.nil,e=>by simp at e
 | _,_,0,_,.cons h _,e=>by simp at e;subst e;exact⟨_,rfl,h⟩
 | _,_,i+1,d,.cons _ r,e=>by
  obtain⟨v,h1,h2⟩:=Reps.get (i:=i) (d:=d) r (by simpa using e)
  exact⟨v,by simpa using h1,h2⟩
theorem Reps.append:∀ {vs ws:List V} {ds es:List D},Reps F vs ds->Reps F ws es->Reps F (vs ++ ws) (ds ++ es)
 | _,_,_,_,.nil,s=>s
 | _,_,_,_,.cons h r,s=>.cons h (Reps.append r s)
theorem Reps.take:∀ {vs:List V} {ds:List D} (n:Nat),Reps F vs ds->Reps F (vs.take n) (ds.take n)
 | _,_,0,_=>.nil
 | _,_,_+1,.nil=>.nil
 | _,_,n+1,.cons h r=>.cons h (Reps.take n r)
theorem Reps.drop:∀ {vs:List V} {ds:List D} (n:Nat),Reps F vs ds->Reps F (vs.drop n) (ds.drop n)
 | _,_,0,r=>r
 | _,_,_+1,.nil=>.nil
 | _,_,n+1,.cons _ r=>Reps.drop n r
theorem Reps.one(h:Rep F v d):Reps F [v] [d]:=.cons h .nil
theorem Reps.ints(ns:List Int):Reps F (ns.map V.int) (ns.map D.int):=by
 induction ns with
 | nil=>exact .nil
 | cons n r ih=>exact .cons (.int n) ih
end
def isT:HO->Bool
 | .tup _=>true
 | _=>false
def zfs(K:ak)(c:Str)(C:ai):Prop:=aJ K aD c=ae (ae (.ref C))
mutual
inductive TR(K:ak)(F H:Hp):V->OT->List ai->Prop
 | val {v:V} {d:D}:Rep F v d->TR K F H v (.val d) []
 | lst {l:ai} {vs:List V} {ds:List D}:H l=ae (.lst vs)->Reps F vs ds->TR K F H (.ref l) (.lst ds) [l]
 | ins {a dx C:ai} {c:Str} {ns:List Str} {vs:List V} {os:List OT} {A:List ai}:zfs K c C->H a=ae (.ins C dx (ns.zip vs))->H dx=ae (.own a)->ns.length=vs.length->TRs K F H vs os A->TR K F H (.ref a) (.ins c ns os) (a :: dx :: A)
 | dic {l:ai} {ks:List Str} {vs:List V} {ds:List D}:H l=ae (.dK ((ks.map bA).zip vs))->ks.length=vs.length->Reps F vs ds->TR K F H (.ref l) (.dic ks ds) [l]
 | dcT {l:ai} {xs:List (List KN × ai × V)} {ks:List (List KN)} {ds:List D}:H l=ae (dtO l xs)->ks=xs.map (·.1)->(∀ x ∈ xs,F x.2.1=ae (.tup (x.1.map kN)))->Reps F (xs.map (·.2.2)) ds->TR K F H (.ref l) (.dcT ks ds) [l]
inductive TRs(K:ak)(F H:Hp):List V->List OT->List ai->Prop
 | nil:TRs K F H [] [] []
 | cons {v:V} {o:OT} {vs:List V} {os:List OT} {A A':List ai}:TR K F H v o A->TRs K F H vs os A'->TRs K F H (v :: vs) (o :: os) (A ++ A')
end
section
variable {K:ak}{F H F' H':Hp}
mutual
theorem TR.move(s:Same F F'):∀ {v:V} {o:OT} {A:List ai},TR K F H v o A->(∀ a ∈ A,H' a=H a)->TR K F' H' v o A
 | _,_,_,.val r,_=>.val (Rep.mono s r)
 | _,_,_,.lst e r,h=>.lst (by rw[h _ aC];exact e) (r.mono s)
 | _,_,_,.ins hc e1 e2 hl t,h=>.ins hc (by rw[h _ aC];exact e1) (by rw[h _ (av _ aC)];exact e2) hl (TRs.move s t fun a ha=>h a (av _ (av _ ha)))
 | _,_,_,.dic e l r,h=>.dic (by rw[h _ aC];exact e) l (r.mono s)
 | _,_,_,.dcT e l z r,h=>.dcT (by rw[h _ aC];exact e) l (fun x hx=>s _ _ (z x hx)) (r.mono s)
theorem TRs.move(s:Same F F'):∀ {vs:List V} {os:List OT} {A:List ai},TRs K F H vs os A->(∀ a ∈ A,H' a=H a)->TRs K F' H' vs os A
 | _,_,_,.nil,_=>.nil
 | _,_,_,.cons t ts,h=>.cons (TR.move s t fun a ha=>h a (b9 _ ha)) (TRs.move s ts fun a ha=>h a (aS _ ha))
end
mutual
theorem TR.lies:∀ {v:V} {o:OT} {A:List ai},TR K F H v o A->∀ a ∈ A,∃ u,H a=ae u/\isT u=false
 | _,_,_,.val _,a,h=>by cases h
 | _,_,_,.lst e _,a,h=>by cases h with
  | head=>exact⟨_,e,rfl⟩
  | tail _ h=>cases h
 | _,_,_,.ins _ e1 e2 _ t,a,h=>by cases h with
  | head=>exact⟨_,e1,rfl⟩
  | tail _ h=>cases h with
   | head=>exact⟨_,e2,rfl⟩
   | tail _ h=>exact TRs.lies t a h
 | _,_,_,.dic e _ _,a,h=>by cases h with
  | head=>exact⟨_,e,rfl⟩
  | tail _ h=>cases h
 | _,_,_,.dcT e _ _ _,a,h=>by cases h with
  | head=>exact⟨_,e,rfl⟩
  | tail _ h=>cases h
theorem TRs.lies:∀ {vs:List V} {os:List OT} {A:List ai},TRs K F H vs os A->∀ a ∈ A,∃ u,H a=ae u/\isT u=false
 | _,_,_,.nil,a,h=>by cases h
 | _,_,_,.cons t ts,a,h=>by
  rcases b6.mp h with h | h
  ·exact TR.lies t a h
  ·exact TRs.lies ts a h
end
theorem zip_same{ns:List Str}:∀ {vs ws:List V},ns.length=vs.length->ns.length=ws.length->ns.zip vs=ns.zip ws->vs=ws:=by
 intro vs ws h1 h2 h
 have a:=congrArg (fun l=>l.map kL) h
 simp only[eI (gu h1.symm),eI (gu h2.symm)] at a
 exact a
mutual
theorem TR.det:∀ {v:V} {o:OT} {A:List ai},TR K F H v o A->∀ {A':List ai},TR K F H v o A'->A=A'
 | _,_,_,.val _,_,h=>by cases h;rfl
 | _,_,_,.lst _ _,_,h=>by cases h;rfl
 | _,_,_,.ins hc e1 e2 hl t,_,h=>by
  cases h with
  | ins hc' e1' e2' hl' t'=>
   have z:=bc (e1.symm.trans e1')
   injection z with z1 z2 z3
   subst z2
   have z4:=zip_same hl hl' z3
   subst z4
   rw[TRs.det t t']
 | _,_,_,.dic _ _ _,_,h=>by cases h;rfl
 | _,_,_,.dcT _ _ _ _,_,h=>by cases h;rfl
theorem TRs.det:∀ {vs:List V} {os:List OT} {A:List ai},TRs K F H vs os A->∀ {A':List ai},TRs K F H vs os A'->A=A'
 | _,_,_,.nil,_,h=>by cases h;rfl
 | _,_,_,.cons t ts,_,h=>by
  cases h with
  | cons t' ts'=>rw[TR.det t t',TRs.det ts ts']
end
end
structure Bd where
 hp:Hp
 pin:Option V
instance:Coe Bd Hp:=⟨Bd.hp⟩
structure Ex(F H F' H':Hp):Prop where
 ff:Same F F'
 fh:Same F' H'
 hh:Same H H'
 nw:∀ a o,H a=ae o->isT o=false->F' a=F a
section
variable {K:ak}{B:Bd}{F H F' H' F2 H2 H0:Hp}{v:V}{p:ai}{o:HO}{e:Ent}{σ:Sg}{δ:En}
theorem Ex.refl(h:Same F H):Ex F H F H:=⟨Same.refl F,h,Same.refl H,fun _ _ _ _=>rfl⟩
theorem Ex.trans(a:Ex F H F' H')(b:Ex F' H' F2 H2):Ex F H F2 H2:=⟨a.ff.trans b.ff,b.fh,a.hh.trans b.hh,fun x o e t=>(b.nw x o (a.hh x o e) t).trans (a.nw x o e t)⟩
theorem same_upd2(h:Same F H)(hp:H p=af):Same (upd F p o) (upd H p o):=fun b u e=>by
 by_cases hb:b=p
 ·subst hb;rw[zai] at e ⊢;exact e
 ·rw[zaj hb] at e ⊢;exact h b u e
theorem Ex.alloc(h:Same F H)(hp:H p=af):Ex F H (upd F p o) (upd H p o):=
 ⟨Same.alloc (h.free hp),same_upd2 h hp,Same.alloc hp,fun a u e _=>zaj (zaA e hp)⟩
theorem Ex.lay(h:Same F H)(hp:H p=af):Ex F H F (upd H p o):=⟨Same.refl F,h.trans (Same.alloc hp),Same.alloc hp,fun _ _ _ _=>rfl⟩
theorem Ex.freeze(x:Ex F H F' H')(h0:H p=af)(h1:H' p=ae o)(h2:F' p=af):Ex F H (upd F' p o) H':=by
 refine⟨x.ff.trans (Same.alloc h2),fun b u e=>?_,x.hh,fun a u e t=>?_⟩
 ·by_cases hb:b=p
  ·subst hb;rw[zai] at e;cases e;exact h1
  ·rw[zaj hb] at e;exact x.fh b u e
 ·rw[zaj (zaA e h0)];exact x.nw a u e t
theorem Ex.tupF{zs:List V}(x:Ex F H F' H')(h1:H' p=ae (.tup zs)):∃ F2,Ex F H F2 H'/\Same F' F2/\F2 p=ae (.tup zs):=by
 cases q:F' p with
 | some u=>
  have:=x.fh _ _ q
  rw[h1] at this
  cases this
  exact⟨F',x,Same.refl _,q⟩
 | none=>
  refine⟨upd F' p (.tup zs),⟨x.ff.trans (Same.alloc q),fun b u e=>?_,x.hh,fun a u e t=>?_⟩,Same.alloc q,zai⟩
  ·by_cases hb:b=p
   ·subst hb;rw[zai] at e;cases e;exact h1
   ·rw[zaj hb] at e;exact x.fh b u e
  ·by_cases hb:a=p
   ·subst hb;rw[x.hh _ _ e] at h1;cases h1;cases t
   ·rw[zaj hb];exact x.nw a u e t
def RepR(K:ak)(H0 F H:Hp)(v:V):Ent->Prop
 | .val d=>Rep F v d
 | .own ds=>∃ l vs,v=.ref l/\H0 l=af/\H l=ae (.lst vs)/\Reps F vs ds/\F l=af
 | .bor ds=>∃ l vs,v=.ref l/\SqL K H l vs/\Reps F vs ds
 | .vw ds=>∃ l vs,v=.ref l/\H l=ae (.lst vs)/\Reps F vs ds
 | .obj o=>(∃ l,v=.ref l)/\∃ A,TR K F H v o A/\A.Nodup/\∀ a ∈ A,F a=af/\H0 a=af
 | .vwt ks ds=>∃ A,TR K F H v (.dcT ks ds) A
 | .bt ds=>∃ l vs,v=.ref l/\SqT K H l vs/\Reps F vs ds
theorem _root_.L2.Same.seqT{K:ak}{H H':Hp}{l:ai}{vs:List V}(s:Same H H')(h:SqT K H l vs):SqT K H' l vs:=by
 rcases h with (h | ⟨o,h⟩) | h
 ·exact .inl (.inl (s _ _ h))
 ·exact .inl (.inr ⟨o,s _ _ h⟩)
 ·exact .inr h
theorem TR.ext{o:OT}{A:List ai}(r:TR K F H v o A)(x:Ex F H F' H'):TR K F' H' v o A/\∀ a ∈ A,F' a=F a:=
 ⟨r.move x.ff fun a ha=>let⟨_,h1,_⟩:=r.lies a ha;(x.hh _ _ h1).trans h1.symm,fun a ha=>let⟨_,h1,h2⟩:=r.lies a ha;x.nw _ _ h1 h2⟩
theorem RepR.ext(r:RepR K H0 F H v e)(x:Ex F H F' H'):RepR K H0 F' H' v e:=by
 cases e with
 | val d=>exact Rep.mono x.ff r
 | own ds=>
  obtain⟨l,vs,e,h0,h1,rs,h2⟩:=r
  exact⟨l,vs,e,h0,x.hh _ _ h1,rs.mono x.ff,(x.nw _ _ h1 rfl).trans h2⟩
 | bor ds=>obtain⟨l,vs,e,h,rs⟩:=r;exact⟨l,vs,e,x.hh.seq h,rs.mono x.ff⟩
 | vw ds=>obtain⟨l,vs,e,h,rs⟩:=r;exact⟨l,vs,e,x.hh _ _ h,rs.mono x.ff⟩
 | obj o=>obtain⟨z,A,t,n,h⟩:=r;exact⟨z,A,(t.ext x).1,n,fun a ha=>⟨((t.ext x).2 a ha).trans (h a ha).1,(h a ha).2⟩⟩
 | vwt ks ds=>obtain⟨A,t⟩:=r;exact⟨A,(t.ext x).1⟩
 | bt ds=>obtain⟨l,vs,e,h,rs⟩:=r;exact⟨l,vs,e,x.hh.seqT h,rs.mono x.ff⟩
theorem RepR.earlier(r:RepR K H F' H' v e)(s:Same H0 H):RepR K H0 F' H' v e:=by
 cases e with
 | own ds=>obtain⟨l,vs,e,h0,z⟩:=r;exact⟨l,vs,e,s.free h0,z⟩
 | obj o=>obtain⟨z,A,t,n,h⟩:=r;exact⟨z,A,t,n,fun a ha=>⟨(h a ha).1,s.free (h a ha).2⟩⟩
 | _=>exact r
def RepN(K:ak)(B F H:Hp)(v:V):Ent->Prop
 | .val d=>Rep F v d
 | .own ds=>∃ l vs,v=.ref l/\H l=ae (.lst vs)/\Reps F vs ds/\F l=af/\B l=af
 | .bor ds=>∃ l vs,v=.ref l/\SqL K B l vs/\Reps F vs ds
 | .vw ds=>∃ l vs,v=.ref l/\H l=ae (.lst vs)/\Reps F vs ds
 | .obj o=>∃ A,TR K F H v o A/\A.Nodup/\∀ a ∈ A,F a=af/\B a=af
 | .vwt ks ds=>∃ A,TR K F H v (.dcT ks ds) A
 | .bt ds=>∃ l vs,v=.ref l/\SqT K B l vs/\Reps F vs ds
def Ent.lk:Ent->Bool
 | .own _=>true
 | .vw _=>true
 | _=>false
def Occ(K:ak)(F H:Hp)(v:V):Ent->ai->Prop
 | .own _,a=>v=.ref a
 | .vw _,a=>v=.ref a
 | .obj o,a=>∃ A,TR K F H v o A/\a ∈ A
 | .vwt ks ds,a=>∃ A,TR K F H v (.dcT ks ds) A/\a ∈ A
 | _,_=>False
def Ent.isO:Ent->Bool
 | .obj _=>true
 | _=>false
structure RS(K:ak)(B:Bd)(F H:Hp)(σ:Sg)(δ:En):Prop where
 fh:Same F H
 bh:Same B H
 len:σ.length=δ.length
 ent:∀ (i:Nat) (e:Ent),δ[i]? = ae (ae e)->∃ v,σ[i]? = ae (ae v)/\RepN K B F H v e
 ap:∀ (i j:Nat) (l:ai) (ds:List D) (e:Ent),i ≠ j->δ[i]? = ae (ae (.own ds))->σ[i]? = ae (ae (.ref l))->δ[j]? = ae (ae e)->e.lk=true->σ[j]? ≠ ae (ae (.ref l))
 ao:∀ (i j:Nat) (e e':Ent) (v w:V) (a:ai),i ≠ j->δ[i]? = ae (ae e)->σ[i]? = ae (ae v)->δ[j]? = ae (ae e')->σ[j]? = ae (ae w)->e.isO=true->Occ K F H v e a->Occ K F H w e' a->False
 pn:∀ (v:V) (o:OT),B.pin=ae v->δ[0]? = ae (ae (.obj o))->σ[0]? = ae (ae v)
theorem RepN.ext(r:RepN K B F H v e)(x:Ex F H F' H'):RepN K B F' H' v e:=by
 cases e with
 | val d=>exact Rep.mono x.ff r
 | own ds=>obtain⟨l,vs,e,h1,rs,h2,h3⟩:=r;exact⟨l,vs,e,x.hh _ _ h1,rs.mono x.ff,(x.nw _ _ h1 rfl).trans h2,h3⟩
 | bor ds=>obtain⟨l,vs,e,h,rs⟩:=r;exact⟨l,vs,e,h,rs.mono x.ff⟩
 | vw ds=>obtain⟨l,vs,e,h,rs⟩:=r;exact⟨l,vs,e,x.hh _ _ h,rs.mono x.ff⟩
 | obj o=>obtain⟨A,t,n,h⟩:=r;exact⟨A,(t.ext x).1,n,fun a ha=>⟨((t.ext x).2 a ha).trans (h a ha).1,(h a ha).2⟩⟩
 | vwt ks ds=>obtain⟨A,t⟩:=r;exact⟨A,(t.ext x).1⟩
 | bt ds=>obtain⟨l,vs,e,h,rs⟩:=r;exact⟨l,vs,e,h,rs.mono x.ff⟩
theorem Occ.back{a:ai}(r:RepN K B F H v e)(m:∀ o A,(e=.obj o \/ ∃ ks ds,e=.vwt ks ds/\o=.dcT ks ds)->TR K F H v o A->TR K F' H' v o A)(h:Occ K F' H' v e a):Occ K F H v e a:=by
 cases e with
 | obj o=>
  obtain⟨A,t,_⟩:=r
  obtain⟨A',t',h'⟩:=h
  rw[t'.det (m o A (.inl rfl) t)] at h'
  exact⟨A,t,h'⟩
 | vwt ks ds=>
  obtain⟨A,t⟩:=r
  obtain⟨A',t',h'⟩:=h
  rw[t'.det (m _ A (.inr ⟨ks,ds,rfl,rfl⟩) t)] at h'
  exact⟨A,t,h'⟩
 | _=>exact h
theorem Occ.backX{a:ai}(r:RepN K B F H v e)(x:Ex F H F' H')(h:Occ K F' H' v e a):Occ K F H v e a:=h.back r fun _ _ _ t=>(t.ext x).1
theorem RepN.lies{a:ai}(r:RepN K B F H v e)(h:Occ K F H v e a):∃ u,H a=ae u:=by
 cases e with
 | own ds=>obtain⟨l,vs,e,h1,_⟩:=r;cases e;cases (show V.ref l=.ref a from h);exact⟨_,h1⟩
 | vw ds=>obtain⟨l,vs,e,h1,_⟩:=r;cases e;cases (show V.ref l=.ref a from h);exact⟨_,h1⟩
 | obj o=>obtain⟨A,t,h'⟩:=h;obtain⟨u,h1,_⟩:=t.lies a h';exact⟨u,h1⟩
 | vwt ks ds=>obtain⟨A,t,h'⟩:=h;obtain⟨u,h1,_⟩:=t.lies a h';exact⟨u,h1⟩
 | _=>exact h.elim
theorem RS.occ{i:Nat}{a:ai}(s:RS K B F H σ δ)(h:δ[i]? = ae (ae e))(q:σ[i]? = ae (ae v))(o:Occ K F H v e a):∃ u,H a=ae u:=by
 obtain⟨w,h1,h2⟩:=s.ent i e h
 rw[q] at h1
 cases h1
 exact h2.lies o
theorem RS.at{i:Nat}(s:RS K B F H σ δ)(h:δ[i]? = ae (ae e))(q:σ[i]? = ae (ae v)):RepN K B F H v e:=by
 obtain⟨w,h1,h2⟩:=s.ent i e h
 rw[q] at h1
 cases h1
 exact h2
theorem RS.ext(s:RS K B F H σ δ)(x:Ex F H F' H'):RS K B F' H' σ δ:=
 ⟨x.fh,s.bh.trans x.hh,s.len,fun i e h=>let⟨v,h1,h2⟩:=s.ent i e h;⟨v,h1,h2.ext x⟩,s.ap,
  fun i j e e' v w a hij h1 h2 h3 h4 h5 h6 h7=>s.ao i j e e' v w a hij h1 h2 h3 h4 h5 (h6.backX (s.at h1 h2) x) (h7.backX (s.at h3 h4) x),s.pn⟩
def asV:Ent->Option D
 | .val d=>ae d
 | .own ds=>ae (.lst ds)
 | _=>af
def asL:Ent->Option (List D)
 | .val (.lst ds)=>ae ds
 | .own ds=>ae ds
 | .bor ds=>ae ds
 | .vw ds=>ae ds
 | _=>af
theorem RepR.toL{ds:List D}(r:RepR K H0 F H v e)(h:Same F H)(q:asL e=ae ds):∃ l vs,v=.ref l/\SqL K H l vs/\Reps F vs ds:=by
 cases e with
 | val d=>
  cases d with
  | lst es=>
   cases q
   cases (show Rep F v (.lst _) from r) with
   | lst e rs=>exact⟨_,_,rfl,SqL.of (h _ _ e),rs⟩
  | _=>cases q
 | own es=>cases q;obtain⟨l,vs,e,_,h1,rs,_⟩:=r;exact⟨l,vs,e,SqL.of h1,rs⟩
 | bor es=>cases q;exact r
 | vw es=>cases q;obtain⟨l,vs,e,h1,rs⟩:=r;exact⟨l,vs,e,SqL.of h1,rs⟩
 | obj o=>cases q
 | vwt ks ds=>cases q
 | bt ds=>cases q
def asLt:Ent->Option (List D)
 | .val (.lst ds)=>ae ds
 | .own ds=>ae ds
 | .vw ds=>ae ds
 | _=>af
theorem RepR.toLt{ds:List D}(r:RepR K H0 F H v e)(h:Same F H)(q:asLt e=ae ds):∃ l vs,v=.ref l/\H l=ae (.lst vs)/\Reps F vs ds:=by
 cases e with
 | val d=>
  cases d with
  | lst es=>
   cases q
   cases (show Rep F v (.lst _) from r) with
   | lst e rs=>exact⟨_,_,rfl,h _ _ e,rs⟩
  | _=>cases q
 | own es=>cases q;obtain⟨l,vs,e,_,h1,rs,_⟩:=r;exact⟨l,vs,e,h1,rs⟩
 | bor es=>cases q
 | vw es=>cases q;exact r
 | obj o=>cases q
 | vwt ks ds=>cases q
 | bt ds=>cases q
end
end L3

namespace L3
open PySem PySem.Spec PyProof.Rows L2
abbrev FE:=En->Option Ent
abbrev FT:=En->Option Bool
abbrev FA:=En->Option (List Ent)
inductive RepRs(K:ak)(H0 F H:Hp):List V->List Ent->Prop
 | nil:RepRs K H0 F H [] []
 | cons {v:V} {e:Ent} {vs:List V} {es:List Ent}:RepR K H0 F H v e->RepRs K H0 F H vs es->RepRs K H0 F H (v :: vs) (e :: es)
section
variable {K:ak}{B:Bd}{F H F' H' F2 H2 H0:Hp}
theorem RepRs.earlier(s:Same H0 H):∀ {vs:List V} {es:List Ent},RepRs K H F' H' vs es->RepRs K H0 F' H' vs es
 | _,_,.nil=>.nil
 | _,_,.cons r t=>.cons (r.earlier s) (RepRs.earlier s t)
theorem RepRs.length:∀ {vs:List V} {es:List Ent},RepRs K H0 F H vs es->vs.length=es.length
 | _,_,.nil=>rfl
 | _,_,.cons _ t=>by rw[aL,aL,RepRs.length t]
def zc8:List Ent->Option (List D)
 | []=>ae []
 | e :: es=>(asV e).bind fun d=>(zc8 es).map fun ds=>d :: ds
theorem RepR.frz{v:V}{e:Ent}{d:D}(x:Ex F H F' H')(s:Same F2 F')(r:RepR K H F2 H' v e)(q:asV e=ae d):∃ F3,Ex F H F3 H'/\Same F' F3/\Rep F3 v d:=by
 cases e with
 | val d'=>cases q;exact⟨F',x,Same.refl _,Rep.mono s r⟩
 | own ds=>
  cases q
  obtain⟨l,vs,e,h0,h1,rs,h2⟩:=r
  subst e
  cases z:F' l with
  | none=>exact⟨upd F' l (.lst vs),x.freeze h0 h1 z,Same.alloc z,.lst zai (rs.mono (s.trans (Same.alloc z)))⟩
  | some o=>
   have:=x.fh _ _ z
   rw[h1] at this
   cases this
   exact⟨F',x,Same.refl _,.lst z (rs.mono s)⟩
 | _=>cases q
theorem RepRs.frz:∀ {vs:List V} {es:List Ent} {ds:List D} {F':Hp},Ex F H F' H'->Same F2 F'->RepRs K H F2 H' vs es->zc8 es=ae ds->∃ F3,Ex F H F3 H'/\Same F' F3/\Reps F3 vs ds
 | _,_,_,F',x,_,.nil,q=>by cases q;exact⟨F',x,Same.refl _,.nil⟩
 | _,e :: es,ds,F',x,s,.cons r t,q=>by
  simp only[zc8] at q
  cases h1:asV e with
  | none=>rw[h1] at q;cases q
  | some d=>
   cases h2:zc8 es with
   | none=>rw[h1,h2] at q;cases q
   | some ds'=>
    rw[h1,h2] at q
    cases q
    obtain⟨F3,x3,s3,r3⟩:=r.frz x s h1
    obtain⟨F4,x4,s4,r4⟩:=RepRs.frz x3 (s.trans s3) t h2
    exact⟨F4,x4,s3.trans s4,.cons (Rep.mono s4 r3) r4⟩
end
def SemE(K:ak)(t:TE)(f:FE):Prop:=∀ (B:Bd) (F H:Hp) (σ:Sg) (δ:En) (r:Ent) (Q:VK),RS K B F H σ δ->f δ=ae r->(∀ v F' H',Ex F H F' H'->RepR K H F' H' v r->Q v H')->t σ H Q
def SemT(K:ak)(t:TT)(f:FT):Prop:=∀ (B:Bd) (F H:Hp) (σ:Sg) (δ:En) (b:Bool) (Q:Bool->Hp->Prop),RS K B F H σ δ->f δ=ae b->(∀ F' H',Ex F H F' H'->Q b H')->t σ H Q
def SemA(K:ak)(t:TA)(f:FA):Prop:=∀ (B:Bd) (F H:Hp) (σ:Sg) (δ:En) (rs:List Ent) (Q:List V->Hp->Prop),RS K B F H σ δ->f δ=ae rs->(∀ vs F' H',Ex F H F' H'->RepRs K H F' H' vs rs->Q vs H')->t σ H Q
structure VE(X:Cx)(e:Expr)(f:FE):Prop where
 h:∃ t,WE X e t/\SemE X.K t f
structure VT(X:Cx)(e:Expr)(f:FT):Prop where
 h:∃ t,WT X e t/\SemT X.K t f
structure VW(X:Cx)(e:Expr)(f:FT):Prop where
 h:∃ t,WW X e t/\SemT X.K t f
structure VA(X:Cx)(es:List Expr)(f:FA):Prop where
 h:∃ t,WA X es t/\SemA X.K t f
structure VTs(X:Cx)(es:List Expr)(f:FT):Prop where
 h:∃ t,WTs X es t/\SemT X.K t f
def zab(i:Nat):FE:=fun δ=>match δ[i]? with
 | some (ae (.own ds))=>ae (.vw ds)
 | some (ae (.obj _))=>af
 | some (ae e)=>ae e
 | _=>af
def eC(d:D):FE:=fun _=>ae (.val d)
def ex1(g:Ent->Option Ent)(fa:FE):FE:=fun δ=>(fa δ).bind g
def ex2(g:Ent->Ent->Option Ent)(fa fb:FE):FE:=fun δ=>(fa δ).bind fun x=>(fb δ).bind fun y=>g x y
def bOf:Ent->Option Bool
 | .val (.bl b)=>ae b
 | _=>af
def eAnd(fa fb:FE):FE:=fun δ=>((fa δ).bind bOf).bind fun b=>if b=true then fb δ else ae (.val (.bl false))
def gNot:Ent->Option Ent:=fun e=>(bOf e).map fun b=>.val (.bl (!b))
def tOf(fe:FE):FT:=fun δ=>(fe δ).bind bOf
def zfB(ft fu:FT):FT:=fun δ=>(ft δ).bind fun b=>if b=true then fu δ else ae false
def fOr(ft fu:FT):FT:=fun δ=>(ft δ).bind fun b=>if b=true then ae true else fu δ
def zi7(ft:FT):FT:=fun δ=>(ft δ).map fun b=>!b
def zb3:FT:=fun _=>ae true
def eIf(ft:FT)(fa fb:FE):FE:=fun δ=>(ft δ).bind fun b=>if b=true then fa δ else fb δ
def zae:FA:=fun _=>ae []
def zaa(fe:FE)(fa:FA):FA:=fun δ=>(fe δ).bind fun x=>(fa δ).map fun xs=>x :: xs
def zhx(fa:FA):FE:=fun δ=>(fa δ).bind fun rs=>if rs.length<=1000 then (zc8 rs).map fun ds=>.val (.tup ds) else af
def zdC(fa:FA):FE:=fun δ=>(fa δ).bind fun rs=>if rs.length<=1000 then (zc8 rs).map fun ds=>.own ds else af
def SemR1(K:ak)(r:V->Hp->VK->Prop)(g:Ent->Option Ent):Prop:=∀ (H0 F H:Hp) (x:V) (e res:Ent) (Q:VK),Same F H->Same H0 H->RepR K H0 F H x e->g e=ae res ->
 (∀ v F' H',Ex F H F' H'->RepR K H0 F' H' v res->Q v H')->r x H Q
def zi6(K:ak)(r:R2)(g:Ent->Ent->Option Ent):Prop:=∀ (H0 F H:Hp) (x y:V) (e e' res:Ent) (Q:VK),Same F H->Same H0 H->RepR K H0 F H x e->RepR K H0 F H y e'->g e e'=ae res ->
 (∀ v F' H',Ex F H F' H'->RepR K H0 F' H' v res->Q v H')->r x y H Q
def SemC(K:ak)(r:List V->Hp->VK->Prop)(g:List Ent->Option Ent):Prop:=∀ (H0 F H:Hp) (vs:List V) (es:List Ent) (res:Ent) (Q:VK),Same F H->Same H0 H->RepRs K H0 F H vs es->g es=ae res ->
 (∀ v F' H',Ex F H F' H'->RepR K H0 F' H' v res->Q v H')->r vs H Q
theorem bind_some{α β:Type}{o:Option α}{f:α->Option β}{b:β}(h:o.bind f=ae b):∃ a,o=ae a/\f a=ae b:=by
 cases o with
 | none=>cases h
 | some a=>exact⟨a,rfl,h⟩
theorem map_some{α β:Type}{o:Option α}{f:α->β}{b:β}(h:o.map f=ae b):∃ a,o=ae a/\f a=b:=by
 cases o with
 | none=>cases h
 | some a=>exact⟨a,rfl,bc h⟩
noncomputable def gif{α:Type}(c:Prop)(a:Option α):Option α:=@ite _ c (j2 c) a af
theorem zaf{α:Type}(a:Option α):gif True a=a:=by unfold gif;exact if_pos trivial
theorem zf3{α:Type}{c:Prop}{a:Option α}(h:c):gif c a=a:=by unfold gif;exact if_pos h
theorem zbp{α:Type}{c:Prop}{o:Option α}{b:α}(h:gif c o=ae b):c/\o=ae b:=by
 unfold gif at h
 by_cases hc:c
 ·rw[if_pos hc] at h;exact⟨hc,h⟩
 ·rw[if_neg hc] at h;cases h
def sz(n:Nat):Prop:=n<=1000000
theorem zaO{n:Nat}(h:n<=1000000):sz n=True:=eq_true h
def OpD(X:Cx)(f:ag->ag->Sem ag)(g:Ent->Ent->Option Ent):Prop:=∃ r,OpR X f r/\zi6 X.K r g
def UnD(X:Cx)(f:ag->Sem ag)(g:Ent->Option Ent):Prop:=∃ r,UnR X f r/\SemR1 X.K r g
def zjo(X:Cx)(f:ag)(g:List Ent->Option Ent):Prop:=∃ r,zgn X f r/\SemC X.K r g
def IxD(X:Cx)(g:Ent->Ent->Option Ent):Prop:=∃ r,IxR X r/\zi6 X.K r g
theorem zhd{e:Ent}{b:Bool}(h:bOf e=ae b):e=.val (.bl b):=by
 cases e with
 | val d=>cases d <;> first | (cases h;rfl) | (cases h)
 | _=>cases h
theorem ziv{F:Hp}{v:V}{b:Bool}(h:Rep F v (.bl b)):v=.bl b:=by cases h;rfl
theorem zcg{F:Hp}{v:V}{i:Int}(h:Rep F v (.int i)):v=.int i:=by cases h;rfl
theorem zb4{F:Hp}{v:V}{i:Str}(h:Rep F v (.str i)):v=.str i:=by cases h;rfl
theorem zgW{F:Hp}{v:V}(h:Rep F v .non):v=.non:=by cases h;rfl
section
variable {X:Cx}{a b c e:Expr}{es rest:List Expr}{pos p:Pos}{fa fb fc:FE}{ft fu:FT}{fs:FA}{x:Str}
theorem vv(i:Nat)(hN:X.N[i]? = ae x:=by rfl)(hv:Vis X.env.scope x:=by first | exact aE rfl | exact bd (aE rfl) | exact bd (bd rfl))(hd:(x == ("__debug__" : Str))=false:=by decide)
  (hcd:(x == ("__classdict__" : Str))=false:=by decide):VE X (.Name x pos) (zab i):=by
 refine⟨_,wv i hN hv hd hcd,fun B F H σ δ r Q s q k=>?_⟩
 unfold zab at q
 split at q
 ·rename_i ds e
  cases q
  obtain⟨v,h1,l,vs,e,h2,h3,_⟩:=s.ent i _ e
  exact⟨v,h1,k v F H (Ex.refl s.fh) ⟨l,vs,e,h2,h3⟩⟩
 ·cases q
 ·rename_i ee hne hno e
  cases q
  obtain⟨v,h1,h2⟩:=s.ent i _ e
  refine⟨v,h1,k v F H (Ex.refl s.fh) ?_⟩
  cases r with
  | val d=>exact h2
  | own ds=>exact(hne ds rfl).elim
  | bor ds=>obtain⟨l,vs,e,h,rs⟩:=h2;exact⟨l,vs,e,s.bh.seq h,rs⟩
  | vw ds=>exact h2
  | obj o=>exact(hno o rfl).elim
  | vwt ks ds=>exact h2
  | bt ds=>obtain⟨l,vs,e,h,rs⟩:=h2;exact⟨l,vs,e,s.bh.seqT h,rs⟩
 ·cases q
theorem SemE.cst{K:ak}{v:V}{d:D}(h:∀ F,Rep F v d):SemE K (tC v) (eC d):=fun B F H σ δ r Q s q k=>by
 cases q
 exact k v F H (Ex.refl s.fh) (h F)
theorem zax{i:Int}{j:Nat}:VE X (.Constant (.int i) j pos) (eC (.int i)):=⟨_,wint,.cst fun _=>.int i⟩
theorem vbl{i:Bool}{j:Nat}:VE X (.Constant (.bool i) j pos) (eC (.bl i)):=⟨_,wbl,.cst fun _=>.bl i⟩
theorem zjd{j:Nat}:VE X (.Constant .none j pos) (eC .non):=⟨_,wnon,.cst fun _=>.non⟩
theorem vstr{i:Str}{j:Nat}:VE X (.Constant (.str i) j pos) (eC (.str i)):=⟨_,wstr,.cst fun _=>.str i⟩
theorem vglI{i:Int}(hg:Gl X x)(h:∃ u,X.mg x=ae u/\RelV (.int i) u)(hd:(x == ("__debug__" : Str))=false:=by decide):VE X (.Name x pos) (eC (.int i)):=⟨_,wgl hg h hd,.cst fun _=>.int i⟩
theorem vglS{i:Str}(hg:Gl X x)(h:∃ u,X.mg x=ae u/\RelV (.str i) u)(hd:(x == ("__debug__" : Str))=false:=by decide):VE X (.Name x pos) (eC (.str i)):=⟨_,wgl hg h hd,.cst fun _=>.str i⟩
theorem SemE.op{K:ak}{r:R2}{ta tb:TE}{g:Ent->Ent->Option Ent}(hr:zi6 K r g)(ha:SemE K ta fa)(hb:SemE K tb fb):SemE K (tOp r ta tb) (ex2 g fa fb):=fun B F H σ δ res Q s q k=>by
 obtain⟨ex1,q1,q⟩:=bind_some q
 obtain⟨ex2,q2,q⟩:=bind_some q
 refine ha B F H σ δ ex1 _ s q1 fun v F1 H1 x1 r1=>?_
 refine hb B F1 H1 σ δ ex2 _ (s.ext x1) q2 fun w F2 H2 x2 r2=>?_
 exact hr H F2 H2 v w ex1 ex2 res Q x2.fh (x1.trans x2).hh (r1.ext x2) (r2.earlier x1.hh) q fun v' F' H' x3 r3=>k v' F' H' ((x1.trans x2).trans x3) r3
theorem vop{op:Operator}{g:Ent->Ent->Option Ent}(ho:OpD X (binaryOp op) g)(ha:VE X a fa)(hb:VE X b fb):VE X (.BinOp a op b pos) (ex2 g fa fb):=
 let⟨_,wa,sa⟩:=ha.h;let⟨_,wb,sb⟩:=hb.h;let⟨_,h1,h2⟩:=ho;⟨_,wop h1 wa wb,.op h2 sa sb⟩
theorem vcmp{op:CmpOp}{g:Ent->Ent->Option Ent}(ho:OpD X (bB op) g)(ha:VE X a fa)(hb:VE X b fb)(hm:behindInMarks op b=false):VE X (.Compare a [op] [b] pos) (ex2 g fa fb):=
 let⟨_,wa,sa⟩:=ha.h;let⟨_,wb,sb⟩:=hb.h;let⟨_,h1,h2⟩:=ho;⟨_,wcmp h1 wa wb hm,.op h2 sa sb⟩
theorem SemE.test{K:ak}{ta:TE}(ha:SemE K ta fa):SemT K (tB ta) (tOf fa):=fun B F H σ δ b Q s q k=>by
 obtain⟨e,q1,q⟩:=bind_some q
 cases zhd q
 refine ha B F H σ δ _ _ s q1 fun v F1 H1 x1 r1=>?_
 exact⟨b,ziv r1,k F1 H1 x1⟩
theorem tcm{op:CmpOp}{g:Ent->Ent->Option Ent}(ho:OpD X (bB op) g)(ha:VE X a fa)(hb:VE X b fb)(hm:behindInMarks op b=false):VT X (.Compare a [op] [b] pos) (tOf (ex2 g fa fb)):=
 let⟨_,wa,sa⟩:=ha.h;let⟨_,wb,sb⟩:=hb.h;let⟨_,h1,h2⟩:=ho;⟨_,tcmp h1 wa wb hm,SemE.test (.op h2 sa sb)⟩
theorem tva(h:VE X e fa)(he:∀ whole,isTrue e X.env whole=(do let v <- whole;standAt e.pos;holding [v] (truthy v)):=by intro _;rfl):VT X e (tOf fa):=
 let⟨_,wa,sa⟩:=h.h;⟨_,tval wa he,SemE.test sa⟩
theorem vun{op:UnaryOp}{g:Ent->Option Ent}(ho:UnD X (unaryOp op) g)(ha:VE X a fa):VE X (.UnaryOp op a pos) (ex1 g fa):=by
 obtain⟨ta,wa,sa⟩:=ha.h
 obtain⟨rr,ho1,ho2⟩:=ho
 refine⟨_,wun ho1 wa,fun B F H σ δ res Q s q k=>?_⟩
 obtain⟨ex1,q1,q⟩:=bind_some q
 exact sa B F H σ δ ex1 _ s q1 fun v F1 H1 x1 r1=>ho2 H F1 H1 v ex1 res Q x1.fh x1.hh r1 q fun v' F' H' x2 r2=>k v' F' H' (x1.trans x2) r2
theorem vone{op:BoolOp}(h:VE X a fa):VE X (.BoolOp op [a] pos) fa:=let⟨_,wa,sa⟩:=h.h;⟨_,wone wa,sa⟩
theorem vand(ha:VE X a fa)(hb:VE X (.BoolOp .And (b :: rest) pos) fb):VE X (.BoolOp .And (a :: b :: rest) pos) (eAnd fa fb):=by
 obtain⟨ta,wa,sa⟩:=ha.h
 obtain⟨tb,wb,sb⟩:=hb.h
 refine⟨_,wand wa wb,fun B F H σ δ res Q s q k=>?_⟩
 obtain⟨bb,q1,q⟩:=bind_some q
 obtain⟨eb,q1,q2⟩:=bind_some q1
 cases zhd q2
 refine sa B F H σ δ _ _ s q1 fun v F1 H1 x1 r1=>⟨bb,ziv r1,?_⟩
 cases bb with
 | true=>exact iteT (sb B F1 H1 σ δ res Q (s.ext x1) q fun v' F' H' x2 r2=>k v' F' H' (x1.trans x2) (r2.earlier x1.hh))
 | false=>cases q;exact iteF (k _ F1 H1 x1 (.bl false))
theorem vnot(ha:VE X a fa):VE X (.UnaryOp .Not a pos) (ex1 gNot fa):=by
 obtain⟨ta,wa,sa⟩:=ha.h
 refine⟨_,wnotV wa,fun B F H σ δ res Q s q k=>?_⟩
 obtain⟨ex1,q1,q⟩:=bind_some q
 obtain⟨bb,q2,q⟩:=map_some q
 cases zhd q2
 cases q
 exact sa B F H σ δ _ _ s q1 fun v F1 H1 x1 r1=>⟨bb,ziv r1,k _ F1 H1 x1 (.bl _)⟩
theorem tan1(ha:VT X a ft):VW X (.BoolOp .And [a] pos) ft:=let⟨_,wa,sa⟩:=ha.h;⟨_,tand1 wa,sa⟩
theorem zjg(ha:VT X a ft):VW X (.BoolOp .Or [a] pos) ft:=let⟨_,wa,sa⟩:=ha.h;⟨_,tor1 wa,sa⟩
theorem tan(ha:VT X a ft)(hb:VW X (.BoolOp .And (b :: rest) pos) fu):VW X (.BoolOp .And (a :: b :: rest) pos) (zfB ft fu):=by
 obtain⟨ta,wa,sa⟩:=ha.h
 obtain⟨tb,wb,sb⟩:=hb.h
 refine⟨_,tand wa wb,fun B F H σ δ res Q s q k=>?_⟩
 obtain⟨bb,q1,q⟩:=bind_some q
 refine sa B F H σ δ bb _ s q1 fun F1 H1 x1=>?_
 cases bb with
 | true=>exact iteT (sb B F1 H1 σ δ res Q (s.ext x1) q fun F' H' x2=>k F' H' (x1.trans x2))
 | false=>cases q;exact iteF (k F1 H1 x1)
theorem tor'(ha:VT X a ft)(hb:VW X (.BoolOp .Or (b :: rest) pos) fu):VW X (.BoolOp .Or (a :: b :: rest) pos) (fOr ft fu):=by
 obtain⟨ta,wa,sa⟩:=ha.h
 obtain⟨tb,wb,sb⟩:=hb.h
 refine⟨_,tor wa wb,fun B F H σ δ res Q s q k=>?_⟩
 obtain⟨bb,q1,q⟩:=bind_some q
 refine sa B F H σ δ bb _ s q1 fun F1 H1 x1=>?_
 cases bb with
 | false=>exact iteF (sb B F1 H1 σ δ res Q (s.ext x1) q fun F' H' x2=>k F' H' (x1.trans x2))
 | true=>cases q;exact iteT (k F1 H1 x1)
theorem tww(h:VW X a ft):VT X a ft:=let⟨_,wa,sa⟩:=h.h;⟨_,tw wa,sa⟩
theorem tnt(ha:VT X a ft):VT X (.UnaryOp .Not a pos) (zi7 ft):=by
 obtain⟨ta,wa,sa⟩:=ha.h
 refine⟨_,tnot wa,fun B F H σ δ res Q s q k=>?_⟩
 obtain⟨bb,q1,q⟩:=map_some q
 cases q
 exact sa B F H σ δ bb _ s q1 fun F1 H1 x1=>k F1 H1 x1
theorem vif(hc:VT X c ft)(ha:VE X a fa)(hb:VE X b fb):VE X (.IfExp c a b pos) (eIf ft fa fb):=by
 obtain⟨tc,wc,sc⟩:=hc.h
 obtain⟨ta,wa,sa⟩:=ha.h
 obtain⟨tb,wb,sb⟩:=hb.h
 refine⟨_,wif wc wa wb,fun B F H σ δ res Q s q k=>?_⟩
 obtain⟨bb,q1,q⟩:=bind_some q
 refine sc B F H σ δ bb _ s q1 fun F1 H1 x1=>?_
 cases bb with
 | true=>exact iteT (sa B F1 H1 σ δ res Q (s.ext x1) q fun v' F' H' x2 r2=>k v' F' H' (x1.trans x2) (r2.earlier x1.hh))
 | false=>exact iteF (sb B F1 H1 σ δ res Q (s.ext x1) q fun v' F' H' x2 r2=>k v' F' H' (x1.trans x2) (r2.earlier x1.hh))
theorem if0:VTs X [] zb3:=⟨_,ifs0,fun B F H σ δ b Q s q k=>by cases q;exact k F H (Ex.refl s.fh)⟩
theorem if1(h:VT X c ft):VTs X [c] ft:=let⟨_,wc,sc⟩:=h.h;⟨_,ifs1 wc,sc⟩
theorem zas:VA X [] zae:=⟨_,wnil,fun B F H σ δ rs Q s q k=>by cases q;exact k [] F H (Ex.refl s.fh) .nil⟩
theorem zac(ha:VE X e fa)(hr:VA X es fs)(h:zan e=true:=by rfl):VA X (e :: es) (zaa fa fs):=by
 obtain⟨ta,wa,sa⟩:=ha.h
 obtain⟨tb,wb,sb⟩:=hr.h
 refine⟨_,wac wa wb h,fun B F H σ δ rs Q s q k=>?_⟩
 obtain⟨ex1,q1,q⟩:=bind_some q
 obtain⟨es',q2,q⟩:=map_some q
 cases q
 refine sa B F H σ δ ex1 _ s q1 fun v F1 H1 x1 r1=>?_
 exact sb B F1 H1 σ δ es' _ (s.ext x1) q2 fun vs F2 H2 x2 r2=>k _ F2 H2 (x1.trans x2) (.cons (r1.ext x2) (r2.earlier x1.hh))
theorem ziY{n:Nat}(h:n<=1000):n<=ba:=d7 (zhz h)
theorem vtup{x1:Nat}(h:VA X es fs):VE X (.Tuple es x1 pos) (zhx fs):=by
 obtain⟨t,w,sm⟩:=h.h
 refine⟨_,wtup w,fun B F H σ δ res Q s q k=>?_⟩
 obtain⟨rs,q1,q⟩:=bind_some q
 split at q
 ·rename_i hl
  obtain⟨ds,q2,q⟩:=map_some q
  cases q
  refine sm B F H σ δ rs _ s q1 fun vs F1 H1 x1 r1=>⟨by rw[r1.length];exact ziY hl,fun p hp=>?_⟩
  obtain⟨F2,x2,_,r2⟩:=RepRs.frz x1 (Same.refl _) r1 q2
  exact k _ _ _ (x2.trans (Ex.alloc x2.fh hp)) (.tup zai (r2.mono (Same.alloc (x2.fh.free hp))))
 ·cases q
theorem zgD(h:VA X es fs):VE X (.List es pos) (zdC fs):=by
 obtain⟨t,w,sm⟩:=h.h
 refine⟨_,wlst w,fun B F H σ δ res Q s q k=>?_⟩
 obtain⟨rs,q1,q⟩:=bind_some q
 split at q
 ·rename_i hl
  obtain⟨ds,q2,q⟩:=map_some q
  cases q
  refine sm B F H σ δ rs _ s q1 fun vs F1 H1 x1 r1=>⟨by rw[r1.length];exact ziY hl,fun p hp=>?_⟩
  obtain⟨F2,x2,_,r2⟩:=RepRs.frz x1 (Same.refl _) r1 q2
  exact k _ _ _ (x2.trans (Ex.lay x2.fh hp)) ⟨p,vs,rfl,x2.hh.free hp,zai,r2,x2.fh.free hp⟩
 ·cases q
theorem vix{g:Ent->Ent->Option Ent}(hr:IxD X g)(ha:VE X a fa)(hb:VE X b fb)(hs:zh3 b):VE X (.Subscript a b pos) (ex2 g fa fb):=
 let⟨_,wa,sa⟩:=ha.h;let⟨_,wb,sb⟩:=hb.h;let⟨_,h1,h2⟩:=hr;⟨_,wix h1 wa wb hs,.op h2 sa sb⟩
def eCB(g:List Ent->Option Ent)(fs:FA):FE:=fun δ=>(fs δ).bind g
theorem SemE.cb{K:ak}{t:TA}{q:List V->Hp->VK->Prop}{g:List Ent->Option Ent}(hc:SemC K q g)(ha:SemA K t fs):SemE K (tCB q t) (eCB g fs):=fun B F H σ δ res Q s q k=>by
 obtain⟨rs,q1,q⟩:=bind_some q
 exact ha B F H σ δ rs _ s q1 fun vs F1 H1 x1 r1=>hc H F1 H1 vs rs res Q x1.fh x1.hh r1 q fun v' F' H' x2 r2=>k v' F' H' (x1.trans x2) r2
theorem vcb{id:String}{g:List Ent->Option Ent}(hc:zjo X (.builtin id) g)(hg:Gl X x)(hm:X.mg x=af)(hv:aZ x=ae (.builtin id))(ha:VA X (e :: es) fs)(hn:x ≠ "__name__" :=by decide)(hdb:(x == ("__debug__" : Str))=false:=by decide)
  (h1:zan e=true:=by rfl) (h2:es.all zan=true:=by rfl):VE X (.Call (.Name x p) (e :: es) [] pos) (eCB g fs):=
 let⟨_,wa,sa⟩:=ha.h;let⟨_,h3,h4⟩:=hc;⟨_,wcb h3 hg hm hv wa hn hdb h1 h2,.cb h4 sa⟩
theorem vct{T:String}{g:List Ent->Option Ent}(hc:zjo X (.type T) g)(hg:Gl X x)(hm:X.mg x=af)(hv:aZ x=ae (.type T))(ha:VA X (e :: es) fs)(hn:x ≠ "__name__" :=by decide)(hdb:(x == ("__debug__" : Str))=false:=by decide)
  (h1:zan e=true:=by rfl) (h2:es.all zan=true:=by rfl):VE X (.Call (.Name x p) (e :: es) [] pos) (eCB g fs):=
 let⟨_,wa,sa⟩:=ha.h;let⟨_,h3,h4⟩:=hc;⟨_,wct h3 hg hm hv wa hn hdb h1 h2,.cb h4 sa⟩
end
end L3

namespace L3
open PySem PySem.Spec PyProof.Rows L2
inductive Out where
 | nx (δ:En) | rt (r:Ent) (δ:En) | bk (δ:En) | ct (δ:En)
abbrev FS:=En->Option Out
structure FX(B F F':Hp):Prop where
 ff:Same F F'
 nw:∀ a o,B a=ae o->isT o=false->F' a=F a
section
variable {K:ak}{B:Bd}{F H F' H' F2 H2 H0:Hp}{σ:Sg}{δ:En}{v:V}{d:D}{e:Ent}{l:ai}{vs:List V}{ds:List D}{DD:Ends}{out:Out}
theorem FX.refl:FX B F F:=⟨Same.refl F,fun _ _ _ _=>rfl⟩
theorem FX.trans(a:FX B F F')(b:FX B F' F2):FX B F F2:=⟨a.ff.trans b.ff,fun x o e t=>(b.nw x o e t).trans (a.nw x o e t)⟩
theorem FX.of(x:Ex F H F' H')(s:Same B H):FX B F F':=⟨x.ff,fun a o e t=>x.nw a o (s _ _ e) t⟩
def EndOk(K:ak)(B:Bd)(F:Hp)(DD:Ends):Out->Prop
 | .nx δ'=>∀ σ' F' H',RS K B F' H' σ' δ'->FX B F F'->DD.nx σ' H'
 | .rt r δ'=>∀ v σ' F' H',RS K B F' H' σ' δ'->FX B F F'->RepR K B F' H' v r->DD.rt v H'
 | .bk δ'=>∀ σ' F' H',RS K B F' H' σ' δ'->FX B F F'->DD.bk σ' H'
 | .ct δ'=>∀ σ' F' H',RS K B F' H' σ' δ'->FX B F F'->DD.ct σ' H'
theorem EndOk.mono(h:EndOk K B F DD out)(x:FX B F F'):EndOk K B F' DD out:=by
 cases out with
 | nx δ'=>exact fun σ' F2 H2 s y=>h σ' F2 H2 s (x.trans y)
 | rt r δ'=>exact fun v σ' F2 H2 s y z=>h v σ' F2 H2 s (x.trans y) z
 | bk δ'=>exact fun σ' F2 H2 s y=>h σ' F2 H2 s (x.trans y)
 | ct δ'=>exact fun σ' F2 H2 s y=>h σ' F2 H2 s (x.trans y)
theorem RS.put(s:RS K B F H σ δ)(i:Nat)(r:RepN K B F H v e)(hne:e.lk=true->∀ j e',j ≠ i->δ[j]? = ae (ae e')->e'.lk=true->∀ l,v=.ref l->σ[j]? ≠ ae (ae (.ref l)))
  (hpn:e.isO=true->0<i \/ (∀ p,B.pin ≠ ae p) \/ B.pin=ae v) (hno:∀ j e' w a,j ≠ i->δ[j]? = ae (ae e')->σ[j]? = ae (ae w)->(e.isO=true \/ e'.isO=true)->Occ K F H v e a->Occ K F H w e' a->False) :
  RS K B F H (σ.set i (ae v)) (δ.set i (ae e)):=by
 have hl:=s.len
 refine⟨s.fh,s.bh,by simp[hl],fun j e' h=>?_,fun a b l ds e' hab h1 h2 h3 h4 h5=>?_,fun a b e1 e2 v1 v2 ad hab h1 h2 h3 h4 h5 h6 h7=>?_,fun w o hw ho=>?_⟩
 ·rw[bf] at h ⊢
  by_cases hij:i=j
  ·subst hij
   rw[if_pos rfl] at h ⊢
   by_cases hi:i<δ.length
   ·rw[if_pos hi] at h
    cases h
    exact⟨v,by rw[if_pos (by lia)],r⟩
   ·rw[if_neg hi] at h;cases h
  ·rw[if_neg hij] at h ⊢
   exact s.ent j e' h
 ·rw[bf] at h1 h2 h3 h5
  by_cases hia:i=a
  ·subst hia
   rw[if_pos rfl] at h1 h2
   rw[if_neg hab] at h3 h5
   by_cases hi:i<δ.length
   ·rw[if_pos hi] at h1
    rw[if_pos (by lia)] at h2
    cases h1
    cases h2
    exact hne rfl b e' (cr hab) h3 h4 l rfl h5
   ·rw[if_neg hi] at h1;cases h1
  ·rw[if_neg hia] at h1 h2
   by_cases hib:i=b
   ·subst hib
    rw[if_pos rfl] at h3 h5
    by_cases hi:i<δ.length
    ·rw[if_pos hi] at h3
     rw[if_pos (by lia)] at h5
     cases h3
     cases h5
     exact hne h4 a _ hab h1 rfl l rfl h2
    ·rw[if_neg hi] at h3;cases h3
   ·rw[if_neg hib] at h3 h5
    exact s.ap a b l ds e' hab h1 h2 h3 h4 h5
 ·rw[bf] at h1 h2 h3 h4
  by_cases hia:i=a
  ·subst hia
   rw[if_pos rfl] at h1 h2
   rw[if_neg hab] at h3 h4
   by_cases hi:i<δ.length
   ·rw[if_pos hi] at h1
    rw[if_pos (by lia)] at h2
    cases h1
    cases h2
    exact hno b _ _ ad (cr hab) h3 h4 (.inl h5) h6 h7
   ·rw[if_neg hi] at h1;cases h1
  ·rw[if_neg hia] at h1 h2
   by_cases hib:i=b
   ·subst hib
    rw[if_pos rfl] at h3 h4
    by_cases hi:i<δ.length
    ·rw[if_pos hi] at h3
     rw[if_pos (by lia)] at h4
     cases h3
     cases h4
     exact hno a _ _ ad hab h1 h2 (.inr h5) h7 h6
    ·rw[if_neg hi] at h3;cases h3
   ·rw[if_neg hib] at h3 h4
    exact s.ao a b e1 e2 v1 v2 ad hab h1 h2 h3 h4 h5 h6 h7
 ·rw[bf] at ho ⊢
  by_cases hi:i=0
  ·subst hi
   rw[if_pos rfl] at ho ⊢
   split at ho
   ·cases ho
    rw[if_pos (by lia)]
    rcases hpn rfl with z | z | z
    ·lia
    ·exact absurd hw (z w)
    ·rw[hw] at z;exact congrArg (fun x=>ae x) z.symm
   ·cases ho
  ·rw[if_neg hi] at ho ⊢
   exact s.pn w o hw ho
theorem RS.putV(s:RS K B F H σ δ)(i:Nat)(r:Rep F v d):RS K B F H (σ.set i (ae v)) (δ.set i (ae (.val d))):=s.put i r (fun h=>by cases h) (fun h=>by cases h) fun _ _ _ _ _ _ _ _ h _=>h
theorem RS.drop(s:RS K B F H σ δ)(i:Nat):RS K B F H σ (δ.set i af):=by
 refine⟨s.fh,s.bh,by simp[s.len],fun j e h=>?_,fun a b l ds e hab h1 h2 h3 h4=>?_,fun a b e1 e2 v1 v2 ad hab h1 h2 h3 h4 h5 h6 h7=>?_,fun w o hw ho=>?_⟩
 ·rw[bf] at h
  split at h
  ·split at h <;> cases h
  ·exact s.ent j e h
 ·rw[bf] at h1 h3
  split at h1
  ·split at h1 <;> cases h1
  ·split at h3
   ·split at h3 <;> cases h3
   ·exact s.ap a b l ds e hab h1 h2 h3 h4
 ·rw[bf] at h1 h3
  split at h1
  ·split at h1 <;> cases h1
  ·split at h3
   ·split at h3 <;> cases h3
   ·exact s.ao a b e1 e2 v1 v2 ad hab h1 h2 h3 h4 h5 h6 h7
 ·rw[bf] at ho
  split at ho
  ·split at ho <;> cases ho
  ·exact s.pn w o hw ho
theorem RS.lies{i:Nat}(s:RS K B F H σ δ)(h:δ[i]? = ae (ae e))(k:e.lk=true)(q:σ[i]? = ae (ae (.ref l))):∃ o,H l=ae o:=by
 obtain⟨v,h1,h2⟩:=s.ent i e h
 rw[q] at h1
 cases h1
 cases e with
 | own ds=>obtain⟨l',vs,e,h3,_⟩:=h2;cases e;exact⟨_,h3⟩
 | vw ds=>obtain⟨l',vs,e,h3,_⟩:=h2;cases e;exact⟨_,h3⟩
 | _=>cases k
def toN:Ent->Option Ent
 | .val d=>ae (.val d)
 | .own ds=>ae (.own ds)
 | _=>af
theorem RS.putR{e':Ent}(s:RS K B F H σ δ)(x:Ex F H F' H')(i:Nat)(r:RepR K H F' H' v e)(q:toN e=ae e'):RS K B F' H' (σ.set i (ae v)) (δ.set i (ae e')):=by
 cases e with
 | val d=>cases q;exact(s.ext x).putV i r
 | own ds=>
  cases q
  obtain⟨l,vs,e,h0,h1,rs,h2⟩:=r
  refine(s.ext x).put i ⟨l,vs,e,h1,rs,h2,s.bh.free h0⟩ (fun _ j e' _ h3 h4 l' ex2 h5=>?_) (fun z=>by cases z) fun j e' w a _ h3 h4 _ h5 h6=>?_
  ·rw[e] at ex2
   cases ex2
   obtain⟨o,h6⟩:=s.lies h3 h4 h5
   rw[h0] at h6
   cases h6
  ·obtain⟨u,h7⟩:=s.occ h3 h4 (h6.backX (s.at h3 h4) x)
   rw[e] at h5
   cases (show V.ref l=.ref a from h5)
   rw[h0] at h7
   cases h7
 | _=>cases q
theorem RS.putO{o:OT}(s:RS K B F H σ δ)(x:Ex F H F' H')(i:Nat)(h0:0<i)(r:RepR K H F' H' v (.obj o)):RS K B F' H' (σ.set i (ae v)) (δ.set i (ae (.obj o))):=by
 obtain⟨_,A,t,n,h⟩:=r
 refine(s.ext x).put i ⟨A,t,n,fun a ha=>⟨(h a ha).1,s.bh.free (h a ha).2⟩⟩ (fun z=>by cases z) (fun _=>.inl h0) fun j e' w a _ h3 h4 _ h5 h6=>?_
 obtain⟨u,h7⟩:=s.occ h3 h4 (h6.backX (s.at h3 h4) x)
 obtain⟨A',t',h5⟩:=h5
 rw[t'.det t] at h5
 rw[(h a h5).2] at h7
 cases h7
theorem RS.mut{i:Nat}{ds':List D}{vs':List V}(s:RS K B F H σ δ)(hi:δ[i]? = ae (ae (.own ds)))(hs:σ[i]? = ae (ae (.ref l)))(r:Reps F vs' ds'):RS K B F (upd H l (.lst vs')) σ (δ.set i (ae (.own ds'))):=by
 obtain⟨v,h1,l',vs,e,h2,h3,h4,h5⟩:=s.ent i _ hi
 rw[hs] at h1
 cases h1
 cases e
 have mv:∀ (j:Nat) (w:V) (o:OT) (A:List ai),i ≠ j->δ[j]? = ae (ae (.obj o))->σ[j]? = ae (ae w)->TR K F H w o A->TR K F (upd H l (.lst vs')) w o A:=fun j w o A hij q q' t=>
  t.move (Same.refl F) fun a ha=>zaj fun z=>by subst z;exact s.ao j i _ _ _ _ a (cr hij) q q' hi hs rfl ⟨A,t,ha⟩ rfl
 have mt:∀ (w:V) (ks:List (List KN)) (es:List D) (A:List ai),TR K F H w (.dcT ks es) A->TR K F (upd H l (.lst vs')) w (.dcT ks es) A:=fun w ks es A t=>t.move (Same.refl F) fun a ha=>zaj fun z=>by
  subst z
  cases t with
  | dcT e _ _ _=>
   cases bL.mp ha
   rw[h2] at e
   cases e
 refine⟨fun b o q=>?_,fun b o q=>?_,by simp[s.len],fun j e q=>?_,fun a b l2 es e' hab q1 q2 q3 q4=>?_,fun a b e1 e2 v1 v2 ad hab q1 q2 q3 q4 q5 q6 q7=>?_,fun w o hw ho=>?_⟩
 ·rw[zaj (zaA q h4)];exact s.fh b o q
 ·rw[zaj (zaA q h5)];exact s.bh b o q
 ·rw[bf] at q
  by_cases hij:i=j
  ·subst hij
   rw[if_pos rfl] at q
   split at q
   ·cases q;exact⟨_,hs,l,vs',rfl,zai,r,h4,h5⟩
   ·cases q
  ·rw[if_neg hij] at q
   obtain⟨w,p1,p2⟩:=s.ent j e q
   refine⟨w,p1,?_⟩
   cases e with
   | val d=>exact p2
   | bor ds=>exact p2
   | own es=>
    obtain⟨l2,ws,ex2,p3,p4⟩:=p2
    refine⟨l2,ws,ex2,?_,p4⟩
    rw[zaj (fun z=>s.ap i j l ds _ hij hi hs q rfl (by rw[p1,ex2,z]))]
    exact p3
   | vw es=>
    obtain⟨l2,ws,ex2,p3,p4⟩:=p2
    refine⟨l2,ws,ex2,?_,p4⟩
    rw[zaj (fun z=>s.ap i j l ds _ hij hi hs q rfl (by rw[p1,ex2,z]))]
    exact p3
   | obj o=>
    obtain⟨A,t,n,h⟩:=p2
    exact⟨A,mv j w o A hij q p1 t,n,h⟩
   | vwt ks es=>obtain⟨A,t⟩:=p2;exact⟨A,mt w ks es A t⟩
   | bt ds=>exact p2
 ·rw[bf] at q1 q3
  by_cases hia:i=a
  ·subst hia
   rw[if_neg hab] at q3
   exact s.ap i b l2 ds e' hab hi q2 q3 q4
  ·rw[if_neg hia] at q1
   by_cases hib:i=b
   ·subst hib
    exact s.ap a i l2 es _ hab q1 q2 hi rfl
   ·rw[if_neg hib] at q3
    exact s.ap a b l2 es e' hab q1 q2 q3 q4
 ·rw[bf] at q1 q3
  have bk:∀ (j:Nat) (e:Ent) (w:V),i ≠ j->δ[j]? = ae (ae e)->σ[j]? = ae (ae w)->Occ K F (upd H l (.lst vs')) w e ad->Occ K F H w e ad:=fun j e w hij z1 z2 z3=>z3.back (s.at z1 z2) fun o A he t=>by
   rcases he with he | ⟨ks,es,he,ho⟩
   ·subst he;exact mv j w o A hij z1 z2 t
   ·subst ho;exact mt w ks es A t
  by_cases hia:i=a
  ·subst hia
   rw[if_pos rfl] at q1
   split at q1
   ·cases q1;cases q5
   ·cases q1
  ·rw[if_neg hia] at q1
   by_cases hib:i=b
   ·subst hib
    rw[if_pos rfl] at q3
    split at q3
    ·cases q3
     rw[hs] at q4
     cases q4
     exact s.ao a i e1 _ v1 _ ad hab q1 q2 hi hs q5 (bk a e1 v1 hia q1 q2 q6) q7
    ·cases q3
   ·rw[if_neg hib] at q3
    exact s.ao a b e1 e2 v1 v2 ad hab q1 q2 q3 q4 q5 (bk a e1 v1 hia q1 q2 q6) (bk b e2 v2 hib q3 q4 q7)
 ·rw[bf] at ho
  split at ho
  ·split at ho <;> cases ho
  ·exact s.pn w o hw ho
theorem RS.frz{i:Nat}(s:RS K B F H σ δ)(hi:δ[i]? = ae (ae (.own ds))):∃ F',FX B F F'/\RS K B F' H σ (δ.set i (ae (.val (.lst ds)))):=by
 obtain⟨v,h1,l,vs,e,h2,h3,h4,h5⟩:=s.ent i _ hi
 subst e
 refine⟨upd F l (.lst vs),⟨Same.alloc h4,fun a o e _=>zaj (zaA e h5)⟩,?_⟩
 have sm:Same F (upd F l (.lst vs)):=Same.alloc h4
 refine⟨fun b o q=>?_,s.bh,by simp[s.len],fun j e q=>?_,fun a b l2 es e' hab q1 q2 q3 q4=>?_,fun a b e1 e2 v1 v2 ad hab q1 q2 q3 q4 q5 q6 q7=>?_,fun w o hw ho=>?_⟩
 ·by_cases hb:b=l
  ·subst hb;rw[zai] at q;cases q;exact h2
  ·rw[zaj hb] at q;exact s.fh b o q
 ·rw[bf] at q
  by_cases hij:i=j
  ·subst hij
   rw[if_pos rfl] at q
   split at q
   ·cases q;exact⟨_,h1,.lst zai (h3.mono sm)⟩
   ·cases q
  ·rw[if_neg hij] at q
   obtain⟨w,p1,p2⟩:=s.ent j e q
   refine⟨w,p1,?_⟩
   cases e with
   | val d=>exact Rep.mono sm p2
   | bor es=>obtain⟨l2,ws,ex2,p3,p4⟩:=p2;exact⟨l2,ws,ex2,p3,p4.mono sm⟩
   | own es=>
    obtain⟨l2,ws,ex2,p3,p4,p5,p6⟩:=p2
    refine⟨l2,ws,ex2,p3,p4.mono sm,?_,p6⟩
    rw[zaj (fun z=>s.ap i j l ds _ hij hi h1 q rfl (by rw[p1,ex2,z]))]
    exact p5
   | vw es=>obtain⟨l2,ws,ex2,p3,p4⟩:=p2;exact⟨l2,ws,ex2,p3,p4.mono sm⟩
   | obj o=>
    obtain⟨A,t,n,h⟩:=p2
    refine⟨A,t.move sm fun _ _=>rfl,n,fun a ha=>⟨?_,(h a ha).2⟩⟩
    rw[zaj (fun z=>by subst z;exact s.ao j i _ _ _ _ a (cr hij) q p1 hi h1 rfl ⟨A,t,ha⟩ rfl)]
    exact(h a ha).1
   | vwt ks es=>obtain⟨A,t⟩:=p2;exact⟨A,t.move sm fun _ _=>rfl⟩
   | bt es=>obtain⟨l2,ws,ex2,p3,p4⟩:=p2;exact⟨l2,ws,ex2,p3,p4.mono sm⟩
 ·rw[bf] at q1 q3
  by_cases hia:i=a
  ·subst hia
   rw[if_pos rfl] at q1
   split at q1 <;> cases q1
  ·rw[if_neg hia] at q1
   by_cases hib:i=b
   ·subst hib
    rw[if_pos rfl] at q3
    split at q3
    ·cases q3;cases q4
    ·cases q3
   ·rw[if_neg hib] at q3
    exact s.ap a b l2 es e' hab q1 q2 q3 q4
 ·rw[bf] at q1 q3
  by_cases hia:i=a
  ·subst hia
   rw[if_pos rfl] at q1
   split at q1
   ·cases q1;cases q5
   ·cases q1
  ·rw[if_neg hia] at q1
   have b1:=q6.back (s.at q1 q2) fun o A _ t=>t.move sm fun _ _=>rfl
   by_cases hib:i=b
   ·subst hib
    rw[if_pos rfl] at q3
    split at q3
    ·cases q3;exact q7
    ·cases q3
   ·rw[if_neg hib] at q3
    exact s.ao a b e1 e2 v1 v2 ad hab q1 q2 q3 q4 q5 b1 (q7.back (s.at q3 q4) fun o A _ t=>t.move sm fun _ _=>rfl)
 ·rw[bf] at ho
  split at ho
  ·split at ho <;> cases ho
  ·exact s.pn w o hw ho
end
def SemS(K:ak)(t:TS)(f:FS):Prop:=∀ (B:Bd) (F H:Hp) (σ:Sg) (δ:En) (out:Out) (DD:Ends),RS K B F H σ δ->f δ=ae out->EndOk K B F DD out->t DD σ H
structure VS(X:Cx)(s:Stmt)(f:FS):Prop where
 h:∃ t,WS X s t/\SemS X.K t f
structure VSs(X:Cx)(s:List Stmt)(f:FS):Prop where
 h:∃ t,WSs X s t/\SemS X.K t f
def fNx:FS:=fun δ=>ae (.nx δ)
def fNev:FS:=fun _=>af
def sqO(g:FS):Out->Option Out
 | .nx δ=>g δ
 | o=>ae o
def zar(f g:FS):FS:=fun δ=>(f δ).bind (sqO g)
def za7(i:Nat)(fe:FE):FS:=fun δ=>(fe δ).bind fun r=>(toN r).map fun e=>.nx (δ.set i (ae e))
def fIf(ft:FT)(f g:FS):FS:=fun δ=>(ft δ).bind fun b=>if b=true then f δ else g δ
def zb0(fe:FE):FS:=fun δ=>(fe δ).bind fun r=>(toN r).map fun e=>.rt e δ
def zdV(i:Nat):FS:=fun δ=>match δ[i]? with
 | some (ae (.own ds))=>ae (.rt (.own ds) (δ.set i af))
 | some (ae (.val d))=>ae (.rt (.val d) δ)
 | _=>af
def fFrz(i:Nat)(g:FS):FS:=fun δ=>match δ[i]? with
 | some (ae (.own ds))=>g (δ.set i (ae (.val (.lst ds))))
 | _=>af
noncomputable def zf0(i:Nat)(fe:FE):FS:=fun δ=>match δ[i]? with
 | some (ae (.own ds))=>((fe δ).bind asV).bind fun d=>gif (sz (ds.length+1)) (ae (.nx (δ.set i (ae (.own (ds ++ [d]))))))
 | _=>af
def iOf:Ent->Option Int
 | .val (.int i)=>ae i
 | _=>af
theorem zbQ{e:Ent}{i:Int}(h:iOf e=ae i):e=.val (.int i):=by
 cases e with
 | val d=>cases d <;> first | (cases h;rfl) | (cases h)
 | _=>cases h
abbrev FG:=D->En->Option En
def lpO(lp:En->Option Out):Out->Option Out
 | .nx δ=>lp δ
 | .ct δ=>lp δ
 | .bk δ=>ae (.nx δ)
 | o=>ae o
def loop(tg:FG)(f:FS):List D->En->Option Out
 | [],δ=>ae (.nx δ)
 | d :: ds,δ=>(tg d δ).bind fun δ1=>(f δ1).bind (lpO (loop tg f ds))
abbrev FI:=En->Option (List D)
def zdr(fi:FI)(tg:FG)(f:FS):FS:=fun δ=>(fi δ).bind fun ds=>loop tg f ds δ
def gNm(i:Nat):FG:=fun d δ=>ae (δ.set i (ae (.val d)))
abbrev FGs:=List D->En->Option En
def zgq:FGs:=fun ds δ=>match ds with
 | []=>ae δ
 | _=>af
def zcB(g:FG)(gs:FGs):FGs:=fun ds δ=>match ds with
 | d :: r=>(g d δ).bind (gs r)
 | []=>af
def gTp(gs:FGs):FG:=fun d δ=>match d with
 | .tup ds=>gs ds δ
 | _=>af
def SemG(K:ak)(g:TG)(tg:FG):Prop:=∀ (B:Bd) (F H:Hp) (σ:Sg) (δ δ':En) (v:V) (d:D) (Q:L2.St->Hp->Prop),RS K B F H σ δ->Rep F v d->tg d δ=ae δ'->(∀ σ',RS K B F H σ' δ'->Q σ' H)->g v σ H Q
def SemGs(K:ak)(g:TGs)(tg:FGs):Prop:=∀ (B:Bd) (F H:Hp) (σ:Sg) (δ δ':En) (vs:List V) (ds:List D) (Q:L2.St->Hp->Prop),RS K B F H σ δ->Reps F vs ds->tg ds δ=ae δ'->(∀ σ',RS K B F H σ' δ'->Q σ' H)->g vs σ H Q
structure VG(X:Cx)(e:Expr)(f:FG):Prop where
 h:∃ t,WG X e t/\SemG X.K t f
structure VGs(X:Cx)(es:List Expr)(f:FGs):Prop where
 h:∃ t,WGs X es t/\SemGs X.K t f
def ItOk(B F0:Hp)(J:It)(ds:List D):Prop:=∀ F H,Same F0 F->Same F H->Same B H->J.stop ds.length H/\∀ (i:Nat) (d:D),ds[i]? = ae d->J.go i H/\∀ x H',J.yld i H x H'->∃ F',Ex F H F' H'/\Rep F' x d
def SemI(K:ak)(t:TI)(fi:FI):Prop:=∀ (B:Bd) (F H:Hp) (σ:Sg) (δ:En) (ds:List D) (R:It->Hp->Prop),RS K B F H σ δ->fi δ=ae ds->(∀ J F' H',Ex F H F' H'->ItOk B F' J ds->R J H')->t σ H R
structure VI(X:Cx)(tg e:Expr)(f:FI):Prop where
 h:∃ t,WI X tg e t/\SemI X.K t f
section
variable {X:Cx}{e c tg iter:Expr}{es:List Expr}{pos pos' p:Pos}{fe fa:FE}{ft:FT}{x:Str}{st:Stmt}{sr body els:List Stmt}{f g:FS}{fi:FI}{tgf:FG}{tgs:FGs}
theorem ss0:VSs X [] fNx:=⟨_,s0,fun B F H σ δ out DD s q k=>by cases q;exact k σ F H s FX.refl⟩
theorem ss1(h:VS X st f):VSs X [st] f:=let⟨_,w,s⟩:=h.h;⟨_,s1 w,s⟩
theorem ssc(h1:VS X st f)(h2:VSs X sr g):VSs X (st :: sr) (zar f g):=by
 obtain⟨t,w1,m1⟩:=h1.h
 obtain⟨u,w2,m2⟩:=h2.h
 refine⟨_,sc w1 w2,fun B F H σ δ out DD s q k=>?_⟩
 obtain⟨o,q1,q⟩:=bind_some q
 refine m1 B F H σ δ o _ s q1 ?_
 cases o with
 | nx δ'=>exact fun σ' F' H' s' y=>m2 B F' H' σ' δ' out DD s' q (k.mono y)
 | rt r δ'=>cases q;exact k
 | bk δ'=>cases q;exact k
 | ct δ'=>cases q;exact k
theorem sNev:VS X st fNev:=⟨_,snev,fun B F H σ δ out DD s q k=>by cases q⟩
theorem ssNev:VSs X sr fNev:=⟨_,ssn,fun B F H σ δ out DD s q k=>by cases q⟩
theorem sFrz(i:Nat)(h:VSs X sr g):VSs X sr (fFrz i g):=by
 obtain⟨u,w2,m2⟩:=h.h
 refine⟨_,w2,fun B F H σ δ out DD s q k=>?_⟩
 unfold fFrz at q
 split at q
 ·rename_i ds hi
  obtain⟨F',x,s'⟩:=s.frz hi
  exact m2 B F' H σ _ out DD s' q (k.mono x)
 ·cases q
theorem SemE.ret{K:ak}{t:TE}(m:SemE K t fe):SemS K (tRet t) (zb0 fe):=fun B F H σ δ out DD s q k=>by
 obtain⟨r,q1,q⟩:=bind_some q
 obtain⟨e,q2,q⟩:=map_some q
 cases q
 refine m B F H σ δ r _ s q1 fun v F' H' x z=>k v σ F' H' (s.ext x) (.of x s.bh) ?_
 cases r with
 | val d=>cases q2;exact z
 | own ds=>cases q2;exact RepR.earlier z s.bh
 | _=>cases q2
theorem zdQ(he:VE X e fe):VS X (.Return (ae e) pos) (zb0 fe):=let⟨_,w,m⟩:=he.h;⟨_,sret w,m.ret⟩
theorem zgf(i:Nat)(hN:X.N[i]? = ae x:=by rfl)(hv:Vis X.env.scope x:=by first | exact aE rfl | exact bd (aE rfl) | exact bd (bd rfl))(hd:(x == ("__debug__" : Str))=false:=by decide)
  (hcd:(x == ("__classdict__" : Str))=false:=by decide):VS X (.Return (ae (.Name x p)) pos) (zdV i):=by
 refine⟨_,sret (wv i hN hv hd hcd),fun B F H σ δ out DD s q k=>?_⟩
 unfold zdV at q
 split at q
 ·rename_i ds e
  cases q
  obtain⟨v,h1,h2⟩:=s.ent i _ e
  refine⟨v,h1,k v σ F H (s.drop i) .refl ?_⟩
  obtain⟨l,vs,e,h3,h4,h5,h6⟩:=h2
  exact⟨l,vs,e,h6,h3,h4,h5⟩
 ·rename_i d e
  cases q
  obtain⟨v,h1,h2⟩:=s.ent i _ e
  exact⟨v,h1,k v σ F H s .refl h2⟩
 ·cases q
theorem sIf(hc:VT X c ft)(ha:VSs X body f)(hb:VSs X els g):VS X (.If c body els pos) (fIf ft f g):=by
 obtain⟨t,w,m⟩:=hc.h
 obtain⟨t1,w1,m1⟩:=ha.h
 obtain⟨t2,w2,m2⟩:=hb.h
 refine⟨_,sif w w1 w2,fun B F H σ δ out DD s q k=>?_⟩
 obtain⟨b,q1,q⟩:=bind_some q
 refine m B F H σ δ b _ s q1 fun F' H' x=>?_
 cases b with
 | true=>exact iteT (m1 B F' H' σ δ out DD (s.ext x) q (k.mono (.of x s.bh)))
 | false=>exact iteF (m2 B F' H' σ δ out DD (s.ext x) q (k.mono (.of x s.bh)))
theorem SemE.set{K:ak}{t:TE}(i:Nat)(m:SemE K t fe):SemS K (tAsg t (zgo i)) (za7 i fe):=fun B F H σ δ out DD s q k=>by
 obtain⟨r,q1,q⟩:=bind_some q
 obtain⟨e,q2,q⟩:=map_some q
 cases q
 exact m B F H σ δ r _ s q1 fun v F' H' x z=>k _ F' H' (s.putR x i z q2) (.of x s.bh)
theorem zcZ{i:Nat}(hN:X.N.Nodup)(hi:X.N[i]? = ae x)(hx:Loc X.env.scope x)(he:VE X e fe)(hs:swapsWith e (ae (.Name x pos')) pos.line X.env=pure false:=by rfl)(hf:X.fn x=true \/ X.env.scope.names.lookup x=ae .local:=by first | exact .inl rfl | exact .inr rfl | assumption) :
  VS X (.Assign [.Name x pos'] e pos) (za7 i fe):=let⟨_,w,m⟩:=he.h;⟨_,sset hN hi hx w hs hf,m.set i⟩
theorem gnm{i:Nat}(hN:X.N.Nodup)(hi:X.N[i]? = ae x)(hx:Loc X.env.scope x)(hf:X.fn x=true \/ X.env.scope.names.lookup x=ae .local:=by first | exact .inl rfl | exact .inr rfl | assumption):VG X (.Name x pos) (gNm i):=
 ⟨_,gn hN hi hx hf,fun B F H σ δ δ' v d Q s r q k=>by cases q;exact k _ (s.putV i r)⟩
theorem gns0:VGs X [] zgq:=⟨_,gs0,fun B F H σ δ δ' vs ds Q s r q k=>by
 cases r with
 | nil=>cases q;exact⟨rfl,k σ s⟩
 | cons _ _=>cases q⟩
theorem zjH(h1:VG X e tgf)(h2:VGs X es tgs)(hs:(ck (e :: es) X.env).map (·.2)=assign e X.env :: (ck es X.env).map (·.2):=by rfl):VGs X (e :: es) (zcB tgf tgs):=by
 obtain⟨t,w,m⟩:=h1.h
 obtain⟨t1,w1,m1⟩:=h2.h
 refine⟨_,gs1 w w1 hs,fun B F H σ δ δ' vs ds Q s r q k=>?_⟩
 cases r with
 | nil=>cases q
 | cons r1 r2=>
  obtain⟨δ1,q1,q⟩:=bind_some q
  exact⟨_,_,rfl,m B F H σ δ δ1 _ _ _ s r1 q1 fun σ' s'=>m1 B F H σ' δ1 δ' _ _ _ s' r2 q k⟩
theorem gtp{k n:Nat}(hc:X.calm=true)(h:VGs X es tgs)(hn:(ck es X.env).length=n:=by rfl)(hst:(ck es X.env).findIdx? (·.1)=af:=by rfl)(hl:∀ ds δ δ',tgs ds δ=ae δ'->ds.length=n:=by intro ds δ δ' h;match ds,h with | [_],_=>rfl | [_,_],_=>rfl | [_,_,_],_=>rfl | [_,_,_,_],_=>rfl):VG X (.Tuple es k pos) (gTp tgs):=by
 obtain⟨t,w,m⟩:=h.h
 refine⟨_,gt hc w hn hst,fun B F H σ δ δ' v d Q s r q k=>?_⟩
 cases d with
 | tup ds=>
  cases r with
  | tup e rs=>exact⟨_,_,rfl,SqT.of (s.fh _ _ e),by rw[rs.length];exact hl _ _ _ q,m B F H σ δ δ' _ ds _ s rs q k⟩
 | _=>cases q
theorem SemS.for{K:ak}{wi:TI}{g:TG}{tb:TS}(mi:SemI K wi fi)(mg:SemG K g tgf)(mb:SemS K tb f):SemS K (tFor wi g tb) (zdr fi tgf f):=fun B F H σ δ out DD s q k=>by
 obtain⟨ds,q1,q⟩:=bind_some q
 refine mi B F H σ δ ds _ s q1 fun J F1 H1 x1 io=>?_
 have k1:EndOk K B F1 DD out:=k.mono (.of x1 s.bh)
 refine⟨fun i m σ' H'=>m=ds.length - i/\i<=ds.length/\∃ F' δ',RS K B F' H' σ' δ'/\FX B F1 F'/\loop tgf f (ds.drop i) δ'=ae out,⟨_,rfl,cg _,F1,δ,s.ext x1,.refl,q⟩,?_⟩
 rintro i m σ' H' ⟨rfl,hi,F',δ',s',y',q'⟩
 obtain⟨hstop,hgo⟩:=io F' H' y'.ff s'.fh s'.bh
 by_cases hlt:i<ds.length
 ·right
  have hd:ds[i]? = ae ds[i]:=by simp[hlt]
  obtain⟨g1,g2⟩:=hgo i _ hd
  rw[bQ hlt] at q'
  obtain⟨δ1,q2,q'⟩:=bind_some q'
  obtain⟨o,q3,q'⟩:=bind_some q'
  refine⟨g1,fun σ2 H2=>ds.length - (i+1)=ds.length - (i+1)/\i+1<=ds.length/\∃ F' δ',RS K B F' H2 σ2 δ'/\FX B F1 F'/\loop tgf f (ds.drop (i+1)) δ'=ae out,fun σ2 H2 hN=>⟨_,by lia,hN⟩,fun v H2 yl=>?_⟩
  obtain⟨F2,x2,r2⟩:=g2 v H2 yl
  refine mg B F2 H2 σ' δ' δ1 v _ _ (s'.ext x2) r2 q2 fun σ3 s3=>?_
  have y2:FX B F1 F2:=y'.trans (.of x2 s'.bh)
  refine mb B F2 H2 σ3 δ1 o _ s3 q3 ?_
  cases o with
  | nx δ2=>exact fun σ4 F4 H4 s4 y4=>⟨rfl,hlt,F4,δ2,s4,y2.trans y4,q'⟩
  | ct δ2=>exact fun σ4 F4 H4 s4 y4=>⟨rfl,hlt,F4,δ2,s4,y2.trans y4,q'⟩
  | bk δ2=>cases q';exact fun σ4 F4 H4 s4 y4=>k1 σ4 F4 H4 s4 (y2.trans y4)
  | rt r δ2=>cases q';exact fun v σ4 F4 H4 s4 y4 z=>k1 v σ4 F4 H4 s4 (y2.trans y4) z
 ·left
  have e:i=ds.length:=by lia
  subst e
  rw[eJ] at q'
  cases q'
  exact⟨hstop,k1 σ' F' H' s' y'⟩
theorem zgh(hi:VI X tg iter fi)(hg:VG X tg tgf)(hb:VSs X body f)(hp:PassesOwn (model X.prog X.w) X.A X.env X.xe:=by exact kS)(hc:X.calm=true:=by rfl)(hs:∀ z,bW iter X.env z=pure z:=by intro _;rfl):VS X (.For tg iter body [] pos) (zdr fi tgf f):=
 let⟨_,wi,mi⟩:=hi.h;let⟨_,wg,mg⟩:=hg.h;let⟨_,wb,mb⟩:=hb.h;⟨_,sfor hp hc wi wg wb hs,.for mi mg mb⟩
theorem sApp(i:Nat){apos cpos:Pos}(he:VE X e fe)(hN:X.N[i]? = ae x:=by rfl)(hv:Vis X.env.scope x:=by first | exact aE rfl | exact bd (aE rfl) | exact bd (bd rfl))(hd:(x == ("__debug__" : Str))=false:=by decide)(hcd:(x == ("__classdict__" : Str))=false:=by decide)
  (hbase:cq (.Name x p) "append" X.env (eval (.Name x p) X.env)=eval (.Name x p) X.env:=by rfl) (hline:(apos.endLine == cpos.line)=true:=by rfl) (h1:zan e=true:=by rfl)
  (hs:swapsWith (.Call (.Attribute (.Name x p) "append" apos) [e] [] cpos) af pos.line X.env=pure false:=by rfl) :
  VS X (.Expr (.Call (.Attribute (.Name x p) "append" apos) [e] [] cpos) pos) (zf0 i fe):=by
 obtain⟨t,w,m⟩:=he.h
 refine⟨_,sex (wbm gG gw gy zeZ (wv i hN hv hd hcd) (wac w wnil h1) hbase rfl hline h1 rfl) hs,fun B F H σ δ out DD s q k=>?_⟩
 unfold zf0 at q
 split at q
 ·rename_i ds hi
  obtain⟨d,q1,q⟩:=bind_some q
  obtain⟨r,q2,q3⟩:=bind_some q1
  obtain⟨hl,qz⟩:=zbp q
  cases qz
  obtain⟨v,h1,l,vs,e,h2,h3,h4,h5⟩:=s.ent i _ hi
  subst e
  refine⟨_,h1,.inl ⟨rfl,vs,SqL.of h2⟩,?_⟩
  refine m B F H σ δ r _ s q2 fun y F1 H1 x1 z=>?_
  obtain⟨F2,x2,sm,r2⟩:=RepR.frz x1 (Same.refl _) z q3
  refine⟨l,vs,y,rfl,rfl,x2.hh _ _ h2,?_,?_⟩
  ·rw[h3.length,cA];unfold sz at hl;lia
  ·exact k σ F2 _ ((s.ext x2).mut hi h1 ((h3.mono x2.ff).append (.one r2))) (.of x2 s.bh)
 ·cases q
end
def zjr:Ent->Option Ent
 | .own ds=>ae (.vw ds)
 | .obj (.dcT ks ds)=>ae (.vwt ks ds)
 | .obj _=>af
 | e=>ae e
def cEn(fr:List Nat)(δ:En)(d:D):En:=ae (.val d) :: fr.map fun i=>((δ[i]?).join).bind zjr
def zcA(ft:D->Option Bool)(fe:D->Option Ent):List D->Option (List D)
 | []=>ae []
 | d :: ds=>(ft d).bind fun b=>if b=true then ((fe d).bind asV).bind fun y=>(zcA ft fe ds).map fun ys=>y :: ys else zcA ft fe ds
def eLC(fr:List Nat)(fi:FI)(ft:FT)(fe:FE):FE:=fun δ=>(fi δ).bind fun ds=>(zcA (fun d=>ft (cEn fr δ d)) (fun d=>fe (cEn fr δ d)) ds).bind fun out=>if out.length<=1000000 then ae (.own out) else af
theorem RS.cap{K:ak}{B:Bd}{F H:Hp}{σ:Sg}{δ:En}{v:V}{d:D}(s:RS K B F H σ δ)(fr:List Nat)(r:Rep F v d):RS K B F H (ae v :: zfc fr σ) (cEn fr δ d):=by
 have key:∀ (j:Nat) (e:Ent),(cEn fr δ d)[j+1]? = ae (ae e)->∃ i e',fr[j]? = ae i/\δ[i]? = ae (ae e')/\zjr e'=ae e:=fun j e h=>by
  unfold cEn at h
  rw[dA,aG] at h
  cases q:fr[j]? with
  | none=>rw[q] at h;cases h
  | some i=>
   rw[q] at h
   have h':((δ[i]?).join).bind zjr=ae e:=bc h
   obtain⟨e',h1,h2⟩:=bind_some h'
   refine⟨i,e',rfl,?_,h2⟩
   cases z:δ[i]? with
   | none=>rw[z] at h1;cases h1
   | some o=>rw[z] at h1;rw[show o=ae e' from h1]
 refine⟨s.fh,s.bh,by simp[cEn,zfc],fun j e h=>?_,fun a b l ds e hab h1=>?_,fun a b e1 e2 v1 v2 ad hab q1 _ _ _ q5=>?_,fun w o _ ho=>by cases ho⟩
 ·cases j with
  | zero=>cases h;exact⟨v,rfl,r⟩
  | succ j=>
   obtain⟨i,e',h1,h2,h0⟩:=key j e h
   obtain⟨w,h3,h4⟩:=s.ent i e' h2
   refine⟨w,?_,?_⟩
   ·show(zfc fr σ)[j]? = ae (ae w)
    unfold zfc
    rw[aG,h1]
    show ae ((σ[i]?).join)=_
    rw[h3]
    rfl
   ·cases e' with
    | own ds=>cases h0;obtain⟨l,vs,e,h5,h6,_⟩:=h4;exact⟨l,vs,e,h5,h6⟩
    | obj o=>cases o <;> first | (cases h0;obtain⟨A,t,_⟩:=h4;exact⟨A,t⟩) | cases h0
    | _=>cases h0;exact h4
 ·cases a with
  | zero=>cases h1
  | succ a=>
   obtain⟨i,e',_,_,z⟩:=key a _ h1
   cases e' with
   | obj o=>cases o <;> cases z
   | _=>cases z
 ·cases a with
  | zero=>cases q1;cases q5
  | succ a=>
   obtain⟨i,e',_,_,z⟩:=key a _ q1
   cases e' with
   | obj o=>cases o <;> first | (cases z;cases q5) | cases z
   | _=>cases z <;> cases q5
theorem SemE.lc{K:ak}{fr:List Nat}{wi:TI}{tt:TT}{te:TE}{fi:FI}{ft:FT}{fe:FE}(mi:SemI K wi fi)(mt:SemT K tt ft)(me:SemE K te fe):SemE K (tLC fr wi tt te) (eLC fr fi ft fe):=fun B F H σ δ res Q s q k=>by
 obtain⟨ds,q1,q⟩:=bind_some q
 obtain⟨out,q2,q⟩:=bind_some q
 split at q
 ·rename_i hlen
  cases q
  refine mi B F H σ δ ds _ s q1 fun J F1 H1 x1 io=>?_
  intro a ha
  refine⟨fun i m ys H'=>m=ds.length - i/\i<=ds.length/\∃ F' done rest,Ex F1 H1 F' H'/\F' a=af/\H' a=ae (.lst ys)/\Reps F' ys done/\zcA (fun d=>ft (cEn fr δ d)) (fun d=>fe (cEn fr δ d)) (ds.drop i)=ae rest/\out=done ++ rest,
   ⟨_,rfl,cg _,F1,[],out,Ex.lay x1.fh ha,x1.fh.free ha,zai,.nil,q2,rfl⟩,?_⟩
  rintro i m ys H' ⟨rfl,hi,F',dn,rest,x',fa,hH,rs,q',eo⟩
  have s':=(s.ext x1).ext x'
  obtain⟨hstop,hgo⟩:=io F' H' x'.ff x'.fh s'.bh
  by_cases hlt:i<ds.length
  ·right
   have hd:ds[i]? = ae ds[i]:=by simp[hlt]
   obtain⟨g1,g2⟩:=hgo i _ hd
   rw[bQ hlt] at q'
   obtain⟨b,q3,q'⟩:=bind_some q'
   refine⟨g1,fun v H2 yl=>?_⟩
   obtain⟨F2,x2,r2⟩:=g2 v H2 yl
   have sc:=(s'.ext x2).cap fr r2
   refine mt B F2 H2 _ _ b _ sc q3 fun F3 H3 x3=>?_
   have nn:∀ {Fz Hz:Hp},Ex F' H' Fz Hz->Fz a=af:=fun x=>(x.nw _ _ hH rfl).trans fa
   cases b with
   | false=>
    refine iteF ⟨ds.length - (i+1),by lia,rfl,hlt,F3,dn,rest,(x'.trans x2).trans x3,nn (x2.trans x3),(x2.trans x3).hh _ _ hH,rs.mono (x2.trans x3).ff,q',eo⟩
   | true=>
    refine iteT ?_
    obtain⟨y,q4,q'⟩:=bind_some q'
    obtain⟨r,q5,q6⟩:=bind_some q4
    obtain⟨rest',q7,q'⟩:=map_some q'
    cases q'
    refine me B F3 H3 _ _ r _ (sc.ext x3) q5 fun w F4 H4 x4 z4=>?_
    obtain⟨F5,x5,_,r5⟩:=RepR.frz x4 (Same.refl _) z4 q6
    have xx:Ex F' H' F5 H4:=(x2.trans x3).trans x5
    have hy:ys.length<ba:=by
     rw[rs.length,cA]
     have:out.length=dn.length+(rest'.length+1):=by rw[eo];simp
     lia
    refine⟨xx.hh _ _ hH,hy,ds.length - (i+1),by lia,rfl,hlt,F5,dn ++ [y],rest',?_,nn xx,zai,(rs.mono xx.ff).append (.one r5),q7,by rw[eo];simp⟩
    have xo:=x'.trans xx
    exact⟨xo.ff,fun b o e=>by rw[zaj (zaA e (nn xx))];exact xo.fh b o e,fun b o e=>by rw[zaj (zaA e ha)];exact xo.hh b o e,xo.nw⟩
  ·left
   have e:i=ds.length:=by lia
   subst e
   rw[eJ] at q'
   cases q'
   rw[bF] at eo
   subst eo
   refine⟨hstop,k _ F' H' (x1.trans x') ⟨a,ys,rfl,x1.hh.free ha,hH,rs,fa⟩⟩
 ·cases q
def tD(K:ak)(f:FE):TE:=fun σ H Q=>∃ B F δ r,RS K B F H σ δ/\f δ=ae r/\∀ v F' H',Ex F H F' H'->RepR K H F' H' v r->Q v H'
def tDT(K:ak)(f:FT):TT:=fun σ H Q=>∃ B F δ b,RS K B F H σ δ/\f δ=ae b/\∀ F' H',Ex F H F' H'->Q b H'
theorem zh7{K:ak}{f:FE}:SemE K (tD K f) f:=fun B F _ _ δ r _ s q k=>⟨B,F,δ,r,s,q,k⟩
theorem zih{K:ak}{f:FT}:SemT K (tDT K f) f:=fun B F _ _ δ r _ s q k=>⟨B,F,δ,r,s,q,k⟩
theorem VE.uni{X:Cx}{e:Expr}{f:FE}(h:VE X e f):WE X e (tD X.K f):=
 let⟨_,w,m⟩:=h.h;⟨fun pins s σ H Q I z=>let⟨B,F,δ,r,s',q,k⟩:=z;w.h pins s σ H Q I (m B F H σ δ r Q s' q k)⟩
theorem VTs.uni{X:Cx}{es:List Expr}{f:FT}(h:VTs X es f):WTs X es (tDT X.K f):=
 let⟨_,w,m⟩:=h.h;⟨fun pins s σ H Q I z=>let⟨B,F,δ,r,s',q,k⟩:=z;w.h pins s σ H Q I (m B F H σ δ r Q s' q k)⟩
section
variable {X:Cx}{N:List Str}{fr:List Nat}{x:Str}{scope:Scope}{iter elt:Expr}{ifs:List Expr}{px pos:Pos}{fi:FI}{fe:FE}{ft:FT}
theorem vlc(S:CompSc X N fr x scope)(hi:VI X (.Name x px) iter fi)
  (ht:∀ (C:ai) (s₀:am) (H₀:Hp) (fp:List ai),VTs (cxC X N scope C s₀ H₀ fp) ifs ft) (he:∀ (C:ai) (s₀:am) (H₀:Hp) (fp:List ai),VE (cxC X N scope C s₀ H₀ fp) elt fe)
  (hc:X.calm=true:=by rfl) (hs:∀ z,bW iter X.env z=pure z:=by intro _;rfl):VE X (.ListComp elt [⟨.Name x px,iter,ifs,0⟩] scope pos) (eLC fr fi ft fe):=
 let⟨_,w1,m1⟩:=hi.h;⟨_,wlc S hc w1 (fun C s₀ H₀ fp=>(ht C s₀ H₀ fp).uni) (fun C s₀ H₀ fp=>(he C s₀ H₀ fp).uni) hs,.lc m1 zih zh7⟩
theorem sSetLC{i:Nat}{y:Str}{py spos:Pos}(hN:X.N.Nodup)(hi':X.N[i]? = ae y)(hy:Loc X.env.scope y)(S:CompSc X N fr x scope)(hi:VI X (.Name x px) iter fi)
  (ht:∀ (C:ai) (s₀:am) (H₀:Hp) (fp:List ai),VTs (cxC X N scope C s₀ H₀ fp) ifs ft) (he:∀ (C:ai) (s₀:am) (H₀:Hp) (fp:List ai),VE (cxC X N scope C s₀ H₀ fp) elt fe)
  (hc:X.calm=true:=by rfl) (hsw:swapsWith (.ListComp elt [⟨.Name x px,iter,ifs,0⟩] scope pos) (ae (.Name y py)) spos.line X.env=pure true:=by rfl)
  (hs:∀ z,bW iter X.env z=pure z:=by intro _;rfl)
  (hf:X.fn y=true \/ X.env.scope.names.lookup y=ae .local:=by first | exact .inl rfl | exact .inr rfl | assumption) :
  VS X (.Assign [.Name y py] (.ListComp elt [⟨.Name x px,iter,ifs,0⟩] scope pos) spos) (za7 i (eLC fr fi ft fe)):=
 let⟨_,w1,m1⟩:=hi.h;⟨_,ssetlc hN hi' hy S hc w1 (fun C s₀ H₀ fp=>(ht C s₀ H₀ fp).uni) (fun C s₀ H₀ fp=>(he C s₀ H₀ fp).uni) hsw hs hf,SemE.set i (.lc m1 zih zh7)⟩
end
inductive Kd where
 | v | b | t
def ArgOk(K:ak)(F H:Hp)(v:V):Kd->D->Prop
 | .v,d=>Rep F v d
 | .b,.lst ds=>∃ l vs,v=.ref l/\SqL K H l vs/\Reps F vs ds
 | .b,_=>False
 | .t,.tup ds=>∃ l vs,v=.ref l/\SqT K H l vs/\Reps F vs ds
 | .t,_=>False
inductive ArgsOk(K:ak)(F H:Hp):List Kd->List V->List D->Prop
 | nil:ArgsOk K F H [] [] []
 | cons {k:Kd} {v:V} {d:D} {ks:List Kd} {vs:List V} {ds:List D}:ArgOk K F H v k d->ArgsOk K F H ks vs ds->ArgsOk K F H (k :: ks) (v :: vs) (d :: ds)
def spD(K:ak)(ks:List Kd)(g:List D->Option Ent):Sp:=fun vs H Q _=>∃ F ds r,Same F H/\ArgsOk K F H ks vs ds/\g ds=ae r/\∀ v F' H',Ex F H F' H'->RepR K H F' H' v r->Q v H'
def asT:Ent->Option (List D)
 | .val (.tup ds)=>ae ds
 | .bt ds=>ae ds
 | _=>af
theorem RepR.toT{K:ak}{H0 F H:Hp}{v:V}{e:Ent}{ds:List D}(r:RepR K H0 F H v e)(h:Same F H)(q:asT e=ae ds):∃ l vs,v=.ref l/\SqT K H l vs/\Reps F vs ds:=by
 cases e with
 | val d=>
  cases d with
  | tup es=>
   cases q
   cases (show Rep F v (.tup _) from r) with
   | tup e rs=>exact⟨_,_,rfl,SqT.of (h _ _ e),rs⟩
  | _=>cases q
 | bt es=>cases q;exact r
 | _=>cases q
def zbZ:Kd->Ent->Option D
 | .v,e=>asV e
 | .b,e=>(asL e).map .lst
 | .t,e=>(asT e).map .tup
def zaJ:List Kd->List Ent->Option (List D)
 | [],[]=>ae []
 | k :: ks,e :: es=>(zbZ k e).bind fun d=>(zaJ ks es).map fun ds=>d :: ds
 | _,_=>af
section
variable {K:ak}{F H F' H' F2 H2:Hp}
theorem RepRs.args:∀ {ks:List Kd} {vs:List V} {es:List Ent} {ds:List D} {F':Hp},Ex F H F' H'->Same F2 F'->RepRs K H F2 H' vs es->zaJ ks es=ae ds->∃ F3,Ex F H F3 H'/\Same F' F3/\ArgsOk K F3 H' ks vs ds
 | [],_,_,_,F',x,_,.nil,q=>by cases q;exact⟨F',x,Same.refl _,.nil⟩
 | _ :: _,_,_,_,_,_,_,.nil,q=>by cases q
 | [],_,_,_,_,_,_,.cons _ _,q=>by cases q
 | k :: ks,_,e :: es,ds,F',x,s,.cons r t,q=>by
  simp only[zaJ] at q
  obtain⟨d,q1,q⟩:=bind_some q
  obtain⟨ds',q2,q⟩:=map_some q
  cases q
  cases k with
  | v=>
   obtain⟨F3,x3,s3,r3⟩:=r.frz x s q1
   obtain⟨F4,x4,s4,r4⟩:=RepRs.args x3 (s.trans s3) t q2
   exact⟨F4,x4,s3.trans s4,.cons (Rep.mono s4 r3) r4⟩
  | b=>
   obtain⟨ls,q3,q4⟩:=map_some q1
   cases q4
   obtain⟨F4,x4,s4,r4⟩:=RepRs.args x s t q2
   refine⟨F4,x4,s4,.cons (k:=.b) ?_ r4⟩
   obtain⟨l,vs,e,h1,h2⟩:=RepR.toL r (s.trans x.fh) q3
   exact⟨l,vs,e,h1,h2.mono (s.trans s4)⟩
  | t=>
   obtain⟨ls,q3,q4⟩:=map_some q1
   cases q4
   obtain⟨F4,x4,s4,r4⟩:=RepRs.args x s t q2
   refine⟨F4,x4,s4,.cons (k:=.t) ?_ r4⟩
   obtain⟨l,vs,e,h1,h2⟩:=RepR.toT r (s.trans x.fh) q3
   exact⟨l,vs,e,h1,h2.mono (s.trans s4)⟩
end
def zag(ks:List Kd)(g:List D->Option Ent)(fs:FA):FE:=fun δ=>((fs δ).bind (zaJ ks)).bind g
section
variable {X:Cx}{es:List Expr}{e:Expr}{fs:FA}{x:Str}{p pos:Pos}{ks:List Kd}{g:List D->Option Ent}
theorem SemE.call{K:ak}{t:TA}{dvs:List V}{E:XK}(m:SemA K t fs)(hd:dvs=[]):SemE K (tCall (spD K ks g) dvs E t) (zag ks g fs):=fun B F H σ δ res Q s q k=>by
 subst hd
 obtain⟨ds,q1,q⟩:=bind_some q
 obtain⟨rs,q2,q3⟩:=bind_some q1
 refine m B F H σ δ rs _ s q2 fun vs F1 H1 x1 r1=>?_
 obtain⟨F2,x2,_,a2⟩:=RepRs.args x1 (Same.refl _) r1 q3
 rw[bF]
 exact⟨F2,ds,res,x2.fh,a2,q,fun v F' H' x3 r3=>k v F' H' (x2.trans x3) (r3.earlier x2.hh)⟩
theorem vcl{CX:CXT}{k j:Nat}{f:ai}{fd:bq}{ps:List Str}{st:Stmt}{E:XK}(F:FnOk X.prog X.w X.K X.mg X.base CX k f fd ps (spD X.K ks g))(D:Def X.K X.mg x st ps f fd)(hr:Room j X.A)(hg:Gl X x)(hx:zc6 CX X E)
  (ha:VA X (e :: es) fs) (hjk:k<=j:=by decide) (hdb:(x == ("__debug__" : Str))=false:=by decide) (h1:zan e=true:=by rfl) (h2:es.all zan=true:=by rfl) :
  VE X (.Call (.Name x p) (e :: es) [] pos) (zag ks g fs):=let⟨_,w,m⟩:=ha.h;⟨_,wcl F D hr hg hx w hjk hdb h1 h2,.call m rfl⟩
end
def stN:Kd->D->Option Ent
 | .v,d=>ae (.val d)
 | .b,.lst ds=>ae (.bor ds)
 | .b,_=>af
 | .t,.tup ds=>ae (.bt ds)
 | .t,_=>af
def stE:List Kd->List D->Option En
 | [],[]=>ae []
 | k :: ks,d :: ds=>(stN k d).bind fun e=>(stE ks ds).map fun es=>ae e :: es
 | _,_=>af
def zc7:Out->Option Ent
 | .rt r _=>ae r
 | .nx _=>ae (.val .non)
 | _=>af
def zcz(ks:List Kd)(m:Nat)(f:FS)(ds:List D):Option Ent:=(stE ks ds).bind fun es=>(f (es ++ aB m af)).bind zc7
theorem ArgsOk.start{K:ak}{F H:Hp}:∀ {ks:List Kd} {vs:List V} {ds:List D} {es:En},ArgsOk K F H ks vs ds->stE ks ds=ae es->vs.length=es.length/\∀ (i:Nat) (e:Ent),es[i]? = ae (ae e)->(∃ v,vs[i]? = ae v/\RepN K H F H v e)/\e.lk=false/\e.isO=false
 | _,_,_,_,.nil,q=>by cases q;exact⟨rfl,fun i e h=>by simp at h⟩
 | k :: ks,v :: vs,d :: ds,es,.cons a t,q=>by
  simp only[stE] at q
  obtain⟨e0,q1,q⟩:=bind_some q
  obtain⟨es',q2,q⟩:=map_some q
  cases q
  obtain⟨hl,ih⟩:=ArgsOk.start t q2
  refine⟨by simp[hl],fun i e h=>?_⟩
  cases i with
  | succ i=>simpa using ih i e (by simpa using h)
  | zero=>
   have h':e0=e:=by simpa using h
   subst h'
   cases k with
   | v=>cases q1;exact⟨⟨v,rfl,a⟩,rfl,rfl⟩
   | b=>
    cases d with
    | lst ls=>
     cases q1
     obtain⟨l,ws,e,h1,h2⟩:=a
     exact⟨⟨v,rfl,l,ws,e,h1,h2⟩,rfl,rfl⟩
    | _=>cases q1
   | t=>
    cases d with
    | tup ls=>
     cases q1
     obtain⟨l,ws,e,h1,h2⟩:=a
     exact⟨⟨v,rfl,l,ws,e,h1,h2⟩,rfl,rfl⟩
    | _=>cases q1
theorem ArgsOk.length{K:ak}{F H:Hp}:∀ {ks:List Kd} {vs:List V} {ds:List D},ArgsOk K F H ks vs ds->vs.length=ks.length
 | _,_,_,.nil=>rfl
 | _,_,_,.cons _ t=>by rw[aL,aL,ArgsOk.length t]
section
variable {P:aR}{w:aX}{K:ak}{mg:Str->Option ag}{base:aW}{x qual:Str}{st:Stmt}{f:ai}{fd:bq}{N ps:List Str}{k:Nat}{ks:List Kd}{g:List D->Option Ent}
end
end L3

namespace L3
open PySem PySem.Spec PyProof.Rows L2
def pI0(g:Int->Int->D):Ent->Ent->Option Ent:=fun x y=>(iOf x).bind fun i=>(iOf y).map fun j=>.val (g i j)
noncomputable def pI(c:Int->Int->Prop)(g:Int->Int->D):Ent->Ent->Option Ent:=fun x y=>(iOf x).bind fun i=>(iOf y).bind fun j=>gif (c i j) (ae (.val (g i j)))
def b64(i:Int):Prop:=-18446744073709551616<i/\i<18446744073709551616
theorem zdz{i:Int}(h:-18446744073709551616<i/\i<18446744073709551616):b64 i=True:=eq_true h
def psI(j:Int):Prop:=0<j
theorem zbq{j:Int}(h:0<j):psI j=True:=eq_true h
def dvI(j:Int):Prop:=0<j/\j<1073741824
theorem zdd{j:Int}(h:0<j/\j<1073741824):dvI j=True:=eq_true h
theorem b64_of{i:Int}(h:-18446744073709551616<i/\i<18446744073709551616):b64 i:=h
section
variable {K:ak}
theorem zh8{g':Int->Int->V}{g:Int->Int->D}(h:∀ i j F,Rep F (g' i j) (g i j)):zi6 K (rI0 g') (pI0 g):=fun H0 F H x y e e' res Q fh hh rx ry q k=>by
 obtain⟨i,q1,q⟩:=bind_some q
 obtain⟨j,q2,q⟩:=map_some q
 cases zbQ q1
 cases zbQ q2
 cases q
 cases zcg rx
 cases zcg ry
 exact⟨i,j,rfl,rfl,k _ F H (Ex.refl fh) (h i j F)⟩
theorem semI{C c:Int->Int->Prop}{g':Int->Int->V}{g:Int->Int->D}(hc:∀ i j,c i j->C i j)(h:∀ i j F,Rep F (g' i j) (g i j)):zi6 K (rI C g') (pI c g):=fun H0 F H x y e e' res Q fh hh rx ry q k=>by
 obtain⟨i,q1,q⟩:=bind_some q
 obtain⟨j,q2,q⟩:=bind_some q
 obtain⟨hij,qz⟩:=zbp q
 cases zbQ q1
 cases zbQ q2
 cases qz
 cases zcg rx
 cases zcg ry
 exact⟨i,j,rfl,rfl,hc i j hij,k _ F H (Ex.refl fh) (h i j F)⟩
end
def zdv:=pI0 fun i j=>.int (i+j)
def zgg:=pI0 fun i j=>.int (i - j)
noncomputable def zfl:=pI (fun i j=>b64 i \/ b64 j) fun i j=>.int (i * j)
noncomputable def zdj:=pI (fun _ j=>psI j) fun i j=>.int (i % j)
noncomputable def zfo:=pI (fun _ j=>dvI j) fun i j=>.int (i / j)
def gLt:=pI0 fun i j=>.bl (decide (i<j))
def gLe:=pI0 fun i j=>.bl (decide (i<=j))
def gGt:=pI0 fun i j=>.bl (decide (j<i))
def zeK:Ent->Option Ent:=fun x=>(iOf x).map fun i=>.val (.int (-i))
section
variable {X:Cx}
theorem zes:OpD X (binaryOp .Add) zdv:=⟨_,op_add,zh8 fun _ _ _=>.int _⟩
theorem zfn:OpD X (binaryOp .Sub) zgg:=⟨_,op_sub,zh8 fun _ _ _=>.int _⟩
theorem zfk:OpD X (binaryOp .Mult) zfl:=⟨_,op_mul,semI (fun _ _ h=>h) fun _ _ _=>.int _⟩
theorem zdw:OpD X (binaryOp .Mod) zdj:=⟨_,op_mod,semI (fun _ _ h=>h) fun _ _ _=>.int _⟩
theorem zfU:OpD X (binaryOp .FloorDiv) zfo:=⟨_,op_fdiv,semI (fun _ _ h=>h) fun _ _ _=>.int _⟩
theorem o_lt:OpD X (bB .Lt) gLt:=⟨_,op_lt,zh8 fun _ _ _=>.bl _⟩
theorem o_le:OpD X (bB .LtE) gLe:=⟨_,op_le,zh8 fun _ _ _=>.bl _⟩
theorem o_gt:OpD X (bB .Gt) gGt:=⟨_,op_gt,zh8 fun _ _ _=>.bl _⟩
theorem zfa:UnD X (unaryOp .USub) zeK:=⟨_,un_neg,fun H0 F H x e res Q fh hh r q k=>by
 obtain⟨i,q1,q⟩:=map_some q
 cases zbQ q1
 cases q
 cases zcg r
 exact⟨i,rfl,k _ F H (Ex.refl fh) (.int _)⟩⟩
end
def zgu:D->D->Option Bool
 | .non,.non=>ae true | .non,.int _=>ae false | .int _,.non=>ae false | .non,.bl _=>ae false | .bl _,.non=>ae false | .non,.str _=>ae false | .str _,.non=>ae false
 | .int i,.int j=>ae (decide (i=j)) | .bl i,.bl j=>ae (decide (i=j)) | .str i,.str j=>ae (decide (i=j))
 | .int _,.str _=>ae false | .str _,.int _=>ae false | .bl _,.str _=>ae false | .str _,.bl _=>ae false
 | _,_=>af
def gEq:Ent->Ent->Option Ent
 | .val d,.val d'=>(zgu d d').map fun b=>.val (.bl b)
 | _,_=>af
def gNe:Ent->Ent->Option Ent
 | .val d,.val d'=>(zgu d d').map fun b=>.val (.bl (!b))
 | _,_=>af
theorem scEq_ok{F:Hp}{x y:V}{d d':D}{b:Bool}(rx:Rep F x d)(ry:Rep F y d')(q:zgu d d'=ae b):scal x y=true/\decide (x=y)=b:=by
 cases rx <;> cases ry <;> first
  | (cases q;done)
  | (cases q;exact⟨rfl,by simp⟩)
def isN:Ent->Bool
 | .val .non=>true
 | _=>false
def gIsN:Ent->Ent->Option Ent
 | x,.val .non=>ae (.val (.bl (isN x)))
 | _,_=>af
def ziD:Ent->Ent->Option Ent
 | x,.val .non=>ae (.val (.bl (!isN x)))
 | _,_=>af
theorem isN_ok{K:ak}{H0 F H:Hp}{x:V}{e:Ent}(r:RepR K H0 F H x e):decide (x=.non)=isN e:=by
 cases e with
 | val d=>cases r <;> simp[isN]
 | own ds=>obtain⟨l,vs,e,_⟩:=r;subst e;simp[isN]
 | bor ds=>obtain⟨l,vs,e,_⟩:=r;subst e;simp[isN]
 | vw ds=>obtain⟨l,vs,e,_⟩:=r;subst e;simp[isN]
 | vwt ks ds=>obtain⟨A,t⟩:=r;cases t;simp[isN]
 | bt ds=>obtain⟨l,vs,e,_⟩:=r;subst e;simp[isN]
 | obj o=>obtain⟨⟨l,e⟩,_⟩:=r;subst e;simp[isN]
def sOf:Ent->Option Str
 | .val (.str i)=>ae i
 | _=>af
theorem zbk{e:Ent}{i:Str}(h:sOf e=ae i):e=.val (.str i):=by
 cases e with
 | val d=>cases d <;> first | (cases h;rfl) | (cases h)
 | _=>cases h
def inS(i j:Str):Bool:=!(bP j i 0 j.length 1).isEmpty
def gInS:Ent->Ent->Option Ent:=fun x y=>(sOf x).bind fun i=>(sOf y).map fun j=>.val (.bl (inS i j))
def gNiS:Ent->Ent->Option Ent:=fun x y=>(sOf x).bind fun i=>(sOf y).map fun j=>.val (.bl (!inS i j))
noncomputable def zjl:Ent->Ent->Option Ent:=fun x y=>(sOf x).bind fun i=>(sOf y).bind fun j=>gif (sz (i.length+j.length)) (ae (.val (.str (i ++ j))))
theorem zfg{n:Nat}(h:n<=1000000):n<=ba:=by rw[cA];lia
section
variable {X:Cx}
theorem o_eq:OpD X (bB .Eq) gEq:=⟨_,op_eq,fun H0 F H x y e e' res Q fh hh rx ry q k=>by
 cases e with
 | val d=>
  cases e' with
  | val d'=>
   obtain⟨b,q1,q⟩:=map_some q
   cases q
   obtain⟨h1,h2⟩:=scEq_ok rx ry q1
   exact⟨h1,by rw[h2];exact k _ F H (Ex.refl fh) (.bl _)⟩
  | _=>cases q
 | _=>cases q⟩
theorem o_ne:OpD X (bB .NotEq) gNe:=⟨_,op_ne,fun H0 F H x y e e' res Q fh hh rx ry q k=>by
 cases e with
 | val d=>
  cases e' with
  | val d'=>
   obtain⟨b,q1,q⟩:=map_some q
   cases q
   obtain⟨h1,h2⟩:=scEq_ok rx ry q1
   exact⟨h1,by rw[h2];exact k _ F H (Ex.refl fh) (.bl _)⟩
  | _=>cases q
 | _=>cases q⟩
theorem o_isN:OpD X (bB .Is) gIsN:=⟨_,op_isN,fun H0 F H x y e e' res Q fh hh rx ry q k=>by
 unfold gIsN at q
 split at q
 ·cases q
  exact⟨zgW ry,by rw[isN_ok rx];exact k _ F H (Ex.refl fh) (.bl _)⟩
 ·cases q⟩
theorem o_noN:OpD X (bB .IsNot) ziD:=⟨_,op_notN,fun H0 F H x y e e' res Q fh hh rx ry q k=>by
 unfold ziD at q
 split at q
 ·cases q
  exact⟨zgW ry,by rw[isN_ok rx];exact k _ F H (Ex.refl fh) (.bl _)⟩
 ·cases q⟩
theorem o_inS:OpD X (bB .In) gInS:=⟨_,op_in_str,fun H0 F H x y e e' res Q fh hh rx ry q k=>by
 obtain⟨i,q1,q⟩:=bind_some q
 obtain⟨j,q2,q⟩:=map_some q
 cases zbk q1
 cases zbk q2
 cases q
 exact⟨i,j,zb4 rx,zb4 ry,k _ F H (Ex.refl fh) (.bl _)⟩⟩
theorem o_niS:OpD X (bB .NotIn) gNiS:=⟨_,zhK,fun H0 F H x y e e' res Q fh hh rx ry q k=>by
 obtain⟨i,q1,q⟩:=bind_some q
 obtain⟨j,q2,q⟩:=map_some q
 cases zbk q1
 cases zbk q2
 cases q
 exact⟨i,j,zb4 rx,zb4 ry,k _ F H (Ex.refl fh) (.bl _)⟩⟩
theorem o_addS:OpD X (binaryOp .Add) zjl:=⟨_,zi8,fun H0 F H x y e e' res Q fh hh rx ry q k=>by
 obtain⟨i,q1,q⟩:=bind_some q
 obtain⟨j,q2,q⟩:=bind_some q
 obtain⟨hl,qz⟩:=zbp q
 cases zbk q1
 cases zbk q2
 cases qz
 exact⟨i,j,zb4 rx,zb4 ry,zfg hl,k _ F H (Ex.refl fh) (.str _)⟩⟩
end
def zds:Ent->Ent->Option Ent:=fun x y=>(asL x).bind fun ds=>(iOf y).bind fun i=>(atI ds i).map .val
def zdL:Ent->Option (List D)
 | .val (.tup ds)=>ae ds
 | _=>af
theorem zdm{e:Ent}{ds:List D}(h:zdL e=ae ds):e=.val (.tup ds):=by
 cases e with
 | val d=>cases d <;> first | (cases h;rfl) | (cases h)
 | _=>cases h
def zdx:Ent->Ent->Option Ent:=fun x y=>(zdL x).bind fun ds=>(iOf y).bind fun i=>(atI ds i).map .val
def mkS(l:List Nat):Str:=⟨l.toArray⟩
noncomputable def gIxS:Ent->Ent->Option Ent:=fun x y=>(sOf x).bind fun z=>(iOf y).bind fun i=>gif (sz z.length) ((atI z.cps.toList i).map fun c=>.val (.str (mkS [c])))
theorem atI_rep{F:Hp}{vs:List V}{ds:List D}{i:Int}{d:D}(r:Reps F vs ds)(q:atI ds i=ae d):∃ v,atI vs i=ae v/\Rep F v d:=by
 unfold atI at q ⊢
 obtain⟨j,q1,q⟩:=bind_some q
 obtain⟨v,h1,h2⟩:=r.get q
 exact⟨v,by rw[r.length,q1];exact h1,h2⟩
section
variable {X:Cx}
theorem zcu:IxD X zds:=⟨_,ix_list,fun H0 F H x y e e' res Q fh hh rx ry q k=>by
 obtain⟨ds,q1,q⟩:=bind_some q
 obtain⟨i,q2,q⟩:=bind_some q
 obtain⟨d,q3,q⟩:=map_some q
 cases q
 cases zbQ q2
 obtain⟨l,vs,e,h1,h2⟩:=RepR.toL rx fh q1
 obtain⟨v,h3,h4⟩:=atI_rep h2 q3
 exact⟨l,vs,i,v,e,zcg ry,h1,h3,k v F H (Ex.refl fh) h4⟩⟩
theorem zc1:IxD X zdx:=⟨_,ix_tup,fun H0 F H x y e e' res Q fh hh rx ry q k=>by
 obtain⟨ds,q1,q⟩:=bind_some q
 obtain⟨i,q2,q⟩:=bind_some q
 obtain⟨d,q3,q⟩:=map_some q
 cases q
 cases zbQ q2
 cases zdm q1
 cases (show Rep F x (.tup ds) from rx) with
 | tup e rs=>
  obtain⟨v,h3,h4⟩:=atI_rep rs q3
  exact⟨_,_,i,v,rfl,zcg ry,SqT.of (fh _ _ e),h3,k v F H (Ex.refl fh) h4⟩⟩
theorem x_str:IxD X gIxS:=⟨_,ix_str,fun H0 F H x y e e' res Q fh hh rx ry q k=>by
 obtain⟨z,q1,q⟩:=bind_some q
 obtain⟨i,q2,q⟩:=bind_some q
 obtain⟨hl,qz⟩:=zbp q
 obtain⟨c,q3,qz⟩:=map_some qz
 cases qz
 cases zbQ q2
 cases zbk q1
 exact⟨z,i,c,zb4 rx,zcg ry,zfg hl,q3,k _ F H (Ex.refl fh) (.str _)⟩⟩
end
noncomputable def gCat:Ent->Ent->Option Ent:=fun x y=>(asLt x).bind fun ds=>(asLt y).bind fun es=>gif (sz (ds.length+es.length)) (ae (.own (ds ++ es)))
noncomputable def gCatT:Ent->Ent->Option Ent:=fun x y=>(zdL x).bind fun ds=>(zdL y).bind fun es=>gif (sz (ds.length+es.length)) (ae (.val (.tup (ds ++ es))))
section
variable {X:Cx}
theorem o_cat:OpD X (binaryOp .Add) gCat:=⟨_,op_cat,fun H0 F H x y e e' res Q fh hh rx ry q k=>by
 obtain⟨ds,q1,q⟩:=bind_some q
 obtain⟨es,q2,q⟩:=bind_some q
 obtain⟨hl,qz⟩:=zbp q
 cases qz
 obtain⟨l,vs,e,h1,h2⟩:=RepR.toLt rx fh q1
 obtain⟨l',ws,e',h1',h2'⟩:=RepR.toLt ry fh q2
 refine⟨l,l',vs,ws,e,e',h1,h1',by rw[h2.length,h2'.length];exact zfg hl,fun p hp=>?_⟩
 exact k _ _ _ (Ex.lay fh hp) ⟨p,_,rfl,hh.free hp,zai,h2.append h2',fh.free hp⟩⟩
theorem kTup_ok{K:ak}{H0 F H:Hp}{zs:List V}{ds:List D}{Q:VK}(fh:Same F H)(r:Reps F zs ds)(k:∀ v F' H',Ex F H F' H'->RepR K H0 F' H' v (.val (.tup ds))->Q v H'):kTup H zs Q:=fun a H' s e=>by
 have x0:Ex F H F H':=⟨Same.refl F,fh.trans s,s,fun _ _ _ _=>rfl⟩
 obtain⟨F2,x2,s2,h2⟩:=x0.tupF e
 exact k _ F2 H' x2 (.tup h2 (r.mono s2))
theorem o_catT:OpD X (binaryOp .Add) gCatT:=⟨_,op_catTU,fun H0 F H x y e e' res Q fh hh rx ry q k=>by
 obtain⟨ds,q1,q⟩:=bind_some q
 obtain⟨es,q2,q⟩:=bind_some q
 obtain⟨hl,qz⟩:=zbp q
 cases qz
 cases zdm q1
 cases zdm q2
 cases (show Rep F x (.tup ds) from rx) with
 | tup ex1 r1=>
  cases (show Rep F y (.tup es) from ry) with
  | tup ex2 r2=>exact⟨_,_,_,_,rfl,rfl,fh _ _ ex1,fh _ _ ex2,by rw[r1.length,r2.length];exact zfg hl,kTup_ok fh (r1.append r2) k⟩⟩
end
abbrev FO:=En->Option (Option Int)
def oNo:FO:=fun _=>ae af
def oSo(fe:FE):FO:=fun δ=>((fe δ).bind iOf).map ae
def SemO(K:ak)(t:TO)(f:FO):Prop:=∀ (B:Bd) (F H:Hp) (σ:Sg) (δ:En) (o:Option Int) (Q:Option Int->Hp->Prop),RS K B F H σ δ->f δ=ae o->(∀ F' H',Ex F H F' H'->Q o H')->t σ H Q
structure VO(X:Cx)(e:Option Expr)(f:FO):Prop where
 h:∃ t,WO X e t/\SemO X.K t f
def SemL(K:ak)(r:V->Option Int->Option Int->Hp->VK->Prop)(g:Ent->Option Int->Option Int->Option Ent):Prop:=∀ (H0 F H:Hp) (x:V) (lo hi:Option Int) (e res:Ent) (Q:VK),Same F H->Same H0 H->RepR K H0 F H x e->g e lo hi=ae res ->
 (∀ v F' H',Ex F H F' H'->RepR K H0 F' H' v res->Q v H')->r x lo hi H Q
def SlD(X:Cx)(g:Ent->Option Int->Option Int->Option Ent):Prop:=∃ r,SlR X r/\SemL X.K r g
def eSl(g:Ent->Option Int->Option Int->Option Ent)(fe:FE)(fl fu:FO):FE:=fun δ=>(fe δ).bind fun x=>(fl δ).bind fun l=>(fu δ).bind fun u=>g x l u
def zhH{α:Type}(xs:List α)(lo hi:Option Int):List α:=(xs.drop (HT.sIx xs.length 0 lo)).take (HT.sIx xs.length xs.length hi - HT.sIx xs.length 0 lo)
def gSlL:Ent->Option Int->Option Int->Option Ent:=fun x lo hi=>(asL x).map fun ds=>.own (zhH ds lo hi)
theorem Reps.cut{F:Hp}{vs:List V}{ds:List D}(r:Reps F vs ds)(lo hi:Option Int):Reps F (cutV vs lo hi) (zhH ds lo hi):=by
 unfold cutV zhH
 rw[r.length]
 exact(r.drop _).take _
section
variable {X:Cx}{e:Expr}{lo hi:Option Expr}{fe:FE}{fl fu:FO}{pos p2:Pos}
theorem von:VO X af oNo:=⟨_,won,fun B F H σ δ o Q s q k=>by cases q;exact k F H (Ex.refl s.fh)⟩
theorem vos(h:VE X e fe):VO X (ae e) (oSo fe):=by
 obtain⟨t,w,m⟩:=h.h
 refine⟨_,wos w,fun B F H σ δ o Q s q k=>?_⟩
 obtain⟨i,q1,q⟩:=map_some q
 cases q
 obtain⟨r,q2,q3⟩:=bind_some q1
 cases zbQ q3
 exact m B F H σ δ _ _ s q2 fun v F1 H1 x1 r1=>⟨i,zcg r1,k F1 H1 x1⟩
theorem vsl{g:Ent->Option Int->Option Int->Option Ent}(hr:SlD X g)(he:VE X e fe)(hl:VO X lo fl)(hu:VO X hi fu):VE X (.Subscript e (.Slice lo hi af p2) pos) (eSl g fe fl fu):=by
 obtain⟨t,w,m⟩:=he.h
 obtain⟨t1,w1,m1⟩:=hl.h
 obtain⟨t2,w2,m2⟩:=hu.h
 obtain⟨rr,hr1,hr2⟩:=hr
 refine⟨_,wslice hr1 w w1 w2,fun B F H σ δ res Q s q k=>?_⟩
 obtain⟨x,q1,q⟩:=bind_some q
 obtain⟨l,q2,q⟩:=bind_some q
 obtain⟨u,q3,q⟩:=bind_some q
 refine m B F H σ δ x _ s q1 fun v F1 H1 x1 r1=>?_
 refine m1 B F1 H1 σ δ l _ (s.ext x1) q2 fun F2 H2 x2=>?_
 refine m2 B F2 H2 σ δ u _ ((s.ext x1).ext x2) q3 fun F3 H3 x3=>?_
 have xx:=(x1.trans x2).trans x3
 exact hr2 H F3 H3 v l u x res Q xx.fh xx.hh ((r1.ext x2).ext x3) q fun v' F' H' x4 r4=>k v' F' H' (xx.trans x4) r4
theorem l_list:SlD X gSlL:=⟨_,sl_list,fun H0 F H x lo hi e res Q fh hh rx q k=>by
 obtain⟨ds,q1,q⟩:=map_some q
 cases q
 obtain⟨l,vs,e,h1,h2⟩:=RepR.toL rx fh q1
 exact⟨l,vs,e,h1,fun p hp=>k _ _ _ (Ex.lay fh hp) ⟨p,_,rfl,hh.free hp,zai,h2.cut lo hi,fh.free hp⟩⟩⟩
end
def zbw:List Ent->Option Ent
 | [x]=>match zdL x with
  | some ds=>ae (.val (.int ds.length))
  | none=>(asL x).map fun ds=>.val (.int ds.length)
 | _=>af
noncomputable def zg3:List Ent->Option Ent
 | [x]=>(sOf x).bind fun z=>gif (sz z.length) (ae (.val (.int z.length)))
 | _=>af
def zc4:List Ent->Option Ent
 | [x]=>(asL x).map fun ds=>.val (.tup ds)
 | _=>af
theorem zgH{K:ak}{H0 F H:Hp}{vs:List V}{x:Ent}(r:RepRs K H0 F H vs [x]):∃ v,vs=[v]/\RepR K H0 F H v x:=by
 cases r with
 | cons h t=>cases t;exact⟨_,rfl,h⟩
theorem one_of{g:List Ent->Option Ent}{es:List Ent}{res:Ent}(h0:g []=af)(h2:∀ a b r,g (a :: b :: r)=af)(q:g es=ae res):∃ x,es=[x]:=by
 match es,q with
 | [],q=>rw[h0] at q;cases q
 | [x],_=>exact⟨x,rfl⟩
 | a :: b :: r,q=>rw[h2] at q;cases q
theorem RepR.seq{K:ak}{H0 F H:Hp}{v:V}{x:Ent}{ds:List D}(r:RepR K H0 F H v x)(fh:Same F H)(q:zdL x=ae ds \/ asL x=ae ds):∃ l vs,v=.ref l/\(SqL K H l vs \/ SqT K H l vs)/\Reps F vs ds:=by
 rcases q with q | q
 ·cases zdm q
  cases (show Rep F v (.tup ds) from r) with
  | tup e rs=>exact⟨_,_,rfl,.inr (SqT.of (fh _ _ e)),rs⟩
 ·obtain⟨l,vs,e,h1,h2⟩:=RepR.toL r fh q
  exact⟨l,vs,e,.inl h1,h2⟩
section
variable {X:Cx}
theorem zck:zjo X (.builtin "len") zbw:=⟨_,zhs,fun H0 F H vs es res Q fh hh r q k=>by
 obtain⟨x,rfl⟩:=one_of rfl (fun _ _ _=>rfl) q
 obtain⟨v,rfl,rz⟩:=zgH r
 have go:∀ ds,(zdL x=ae ds \/ asL x=ae ds)->res=.val (.int ds.length)->∃ p ys,[v]=[V.ref p]/\(SqL X.K H p ys \/ SqT X.K H p ys)/\Q (.int ys.length) H:=fun ds h e=>by
  obtain⟨l,ws,e',h1,h2⟩:=RepR.seq rz fh h
  subst e e'
  exact⟨l,ws,rfl,h1,by rw[h2.length];exact k _ F H (Ex.refl fh) (.int _)⟩
 simp only[zbw] at q
 split at q
 ·rename_i ds h;exact go ds (.inl h) (bc q).symm
 ·obtain⟨ds,h,q⟩:=map_some q;exact go ds (.inr h) q.symm⟩
theorem c_lenS:zjo X (.builtin "len") zg3:=⟨_,zhG,fun H0 F H vs es res Q fh hh r q k=>by
 obtain⟨x,rfl⟩:=one_of rfl (fun _ _ _=>rfl) q
 obtain⟨v,rfl,rz⟩:=zgH r
 obtain⟨z,q1,q⟩:=bind_some q
 obtain⟨hl,qz⟩:=zbp q
 cases qz
 cases zbk q1
 cases zb4 rz
 exact⟨z,rfl,zfg hl,k _ F H (Ex.refl fh) (.int _)⟩⟩
theorem zee:zjo X (.type "tuple") zc4:=⟨_,zgV,fun H0 F H vs es res Q fh hh r q k=>by
 obtain⟨x,rfl⟩:=one_of rfl (fun _ _ _=>rfl) q
 obtain⟨v,rfl,rz⟩:=zgH r
 obtain⟨ds,q1,q⟩:=map_some q
 cases q
 obtain⟨l,ws,e',h1,h2⟩:=RepR.toL rz fh q1
 subst e'
 exact⟨l,ws,rfl,.inl ⟨h1,fun p hp=>k _ _ _ (Ex.alloc fh hp) (.tup zai (h2.mono (Same.alloc (fh.free hp))))⟩⟩⟩
end
def tyN:D->String
 | .non=> "NoneType" | .bl _=> "bool" | .int _=> "int" | .str _=> "str" | .tup _=> "tuple" | .lst _=> "list" | .dic _ _=> "dict"
def isiD(T:String)(d:D):Bool:=tyN d == T || (T == "int" && tyN d == "bool")
def gIsi(T:String):Ent->Option Ent
 | .val d=>ae (.val (.bl (isiD T d)))
 | _=>af
theorem kit_all{K:ak}{T:String}(hT:T = "bool" \/ T = "int" \/ T = "str" \/ T = "tuple" \/ T = "list")(d:D):dm K (.type (tyN d)) (.type T)=ae (isiD T d):=by
 rcases hT with rfl | rfl | rfl | rfl | rfl <;> cases d <;> kernel_rfl
theorem rep_ty{K:ak}{F H:Hp}{v:V}{d:D}(fh:Same F H)(r:Rep F v d):TyOf K H v (.type (tyN d)):=by
 cases r with
 | non=>exact .non
 | bl b=>exact .bl b
 | int i=>exact .int i
 | str z=>exact .str z
 | tup e _=>exact .tup (fh _ _ e)
 | lst e _=>exact .lst (fh _ _ e)
 | dic e _ _=>exact .dK (.inr ⟨_,fh _ _ e⟩)
section
variable {X:Cx}{a:Expr}{fa:FE}{x:Str}{p p1 pos:Pos}{T:String}{Tn:Str}
theorem zjI(ha:VE X a fa)(hg:Gl X "isinstance")(hm:X.mg "isinstance" = af)(hb:aZ "isinstance" = ae (.builtin "isinstance"))(hgT:Gl X Tn)(hmT:X.mg Tn=af)(hbT:aZ Tn=ae (.type T))(hT:T = "bool" \/ T = "int" \/ T = "str" \/ T = "tuple" \/ T = "list" :=by decide)
  (h1:zan a=true:=by rfl) (hn:Tn ≠ "__name__" :=by decide) (hd:(Tn == ("__debug__" : Str))=false:=by decide):VE X (.Call (.Name "isinstance" p) [a,.Name Tn p1] [] pos) (ex1 (gIsi T) fa):=by
 obtain⟨t,w,m⟩:=ha.h
 refine⟨_,wcb call_isi hg hm hb (wac w (wac (wbt hgT hmT hbT hn hd) wnil) h1) (h1:=h1),fun B F H σ δ res Q s q k=>?_⟩
 obtain⟨e,q1,q⟩:=bind_some q
 cases e with
 | val d=>
  cases q
  exact m B F H σ δ _ _ s q1 fun v F1 H1 x1 r1=>⟨v,T,_,_,rfl,rep_ty x1.fh r1,kit_all hT d,k _ F1 H1 x1 (.bl _)⟩
 | _=>cases q
end
def iL(fe:FE):FI:=fun δ=>(fe δ).bind fun x=>match x with
 | .val (.lst ds)=>ae ds
 | .own ds=>ae ds
 | _=>af
def iB(i:Nat):FI:=fun δ=>match δ[i]? with
 | some (ae (.bor ds))=>ae ds
 | _=>af
def iT(fe:FE):FI:=fun δ=>(fe δ).bind zdL
def b62(j:Int):Prop:=-(2 ^ 62)<=j/\j<2 ^ 62
theorem zeD{j:Int}(h:-1000000000<j/\j<1000000000):b62 j:=by unfold b62;lia
theorem zcK{j:Int}(h:-1000000000<j/\j<1000000000):b62 j=True:=eq_true (zeD h)
noncomputable def iR1(fa:FA):FI:=fun δ=>(fa δ).bind fun es=>match es with
 | [e]=>(iOf e).bind fun j=>gif (b62 j) (ae ((au j.toNat).map fun(i:Nat)=>D.int (0+i)))
 | _=>af
noncomputable def iR2(fa:FA):FI:=fun δ=>(fa δ).bind fun es=>match es with
 | [e,e']=>(iOf e).bind fun i=>(iOf e').bind fun j=>gif (b62 i/\b62 j) (ae ((au (j - i).toNat).map fun(k:Nat)=>D.int (i+k)))
 | _=>af
theorem zeX{K:ak}{B F0:Hp}{a:ai}{vs:List V}{ds:List D}(h:∀ F H,Same F0 F->Same F H->Same B H->SqL K H a vs)(r:Reps F0 vs ds):ItOk B F0 (Itl K a) ds:=fun F H s1 s2 s3=>by
 have hq:=h F H s1 s2 s3
 refine⟨⟨vs,hq,by rw[r.length];exact aA _⟩,fun i d e=>?_⟩
 obtain⟨v,h1,h2⟩:=r.get e
 refine⟨⟨vs,v,hq,h1⟩,fun x H' y=>?_⟩
 obtain⟨e',y⟩:=y
 subst e'
 have:=y vs hq
 rw[h1] at this
 cases this
 exact⟨F,Ex.refl s2,Rep.mono s1 h2⟩
theorem itOk_tup{K:ak}{B F0:Hp}{a:ai}{vs:List V}{ds:List D}(h:F0 a=ae (.tup vs))(r:Reps F0 vs ds):ItOk B F0 (Itt K a) ds:=fun F H s1 s2 s3=>by
 have hq:SqT K H a vs:=SqT.of (s2 _ _ (s1 _ _ h))
 refine⟨⟨vs,hq,by rw[r.length];exact aA _⟩,fun i d e=>?_⟩
 obtain⟨v,h1,h2⟩:=r.get e
 refine⟨⟨vs,v,hq,h1⟩,fun x H' y=>?_⟩
 obtain⟨e',y⟩:=y
 subst e'
 have:=y vs hq
 rw[h1] at this
 cases this
 exact⟨F,Ex.refl s2,Rep.mono s1 h2⟩
theorem zi3{B F0:Hp}{lo:Int}{n:Nat}:ItOk B F0 (Itr lo n) ((au n).map fun(i:Nat)=>D.int (lo+i)):=fun F H s1 s2 s3=>by
 refine⟨by simp[Itr],fun i d e=>?_⟩
 rw[aG] at e
 by_cases hi:i<n
 ·rw[bE hi] at e
  cases e
  refine⟨hi,fun x H' y=>?_⟩
  obtain⟨e',y⟩:=y
  subst e' y
  exact⟨F,Ex.refl s2,.int _⟩
 ·rw[dg (by simp;lia)] at e;cases e
section
variable {X:Cx}{tg e b:Expr}{es:List Expr}{fe:FE}{fa:FA}{p pos:Pos}{x:Str}
theorem iil(h:VE X e fe):VI X tg e (iL fe):=by
 obtain⟨t,w,m⟩:=h.h
 refine⟨_,il w,fun B F H σ δ ds R s q k=>?_⟩
 obtain⟨r,q1,q⟩:=bind_some q
 refine m B F H σ δ r _ s q1 fun v F1 H1 x1 r1=>?_
 split at q
 ·cases q
  cases (show Rep F1 v (.lst ds) from r1) with
  | lst e rs=>exact⟨_,rfl,⟨_,SqL.of (x1.fh _ _ e)⟩,k _ F1 H1 x1 (zeX (fun F H s1 s2 _=>SqL.of (s2 _ _ (s1 _ _ e))) rs)⟩
 ·cases q
  obtain⟨F2,x2,_,r2⟩:=RepR.frz x1 (Same.refl _) r1 rfl
  cases r2 with
  | lst e rs=>exact⟨_,rfl,⟨_,SqL.of (x2.fh _ _ e)⟩,k _ F2 H1 x2 (zeX (fun F H s1 s2 _=>SqL.of (s2 _ _ (s1 _ _ e))) rs)⟩
 ·cases q
theorem iib(i:Nat)(hN:X.N[i]? = ae x:=by rfl)(hv:Vis X.env.scope x:=by first | exact aE rfl | exact bd (aE rfl) | exact bd (bd rfl))(hd:(x == ("__debug__" : Str))=false:=by decide)
  (hcd:(x == ("__classdict__" : Str))=false:=by decide):VI X tg (.Name x pos) (iB i):=by
 refine⟨_,il (wv i hN hv hd hcd),fun B F H σ δ ds R s q k=>?_⟩
 unfold iB at q
 split at q
 ·rename_i es e
  cases q
  obtain⟨v,h1,l,vs,e,h2,h3⟩:=s.ent i _ e
  exact⟨v,h1,l,e,⟨vs,s.bh.seq h2⟩,k _ F H (Ex.refl s.fh) (zeX (fun F H _ _ s3=>s3.seq h2) h3)⟩
 ·cases q
theorem iit(h:VE X e fe):VI X tg e (iT fe):=by
 obtain⟨t,w,m⟩:=h.h
 refine⟨_,it w,fun B F H σ δ ds R s q k=>?_⟩
 obtain⟨r,q1,q⟩:=bind_some q
 refine m B F H σ δ r _ s q1 fun v F1 H1 x1 r1=>?_
 cases zdm q
 cases (show Rep F1 v (.tup ds) from r1) with
 | tup e rs=>exact⟨_,rfl,⟨_,SqT.of (x1.fh _ _ e)⟩,k _ F1 H1 x1 (itOk_tup e rs)⟩
theorem iir1(hg:Gl X "range")(hm:X.mg "range" = af)(ha:VA X [e] fa)(h1:zan e=true:=by rfl):VI X tg (.Call (.Name "range" p) [e] [] pos) (iR1 fa):=by
 obtain⟨t,w,m⟩:=ha.h
 refine⟨_,ir1 hg hm w h1,fun B F H σ δ ds R s q k=>?_⟩
 obtain⟨es,q1,q⟩:=bind_some q
 refine m B F H σ δ es _ s q1 fun vs F1 H1 x1 r1=>?_
 split at q
 ·obtain⟨j,q2,q⟩:=bind_some q
  obtain⟨hj,qz⟩:=zbp q
  cases qz
  cases zbQ q2
  obtain⟨v,rfl,rz⟩:=zgH r1
  cases zcg rz
  exact⟨j,rfl,hj.1,hj.2,k _ F1 H1 x1 zi3⟩
 ·cases q
theorem iir2(hg:Gl X "range")(hm:X.mg "range" = af)(ha:VA X [e,b] fa)(h1:zan e=true:=by rfl)(h2:zan b=true:=by rfl):VI X tg (.Call (.Name "range" p) [e,b] [] pos) (iR2 fa):=by
 obtain⟨t,w,m⟩:=ha.h
 refine⟨_,ir2 hg hm w h1 h2,fun B F H σ δ ds R s q k=>?_⟩
 obtain⟨es,q1,q⟩:=bind_some q
 refine m B F H σ δ es _ s q1 fun vs F1 H1 x1 r1=>?_
 split at q
 ·obtain⟨i,q2,q⟩:=bind_some q
  obtain⟨j,q3,q⟩:=bind_some q
  obtain⟨hj,qz⟩:=zbp q
  cases qz
  cases zbQ q2
  cases zbQ q3
  cases r1 with
  | cons ra rt=>
   obtain⟨w',rfl,rb⟩:=zgH rt
   cases zcg ra
   cases zcg rb
   exact⟨i,j,rfl,⟨hj.1.1,hj.1.2,hj.2.1,hj.2.2⟩,k _ F1 H1 x1 zi3⟩
 ·cases q
end
end L3

namespace L3
open PySem PySem.Spec PyProof.Rows L2
section
variable {prog:aR}{w:aX}{A:a8}{R:Result->am->Prop}{I:ai}{fp wr:List ai}{n:Nat}{P:Nat->ag->Prop}{St:Nat->aW->Prop}{kw:List (Str × ag)}
theorem mloop(W:Walks prog w A.in1 I fp wr n P St)(bt:Nat->Nat->Bool)(hc:CmpOf prog w A.in1 .Lt P bt)(S:ai)(hSf:S ∉ fp) :
  ∀ (k j:Nat) (s:am) (vb:ag) (c:Nat),n - (j+1)=k->j+1<=n->St (j+1) s.heap->P (argBest bt j) vb ->
  s.heap.get? S=ae { cls:=.type "list",dict:=af,data:=.seq #[vb,vb] c,slots:=#[]} ->
  (∀ v h' tk,P (argBest bt (n - 1)) v->(∀ b o,b ∉ wr->b ≠ S->s.heap.get? b=ae o->h'.get? b=ae o)->R (.ok (.ret v)) { s with heap:=h',toks:=tk}) ->
  codeAny (model prog w) A (.builtin "min.loop" ⟨[.ref I,.none,.ref S],kw⟩) R s:=by
 have hSw:S ∉ wr:=fun h=>hSf (W.sub _ h)
 have hnm:(toString "min" ++ toString ".loop" : String) = "min.loop" :=by decide
 intro k
 induction k with
 | zero=>
  intro j s vb c hk hj hst hPb hS hR
  have hin:j+1=n:=by lia
  refine codeAny_builtin dG ?_
  rw[ce bR _]
  show ay _ A.in1 (seqItems? (.ref S) >>= _) _ _ s
  refine aj (wpAny_seqItems hS rfl ?_)
  show ay _ A.in1 (tryCatch (pyNext (.ref I)) _ >>= _) _ _ s
  refine aj (wpAny_tryCatch (W.done s _ _ (hin ▸ hst) fun h' tk hk'=>?_))
  have hS':=hk' S _ hSw hS
  show ay _ A.in1 (updateSeq S (fun _=>#[]) >>= _) _ _ _
  refine aj ?_
  refine wpAny_updateSeq hS' rfl (aj (wpAny_letGo (aw ?_)))
  exact hR vb _ tk (by rw[<- hin];exact hPb) fun b o hbw hbS e=>(ci _ _ (cr hbS)).trans (hk' b o hbw e)
 | succ k ih=>
  intro j s vb c hk hj hst hPb hS hR
  have hlt:j+1<n:=by lia
  refine codeAny_builtin dG ?_
  rw[ce bR _]
  show ay _ A.in1 (seqItems? (.ref S) >>= _) _ _ s
  refine aj (wpAny_seqItems hS rfl ?_)
  show ay _ A.in1 (tryCatch (pyNext (.ref I)) _ >>= _) _ _ s
  refine aj (wpAny_tryCatch (W.item (j+1) s _ _ hlt hst fun v h' tk hP hst' hk'=>?_))
  have hS':=hk' S _ hSw hS
  show ay _ A.in1 (tryCatch (holding [v,v] (richCompare .Lt v vb >>= _)) _ >>= _) _ _ _
  refine aj (wpAny_tryCatch (cz (aj (hc (j+1) (argBest bt j) v vb _ _ _ hP hPb ?_))))
  refine aj (cz (wpAny_truthy_bool ?_))
  refine aj (wpAny_letGo (aw ?_))
  cases hb:bt (j+1) (argBest bt j) with
  | true=>
   simp only[if_true]
   refine aj ?_
   refine wpAny_updateSeq hS' rfl (aj (wpAny_letGo ?_))
   rw[hnm]
   refine aw ⟨plainId_quiet bR _,ih (j+1) _ v _ (by lia) hlt (W.frame _ _ _ hst' fun b hbf o e=>?_) (by simp only[argBest,hb,if_true];exact hP) (cW _ hS' rfl) fun v' h'' tk'' hP' hk''=>?_⟩
   ·exact(ci _ _ (fun h:S=b=>hSf (by rw[h];exact hbf))).trans e
   ·exact hR v' h'' tk'' hP' fun b o hbw hbS e=>hk'' b o hbw hbS ((ci _ _ (cr hbS)).trans (hk' b o hbw e))
  | false=>
   simp only[bp,if_false]
   refine aj (wpAny_letGo ?_)
   rw[hnm]
   refine aw ⟨plainId_quiet bR _,ih (j+1) _ vb c (by lia) hlt hst' (by simp only[argBest,hb,bp,if_false];exact hPb) hS' fun v' h'' tk'' hP' hk''=>?_⟩
   exact hR v' h'' tk'' hP' fun b o hbw hbS e=>hk'' b o hbw hbS (hk' b o hbw e)
theorem mloop1(W:Walks prog w A.in1 I fp wr n P St)(bt:Nat->Nat->Bool)(hc:CmpOf prog w A.in1 .Lt P bt)(S:ai)(hSf:S ∉ fp)(hn:0<n){s:am}{c:Nat}(hst:St 0 s.heap)
  (hS:s.heap.get? S=ae { cls:=.type "list",dict:=af,data:=.seq #[] c,slots:=#[]})
  (hR:∀ v h' tk,P (argBest bt (n - 1)) v->(∀ b o,b ∉ wr->b ≠ S->s.heap.get? b=ae o->h'.get? b=ae o)->R (.ok (.ret v)) { s with heap:=h',toks:=tk}) :
  codeAny (model prog w) A (.builtin "min.loop" ⟨[.ref I,.none,.ref S],kw⟩) R s:=by
 have hSw:S ∉ wr:=fun h=>hSf (W.sub _ h)
 have hnm:(toString "min" ++ toString ".loop" : String) = "min.loop" :=by decide
 refine codeAny_builtin dG ?_
 rw[ce bR _]
 show ay _ A.in1 (seqItems? (.ref S) >>= _) _ _ s
 refine aj (wpAny_seqItems hS rfl ?_)
 show ay _ A.in1 (tryCatch (pyNext (.ref I)) _ >>= _) _ _ s
 refine aj (wpAny_tryCatch (W.item 0 s _ _ hn hst fun v h' tk hP hst' hk'=>?_))
 have hS':=hk' S _ hSw hS
 show ay _ A.in1 (updateSeq S (fun _=>#[v,v]) >>= _) _ _ _
 refine aj ?_
 refine wpAny_updateSeq hS' rfl ?_
 rw[hnm]
 refine aw ⟨plainId_quiet bR _,mloop W bt hc S hSf _ 0 _ v _ rfl hn (W.frame _ _ _ hst' fun b hbf o e=>?_) hP (cW _ hS' rfl) fun v' h'' tk'' hP' hk''=>?_⟩
 ·exact(ci _ _ (fun h:S=b=>hSf (by rw[h];exact hbf))).trans e
 ·exact hR v' h'' tk'' hP' fun b o hbw hbS e=>hk'' b o hbw hbS ((ci _ _ (cr hbS)).trans (hk' b o hbw e))
theorem mloop0{d:ag}{kn:Str}(W:Walks prog w A.in1 I fp wr n P St)(S:ai)(hSf:S ∉ fp)(hn:n=0){s:am}{c:Nat}(hst:St 0 s.heap)
  (hS:s.heap.get? S=ae { cls:=.type "list",dict:=af,data:=.seq #[] c,slots:=#[]})
  (hR:∀ h' tk,(∀ b o,b ∉ wr->b ≠ S->s.heap.get? b=ae o->h'.get? b=ae o)->R (.ok (.ret d)) { s with heap:=h',toks:=tk}) :
  codeAny (model prog w) A (.builtin "min.loop" ⟨[.ref I,.none,.ref S],[(kn,d)]⟩) R s:=by
 refine codeAny_builtin dG ?_
 rw[ce bR _]
 show ay _ A.in1 (seqItems? (.ref S) >>= _) _ _ s
 refine aj (wpAny_seqItems hS rfl ?_)
 show ay _ A.in1 (tryCatch (pyNext (.ref I)) _ >>= _) _ _ s
 refine aj (wpAny_tryCatch (W.done s _ _ (hn ▸ hst) fun h' tk hk'=>?_))
 show ay _ A.in1 (rule _ >>= _) _ _ _
 refine aj (wpAny_rule ?_)
 exact aw (hR h' tk fun b o hbw _ e=>hk' b o hbw e)
end
section
variable {prog:aR}{w:aX}{A:a8}{E:ag->am->Prop}{s:am}{l:ai}{xs:Array (Int × Tok)}{d:ag}
theorem argsMinD(a d:ag):argsOk "min" ⟨[a],[(bZ "default",d)]⟩:=by unfold argsOk;kernel_rfl
theorem call_minD{Q:ag->am->Prop}(hh:A.handled=af)(hl:s.heap.IsList l (intItems xs))
  (h1:∀ v h' tk,0<xs.size->(intItems xs)[argBest (fun i j=>decide (numAt xs i<numAt xs j)) (xs.size - 1)]? = ae v->(∀ b o,s.heap.get? b=ae o->h'.get? b=ae o)->Q v { s with heap:=h',toks:=tk})
  (h2:∀ h' tk,xs.size=0->(∀ b o,s.heap.get? b=ae o->h'.get? b=ae o)->Q d { s with heap:=h',toks:=tk}) :
  ay (model prog w) A (call (.builtin "min") [.ref l] [(bZ "default",d)]) Q E s:=by
 have hnm:(toString "min" ++ toString ".loop" : String) = "min.loop" :=by decide
 refine kmb_tree PySem.F.kind_min PySem.F.plain_min PySem.F.entry_min (argsMinD _ _) ?_
 show ay _ A.in1 (fP "min" ["key","default"] 0 ⟨[],[(bZ "default",d)]⟩ >>= _) _ _ s
 refine aj (wpAny_of_eq (show fP "min" ["key","default"] 0 ⟨[],[(bZ "default",d)]⟩=pure [af,ae d] from rfl) ?_)
 refine aj (aw ?_)
 refine aj (iter_intList hl fun s₂ e st hfp hlI=>?_)
 subst e
 refine aj (wpAny_newObj_type ?_)
 rw[hnm]
 have W:=kj (prog:=prog) (w:=w) (A:=A.in1) hh s.heap.objs.size l hlI (intItems xs)
 have hsz:(intItems xs).size=xs.size:=by simp[intItems]
 have hSf:(s.heap.push { cls:=.type "list_iterator",data:=.fields #[.ref l,.int 0 0]}).objs.size ∉ [s.heap.objs.size,l]:=fun hm=>bT _ (hfp _ hm)
 have keep:∀ h':aW,(∀ b o,b ∉ [s.heap.objs.size]->b ≠ (s.heap.push { cls:=.type "list_iterator",data:=.fields #[.ref l,.int 0 0]}).objs.size->((s.heap.push { cls:=.type "list_iterator",data:=.fields #[.ref l,.int 0 0]}).push { cls:=.type "list",data:=.seq ([]:List ag).toArray}).get? b=ae o->h'.get? b=ae o)->∀ b o,s.heap.get? b=ae o->h'.get? b=ae o:=fun h' hk b o e=>by
  refine hk b o (fun hm=>?_) (fun hb=>?_) (aq _ (aq _ e))
  ·exact absurd (aK e) (by rw[bL.mp hm];exact bT _)
  ·have h1:=aK e
   rw[bC] at hb
   exact absurd h1 (by rw[hb];exact je.mpr (dk _))
 by_cases hx:xs.size=0
 ·refine aw ⟨plainId_quiet bR _,mloop0 W _ hSf (by rw[hsz];exact hx) (W.frame _ _ _ st fun b _ o e=>aq _ e) (az _ rfl) fun h' tk hk=>?_⟩
  exact h2 h' tk hx (keep h' hk)
 ·refine aw ⟨plainId_quiet bR _,mloop1 W _ (CmpOf.ints_lt (numAt xs) (fun _ _=>intItems_at)) _ hSf (by lia) (W.frame _ _ _ st fun b _ o e=>aq _ e) (az _ rfl) fun v h' tk hP hk=>?_⟩
  exact h1 v h' tk (by lia) (by simpa [intItems] using hP) (keep h' hk)
end
def isI:D->Option Int
 | .int i=>ae i
 | _=>af
def zjG:List D->Option (List Int)
 | []=>ae []
 | d :: ds=>(isI d).bind fun i=>(zjG ds).map fun is=>i :: is
def minI:List Int->Option Int
 | []=>af
 | i :: is=>ae (is.foldl (fun a b=>if b<a then b else a) i)
theorem ziC{F:Hp}:∀ {vs:List V} {ds:List D} {ns:List Int},Reps F vs ds->zjG ds=ae ns->vs=ns.map V.int
 | _,_,_,.nil,q=>by cases q;rfl
 | _,d :: ds,ns,.cons r t,q=>by
  simp only[zjG] at q
  obtain⟨i,q1,q⟩:=bind_some q
  obtain⟨is,q2,q⟩:=map_some q
  cases q
  cases d <;> cases q1
  cases r
  rw[aH,ziC t q2]
theorem zeO:∀ {ns:List Int} {us:List ag},Vals (ns.map V.int) us->∃ l:List (Int × Tok),us=l.map (fun p=>eP p.1 p.2)/\l.map (·.1)=ns
 | [],us,r=>by
  rw[cc] at r
  cases r
  exact⟨[],rfl,rfl⟩
 | n :: ns,us,r=>by
  rw[aH] at r
  cases r with
  | cons h t=>
   obtain⟨tk,e⟩:=h
   subst e
   obtain⟨l,ex1,ex2⟩:=zeO t
   exact⟨(n,tk) :: l,by rw[ex1];rfl,by rw[aH,ex2]⟩
theorem zgv(val:Nat->Int):∀ k,val (argBest (fun i j=>decide (val i<val j)) k)=((au k).map fun i=>val (i+1)).foldl (fun a b=>if b<a then b else a) (val 0)
 | 0=>rfl
 | k+1=>by
  rw[cf,bG,List.foldl_append,<- zgv val k]
  have e:argBest (fun i j=>decide (val i<val j)) (k+1)=if decide (val (k+1)<val (argBest (fun i j=>decide (val i<val j)) k))=true then k+1 else argBest (fun i j=>decide (val i<val j)) k:=rfl
  rw[e]
  generalize argBest (fun i j=>decide (val i<val j)) k=z
  simp only[decide_eq_true_eq,aH,cc,eX,List.foldl_nil]
  split <;> rfl
theorem minI_best{l:List (Int × Tok)}(hn:0<l.length):minI (l.map (·.1))=ae (numAt l.toArray (argBest (fun i j=>decide (numAt l.toArray i<numAt l.toArray j)) (l.length - 1))):=by
 cases l with
 | nil=>simp at hn
 | cons p l=>
  rw[zgv (numAt (p :: l).toArray)]
  show ae _=ae _
  congr 1
  rw[show(p :: l).length - 1=l.length by simp]
  have e0:numAt (p :: l).toArray 0=p.1:=by simp[numAt]
  have ex1:(au l.length).map (fun i=>numAt (p :: l).toArray (i+1))=l.map (·.1):=by
   apply dR
   ·simp
   ·intro i h1 h2
    simp at h1
    simp[numAt,h1]
  rw[e0,ex1]
section
variable {X:Cx}
theorem zik{pins:List (ai × Obj)}{σ:L2.St}{H:Hp}{s:am}{p:ai}{ns:List Int}(I:Inv X pins σ H s)(h:SqL X.K H p (ns.map V.int)):∃ l:List (Int × Tok),s.heap.IsList p (intItems l.toArray)/\l.map (·.1)=ns:=by
 obtain⟨its,r,pl,_⟩:=I.list h
 obtain⟨l,ex1,ex2⟩:=zeO r
 refine⟨l,?_,ex2⟩
 have:=pl.isList
 rw[ex1] at this
 simpa [intItems] using this
def gMinD:Ent->Ent->Option Ent:=fun x y=>(asL x).bind fun ds=>(zjG ds).bind fun ns=>match minI ns with
 | some m=>ae (.val (.int m))
 | none=>match y with
  | .val d=>ae (.val d)
  | _=>af
def rMinD(K:ak):R2:=fun x y H Q=>∃ (q:ai) (ns:List Int),x=.ref q/\SqL K H q (ns.map V.int)/\Q (match minI ns with | some m=>.int m | none=>y) H
theorem vminD{a d:Expr}{fa fd:FE}{p pos kpos:Pos}(ha:VE X a fa)(hd:VE X d fd)(hg:Gl X "min")(hm:X.mg "min" = af)(hb:aZ "min" = ae (.builtin "min"))(hc:X.calm=true:=by rfl)(hs:zan a=true:=by rfl) :
  VE X (.Call (.Name "min" p) [a] [⟨ae "default",d,kpos⟩] pos) (ex2 gMinD fa fd):=by
 obtain⟨ta,wa,ma⟩:=ha.h
 obtain⟨td,wd,md⟩:=hd.h
 refine⟨tOp (rMinD X.K) ta td,⟨?_⟩,.op ?_ ma md⟩
 ·intro pins s σ H Q I h
  refine cH (zei I hg hm hb ?_ (by decide) (by decide))
  have hA:=(wac wa wnil hs).h pos pins s σ H (fun xs H1=>match xs with | [x]=>td σ H1 fun y H2=>rMinD X.K x y H2 Q | _=>False) I h
  refine jT (thn hA fun us s1 h1=>?_) (by rw[zao hs];rfl) (by rw[zao hs];rfl)
  obtain⟨vs,H1,I1,r1,q1⟩:=h1
  cases r1 with
  | nil=>exact bx q1
  | cons rx rt=>
   cases rt with
   | cons _ _=>exact bx q1
   | nil=>
    have hK:=pk_cons (nm:=ae (bZ "default")) (kpos:=kpos) wd.h pk_nil pos pins s1 σ H1 (fun ys H2=>match ys with | [y]=>rMinD X.K _ y H2 Q | _=>False) I1 q1
    refine thn hK fun ws s2 h2=>?_
    obtain⟨zs,H2,I2,r2,q2⟩:=h2
    cases r2 with
    | nil=>exact bx q2
    | cons ry rt2=>
     cases rt2 with
     | cons _ _=>exact bx q2
     | nil=>
      obtain⟨q,ns,rfl,hq,q2⟩:=q2
      cases rx
      obtain⟨l,hl,e⟩:=zik I2 hq
      subst e
      refine call_minD (I2.ok.hd hc) hl (fun v h' tk hn hv kp=>?_) fun h' tk hn kp=>?_
      ·obtain⟨t,e⟩:=intItems_at hv
       subst e
       rw[minI_best (by simpa using hn)] at q2
       exact⟨.int _,H2,I2.kept (t':=tk) kp,⟨t,by simp⟩,q2⟩
      ·have e:l=[]:=List.eq_nil_of_length_eq_zero (by simpa using hn)
       subst e
       exact⟨_,H2,I2.kept (t':=tk) kp,ry,q2⟩
 ·intro H0 F H x y e e' res Q fh hh rx ry q k
  obtain⟨ds,q1,q⟩:=bind_some q
  obtain⟨ns,q2,q⟩:=bind_some q
  obtain⟨l,ws,el,h1,h2⟩:=RepR.toL rx fh q1
  rw[ziC h2 q2] at h1
  refine⟨l,ns,el,h1,?_⟩
  cases hm:minI ns with
  | some m=>simp only[hm] at q ⊢;cases q;exact k _ F H (Ex.refl fh) (.int _)
  | none=>
   simp only[hm] at q ⊢
   cases e' with
   | val d=>cases q;exact k _ F H (Ex.refl fh) ry
   | _=>cases q
end
end L3

namespace L3
open PySem PySem.Spec PyProof.Rows L2
theorem zci(l:List Nat):(mkS l).cps.toList=l:=by simp[mkS]
theorem mkS_cps(z:Str):mkS z.cps.toList=z:=by cases z;simp[mkS]
theorem zb2(l:List Nat):(mkS l).length=l.length:=by simp[mkS,hV]
def clp(n:Int)(v:Option Int)(d:Int):Int:=match v with
 | none=>d
 | some i=>max 0 (min (if i<0 then i+n else i) n)
theorem clp_ok(n:Nat)(v:Option Int)(d:Nat):clp n v d=((HT.sIx n d v:Nat):Int):=by
 cases v with
 | none=>rfl
 | some i=>
  show max 0 (min (if i<0 then i+(n:Int) else i) n)=(((if i<0 then (i+(n:Int)).toNat else min i.toNat n:Nat)):Int)
  by_cases h:i<0
  ·rw[if_pos h,if_pos h];lia
  ·rw[if_neg h,if_neg h];lia
theorem strIx(lo hi:Option Int)(n:Nat):cM lo hi 1 n=cM (ae ((HT.sIx n 0 lo:Nat):Int)) (ae ((HT.sIx n n hi:Nat):Int)) 1 n:=by
 have ex1:∀ a:Nat,a<=n->max (0:Int) (min (if (a:Int)<0 then (a:Int)+n else a) n)=a:=fun a h=>by
  rw[if_neg (by lia)];lia
 unfold cM
 simp only[show((1:Int) > 0)=True from by simp,if_true]
 rw[ex1 _ (HT.sIx_le n 0 (cg n) lo),ex1 _ (HT.sIx_le n n (aA n) hi)]
 show sliceRange (clp n lo ((0:Nat):Int)) (clp n hi (n:Int)) 1=_
 rw[clp_ok,clp_ok]
theorem slice_cut(x:Str)(lo hi:Option Int):jn x lo hi=mkS (zhH x.cps.toList lo hi):=by
 have hl:x.cps.toList.length=x.length:=by simp[hV]
 unfold jn zhH
 rw[strIx,hl]
 have h1:=HT.sIx_le x.length 0 (cg _) lo
 have h2:=HT.sIx_le x.length x.length (aA _) hi
 generalize HT.sIx x.length 0 lo=a at h1
 generalize HT.sIx x.length x.length hi=b at h2
 by_cases hab:a<=b
 ·rw[fF hab h2]
  split
  ·rename_i h
   have hz:b - a=x.length:=by simpa using h
   have ha:a=0:=by lia
   subst ha
   rw[jk,hz,<- hl,gz,mkS_cps]
  ·rw[<- fF hab h2,StrLaws.sliced_plain x hab h2]
   rfl
 ·have e:cM (ae (a:Int)) (ae (b:Int)) 1 x.length=[]:=by
   have n1:¬ ((a:Int)<0):=by lia
   have n2:¬ ((b:Int)<0):=by lia
   have ex1:max (0:Int) (min (a:Int) (x.length:Int))=a:=by lia
   have ex2:max (0:Int) (min (b:Int) (x.length:Int))=b:=by lia
   simp only[cM,n1,n2,if_false,ex1,ex2,show((1:Int) > 0)=True from by simp,if_true,sliceRange]
   rw[if_neg (by lia)]
   simp
  rw[e]
  split
  ·rename_i h
   have hz:0=x.length:=by simpa using h
   lia
  ·rw[show b - a=0 by lia,List.take_zero]
   rfl
section
variable {X:Cx}
theorem sl_str:SlR X (fun x lo hi H Q=>∃ z,x=.str z/\z.length<=ba/\Q (.str (mkS (zhH z.cps.toList lo hi))) H):=by
 intro pins s σ H x v vl vu lo hi sl Q I rx hs pl pu h
 obtain⟨z,rfl,hz,q⟩:=h
 obtain⟨t,rfl⟩:=rx
 obtain⟨o,ho,hc,hd⟩:=hs
 refine⟨"str",_,PySem.F.slot_str_getitem.lookup,typeIs_str _ _ _,?_⟩
 have fin:∀ t' k,EP X pins σ Q (.str (jn z lo hi) t') { s with toks:=k}:=fun t' k=>⟨.str _,H,I.tok k,⟨t',rfl⟩,by rw[slice_cut];exact q⟩
 cases pl with
 | none=>
  cases pu with
  | none=>exact wpAny_getItem_str_slice (l:=af) (u:=af) (st:=af) ⟨o,ho,hc,hd⟩ rfl (post_val_or_str ⟨bK (gA z _ _) hz,fin⟩)
  | int j u=>exact wpAny_getItem_str_slice (l:=af) (u:=ae (j,u)) (st:=af) ⟨o,ho,hc,hd⟩ rfl (post_val_or_str ⟨bK (gA z _ _) hz,fin⟩)
 | int i u=>
  cases pu with
  | none=>exact wpAny_getItem_str_slice (l:=ae (i,u)) (u:=af) (st:=af) ⟨o,ho,hc,hd⟩ rfl (post_val_or_str ⟨bK (gA z _ _) hz,fin⟩)
  | int j u'=>exact wpAny_getItem_str_slice (l:=ae (i,u)) (u:=ae (j,u')) (st:=af) ⟨o,ho,hc,hd⟩ rfl (post_val_or_str ⟨bK (gA z _ _) hz,fin⟩)
noncomputable def gSlS:Ent->Option Int->Option Int->Option Ent:=fun x lo hi=>(sOf x).bind fun z=>gif (sz z.length) (ae (.val (.str (mkS (zhH z.cps.toList lo hi)))))
theorem l_str:SlD X gSlS:=⟨_,sl_str,fun H0 F H x lo hi e res Q fh hh rx q k=>by
 obtain⟨z,q1,q⟩:=bind_some q
 obtain⟨hl,qz⟩:=zbp q
 cases qz
 cases zbk q1
 exact⟨z,zb4 rx,zfg hl,k _ F H (Ex.refl fh) (.str _)⟩⟩
theorem zhV{F:Hp}:∀ (zs:List Str),Reps F (zs.map V.str) (zs.map D.str)
 | []=>.nil
 | z :: zs=>.cons (.str z) (zhV zs)
end
def eBM(g:Ent->List Ent->Option Ent)(fo:FE)(fs:FA):FE:=fun δ=>(fo δ).bind fun x=>(fs δ).bind fun es=>g x es
structure MtD(X:Cx)(T:String)(name:Str)(g:Ent->List Ent->Option Ent):Prop where
 h:∃ id r,PlainAttrs T/\Slot T name id/\typeOf (.builtin id)=pure (.type "method_descriptor")/\MtR X id r /\
  (∀ (H0 F H:Hp) (x:V) (e:Ent) (es:List Ent) (res:Ent),Same F H->RepR X.K H0 F H x e->g e es=ae res->tyV X.K T x H) /\
  ∀ (H0 F H:Hp) (x:V) (vs:List V) (e:Ent) (es:List Ent) (res:Ent) (Q:VK),Same F H->Same H0 H->RepR X.K H0 F H x e->RepRs X.K H0 F H vs es->g e es=ae res->(∀ v F' H',Ex F H F' H'->RepR X.K H0 F' H' v res->Q v H')->r x vs H Q
section
variable {X:Cx}{T:String}{name:Str}{g:Ent->List Ent->Option Ent}{o e:Expr}{es:List Expr}{fo:FE}{fs:FA}{apos cpos:Pos}
theorem vbm(M:MtD X T name g)(ho:VE X o fo)(ha:VA X (e :: es) fs)(hbase:cq o name X.env (eval o X.env)=eval o X.env:=by rfl)(hl:decide ((e :: es).length+0+0<30)=true:=by rfl)(hline:(apos.endLine == cpos.line)=true:=by rfl)
  (h1:zan e=true:=by rfl) (h2:es.all zan=true:=by rfl):VE X (.Call (.Attribute o name apos) (e :: es) [] cpos) (eBM g fo fs):=by
 obtain⟨t,wo,mo⟩:=ho.h
 obtain⟨ta,wa,ma⟩:=ha.h
 obtain⟨id,r,pa,sl,ht,hm,hty,hsem⟩:=M.h
 refine⟨_,wbm pa sl ht hm wo wa hbase hl hline h1 h2,fun B F H σ δ res Q s q k=>?_⟩
 obtain⟨x,q1,q⟩:=bind_some q
 obtain⟨rs,q2,q⟩:=bind_some q
 refine mo B F H σ δ x _ s q1 fun v F1 H1 x1 r1=>⟨hty H F1 H1 v x rs res x1.fh r1 q,?_⟩
 refine ma B F1 H1 σ δ rs _ (s.ext x1) q2 fun vs F2 H2 x2 r2=>?_
 exact hsem H F2 H2 v vs x rs res Q x2.fh (x1.trans x2).hh (r1.ext x2) (r2.earlier x1.hh) q fun v' F' H' x3 r3=>k v' F' H' ((x1.trans x2).trans x3) r3
end
def isS:D->Option Str
 | .str i=>ae i
 | _=>af
def zhP:List D->Option (List Str)
 | []=>ae []
 | d :: ds=>(isS d).bind fun i=>(zhP ds).map fun is=>i :: is
theorem zgP{F:Hp}:∀ {vs:List V} {ds:List D} {ns:List Str},Reps F vs ds->zhP ds=ae ns->vs=ns.map V.str
 | _,_,_,.nil,q=>by cases q;rfl
 | _,d :: ds,ns,.cons r t,q=>by
  simp only[zhP] at q
  obtain⟨i,q1,q⟩:=bind_some q
  obtain⟨is,q2,q⟩:=map_some q
  cases q
  cases d <;> cases q1
  cases r
  rw[aH,zgP t q2]
theorem zeu:∀ {ns:List Str} {us:List ag},Vals (ns.map V.str) us->StrsAre us ns
 | [],us,r=>by rw[cc] at r;cases r;exact .nil
 | n :: ns,us,r=>by
  rw[aH] at r
  cases r with
  | cons h t=>
   obtain⟨tk,e⟩:=h
   subst e
   exact .cons n tk (zeu t)
section
variable {X:Cx}
theorem mt_join:MtR X "str.join" (fun x xs H Q=>∃ (z:Str) (p:ai) (zs:List Str),x=.str z/\xs=[.ref p]/\SqL X.K H p (zs.map V.str)/\(zs.map (·.length)).sum+zs.length * z.length<=16777216/\Q (.str (gB z zs)) H):=by
 intro pins s σ H x xs v us Q I rx r h
 obtain⟨z,p,zs,rfl,rfl,hq,hl,q⟩:=h
 obtain⟨t,rfl⟩:=rx
 obtain⟨u,rfl,ru⟩:=vals1 r
 cases ru
 obtain⟨its,r',pl,_⟩:=I.list hq
 exact join_list pl.isList (by simpa using zeu r') hl fun t' k=>⟨.str _,H,I.tok k,⟨t',rfl⟩,q⟩
noncomputable def zib:Ent->List Ent->Option Ent
 | x,[y]=>(sOf x).bind fun z=>(asL y).bind fun ds=>(zhP ds).bind fun zs=>gif (sz ((zs.map (·.length)).sum+zs.length * z.length)) (ae (.val (.str (gB z zs))))
 | _,_=>af
theorem m_join:MtD X "str" "join" zib:=by
 refine⟨_,_,gW,PySem.F.slot_str_join,PySem.F.type_str_join,mt_join,?_,?_⟩
 ·intro H0 F H x e es res fh r q
  unfold zib at q
  split at q
  ·obtain⟨z,q1,q⟩:=bind_some q
   cases zbk q1
   cases zb4 r
   rfl
  ·cases q
 ·intro H0 F H x vs e es res Q fh hh r rs q k
  unfold zib at q
  split at q
  ·obtain⟨z,q1,q⟩:=bind_some q
   obtain⟨ds,q2,q⟩:=bind_some q
   obtain⟨zs,q3,q⟩:=bind_some q
   obtain⟨hl,qz⟩:=zbp q
   cases qz
   cases zbk q1
   cases zb4 r
   obtain⟨w',rfl,rz⟩:=zgH rs
   obtain⟨l,ws,e',h1,h2⟩:=RepR.toL rz fh q2
   subst e'
   rw[zgP h2 q3] at h1
   exact⟨z,l,zs,rfl,rfl,h1,by unfold sz at hl;lia,k _ F H (Ex.refl fh) (.str _)⟩
  ·cases q
end
end L3

namespace L3
open PySem PySem.Spec PyProof.Rows L2
theorem len1{α:Type}{us:List α}(h:us.length=1):∃ a0,us=[a0]:=match us,h with
 | [a0],_=>⟨a0,rfl⟩
theorem zhg{α:Type}{us:List α}(h:us.length=2):∃ a0 a1,us=[a0,a1]:=match us,h with
 | [a0,a1],_=>⟨a0,a1,rfl⟩
theorem len3{α:Type}{us:List α}(h:us.length=3):∃ a0 a1 a2,us=[a0,a1,a2]:=match us,h with
 | [a0,a1,a2],_=>⟨a0,a1,a2,rfl⟩
theorem len4{α:Type}{us:List α}(h:us.length=4):∃ a0 a1 a2 a3,us=[a0,a1,a2,a3]:=match us,h with
 | [a0,a1,a2,a3],_=>⟨a0,a1,a2,a3,rfl⟩
theorem len5{α:Type}{us:List α}(h:us.length=5):∃ a0 a1 a2 a3 a4,us=[a0,a1,a2,a3,a4]:=match us,h with
 | [a0,a1,a2,a3,a4],_=>⟨a0,a1,a2,a3,a4,rfl⟩
structure FunA(K:ak)(x qual:Str)(st:Stmt)(f:ai)(fd:bq):Prop where
 ex:∃ (oc:ag) (od:Option ai) (dV kV doc pm:ag) (an:Option ai) (cdv ct:ag) (osl:Array (Option ag)),
  fd=aQ x qual (zak st) (zah st) (zad st) dV kV doc pm an cdv ct/\K.lookup f=ae ⟨oc,od,.func fd,osl⟩/\aM K cdv qual=true
 kp:aI K (.ref f)=true
theorem FunA.of{K:ak}{x qual:Str}{st:Stmt}{f:ai}{fd:bq}(F:Fun K x qual st f fd):FunA K x qual st f fd:=
 let⟨oc,od,kV,doc,pm,an,cdv,ct,osl,e,l,c⟩:=F.ex;⟨⟨oc,od,.none,kV,doc,pm,an,cdv,ct,osl,e,l,c⟩,F.kp⟩
section
variable {P:aR}{w:aX}{K:ak}{mg:Str->Option ag}{base:aW}{x qual:Str}{st:Stmt}{f:ai}{fd:bq}{N ps:List Str}{k:Nat}{ks:List Kd}{g:List D->Option Ent}
theorem za3(F:FunA K x qual st f fd)(S:FnScope N ps (zad st))(fb:FS)(hk:ks.length=ps.length)(hg:∀ ds r,g ds=ae r->zcz ks (N.length - ps.length) fb ds=ae r)
  (hbody:∀ (cdv:ag) (A:a8) (outer:List Env) (s:am) (H:Hp) (E:XK),Room k (A.deeper (envOfC qual (zad st) s.heap.objs.size f cdv))->VSs (zg8 CX0 P w K mg base N qual (zad st) f cdv A outer s H E).nox (zah st) fb) :
  FnOk P w K mg base CX0 (k+1) f fd ps (spD K ks g):=by
 obtain⟨oc,od,dV,kV,doc,pm,an,cdv,ct,osl,rfl,lk,hcd⟩:=F.ex
 refine fn_of lk hcd S (fun vs H Q E h=>?_) fun A outer s H vs Q E hr h=>?_
 ·obtain⟨F,ds,r,_,a,_⟩:=h
  rw[a.length,hk]
 ·obtain⟨F,ds,r,fh,a,q,kk⟩:=h
  obtain⟨t,wt,m⟩:=(hbody cdv A outer s H E hr).h
  refine⟨t,wt.h.nox,?_⟩
  obtain⟨es,q1,q2⟩:=bind_some (hg ds r q)
  obtain⟨out,q3,q4⟩:=bind_some q2
  obtain⟨hl,he⟩:=a.start q1
  have hvs:=a.length
  have hap:∀ (i:Nat) (e:Ent),(es ++ aB (N.length - ps.length) af)[i]? = ae (ae e)->es[i]? = ae (ae e):=fun i e h=>by
   by_cases hi:i<es.length
   ·rwa [bo hi] at h
   ·rw[cR (by lia),c9] at h
    split at h <;> cases h
  have s0:RS K ⟨H,af⟩ F H (L2.start N vs) (es ++ aB (N.length - ps.length) af):=by
   refine⟨fh,Same.refl H,?_,fun i e h=>?_,fun a b l ds e hab h1=>?_,fun a b e1 e2 v1 v2 ad hab q1 _ _ _ q5 _ _=>?_,fun w o hw _=>by cases hw⟩
   ·unfold L2.start
    simp only[a9,ax,cE]
    lia
   ·obtain⟨⟨v,h1,h2⟩,_⟩:=he i e (hap i e h)
    refine⟨v,?_,h2⟩
    unfold L2.start
    rw[bo (by rw[ax];exact(aO.mp h1).1),aG,h1]
    rfl
   ·have:=(he a _ (hap a _ h1)).2.1
    cases this
   ·obtain⟨_,_,ho⟩:=he a _ (hap a _ q1)
    rw[ho] at q5
    cases q5
  refine m ⟨H,af⟩ F H (L2.start N vs) _ out _ s0 q3 ?_
  cases out with
  | nx δ'=>cases q4;exact fun σ' F' H' s' y=>kk .non F' H' ⟨y.ff,s'.fh,s'.bh,y.nw⟩ .non
  | rt r' δ'=>cases q4;exact fun v σ' F' H' s' y z=>kk v F' H' ⟨y.ff,s'.fh,s'.bh,y.nw⟩ z
  | bk δ'=>cases q4
  | ct δ'=>cases q4
end
def gK{α:Type}(n:Nat)(us ws:List α):List α:=if us.length=n/\ws.length=1 then us ++ ws else []
theorem gK_shape{α:Type}{n m:Nat}{us ws:List α}(h:(gK n us ws).length=m+1):us.length=n/\ws.length=1/\gK n us ws=us ++ ws:=by
 unfold gK at h ⊢
 split at h
 ·rename_i hc;rw[if_pos hc];exact⟨hc.1,hc.2,rfl⟩
 ·cases h
theorem gK_rel{n:Nat}{vs:List V}{us:List ag}{zs:List V}{ws:List ag}(r:Vals vs us)(rz:Vals zs ws):Vals (gK n vs zs) (gK n us ws):=by
 unfold gK
 rw[r.length,rz.length]
 split
 ·exact r.append rz
 ·exact .nil
structure DefD(K:ak)(mg:Str->Option ag)(x:Str)(st:Stmt)(ps:List Str)(f:ai)(fd:bq):Prop where
 fn:FunA K x x st f fd
 mg:mg x=ae (.ref f)
 b:Binds K fd ps []
 b1:Binds K fd ps [.bool false]
 kb:KBinds K fd ps [ps.getLastD ""] (gK (ps.length - 1)) (gK (ps.length - 1))
def DfOk(K:ak)(df:ag):Prop:=∃ (T:ai) (o:Obj) (n:Nat),df=.ref T/\K.lookup T=ae o/\o.data=.seq #[.bool false] n
section
variable {X:Cx}{es:List Expr}{e d:Expr}{fs:FA}{fk:FE}{x:Str}{p pos kpos:Pos}{ks:List Kd}{g:List D->Option Ent}
theorem RepRs.snoc{K:ak}{H0 F H:Hp}{v:V}{e:Ent}(r:RepR K H0 F H v e):∀ {vs:List V} {es:List Ent},RepRs K H0 F H vs es->RepRs K H0 F H (vs ++ [v]) (es ++ [e])
 | _,_,.nil=>.cons r .nil
 | _,_,.cons h t=>.cons h (RepRs.snoc r t)
theorem vclF{CX:CXT}{k j:Nat}{f:ai}{fd:bq}{ps:List Str}{st:Stmt}{E:XK}(F:FnOk X.prog X.w X.K X.mg X.base CX k f fd ps (spD X.K ks g))(D:DefD X.K X.mg x st ps f fd)(hr:Room j X.A)(hg:Gl X x)(hx:zc6 CX X E)
  (ha:VA X (e :: es) fs) (hjk:k<=j:=by decide) (hdb:(x == ("__debug__" : Str))=false:=by decide) (h1:zan e=true:=by rfl) (h2:es.all zan=true:=by rfl) :
  VE X (.Call (.Name x p) (e :: es) [] pos) (zag ks g fs):=let⟨_,w,m⟩:=ha.h;⟨_,⟨pe_call F (hr.mono hjk) hg D.mg D.fn.kp D.b .nil hx w.h hdb (zao h1) (zcy h2)⟩,.call m rfl⟩
end
end L3

namespace L3
open PySem L2
theorem zda{f g:FS}{δ δ':En}(h:f δ=ae (.nx δ')):zar f g δ=g δ':=by
 unfold zar;rw[h];rfl
theorem fIfT{ft:FT}{f g:FS}{δ:En}(h:ft δ=ae true):fIf ft f g δ=f δ:=by unfold fIf;rw[h];rfl
theorem fIfF{ft:FT}{f g:FS}{δ:En}(h:ft δ=ae false):fIf ft f g δ=g δ:=by unfold fIf;rw[h];rfl
theorem zaX{tg:FG}{f:FS}{d:D}{ds:List D}{δ δ1 δ2:En}(h1:tg d δ=ae δ1)(h2:f δ1=ae (.nx δ2)):loop tg f (d :: ds) δ=loop tg f ds δ2:=by
 show((tg d δ).bind fun δ1=>(f δ1).bind (lpO (loop tg f ds)))=_
 rw[h1]
 show(f δ1).bind (lpO (loop tg f ds))=_
 rw[h2]
 rfl
theorem ze2(I:Nat->En->Prop){tg:FG}{f:FS}:∀ (ds:List D) (k:Nat) (δ:En),
  (∀ i d δ,ds[i]? = ae d->I (k+i) δ->∃ δ1 δ2,tg d δ=ae δ1/\(f δ1=ae (.nx δ2) \/ f δ1=ae (.ct δ2))/\I (k+i+1) δ2)->I k δ ->
  ∃ δ',loop tg f ds δ=ae (.nx δ')/\I (k+ds.length) δ'
 | [],k,δ,_,h0=>⟨δ,rfl,h0⟩
 | d :: ds,k,δ,h,h0=>by
  obtain⟨δ1,δ2,h1,h2,h3⟩:=h 0 d δ rfl h0
  obtain⟨s',h4,h5⟩:=ze2 I ds (k+1) δ2 (fun i d' s hd hi=>by
   have:=h (i+1) d' s (by simpa using hd) (by rw[show k+(i+1)=k+1+i by lia];exact hi)
   rwa [show k+(i+1)=k+1+i by lia] at this) h3
  refine⟨s',?_,by rw[aL,show k+(ds.length+1)=k+1+ds.length by lia];exact h5⟩
  show((tg d δ).bind fun δ1=>(f δ1).bind (lpO (loop tg f ds)))=_
  rw[h1]
  show(f δ1).bind (lpO (loop tg f ds))=_
  rcases h2 with h2 | h2
  ·rw[h2];exact h4
  ·rw[h2];exact h4
theorem zf7{ft:D->Option Bool}{fe:D->Option Ent}(ds out:List D)(hl:out.length=ds.length)(h1:∀ d ∈ ds,ft d=ae true)(h2:∀ (i:Nat) (d:D),ds[i]? = ae d->∃ y,(fe d).bind asV=ae y/\out[i]? = ae y):zcA ft fe ds=ae out:=by
 induction ds generalizing out with
 | nil=>cases out with
  | nil=>rfl
  | cons _ _=>simp at hl
 | cons d ds ih=>
  cases out with
  | nil=>simp at hl
  | cons y out=>
   obtain⟨y',ex1,ex2⟩:=h2 0 d rfl
   cases ex2
   simp only[zcA]
   rw[h1 d aC,ex1,ih out (by simpa using hl) (fun x hx=>h1 x (av _ hx)) fun i x hx=>by simpa using h2 (i+1) x (by simpa using hx)]
   rfl
theorem zem{fr:List Nat}{fi:FI}{ft:FT}{fe:FE}{δ:En}{ds out:List D}(hi:fi δ=ae ds)(hc:zcA (fun d=>ft (cEn fr δ d)) (fun d=>fe (cEn fr δ d)) ds=ae out)(hl:out.length<=1000000):eLC fr fi ft fe δ=ae (.own out):=by
 unfold eLC
 rw[hi]
 show(zcA _ _ ds).bind _=_
 rw[hc]
 show(if out.length<=1000000 then ae (Ent.own out) else af)=_
 rw[if_pos hl]
theorem ixN_nat{n i:Nat}(h:i<n):ixN n (i:Int)=ae i:=by
 unfold ixN
 rw[if_pos (by lia),if_pos (by lia)]
 simp
theorem atI_of{α:Type}{xs:List α}{i:Nat}{x:α}(h:xs[i]? = ae x):atI xs (i:Int)=ae x:=by
 unfold atI
 rw[ixN_nat (aO.mp h).1]
 exact h
theorem zel{α:Type}{xs:List α}{i:Int}{x:α}(h0:0<=i)(h:xs[i.toNat]? = ae x):atI xs i=ae x:=by
 obtain⟨n,rfl⟩:=eB h0
 exact atI_of (by simpa using h)
theorem zfZ{α β:Type}(f:α->β)(d:α){xs:List α}{i:Int}(h0:0<=i)(h:i.toNat<xs.length):atI (xs.map f) i=ae (f (xs.getD i.toNat d)):=by
 refine zel h0 ?_
 rw[aG,bg h]
 simp[h]
theorem zhB{α:Type}{xs:List α}{x:α}(h:xs.getLast? = ae x):atI xs (-1)=ae x:=by
 have hne:xs ≠ []:=by rintro rfl;simp at h
 have hl:0<xs.length:=List.length_pos_iff.mpr hne
 unfold atI ixN
 rw[if_neg (by lia),if_pos (by lia)]
 show xs[(-1+(xs.length:Int)).toNat]? = _
 rw[show(-1+(xs.length:Int)).toNat=xs.length - 1 by lia,<- gi]
 exact h
theorem cutG_to{α:Type}(xs:List α)(j:Nat):zhH xs af (ae (j:Int))=xs.take j:=by
 unfold zhH
 rw[HT.sIx_none,HT.sIx_nat,jk,Nat.sub_zero]
 by_cases h:j<=xs.length
 ·rw[jf h]
 ·rw[i5 (by lia),gz,gX (by lia)]
theorem cutG_from{α:Type}(xs:List α)(j:Nat):zhH xs (ae (j:Int)) af=xs.drop j:=by
 unfold zhH
 rw[HT.sIx_none,HT.sIx_nat]
 by_cases h:j<=xs.length
 ·rw[jf h,gX (by rw[dQ];lia)]
 ·rw[i5 (by lia),eJ,List.drop_eq_nil_of_le (by lia)]
  simp
theorem zgZ{α:Type}(xs:List α){j:Int}(h:0<=j):zhH xs af (ae j)=xs.take j.toNat:=by
 obtain⟨n,rfl⟩:=eB h
 rw[cutG_to];simp
theorem zje{α:Type}(xs:List α){j:Int}(h:0<=j):zhH xs (ae j) af=xs.drop j.toNat:=by
 obtain⟨n,rfl⟩:=eB h
 rw[cutG_from];simp
theorem zgY(a b:List Nat):mkS a ++ mkS b=mkS (a ++ b):=by
 show(⟨a.toArray ++ b.toArray⟩:Str)=⟨(a ++ b).toArray⟩
 simp
theorem zfS(zs:List Str):zhP (zs.map .str)=ae zs:=by
 induction zs with
 | nil=>rfl
 | cons z zs ih=>simp[zhP,isS,ih]
theorem intsD_map(zs:List Int):zjG (zs.map .int)=ae zs:=by
 induction zs with
 | nil=>rfl
 | cons z zs ih=>simp[zjG,isI,ih]
theorem join_mkS(ls:List (List Nat)):gB (mkS []) (ls.map mkS)=mkS ls.flatten:=by
 have e:∀ zs:List Str,gB (mkS []) zs=jU (mkS []) zs:=fun zs=>StrLaws.glued_eq_join (mkS []) zs
 rw[e]
 induction ls with
 | nil=>rfl
 | cons a r ih=>
  cases r with
  | nil=>simp[jU]
  | cons b r=>
   rw[aH] at ih ⊢
   show mkS a ++ mkS [] ++ jU (mkS []) (mkS b :: r.map mkS)=_
   rw[ih,zgY,zgY]
   simp
theorem zgs(w:List Nat):gB (mkS []) (w.map fun c=>mkS [c])=mkS w:=by
 have:=join_mkS (w.map fun c=>[c])
 rw[cI] at this
 rw[show(w.map fun c=>mkS [c])=w.map (mkS ∘ fun c=>[c]) from rfl,this]
 congr 1
 clear this
 induction w with
 | nil=>rfl
 | cons c w ih=>simp[ih]
end L3

namespace L3
open PySem PySem.Spec PyProof.Rows L2
def flD:D->Bool
 | .non=>true
 | .bl _=>true
 | .int _=>true
 | .str _=>true
 | _=>false
def eqF:D->D->Bool
 | .non,.non=>true
 | .bl a,.bl b=>a == b
 | .bl a,.int b=>(if a then 1 else 0) == b
 | .int a,.bl b=>a == (if b then 1 else 0)
 | .int a,.int b=>a == b
 | .str a,.str b=>a == b
 | _,_=>false
def zgj(f:D->D->Option Bool):List D->List D->Option Bool
 | [],[]=>ae true
 | d :: ds,e :: es=>(f d e).bind fun b=>(zgj f ds es).map fun c=>b && c
 | _,_=>ae false
def eqD:Nat->D->D->Option Bool
 | n+1,.tup a,.tup b=>zgj (eqD n) a b
 | n+1,.lst a,.lst b=>zgj (eqD n) a b
 | _,d,d'=>if (flD d && flD d')=true then ae (eqF d d') else af
theorem flat_ok{F:Hp}{x y:V}{d d':D}(rx:Rep F x d)(ry:Rep F y d')(h:(flD d && flD d')=true):flatV x=true/\flatV y=true/\eqV x y=eqF d d':=by
 rw[cV] at h
 obtain⟨h1,h2⟩:=h
 cases rx <;> first | (cases h1;done) | (cases ry <;> first | (cases h2;done) | exact⟨rfl,rfl,rfl⟩)
theorem zfG{f:D->D->Option Bool}:∀ {ds es:List D} {b:Bool},zgj f ds es=ae b->∀ j (h1:j<ds.length) (h2:j<es.length),∃ c,f ds[j] es[j]=ae c
 | [],_,_,_,j,h1,_=>by simp at h1
 | _ :: _,[],_,_,j,_,h2=>by simp at h2
 | d :: ds,e :: es,b,q,j,h1,h2=>by
  simp only[zgj] at q
  obtain⟨c,q1,q⟩:=bind_some q
  obtain⟨c',q2,q⟩:=map_some q
  cases j with
  | zero=>exact⟨c,q1⟩
  | succ j=>
   simp only[aL] at h1 h2
   exact zfG q2 j (by lia) (by lia)
def eAt(f:D->D->Option Bool)(ds es:List D)(j:Nat):Bool:=(f (ds.getD j .non) (es.getD j .non)).getD false
theorem zfv{f:D->D->Option Bool}:∀ {ds es:List D} {b:Bool},zgj f ds es=ae b->b=((au (min ds.length es.length)).all (eAt f ds es) && ds.length == es.length)
 | [],[],b,q=>by cases q;rfl
 | [],_ :: _,b,q=>by cases q;simp
 | _ :: _,[],b,q=>by cases q;simp
 | d :: ds,e :: es,b,q=>by
  simp only[zgj] at q
  obtain⟨c,q1,q⟩:=bind_some q
  obtain⟨c',q2,q⟩:=map_some q
  subst q
  have ih:=zfv q2
  have e1:min (d :: ds).length (e :: es).length=min ds.length es.length+1:=by simp only[aL];lia
  have e2:((d :: ds).length == (e :: es).length)=(ds.length == es.length):=by simp
  have e3:eAt f (d :: ds) (e :: es) 0=c:=by unfold eAt;simp[q1]
  have e4:(eAt f (d :: ds) (e :: es)) ∘ Nat.succ=eAt f ds es:=by funext j;unfold eAt;simp
  rw[e1,e2,List.range_succ_eq_map,fW,List.all_map,e3,e4,ih,Bool.and_assoc]
theorem Reps.getE{F:Hp}:∀ {vs:List V} {ds:List D},Reps F vs ds->∀ j (h1:j<vs.length) (h2:j<ds.length),Rep F vs[j] ds[j]
 | _,_,.nil,j,h,_=>by simp at h
 | v :: vs,d :: ds,.cons r t,j,h1,h2=>by
  cases j with
  | zero=>exact r
  | succ j=>exact Reps.getE t j (by simpa using h1) (by simpa using h2)
theorem Vals.getE:∀ {vs:List V} {us:List ag},Vals vs us->∀ j (h1:j<vs.length) (h2:j<us.length),RelV vs[j] us[j]
 | _,_,.nil,j,h,_=>by simp at h
 | v :: vs,d :: ds,.cons r t,j,h1,h2=>by
  cases j with
  | zero=>exact r
  | succ j=>exact Vals.getE t j (by simpa using h1) (by simpa using h2)
theorem zip_two{α β:Type}{a a':List α}{b b':List β}(h:a.length=b.length)(h':a'.length=b'.length)(e:a.zip b=a'.zip b'):a=a'/\b=b':=by
 have e1:=congrArg (kM Prod.fst) e
 have e2:=congrArg (kM kL) e
 rw[i6 (by lia),i6 (by lia)] at e1
 rw[eI (by lia),eI (by lia)] at e2
 exact⟨e1,e2⟩
mutual
theorem Rep.det{F:Hp}:∀ {v:V} {d:D},Rep F v d->∀ {d':D},Rep F v d'->d=d'
 | _,_,.non,_,h=>by cases h;rfl
 | _,_,.bl _,_,h=>by cases h;rfl
 | _,_,.int _,_,h=>by cases h;rfl
 | _,_,.str _,_,h=>by cases h;rfl
 | _,_,.tup e r,_,h=>by
  cases h with
  | tup e' r'=>rw[e] at e';cases e';rw[Reps.det r r']
  | lst e' r'=>rw[e] at e';cases e'
  | dic e' l' r'=>rw[e] at e';cases e'
 | _,_,.lst e r,_,h=>by
  cases h with
  | tup e' r'=>rw[e] at e';cases e'
  | lst e' r'=>rw[e] at e';cases e';rw[Reps.det r r']
  | dic e' l' r'=>rw[e] at e';cases e'
 | _,_,.dic e l r,_,h=>by
  cases h with
  | tup e' r'=>rw[e] at e';cases e'
  | lst e' r'=>rw[e] at e';cases e'
  | dic e' l' r'=>
   rw[e] at e'
   obtain⟨h1,h2⟩:=zip_two (by rw[ax];exact l) (by rw[ax];exact l') (HO.dK.inj (HO.frz.inj (bc e')).2)
   subst h2
   rw[Reps.det r r',(List.map_inj_right (fun _ _ h=>iX h)).mp h1]
theorem Reps.det{F:Hp}:∀ {vs:List V} {ds:List D},Reps F vs ds->∀ {ds':List D},Reps F vs ds'->ds=ds'
 | _,_,.nil,_,h=>by cases h;rfl
 | _,_,.cons r t,_,h=>by
  cases h with
  | cons r' t'=>rw[Rep.det r r',Reps.det t t']
end
theorem zfQ{f:D->D->Option Bool}:∀ {ds:List D},(∀ d ∈ ds,∀ b,f d d=ae b->b=true)->∀ {b:Bool},zgj f ds ds=ae b->b=true
 | [],_,b,q=>by cases q;rfl
 | d :: ds,h,b,q=>by
  simp only[zgj] at q
  obtain⟨c,q1,q⟩:=bind_some q
  obtain⟨c',q2,q⟩:=map_some q
  subst q
  rw[h d aC c q1,zfQ (fun d hd=>h d (av _ hd)) q2]
  rfl
theorem eqF_self(d:D)(h:flD d=true):eqF d d=true:=by
 cases d <;> first | rfl | (simp[eqF];done) | (cases h)
theorem zfy:∀ (n:Nat) (d:D) {b:Bool},eqD n d d=ae b->b=true
 | 0,d,b,q=>by
  have q':(if (flD d && flD d)=true then ae (eqF d d) else af)=ae b:=by cases d <;> exact q
  split at q'
  ·rename_i h;cases q';exact eqF_self d (by simpa using h)
  ·cases q'
 | n+1,d,b,q=>by
  cases d with
  | tup a=>exact zfQ (fun d _ b=>zfy n d) q
  | lst a=>exact zfQ (fun d _ b=>zfy n d) q
  | dic ks a=>cases q
  | _=>cases q;first | rfl | simp[eqF]
section
variable {X:Cx}{pins:List (ai × Obj)}{s:am}{σ:L2.St}{H F:Hp}
theorem eqAt_D(I:Inv X pins σ H s)(fh:Same F H):∀ (n:Nat) (A:a8),A.units+n<cLine->∀ {x y:V} {u v:ag} {d d':D} {b:Bool},Rep F x d->Rep F y d'->RelV x u->RelV y v->eqD n d d'=ae b->hW A s u v b
 | 0,A,hu,x,y,u,v,d,d',b,rx,ry,ru,rv,q=>by
  have q':(if (flD d && flD d')=true then ae (eqF d d') else af)=ae b:=by cases d <;> cases d' <;> exact q
  split at q'
  ·rename_i h
   cases q'
   obtain⟨h1,h2,h3⟩:=flat_ok rx ry h
   rw[<- h3]
   exact eqAt_V ru rv h1 h2
  ·cases q'
 | n+1,A,hu,x,y,u,v,d,d',b,rx,ry,ru,rv,q=>by
  have hin:A.in1.units+n<cLine:=by show A.units+1+n<cLine;lia
  have hA:A.units<cLine:=by lia
  have flat:(if (flD d && flD d')=true then ae (eqF d d') else af)=ae b->hW A s u v b:=fun q'=>by
   split at q'
   ·rename_i h
    cases q'
    obtain⟨h1,h2,h3⟩:=flat_ok rx ry h
    rw[<- h3]
    exact eqAt_V ru rv h1 h2
   ·cases q'
  cases rx with
  | @tup a xs ds e r=>
   cases ry with
   | @tup a' ys es e' r'=>
    cases ru;cases rv
    by_cases hne:a=a'
    ·subst hne
     rw[e] at e'
     cases e'
     cases Reps.det r r'
     rw[zfy (n+1) (.tup ds) q]
     exact eU _
    ·obtain⟨its,rr,ht,_⟩:=I.tuple (SqT.of (fh _ _ e))
     obtain⟨its',rr',ht',_⟩:=I.tuple (SqT.of (fh _ _ e'))
     have q':zgj (eqD n) ds es=ae b:=q
     have l1:=r.length;have l2:=r'.length;have l3:=rr.length;have l4:=rr'.length
     have:=kG (A:=A) (e:=eAt (eqD n) ds es) ht ht' hA fun j h1 h2=>by
      have g1:j<its.length:=by simpa using h1
      have g2:j<its'.length:=by simpa using h2
      obtain⟨c,hc⟩:=zfG q' j (by lia) (by lia)
      have:eAt (eqD n) ds es j=c:=by unfold eAt;simp[show j<ds.length by lia,show j<es.length by lia,hc]
      rw[this]
      exact eqAt_D I fh n A.in1 hin (r.getE j (by lia) (by lia)) (r'.getE j (by lia) (by lia)) (Vals.getE rr j (by lia) g1) (Vals.getE rr' j (by lia) g2) hc
     rw[zfv q']
     have e1:its.toArray.size=ds.length:=by simp;lia
     have e2:its'.toArray.size=es.length:=by simp;lia
     rw[e1,e2] at this
     exact fQ hne this
   | _=>exact flat q
  | @lst a xs ds e r=>
   cases ry with
   | @lst a' ys es e' r'=>
    cases ru;cases rv
    by_cases hne:a=a'
    ·subst hne
     rw[e] at e'
     cases e'
     cases Reps.det r r'
     rw[zfy (n+1) (.lst ds) q]
     exact eU _
    ·obtain⟨its,rr,ht,_⟩:=I.list (SqL.of (fh _ _ e))
     obtain⟨its',rr',ht',_⟩:=I.list (SqL.of (fh _ _ e'))
     have q':zgj (eqD n) ds es=ae b:=q
     have l1:=r.length;have l2:=r'.length;have l3:=rr.length;have l4:=rr'.length
     have e1:its.toArray.size=ds.length:=by simp;lia
     have e2:its'.toArray.size=es.length:=by simp;lia
     rw[zfv q']
     by_cases hs:ds.length=es.length
     ·have:=kO (A:=A) (e:=eAt (eqD n) ds es) ht.isList ht'.isList (by rw[e1,e2,hs]) hA fun j h1 h2=>by
       have g1:j<its.length:=by simpa using h1
       have g2:j<its'.length:=by simpa using h2
       obtain⟨c,hc⟩:=zfG q' j (by lia) (by lia)
       have:eAt (eqD n) ds es j=c:=by unfold eAt;simp[show j<ds.length by lia,show j<es.length by lia,hc]
       rw[this]
       exact eqAt_D I fh n A.in1 hin (r.getE j (by lia) (by lia)) (r'.getE j (by lia) (by lia)) (Vals.getE rr j (by lia) g1) (Vals.getE rr' j (by lia) g2) hc
      rw[e1] at this
      rw[<- hs,jV,beq_self_eq_true,dX]
      exact fQ hne this
     ·rw[beq_eq_false_iff_ne.mpr hs,dq]
      exact fQ hne (jW ht.isList ht'.isList (by rw[e1,e2];simpa using hs) hA)
   | _=>exact flat q
  | _=>cases ry <;> exact flat q
def rEqD(K:ak)(neg:Bool):R2:=fun x y H Q=>∃ (F:Hp) (a a':ai) (xs ys:List V) (ds es:List D) (b:Bool),Same F H/\x=.ref a/\y=.ref a'/\((SqL K H a xs/\SqL K H a' ys) \/ (SqT K H a xs/\SqT K H a' ys)) /\
 Reps F xs ds/\Reps F ys es/\zgj (eqD 8) ds es=ae b/\Q (.bl (if neg=true then !b else b)) H
theorem op_eqD{k:Nat}(hr:Room k X.A):OpR X (bB .Eq) (rEqD X.K false):=by
 intro pins s σ H x y v u Q I rx ry h
 obtain⟨F,a,a',xs,ys,ds,es,b,fh,rfl,rfl,hq,r,r',q,k⟩:=h
 cases rx;cases ry
 have hA:X.A.units+9<cLine:=by have:=hr.un;lia
 have hin:X.A.in1.units+8<cLine:=by show X.A.units+1+8<cLine;lia
 have l1:=r.length;have l2:=r'.length
 have he:∀ {its its':List ag},Vals xs its->Vals ys its'->∀ j (h1:j<its.toArray.size) (h2:j<its'.toArray.size),hW X.A.in1 s its.toArray[j] its'.toArray[j] (eAt (eqD 8) ds es j):=fun {its its'} rr rr' j h1 h2=>by
  have l3:=rr.length;have l4:=rr'.length
  have g1:j<its.length:=by simpa using h1
  have g2:j<its'.length:=by simpa using h2
  obtain⟨c,hc⟩:=zfG q j (by lia) (by lia)
  have:eAt (eqD 8) ds es j=c:=by unfold eAt;simp[show j<ds.length by lia,show j<es.length by lia,hc]
  rw[this]
  exact eqAt_D I fh 8 X.A.in1 hin (r.getE j (by lia) (by lia)) (r'.getE j (by lia) (by lia)) (Vals.getE rr j (by lia) g1) (Vals.getE rr' j (by lia) g2) hc
 rw[zfv q] at k
 rcases hq with ⟨h1,h2⟩ | ⟨h1,h2⟩
 ·obtain⟨its,rr,ht,_⟩:=I.list h1
  obtain⟨its',rr',ht',_⟩:=I.list h2
  have l3:=rr.length;have l4:=rr'.length
  have e1:its.toArray.size=ds.length:=by simp;lia
  have e2:its'.toArray.size=es.length:=by simp;lia
  by_cases hs:ds.length=es.length
  ·refine SeqAt.eq_listAt (e:=eAt (eqD 8) ds es) ht.isList ht'.isList (by rw[e1,e2,hs]) (by lia) (he rr rr') ⟨.bl _,H,I,rfl,?_⟩
   rw[e1]
   rw[<- hs,jV,beq_self_eq_true,dX] at k
   exact k
  ·refine SeqAt.eq_list_lengthsAt ht.isList ht'.isList (by rw[e1,e2];simpa using hs) (by lia) ⟨.bl _,H,I,rfl,?_⟩
   rw[beq_eq_false_iff_ne.mpr hs,dq] at k
   exact k
 ·obtain⟨its,rr,ht,_⟩:=I.tuple h1
  obtain⟨its',rr',ht',_⟩:=I.tuple h2
  have l3:=rr.length;have l4:=rr'.length
  have e1:its.toArray.size=ds.length:=by simp;lia
  have e2:its'.toArray.size=es.length:=by simp;lia
  refine SeqAt.eq_tupleAt (e:=eAt (eqD 8) ds es) ht ht' (by lia) (he rr rr') ⟨.bl _,H,I,rfl,?_⟩
  rw[e1,e2]
  exact k
def sqOf(x y:Ent):Option (List D × List D):=match asL x,asL y with
 | some ds,ae es=>ae (ds,es)
 | _,_=>match zdL x,zdL y with
  | some ds,ae es=>ae (ds,es)
  | _,_=>af
def gEqD:Ent->Ent->Option Ent:=fun x y=>(sqOf x y).bind fun p=>(zgj (eqD 8) p.1 p.2).map fun b=>.val (.bl b)
theorem sqOf_ok{K:ak}{H0 F H:Hp}{x y:V}{e e':Ent}{p:List D × List D}(fh:Same F H)(rx:RepR K H0 F H x e)(ry:RepR K H0 F H y e')(q:sqOf e e'=ae p) :
  ∃ (a a':ai) (xs ys:List V),x=.ref a/\y=.ref a'/\((SqL K H a xs/\SqL K H a' ys) \/ (SqT K H a xs/\SqT K H a' ys))/\Reps F xs p.1/\Reps F ys p.2:=by
 unfold sqOf at q
 split at q
 ·rename_i ds es h1 h2
  cases q
  obtain⟨l,vs,e1,s1,r1⟩:=rx.toL fh h1
  obtain⟨l',vs',e2,s2,r2⟩:=ry.toL fh h2
  exact⟨l,l',vs,vs',e1,e2,.inl ⟨s1,s2⟩,r1,r2⟩
 ·split at q
  ·rename_i ds es h1 h2
   cases q
   cases zdm h1
   cases zdm h2
   cases (show Rep F x (.tup _) from rx) with
   | tup e r=>
    cases (show Rep F y (.tup _) from ry) with
    | tup e' r'=>exact⟨_,_,_,_,rfl,rfl,.inr ⟨SqT.of (fh _ _ e),SqT.of (fh _ _ e')⟩,r,r'⟩
  ·cases q
theorem o_eqD{k:Nat}(hr:Room k X.A):OpD X (bB .Eq) gEqD:=⟨_,op_eqD hr,fun H0 F H x y e e' res Q fh hh rx ry q k=>by
 obtain⟨p,q1,q⟩:=bind_some q
 obtain⟨b,q2,q⟩:=map_some q
 cases q
 obtain⟨a,a',xs,ys,e1,e2,h,r,r'⟩:=sqOf_ok fh rx ry q1
 exact⟨F,a,a',xs,ys,_,_,b,fh,e1,e2,h,r,r',q2,k _ F H (Ex.refl fh) (.bl _)⟩⟩
end
end L3

namespace L2
open PySem PySem.Spec PyProof.Rows
def ItS(x:Str):It:=⟨fun i _=>i<x.cps.size,fun i H v H'=>H'=H/\∃ c,x.cps[i]? = ae c/\v=.str ⟨#[c]⟩,fun i _=>i=x.cps.size⟩
theorem ziF{P:aR}{w:aX}{K:ak}{tg:Expr}(it:ai)(x:Str)(t:Tok)(k:String)(hk:["enumerate","zip","dict_itemiterator","dict_reverseitemiterator","odict_iterator","itertools.zip_longest","itertools.pairwise"].contains k=false)
  (W:∀ A:a8,A.handled=af->Walks P w A it [it] [it] x.cps.size (SignAt x) (fun i h=>h.IsStrIter it k x t i))
  (S:∀ (A:a8) (i:Nat) (s:am) (Q:ag->am->Prop) (E:ag->am->Prop),s.heap.IsStrIter it k x t i->Q (.ref it) s->ay (model P w) A (pyIter (.ref it)) Q E s) :
  Turn P w K tg (ItS x) [it] it (fun i h=>h.IsStrIter it k x t i) where
 mem:=by simp
 obj:=fun i h st b hb=>by
  have e:b=it:=by simpa using hb
  subst e
  obtain⟨o,e,c,d⟩:=st
  exact⟨o,e,fun v z=>by rw[d] at z;cases z⟩
 keep:=fun i h h' st k=>let⟨o,ho,r⟩:=st;⟨o,k it (by simp) o ho,r⟩
 item:=by
  intro X hP hw hK hc i pins s σ H E I hf st hg
  subst hP hw hK
  obtain⟨f0,f1,f2,f3,f4,f5⟩:=hf it (by simp)
  refine(W X.A (I.ok.hd hc)).item i s _ _ hg st fun v h' tk hv st' kk=>?_
  obtain⟨c,u,hc,rfl⟩:=hv
  have I1:Inv X pins σ H { s with heap:=h',toks:=tk}:=I.turned (fun b o hb e=>kk b o (by simpa using hb) e) f0 f1 f3 f4 f5
  obtain⟨o,e,c',d⟩:=id st'
  exact⟨_,rfl,go_of (s:={ s with heap:=h',toks:=tk}) e c' d hk ⟨.str ⟨#[c]⟩,H,I1,⟨u,rfl⟩,⟨rfl,c,hc,rfl⟩,st',fun b hb=>(hf b hb).1⟩⟩
 done:=by
  intro X hP hw hK hc i pins s σ H E I hf st hg
  subst hP hw hK
  obtain⟨f0,f1,f2,f3,f4,f5⟩:=hf it (by simp)
  have hg':i=x.cps.size:=hg
  subst hg'
  exact(W X.A (I.ok.hd hc)).done s _ _ st fun h' tk eb=>⟨rfl,I.turned (fun b o hb e=>eb b o (by simpa using hb) e) f0 f1 f3 f4 f5⟩
 self:=S
def iStr(tl:TE):TI:=fun σ H R=>tl σ H fun x H1=>∃ z,x=.str z/\R (ItS z) H1
theorem pi_str{X:Cx}{tg l:Expr}{tl:TE}(hl:PE X l tl):PI X tg l (iStr tl):=by
 intro pins s σ H R I h
 refine thn (hl pins s σ H _ I h) fun v s1 ⟨x,H1,I1,r1,q1⟩=>?_
 obtain⟨z,e,q⟩:=q1
 subst e
 obtain⟨t,rfl⟩:=r1
 cases ha:z.cps.all (·<128)
 ·refine wpAny_pyIter_wide ha ?_
  refine⟨s1.heap.objs.size,[s1.heap.objs.size],_,_,H1,rfl,I1.kept (t':=s1.toks) fun b o e=>aq _ e,ziF _ z t "str_iterator" (by decide) (fun A hA=>Walks.strWide hA _ z t) (fun A i s Q E st h=>wpAny_pyIter_striter_wide st h),⟨_,az _ rfl,rfl,rfl⟩,fun b hb=>?_,q⟩
  have e:b=s1.heap.objs.size:=by simpa using hb
  subst e
  exact I1.fpOk (aA _) (I1.hok.fresh (aA _))
 ·refine wpAny_pyIter_ascii ha ?_
  refine⟨s1.heap.objs.size,[s1.heap.objs.size],_,_,H1,rfl,I1.kept (t':=s1.toks) fun b o e=>aq _ e,ziF _ z t "str_ascii_iterator" (by decide) (fun A hA=>Walks.strAscii hA _ z t) (fun A i s Q E st h=>wpAny_pyIter_striter_ascii st h),⟨_,az _ rfl,rfl,rfl⟩,fun b hb=>?_,q⟩
  have e:b=s1.heap.objs.size:=by simpa using hb
  subst e
  exact I1.fpOk (aA _) (I1.hok.fresh (aA _))
end L2
namespace L3
open PySem PySem.Spec PyProof.Rows L2
def iS(fe:FE):FI:=fun δ=>(fe δ).bind fun x=>(sOf x).map fun z=>z.cps.toList.map fun c=>D.str (mkS [c])
theorem itOk_str{B F0:Hp}{z:Str}:ItOk B F0 (ItS z) (z.cps.toList.map fun c=>D.str (mkS [c])):=fun F H s1 s2 s3=>by
 refine⟨by simp[ItS],fun i d e=>?_⟩
 rw[aG] at e
 obtain⟨c,e1,e2⟩:=dH.mp e
 have e1':z.cps[i]? = ae c:=by rw[g6] at e1;exact e1
 refine⟨?_,fun x H' y=>?_⟩
 ·show i<z.cps.size
  obtain⟨h,_⟩:=Array.getElem?_eq_some_iff.mp e1'
  exact h
 ·obtain⟨e',c',h1,h2⟩:=y
  subst e' h2
  rw[e1'] at h1
  cases h1
  subst e2
  exact⟨F,Ex.refl s2,.str _⟩
theorem iis{X:Cx}{tg e:Expr}{fe:FE}(h:VE X e fe):VI X tg e (iS fe):=by
 obtain⟨t,w,m⟩:=h.h
 refine⟨_,⟨pi_str w.h⟩,fun B F H σ δ ds R s q k=>?_⟩
 obtain⟨r,q1,q⟩:=bind_some q
 obtain⟨z,q2,q⟩:=map_some q
 subst q
 refine m B F H σ δ r _ s q1 fun v F1 H1 x1 r1=>?_
 cases zbk q2
 cases (show Rep F1 v (.str z) from r1)
 exact⟨z,rfl,k _ F1 H1 x1 itOk_str⟩
end L3
namespace L2
open PySem PySem.Spec PyProof.Rows
section
variable {prog:aR}{w:aX}{A:a8}{E:ag->am->Prop}
end
end L2
namespace L3
open PySem PySem.Spec PyProof.Rows L2
theorem gl0:∀ (ds:List D) (δ δ':En),zgq ds δ=ae δ'->ds.length=0:=fun ds δ δ' h=>by
 match ds,h with
 | [],_=>rfl
theorem gl1{g:FG}{gs:FGs}{n:Nat}(hn:∀ (ds:List D) (δ δ':En),gs ds δ=ae δ'->ds.length=n):∀ (ds:List D) (δ δ':En),zcB g gs ds δ=ae δ'->ds.length=n+1:=fun ds δ δ' h=>by
 match ds,h with
 | d :: ds,h=>
  obtain⟨δ1,_,q⟩:=bind_some (show(g d δ).bind (gs ds)=ae δ' from h)
  rw[aL,hn ds δ1 δ' q]
end L3

namespace TS
open PySem
theorem lay_led(t:SetTable)(es:Array (Int × ag))(h:Int)(x:ag):(layNew t es h x).2.1.led=t.led/\((layNew t es h x).2.1.plain=true->t.plain=true):=by
 unfold layNew
 split
 ·rename_i q
  dsimp only
  unfold SetTable.orStandIn
  split
  ·exact⟨rfl,id⟩
  ·exact⟨rfl,fun z=>by cases z⟩
 ·exact⟨rfl,fun z=>by cases z⟩
theorem relay_led(t:SetTable)(es:Array (Int × ag))(n:Nat):(relayAll t es n).2.1.led=t.led/\((relayAll t es n).2.1.plain=true->t.plain=true):=by
 unfold relayAll
 split
 ·rename_i t' order q
  have:t'.led=t.led/\t'.plain=t.plain:=by
   unfold SetTable.relaid SetTable.laid at q
   simp only[Option.bind_eq_bind,Option.bind_eq_some_iff] at q
   obtain⟨o,_,q⟩:=q
   cases q
   exact⟨rfl,rfl⟩
  dsimp only
  split
  ·exact⟨this.1,fun z=>by rw[<- this.2];exact z⟩
  ·exact⟨rfl,fun z=>by cases z⟩
 ·exact⟨rfl,fun z=>by cases z⟩
end TS
namespace TS
open PySem
def bt(w:aX):Bool:=w.params.followText "set-order"
def txt:ag->Str
 | .str z _=>z
 | _=> ""
structure IsS(w:aX)(h:aW)(a:ai)(zs:List Str):Prop where
 ex:∃ (o:Obj) (es:Array (Int × ag)) (ep:Nat) (t:SetTable),h.get? a=ae o/\o.ExactSet/\o.data=.set es ep t/\(∀ e ∈ es.toList,∃ z u,e=(hashStr w z,cw z u))/\t.fits es.size=true/\t.led=!bt w/\(es.size ≠ 0->t.plain=false)/\(es.toList.map fun e=>txt e.2).Perm zs
 nd:zs.Nodup
variable {prog:aR}{w:aX}{A:a8}{E:ag->am->Prop}{s:am}{a:ai}{zs:List Str}
theorem elemsS{es:List (Int × ag)}(h:∀ e ∈ es,∃ z u,e=(hashStr w z,cw z u)):ElemsOf (strKind prog w) es:=fun e he=>by
 obtain⟨z,u,rfl⟩:=h e he
 exact⟨⟨z,by simp[strKind,dW],rfl⟩,rfl⟩
theorem freshS:IsS w (s.heap.push { cls:=.type "set",dict:=af,data:=.set #[] 0 (.fresh 0 0 (!bt w))}) s.heap.objs.size []:=
 ⟨⟨_,#[],0,_,az _ rfl,⟨rfl,rfl,rfl⟩,rfl,(fun e he=>by simp at he),rfl,rfl,(fun z=>absurd rfl z),.nil⟩,.nil⟩
theorem IsS.mono{h h':aW}(i:IsS w h a zs)(k:∀ o,h.get? a=ae o->h'.get? a=ae o):IsS w h' a zs:=
 let⟨o,es,ep,t,go,r⟩:=i.ex;⟨⟨o,es,ep,t,k o go,r⟩,i.nd⟩
def put(zs:List Str)(z:Str):List Str:=if z ∈ zs then zs else zs ++ [z]
theorem put_lenS(zs:List Str)(z:Str):(put zs z).length<=zs.length+1:=by unfold put;split <;> simp
theorem relaidS{o:Obj}{es:Array (Int × ag)}{ep:Nat}{t:SetTable}{h:aW}(go:h.get? a=ae o)(gx:o.ExactSet)(gd:o.data=.set es ep t){es':Array (Int × ag)}{t':SetTable}
  (ge:∀ e ∈ es'.toList,∃ z u,e=(hashStr w z,cw z u)) (gf:t'.fits es'.size=true) (gl:t'.led=!bt w) (gp:t'.plain=false) (gm:(es'.toList.map fun e=>txt e.2).Perm zs) (nd:zs.Nodup) :
  (h.update a (ia es' t')).get? a=ae { o with data:=.set es' (ep+1) t'}/\IsS w (h.update a (ia es' t')) a zs:=by
 have g:=cW (ia es' t') go (by rw[putSet_of es' t' gd];rfl)
 rw[putSet_of es' t' gd] at g
 exact⟨g,⟨_,es',ep+1,t',g,gx,rfl,ge,gf,gl,fun _=>gp,gm⟩,nd⟩
theorem tailS{g:Bool->Sem Unit}(hg:∀ (b:Bool) (s₁:am) (R:Unit->am->Prop),R () s₁->ay (model prog w) A (g b) R E s₁){o:Obj}{es es1:Array (Int × ag)}{ep n:Nat}{t t2:SetTable}{c x:Bool}{R:Option Bool->am->Prop}
  (go:s.heap.get? a=ae o) (gx:o.ExactSet) (gd:o.data=.set es ep t) (ge:∀ e ∈ es1.toList,∃ z u,e=(hashStr w z,cw z u)) (gf:t2.fits es1.size=true) (gl:t2.led=!bt w) (gp:t2.plain=false)
  (gm:(es1.toList.map fun e=>txt e.2).Perm zs) (nd:zs.Nodup) (hz:es1.size<scanBound) (k:∀ h',du a s.heap h'->IsS w h' a zs->R (ae true) { s with heap:=h'}) :
  ay (model prog w) A (do
   storeSet a es1 t2
   if c=true then do
    g x
    storeSet a (relayAll t2 es1 n).1 (relayAll t2 es1 n).2.1
    pure (ae true)
   else pure (ae true)) R E s:=by
 have up:=d3 s.heap a (ia es1 t2)
 refine aj (wpAny_storeSet_of go gd ?_ (fits_of_scanBound hz))
 obtain⟨g1,i1⟩:=relaidS (w:=w) go gx gd ge gf gl gp gm nd
 split
 ·refine aj (hg _ _ _ ?_)
  have r1:=relayAll_perm t2 es1 n
  have r2:=relayAll_fits t2 es1 n
  have r3:=relay_led t2 es1 n
  generalize relayAll t2 es1 n=L at r1 r2 r3 ⊢
  obtain⟨es2,t3,gv⟩:=L
  dsimp only at r1 r2 r3 ⊢
  have rs:es2.size=es1.size:=by have:=r1.length_eq;simpa using this
  refine aj (wpAny_storeSet_of g1 rfl ?_ (fits_of_scanBound (by lia)))
  obtain⟨_,i2⟩:=relaidS (w:=w) (zs:=zs) g1 gx rfl (es':=es2) (t':=t3) (fun e he=>ge e (r1.mem_iff.mp he)) r2 (r3.1.trans gl) (by
   cases hp:t3.plain with
   | false=>rfl
   | true=>rw[r3.2 hp] at gp;cases gp) ((r1.map _).trans gm) nd
  exact aw (k _ (up.trans (d3 ..)) i2)
 ·exact aw (k _ up i1)
theorem addSS{z:Str}{u:Tok}{Q:Bool->am->Prop}(i:IsS w s.heap a zs)(hz:zs.length+1<scanBound)
  (k:∀ b h',du a s.heap h'->IsS w h' a (put zs z)->Q b { s with heap:=h'}):ay (model prog w) A (setAddHashed a (.str z u) (hashStr w z)) Q E s:=by
 obtain⟨o,es,ep,t,go,gx,gd,ge,gf,gl,gp,gm⟩:=i.ex
 have gE:=elemsS (prog:=prog) ge
 have hk:(strKind prog w).is z (.str z u)=true:=by simp[strKind,dW]
 have sc:(cw z u).scannable=true:=rfl
 have gn:es.size=zs.length:=by rw[<- gm.length_eq,ax,dy]
 unfold setAddHashed setAddHashedIn
 refine cz (aj (wpAny_setState_of go gd gf ?_))
 dsimp only
 rw[byScan_of (knd:=strKind prog w) sc (by lia) gE]
 simp only[↓reduceIte]
 unfold setAddByScan
 refine aj (aj (wpAny_rule (aj ?_)))
 refine wpAny_setScan_of (knd:=strKind prog w) hk go gd gf gE ?_
 cases hr:List.findIdx? (fun e=>(strKind prog w).is z e.2) es.toList with
 | some j=>
  dsimp only
  obtain⟨hj,hp,_⟩:=List.findIdx?_eq_some_iff_getElem.mp hr
  have hin:z ∈ zs:=by
   refine gm.mem_iff.mp (cY.mpr ⟨es.toList[j],eK hj,?_⟩)
   obtain⟨v,e'⟩:=ij hp
   rw[e']
   rfl
  refine aw (aw ?_)
  have:=k false s.heap (.refl ..) (by unfold put;rw[if_pos hin];exact i)
  exact this
 | none=>
  dsimp only
  have hnot:z ∉ zs:=fun hin=>by
   obtain⟨e,he,hq⟩:=cY.mp (gm.mem_iff.mpr hin)
   obtain⟨y,v,rfl⟩:=ge e he
   have q:=List.findIdx?_eq_none_iff.mp hr _ he
   have:y=z:=hq
   subst this
   simp[strKind,dW] at q
  have hput:put zs z=zs ++ [z]:=if_neg hnot
  rw[hput] at k
  have nd:(zs ++ [z]).Nodup:=bH.mpr ⟨i.nd,by simp,fun x hx y hy=>by simp at hy;subst hy;exact fun e=>hnot (e ▸ hx)⟩
  have way:∀ (b:Bool) {s₁:am} {R:Unit->am->Prop},R () s₁->ay (model prog w) A (match b with | true=>rule "set.scan.the-table-gave-way" | false=>pure ()) R E s₁:=fun b _ _ q=>by cases b <;> first | exact aw q | exact wpAny_rule q
  have l1:=layNew_perm t es (hashStr w z) (.str z u)
  have l2:=layNew_fits t es (hashStr w z) (.str z u)
  have l3:=lay_led t es (hashStr w z) (.str z u)
  show ay _ _ (match layNew t es (hashStr w z) (.str z u) with | (es,t,wasDummy,gave)=>_) _ _ _
  generalize layNew t es (hashStr w z) (.str z u)=L at l1 l2 l3
  obtain⟨es1,t1,wd,gv⟩:=L
  dsimp only at l1 l2 l3 ⊢
  have m1:∀ e ∈ es1.toList,∃ z u,e=(hashStr w z,cw z u):=fun e he=>by
   rcases b6.mp ((f9 ▸ l1).mem_iff.mp he) with q | q
   ·exact ge e q
   ·rw[bL.mp q];exact⟨z,u,rfl⟩
  have m2:(es1.toList.map fun e=>txt e.2).Perm (zs ++ [z]):=by
   refine(l1.map _).trans ?_
   rw[f9,bG]
   exact gm.append_right _
  have m3:es1.size<scanBound:=by
   have:=l1.length_eq
   simp only[dy,Array.size_push] at this
   lia
  refine aj ?_
  refine way _ ?_
  split
  ·refine aj ?_
   rw[hashByValue_scannable 8 sc]
   refine aw ?_
   refine tailS (fun b s₁ R q=>by cases b <;> first | exact aw q | exact wpAny_rule q) go gx gd m1 (SetTable.fits_plain_off l2) (l3.1.trans gl) rfl m2 nd m3 fun h' sb i'=>?_
   exact aw (k true h' sb i')
  ·rename_i hpl
   refine aj (aw ?_)
   simp only[↓reduceIte]
   refine tailS (fun b s₁ R q=>by cases b <;> first | exact aw q | exact wpAny_rule q) go gx gd m1 l2 (l3.1.trans gl) (by simpa using hpl) m2 nd m3 fun h' sb i'=>?_
   exact aw (k true h' sb i')
end TS
namespace TS
open PySem PyProof.Rows
section
variable {prog:aR}{w:aX}{A:a8}{R:Result->am->Prop}{I:ai}{fp wr:List ai}{G:Array GenState->Array GenState->Prop}{n:Nat}{P:Nat->ag->Prop}{St:Nat->am->Prop}
theorem updS(W:WalksS prog w A.in1 I fp wr G n P St)(S:ai)(hS:S ∉ fp)(val:Nat->Str)(hv:∀ i v,P i v->∃ t,v=.str (val i) t)(k:Nat) :
  ∀ (i:Nat) (s:am) (zs:List Str),i+k=n->St i s->IsS w s.heap S zs->zs.length+k+1<scanBound ->
   (∀ s',Moved (S :: wr) G s s'->IsS w s'.heap S (((cJ i k).map val).foldl put zs)->R (.ok (.ret .none)) s')->codeAny (model prog w) A (.builtin "set.update.loop" ⟨[.ref S,.ref I],[]⟩) R s:=by
 have nw:S ∉ wr:=fun h=>hS (W.sub _ h)
 have sb:∀ b ∈ wr,b ∈ S :: wr:=fun b hb=>.tail _ hb
 induction k with
 | zero=>
  intro i s zs hi st is hz kk
  have e:i=n:=by lia
  subst e
  refine codeAny_builtin gH ?_
  rw[ce eD _]
  refine aj (m:=pyNext (.ref I)) (W.done s _ _ st fun s' mv=>?_)
  exact aw (kk s' (mv.mono sb) (is.mono fun o e=>mv.heap S o nw e))
 | succ k ih=>
  intro i s zs hi st is hz kk
  refine codeAny_builtin gH ?_
  rw[ce eD _]
  refine aj (m:=pyNext (.ref I)) (W.item i s _ _ (by lia) st fun v s' hp st' mv=>?_)
  obtain⟨t,rfl⟩:=hv i v hp
  refine aj (m:=holding [cw (val i) t] (setAdd S (.str (val i) t))) (cz ?_)
  unfold setAdd
  refine cz (aj (wpAny_pyHash_str ?_))
  refine addSS (s:={ s' with toks:=s'.toks+1}) (zs:=zs) (is.mono fun o e=>mv.heap S o nw e) (by lia) fun b h' same is'=>?_
  have old:∀ b o,b ≠ S->s'.heap.get? b=ae o->h'.get? b=ae o:=fun b o hb e=>(same.2 b hb).trans e
  refine aw ⟨plainId_quiet eD _,ih (i+1) _ (put zs (val i)) (by lia) ?_ is' (by have:=put_lenS zs (val i);lia) fun s2 mv2 is2=>?_⟩
  ·exact W.frame _ s' h' _ st' (dk _) fun b hb o e=>old b o (fun q=>hS (q ▸ hb)) e
  ·refine kk s2 (Moved.trans W.gtrans ((mv.mono sb).then_heap (dk _) fun b o hb e=>old b o (fun q=>hb (q ▸ .head _)) e) mv2) ?_
   rw[eL,aH,eX]
   exact is2
end
end TS
namespace TS
open PySem PyProof.Rows
section
variable {prog:aR}{w:aX}{A:a8}{E:ag->am->Prop}{s:am}
def new(w:aX):Obj:={ cls:=.type "set",dict:=af,data:=.set #[] 0 (.fresh 0 0 (!bt w))}
theorem code_new(v:ag){R:ag->am->Prop}(k:R (.ref s.heap.objs.size) { s with heap:=s.heap.push (new w)}):codeAny (model prog w) A (.call (.builtin "set.__new__") ⟨[.type "set",v],[]⟩) (wants R E) s:=by
 refine codeAny_of_tree ?_
 show ay _ A.in1 (checkBuiltinCall "set.__new__" ⟨[.type "set",v],[]⟩ >>= fun _=>again (.builtin "set.__new__" ⟨[.type "set",v],[]⟩)) _ _ s
 refine aj (wpAny_of_eq (F.newCall_set_1 v) (aw ⟨plainId_quiet jg _,?_⟩))
 refine codeAny_builtin F.entry_set_new ?_
 rw[ce jg _]
 unfold Builtin.«set.__new__» jr
 have sub:=sub_set_self
 obtain⟨hp,g,d,tk,os⟩:=s
 dsimp only
 wp_walk
 refine wpAny_askSetting (aw ?_)
 dsimp only
 simp only[newObj]
 refine aj (wpAny_alloc (aw ?_))
 exact aw k
set_option maxRecDepth 100000 in
theorem ziB{v:ag}{Q:ag->am->Prop}{P:am->Prop}(hh:A.handled=af)
  (ini:∀ (B:a8),B.handled=af->ay (model prog w) B (Builtin.«set.__init__» ⟨[.ref s.heap.objs.size,v],[]⟩) (fun f s2=>f=.done (.ret .none)/\P s2) E { s with heap:=s.heap.push (new w)})
  (k:∀ s2,P s2->Q (.ref s.heap.objs.size) s2):ay (model prog w) A (call (.type "set") [v]) Q E s:=by
 obtain⟨c,tl,mro⟩:=dv.mro
 have made:=dv.made
 have sub:=dv.sub
 refine wpAny_call (codeAny_of_tree ?_)
 show ay _ _ (callAny (.type "set") _) _ _ _
 refine aw ⟨Code.quiet_builtin _ (by decide +kernel),?_⟩
 refine codeAny_builtin F.entry_type_call ?_
 rw[Around.under_plain (weight_type_call_type "set" [v] []) rfl]
 have n1:=dv.notType
 have n2:=dv.canCreate
 have n3:=F.typeCall_set_1 v
 repeat any_goals first | assumption | wp_step
 refine codeAny_mono (code_new v (E:=E) (R:=fun x s1=>x=.ref s.heap.objs.size/\s1={ s with heap:=s.heap.push (new w)}) ⟨rfl,rfl⟩) fun r s1 hr=>?_
 match r,hr with
 | .error e,hr=>exact hr
 | .ok (.ret x),hr=>
  obtain⟨rfl,rfl⟩:=hr
  have g0:(s.heap.push (new w)).get? s.heap.objs.size=ae (new w):=az _ rfl
  have ty:fY { s with heap:=s.heap.push (new w)} (.ref s.heap.objs.size) "set" :=⟨_,g0,rfl⟩
  have li:=dv.init.lookup
  have bi:=dv.init.bind (.ref s.heap.objs.size)
  repeat any_goals first | assumption | wp_step
  refine codeAny_mono (codeAny_call_builtin (R:=wants (fun r s2=>r=.none/\P s2) E) dv.init.plain F.entry_set_init (check_set_init_1 ty ?_)) fun r2 s2 hr2=>?_
  ·exact bI (ini A.in1.in1 hh) (fun f s2 q=>by obtain⟨rfl,p⟩:=q;exact⟨rfl,p⟩) fun _ _ q=>q
  ·match r2,hr2 with
   | .error e,hr2=>exact hr2
   | .ok (.ret x),hr2=>
    obtain⟨rfl,hq⟩:=hr2
    repeat any_goals first | assumption | wp_step
    exact k _ hq
end
end TS
namespace TS
open PySem PyProof.Rows
namespace Fx
theorem str_set:isSubtype (.type "str") (.type "set")=pure false:=by rw[isSubtype_type];kernel_rfl
theorem str_fro:isSubtype (.type "str") (.type "frozenset")=pure false:=by rw[isSubtype_type];kernel_rfl
end Fx
section
variable {prog:aR}{w:aX}{A:a8}{E:ag->am->Prop}{s:am}
structure LeftS(w:aX)(s:am)(zs:List Str)(s2:am):Prop where
 is:IsS w s2.heap s.heap.objs.size zs
 old:∀ b o,b<s.heap.objs.size->s.heap.get? b=ae o->s2.heap.get? b=ae o
 sh:∃ h' tk,s2={ s with heap:=h',toks:=tk}
theorem zi4{fp:List ai}{it:Obj}{s':am}{zs:List Str}(hf:∀ b ∈ fp,b=(s.heap.push (new w)).objs.size)(mv:Moved (s.heap.objs.size :: fp) (fun a b=>b=a) { s with heap:=(s.heap.push (new w)).push it} s')(is:IsS w s'.heap s.heap.objs.size zs):LeftS w s zs s':=by
 refine⟨is,fun b o hb e=>mv.heap b o (fun q=>?_) (aq _ (aq _ e)),?_⟩
 ·rcases aF.mp q with q | q
  ·exact absurd hb (q ▸ bT _)
  ·have:=hf b q
   rw[bC] at this
   exact absurd hb (je.mpr (this ▸ dk _))
 ·obtain⟨h',g',d',tk',os'⟩:=s'
  have eg:g'=s.gens:=mv.gens
  have ed:d'=s.drawn:=mv.drawn
  have eo:os'=s.os:=mv.os
  subst eg ed eo
  exact⟨h',tk',rfl⟩
set_option maxRecDepth 100000 in
theorem zjk{l:ai}{items:Array ag}{zs:List Str}(hh:A.handled=af)(hl:s.heap.IsList l items)(hi:∀ (i:Nat) (v:ag),items[i]? = ae v->∃ t,v=cw (zs.getD i "") t)(hz:items.size+1<scanBound) :
  ay (model prog w) A (Builtin.«set.__init__» ⟨[.ref s.heap.objs.size,.ref l],[]⟩) (fun f s2=>f=.done (.ret .none)/\LeftS w s (((cJ 0 items.size).map fun i=>zs.getD i "").foldl put []) s2) E { s with heap:=s.heap.push (new w)}:=by
 obtain⟨o,go,oc,m,od⟩:=id hl
 obtain⟨ocls,odict,odata,oslots⟩:=o
 simp only at oc od
 subst oc od
 have g1:(s.heap.push (new w)).get? s.heap.objs.size=ae (new w):=az _ rfl
 have g2:(s.heap.push (new w)).get? l=ae { cls:=.type "list",dict:=odict,data:=.seq items m,slots:=oslots}:=aq _ go
 have b1:=F.sub_list_set
 have b2:=F.sub_list_frozenset
 have b3:(dO "list" == dO "dict")=false:=by decide
 have hl1:(s.heap.push (new w)).IsList l items:=⟨_,g2,rfl,m,rfl⟩
 unfold new at g1 g2 ⊢
 unfold Builtin.«set.__init__» noKeywords fK
 generalize hPI:pyIter=PI
 wp_walk
 subst hPI
 refine wpAny_pyIter_list hl1 (aj (wpAny_runValue ?_))
 have ll:l<s.heap.objs.size:=aK go
 have ne:l ≠ (s.heap.push (new w)).objs.size:=by rw[bC];exact aV (c8 ll)
 refine updS ((kj (by simp[hh]) _ l ne items).toS) s.heap.objs.size ?_ (fun i=>zs.getD i "") hi items.size 0 _ [] (by lia) ⟨⟨_,az _ rfl,rfl,rfl⟩,hl1.push _⟩ ?_ (by simpa using hz) fun s' mv is=>?_
 ·rw[bC]
  simp only[aF,bw,or_false,not_or]
  exact⟨aV (cG _),eS ll⟩
 ·exact(freshS (w:=w) (s:=s)).mono fun o e=>aq _ e
 ·refine aw ?_
  exact aw ⟨rfl,zi4 (fp:=[(s.heap.push (new w)).objs.size]) (fun b hb=>bL.mp hb) mv is⟩
set_option maxRecDepth 100000 in
theorem init_strS{x:Str}{t:Tok}(hh:A.handled=af)(hz:x.cps.size+1<scanBound) :
  ay (model prog w) A (Builtin.«set.__init__» ⟨[.ref s.heap.objs.size,.str x t],[]⟩) (fun f s2=>f=.done (.ret .none)/\LeftS w s (((cJ 0 x.cps.size).map fun i=>(⟨#[x.cps.getD i 0]⟩:Str)).foldl put []) s2) E { s with heap:=s.heap.push (new w)}:=by
 have g1:(s.heap.push (new w)).get? s.heap.objs.size=ae (new w):=az _ rfl
 have b1:=Fx.str_set
 have b2:=Fx.str_fro
 have b3:(dO "str" == dO "dict")=false:=by decide
 unfold new at g1 ⊢
 unfold Builtin.«set.__init__» noKeywords fK
 generalize hPI:pyIter=PI
 wp_walk
 subst hPI
 refine wpAny_pyIter_str fun o St W st=>aj (wpAny_runValue ?_)
 refine updS ((W _ (by simp[hh])).toS) s.heap.objs.size ?_ (fun i=>(⟨#[x.cps.getD i 0]⟩:Str)) ?_ x.cps.size 0 _ [] (by lia) st ?_ (by simpa using hz) fun s' mv is=>?_
 ·exact fun q=>absurd (bL.mp q) (by show s.heap.objs.size ≠ (s.heap.push (new w)).objs.size;rw[bC];exact aV (cG _))
 ·intro i v hv
  obtain⟨c,u,hc,rfl⟩:=hv
  exact⟨u,by simp[hc]⟩
 ·exact(freshS (w:=w) (s:=s)).mono fun o e=>aq _ e
 ·refine aw ?_
  exact aw ⟨rfl,zi4 (fp:=[(s.heap.push (new w)).objs.size]) (fun b hb=>bL.mp hb) mv is⟩
end
end TS
namespace TS
open PySem PyProof.Rows
theorem ziT{α:Type}{l:List α}{i:Nat}(h:i<l.length):(l[i] :: l.eraseIdx i).Perm l:=by
 rw[List.eraseIdx_eq_take_drop_succ]
 refine List.perm_middle.symm.trans ?_
 rw[<- bQ h,List.take_append_drop]
section
variable {prog:aR}{w:aX}{A:a8}{E:ag->am->Prop}
theorem ch{src:Source}{n:Nat}{s:am}{Q:Nat->am->Prop}(hn:n ≠ 0)(k:∀ i d,i<n->Q i { s with drawn:=d}):ay (model prog w) A (choose src n) Q E s:=fun Γ p _=>by
 unfold choose
 rw[Sem.wp_choose]
 exact⟨hn,by rw[Sem.wp_pure];exact k _ _ (kl _ (Nat.pos_of_ne_zero hn))⟩
theorem draw_perm{α:Type}(n:Nat):∀ (xs:List α) (s:am) (Q:List α->am->Prop),xs.length=n->(∀ ys d,ys.Perm xs->Q ys { s with drawn:=d})->ay (model prog w) A (drawOrder n xs) Q E s:=by
 induction n with
 | zero=>
  intro xs s Q hl k
  have e:xs=[]:=gI.mp hl
  subst e
  exact aw (k [] s.drawn .nil)
 | succ n ih=>
  intro xs s Q hl k
  match xs,hl with
  | x :: xs,hl=>
   refine aj (m:=choose .order (x :: xs).length) (ch (by simp) fun i d hi=>?_)
   have e:(x :: xs)[i]? = ae (x :: xs)[i]:=bg hi
   simp only[e]
   refine aj (ih _ _ _ (by rw[fZ hi];lia) fun ys d' hp=>aw ?_)
   exact k _ _ ((hp.cons _).trans (ziT hi))
end
theorem pick_go{α:Type}(nx:Nat->Nat)(f:Nat):∀ (k:Nat) (left:List α) (out:Array α),left.length=f->(pickOrder.go nx f k left out).toList.Perm (out.toList ++ left):=by
 induction f with
 | zero=>
  intro k left out hl
  have e:left=[]:=gI.mp hl
  subst e
  simp[pickOrder.go]
 | succ f ih=>
  intro k left out hl
  have hi:nx k % left.length<left.length:=kl _ (by lia)
  have e:left[nx k % left.length]? = ae left[nx k % left.length]:=bg hi
  unfold pickOrder.go
  simp only[e]
  refine(ih _ _ _ (by rw[fZ hi];lia)).trans ?_
  rw[f9,cL]
  exact(ziT hi).append_left _
theorem pick_perm{α:Type}(nx:Nat->Nat)(xs:Array α):(pickOrder nx xs).toList.Perm xs.toList:=by
 have:=pick_go nx xs.size 0 xs.toList #[] (by simp)
 simpa [pickOrder] using this
namespace Fx
theorem iter_of:entryFor table "set.__iter__" = ae Builtin.«frozenset.__iter__» :=entryFor_alias (id':= "frozenset.__iter__") (by kernel_rfl) rfl (by decide +kernel) (by kernel_rfl)
theorem next_of:entryFor table "set_iterator.__next__" = ae Builtin.«set_iterator.__next__» :=entryFor_of_tree (by kernel_rfl)
theorem next_slot:Slot "set_iterator" "__next__" "set_iterator.__next__" :=.of (owner:= "set_iterator") (n:= "__next__") (by rw[typeLookup_type,builtinLookup_eq_fast];kernel_rfl) (by decide +kernel) (by decide +kernel) (by decide +kernel) (by first | exact .inl (by decide +kernel) | exact .inr (by decide +kernel)) (by rw[isSubtype_type];kernel_rfl)
theorem next_args(v:ag):argsOk "set_iterator.__next__" ⟨[v],[]⟩:=by unfold argsOk;kernel_rfl
end Fx
end TS
namespace TS
open PySem PyProof.Rows
def itO(f0:ag)(i:Nat)(a:ai)(n ep:Nat):Obj:={ cls:=.type "set_iterator",data:=.fields #[f0,rawInt i,.ref a,rawInt n,rawInt ep]}
section
variable {prog:aR}{w:aX}{A:a8}{E:ag->am->Prop}{s:am}{I a:ai}{o:Obj}{es:Array (Int × ag)}{ep:Nat}{t:SetTable}
theorem next1{i slot slot':Nat}{v:ag}{Q:Option ag->am->Prop}(hI:s.heap.get? I=ae (itO (rawInt slot) i a es.size ep))(ho:s.heap.get? a=ae o)(hd:o.data=.set es ep t)(hf:t.fits es.size=true)
  (nx':∀ (A:a8) (E:ag->am->Prop) (R:Option (ag × Nat)->am->Prop),R (ae (v,slot')) s->ay (model prog w) A (setNext a slot i ep) R E s)
  (k:∀ h',h'.get? I=ae (itO (rawInt slot') (i+1) a es.size ep)->(∀ b o,b ≠ I->s.heap.get? b=ae o->h'.get? b=ae o)->Q (ae v) { s with heap:=h'}):ay (model prog w) A (pyNext (.ref I)) Q E s:=by
 have ty:s.TypeIs (.ref I) "set_iterator" :=⟨_,hI,rfl⟩
 unfold pyNext
 refine aj (wpAny_attempt (wpAny_callSpecial?_slot (name:=bZ "__next__") ty Fx.next_slot (wpAny_call_entry Fx.next_slot ty Fx.next_of ?_ (Fx.next_args _))))
 unfold Builtin.«set_iterator.__next__» slotArgs
 simp only[dS,eG,bp,↓reduceIte,bind_assoc,cD,bne_self_eq_false]
 refine aj (aw (aj (wpAny_fieldsOf hI rfl ?_)))
 show ay _ _ (setEntries a >>= _) _ _ _
 refine aj (wpAny_setEntries_of ho hd hf ?_)
 rw[if_neg (by simp)]
 show ay _ _ (setNext a slot i ep >>= _) _ _ _
 refine aj (nx' _ _ _ ?_)
 refine aj (wpAny_setField_rec hI (by simp) fun h1 g1 b1=>?_)
 refine aj (wpAny_setField_rec (s:={ s with heap:=h1}) g1 (by simp) fun h2 g2 b2=>?_)
 refine aw ⟨v,rfl,aw (k h2 ?_ fun b o hb e=>?_)⟩
 ·rw[g2];rfl
 ·exact(b2.2 b hb).trans ((b1.2 b hb).trans e)
theorem stop{B:a8}{α:Type}(hh:B.handled=af){R:α->am->Prop}{E':ag->am->Prop}(k:∀ e h',(∀ b o,s.heap.get? b=ae o->h'.get? b=ae o)->fY { s with heap:=h'} e "StopIteration" -> E' e { s with heap:=h'}) :
  ay (model prog w) B (newExc (.type "StopIteration") [] >>= fun e=>raiseNew e) R E' s:=by
 refine aj ?_
 simp only[newExc,newTuple]
 refine aj (wpAny_newObj_type ?_ (by size_fits))
 refine aj (m:=firstArgMember _ _) (wpAny_of_eq (a:=cQ) (by first | rfl | (simp only[firstArgMember];rfl)) (wpAny_newObj_type ?_ (by size_fits)))
 simp only[raiseNew]
 refine aj (wpAny_handled ?_)
 rw[hh]
 refine aj (aw (wpAny_throw ?_))
 exact k _ _ (fun b o e=>aq _ (aq _ e)) ⟨_,az _ rfl,rfl⟩
theorem end1{i slot:Nat}{Q:Option ag->am->Prop}(hh:A.handled=af)(hI:s.heap.get? I=ae (itO (rawInt slot) i a es.size ep))(ho:s.heap.get? a=ae o)(hd:o.data=.set es ep t)(hf:t.fits es.size=true)
  (nx:∀ (A:a8) (E:ag->am->Prop) (R:Option (ag × Nat)->am->Prop),R af s->ay (model prog w) A (setNext a slot i ep) R E s)
  (k:∀ h',(∀ b o,b ≠ I->s.heap.get? b=ae o->h'.get? b=ae o)->Q af { s with heap:=h'}):ay (model prog w) A (pyNext (.ref I)) Q E s:=by
 have ty:s.TypeIs (.ref I) "set_iterator" :=⟨_,hI,rfl⟩
 unfold pyNext
 refine aj (wpAny_attempt (wpAny_callSpecial?_slot (name:=bZ "__next__") ty Fx.next_slot (wpAny_call_entry Fx.next_slot ty Fx.next_of ?_ (Fx.next_args _))))
 unfold Builtin.«set_iterator.__next__» slotArgs
 simp only[dS,eG,bp,↓reduceIte,bind_assoc,cD,bne_self_eq_false]
 refine aj (aw (aj (wpAny_fieldsOf hI rfl ?_)))
 show ay _ _ (setEntries a >>= _) _ _ _
 refine aj (wpAny_setEntries_of ho hd hf ?_)
 rw[if_neg (by simp)]
 show ay _ _ (setNext a slot i ep >>= _) _ _ _
 refine aj (nx _ _ _ ?_)
 refine aj (wpAny_setField_rec hI (by simp) fun h1 g1 b1=>?_)
 refine stop (B:=A.in1) (s:={ s with heap:=h1}) hh fun e h' old te=>?_
 refine aj (wpAny_isInstance (b:=true) te isSubtype_stop ?_)
 exact aw (k h' fun b o hb e=>old b o ((b1.2 b hb).trans e))
theorem next2{i p:Nat}{T:ai}{ps:Array ag}{hv:Int × ag}{Q:Option ag->am->Prop}(hI:s.heap.get? I=ae (itO (.ref T) i a es.size ep))(ho:s.heap.get? a=ae o)(hd:o.data=.set es ep t)(hf:t.fits es.size=true)(hT:IsTup s.heap T ps)
  (hp:ps[i]? = ae (rawInt p)) (he:es[p]? = ae hv)
  (k:∀ h',h'.get? I=ae (itO (.ref T) (i+1) a es.size ep)->(∀ b o,b ≠ I->s.heap.get? b=ae o->h'.get? b=ae o)->Q (ae hv.2) { s with heap:=h'}):ay (model prog w) A (pyNext (.ref I)) Q E s:=by
 have ty:s.TypeIs (.ref I) "set_iterator" :=⟨_,hI,rfl⟩
 obtain⟨ot,got,_,nt,dt⟩:=hT
 unfold pyNext
 refine aj (wpAny_attempt (wpAny_callSpecial?_slot (name:=bZ "__next__") ty Fx.next_slot (wpAny_call_entry Fx.next_slot ty Fx.next_of ?_ (Fx.next_args _))))
 unfold Builtin.«set_iterator.__next__» slotArgs
 simp only[dS,eG,bp,↓reduceIte,bind_assoc,cD,bne_self_eq_false]
 refine aj (aw (aj (wpAny_fieldsOf hI rfl ?_)))
 show ay _ _ (setEntries a >>= _) _ _ _
 refine aj (wpAny_setEntries_of ho hd hf ?_)
 rw[if_neg (by simp)]
 show ay _ _ (seqItems? (.ref T) >>= _) _ _ _
 refine aj (wpAny_seqItems got dt ?_)
 simp only[c7,hp,rawInt]
 unfold setNextDrawn
 refine aj (aj (wpAny_setState_of ho hd hf ?_))
 simp only[bne_self_eq_false,bp,↓reduceIte,he]
 refine aw ?_
 refine aj (wpAny_setField_rec hI (by simp) fun h1 g1 b1=>?_)
 refine aw ⟨_,rfl,aw (k h1 ?_ fun b o hb e=>(b1.2 b hb).trans e)⟩
 rw[g1];rfl
theorem end2{i:Nat}{T:ai}{ps:Array ag}{Q:Option ag->am->Prop}(hh:A.handled=af)(hI:s.heap.get? I=ae (itO (.ref T) i a es.size ep))(ho:s.heap.get? a=ae o)(hd:o.data=.set es ep t)(hf:t.fits es.size=true)(hT:IsTup s.heap T ps)
  (hp:ps[i]? = af) (k:∀ h',(∀ b o,b ≠ I->s.heap.get? b=ae o->h'.get? b=ae o)->Q af { s with heap:=h'}):ay (model prog w) A (pyNext (.ref I)) Q E s:=by
 have ty:s.TypeIs (.ref I) "set_iterator" :=⟨_,hI,rfl⟩
 obtain⟨ot,got,_,nt,dt⟩:=hT
 unfold pyNext
 refine aj (wpAny_attempt (wpAny_callSpecial?_slot (name:=bZ "__next__") ty Fx.next_slot (wpAny_call_entry Fx.next_slot ty Fx.next_of ?_ (Fx.next_args _))))
 unfold Builtin.«set_iterator.__next__» slotArgs
 simp only[dS,eG,bp,↓reduceIte,bind_assoc,cD,bne_self_eq_false]
 refine aj (aw (aj (wpAny_fieldsOf hI rfl ?_)))
 show ay _ _ (setEntries a >>= _) _ _ _
 refine aj (wpAny_setEntries_of ho hd hf ?_)
 rw[if_neg (by simp)]
 show ay _ _ (seqItems? (.ref T) >>= _) _ _ _
 refine aj (wpAny_seqItems got dt ?_)
 simp only[c7,hp]
 refine aj (wpAny_setField_rec hI (by simp) fun h1 g1 b1=>?_)
 refine aj (wpAny_setField_rec (s:={ s with heap:=h1}) g1 (by simp) fun h2 g2 b2=>?_)
 refine stop (B:=A.in1) (s:={ s with heap:=h2}) hh fun e h' old te=>?_
 refine aj (wpAny_isInstance (b:=true) te isSubtype_stop ?_)
 exact aw (k h' fun b o hb e=>old b o ((b2.2 b hb).trans ((b1.2 b hb).trans e)))
end
end TS
namespace TS
open PySem PyProof.Rows
namespace Fx
theorem self_slot:Slot "set_iterator" "__iter__" "set_iterator.__iter__" :=.of (owner:= "set_iterator") (n:= "__iter__") (by rw[typeLookup_type,builtinLookup_eq_fast];kernel_rfl) (by decide +kernel) (by decide +kernel) (by decide +kernel) (by first | exact .inl (by decide +kernel) | exact .inr (by decide +kernel)) (by rw[isSubtype_type];kernel_rfl)
theorem self_of:entryFor table "set_iterator.__iter__" = ae Builtin.«dict_keyiterator.__iter__» :=entryFor_alias (id':= "dict_keyiterator.__iter__") (by kernel_rfl) rfl (by decide +kernel) (by kernel_rfl)
theorem self_args(v:ag):argsOk "set_iterator.__iter__" ⟨[v],[]⟩:=by unfold argsOk;kernel_rfl
end Fx
section
variable {prog:aR}{w:aX}{A:a8}{E:ag->am->Prop}{s:am}{I a:ai}{o:Obj}{es:Array (Int × ag)}{ep:Nat}{t:SetTable}
theorem self{f0:ag}{i n:Nat}{Q:ag->am->Prop}(hI:s.heap.get? I=ae (itO f0 i a n ep))(k:Q (.ref I) s):ay (model prog w) A (pyIter (.ref I)) Q E s:=by
 have ty:s.TypeIs (.ref I) "set_iterator" :=⟨_,hI,rfl⟩
 refine wpAny_pyIter_slot ty Fx.self_slot (wpAny_call_entry Fx.self_slot ty Fx.self_of ?_ (Fx.self_args _))
 show ay _ _ (ret (.ref I)) _ _ s
 exact aw ⟨_,rfl,"set_iterator",_,ty,Fx.next_slot.lookup,k⟩
theorem walk1(hh:A.handled=af)(hne:a ≠ I)(hd:o.data=.set es ep t)(hf:t.fits es.size=true)(val:Nat->ag)(slots:Nat->Nat)
  (nx:∀ (i:Nat) (s:am) (A:a8) (E:ag->am->Prop) (R:Option (ag × Nat)->am->Prop),i<es.size->s.heap.get? a=ae o->R (ae (val i,slots (i+1))) s->ay (model prog w) A (setNext a (slots i) i ep) R E s)
  (en:∀ (s:am) (A:a8) (E:ag->am->Prop) (R:Option (ag × Nat)->am->Prop),s.heap.get? a=ae o->R af s->ay (model prog w) A (setNext a (slots es.size) es.size ep) R E s) :
  Walks prog w A I [I,a] [I] es.size (fun i v=>v=val i) (fun i h=>h.get? I=ae (itO (rawInt (slots i)) i a es.size ep)/\h.get? a=ae o) where
 sub:=fun b hb=>by simp at hb;simp[hb]
 frame:=fun _ _ _ st kk=>⟨kk I (by simp) _ st.1,kk a (by simp) _ st.2⟩
 item:=fun i s Q E hi st k=>by
  refine next1 st.1 st.2 hd hf (fun A E R r=>nx i s A E R hi st.2 r) fun h' g old=>?_
  exact k _ h' s.toks rfl ⟨g,old a o hne st.2⟩ fun b o hb e=>old b o (by simpa using hb) e
 done:=fun s Q E st k=>end1 hh st.1 st.2 hd hf (fun A E R r=>en s A E R st.2 r) fun h' old=>k h' s.toks fun b o hb e=>old b o (by simpa using hb) e
 self:=fun i s Q E st k=>self st.1 k
theorem walk2{T:ai}{ps:Array ag}(hh:A.handled=af)(hne:a ≠ I)(hnt:T ≠ I)(hd:o.data=.set es ep t)(hf:t.fits es.size=true)(val:Nat->ag)(pl:Nat->Nat)(hl:ps.size=es.size)
  (hp:∀ i,i<es.size->ps[i]? = ae (rawInt (pl i))/\∃ h,es[pl i]? = ae (h,val i)) :
  Walks prog w A I [I,a,T] [I] es.size (fun i v=>v=val i) (fun i h=>h.get? I=ae (itO (.ref T) i a es.size ep)/\h.get? a=ae o/\IsTup h T ps) where
 sub:=fun b hb=>by simp at hb;simp[hb]
 frame:=fun _ _ _ st kk=>⟨kk I (by simp) _ st.1,kk a (by simp) _ st.2.1,let⟨o,ho,r⟩:=st.2.2;⟨o,kk T (by simp) _ ho,r⟩⟩
 item:=fun i s Q E hi st k=>by
  obtain⟨h1,h,h2⟩:=hp i hi
  refine next2 st.1 st.2.1 hd hf st.2.2 h1 h2 fun h' g old=>?_
  obtain⟨ot,got,r⟩:=st.2.2
  exact k _ h' s.toks rfl ⟨g,old a o hne st.2.1,ot,old T _ hnt got,r⟩ fun b o hb e=>old b o (by simpa using hb) e
 done:=fun s Q E st k=>end2 hh st.1 st.2.1 hd hf st.2.2 (by simp[hl]) fun h' old=>k h' s.toks fun b o hb e=>old b o (by simpa using hb) e
 self:=fun i s Q E st k=>self st.1 k
end
end TS
namespace TS
open PySem PyProof.Rows
section
variable {prog:aR}{w:aX}{A:a8}{E:ag->am->Prop}{s:am}{a:ai}{o:Obj}{es:Array (Int × ag)}{ep:Nat}{t:SetTable}
theorem ziE{Q:Bool->am->Prop}(k:Q (bt w) s):ay (model prog w) A setsByText Q E s:=aj (wpAny_askSetting (aw k))
theorem nextA{i:Nat}{R:Option (ag × Nat)->am->Prop}(ho:s.heap.get? a=ae o)(hd:o.data=.set es ep t)(hf:t.fits es.size=true)(hb:bt w=true)
  (k:R (((pickOrder (w.params.setOrder a ep) es)[i]?).map fun e=>(e.2,0)) s):ay (model prog w) A (setNext a 0 i ep) R E s:=by
 unfold setNext
 refine aj (wpAny_setState_of ho hd hf ?_)
 refine aj (ziE ?_)
 rw[hb]
 simp only[bne_self_eq_false,bp,↓reduceIte]
 unfold setWalk
 refine aj (aj (wpAny_setState_of ho hd hf ?_))
 refine aj (ziE ?_)
 rw[hb]
 simp only[↓reduceIte]
 exact aj (wpAny_askSetting (aw (aw k)))
theorem nextB{i slot:Nat}{R:Option (ag × Nat)->am->Prop}(ho:s.heap.get? a=ae o)(hd:o.data=.set es ep t)(hf:t.fits es.size=true)(hb:bt w=false)(hl:t.led=true)(hz:es.size<=1)
  (k:R (match es[dL t.place slot]?,t.place[dL t.place slot]? with
   | some (_,x),ae j=>ae (x,j+1)
   | _,_=>af) s):ay (model prog w) A (setNext a slot i ep) R E s:=by
 unfold setNext
 refine aj (wpAny_setState_of ho hd hf ?_)
 refine aj (ziE ?_)
 rw[hb]
 simp only[bp,↓reduceIte]
 rw[if_neg (by show ¬ ((!t.plain && decide (es.size > 1))=true);simp;lia)]
 refine aj (wpAny_of_eq (a:=()) ?_ (aw k))
 obtain⟨mask,place,dummies,finger,led,moves,plain⟩:=t
 have hl':led=true:=hl
 subst hl'
 rfl
end
theorem below0(p:Nat):dL #[p] 0=0:=by simp[dL,iN]
theorem below1(p:Nat):dL #[p] (p+1)=1:=by simp[dL,iN]
end TS
namespace TS
open PySem PyProof.Rows
section
variable {prog:aR}{w:aX}{A:a8}{E:ag->am->Prop}{s:am}{a:ai}{o:Obj}{es:Array (Int × ag)}{ep:Nat}{t:SetTable}
theorem _root_.PySem.Walks.weak{I:ai}{fp wr:List ai}{n:Nat}{P P':Nat->ag->Prop}{St:Nat->aW->Prop}(W:Walks prog w A I fp wr n P St)(h:∀ i v,i<n->P i v->P' i v):Walks prog w A I fp wr n P' St:=
 ⟨W.sub,W.frame,fun i s Q E hi st k=>W.item i s Q E hi st fun v h' tk p=>k v h' tk (h i v hi p),W.done,W.self⟩
structure WkS(prog:aR)(w:aX)(a n0:Nat)(zs:List Str)(I:ai)(h:aW):Prop where
 ex:∃ (ys:List Str) (fp:List ai) (St:Nat->aW->Prop),ys.Perm zs/\I ∈ fp/\(∀ b ∈ fp,b<h.objs.size/\(b=a \/ n0<=b))/\St 0 h/\∀ B:a8,B.handled=af->Walks prog w B I fp [I] ys.length (fun i v=>∃ u,v=cw (ys.getD i "") u) St
theorem WkS.of{n0:Nat}{zs:List Str}{I:ai}{h:aW}{ord:Array (Int × ag)}{fp:List ai}{St:Nat->aW->Prop}(hp:ord.toList.Perm es.toList)(ge:∀ e ∈ es.toList,∃ z u,e=(hashStr w z,cw z u))(gm:(es.toList.map fun e=>txt e.2).Perm zs)
  (hI:I ∈ fp) (hb:∀ b ∈ fp,b<h.objs.size/\(b=a \/ n0<=b)) (st:St 0 h) (W:∀ B:a8,B.handled=af->Walks prog w B I fp [I] es.size (fun i v=>v=(ord.getD i (0,.none)).2) St):WkS prog w a n0 zs I h:=by
 have hl:ord.size=es.size:=by simpa using hp.length_eq
 refine⟨ord.toList.map fun e=>txt e.2,fp,St,(hp.map _).trans gm,hI,hb,st,fun B hB=>?_⟩
 rw[ax,dy,hl]
 refine(W B hB).weak fun i v hi e=>?_
 have hi':i<ord.size:=by lia
 obtain⟨z,u,hz⟩:=ge ord[i] (hp.mem_iff.mp (by simp))
 subst e
 refine⟨u,?_⟩
 simp[hi',hz,txt]
theorem iterS{zs:List Str}{Q:ag->am->Prop}(is:IsS w s.heap a zs)(hzs:zs.length<scanBound)
  (k:∀ I h' d,s.heap.objs.size<=I->WkS prog w a s.heap.objs.size zs I h'->(∀ b o,s.heap.get? b=ae o->h'.get? b=ae o)->Q (.ref I) { s with heap:=h',drawn:=d}):ay (model prog w) A (pyIter (.ref a)) Q E s:=by
 obtain⟨o,es,ep,t,ho,gx,hd,ge,hf,gl,gp,gm⟩:=is.ex
 have hsb:es.size<scanBound:=by have:=gm.length_eq;simp at this;lia
 have ty:s.TypeIs (.ref a) "set" :=⟨o,ho,gx.1⟩
 have la:a<s.heap.objs.size:=aK ho
 refine wpAny_pyIter_slot ty jh (wpAny_call_entry jh ty Fx.iter_of ?_ (F.args_set_iter_1 _))
 unfold Builtin.«frozenset.__iter__» j3 slotArgs
 simp only[dS,eG,bp,↓reduceIte,bind_assoc,cD,bne_self_eq_false]
 unfold jX jY
 refine aj (aw (aj (aw ?_)))
 refine aj (aj (wpAny_setEntries_of ho hd hf (aw ?_)))
 unfold setDrawn
 refine aj (aj (wpAny_setState_of ho hd hf ?_))
 refine aj (ziE (aw ?_))
 show ay _ _ (if (!bt w && (!t.plain && decide (es.size > 1)))=true then _ else _) _ _ _
 have plain:∀ (ord:Array (Int × ag)) (slots:Nat->Nat),slots 0=0->ord.toList.Perm es.toList ->
   (∀ (i:Nat) (s:am) (A:a8) (E:ag->am->Prop) (R:Option (ag × Nat)->am->Prop),i<es.size->s.heap.get? a=ae o->R (ae ((ord.getD i (0,.none)).2,slots (i+1))) s->ay (model prog w) A (setNext a (slots i) i ep) R E s) ->
   (∀ (s:am) (A:a8) (E:ag->am->Prop) (R:Option (ag × Nat)->am->Prop),s.heap.get? a=ae o->R af s->ay (model prog w) A (setNext a (slots es.size) es.size ep) R E s) ->
   ay (model prog w) A.in1 (pure (rawInt 0) >>= fun first=>setEpoch a >>= fun e=>newFields "set_iterator" [first,rawInt 0,.ref a,rawInt es.size,rawInt e] >>= fun r=>ret r)
    (fun fin s'=>∃ v,fin=.done (.ret v)/\∃ T' r,s'.TypeIs v T'/\typeLookup (.type T') (bZ "__next__")=pure (ae r)/\Q v s') E s:=by
  intro ord slots s0 hp nx en
  refine aj (aw (aj (wpAny_setEpoch_of ho hd hf ?_)))
  refine aj (wpAny_newObj_type ?_)
  have g0:=az s.heap (o:=itO (rawInt 0) 0 a es.size ep) rfl
  refine aw ⟨_,rfl,"set_iterator",_,⟨_,g0,rfl⟩,Fx.next_slot.lookup,?_⟩
  have hne:a ≠ s.heap.objs.size:=aV la
  refine k _ _ s.drawn (aA _) (WkS.of hp ge gm (fp:=[s.heap.objs.size,a]) (by simp) (fun b hb=>?_) ?_ fun B hB=>walk1 hB hne hd hf _ slots nx en) fun b o e=>aq _ e
  ·rw[bC]
   rcases aF.mp hb with rfl | hb
   ·exact⟨cG _,.inr (aA _)⟩
   ·rw[bL.mp hb];exact⟨c8 la,.inl rfl⟩
  ·rw[s0]
   exact⟨g0,aq _ ho⟩
 cases hb:bt w with
 | true=>
  have hp:=pick_perm (w.params.setOrder a ep) es
  have hl:(pickOrder (w.params.setOrder a ep) es).size=es.size:=by simpa using hp.length_eq
  refine plain (pickOrder (w.params.setOrder a ep) es) (fun _=>0) rfl hp (fun i s A E R hi g r=>nextA g hd hf hb ?_) fun s A E R g r=>nextA g hd hf hb ?_
  ·have:i<(pickOrder (w.params.setOrder a ep) es).size:=by lia
   simpa [this] using r
  ·simpa [hl] using r
 | false=>
  have led:t.led=true:=by rw[gl,hb];rfl
  by_cases hz:es.size<=1
  ·rw[if_neg (by simp;lia)]
   have hpl:t.place.size=es.size:=by
    unfold SetTable.fits at hf
    simp at hf
    exact hf.1
   refine plain es (fun i=>if i=0 then 0 else t.place.getD 0 0+1) rfl .rfl (fun i s A E R hi g r=>nextB g hd hf hb led hz ?_) fun s A E R g r=>nextB g hd hf hb led hz ?_
   ·have h0:i=0:=by lia
    subst h0
    obtain⟨p,hp⟩:∃ p,t.place=#[p]:=by
     match hq:t.place,hpl with
     | ⟨[p]⟩,_=>exact⟨p,rfl⟩
     | ⟨[]⟩,hpl=>simp at hpl;lia
     | ⟨_ :: _ :: _⟩,hpl=>simp at hpl;lia
    obtain⟨e,he⟩:∃ e,es[0]? = ae e:=⟨es[0],by simp[hi]⟩
    simp only[hp] at r ⊢
    simp only[↓reduceIte,below0,he] at r ⊢
    simpa [fR,he] using r
   ·by_cases h0:es.size=0
    ·have hp:t.place=#[]:=eY (by lia)
     have he:es=#[]:=eY h0
     simp only[hp,he]
     simpa using r
    ·obtain⟨p,hp⟩:∃ p,t.place=#[p]:=by
      match hq:t.place,hpl with
      | ⟨[p]⟩,_=>exact⟨p,rfl⟩
      | ⟨[]⟩,hpl=>simp at hpl;lia
      | ⟨_ :: _ :: _⟩,hpl=>simp at hpl;lia
     have h1:es.size=1:=by lia
     have he:es[1]? = af:=by simp[h1]
     simp only[hp,h1,he,below1,fR]
     simpa [below1,he] using r
  ·have pl:t.plain=false:=gp (by lia)
   rw[if_pos (by simp[pl];lia)]
   refine aj (draw_perm es.size _ _ _ (by simp) fun ys d hp=>?_)
   have yl:ys.length=es.size:=by simpa using hp.length_eq
   have yb:∀ p ∈ ys,p<es.size:=fun p hm=>by simpa using hp.mem_iff.mp hm
   refine aj (wpAny_newTuple ?_ (by rw[ax,yl];exact fits_of_scanBound hsb))
   refine aj (wpAny_setEpoch_of (aq _ ho) hd hf ?_)
   refine aj (wpAny_newObj_type ?_)
   generalize hth:s.heap.push (seqObj "tuple" (ys.map fun(i:Nat)=>rawInt i).toArray 0)=th
   have tt:IsTup th s.heap.objs.size (ys.map fun(i:Nat)=>rawInt i).toArray:=by rw[<- hth];exact⟨_,az _ rfl,rfl,0,rfl⟩
   have ts:th.objs.size=s.heap.objs.size+1:=by rw[<- hth,bC]
   have oo:th.get? a=ae o:=by rw[<- hth];exact aq _ ho
   have g0:=az th (o:=itO (.ref s.heap.objs.size) 0 a es.size ep) rfl
   have hne:a ≠ th.objs.size:=by rw[ts];exact aV (c8 la)
   have hnt:s.heap.objs.size ≠ th.objs.size:=by rw[ts];exact aV (cG _)
   show ay _ _ _ _ _ { s with heap:=th.push (itO (.ref s.heap.objs.size) 0 a es.size ep),drawn:=d}
   refine aw ⟨_,rfl,"set_iterator",_,⟨_,g0,rfl⟩,Fx.next_slot.lookup,?_⟩
   refine k _ _ d (by rw[ts];exact dk _) (WkS.of (ord:=(ys.map fun p=>es.getD p (0,.none)).toArray) ?_ ge gm (fp:=[th.objs.size,a,s.heap.objs.size]) aC (fun b hb=>?_) ⟨g0,aq _ oo,?_⟩ fun B hB=>walk2 (ps:=(ys.map fun(i:Nat)=>rawInt i).toArray) hB hne hnt hd hf _ (fun i=>ys.getD i 0) (by simp[yl]) fun i hi=>?_) fun b o e=>aq _ (by rw[<- hth];exact aq _ e)
   ·have:(au es.size).map (fun p=>es.getD p (0,.none))=es.toList:=by
     apply dR
     ·simp
     ·intro i h1 h2
      simp at h1
      simp[h1]
    rw[<- this]
    exact hp.map _
   ·rw[bC,ts]
    simp only[aF,bw,or_false] at hb
    rcases hb with rfl | rfl | rfl
    ·rw[ts];exact⟨cG _,.inr (dk _)⟩
    ·exact⟨c8 (c8 la),.inl rfl⟩
    ·exact⟨c8 (cG _),.inr (aA _)⟩
   ·have hi':i<ys.length:=by lia
    have hq:ys[i]<es.size:=yb _ (eK hi')
    refine⟨by simp[hi'],es[ys[i]].1,?_⟩
    simp[hi',hq]
   ·obtain⟨ot,got,r⟩:=tt
    exact⟨ot,aq _ got,r⟩
end
end TS
namespace TS
open PySem PyProof.Rows
namespace Fx
theorem len_of:typeLookup (.type "set") "__len__" = pure (ae (.builtin "set.__len__")):=by rw[typeLookup_type,builtinLookup_eq_fast];kernel_rfl
end Fx
section
variable {prog:aR}{w:aX}{A:a8}{E:ag->am->Prop}{s:am}{a:ai}{zs:List Str}
set_option maxRecDepth 100000 in
theorem collS{Q:List ag->am->Prop}(hh:A.handled=af)(is:IsS w s.heap a zs)(hz:zs.length<scanBound)
  (k:∀ (vs:Array ag) (ys:List Str) s',ItemsOf (fun i v=>∃ u,v=cw (ys.getD i "") u) vs ys.length->ys.Perm zs->(∀ b o,s.heap.get? b=ae o->s'.heap.get? b=ae o)->s'.gens=s.gens->s'.os=s.os->Q vs.toList s') :
  ay (model prog w) A (collect (.ref a)) Q E s:=by
 have la:a<s.heap.objs.size:=let⟨_,_,_,_,g,_⟩:=is.ex;aK g
 unfold collect
 refine aj (wpAny_runValue (codeAny_builtin F.entry_proto_collect ?_))
 rw[ce F.plain_proto_collect _]
 refine aj (m:=newList []) (wpAny_newObj_type ?_)
 refine aw ⟨plainId_quiet iO _,?_⟩
 refine codeAny_builtin F.entry_list_iadd ?_
 rw[ce iO _]
 generalize hL:s.heap.push { cls:=.type "list",data:=.seq ([]:List ag).toArray}=L
 have gl:L.get? s.heap.objs.size=ae { cls:=.type "list",data:=.seq ([]:List ag).toArray}:=by rw[<- hL];exact az _ rfl
 have ls:L.objs.size=s.heap.objs.size+1:=by rw[<- hL,bC]
 have il:IsS w L a zs:=is.mono fun o e=>by rw[<- hL];exact aq _ e
 have ty:fY { s with heap:=L} (.ref a) "set" :=let⟨o,_,_,_,g,x,_⟩:=il.ex;⟨o,g,x.1⟩
 show ay _ A.in1 (fS (.ref s.heap.objs.size) (.ref a) (.ref s.heap.objs.size)) _ _ { s with heap:=L}
 have ns:gC (.ref s.heap.objs.size) (.ref a)=false:=by simp[gC];exact eS la
 unfold fS
 refine aj (wpAny_typeOf ty ?_)
 rw[if_neg (by rw[ns];decide)]
 refine aj (iterS (s:={ s with heap:=L}) il hz fun I h' d hI wk old=>?_)
 have ty':fY { s with heap:=h',drawn:=d} (.ref a) "set" :=let⟨o,_,_,_,g,x,_⟩:=il.ex;⟨o,old a o g,x.1⟩
 refine aj (cz ?_)
 unfold jo
 refine aj (wpAny_specialOf ty' Fx.len_of ?_)
 wp_delta
 refine aj (wpAny_isInstance (b:=true) ty' (by rw[isSubtype_type];kernel_rfl) ?_)
 show ay _ A.in1 (typeOf (bO a) >>= _) _ _ _
 refine aj (wpAny_typeOf ty' (aw ?_))
 rw[if_pos (by decide)]
 refine aj (wpAny_rule ?_)
 unfold j9 j4
 have gs:h'.get? s.heap.objs.size=ae { cls:=.type "list",data:=.seq ([]:List ag).toArray}:=old _ _ gl
 refine aj (aj (wpAny_updateSeq gs rfl ?_))
 have gs1:=cW (eV (·.push cQ)) gs rfl
 refine wpAny_updateSeq gs1 rfl ?_
 have gs2:=cW (eV (·.pop)) gs1 rfl
 obtain⟨ys,fp,St,yp,If,fb,st,W⟩:=wk.ex
 have nf:s.heap.objs.size ∉ fp:=fun q=>by
  rcases (fb _ q).2 with e | e
  ·exact absurd la (e ▸ bT _)
  ·have e':L.objs.size<=s.heap.objs.size:=e
   rw[ls] at e'
   exact absurd e' (Nat.not_succ_le_self _)
 have W1:=W A.in1 hh
 have same:∀ b o,b ≠ s.heap.objs.size->h'.get? b=ae o->((h'.update s.heap.objs.size (eV (·.push cQ))).update s.heap.objs.size (eV (·.pop))).get? b=ae o:=fun b o hb e=>
  (ci _ _ (cr hb)).trans ((ci _ _ (cr hb)).trans e)
 have st':=W1.frame 0 h' _ st fun b hb o e=>same b o (fun q=>nf (q ▸ hb)) e
 have yl:ys.length<=ba:=fits_of_scanBound (by rw[yp.length_eq];exact hz)
 refine aw ⟨plainId_quiet F.plain_extend_loop _,?_⟩
 refine codeAny_extend_loopS W1.toS yl _ nf _ ys.length 0 _ _ _ rfl (cg _) st' gs2 (ItemsOf.nil _) fun s' acc c mv gS it=>?_
 show ay _ A (load s.heap.objs.size >>= _) _ _ s'
 refine aj (wpAny_load gS ?_)
 refine aw (k acc ys s' it yp (fun b o e=>?_) mv.gens mv.os)
 have lt:=aK e
 have hb:b ≠ s.heap.objs.size:=aV lt
 refine mv.heap b o (fun q=>?_) (same b o hb (old b o (by show L.get? b=_;rw[<- hL];exact aq _ e)))
 rcases aF.mp q with q | q
 ·exact hb q
 ·rw[bL.mp q] at lt
  have e':L.objs.size<=I:=hI
  rw[ls] at e'
  exact absurd lt (je.mpr (Nat.le_of_succ_le e'))
end
end TS
namespace TS
open PySem PyProof.Rows
theorem strs_of{ys:List Str}{vs:Array ag}(h:ItemsOf (fun i v=>∃ u,v=cw (ys.getD i "") u) vs ys.length):StrsAre vs.toList ys:=by
 obtain⟨hl,hv⟩:=h
 have key:∀ (l:List ag) (y:List Str),l.length=y.length->(∀ (j:Nat) (v:ag),l[j]? = ae v->∃ u,v=cw (y.getD j "") u)->StrsAre l y:=by
  intro l
  induction l with
  | nil=>
   intro y hl _
   match y,hl with
   | [],_=>exact .nil
  | cons v l ih=>
   intro y hl h
   match y,hl with
   | z :: y,hl=>
    obtain⟨u,rfl⟩:=h 0 v rfl
    exact .cons _ _ (ih y (by simpa using hl) fun j v hv=>by simpa using h (j+1) v (by simpa using hv))
 exact key vs.toList ys (by simpa using hl) fun j v e=>hv j v (by rw[g6] at e;exact e)
section
variable {prog:aR}{w:aX}{A:a8}{E:ag->am->Prop}{s:am}{a:ai}{zs:List Str}
theorem srtdS{Q:ag->am->Prop}(hh:A.handled=af)(is:IsS w s.heap a zs)(hz:zs.length<64)
  (k:∀ (out:List ag) (ss:List Str) (e:Nat) (s1:am) (h':aW),StrsAre out ss->ss.Perm zs->sortedS ss=true->(∀ b o,s.heap.get? b=ae o->s1.heap.get? b=ae o)->s1.gens=s.gens->s1.os=s.os ->
   h'.get? s1.heap.objs.size=ae (seqObj "list" out.toArray e)->(∀ b o,s1.heap.get? b=ae o->h'.get? b=ae o)->Q (.ref s1.heap.objs.size) { s1 with heap:=h'}) :
  ay (model prog w) A (call (.builtin "sorted") [.ref a]) Q E s:=by
 refine Calls.call_function_entry kind_sorted plain_sorted entry_sorted (args_sorted1 _) ?_
 unfold Builtin.«sorted»
 refine aj (m:=checkCount "sorted" 1 1 _) (aw ?_)
 refine aj (collS hh is (by have:scanBound=4096:=rfl;lia) fun vs ys s1 it yp old eg eo=>?_)
 have sv:=strs_of it
 have vl:vs.toList.length<64:=by have:=it.1;have:=yp.length_eq;simp;lia
 have g0:(s1.heap.push (seqObj "list" vs.toList.toArray 0)).get? s1.heap.objs.size=ae (seqObj "list" vs.toList.toArray 0):=az _ rfl
 refine aj (wpAny_newList ?_ (fits_of_scanBound (by have:scanBound=4096:=rfl;lia)))
 show ay _ _ _ _ _ { s1 with heap:=s1.heap.push (seqObj "list" vs.toList.toArray 0)}
 have sz:(s1.heap.push (seqObj "list" vs.toList.toArray 0)).objs.size=s1.heap.objs.size+1:=by rw[bC]
 refine aj (cz (wpAny_call_entry slot_list_sort ⟨_,g0,rfl⟩ entry_list_sort (list_sort_treeK strKind_oneLt g0 sv.keysOf (fun v1 v2 rest e=>keyKind_strs (by rw[<- e];exact sv)) vl fun st a1 a2=>⟨_,rfl,?_⟩) (args_list_sort _)))
 obtain⟨ss,h1,h2,h3⟩:=sorted_out_str sv a1 a2
 obtain⟨e,he⟩:=sortedHeap_at (out:=(arrOf st).map (·.2)) g0
 refine aw ⟨_,rfl,?_⟩
 refine k ((arrOf st).map (·.2)).toList ss e s1 _ h1 (h2.trans yp) h3 old eg eo (by rw[Array.toArray_toList];exact he) fun b o eb=>?_
 have lt:=aK eb
 rw[sortedHeap_old (aV lt) (by rw[sz];exact c8 lt)]
 exact aq _ eb
end
end TS
namespace TS
open PySem PySem.Spec PyProof.Rows
theorem lt_anti:∀ (a b:List Nat),ltCps a b=false->ltCps b a=false->a=b
 | [],[],_,_=>rfl
 | [],_ :: _,h,_=>by cases h
 | _ :: _,[],_,h=>by cases h
 | a :: r,b :: t,h1,h2=>by
  simp only[ltCps,eZ,decide_eq_false_iff_not,g9,beq_iff_eq] at h1 h2
  have e:a=b:=by lia
  subst e
  rw[lt_anti r t (h1.2 rfl) (h2.2 rfl)]
theorem lt_trans:∀ (a b c:List Nat),ltCps b a=false->ltCps c b=false->ltCps c a=false
 | [],_,[],_,_=>rfl
 | [],[],_ :: _,_,_=>by simp[ltCps]
 | [],_ :: _,_ :: _,_,_=>by simp[ltCps]
 | _ :: _,[],_,h,_=>by cases h
 | _ :: _,_ :: _,[],_,h=>by cases h
 | a :: r,b :: t,c :: u,h1,h2=>by
  simp only[ltCps,eZ,decide_eq_false_iff_not,g9,beq_iff_eq] at h1 h2 ⊢
  refine⟨by lia,fun e=>?_⟩
  have e1:b=a:=by lia
  have e2:c=b:=by lia
  exact lt_trans r t u (h1.2 e1) (h2.2 e2)
def le(a b:Str):Prop:=ltCps b.cps.toList a.cps.toList=false
theorem le_anti{a b:Str}(h1:le a b)(h2:le b a):a=b:=by
 have:=lt_anti b.cps.toList a.cps.toList h1 h2
 cases a;cases b
 simp only[Str.mk.injEq] at this ⊢
 exact(Array.toList_inj.mp this).symm
theorem rise:∀ (x:Str) (l:List Str),risingS x l=true->(x :: l).Pairwise le
 | x,[],_=>.cons (by simp) .nil
 | x,y :: l,h=>by
  simp only[risingS,cV,iP] at h
  have ih:=rise y l h.2
  refine .cons (fun z hz=>?_) ih
  rcases aF.mp hz with rfl | hz
  ·exact h.1
  ·exact lt_trans _ _ _ h.1 (d6 ih hz)
theorem pair:∀ {l:List Str},sortedS l=true->l.Pairwise le
 | [],_=>.nil
 | x :: l,h=>rise x l h
theorem uniqS:∀ {l m:List Str},l.Pairwise le->m.Pairwise le->l.Perm m->l=m
 | [],m,_,_,p=>(List.nil_perm.mp p).symm
 | _ :: _,[],_,_,p=>absurd p.length_eq (by simp)
 | x :: l,y :: m,h1,h2,p=>by
  have hx:x ∈ y :: m:=p.mem_iff.mp aC
  have hy:y ∈ x :: l:=p.mem_iff.mpr aC
  have e:x=y:=by
   rcases aF.mp hx with e | hx
   ·exact e
   ·rcases aF.mp hy with e | hy
    ·exact e.symm
    ·exact le_anti (d6 h1 hy) (d6 h2 hx)
  subst e
  rw[uniqS (hG h1) (hG h2) p.cons_inv]
open Classical in
noncomputable def srt(zs:List Str):List Str:=if h:∃ ss:List Str,ss.Pairwise le/\ss.Perm zs then h.choose else []
theorem srt_eq{zs ss:List Str}(h:ss.Pairwise le)(p:ss.Perm zs):srt zs=ss:=by
 have hx:∃ ss:List Str,ss.Pairwise le/\ss.Perm zs:=⟨ss,h,p⟩
 unfold srt
 rw[dif_pos hx]
 exact uniqS hx.choose_spec.1 h (hx.choose_spec.2.trans p.symm)
def ddp(zs:List Str):List Str:=zs.foldl put []
end TS
namespace L2
open PySem PySem.Spec PyProof.Rows TS
theorem Inv.drawn{X:Cx}{pins:List (ai × Obj)}{σ:List (Option V)}{H:Hp}{s s1:am}(I:Inv X pins σ H s)(eh:∀ b o,s.heap.get? b=ae o->s1.heap.get? b=ae o)(eg:s1.gens=s.gens)(eo:s1.os=s.os):Inv X pins σ H s1:=by
 obtain⟨h,g,d,tk,os⟩:=s1
 have eg':g=s.gens:=eg
 have eo':os=s.os:=eo
 subst eg' eo'
 have J:Inv X pins σ H { s with heap:=h,toks:=tk}:=I.kept (t':=tk) eh
 exact⟨J.ok,J.os,J.bare,J.base,J.loc,J.cell,J.free,J.freeC,J.pin,J.hok,J.len⟩
def TxtIn(K:ak)(H:Hp)(x:V)(zs:List Str):Prop:=(∃ a xs,x=.ref a/\SqL K H a xs/\xs=zs.map V.str) \/ (∃ z,x=.str z/\zs=z.cps.toList.map fun c=>(⟨#[c]⟩:Str))
def tSS(K:ak)(t:TE):TE:=fun σ H Q=>t σ H fun x H1=>∃ zs,TxtIn K H1 x zs/\zs.length<4000/\(ddp zs).length<64/\∀ r,H1 r=af->Q (.ref r) (upd H1 r (.lst ((srt (ddp zs)).map V.str)))
end L2
namespace L2
open PySem PySem.Spec PyProof.Rows TS
section
variable {X:Cx}{e:Expr}{t:TE}{p p1 pos pos1:Pos}
theorem all_at(zs:List Str)(n:Nat)(h:n=zs.length):(cJ 0 n).map (fun i=>zs.getD i "")=zs:=by
 subst h
 apply dR
 ·simp
 ·intro i h1 h2
  simp[h2]
theorem all_cp(z:Str):(cJ 0 z.cps.size).map (fun i=>(⟨#[z.cps.getD i 0]⟩:Str))=z.cps.toList.map fun c=>(⟨#[c]⟩:Str):=by
 apply dR
 ·simp
 ·intro i h1 h2
  simp at h2
  simp[h2]
theorem set_of{pins:List (ai × Obj)}{σ:St}{H:Hp}{s:am}{x:V}{u:ag}{zs:List Str}{Q:ag->am->Prop}(hc:X.calm=true)(I:Inv X pins σ H s)(r:RelV x u)(ht:TxtIn X.K H x zs)(hz:zs.length<4000)
  (k:∀ s2,LeftS X.w s (ddp zs) s2->Q (.ref s.heap.objs.size) s2):ay (model X.prog X.w) X.A (call (.type "set") [u]) Q X.xe s:=by
 have hh:=I.ok.hd hc
 have sb:scanBound=4096:=rfl
 rcases ht with ⟨a,xs,rfl,hq,rfl⟩ | ⟨z,rfl,rfl⟩
 ·cases r
  obtain⟨its,rv,pl,_⟩:=I.list hq
  have hl:its.toArray.size=zs.length:=by have:=rv.length;simp at this;simp;lia
  have hi:∀ (i:Nat) (v:ag),its.toArray[i]? = ae v->∃ t,v=cw (zs.getD i "") t:=fun i v hv=>by
   have hv':its[i]? = ae v:=by simpa using hv
   obtain⟨hi,e⟩:=aO.mp hv'
   have hz':i<zs.length:=by simp at hl;lia
   have:=L3.Vals.getE rv i (by simpa using hz') hi
   rw[e] at this
   simp only[i7] at this
   obtain⟨t,e'⟩:=this
   exact⟨t,by rw[e'];simp[hz']⟩
  refine ziB (P:=LeftS X.w s (ddp zs)) hh (fun B hB=>?_) k
  have:=zjk (prog:=X.prog) (w:=X.w) (E:=X.xe) hB pl.isList hi (by lia)
  rw[all_at zs _ hl] at this
  exact this
 ·obtain⟨tk,rfl⟩:=r
  refine ziB (P:=LeftS X.w s (ddp _)) hh (fun B hB=>?_) k
  have:=init_strS (prog:=X.prog) (w:=X.w) (E:=X.xe) (s:=s) (x:=z) (t:=tk) hB (by simp at hz;lia)
  rw[all_cp] at this
  exact this
def one(R:V->Hp->Prop):List V->Hp->Prop:=fun xs H=>match xs with
 | [x]=>R x H
 | _=>False
theorem one_some{R:V->Hp->Prop}{xs:List V}{H:Hp}(h:one R xs H):∃ x,xs=[x]/\R x H:=by
 match xs,h with
 | [x],h=>exact⟨x,rfl,h⟩
theorem zeu:∀ {out:List ag} {ss:List Str},StrsAre out ss->Vals (ss.map V.str) out
 | _,_,.nil=>.nil
 | _,_,.cons _ _ h=>.cons ⟨_,rfl⟩ (zeu h)
theorem zjF(hc:X.calm=true)(he:PE X e t)(hg:Gl X "sorted")(hm:X.mg "sorted" = af)(hv:aZ "sorted" = ae (.builtin "sorted"))(hg1:Gl X "set")(hm1:X.mg "set" = af)(hv1:aZ "set" = ae (.type "set"))
  (h1:aY [e] X.env=(false,eval e X.env) :: aY [] X.env) (h2:aY [Expr.Call (.Name "set" p1) [e] [] pos1] X.env=(false,eval (.Call (.Name "set" p1) [e] [] pos1) X.env) :: aY [] X.env) :
  PE X (.Call (.Name "sorted" p) [.Call (.Name "set" p1) [e] [] pos1] [] pos) (tSS X.K t):=by
 intro pins s σ H Q I h
 refine cH (zei I hg hm hv ?_ (by decide) (by decide))
 refine eT ?_ h2 rfl
 rw[h2]
 refine iE (rest:=backTo pos (aY [] X.env)) ?_
 refine cH (zei I hg1 hm1 hv1 ?_ (by decide) (by decide))
 refine bV ?_ h1 rfl
 refine thn (pa_cons he pa_nil h1 pos1 pins s σ H (one fun x H1=>∃ zs,TxtIn X.K H1 x zs/\zs.length<4000/\(ddp zs).length<64/\∀ r,H1 r=af->Q (.ref r) (upd H1 r (.lst ((srt (ddp zs)).map V.str)))) I ?_) ?_
 ·exact(show t σ H _ from h)
 ·rintro us s1 ⟨xs,H1,I1,r1,qx⟩
  obtain⟨x,rfl,zs,ht,hz,hd,kk⟩:=one_some qx
  cases r1 with
  | cons r1 rn=>
   cases rn
   refine set_of hc I1 r1 ht hz fun s2 lf=>?_
   refine iM ?_
   have I2:Inv X pins σ H1 s2:=by
    obtain⟨h',tk,rfl⟩:=lf.sh
    exact I1.kept (t':=tk) fun b o e=>lf.old b o (aK e) e
   refine srtdS (I.ok.hd hc) lf.is hd fun out ss ep s3 h' so sp srt' old eg eo gr old2=>?_
   have I3:Inv X pins σ H1 s3:=I2.drawn old eg eo
   have hf:H1 s3.heap.objs.size=af:=I3.hok.fresh (aA _)
   have e:srt (ddp zs)=ss:=srt_eq (pair srt') sp
   have kq:=kk s3.heap.objs.size hf
   rw[e] at kq
   refine⟨.ref s3.heap.objs.size,_,I3.laid (t':=s3.toks) (o:=.lst (ss.map V.str)) old2 (aA _) ?_,rfl,kq⟩
   have sl:ss.length<64:=by rw[sp.length_eq];exact hd
   exact⟨by rw[ax,cA];lia,out,ep,zeu so,gr⟩
end
end L2
namespace L3
open PySem PySem.Spec PyProof.Rows L2 TS
noncomputable def ssO(zs:List Str):Option Ent:=gif (zs.length<4000/\(ddp zs).length<64) (ae (.own ((srt (ddp zs)).map D.str)))
noncomputable def zfW:Ent->Option Ent:=fun x=>(asL x).bind fun ds=>(zhP ds).bind ssO
section
variable {X:Cx}{e:Expr}{fe:FE}{p p1 pos pos1:Pos}
theorem vSS{g:Ent->Option Ent}(hx:∀ {H0 F H:Hp} {v:V} {en:Ent} {res:Ent},Same F H->RepR X.K H0 F H v en->g en=ae res->∃ zs,TxtIn X.K H v zs/\ssO zs=ae res)(he:VE X e fe)(hg:Gl X "sorted")(hm:X.mg "sorted" = af)(hv:aZ "sorted" = ae (.builtin "sorted"))
  (hg1:Gl X "set") (hm1:X.mg "set" = af) (hv1:aZ "set" = ae (.type "set")) (hc:X.calm=true) (h1:zan e=true):VE X (.Call (.Name "sorted" p) [.Call (.Name "set" p1) [e] [] pos1] [] pos) (ex1 g fe):=by
 obtain⟨t,w,m⟩:=he.h
 refine⟨_,⟨zjF hc w.h hg hm hv hg1 hm1 hv1 (zao h1) (zao rfl)⟩,fun B F H σ δ res Q s q k=>?_⟩
 obtain⟨en,q1,q⟩:=bind_some q
 refine m B F H σ δ en _ s q1 fun v F1 H1 x1 r1=>?_
 obtain⟨zs,ht,q2⟩:=hx x1.fh r1 q
 obtain⟨hz,q3⟩:=zbp q2
 cases q3
 refine⟨zs,ht,hz.1,hz.2,fun r hr=>?_⟩
 exact k _ _ _ (x1.trans (Ex.lay x1.fh hr)) ⟨r,_,rfl,x1.hh.free hr,zai,zhV _,x1.fh.free hr⟩
theorem vSortSetL(he:VE X e fe)(hg:Gl X "sorted")(hm:X.mg "sorted" = af)(hv:aZ "sorted" = ae (.builtin "sorted"))(hg1:Gl X "set")(hm1:X.mg "set" = af)(hv1:aZ "set" = ae (.type "set"))(hc:X.calm=true:=by rfl)(h1:zan e=true:=by rfl) :
  VE X (.Call (.Name "sorted" p) [.Call (.Name "set" p1) [e] [] pos1] [] pos) (ex1 zfW fe):=
 vSS (fun {H0 F H v en res} fh r q=>by
  obtain⟨ds,q1,q⟩:=bind_some q
  obtain⟨zs,q2,q⟩:=bind_some q
  obtain⟨l,vs,e1,h1,h2⟩:=r.toL fh q1
  exact⟨zs,.inl ⟨l,vs,e1,h1,zgP h2 q2⟩,q⟩) he hg hm hv hg1 hm1 hv1 hc h1
end
end L3

namespace L2
open PySem PySem.Spec PyProof.Rows
def SqQ(K:ak):Bool->Hp->ai->List V->Prop
 | true=>SqT K
 | false=>SqL K
def SIt:Bool->aW->ai->ai->Nat->Prop
 | true,h,it,a,i=>h.IsTupleIter it a i
 | false,h,it,a,i=>h.IsListIter it a i
def QAt:Bool->aW->ai->Array ag->Prop
 | true,h,a,xs=>h.IsTuple a xs
 | false,h,a,xs=>h.IsList a xs
def itN:Bool->String
 | true=> "tuple_iterator"
 | false=> "list_iterator"
theorem SIt.out{k:Bool}{h:aW}{it a:ai}{i:Nat}(st:SIt k h it a i):∃ o,h.get? it=ae o/\o.cls=.type (itN k)/\o.data=.fields #[.ref a,.int i 0]:=by cases k <;> exact st
theorem SIt.mk{k:Bool}{h:aW}{it a:ai}{i:Nat}(st:∃ o,h.get? it=ae o/\o.cls=.type (itN k)/\o.data=.fields #[.ref a,.int i 0]):SIt k h it a i:=by cases k <;> exact st
theorem SIt.at{k:Bool}{h h':aW}{it a:ai}{i:Nat}(st:SIt k h it a i)(e:∀ o,h.get? it=ae o->h'.get? it=ae o):SIt k h' it a i:=by
 obtain⟨o,h1,h2⟩:=st.out
 exact .mk ⟨o,e o h1,h2⟩
theorem Inv.turn1{X:Cx}{pins:List (ai × Obj)}{σ:St}{H:Hp}{s:am}{h':aW}{b:ai}(I:Inv X pins σ H s)(f:ze0 X pins H b)(k:∀ c o,c ≠ b->s.heap.get? c=ae o->h'.get? c=ae o):Inv X pins σ H { s with heap:=h'}:=
 I.turned (t':=s.toks) k f.1 f.2.1 f.2.2.2.1 f.2.2.2.2.1 f.2.2.2.2.2
theorem Inv.seqQ{X:Cx}{pins:List (ai × Obj)}{σ:St}{H:Hp}{s:am}{k:Bool}{a:ai}{xs:List V}(I:Inv X pins σ H s)(h:SqQ X.K k H a xs):∃ its:List ag,Vals xs its/\QAt k s.heap a its.toArray:=by
 cases k with
 | true=>obtain⟨its,r,p,_⟩:=I.tuple h;exact⟨its,r,p⟩
 | false=>obtain⟨its,r,p,_⟩:=I.list h;exact⟨its,r,p.isList⟩
theorem Inv.seqQ_inj{X:Cx}{pins:List (ai × Obj)}{σ:St}{H:Hp}{s:am}{k:Bool}{a:ai}{xs ys:List V}(I:Inv X pins σ H s)(h:SqQ X.K k H a xs)(h':SqQ X.K k H a ys):xs=ys:=by
 cases k with
 | true=>exact I.tuple_inj h h'
 | false=>exact I.list_inj h h'
section
variable {prog:aR}{w:aX}{A:a8}{E:ag->am->Prop}{s:am}
theorem pyIterQ{k:Bool}{a:ai}{xs:Array ag}{Q:ag->am->Prop}(h:QAt k s.heap a xs)(q:Q (.ref s.heap.objs.size) { s with heap:=s.heap.push { cls:=.type (itN k),data:=.fields #[.ref a,.int 0 0]}}):ay (model prog w) A (pyIter (.ref a)) Q E s:=by
 cases k with
 | true=>exact wpAny_pyIter_tuple h q
 | false=>exact wpAny_pyIter_list h q
theorem zgF{it t:ai}{i:Nat}{its:Array ag}{u:ag}{Q:ag->am->Prop}(st:s.heap.IsTupleIter it t i)(ht:s.heap.IsTuple t its)(hu:its[i]? = ae u)
  (k:∀ h',h'.IsTupleIter it t (i+1)->du it s.heap h'->Q u { s with heap:=h'}):ay (model prog w) A (bD (.ref it)) Q E s:=by
 obtain⟨p,e1,c1,d1⟩:=id st
 obtain⟨q,e2,_,m,d2⟩:=ht
 unfold bD
 refine aj (wpAny_callSpecial?_slot (name:=bZ "__next__") st.typeIs dh (wpAny_call_entry dh st.typeIs fU ?_ (fL _)))
 show ay _ _ (field (.ref it) 0 >>= _) _ _ _
 refine aj (wpAny_field e1 d1 (x:=.ref t) rfl ?_)
 show ay _ _ (if (bO t == cQ)=true then _ else _) _ _ _
 have hnn:¬ ((bO t == cQ)=true):=aU
 rw[if_neg hnn]
 show ay _ _ (field (.ref it) 1 >>= _) _ _ _
 refine aj (wpAny_field e1 d1 (x:=.int i 0) rfl ?_)
 show ay _ _ (seqItems? (.ref t) >>= _) _ _ _
 refine aj (wpAny_seqItems e2 d2 ?_)
 simp only[c7,hu]
 refine aj (wpAny_setField e1 d1 (by simp) (aw ⟨u,rfl,aw (k _ ⟨_,cW _ e1 (Obj.isFreed_of_fields (iG d1 _)),(Obj.cls_mapFields ..).trans c1,?_⟩ (d3 ..))⟩))
 rw[iG d1]
 simp[rawInt]
theorem zge{it t:ai}{i:Nat}{its:Array ag}{Q:ag->am->Prop}(hh:A.handled=af)(st:s.heap.IsTupleIter it t i)(ht:s.heap.IsTuple t its)(hu:its[i]? = af)
  (k:∀ h' e,iZ it s.heap h'->(∃ o,h'.get? e=ae o/\o.cls=.type "StopIteration")->E (.ref e) { s with heap:=h'}):ay (model prog w) A (bD (.ref it)) Q E s:=by
 obtain⟨p,e1,c1,d1⟩:=id st
 obtain⟨q,e2,_,m,d2⟩:=ht
 unfold bD
 refine aj (wpAny_callSpecial?_slot (name:=bZ "__next__") st.typeIs dh (wpAny_call_entry dh st.typeIs fU ?_ (fL _)))
 show ay _ _ (field (.ref it) 0 >>= _) _ _ _
 refine aj (wpAny_field e1 d1 (x:=.ref t) rfl ?_)
 show ay _ _ (if (bO t == cQ)=true then _ else _) _ _ _
 have hnn:¬ ((bO t == cQ)=true):=aU
 rw[if_neg hnn]
 show ay _ _ (field (.ref it) 1 >>= _) _ _ _
 refine aj (wpAny_field e1 d1 (x:=.int i 0) rfl ?_)
 show ay _ _ (seqItems? (.ref t) >>= _) _ _ _
 refine aj (wpAny_seqItems e2 d2 ?_)
 simp only[c7,hu]
 refine aj (wpAny_rule (aj (wpAny_setField e1 d1 (by simp) ?_)))
 show ay _ _ (newExc (.type "StopIteration") [] >>= _) _ _ _
 refine aj (by
  simp only[newExc,newTuple]
  refine aj (wpAny_newObj_type (aj (m:=firstArgMember _ _) (wpAny_of_eq (a:=cQ) (by first | rfl | (simp only[firstArgMember];rfl)) (wpAny_newObj_type ?_ (by size_fits)))) (by size_fits))
  simp only[raiseNew]
  refine aj (wpAny_handled (by
   rw[show A.in1.handled=af from hh]
   exact aj (aw (wpAny_throw (k _ _ (((d3 ..).extBut.push _).push _) ⟨_,az _ rfl,rfl⟩))))))
end
section
variable {X:Cx}{A:a8}{pins:List (ai × Obj)}{σ:St}{H:Hp}{s:am}{E:ag->am->Prop}{k k1 k2:Bool}{it a b z TI TO i1 i2:ai}{i:Nat}{xs ys:List V}{x y:V}
theorem zfh{Q:ag->am->Prop}(I:Inv X pins σ H s)(f:ze0 X pins H it)(st:SIt k s.heap it a i)(hq:SqQ X.K k H a xs)(hx:xs[i]? = ae x)
  (go:∀ u h',RelV x u->SIt k h' it a (i+1)->du it s.heap h'->Inv X pins σ H { s with heap:=h'}->Q u { s with heap:=h'}):ay (model X.prog X.w) A (bD (.ref it)) Q E s:=by
 obtain⟨its,rv,p⟩:=I.seqQ hq
 obtain⟨u,hu,ru⟩:=rv.get hx
 cases k with
 | true=>exact zgF st p (u:=u) (by simpa using hu) fun h' st' sb=>go u h' ru st' sb (I.turn1 f fun c o hc e=>(sb.2 c hc).trans e)
 | false=>exact wpAny_nextOf_list_item st p (x:=u) (by simpa using hu) fun h' st' sb=>go u h' ru st' sb (I.turn1 f fun c o hc e=>(sb.2 c hc).trans e)
theorem zhS{Q:ag->am->Prop}(hh:A.handled=af)(I:Inv X pins σ H s)(f:ze0 X pins H it)(st:SIt k s.heap it a i)(hq:SqQ X.K k H a xs)(hx:xs.length<=i)
  (go:∀ h' e,iZ it s.heap h'->(∃ o,h'.get? e=ae o/\o.cls=.type "StopIteration")->Inv X pins σ H { s with heap:=h'}->E (.ref e) { s with heap:=h'}):ay (model X.prog X.w) A (bD (.ref it)) Q E s:=by
 obtain⟨its,rv,p⟩:=I.seqQ hq
 have hl:=rv.length
 cases k with
 | true=>exact zge hh st p (by simp;lia) fun h' e sb he=>go h' e sb he (I.turn1 f fun c o hc e=>sb c o hc e)
 | false=>exact wpAny_nextOf_list_end hh st p (by simp;lia) fun h' e sb he=>go h' e sb he (I.turn1 f fun c o hc e=>sb c o hc e)
structure ZSt(k1 k2:Bool)(z TI TO i1 i2 a b:ai)(i:Nat)(f0:ag)(h:aW):Prop where
 hz:IsZip h z TI TO f0
 hi:IsPair h TI (.ref i1) (.ref i2)
 ho:∃ x y,IsPair h TO x y
 s1:SIt k1 h i1 a i
 s2:SIt k2 h i2 b i
structure ZNe(z TI TO i1 i2:ai):Prop where
 n1:TI ≠ z
 n2:TO ≠ z
 n3:i1 ≠ z
 n4:i2 ≠ z
 n5:TI ≠ TO
 n6:TI ≠ i1
 n7:TI ≠ i2
 n8:TO ≠ i1
 n9:TO ≠ i2
 n10:i1 ≠ i2
theorem ZSt.keep{f0:ag}{h h':aW}(st:ZSt k1 k2 z TI TO i1 i2 a b i f0 h)(kk:∀ c ∈ [z,TI,TO,i1,i2],∀ o,h.get? c=ae o->h'.get? c=ae o):ZSt k1 k2 z TI TO i1 i2 a b i f0 h':=
 ⟨kk z (by simp) _ st.hz,kk TI (by simp) _ st.hi,let⟨x,y,e⟩:=st.ho;⟨x,y,kk TO (by simp) _ e⟩,st.s1.at fun o e=>kk i1 (by simp) o e,st.s2.at fun o e=>kk i2 (by simp) o e⟩
theorem zipQ_item{Q:ag->am->Prop}(N:ZNe z TI TO i1 i2)(I:Inv X pins σ H s)(hf:∀ b ∈ [z,TI,TO,i1,i2],ze0 X pins H b)(st:ZSt k1 k2 z TI TO i1 i2 a b i .none s.heap)(q1:SqQ X.K k1 H a xs)(q2:SqQ X.K k2 H b ys)
  (hx:xs[i]? = ae x) (hy:ys[i]? = ae y)
  (go:∀ h',ZSt k1 k2 z TI TO i1 i2 a b (i+1) (rawInt s.heap.objs.size) h'->Inv X pins σ (upd H s.heap.objs.size (.tup [x,y])) { s with heap:=h'}->Q (.ref s.heap.objs.size) { s with heap:=h'}) :
  ay (model X.prog X.w) A (Builtin.«zip.__next__» ⟨[.ref z],[]⟩) (fun fin s'=>∃ v,fin=.done (.ret v)/\Q v s') E s:=by
 obtain⟨hz,hTI,⟨oa,ob,hTO⟩,h1,h2⟩:=st
 have fz:=hf z (by simp)
 have fO:=hf TO (by simp)
 have f1:=hf i1 (by simp)
 have f2:=hf i2 (by simp)
 show ay _ _ (field (.ref z) 2 >>= _) _ _ _
 refine aj (wpAny_field hz rfl (x:=.bool false) rfl ?_)
 show ay _ _ (field (.ref z) 3 >>= _) _ _ _
 refine aj (wpAny_field hz rfl (x:=.ref TI) rfl (aj (wpAny_seqItems hTI rfl ?_)))
 show ay _ _ (cK (.ref z) >>= _) _ _ _
 refine aj ?_
 unfold cK
 refine aj (wpAny_field hz rfl (x:=.none) rfl (aw ?_))
 simp only[if_true]
 refine aj (wpAny_rule (aj (wpAny_field hz rfl (x:=.ref TO) rfl (aj (wpAny_setField_rec hz (by simp) fun g1 z1 b1=>?_)))))
 replace z1:IsZip g1 z TI TO .ellipsis:=z1
 have I1:Inv X pins σ H { s with heap:=g1}:=I.turn1 fz b1.extBut
 refine aj ?_
 simp only[gD,ji,d5,ey]
 refine aj (aj (wpAny_onRaise ?_))
 show ay _ _ (bD (.ref i1) >>= _) _ _ _
 refine aj (zfh I1 f1 (h1.at fun o e=>b1.extBut _ o N.n3 e) q1 hx fun u1 g2 r1 t1 b2 I2=>aw ?_)
 have O2:IsPair g2 TO oa ob:=b2.extBut _ _ N.n8 (b1.extBut _ _ N.n2 hTO)
 refine aj (wpAny_seqItems O2 rfl (aj (wpAny_updateSeq_pair O2 fun g3 O3 b3=>?_)))
 replace O3:IsPair g3 TO u1 ob:=O3
 have I3:Inv X pins σ H { s with heap:=g3}:=I2.turn1 fO b3.extBut
 refine aj (wpAny_letGo (aw (aj (aj (wpAny_onRaise ?_)))))
 show ay _ _ (bD (.ref i2) >>= _) _ _ _
 have h2':SIt k2 g3 i2 b i:=h2.at fun o e=>b3.extBut _ o N.n9.symm (b2.extBut _ o N.n10.symm (b1.extBut _ o N.n4 e))
 refine aj (zfh I3 f2 h2' q2 hy fun u2 g4 r2 t2 b4 I4=>aw ?_)
 have O4:IsPair g4 TO u1 ob:=b4.extBut _ _ N.n9 O3
 refine aj (wpAny_seqItems O4 rfl (aj (wpAny_updateSeq_pair O4 fun g5 O5 b5=>?_)))
 replace O5:IsPair g5 TO u1 u2:=O5
 have I5:Inv X pins σ H { s with heap:=g5}:=I4.turn1 fO b5.extBut
 refine aj (wpAny_letGo (aw (aw (aj (wpAny_seqItems O5 rfl (aj (wpAny_newTuple ?_)))))))
 have hsz:g5.objs.size=s.heap.objs.size:=by rw[b5.1,b4.1,b3.1,b2.1,b1.1]
 have z5:IsZip g5 z TI TO .ellipsis:=b5.extBut _ _ N.n2.symm (b4.extBut _ _ N.n4.symm (b3.extBut _ _ N.n2.symm (b2.extBut _ _ N.n3.symm z1)))
 have TI5:IsPair g5 TI (.ref i1) (.ref i2):=b5.extBut _ _ N.n5 (b4.extBut _ _ N.n7 (b3.extBut _ _ N.n5 (b2.extBut _ _ N.n6 (b1.extBut _ _ N.n1 hTI))))
 have t15:SIt k1 g5 i1 a (i+1):=t1.at fun o e=>b5.extBut _ o N.n8.symm (b4.extBut _ o N.n10 (b3.extBut _ o N.n8.symm e))
 have t25:SIt k2 g5 i2 b (i+1):=t2.at fun o e=>b5.extBut _ o N.n9.symm e
 have hzlt:z<g5.objs.size:=aK z5
 show ay _ _ (ei (.ref z) (.ref g5.objs.size) >>= _) _ _ _
 refine aj ?_
 unfold ei
 have I6:Inv X pins σ (upd H g5.objs.size (.tup [x,y])) { s with heap:=g5.push { cls:=.type "tuple",data:=.seq #[u1,u2]}}:=
  I5.laid (t':=s.toks) (o:=.tup [x,y]) (fun c o e=>aq _ e) (aA _) ⟨by show 2<=ba;rw[cA];lia,[u1,u2],.cons r1 (.cons r2 .nil),⟨_,az _ rfl,rfl,0,by simp⟩⟩
 have fz6:ze0 X pins (upd H g5.objs.size (.tup [x,y])) z:=⟨by rw[zaj (aV hzlt)];exact fz.1,fz.2⟩
 have z6:IsZip (g5.push { cls:=.type "tuple",data:=.seq #[u1,u2]}) z TI TO .ellipsis:=aq _ z5
 refine aj (wpAny_setField_rec z6 (by simp) fun g7 z7 b7=>?_)
 replace z7:IsZip g7 z TI TO (rawInt g5.objs.size):=z7
 have I7:Inv X pins σ (upd H g5.objs.size (.tup [x,y])) { s with heap:=g7}:=I6.turn1 fz6 b7.extBut
 refine wpAny_setField_rec z7 (by simp) fun g8 z8 b8=>?_
 replace z8:IsZip g8 z TI TO (rawInt g5.objs.size):=z8
 have I8:Inv X pins σ (upd H g5.objs.size (.tup [x,y])) { s with heap:=g8}:=I7.turn1 fz6 b8.extBut
 have up:∀ c o,c ≠ z->g5.get? c=ae o->g8.get? c=ae o:=fun c o c1 e=>b8.extBut _ _ c1 (b7.extBut _ _ c1 (aq _ e))
 refine aw ⟨_,rfl,?_⟩
 show Q (.ref g5.objs.size) _
 have S8:ZSt k1 k2 z TI TO i1 i2 a b (i+1) (rawInt g5.objs.size) g8:=⟨z8,up _ _ N.n1 TI5,⟨_,_,up _ _ N.n2 O5⟩,t15.at fun o e=>up _ o N.n3 e,t25.at fun o e=>up _ o N.n4 e⟩
 rw[hsz] at S8 I8 ⊢
 exact go g8 S8 I8
theorem zipQ_end{Q:Fin->am->Prop}(hh:A.handled=af)(N:ZNe z TI TO i1 i2)(I:Inv X pins σ H s)(hf:∀ b ∈ [z,TI,TO,i1,i2],ze0 X pins H b)(st:ZSt k1 k2 z TI TO i1 i2 a b i .none s.heap)(q1:SqQ X.K k1 H a xs)(q2:SqQ X.K k2 H b ys)
  (hx:xs.length<=i \/ ys.length<=i)
  (go:∀ h' e,(∃ o,h'.get? e=ae o/\o.cls=.type "StopIteration")->Inv X pins σ H { s with heap:=h'}->E (.ref e) { s with heap:=h'}) :
  ay (model X.prog X.w) A (Builtin.«zip.__next__» ⟨[.ref z],[]⟩) Q E s:=by
 obtain⟨hz,hTI,⟨oa,ob,hTO⟩,h1,h2⟩:=st
 have fz:=hf z (by simp)
 have fO:=hf TO (by simp)
 have f1:=hf i1 (by simp)
 have f2:=hf i2 (by simp)
 show ay _ _ (field (.ref z) 2 >>= _) _ _ _
 refine aj (wpAny_field hz rfl (x:=.bool false) rfl ?_)
 show ay _ _ (field (.ref z) 3 >>= _) _ _ _
 refine aj (wpAny_field hz rfl (x:=.ref TI) rfl (aj (wpAny_seqItems hTI rfl ?_)))
 show ay _ _ (cK (.ref z) >>= _) _ _ _
 refine aj ?_
 unfold cK
 refine aj (wpAny_field hz rfl (x:=.none) rfl (aw ?_))
 simp only[if_true]
 refine aj (wpAny_rule (aj (wpAny_field hz rfl (x:=.ref TO) rfl (aj (wpAny_setField_rec hz (by simp) fun g1 z1 b1=>?_)))))
 replace z1:IsZip g1 z TI TO .ellipsis:=z1
 have I1:Inv X pins σ H { s with heap:=g1}:=I.turn1 fz b1.extBut
 refine aj ?_
 simp only[gD,ji,d5,ey]
 refine aj (aj (wpAny_onRaise ?_))
 show ay _ _ (bD (.ref i1) >>= _) _ _ _
 have h1':SIt k1 g1 i1 a i:=h1.at fun o e=>b1.extBut _ o N.n3 e
 by_cases hl:xs.length<=i
 ·refine aj (zhS hh I1 f1 h1' q1 hl fun g2 e b2 he I2=>?_)
  obtain⟨oe,e1,e2⟩:=he
  have z2:IsZip g2 z TI TO .ellipsis:=b2 _ _ N.n3.symm z1
  have hez:e ≠ z:=fun q=>by subst q;rw[z2] at e1;cases e1;simp at e2
  exact wpAny_setField_rec z2 (by simp) fun g3 _ b3=>go g3 e ⟨oe,b3.extBut _ _ hez e1,e2⟩ (I2.turn1 fz b3.extBut)
 ·have hl2:ys.length<=i:=hx.resolve_left hl
  refine aj (zfh I1 f1 h1' q1 (x:=xs[i]'(by lia)) (bg (by lia)) fun u1 g2 r1 t1 b2 I2=>aw ?_)
  have O2:IsPair g2 TO oa ob:=b2.extBut _ _ N.n8 (b1.extBut _ _ N.n2 hTO)
  refine aj (wpAny_seqItems O2 rfl (aj (wpAny_updateSeq_pair O2 fun g3 O3 b3=>?_)))
  have I3:Inv X pins σ H { s with heap:=g3}:=I2.turn1 fO b3.extBut
  refine aj (wpAny_letGo (aw (aj (aj (wpAny_onRaise ?_)))))
  show ay _ _ (bD (.ref i2) >>= _) _ _ _
  have h2':SIt k2 g3 i2 b i:=h2.at fun o e=>b3.extBut _ o N.n9.symm (b2.extBut _ o N.n10.symm (b1.extBut _ o N.n4 e))
  refine aj (zhS hh I3 f2 h2' q2 hl2 fun g4 e b4 he I4=>?_)
  obtain⟨oe,e1,e2⟩:=he
  have z4:IsZip g4 z TI TO .ellipsis:=b4 _ _ N.n4.symm (b3.extBut _ _ N.n2.symm (b2.extBut _ _ N.n3.symm z1))
  have hez:e ≠ z:=fun q=>by subst q;rw[z4] at e1;cases e1;simp at e2
  exact wpAny_setField_rec z4 (by simp) fun g5 _ b5=>go g5 e ⟨oe,b5.extBut _ _ hez e1,e2⟩ (I4.turn1 fz b5.extBut)
end
def Itz(K:ak)(k1 k2:Bool)(a b:ai):It:=
  ⟨fun i H=>∃ xs ys x y,SqQ K k1 H a xs/\SqQ K k2 H b ys/\xs[i]? = ae x/\ys[i]? = ae y,
   fun i H v H'=>∃ p,H p=af/\v=.ref p/\∀ xs ys,SqQ K k1 H a xs->SqQ K k2 H b ys->∃ x y,xs[i]? = ae x/\ys[i]? = ae y/\H'=upd H p (.tup [x,y]),
   fun i H=>∃ xs ys,SqQ K k1 H a xs/\SqQ K k2 H b ys/\(xs.length<=i \/ ys.length<=i)⟩
theorem turn_zip{P:aR}{w:aX}{K:ak}{es:List Expr}{n:Nat}{pos:Pos}(k1 k2:Bool)(z TI TO i1 i2 a b:ai)(N:ZNe z TI TO i1 i2) :
  Turn P w K (.Tuple es n pos) (Itz K k1 k2 a b) [z,TI,TO,i1,i2] z (fun i h=>ZSt k1 k2 z TI TO i1 i2 a b i .none h) where
 mem:=by simp
 obj:=fun i h st c hc=>by
  obtain⟨hz,hTI,⟨oa,ob,hTO⟩,h1,h2⟩:=st
  obtain⟨o1,e1,_,d1⟩:=h1.out
  obtain⟨o2,e2,_,d2⟩:=h2.out
  simp only[aF,bw,or_false] at hc
  rcases hc with rfl | rfl | rfl | rfl | rfl
  ·exact⟨_,hz,fun v q=>by cases (show gT _=fN v from q)⟩
  ·exact⟨_,hTI,fun v q=>by cases (show i0 _ _=fN v from q)⟩
  ·exact⟨_,hTO,fun v q=>by cases (show i0 _ _=fN v from q)⟩
  ·exact⟨o1,e1,fun v q=>by rw[d1] at q;cases q⟩
  ·exact⟨o2,e2,fun v q=>by rw[d2] at q;cases q⟩
 keep:=fun i h h' st k=>st.keep k
 item:=by
  intro X hP hw hK hc i pins s σ H E I hf st hg
  subst hP hw hK
  obtain⟨xs,ys,x,y,q1,q2,hx,hy⟩:=hg
  have hT:s.TypeIs (.ref z) "zip" :=⟨_,st.hz,rfl⟩
  unfold pyNext
  refine aj (wpAny_attempt (wpAny_callSpecial?_slot (name:=bZ "__next__") hT fg (wpAny_call_entry fg hT i8 (zipQ_item N I hf st q1 q2 hx hy fun g S2 I2=>aw ⟨_,rfl,?_⟩) (iQ _))))
  have hlt:∀ c ∈ [z,TI,TO,i1,i2],c ≠ s.heap.objs.size:=fun c hc=>by
   obtain⟨hz,hTI,⟨oa,ob,hTO⟩,h1,h2⟩:=st
   obtain⟨o1,e1,_⟩:=h1.out
   obtain⟨o2,e2,_⟩:=h2.out
   simp only[aF,bw,or_false] at hc
   rcases hc with rfl | rfl | rfl | rfl | rfl
   ·exact aV (aK hz)
   ·exact aV (aK hTI)
   ·exact aV (aK hTO)
   ·exact aV (aK e1)
   ·exact aV (aK e2)
  have hn:∀ c ∈ [z,TI,TO,i1,i2],upd H s.heap.objs.size (.tup [x,y]) c=af:=fun c hc=>by rw[zaj (hlt c hc)];exact(hf c hc).1
  have fz:ze0 X pins (upd H s.heap.objs.size (.tup [x,y])) z:=⟨hn z (by simp),(hf z (by simp)).2⟩
  refine wpAny_letOwnedTupleGo_zip S2.hz fun g' z' b'=>⟨.ref s.heap.objs.size,_,I2.turn1 fz b'.extBut,rfl,⟨_,I.hok.fresh (aA _),rfl,fun us vs u1 u2=>?_⟩,?_,hn⟩
  ·rw[I.seqQ_inj u1 q1,I.seqQ_inj u2 q2]
   exact⟨x,y,hx,hy,rfl⟩
  ·obtain⟨_,hTI,⟨oa,ob,hTO⟩,h1,h2⟩:=S2
   exact⟨z',b'.extBut _ _ N.n1 hTI,⟨oa,ob,b'.extBut _ _ N.n2 hTO⟩,h1.at fun o e=>b'.extBut _ o N.n3 e,h2.at fun o e=>b'.extBut _ o N.n4 e⟩
 done:=by
  intro X hP hw hK hc i pins s σ H E I hf st hg
  subst hP hw hK
  obtain⟨xs,ys,q1,q2,hx⟩:=hg
  have hT:s.TypeIs (.ref z) "zip" :=⟨_,st.hz,rfl⟩
  unfold pyNext
  refine aj (wpAny_attempt (wpAny_callSpecial?_slot (name:=bZ "__next__") hT fg (wpAny_call_entry fg hT i8 (zipQ_end (I.ok.hd hc) N I hf st q1 q2 hx fun g e he I2=>?_) (iQ _))))
  obtain⟨o,e1,e2⟩:=he
  exact aj (wpAny_isInstance (T:= "StopIteration") (b:=true) ⟨o,e1,e2⟩ isSubtype_stop (aw ⟨rfl,I2⟩))
 self:=fun A i s Q E st h=>wpAny_pyIter_zip st.hz h
abbrev zA(h:aW)(k:Bool)(a:ai):aW:=h.push { cls:=.type (itN k),data:=.fields #[.ref a,.int 0 0]}
abbrev zB(h:aW)(k1 k2:Bool)(a b:ai):aW:=zA (zA h k1 a) k2 b
abbrev zC(h:aW)(k1 k2:Bool)(a b:ai):aW:=(zB h k1 k2 a b).push { cls:=.type "tuple",data:=.seq #[.ref h.objs.size,.ref (zA h k1 a).objs.size]}
abbrev zD(h:aW)(k1 k2:Bool)(a b:ai):aW:=(zC h k1 k2 a b).push { cls:=.type "tuple",data:=.seq #[.none,.none]}
abbrev zE(h:aW)(k1 k2:Bool)(a b:ai):aW:=(zD h k1 k2 a b).push { cls:=.type "zip",data:=.fields #[.none,.bool false,.bool false,.ref (zB h k1 k2 a b).objs.size,.ref (zC h k1 k2 a b).objs.size]}
theorem QAt.push{k:Bool}{h:aW}{a:ai}{xs:Array ag}(p:QAt k h a xs)(o:Obj):QAt k (h.push o) a xs:=by
 cases k with
 | true=>exact kH p o
 | false=>exact kP p o
theorem zjw(k1 k2:Bool)(a b:ai)(xs ys:Array ag) :
  Meets (Builtin.«zip.__new__» ⟨[.type "zip",.ref a,.ref b],[]⟩) (fun _ R s=>QAt k1 s.heap a xs/\QAt k2 s.heap b ys/\R (.ok (.ret (.ref (zD s.heap k1 k2 a b).objs.size))) { s with heap:=zE s.heap k1 k2 a b}):=
 .of_wp fun prog w A R s h=>by
  obtain⟨hp,g,d,tk,os⟩:=s
  obtain⟨p1,p2,h⟩:=h
  have hsub:=sub_zip
  have P1:QAt k1 (fM ⟨hp,g,d,tk,os⟩) a xs:=p1
  have P2:QAt k2 (fM ⟨zA hp k1 a,g,d,tk,os⟩) b ys:=p2.push _
  wp_walk using pyIterQ P1,pyIterQ P2
  exact⟨_,rfl,h⟩
theorem callQ_zip{prog:aR}{w:aX}{A:a8}{E:ag->am->Prop}{s:am}{k1 k2:Bool}{a b:ai}{xs ys:Array ag}{Q:ag->am->Prop}(p1:QAt k1 s.heap a xs)(p2:QAt k2 s.heap b ys)
  (h:∀ h',ZSt k1 k2 (s.heap.objs.size+4) (s.heap.objs.size+2) (s.heap.objs.size+3) s.heap.objs.size (s.heap.objs.size+1) a b 0 .none h'->(∀ c o,s.heap.get? c=ae o->h'.get? c=ae o)->Q (.ref (s.heap.objs.size+4)) { s with heap:=h'}) :
  ay (model prog w) A (call (.type "zip") [.ref a,.ref b]) Q E s:=by
 refine callType_new F.called_zip (by decide) (F.typeCall_zip_2 _ _) (F.newCall_zip_2 _ _) (fun obj=>F.args_object_init_3 obj _ _) F.entry_zip_new (zjw k1 k2 a b xs ys) ⟨p1,p2,?_⟩
 have y1:(zA s.heap k1 a).objs.size=s.heap.objs.size+1:=bC ..
 have y2:(zB s.heap k1 k2 a b).objs.size=s.heap.objs.size+2:=by rw[bC,y1]
 have y3:(zC s.heap k1 k2 a b).objs.size=s.heap.objs.size+3:=by rw[bC,y2]
 have y4:(zD s.heap k1 k2 a b).objs.size=s.heap.objs.size+4:=by rw[bC,y3]
 have up:∀ c o,s.heap.get? c=ae o->(zE s.heap k1 k2 a b).get? c=ae o:=fun c o x=>aq _ (aq _ (aq _ (aq _ (aq _ x))))
 have g5:(zE s.heap k1 k2 a b).get? (zD s.heap k1 k2 a b).objs.size=ae _:=az _ rfl
 have g4:(zE s.heap k1 k2 a b).get? (zC s.heap k1 k2 a b).objs.size=ae _:=aq _ (az _ rfl)
 have g3:(zE s.heap k1 k2 a b).get? (zB s.heap k1 k2 a b).objs.size=ae _:=aq _ (aq _ (az _ rfl))
 have g2:(zE s.heap k1 k2 a b).get? (zA s.heap k1 a).objs.size=ae _:=aq _ (aq _ (aq _ (az _ rfl)))
 have g1:(zE s.heap k1 k2 a b).get? s.heap.objs.size=ae _:=aq _ (aq _ (aq _ (aq _ (az _ rfl))))
 show _/\_
 rw[y2,y3,y4] at g5
 rw[y1,y2] at g3
 rw[y3] at g4
 rw[y1] at g2
 rw[y4]
 exact⟨⟨_,g5,rfl⟩,h _ ⟨g5,g3,⟨_,_,g4⟩,.mk ⟨_,g1,rfl,rfl⟩,.mk ⟨_,g2,rfl,rfl⟩⟩ up⟩
theorem zne(n:Nat):ZNe (n+4) (n+2) (n+3) n (n+1):=
  ⟨by intro h;have:n+2=n+4:=h;lia,by intro h;have:n+3=n+4:=h;lia,by intro h;have:n=n+4:=h;lia,by intro h;have:n+1=n+4:=h;lia,by intro h;have:n+2=n+3:=h;lia,
   by intro h;have:n+2=n:=h;lia,by intro h;have:n+2=n+1:=h;lia,by intro h;have:n+3=n:=h;lia,by intro h;have:n+3=n+1:=h;lia,by intro h;have:n=n+1:=h;lia⟩
def iZp(K:ak)(ta:TA):TI:=fun σ H R=>ta σ H fun vs H1=>∃ k1 k2 a b,vs=[.ref a,.ref b]/\(∃ xs,SqQ K k1 H1 a xs)/\(∃ ys,SqQ K k2 H1 b ys)/\R (Itz K k1 k2 a b) H1
theorem pi_zip{X:Cx}{es:List Expr}{n:Nat}{tpos p pos:Pos}{a b:Expr}{ta:TA}(hg:Gl X "zip")(hm:X.mg "zip" = af)(hb:aZ "zip" = ae (.type "zip"))(ha:PA X [a,b] ta)(hs:aY [a,b] X.env=[(false,eval a X.env),(false,eval b X.env)]:=by rfl)(hs2:aY [b] X.env=[(false,eval b X.env)]:=by rfl) :
  PI X (.Tuple es n tpos) (.Call (.Name "zip" p) [a,b] [] pos) (iZp X.K ta):=by
 intro pins s σ H R I h
 refine Call_ (zei I hg hm hb (bV (thn (ha pos pins s σ H _ I h) fun us s1 ⟨vs,H1,I1,r1,q1⟩=>?_) (by rw[hs,hs2]) (by rw[hs2];rfl)))
 obtain⟨k1,k2,u,v,e,⟨xs,w1⟩,⟨ys,w2⟩,q⟩:=q1
 subst e
 cases r1 with
 | cons r rr=>
  cases rr with
  | cons r' rr=>
   cases rr
   cases r
   cases r'
   obtain⟨i1,v1,p1⟩:=I1.seqQ w1
   obtain⟨i2,v2,p2⟩:=I1.seqQ w2
   refine callQ_zip p1 p2 fun g st up=>wpAny_pyIter_zip st.hz ?_
   have I2:Inv X pins σ H1 { s1 with heap:=g}:=I1.kept (t':=s1.toks) up
   refine⟨_,_,_,_,H1,rfl,I2,turn_zip k1 k2 _ _ _ _ _ u v (zne _),st,fun c hc=>?_,q⟩
   have hc':s1.heap.objs.size<=c:=by
    simp only[aF,bw,or_false] at hc
    rcases hc with rfl | rfl | rfl | rfl | rfl
    ·exact eM _ _
    ·exact eM _ _
    ·exact eM _ _
    ·exact aA _
    ·exact eM _ _
   exact I1.fpOk hc' (I1.hok.fresh hc')
end L2
namespace L3
open PySem PySem.Spec PyProof.Rows L2
def qOf:Ent->Option (List D)
 | .val (.lst ds)=>ae ds
 | .val (.tup ds)=>ae ds
 | .own ds=>ae ds
 | _=>af
def qV(fe:FE):FI:=fun δ=>(fe δ).bind qOf
def iZip(fa fb:FI):FI:=fun δ=>(fa δ).bind fun xs=>(fb δ).bind fun ys=>ae ((xs.zip ys).map fun p=>D.tup [p.1,p.2])
def Stays(K:ak)(B F:Hp)(v:V)(ds:List D):Prop:=∃ k a vs,v=.ref a/\(∀ F2 H2,Same F F2->Same F2 H2->Same B H2->SqQ K k H2 a vs)/\Reps F vs ds
def SemQ(K:ak)(t:TE)(f:FI):Prop:=∀ (B:Bd) (F H:Hp) (σ:Sg) (δ:En) (ds:List D) (Q:VK),RS K B F H σ δ->f δ=ae ds->(∀ v F' H',Ex F H F' H'->Stays K B F' v ds->Q v H')->t σ H Q
structure VQ(X:Cx)(e:Expr)(f:FI):Prop where
 h:∃ t,WE X e t/\SemQ X.K t f
theorem itOk_zip{K:ak}{B F0:Hp}{k1 k2:Bool}{a b:ai}{vs ws:List V}{ds es:List D}(h1:∀ F H,Same F0 F->Same F H->Same B H->SqQ K k1 H a vs)(h2:∀ F H,Same F0 F->Same F H->Same B H->SqQ K k2 H b ws)(r1:Reps F0 vs ds)(r2:Reps F0 ws es) :
  ItOk B F0 (Itz K k1 k2 a b) ((ds.zip es).map fun p=>D.tup [p.1,p.2]):=fun F H s1 s2 s3=>by
 have q1:=h1 F H s1 s2 s3
 have q2:=h2 F H s1 s2 s3
 have l1:=r1.length
 have l2:=r2.length
 refine⟨⟨vs,ws,q1,q2,?_⟩,fun i d e=>?_⟩
 ·rw[ax,fq]
  lia
 ·rw[aG] at e
  obtain⟨p,e1,e2⟩:=dH.mp e
  obtain⟨e3,e4⟩:=List.getElem?_zip_eq_some.mp e1
  obtain⟨v,g1,g2⟩:=r1.get e3
  obtain⟨w,g3,g4⟩:=r2.get e4
  refine⟨⟨vs,ws,v,w,q1,q2,g1,g3⟩,fun x H' y=>?_⟩
  obtain⟨pp,hp,ex,y⟩:=y
  obtain⟨v',w',y1,y2,eH⟩:=y vs ws q1 q2
  rw[g1] at y1
  rw[g3] at y2
  cases y1
  cases y2
  subst ex eH e2
  have sm:Same F (upd F pp (.tup [v,w])):=Same.alloc (s2.free hp)
  exact⟨_,Ex.alloc s2 hp,.tup zai (.cons (Rep.mono (s1.trans sm) g2) (.cons (Rep.mono (s1.trans sm) g4) .nil))⟩
section
variable {X:Cx}{e e':Expr}{fe:FE}{fa fb:FI}{p pos tpos:Pos}{x:Str}{es:List Expr}{n:Nat}
theorem zqv(h:VE X e fe):VQ X e (qV fe):=by
 obtain⟨t,w,m⟩:=h.h
 refine⟨_,w,fun B F H σ δ ds Q s q k=>?_⟩
 obtain⟨r,q1,q⟩:=bind_some q
 refine m B F H σ δ r _ s q1 fun v F1 H1 x1 r1=>?_
 unfold qOf at q
 split at q
 ·cases q
  cases (show Rep F1 v (.lst ds) from r1) with
  | lst e rs=>exact k _ F1 H1 x1 ⟨false,_,_,rfl,fun F2 H2 a b _=>SqL.of (b _ _ (a _ _ e)),rs⟩
 ·cases q
  cases (show Rep F1 v (.tup ds) from r1) with
  | tup e rs=>exact k _ F1 H1 x1 ⟨true,_,_,rfl,fun F2 H2 a b _=>SqT.of (b _ _ (a _ _ e)),rs⟩
 ·cases q
  obtain⟨F2,x2,_,r2⟩:=RepR.frz x1 (Same.refl _) r1 rfl
  cases r2 with
  | lst e rs=>exact k _ F2 H1 x2 ⟨false,_,_,rfl,fun F3 H3 a b _=>SqL.of (b _ _ (a _ _ e)),rs⟩
 ·cases q
theorem iizip(h1:VQ X e fa)(h2:VQ X e' fb)(hg:Gl X "zip")(hm:X.mg "zip" = af)(hb:aZ "zip" = ae (.type "zip"))(n1:zan e=true:=by rfl)(n2:zan e'=true:=by rfl):VI X (.Tuple es n tpos) (.Call (.Name "zip" p) [e,e'] [] pos) (iZip fa fb):=by
 obtain⟨t1,w1,m1⟩:=h1.h
 obtain⟨t2,w2,m2⟩:=h2.h
 refine⟨_,⟨pi_zip hg hm hb (wac w1 (wac w2 wnil n2) n1).h (by rw[zao n1,zao n2];rfl) (by rw[zao n2];rfl)⟩,fun B F H σ δ ds R s q k=>?_⟩
 obtain⟨xs,q1,q⟩:=bind_some q
 obtain⟨ys,q2,q⟩:=bind_some q
 cases q
 refine m1 B F H σ δ xs _ s q1 fun v F1 H1 x1 ⟨k1,a,vs,ev,p1,r1⟩=>?_
 refine m2 B F1 H1 σ δ ys _ (s.ext x1) q2 fun v' F2 H2 x2 ⟨k2,b,ws,ew,p2,r2⟩=>?_
 subst ev ew
 have bh:=s.bh.trans (x1.trans x2).hh
 exact⟨k1,k2,a,b,rfl,⟨vs,p1 F2 H2 x2.ff x2.fh bh⟩,⟨ws,p2 F2 H2 (Same.refl _) x2.fh bh⟩,k _ F2 H2 (x1.trans x2) (itOk_zip (fun F H a b c=>p1 F H (x2.ff.trans a) b c) p2 (r1.mono x2.ff) r2)⟩
end
end L3

namespace L2
open PySem PySem.Spec PyProof.Rows
def Itq(K:ak):Bool->ai->It
 | true=>Itt K
 | false=>Itl K
def iSq(K:ak)(tl:TE):TI:=fun σ H R=>tl σ H fun x H1=>∃ k a,x=.ref a/\(∃ xs,SqQ K k H1 a xs)/\R (Itq K k a) H1
theorem pi_seq{X:Cx}{tg l:Expr}{tl:TE}(hl:PE X l tl):PI X tg l (iSq X.K tl):=by
 intro pins s σ H R I h
 refine thn (hl pins s σ H _ I h) fun v s1 ⟨x,H1,I1,r1,q1⟩=>?_
 obtain⟨k,a,e,⟨xs,hq⟩,q⟩:=q1
 subst e
 cases r1
 have fp:∀ b ∈ [s1.heap.objs.size],ze0 X pins H1 b:=fun b hb=>by
  cases bL.mp hb
  exact I1.fpOk (aA _) (I1.hok.fresh (aA _))
 obtain⟨its,rv,p⟩:=I1.seqQ hq
 cases k with
 | true=>exact wpAny_pyIter_tuple p ⟨s1.heap.objs.size,[s1.heap.objs.size],_,_,H1,rfl,I1.kept (t':=s1.toks) fun b o e=>aq _ e,zgI a _,⟨_,az _ rfl,rfl,rfl⟩,fp,q⟩
 | false=>exact wpAny_pyIter_list p ⟨s1.heap.objs.size,[s1.heap.objs.size],_,_,H1,rfl,I1.kept (t':=s1.toks) fun b o e=>aq _ e,zhM a _,⟨_,az _ rfl,rfl,rfl⟩,fp,q⟩
end L2
namespace L3
open PySem PySem.Spec PyProof.Rows L2
theorem itOk_seq{K:ak}{B F0:Hp}{k:Bool}{a:ai}{vs:List V}{ds:List D}(h:∀ F H,Same F0 F->Same F H->Same B H->SqQ K k H a vs)(r:Reps F0 vs ds):ItOk B F0 (Itq K k a) ds:=by
 cases k with
 | false=>exact zeX h r
 | true=>
  intro F H s1 s2 s3
  have hq:SqT K H a vs:=h F H s1 s2 s3
  refine⟨⟨vs,hq,by rw[r.length];exact aA _⟩,fun i d e=>?_⟩
  obtain⟨v,h1,h2⟩:=r.get e
  refine⟨⟨vs,v,hq,h1⟩,fun x H' y=>?_⟩
  obtain⟨e',y⟩:=y
  subst e'
  have z:=y vs hq
  rw[h1] at z
  cases z
  exact⟨F,Ex.refl s2,Rep.mono s1 h2⟩
theorem iiq{X:Cx}{tg e:Expr}{fe:FE}(h:VE X e fe):VI X tg e (qV fe):=by
 obtain⟨t,w,m⟩:=(zqv h).h
 exact⟨_,⟨pi_seq w.h⟩,fun B F H σ δ ds R s q k=>m B F H σ δ ds _ s q fun v F1 H1 x1 ⟨kk,a,vs,e,p,r⟩=>⟨kk,a,e,⟨vs,p F1 H1 (Same.refl _) x1.fh (s.bh.trans x1.hh)⟩,k _ F1 H1 x1 (itOk_seq p r)⟩⟩
end L3
namespace L2
open PySem PySem.Spec PyProof.Rows
section
variable {X:Cx}
end
end L2
namespace L3
open PySem PySem.Spec PyProof.Rows L2
end L3
namespace L2
open PySem PySem.Spec PyProof.Rows
open PySem.AutoSeq1 (wpAny_loadPart')
open PySem.MeetsSeq PySem.MeetsSeq2 PySem.MeetsSeq3
section
variable {X:Cx}
end
end L2
namespace L3
open PySem PySem.Spec PyProof.Rows L2
section
variable {X:Cx}
end
structure MtT(X:Cx)(name:Str)(g:Ent->List Ent->Option Ent):Prop where
 h:∃ id r,Slot "tuple" name id/\typeOf (.builtin id)=pure (.type "method_descriptor")/\MtR X id r /\
  (∀ (F:Hp) (v:V) (e:Ent) (es:List Ent) (res:Ent),g e es=ae res->∃ ds,e=.val (.tup ds)) /\
  ∀ (H0 F H:Hp) (x:V) (vs:List V) (e:Ent) (es:List Ent) (res:Ent) (Q:VK),Same F H->Same H0 H->RepR X.K H0 F H x e->RepRs X.K H0 F H vs es->g e es=ae res->(∀ v F' H',Ex F H F' H'->RepR X.K H0 F' H' v res->Q v H')->r x vs H Q
section
variable {X:Cx}{name:Str}{g:Ent->List Ent->Option Ent}{o e:Expr}{es:List Expr}{fo:FE}{fs:FA}{apos cpos:Pos}
end
end L3

namespace L2
open PySem PySem.Spec PyProof.Rows PyProof.Rows.KTD
section
variable {X:Cx}{a:ai}{D:List (Str × Int)}
end
theorem kisS{P:aR}{w:aX}{z:Str}{u:ag}(r:RelV (.str z) u):(zg0 P w).is (bA z) u=true:=by
 obtain⟨t,rfl⟩:=r
 show dW z (.str z t)=true
 simp[dW]
def atK(kvs:List (Key × V))(k:Key):Option V:=(kvs.find? fun p=>decide (p.1=k)).map (·.2)
theorem atK_rel{kvs:List (Key × V)}{vs:List (Key × ag)}(r:KV kvs vs)(k:Key):(∃ v w,atK kvs k=ae v/\valueAt vs k=ae w/\RelV v w) \/ (atK kvs k=af/\valueAt vs k=af):=by
 unfold KV at r
 induction r with
 | nil=>exact .inr ⟨rfl,rfl⟩
 | @cons p q ps qs h t ih=>
  obtain⟨h1,h2⟩:=h
  unfold atK valueAt at ih ⊢
  by_cases e:p.1=k
  ·refine .inl ⟨p.2,q.2,?_,?_,h2⟩
   ·rw[cN (by simpa using e)];rfl
   ·rw[cN (by simpa using (h1 ▸ e:q.1=k))];rfl
  ·rw[cO (by simpa using e),cO (by simpa using (fun z=>e (h1.trans z):¬ q.1=k))]
   exact ih
section
variable {X:Cx}
end
inductive PrsOf:List Str->List V->List (ag × ag)->Prop
 | nil:PrsOf [] [] []
 | cons {z:Str} {t:Tok} {v:V} {u:ag} {ks:List Str} {vs:List V} {ws:List (ag × ag)}:RelV v u->PrsOf ks vs ws->PrsOf (z :: ks) (v :: vs) ((.str z t,u) :: ws)
theorem PrsOf.len{ks:List Str}{vs:List V}{ws:List (ag × ag)}(h:PrsOf ks vs ws):ks.length=vs.length:=by
 induction h with
 | nil=>rfl
 | cons _ _ ih=>rw[aL,aL,ih]
def PDs(X:Cx)(pos:Pos)(keys:List (Option Expr))(values:List Expr)(ks:List Str)(t:TA):Prop:=
 ∀ (pins:List (ai × Obj)) (s:am) (σ:St) (H:Hp) (Q:List V->Hp->Prop),Inv X pins σ H s->t σ H Q ->
  ay (model X.prog X.w) X.A (evalPairs (pairTrees keys values X.env pos)) (fun ws s'=>∃ vs H',Inv X pins σ H' s'/\PrsOf ks vs ws/\Q vs H') X.xe s
end L2
namespace L3
open PySem PySem.Spec PyProof.Rows L2
def lkD:List Str->List D->Str->Option D
 | k :: ks,d :: ds,z=>if k=z then ae d else lkD ks ds z
 | _,_,_=>af
theorem lkD_ok{F:Hp}(z:Str):∀ {ks:List Str} {vs:List V} {ds:List D},ks.length=vs.length->Reps F vs ds ->
  (∃ d v,lkD ks ds z=ae d/\atK ((ks.map bA).zip vs) (bA z)=ae v/\Rep F v d) \/ (lkD ks ds z=af/\atK ((ks.map bA).zip vs) (bA z)=af)
 | [],[],_,_,.nil=>.inr ⟨rfl,rfl⟩
 | k :: ks,v :: vs,d :: ds,hl,.cons r rs=>by
  simp only[lkD]
  unfold atK
  rw[aH,cx]
  by_cases e:k=z
  ·rw[if_pos e,cN (by simpa using e)]
   exact .inl ⟨d,v,rfl,rfl,r⟩
  ·rw[if_neg e,cO (by simpa using e)]
   exact lkD_ok z (by simpa using hl) rs
def dOf:Ent->Option (List Str × List D)
 | .val (.dic ks ds)=>ae (ks,ds)
 | _=>af
theorem zi2{e:Ent}{p:List Str × List D}(h:dOf e=ae p):e=.val (.dic p.1 p.2):=by
 cases e with
 | val d=>cases d <;> first | (cases h;rfl) | (cases h)
 | _=>cases h
section
variable {X:Cx}
structure VD(X:Cx)(pos:Pos)(keys:List (Option Expr))(values:List Expr)(ks:List Str)(fs:FA):Prop where
 h:∃ t,PDs X pos keys values ks t/\SemA X.K t fs
variable {pos kp p:Pos}{z x:Str}{j:Nat}{v sl:Expr}{keys:List (Option Expr)}{values:List Expr}{ks:List Str}{fv fe:FE}{fs:FA}
end
end L3

namespace L2
open PySem PySem.Spec PyProof.Rows
end L2
namespace L3
open PySem PySem.Spec PyProof.Rows L2
section
variable {X:Cx}{e:Expr}{fe:FE}{x:Str}{p pos:Pos}
end
end L3

namespace L3
open PySem PySem.Spec PyProof.Rows L2
section
variable {X:Cx}{tg:Expr}{pos p:Pos}{x:Str}{tgf:FG}
end
end L3

namespace L2
open PySem PySem.Spec PyProof.Rows
theorem Inv.turned2{X:Cx}{pins:List (ai × Obj)}{σ:St}{H:Hp}{s:am}{h':aW}{t':Nat}{e it:ai}(I:Inv X pins σ H s)(k:∀ b o,b ≠ e->b ≠ it->s.heap.get? b=ae o->h'.get? b=ae o)(fe:ze0 X pins H e)(fi:ze0 X pins H it) :
  Inv X pins σ H { s with heap:=h',toks:=t'}:=by
 have n1:∀ b u,H b=ae u->b ≠ e:=fun b u q z=>by rw[z,fe.1] at q;cases q
 have n2:∀ b u,H b=ae u->b ≠ it:=fun b u q z=>by rw[z,fi.1] at q;cases q
 have kc:∀ b o,b ∉ [e,it]->s.heap.get? b=ae o->h'.get? b=ae o:=fun b o hc q=>k b o (fun z=>hc (by simp[z])) (fun z=>hc (by simp[z])) q
 refine I.step (g':=s.gens) (d':=s.drawn) (ch:=[e,it]) (fun b hb=>?_) (fun b o _ _ hc q _=>kc b o hc q) (fun b o _ _ hc q _=>⟨o.slots,kc b o hc q⟩) (fun _ _ _ _ n=>n)
  (fun b o hc q=>⟨o,kc b o hc q⟩) (fun _ _ q=>q) (fun _ _ _ q=>q) (fun b ps q=>⟨#[],by rw[q];simp⟩) (fun m hm=>?_) (fun b u q=>?_) I.bare
 ·simp only[aF,bw,or_false] at hb
  rcases hb with rfl | rfl
  ·exact⟨fe.2.2.2.1,fe.2.1,fe.2.2.2.2.1,fe.2.2.2.2.2⟩
  ·exact⟨fi.2.2.2.1,fi.2.1,fi.2.2.2.2.1,fi.2.2.2.2.2⟩
 ·obtain⟨o,es,ep,ho,r⟩:=hm
  exact⟨o,es,ep,k _ o (cr fe.2.1) (cr fi.2.1) ho,r⟩
 ·refine(I.hok b u q).stay (fun c v hc q'=>?_) (fun _ q=>q) fun _ _ q=>q
  rcases hc with z | z
  ·rw[z] at q' ⊢;exact k b v (n1 b u q) (n2 b u q) q'
  ·exact k c v (n1 c _ z) (n2 c _ z) q'
def Ite(K:ak)(a:ai):It:=
  ⟨fun i H=>∃ xs x,SqL K H a xs/\xs[i]? = ae x,
   fun i H v H'=>∃ p,H p=af/\v=.ref p/\∀ xs,SqL K H a xs->∃ x,xs[i]? = ae x/\H'=upd H p (.tup [.int i,x]),
   fun i H=>∃ xs,SqL K H a xs/\xs.length<=i⟩
structure ESt(e it a:ai)(i:Nat)(h:aW):Prop where
 he:∃ old,IsEnum h e it (i:Int) old
 hi:h.IsListIter it a i
theorem turn_enum{P:aR}{w:aX}{K:ak}{es:List Expr}{n:Nat}{pos:Pos}(e it a:ai)(ne:e ≠ it) :
  Turn P w K (.Tuple es n pos) (Ite K a) [e,it] e (fun i h=>ESt e it a i h) where
 mem:=by simp
 obj:=fun i h st c hc=>by
  obtain⟨⟨old,he⟩,o1,e1,_,d1⟩:=st
  simp only[aF,bw,or_false] at hc
  rcases hc with rfl | rfl
  ·exact⟨_,he,fun v q=>by cases (show gT _=fN v from q)⟩
  ·exact⟨o1,e1,fun v q=>by rw[d1] at q;cases q⟩
 keep:=fun i h h' st k=>by
  obtain⟨⟨old,he⟩,o1,e1,r⟩:=st
  exact⟨⟨old,k e (by simp) _ he⟩,o1,k it (by simp) _ e1,r⟩
 item:=by
  intro X hP hw hK hc i pins s σ H E I hf st hg
  subst hP hw hK
  obtain⟨xs,x,q1,hx⟩:=hg
  obtain⟨⟨old,he⟩,hi⟩:=st
  obtain⟨its,rv,pl,_⟩:=I.list q1
  obtain⟨u,hu,ru⟩:=rv.get hx
  have fe:=hf e (by simp)
  have fi:=hf it (by simp)
  have le:e<s.heap.objs.size:=aK he
  have li:it<s.heap.objs.size:=by obtain⟨o1,e1,_⟩:=hi;exact aK e1
  refine wpAny_pyNext_enum_item he hi pl.isList (x:=u) (by simpa using hu) ne fun h1 ho hi1 ht hz hk=>⟨_,rfl,?_⟩
  have I1:Inv X pins σ (upd H s.heap.objs.size (.tup [.int i,x])) { s with heap:=s.heap.push { cls:=.type "tuple",data:=.seq #[.int i s.toks,u]},toks:=s.toks+1}:=
   I.laid (t':=s.toks+1) (o:=.tup [.int i,x]) (fun c o q=>aq _ q) (aA _) ⟨by show 2<=ba;rw[cA];lia,[.int i s.toks,u],.cons ⟨_,rfl⟩ (.cons ru .nil),⟨_,az _ rfl,rfl,0,by simp⟩⟩
  have hn:∀ c ∈ [e,it],upd H s.heap.objs.size (.tup [.int i,x]) c=af:=fun c hc=>by
   have:c ≠ s.heap.objs.size:=by
    simp only[aF,bw,or_false] at hc
    rcases hc with rfl | rfl
    ·exact aV le
    ·exact aV li
   rw[zaj this];exact(hf c hc).1
  have fe1:ze0 X pins (upd H s.heap.objs.size (.tup [.int i,x])) e:=⟨hn e (by simp),fe.2⟩
  have fi1:ze0 X pins (upd H s.heap.objs.size (.tup [.int i,x])) it:=⟨hn it (by simp),fi.2⟩
  have I2:Inv X pins σ (upd H s.heap.objs.size (.tup [.int i,x])) { s with heap:=h1,toks:=s.toks+1}:=
   I1.turned2 (t':=s.toks+1) (h':=h1) (fun b o h1' h2' q=>by
    by_cases hb:b=s.heap.objs.size
    ·subst hb
     have:=az s.heap (o:={ cls:=.type "tuple",data:=.seq #[.int i s.toks,u]}) rfl
     rw[show(fM { s with heap:=s.heap.push { cls:=.type "tuple",data:=.seq #[.int i s.toks,u]},toks:=s.toks+1}).get? s.heap.objs.size=_ from this] at q
     cases q
     exact ht
    ·refine hk b o h1' h2' ?_
     have q':(s.heap.push { cls:=.type "tuple",data:=.seq #[.int i s.toks,u]}).get? b=ae o:=q
     rwa [iR _ _ _ hb] at q') fe1 fi1
  refine wpAny_letOwnedTupleGo_enum ho fun h2 he2 hs2=>⟨.ref s.heap.objs.size,_,I2.turn1 fe1 hs2.extBut,rfl,⟨_,I.hok.fresh (aA _),rfl,fun ys qy=>?_⟩,?_,hn⟩
  ·rw[I.list_inj qy q1]
   exact⟨x,hx,rfl⟩
  ·refine⟨⟨_,by rw[show((i+1:Nat):Int)=(i:Int)+1 by lia];exact he2⟩,?_⟩
   exact hi1.extBut hs2.extBut (cr ne)
 done:=by
  intro X hP hw hK hc i pins s σ H E I hf st hg
  subst hP hw hK
  obtain⟨xs,q1,hx⟩:=hg
  obtain⟨⟨old,he⟩,hi⟩:=st
  obtain⟨its,rv,pl,_⟩:=I.list q1
  have hl:=rv.length
  exact wpAny_pyNext_enum_end (I.ok.hd hc) he hi pl.isList (by simp;lia) fun h' ex=>⟨rfl,I.turn1 (hf it (by simp)) ex⟩
 self:=fun A i s Q E st h=>let⟨_,he⟩:=st.he;wpAny_pyIter_enum he h
def iEn(K:ak)(ta:TA):TI:=fun σ H R=>ta σ H fun vs H1=>∃ a,vs=[.ref a]/\(∃ xs,SqL K H1 a xs)/\R (Ite K a) H1
theorem pi_enum{X:Cx}{es:List Expr}{n:Nat}{tpos p pos:Pos}{a:Expr}{ta:TA}(hg:Gl X "enumerate")(hm:X.mg "enumerate" = af)(hb:aZ "enumerate" = ae (.type "enumerate"))(ha:PA X [a] ta)(hs:aY [a] X.env=[(false,eval a X.env)]:=by rfl) :
  PI X (.Tuple es n tpos) (.Call (.Name "enumerate" p) [a] [] pos) (iEn X.K ta):=by
 intro pins s σ H R I h
 refine Call_ (zei I hg hm hb (bV (thn (ha pos pins s σ H _ I h) fun us s1 ⟨vs,H1,I1,r1,q1⟩=>?_) (by rw[hs];rfl) (by rfl)))
 obtain⟨u,e,⟨xs,w1⟩,q⟩:=q1
 subst e
 cases r1 with
 | cons r rr=>
  cases rr
  cases r
  obtain⟨i1,v1,p1,_⟩:=I1.list w1
  refine call_enumerate_list p1.isList fun g he hi hz up=>wpAny_pyIter_enum he ?_
  have I2:Inv X pins σ H1 { s1 with heap:=g}:=I1.kept (t':=s1.toks) up
  refine⟨_,_,_,_,H1,rfl,I2,turn_enum (s1.heap.objs.size+1) s1.heap.objs.size u (i9 _),⟨⟨_,he⟩,hi⟩,fun c hc=>?_,q⟩
  have hc':s1.heap.objs.size<=c:=by
   simp only[aF,bw,or_false] at hc
   rcases hc with rfl | rfl
   ·exact dk _
   ·exact aA _
  exact I1.fpOk hc' (I1.hok.fresh hc')
end L2
namespace L3
open PySem PySem.Spec PyProof.Rows L2
def ziN(ds:List D):List D:=ds.zipIdx.map fun p=>D.tup [.int (p.2:Int),p.1]
def enuL:Ent->Option (List D)
 | .val (.lst ds)=>ae (ziN ds)
 | .own ds=>ae (ziN ds)
 | _=>af
def iEnu(fe:FE):FI:=fun δ=>(fe δ).bind enuL
theorem zhR{K:ak}{B F0:Hp}{a:ai}{vs:List V}{ds:List D}(h1:∀ F H,Same F0 F->Same F H->Same B H->SqL K H a vs)(r1:Reps F0 vs ds):ItOk B F0 (Ite K a) (ziN ds):=fun F H s1 s2 s3=>by
 have q1:=h1 F H s1 s2 s3
 have l1:=r1.length
 refine⟨⟨vs,q1,?_⟩,fun i d e=>?_⟩
 ·simp[ziN,l1]
 ·unfold ziN at e
  rw[aG,fw] at e
  cases z:ds[i]? with
  | none=>rw[z] at e;cases e
  | some d0=>
   rw[z] at e
   simp only[dD,gb,bj] at e
   obtain⟨v,g1,g2⟩:=r1.get z
   refine⟨⟨vs,v,q1,g1⟩,fun x H' y=>?_⟩
   obtain⟨pp,hp,ex,y⟩:=y
   obtain⟨v',y1,eH⟩:=y vs q1
   rw[g1] at y1
   cases y1
   subst ex eH e
   have sm:Same F (upd F pp (.tup [.int i,v])):=Same.alloc (s2.free hp)
   exact⟨_,Ex.alloc s2 hp,.tup zai (.cons (.int _) (.cons (Rep.mono (s1.trans sm) g2) .nil))⟩
section
variable {X:Cx}{e:Expr}{fe:FE}{p pos tpos:Pos}{es:List Expr}{n:Nat}
theorem iienu(h:VE X e fe)(hg:Gl X "enumerate")(hm:X.mg "enumerate" = af)(hb:aZ "enumerate" = ae (.type "enumerate"))(n1:zan e=true:=by rfl):VI X (.Tuple es n tpos) (.Call (.Name "enumerate" p) [e] [] pos) (iEnu fe):=by
 obtain⟨t,w,m⟩:=h.h
 refine⟨_,⟨pi_enum hg hm hb (wac w wnil n1).h (by rw[zao n1];rfl)⟩,fun B F H σ δ ds R s q k=>?_⟩
 obtain⟨r,q1,q⟩:=bind_some q
 have key:∀ xs,asV r=ae (.lst xs)->ds=ziN xs->(tCons t tNil) σ H (fun vs H1=>∃ a,vs=[.ref a]/\(∃ xs,SqL X.K H1 a xs)/\R (Ite X.K a) H1):=fun xs hv he=>by
  refine m B F H σ δ r _ s q1 fun v F1 H1 x1 r1=>?_
  obtain⟨F2,x2,_,r2⟩:=RepR.frz x1 (Same.refl _) r1 hv
  cases r2 with
  | @lst a vs _ e rs=>
   subst he
   exact⟨a,rfl,⟨vs,SqL.of (x2.fh _ _ e)⟩,k _ F2 H1 x2 (zhR (fun F3 H3 a b _=>SqL.of (b _ _ (a _ _ e))) rs)⟩
 unfold enuL at q
 split at q
 ·cases q;exact key _ rfl rfl
 ·cases q;exact key _ rfl rfl
 ·cases q
def iEnuB(i:Nat):FI:=fun δ=>(iB i δ).map ziN
theorem iienub{x:Str}{px:Pos}(i:Nat)(hg:Gl X "enumerate")(hm:X.mg "enumerate" = af)(hb:aZ "enumerate" = ae (.type "enumerate"))(hN:X.N[i]? = ae x:=by rfl)(hv:Vis X.env.scope x:=by first | exact aE rfl | exact bd (aE rfl) | exact bd (bd rfl))(hd:(x == ("__debug__" : Str))=false:=by decide)
  (hcd:(x == ("__classdict__" : Str))=false:=by decide):VI X (.Tuple es n tpos) (.Call (.Name "enumerate" p) [.Name x px] [] pos) (iEnuB i):=by
 refine⟨_,⟨pi_enum hg hm hb (wac (wv i hN hv hd hcd) wnil rfl).h rfl⟩,fun B F H σ δ ds R s q k=>?_⟩
 obtain⟨xs,q1,q⟩:=map_some q
 subst q
 unfold iB at q1
 split at q1
 ·rename_i es e
  cases q1
  obtain⟨v,h1,l,vs,e,h2,h3⟩:=s.ent i _ e
  subst e
  exact⟨_,h1,l,rfl,⟨vs,s.bh.seq h2⟩,k _ F H (Ex.refl s.fh) (zhR (fun _ _ _ _ s3=>s3.seq h2) h3)⟩
 ·cases q1
end
end L3

namespace L2
open PySem PySem.Spec PyProof.Rows
theorem drawsT{P:aR}{w:aX}{A:a8}{it a:ai}{its:Array ag}(hh:A.handled=af)(hn:a ≠ it):Draws P w A.in1 it [it,a] its.size (fun i x=>its[i]? = ae x) fun i h=>h.IsTupleIter it a i/\h.IsTuple a its where
 live:=fun i h st=>let⟨o,e,_⟩:=st.1;⟨o,e⟩
 frame:=fun i h h' st k=>by
  obtain⟨⟨o,e,r⟩,o2,e2,r2⟩:=st
  exact⟨⟨o,k it (by simp) o e,r⟩,o2,k a (by simp) o2 e2,r2⟩
 item:=fun i s Q E hi st k=>zgF st.1 st.2 (gj hi) fun h' st' sb=>k _ h' s.toks (gj hi) ⟨st',st.2.extBut sb.extBut hn⟩ sb
 done:=fun s Q E st k=>zge hh st.1 st.2 (by simp) k
theorem endT{P:aR}{w:aX}{A:a8}{E:ag->am->Prop}{s:am}{e it a:ai}{i:Nat}{its:Array ag}{old:ag}{Q:Option ag->am->Prop}(hh:A.handled=af)(hn:a ≠ it)
  (he:IsEnum s.heap e it (i:Int) old) (hi:s.heap.IsTupleIter it a i) (pl:s.heap.IsTuple a its) (hl:its.size<=i) (k:∀ h',iZ it s.heap h'->Q af { s with heap:=h'}):ay (model P w) A (pyNext (.ref e)) Q E s:=by
 have D:Draws P w A.in1 it [it,a] i (fun _ _=>False) fun j h=>j=i/\h.IsTupleIter it a i/\h.IsTuple a its:=by
  refine⟨fun j h st=>?_,fun j h h' st k=>?_,fun j s Q E hj st _=>?_,fun s Q E st k=>zge hh st.2.1 st.2.2 (by simpa using hl) k⟩
  ·obtain⟨o,e,_⟩:=st.2.1;exact⟨o,e⟩
  ·obtain⟨ej,⟨o,e,r⟩,o2,e2,r2⟩:=st
   exact⟨ej,⟨o,k it (by simp) o e,r⟩,o2,k a (by simp) o2 e2,r2⟩
  ·exact absurd st.1 (aV hj)
 exact wpAny_pyNext_enum_endD D he ⟨rfl,hi,pl⟩ k
set_option maxRecDepth 100000 in
theorem newT(a:ai)(its:Array ag)(n:Nat)(dct:Option ai)(sl:Array (Option ag)):Meets (Builtin.«enumerate.__new__» ⟨[.type "enumerate",.ref a],[]⟩) fun _ R s=>s.heap.get? a=ae ⟨.type "tuple",dct,.seq its n,sl⟩ /\
  R (.ok (.ret (.ref (s.heap.push { cls:=.type "tuple_iterator",data:=.fields #[.ref a,.int 0 0]}).objs.size))) { s with heap:=(s.heap.push { cls:=.type "tuple_iterator",data:=.fields #[.ref a,.int 0 0]}).push { cls:=.type "enumerate",data:=.fields #[.none,.bool false,.ref s.heap.objs.size,rawInt 0,.none,.none]}}:=by
 refine .of_wp fun P w A R s h=>?_
 obtain⟨hp,g,d,tk,os⟩:=s
 obtain⟨ha,h⟩:=h
 have hsub:=sub_enumerate
 have hT:Heap.IsTuple (fM ⟨hp,g,d,tk,os⟩) a its:=⟨_,ha,rfl,n,rfl⟩
 wp_walk using ek ha
 refine wpAny_stack_any fun st=>aw ?_
 split
 ·rename_i c _ _ _ _ _
  cases (c == dO "enumerate") <;> (wp_walk using ek ha,wpAny_pyIter_tuple hT;exact⟨_,rfl,h⟩)
 ·wp_walk using ek ha,wpAny_pyIter_tuple hT
  exact⟨_,rfl,h⟩
theorem call_enuT{P:aR}{w:aX}{A:a8}{E:ag->am->Prop}{s:am}{a:ai}{its:Array ag}{Q:ag->am->Prop}(hT:s.heap.IsTuple a its)
  (k:∀ h',IsEnum h' (s.heap.objs.size+1) s.heap.objs.size 0 .none->h'.IsTupleIter s.heap.objs.size a 0->h'.objs.size=s.heap.objs.size+2->(∀ b o,s.heap.get? b=ae o->h'.get? b=ae o)->Q (.ref (s.heap.objs.size+1)) { s with heap:=h'}):ay (model P w) A (call (.type "enumerate") [.ref a]) Q E s:=by
 obtain⟨⟨c,dct,dt,sl⟩,ha,hc,n,hd⟩:=hT
 have hc':c=.type "tuple" :=hc
 have hd':dt=.seq its n:=hd
 subst hc' hd'
 refine callType_new F.called_enumerate (by decide) (F.typeCall_enumerate_1 _) (F.newCall_enumerate_1 _) (fun o=>F.args_object_init_2 o _) F.entry_enumerate_new (newT a its n dct sl) ⟨ha,?_⟩
 have hz:(s.heap.push { cls:=.type "tuple_iterator",data:=.fields #[.ref a,.int 0 0]}).objs.size=s.heap.objs.size+1:=bC ..
 have he:=az (s.heap.push { cls:=.type "tuple_iterator",data:=.fields #[.ref a,.int 0 0]}) (o:={ cls:=.type "enumerate",data:=.fields #[.none,.bool false,.ref s.heap.objs.size,rawInt 0,.none,.none]}) rfl
 show _/\_
 rw[hz] at he ⊢
 exact⟨⟨_,he,rfl⟩,k _ he ⟨_,aq _ (az _ rfl),rfl,rfl⟩ (by rw[bC,hz]) fun b o x=>aq _ (aq _ x)⟩
def IteT(K:ak)(a:ai):It:=
  ⟨fun i H=>∃ xs x,SqT K H a xs/\xs[i]? = ae x,
   fun i H v H'=>∃ p,H p=af/\v=.ref p/\∀ xs,SqT K H a xs->∃ x,xs[i]? = ae x/\H'=upd H p (.tup [.int i,x]),
   fun i H=>∃ xs,SqT K H a xs/\xs.length<=i⟩
structure EStT(e it a:ai)(i:Nat)(h:aW):Prop where
 he:∃ old,IsEnum h e it (i:Int) old
 hi:h.IsTupleIter it a i
theorem zjx{P:aR}{w:aX}{K:ak}{es:List Expr}{n:Nat}{pos:Pos}(e it a:ai)(ne:e ≠ it) :
  Turn P w K (.Tuple es n pos) (IteT K a) [e,it] e (fun i h=>EStT e it a i h) where
 mem:=by simp
 obj:=fun i h st c hc=>by
  obtain⟨⟨old,he⟩,o1,e1,_,d1⟩:=st
  simp only[aF,bw,or_false] at hc
  rcases hc with rfl | rfl
  ·exact⟨_,he,fun v q=>by cases (show gT _=fN v from q)⟩
  ·exact⟨o1,e1,fun v q=>by rw[d1] at q;cases q⟩
 keep:=fun i h h' st k=>by
  obtain⟨⟨old,he⟩,o1,e1,r⟩:=st
  exact⟨⟨old,k e (by simp) _ he⟩,o1,k it (by simp) _ e1,r⟩
 item:=by
  intro X hP hw hK hc i pins s σ H E I hf st hg
  subst hP hw hK
  obtain⟨xs,x,q1,hx⟩:=hg
  obtain⟨⟨old,he⟩,hi⟩:=st
  obtain⟨its,rv,pl,_⟩:=I.tuple q1
  obtain⟨u,hu,ru⟩:=rv.get hx
  have fe:=hf e (by simp)
  have fi:=hf it (by simp)
  have le:e<s.heap.objs.size:=aK he
  have li:it<s.heap.objs.size:=by obtain⟨o1,e1,_⟩:=hi;exact aK e1
  have hp:a ≠ it:=fun z=>by
   obtain⟨o1,e1,_,d1⟩:=hi
   obtain⟨o2,e2,_,m2,d2⟩:=pl
   rw[z,e1] at e2
   cases e2
   rw[d1] at d2
   cases d2
  have hae:e ≠ a:=fun z=>by
   obtain⟨o2,e2,_,m2,d2⟩:=pl
   rw[<- z,he] at e2
   cases e2
   cases d2
  refine wpAny_pyNext_enum_itemD (drawsT (I.ok.hd hc) hp) he ⟨hi,pl⟩ (by have:=(aO.mp hu).1;simpa using this) ne (by simp[ne,hae]) fun x' h1 tk hx' ho hi1 ht hz hk=>⟨_,rfl,?_⟩
  have hx2:x'=u:=by rw[List.getElem?_toArray,hu] at hx';exact(bc hx').symm
  subst hx2
  have I1:Inv X pins σ (upd H s.heap.objs.size (.tup [.int i,x])) { s with heap:=s.heap.push { cls:=.type "tuple",data:=.seq #[.int i tk,x']},toks:=tk+1}:=
   I.laid (t':=tk+1) (o:=.tup [.int i,x]) (fun c o q=>aq _ q) (aA _) ⟨by show 2<=ba;rw[cA];lia,[.int i tk,x'],.cons ⟨_,rfl⟩ (.cons ru .nil),⟨_,az _ rfl,rfl,0,by simp⟩⟩
  have hn:∀ c ∈ [e,it],upd H s.heap.objs.size (.tup [.int i,x]) c=af:=fun c hc=>by
   have:c ≠ s.heap.objs.size:=by
    simp only[aF,bw,or_false] at hc
    rcases hc with rfl | rfl
    ·exact aV le
    ·exact aV li
   rw[zaj this];exact(hf c hc).1
  have fe1:ze0 X pins (upd H s.heap.objs.size (.tup [.int i,x])) e:=⟨hn e (by simp),fe.2⟩
  have fi1:ze0 X pins (upd H s.heap.objs.size (.tup [.int i,x])) it:=⟨hn it (by simp),fi.2⟩
  have I2:Inv X pins σ (upd H s.heap.objs.size (.tup [.int i,x])) { s with heap:=h1,toks:=tk+1}:=
   I1.turned2 (t':=tk+1) (h':=h1) (fun b o h1' h2' q=>by
    by_cases hb:b=s.heap.objs.size
    ·subst hb
     have:=az s.heap (o:={ cls:=.type "tuple",data:=.seq #[.int i tk,x']}) rfl
     rw[show(fM { s with heap:=s.heap.push { cls:=.type "tuple",data:=.seq #[.int i tk,x']},toks:=tk+1}).get? s.heap.objs.size=_ from this] at q
     cases q
     exact ht
    ·refine hk b o h1' h2' ?_
     have q':(s.heap.push { cls:=.type "tuple",data:=.seq #[.int i tk,x']}).get? b=ae o:=q
     rwa [iR _ _ _ hb] at q') fe1 fi1
  refine wpAny_letOwnedTupleGo_enum ho fun h2 he2 hs2=>⟨.ref s.heap.objs.size,_,I2.turn1 fe1 hs2.extBut,rfl,⟨_,I.hok.fresh (aA _),rfl,fun ys qy=>?_⟩,?_,hn⟩
  ·rw[I.tuple_inj qy q1]
   exact⟨x,hx,rfl⟩
  ·refine⟨⟨_,by rw[show((i+1:Nat):Int)=(i:Int)+1 by lia];exact he2⟩,?_⟩
   exact hi1.1.extBut hs2.extBut (cr ne)
 done:=by
  intro X hP hw hK hc i pins s σ H E I hf st hg
  subst hP hw hK
  obtain⟨xs,q1,hx⟩:=hg
  obtain⟨⟨old,he⟩,hi⟩:=st
  obtain⟨its,rv,pl,_⟩:=I.tuple q1
  have hl:=rv.length
  have hp:a ≠ it:=fun z=>by
   obtain⟨o1,e1,_,d1⟩:=hi
   obtain⟨o2,e2,_,m2,d2⟩:=pl
   rw[z,e1] at e2
   cases e2
   rw[d1] at d2
   cases d2
  exact endT (I.ok.hd hc) hp he hi pl (by simp;lia) fun h' ex=>⟨rfl,I.turn1 (hf it (by simp)) ex⟩
 self:=fun A i s Q E st h=>let⟨_,he⟩:=st.he;wpAny_pyIter_enum he h
def iEnT(K:ak)(ta:TA):TI:=fun σ H R=>ta σ H fun vs H1=>∃ a,vs=[.ref a]/\(∃ xs,SqT K H1 a xs)/\R (IteT K a) H1
theorem pi_enumT{X:Cx}{es:List Expr}{n:Nat}{tpos p pos:Pos}{a:Expr}{ta:TA}(hg:Gl X "enumerate")(hm:X.mg "enumerate" = af)(hb:aZ "enumerate" = ae (.type "enumerate"))(ha:PA X [a] ta)(hs:aY [a] X.env=[(false,eval a X.env)]:=by rfl) :
  PI X (.Tuple es n tpos) (.Call (.Name "enumerate" p) [a] [] pos) (iEnT X.K ta):=by
 intro pins s σ H R I h
 refine Call_ (zei I hg hm hb (bV (thn (ha pos pins s σ H _ I h) fun us s1 ⟨vs,H1,I1,r1,q1⟩=>?_) (by rw[hs];rfl) (by rfl)))
 obtain⟨u,e,⟨xs,w1⟩,q⟩:=q1
 subst e
 cases r1 with
 | cons r rr=>
  cases rr
  cases r
  obtain⟨i1,v1,p1,_⟩:=I1.tuple w1
  refine call_enuT p1 fun g he hi hz up=>wpAny_pyIter_enum he ?_
  have I2:Inv X pins σ H1 { s1 with heap:=g}:=I1.kept (t':=s1.toks) up
  refine⟨_,_,_,_,H1,rfl,I2,zjx (s1.heap.objs.size+1) s1.heap.objs.size u (i9 _),⟨⟨_,he⟩,hi⟩,fun c hc=>?_,q⟩
  have hc':s1.heap.objs.size<=c:=by
   simp only[aF,bw,or_false] at hc
   rcases hc with rfl | rfl
   ·exact dk _
   ·exact aA _
  exact I1.fpOk hc' (I1.hok.fresh hc')
end L2
namespace L3
open PySem PySem.Spec PyProof.Rows L2
theorem zjj{K:ak}{B F0:Hp}{a:ai}{vs:List V}{ds:List D}(h1:∀ F H,Same F0 F->Same F H->Same B H->SqT K H a vs)(r1:Reps F0 vs ds):ItOk B F0 (IteT K a) (ziN ds):=fun F H s1 s2 s3=>by
 have q1:=h1 F H s1 s2 s3
 have l1:=r1.length
 refine⟨⟨vs,q1,?_⟩,fun i d e=>?_⟩
 ·simp[ziN,l1]
 ·unfold ziN at e
  rw[aG,fw] at e
  cases z:ds[i]? with
  | none=>rw[z] at e;cases e
  | some d0=>
   rw[z] at e
   simp only[dD,gb,bj] at e
   obtain⟨v,g1,g2⟩:=r1.get z
   refine⟨⟨vs,v,q1,g1⟩,fun x H' y=>?_⟩
   obtain⟨pp,hp,ex,y⟩:=y
   obtain⟨v',y1,eH⟩:=y vs q1
   rw[g1] at y1
   cases y1
   subst ex eH e
   have sm:Same F (upd F pp (.tup [.int i,v])):=Same.alloc (s2.free hp)
   exact⟨_,Ex.alloc s2 hp,.tup zai (.cons (.int _) (.cons (Rep.mono (s1.trans sm) g2) .nil))⟩
def iEnuT(fe:FE):FI:=fun δ=>((fe δ).bind zdL).map ziN
theorem iienut{X:Cx}{e:Expr}{fe:FE}{p pos tpos:Pos}{es:List Expr}{n:Nat}(h:VE X e fe)(hg:Gl X "enumerate")(hm:X.mg "enumerate" = af)(hb:aZ "enumerate" = ae (.type "enumerate"))(n1:zan e=true:=by rfl):VI X (.Tuple es n tpos) (.Call (.Name "enumerate" p) [e] [] pos) (iEnuT fe):=by
 obtain⟨t,w,m⟩:=h.h
 refine⟨_,⟨pi_enumT hg hm hb (wac w wnil n1).h (by rw[zao n1];rfl)⟩,fun B F H σ δ ds R s q k=>?_⟩
 obtain⟨xs,q0,q2⟩:=map_some q
 subst q2
 obtain⟨r,q1,q3⟩:=bind_some q0
 refine m B F H σ δ r _ s q1 fun v F1 H1 x1 r1=>?_
 unfold zdL at q3
 split at q3
 ·cases q3
  cases r1 with
  | @tup a vs _ e rs=>exact⟨a,rfl,⟨vs,SqT.of (x1.fh _ _ e)⟩,k _ F1 H1 x1 (zjj (fun F3 H3 a b _=>SqT.of (b _ _ (a _ _ e))) rs)⟩
 ·cases q3
end L3

namespace L2
open PySem PySem.Spec PyProof.Rows
structure CompSk(X:Cx)(N:List Str)(k:Nat)(fr:List Nat)(scope:Scope):Prop where
 kind:scope.kind=.function
 chk:(scope.names.all fun y=>match y.2 with
  | .cell=>false
  | .local=>scope.names.lookup y.1 == ae .local
  | .free=>X.env.scope.names.lookup y.1 == ae .cell || X.env.scope.names.lookup y.1 == ae .free
  | _=>true)=true
 len:N.length=k+fr.length
 nm:(N.drop k).map ae=fr.map (fun i=>X.N[i]?)
 nf:((N.drop k).all fun y=>scope.names.lookup y == ae .free)=true
section
variable {prog:aR}{w:aX}{A:a8}{R:Result->am->Prop}{s:am}
theorem zie{elt tg iter:Expr}{ifs:List Expr}{scope:Scope}{pos:Pos}{it acc:ag}{env:Env}(J:Nat->am->Prop)
  (one:∀ k z,J k z->ay (model prog w) A (pyNext it) (fun got z1=>match got with
   | none=>R (.ok .next) z1
   | some u=>ay (model prog w) A (letOwnedTupleGo tg it u) (fun _ z2=>ay (model prog w) A (assign tg env u) (fun _ z3=>
     ay (model prog w) A (forIn ifs true fun c r=>if r=true then do let ok <- isTrue c env (eval c env);pure (eW ok) else pure (eW r)) (fun yes z4=>
      if yes=true then ay (model prog w) A (eval elt env) (fun y z5=>ay (model prog w) A (call (.builtin "list.append") [acc,y]) (fun _ z6=>∃ j,j<k/\J j z6) (notedBy (model prog w) A env fun x z'=>R (.error x) z') z5) (notedBy (model prog w) A env fun x z'=>R (.error x) z') z4
      else ∃ j,j<k/\J j z4) (notedBy (model prog w) A env fun x z'=>R (.error x) z') z3) (notedBy (model prog w) A env fun x z'=>R (.error x) z') z2) (notedBy (model prog w) A env fun x z'=>R (.error x) z') z1) (notedBy (model prog w) A env fun x z'=>R (.error x) z') z)
  (k:Nat) (h:J k s):codeAny (model prog w) A (.compLoop (.ListComp elt [⟨tg,iter,ifs,0⟩] scope pos) 0 it acc env) R s:=by
 refine codeAny_loop rfl J (fun k z hz=>?_) k h
 show ay _ A ((compTurn (.ListComp elt [⟨tg,iter,ifs,0⟩] scope pos) 0 it acc env).onRaise _) _ _ z
 refine wpAny_noted ?_
 rw[compTurn_list]
 refine aj (wpAny_standAt (aj (thn (one k z hz) fun got z1 h1=>?_)))
 cases got with
 | none=>exact aw h1
 | some u=>
  refine aj (thn h1 fun _ z2 h2=>aj (thn h2 fun _ z3 h3=>aj (thn h3 fun yes z4 h4=>?_)))
  cases yes with
  | false=>exact aw ⟨rfl,h4⟩
  | true=>exact aj (aj (thn h4 fun y z5 h5=>aj (thn h5 fun _ z6 h6=>aw (aw ⟨rfl,h6⟩))))
end
section
variable {X:Cx}{N:List Str}{k:Nat}{fr:List Nat}{scope:Scope}
theorem CompSk.ncell(S:CompSk X N k fr scope):∀ y ∈ scope.names,y.2 ≠ .cell:=fun y hy e=>by
 have h:=cU.mp S.chk y hy
 obtain⟨n,q⟩:=y
 cases (show q=.cell from e)
 exact absurd h (by simp)
theorem CompSk.loc(S:CompSk X N k fr scope):∀ y ∈ scope.names,y.2=.local->scope.names.lookup y.1=ae .local:=fun y hy e=>by
 have h:=cU.mp S.chk y hy
 obtain⟨n,q⟩:=y
 cases (show q=.local from e)
 exact zbd h
theorem CompSk.free(S:CompSk X N k fr scope):∀ y ∈ scope.names,y.2=.free->X.env.kindOf y.1=ae .cell \/ X.env.kindOf y.1=ae .free:=fun y hy e=>by
 have h:=cU.mp S.chk y hy
 obtain⟨n,q⟩:=y
 cases (show q=.free from e)
 exact(ip.mp (show(X.env.scope.names.lookup n == ae .cell || X.env.scope.names.lookup n == ae .free)=true from h)).imp zbd zbd
variable {pins:List (ai × Obj)}{σ:St}{H:Hp}{s:am}
theorem comp_invK(S:CompSk X N k fr scope){fp:List ai}{h₁:aW}{tk:Nat}(I:Inv X pins σ H s)(hf:∀ b ∈ fp,ze0 X pins H b)(hfo:∀ b ∈ fp,b<s.heap.objs.size)
  (hns:h₁.Ns s.heap.objs.size fun y=>([]:List (Str × ag)).reverse.lookup y) (old:∀ b o,s.heap.get? b=ae o->h₁.get? b=ae o) :
  Inv (cxC X N scope s.heap.objs.size s H fp) [] (aB k af ++ zfc fr σ) H { s with heap:=h₁,toks:=tk}:=by
 have sub:∀ y c,(ziK X.env scope.names).lookup y=ae c->X.env.cells.lookup y=ae c:=zhk scope.names [] (fun _ _ z=>by cases z)
 have has:∀ y,(y,bz) ∈ scope.names->∃ c,(ziK X.env scope.names).lookup y=ae c:=fun y hy=>cl_has scope.names [] y (I.ok.has y (S.free _ hy rfl)) (.inr hy)
 have celK:∀ c v,s.heap.IsCell c v->h₁.IsCell c v:=fun c v ⟨o,ho,hd⟩=>⟨o,old c o ho,hd⟩
 refine⟨⟨I.ok.mod,S.kind,I.ok.glob,I.ok.blt,aA _,fun y z c h1 h2=>I.ok.inj y z c (sub y c h1) (sub z c h2),fun y hy=>has y (bM (zer S.ncell hy)),fun y c hy _=>(by cases hy),I.ok.hd,I.ok.frames,.inl rfl,fun b hb=>⟨aV (hfo b hb),fun y c e=>(hf b hb).2.2.2.2.1 y c (sub y c e)⟩,
  I.bs,bK I.ok.bsz I.sz,fun b o e hb=>?_,fun b hb hfs=>?_,I.stack,I.stkFree⟩,rfl,I.bare,Un.kept old,⟨_,hns,fun i y v e1 e2 e3=>?_⟩,fun y c e=>?_,I.hok.fresh (aA _),fun y c e=>I.freeC y c (sub y c e),fun p hp=>absurd (show p ∈ ([]:List (ai × Obj)) from hp) (by simp),I.hok.kept old,?_⟩
 ·rcases (hf b hb).2.2.2.1 with z | z
  ·exact I.ok.noex b o e z
  ·exact absurd (bn (aK e) (bK I.ok.bsz z)) (bT _)
 ·exact(aF.mp (I.stkSub b hfs)).elim (hf b hb).2.1 (hf b hb).2.2.1
 ·by_cases hi:i<k
  ·rw[bo (by rw[cE];exact hi),c9,if_pos hi] at e2
   cases e2
  ·rw[cR (by rw[cE];lia),cE] at e2
   have e1':N[i]? = ae y:=e1
   have d1:(N.drop k)[i - k]? = ae y:=by rw[List.getElem?_drop,show k+(i - k)=i by lia];exact e1'
   have q1:((N.drop k).map ae)[i - k]? = ae (ae y):=by rw[aG,d1];rfl
   rw[S.nm,aG] at q1
   unfold zfc at e2
   rw[aG] at e2
   cases q:fr[i - k]? with
   | none=>rw[q] at q1;cases q1
   | some i'=>
    rw[q] at q1 e2
    have n1:X.N[i']? = ae y:=bc q1
    have n2:(σ[i']?).join=ae v:=bc e2
    have n3:σ[i']? = ae (ae v):=by
     cases q':σ[i']? with
     | none=>rw[q'] at n2;cases n2
     | some o=>rw[q'] at n2;rw[show o=ae v from n2]
    have hfree:scope.names.lookup y=ae .free:=zbd (cU.mp S.nf y (bJ d1))
    have hk:=S.free _ (bM hfree) rfl
    obtain⟨m,hn,hl⟩:=I.loc
    obtain⟨u,r,l⟩:=hl i' y v n1 n3 (hk.elim (fun z=>.inr (.inl z)) fun z=>.inr (.inr z))
    refine⟨u,r,.inr ⟨zeg hfree,?_⟩⟩
    rcases l with ⟨kd,_⟩ | ⟨_,c,ec,hc⟩
    ·rcases hk with z | z <;> (rw[show X.env.kindOf y=ae .local from kd] at z;cases z)
    ·obtain⟨c',ec'⟩:=has y (bM hfree)
     cases (bc ((sub y c' ec').symm.trans ec))
     exact⟨_,ec',celK _ _ hc⟩
 ·obtain⟨v,z⟩:=I.cell y c (sub y c e)
  exact⟨v,celK c v z⟩
 ·show(aB k af ++ zfc fr σ).length=N.length
  rw[S.len]
  simp[zfc]
end
def lcG(k:Nat)(fr:List Nat)(g:TG)(tt:TT)(te:TE)(J:It)(σ:St)(H1:Hp)(R:ai->Hp->Prop):Prop:=
 ∀ a,H1 a=af->∃ W:Nat->Nat->List V->St->Hp->Prop,(∃ m,W 0 m [] (aB k af ++ zfc fr σ) (upd H1 a (.lst [])))/\∀ i m ys τ H,W i m ys τ H ->
  (J.stop i H/\R a H) \/ (J.go i H/\∀ x H',J.yld i H x H'->g x τ H' fun τ' H2=>tt τ' H2 fun b H3=>
   if b=true then te τ' H3 fun y H4=>H4 a=ae (.lst ys)/\ys.length<ba/\∃ m',m'<m/\W (i+1) m' (ys ++ [y]) τ' (upd H4 a (.lst (ys ++ [y])))
   else ∃ m',m'<m/\W (i+1) m' ys τ' H3)
def tLG(k:Nat)(fr:List Nat)(wi:TI)(g:TG)(tt:TT)(te:TE):TE:=fun σ H Q=>wi σ H fun J H1=>lcG k fr g tt te J σ H1 fun a H2=>Q (.ref a) H2
section
variable {X:Cx}{N:List Str}{k:Nat}{fr:List Nat}{scope:Scope}{iter elt tg:Expr}{ifs:List Expr}{pos:Pos}{wi:TI}{g:TG}{te:TE}{tt:TT}
theorem pe_lg(S:CompSk X N k fr scope)(hc:X.calm=true)(hi:PI X tg iter wi)
  (hg:∀ (C:ai) (s₀:am) (H₀:Hp) (fp:List ai),PG (cxC X N scope C s₀ H₀ fp) tg g)
  (ht:∀ (C:ai) (s₀:am) (H₀:Hp) (fp:List ai),PTs (cxC X N scope C s₀ H₀ fp) ifs tt) (he:∀ (C:ai) (s₀:am) (H₀:Hp) (fp:List ai),PE (cxC X N scope C s₀ H₀ fp) elt te)
  (hs:∀ z,bW iter X.env z=pure z:=by intro _;rfl):PE X (.ListComp elt [⟨tg,iter,ifs,0⟩] scope pos) (tLG k fr wi g tt te):=by
 intro pins s σ H Q I h
 rw[eval_ListComp]
 refine wpAny_comprehension_free (use:=af) (cl:=ziK X.env scope.names) rfl hs (zgE fun y hy e=>I.ok.has y.1 (S.free y hy e)) S.kind S.loc (thn (hi pins s σ H _ I h) fun xv s1 h1=>thn h1 fun itv s2 h2=>?_)
 obtain⟨it,fp,tn,J,H2,e,I2,T,st2,f2,q⟩:=h2
 subst e
 refine wpAny_newObj_type (wpAny_newFunctionEnv S.ncell (by intro y hy;simp at hy) (fun h₁ hns₁ hsb₁=>?_) S.kind)
 obtain⟨W,⟨m0,w0⟩,turn⟩:=q _ (I2.hok.fresh (aA _))
 have hfo:∀ b ∈ fp,b<s2.heap.objs.size:=fun b hb=>let⟨_,e,_⟩:=T.obj 0 _ st2 b hb;aK e
 have I3:Inv X pins σ (upd H2 s2.heap.objs.size (.lst [])) { s2 with heap:=s2.heap.push { cls:=.type "list",dict:=af,data:=.seq ([]:List ag).toArray}}:=
  I2.laid (t':=s2.toks) (fun b o e=>aq _ e) (aA _) ⟨cg _,[],_,.nil,az _ rfl⟩
 have f3:∀ b ∈ fp,ze0 X pins (upd H2 s2.heap.objs.size (.lst [])) b:=fun b hb=>⟨by rw[zaj (aV (hfo b hb))];exact(f2 b hb).1,(f2 b hb).2⟩
 have st3:tn 0 (s2.heap.push { cls:=.type "list",dict:=af,data:=.seq ([]:List ag).toArray}):=T.keep 0 s2.heap _ st2 fun b hb o e=>aq _ e
 generalize hs3:({ s2 with heap:=s2.heap.push { cls:=.type "list",dict:=af,data:=.seq ([]:List ag).toArray}}:am)=s3 at *
 replace st3:tn 0 s3.heap:=by rw[<- hs3];exact st3
 generalize hHD:upd H2 s2.heap.objs.size (.lst [])=H3 at *
 generalize hD:s2.heap.objs.size=D at *
 have hfo3:∀ b ∈ fp,b<s3.heap.objs.size:=fun b hb=>let⟨_,e,_⟩:=T.obj 0 _ st3 b hb;aK e
 have old:∀ b o,s3.heap.get? b=ae o->h₁.get? b=ae o:=fun b o e=>hsb₁.extBut b o (aV (aK e)) (aq _ e)
 have st1:tn 0 h₁:=T.keep 0 s3.heap h₁ st3 fun b hb o e=>old b o e
 have stat:∀ {pins':List (ai × Obj)} {H':Hp},(∀ b ∈ fp,H' b=af)->(∀ b ∈ fp,∀ p ∈ pins',p.1 ≠ b)->∀ b ∈ fp,ze0 (cxC X N scope s3.heap.objs.size s3 H3 fp) pins' H' b:=fun {pins' H'} hn hp b hb=>by
  refine⟨hn b hb,aV (hfo3 b hb),fun z=>?_,.inl hb,fun y c e=>(f3 b hb).2.2.2.2.1 y c (zhk scope.names [] (fun _ _ z=>by cases z) y c e),fun p hp'=>hp b hb p (by simpa [cxC] using hp')⟩
  exact(aF.mp (I3.stkSub b z)).elim (f3 b hb).2.1 (f3 b hb).2.2.1
 have loop:∀ s4:am,Inv (cxC X N scope s3.heap.objs.size s3 H3 fp) [] (aB k af ++ zfc fr σ) H3 s4->tn 0 s4.heap ->
   codeAny (model X.prog X.w) X.A (.compLoop (.ListComp elt [⟨tg,iter,ifs,0⟩] scope pos) 0 (.ref it) (.ref D) (compEnvC scope (ziK X.env scope.names) s3.heap.objs.size X.env)) (compPost (model X.prog X.w) X.A X.xe af (EP X pins σ Q) (.ref D) s3.heap.objs.size) s4:=by
  intro s4 I4 st4
  refine zie (fun n s'=>∃ i ys τ H',Inv (cxC X N scope s3.heap.objs.size s3 H3 fp) [] τ H' s'/\tn i s'.heap/\(∀ b ∈ fp,H' b=af)/\W i n ys τ H') ?_ m0
   ⟨0,[],_,_,I4,st4,fun b hb=>(f3 b hb).1,w0⟩
  rintro n s5 ⟨i,ys,τ,H5,I5,st5,fr5,w5⟩
  rcases turn i n ys τ H5 w5 with ⟨stop,qn⟩ | ⟨go,step⟩
  ·refine bI (T.done (cxC X N scope s3.heap.objs.size s3 H3 fp) rfl rfl rfl hc i [] s5 _ H5 (fun _ _=>False) I5 (stat fr5 (by simp)) st5 stop) (fun r s6 hr6=>?_) fun _ _ z=>z.elim
   obtain⟨hr,I6⟩:=hr6
   subst hr
   obtain⟨m,hn,_⟩:=id I6.loc
   refine⟨m,hn,fun h' hsb=>⟨.ref D,H5,?_,rfl,qn⟩⟩
   refine(zgr I3 f3 I6).turned (t':=s6.toks) (fun b o hb e=>(hsb.2 b hb).trans e) I6.free (eS I3.lt) (.inr I3.sz) ?_ ?_
   ·intro y c e z
    obtain⟨v,qc⟩:=I3.cell y c e
    exact absurd qc.lt (by rw[z];exact bT _)
   ·intro p hp z
    exact absurd (aK (I3.pin p hp).1) (by rw[z];exact bT _)
  ·refine bI (T.item (cxC X N scope s3.heap.objs.size s3 H3 fp) rfl rfl rfl hc i [] s5 _ H5 (fun _ _=>False) I5 (stat fr5 (by simp)) st5 go) (fun r s6 hr6=>?_) fun _ _ z=>z.elim
   obtain⟨u,hr,h6⟩:=hr6
   subst hr
   refine bI h6 (fun _ s7 h7=>?_) fun _ _ z=>z.elim
   obtain⟨y,H7,I7,r7,y7,st7,fr7⟩:=h7
   have I7':=I7.pinned (stat fr7 (by simp)) (T.obj _ _ st7)
   refine bI (hg _ _ _ _ _ s7 _ H7 y u _ I7' r7 (step y H7 y7)) (fun _ s8 h8=>?_) fun _ _ z=>z.elim
   obtain⟨τ8,H8,I8,q8⟩:=h8
   refine bI (ht _ _ _ _ _ s8 _ H8 _ I8 q8) (fun ok s9 h9=>?_) fun _ _ z=>z.elim
   obtain⟨H9,I9,q9⟩:=h9
   have again:∀ {s':am} {H':Hp},Inv (cxC X N scope s3.heap.objs.size s3 H3 fp) ([] ++ zfK fp s7.heap) τ8 H' s' ->
     Inv (cxC X N scope s3.heap.objs.size s3 H3 fp) [] τ8 H' s'/\tn (i+1) s'.heap/\∀ b ∈ fp,H' b=af:=fun {s' H'} I'=>by
    refine⟨I'.unpinned,T.keep _ _ _ st7 fun b hb o e=>(I'.pin (b,o) (aS _ (aS _ (zdf hb e)))).1,fun b hb=>?_⟩
    obtain⟨o,e,d⟩:=T.obj _ _ st7 b hb
    exact(I'.pin (b,o) (aS _ (aS _ (zdf hb e)))).2.1
   cases ok with
   | false=>
    rw[if_neg aU] at q9 ⊢
    obtain⟨m',hm,w9⟩:=q9
    obtain⟨a1,a2,a3⟩:=again I9
    exact⟨m',hm,i+1,ys,τ8,H9,a1,a2,a3,w9⟩
   | true=>
    rw[if_pos rfl] at q9 ⊢
    refine bI (he _ _ _ _ _ s9 _ H9 _ I9 q9) (fun zv s10 h10=>?_) fun _ _ z=>z.elim
    obtain⟨z,H10,I10,rz,hz,hlt,m',hm,w10⟩:=h10
    refine bI (zeZ (X:=cxC X N scope s3.heap.objs.size s3 H3 fp) _ s10 _ H10 (.ref D) [z] (.ref D) [zv] (fun _ H'=>H'=upd H10 D (.lst (ys ++ [z]))) I10 rfl (.cons rz .nil)
     ⟨_,ys,z,rfl,rfl,hz,hlt,rfl⟩) (fun _ s11 h11=>?_) fun _ _ z=>z.elim
    obtain⟨_,H11,I11,_,e11⟩:=h11
    subst e11
    obtain⟨a1,a2,a3⟩:=again I11
    exact⟨m',hm,i+1,ys ++ [z],τ8,_,a1,a2,a3,w10⟩
 have I4:=comp_invK S (tk:=s3.toks) I3 f3 hfo3 hns₁ old
 exact codeAny_compStart_list (loop _ I4 st1) (T.self _ 0 _ _ _ st1 (loop _ I4 st1))
end
end L2
namespace L3
open PySem PySem.Spec PyProof.Rows L2
def two:D->Option (D × D)
 | .tup [a,b]=>ae (a,b)
 | _=>af
theorem two_some{d:D}{p:D × D}(h:two d=ae p):d=.tup [p.1,p.2]:=by
 unfold two at h
 split at h
 ·cases h;rfl
 ·cases h
def cEn2(fr:List Nat)(δ:En)(d d':D):En:=ae (.val d) :: ae (.val d') :: fr.map fun i=>((δ[i]?).join).bind zjr
def eL2(fr:List Nat)(fi:FI)(ft:FT)(fe:FE):FE:=fun δ=>(fi δ).bind fun ds=>(zcA (fun d=>(two d).bind fun p=>ft (cEn2 fr δ p.1 p.2)) (fun d=>(two d).bind fun p=>fe (cEn2 fr δ p.1 p.2)) ds).bind fun out=>if out.length<=1000000 then ae (.own out) else af
theorem RS.cap2{K:ak}{B:Bd}{F H:Hp}{σ:Sg}{δ:En}{v v':V}{d d':D}(s:RS K B F H σ δ)(fr:List Nat)(r:Rep F v d)(r':Rep F v' d'):RS K B F H (ae v :: ae v' :: zfc fr σ) (cEn2 fr δ d d'):=by
 have c:=s.cap fr r'
 refine⟨c.fh,c.bh,by simp[cEn2,zfc],fun j e h=>?_,fun a b l ds e hab h1 h2 h3 h4=>?_,fun a b e1 e2 v1 v2 ad hab q1 q2 q3 q4 q5=>?_,fun w o _ ho=>by cases ho⟩
 ·cases j with
  | zero=>cases h;exact⟨v,rfl,r⟩
  | succ j=>exact c.ent j e h
 ·cases a with
  | zero=>cases h1
  | succ a=>
   cases b with
   | zero=>cases h3;cases h4
   | succ b=>exact c.ap a b l ds e (fun z=>hab (by rw[z])) h1 h2 h3 h4
 ·cases a with
  | zero=>cases q1;cases q5
  | succ a=>
   cases b with
   | zero=>cases q3;exact fun _ z=>z
   | succ b=>exact c.ao a b e1 e2 v1 v2 ad (fun z=>hab (by rw[z])) q1 q2 q3 q4 q5
theorem SemE.l2{K:ak}{fr:List Nat}{wi:TI}{tt:TT}{te:TE}{fi:FI}{ft:FT}{fe:FE}(mi:SemI K wi fi)(mt:SemT K tt ft)(me:SemE K te fe):SemE K (tLG 2 fr wi (gTup K 2 (gCons (zgo 0) (gCons (zgo 1) gNil))) tt te) (eL2 fr fi ft fe):=fun B F H σ δ res Q s q k=>by
 obtain⟨ds,q1,q⟩:=bind_some q
 obtain⟨out,q2,q⟩:=bind_some q
 split at q
 ·rename_i hlen
  cases q
  refine mi B F H σ δ ds _ s q1 fun J F1 H1 x1 io=>?_
  intro a ha
  refine⟨fun i m ys τ H'=>m=ds.length - i/\i<=ds.length/\(∃ o1 o2,τ=o1 :: o2 :: zfc fr σ)/\∃ F' done rest,Ex F1 H1 F' H'/\F' a=af/\H' a=ae (.lst ys)/\Reps F' ys done/\zcA (fun d=>(two d).bind fun p=>ft (cEn2 fr δ p.1 p.2)) (fun d=>(two d).bind fun p=>fe (cEn2 fr δ p.1 p.2)) (ds.drop i)=ae rest/\out=done ++ rest,
   ⟨_,rfl,cg _,⟨af,af,rfl⟩,F1,[],out,Ex.lay x1.fh ha,x1.fh.free ha,zai,.nil,q2,rfl⟩,?_⟩
  rintro i m ys τ H' ⟨rfl,hi,⟨o1,o2,rfl⟩,F',dn,rest,x',fa,hH,rs,q',eo⟩
  have s':=(s.ext x1).ext x'
  obtain⟨hstop,hgo⟩:=io F' H' x'.ff x'.fh s'.bh
  by_cases hlt:i<ds.length
  ·right
   have hd:ds[i]? = ae ds[i]:=by simp[hlt]
   obtain⟨g1,g2⟩:=hgo i _ hd
   rw[bQ hlt] at q'
   obtain⟨b,q3,q'⟩:=bind_some q'
   obtain⟨p,qt,q3⟩:=bind_some q3
   have et:=two_some qt
   refine⟨g1,fun v H2 yl=>?_⟩
   obtain⟨F2,x2,r2⟩:=g2 v H2 yl
   rw[et] at r2
   cases r2 with
   | tup e2 rs2=>
    cases rs2 with
    | cons ra rs3=>
     cases rs3 with
     | cons rb rs4=>
      cases rs4
      refine⟨_,_,rfl,SqT.of (x2.fh _ _ e2),rfl,_,_,rfl,_,_,rfl,rfl,?_⟩
      have sc:=(s'.ext x2).cap2 fr ra rb
      refine mt B F2 H2 _ _ b _ sc q3 fun F3 H3 x3=>?_
      have nn:∀ {Fz Hz:Hp},Ex F' H' Fz Hz->Fz a=af:=fun x=>(x.nw _ _ hH rfl).trans fa
      cases b with
      | false=>
       refine iteF ⟨ds.length - (i+1),by lia,rfl,hlt,⟨_,_,rfl⟩,F3,dn,rest,(x'.trans x2).trans x3,nn (x2.trans x3),(x2.trans x3).hh _ _ hH,rs.mono (x2.trans x3).ff,q',eo⟩
      | true=>
       refine iteT ?_
       obtain⟨y,q4,q'⟩:=bind_some q'
       obtain⟨r,q5,q6⟩:=bind_some q4
       replace q5:(two ds[i]).bind (fun p=>fe (cEn2 fr δ p.1 p.2))=ae r:=q5
       rw[qt] at q5
       obtain⟨rest',q7,q'⟩:=map_some q'
       cases q'
       refine me B F3 H3 _ _ r _ (sc.ext x3) q5 fun w F4 H4 x4 z4=>?_
       obtain⟨F5,x5,_,r5⟩:=RepR.frz x4 (Same.refl _) z4 q6
       have xx:Ex F' H' F5 H4:=(x2.trans x3).trans x5
       have hy:ys.length<ba:=by
        rw[rs.length,cA]
        have:out.length=dn.length+(rest'.length+1):=by rw[eo];simp
        lia
       refine⟨xx.hh _ _ hH,hy,ds.length - (i+1),by lia,rfl,hlt,⟨_,_,rfl⟩,F5,dn ++ [y],rest',?_,nn xx,zai,(rs.mono xx.ff).append (.one r5),q7,by rw[eo];simp⟩
       have xo:=x'.trans xx
       exact⟨xo.ff,fun b o e=>by rw[zaj (zaA e (nn xx))];exact xo.fh b o e,fun b o e=>by rw[zaj (zaA e ha)];exact xo.hh b o e,xo.nw⟩
  ·left
   have e:i=ds.length:=by lia
   subst e
   rw[eJ] at q'
   cases q'
   rw[bF] at eo
   subst eo
   refine⟨hstop,k _ F' H' (x1.trans x') ⟨a,ys,rfl,x1.hh.free ha,hH,rs,fa⟩⟩
 ·cases q
section
variable {X:Cx}{N:List Str}{fr:List Nat}{x x':Str}{scope:Scope}{iter elt:Expr}{ifs:List Expr}{px px' tpos pos:Pos}{fi:FI}{fe:FE}{ft:FT}{tn:Nat}
theorem vl2(S:CompSk X N 2 fr scope)(n0:N[0]? = ae x)(n1:N[1]? = ae x')(nd:N.Nodup)(t0:scope.names.lookup x=ae .local)(t1:scope.names.lookup x'=ae .local)(hi:VI X (.Tuple [.Name x px,.Name x' px'] tn tpos) iter fi)
  (ht:∀ (C:ai) (s₀:am) (H₀:Hp) (fp:List ai),VTs (cxC X N scope C s₀ H₀ fp) ifs ft) (he:∀ (C:ai) (s₀:am) (H₀:Hp) (fp:List ai),VE (cxC X N scope C s₀ H₀ fp) elt fe)
  (hc:X.calm=true:=by rfl) (hs:∀ z,bW iter X.env z=pure z:=by intro _;rfl):VE X (.ListComp elt [⟨.Tuple [.Name x px,.Name x' px'] tn tpos,iter,ifs,0⟩] scope pos) (eL2 fr fi ft fe):=by
 obtain⟨_,w1,m1⟩:=hi.h
 have l0:(relabel scope X.env).names.lookup x=ae .local:=lookup_relabel_local t0
 have l1:(relabel scope X.env).names.lookup x'=ae .local:=lookup_relabel_local t1
 refine⟨_,⟨pe_lg S hc w1.h (fun C s₀ H₀ fp=>?_) (fun C s₀ H₀ fp=>((ht C s₀ H₀ fp).uni).h) (fun C s₀ H₀ fp=>((he C s₀ H₀ fp).uni).h) hs⟩,.l2 m1 zih zh7⟩
 exact pg_tup (X:=cxC X N scope C s₀ H₀ fp) hc (zgX (zh1 nd n0 (.inl l0) (.inr l0)) (zgX (zh1 nd n1 (.inl l1) (.inr l1)) pgs_nil))
end
end L3

namespace L3
open PySem PySem.Spec PyProof.Rows L2
def shB(i j:Int):Prop:=(0<=j/\j<=1000000)/\i.natAbs<18446744073709551616
noncomputable def gShl:=pI shB fun i j=>.int (i * 2 ^ j.toNat)
def gBnd:=pI0 fun i j=>.int (Spec.bitAnd i j)
def gBor:=pI0 fun i j=>.int (Spec.bitOr i j)
def zjc:List Ent->Option Ent
 | [x,y]=>(iOf x).bind fun i=>(iOf y).map fun j=>.val (.int (if j<i then j else i))
 | _=>af
section
variable {X:Cx}
theorem zjs:OpD X (binaryOp .LShift) gShl:=⟨_,op_shl,semI (fun _ _ h=>⟨h.1.1,h.1.2,h.2⟩) fun _ _ _=>.int _⟩
theorem o_bnd:OpD X (binaryOp .BitAnd) gBnd:=⟨_,op_and,zh8 fun _ _ _=>.int _⟩
theorem o_bor:OpD X (binaryOp .BitOr) gBor:=⟨_,op_or,zh8 fun _ _ _=>.int _⟩
theorem c_min2(hc:X.calm=true:=by rfl):zjo X (.builtin "min") zjc:=⟨_,call_min2 hc,fun H0 F H vs es res Q fh hh r q k=>by
 match es,q with
 | [x,y],q=>
  obtain⟨i,q1,q⟩:=bind_some q
  obtain⟨j,q2,q⟩:=map_some q
  cases zbQ q1
  cases zbQ q2
  cases q
  cases r with
  | cons r1 r=>
   cases r with
   | cons r2 r=>
    cases r
    cases zcg r1
    cases zcg r2
    exact⟨i,j,rfl,k _ F H (Ex.refl fh) (.int _)⟩⟩
end
end L3

namespace L3
open PySem PySem.Spec PyProof.Rows L2
def zg9(H:Hp)(A:List ai):Hp:=fun a=>if a ∈ A then af else H a
section
variable {K:ak}{B:Bd}{F H F' H' H0:Hp}{σ:Sg}{δ:En}{v:V}{A A':List ai}{a:ai}{u:HO}{i:Nat}{o o':OT}
theorem zdI(h:a ∈ A):zg9 H A a=af:=if_pos h
theorem zg5(h:a ∉ A):zg9 H A a=H a:=if_neg h
theorem zbL(h:zg9 H A a=ae u):a ∉ A/\H a=ae u:=by
 by_cases q:a ∈ A
 ·rw[zdI q] at h;cases h
 ·rw[zg5 q] at h;exact⟨q,h⟩
theorem zcD(h:a ∉ A)(e:H a=ae u):zg9 H A a=ae u:=(zg5 h).trans e
structure Chg(H F F' H':Hp)(A:List ai):Prop where
 ff:Same F F'
 fh:Same F' H'
 st:Same (zg9 H A) H'
 nw:∀ a u,zg9 H A a=ae u->isT u=false->F' a=F a
theorem TR.far{Aj:List ai}{w:V}{p:OT}(t:TR K F H w p Aj)(c:Chg H F F' H' A)(h:∀ a ∈ Aj,a ∉ A):TR K F' H' w p Aj/\∀ a ∈ Aj,F' a=F a:=
 ⟨t.move c.ff fun a ha=>let⟨_,h1,_⟩:=t.lies a ha;(c.st _ _ (zcD (h a ha) h1)).trans h1.symm,fun a ha=>let⟨_,h1,h2⟩:=t.lies a ha;c.nw _ _ (zcD (h a ha) h1) h2⟩
theorem RS.chg(s:RS K B F H σ δ)(hi:δ[i]? = ae (ae (.obj o)))(hs:σ[i]? = ae (ae v))(t:TR K F H v o A)(c:Chg H F F' H' A)(t':TR K F' H' v o' A')(n':A'.Nodup)(f':∀ a ∈ A',F' a=af/\zg9 H A a=af) :
  RS K B F' H' σ (δ.set i (ae (.obj o')))/\FX B F F':=by
 obtain⟨A0,t0,n0,f0⟩:=s.at hi hs
 cases t0.det t
 have hB:∀ a u,(B:Hp) a=ae u->zg9 H A a=ae u:=fun a u h=>zcD (fun ha=>by rw[(f0 a ha).2] at h;cases h) (s.bh _ _ h)
 have far:∀ (j:Nat) (e:Ent) (w:V) (a:ai),i ≠ j->δ[j]? = ae (ae e)->σ[j]? = ae (ae w)->Occ K F H w e a->a ∉ A:=fun j e w a hij h1 h2 h3 ha=>s.ao i j _ e v w a hij hi hs h1 h2 rfl ⟨A,t,ha⟩ h3
 have mv:∀ (j:Nat) (w:V) (p:OT) (Aj:List ai),i ≠ j->(δ[j]? = ae (ae (.obj p)) \/ ∃ ks es,δ[j]? = ae (ae (.vwt ks es))/\p=.dcT ks es)->σ[j]? = ae (ae w)->TR K F H w p Aj->TR K F' H' w p Aj/\∀ a ∈ Aj,F' a=F a:=fun j w p Aj hij h1 h2 tj=>
  tj.far c fun a ha=>h1.elim (fun h1=>far j _ w a hij h1 h2 ⟨Aj,tj,ha⟩) fun⟨ks,es,h1,hp⟩=>far j _ w a hij h1 h2 ⟨Aj,hp ▸ tj,ha⟩
 have bk:∀ (j:Nat) (e:Ent) (w:V) (a:ai),i ≠ j->δ[j]? = ae (ae e)->σ[j]? = ae (ae w)->Occ K F' H' w e a->Occ K F H w e a:=fun j e w a hij z1 z2 z3=>z3.back (s.at z1 z2) fun p Aj he tj=>by
  rcases he with he | ⟨ks,es,he,ho⟩
  ·subst he;exact(mv j w p Aj hij (.inl z1) z2 tj).1
  ·subst he;exact(mv j w p Aj hij (.inr ⟨ks,es,z1,ho⟩) z2 tj).1
 refine⟨⟨c.fh,fun a u h=>c.st a u (hB a u h),by simp[s.len],fun j e q=>?_,fun a b l2 es e' hab q1 q2 q3 q4=>?_,fun a b e1 e2 v1 v2 ad hab q1 q2 q3 q4 q5 q6 q7=>?_,fun w p hw hp=>?_⟩,⟨c.ff,fun a u h ht=>c.nw a u (hB a u h) ht⟩⟩
 ·rw[bf] at q
  by_cases hij:i=j
  ·subst hij
   rw[if_pos rfl] at q
   split at q
   ·cases q
    exact⟨v,hs,A',t',n',fun a ha=>⟨(f' a ha).1,by
     cases z:(B:Hp) a with
     | none=>rfl
     | some u=>have:=hB a u z;rw[(f' a ha).2] at this;cases this⟩⟩
   ·cases q
  ·rw[if_neg hij] at q
   obtain⟨w,p1,p2⟩:=s.ent j e q
   refine⟨w,p1,?_⟩
   cases e with
   | val d=>exact Rep.mono c.ff p2
   | bor ds=>obtain⟨l,vs,e,p3,p4⟩:=p2;exact⟨l,vs,e,p3,p4.mono c.ff⟩
   | own es=>
    obtain⟨l,vs,e,p3,p4,p5,p6⟩:=p2
    have hl:=far j _ w l hij q p1 e
    exact⟨l,vs,e,c.st _ _ (zcD hl p3),p4.mono c.ff,(c.nw _ _ (zcD hl p3) rfl).trans p5,p6⟩
   | vw es=>
    obtain⟨l,vs,e,p3,p4⟩:=p2
    have hl:=far j _ w l hij q p1 e
    exact⟨l,vs,e,c.st _ _ (zcD hl p3),p4.mono c.ff⟩
   | obj p=>
    obtain⟨Aj,tj,nj,fj⟩:=p2
    obtain⟨m1,m2⟩:=mv j w p Aj hij (.inl q) p1 tj
    exact⟨Aj,m1,nj,fun a ha=>⟨(m2 a ha).trans (fj a ha).1,(fj a ha).2⟩⟩
   | vwt ks es=>obtain⟨Aj,tj⟩:=p2;exact⟨Aj,(mv j w _ Aj hij (.inr ⟨ks,es,q,rfl⟩) p1 tj).1⟩
   | bt ds=>obtain⟨l,vs,e,p3,p4⟩:=p2;exact⟨l,vs,e,p3,p4.mono c.ff⟩
 ·rw[bf] at q1 q3
  by_cases hia:i=a
  ·subst hia
   rw[if_pos rfl] at q1
   split at q1 <;> cases q1
  ·rw[if_neg hia] at q1
   by_cases hib:i=b
   ·subst hib
    rw[if_pos rfl] at q3
    split at q3
    ·cases q3;cases q4
    ·cases q3
   ·rw[if_neg hib] at q3
    exact s.ap a b l2 es e' hab q1 q2 q3 q4
 ·have key:∀ (j:Nat) (e:Ent) (w:V),i ≠ j->δ[j]? = ae (ae e)->σ[j]? = ae (ae w)->Occ K F' H' w e ad->Occ K F' H' v (.obj o') ad->False:=fun j e w hij z1 z2 z3 z4=>by
   have z5:=bk j e w ad hij z1 z2 z3
   obtain⟨u,hu⟩:=s.occ z1 z2 z5
   obtain⟨A2,t2,h2⟩:=z4
   rw[t2.det t'] at h2
   have:=(f' ad h2).2
   rw[zcD (far j e w ad hij z1 z2 z5) hu] at this
   cases this
  rw[bf] at q1 q3
  by_cases hia:i=a
  ·subst hia
   rw[if_pos rfl] at q1
   rw[if_neg hab] at q3
   split at q1
   ·cases q1
    rw[hs] at q2
    cases q2
    exact key b e2 v2 hab q3 q4 q7 q6
   ·cases q1
  ·rw[if_neg hia] at q1
   by_cases hib:i=b
   ·subst hib
    rw[if_pos rfl] at q3
    split at q3
    ·cases q3
     rw[hs] at q4
     cases q4
     exact key a e1 v1 hia q1 q2 q6 q7
    ·cases q3
   ·rw[if_neg hib] at q3
    exact s.ao a b e1 e2 v1 v2 ad hab q1 q2 q3 q4 q5 (bk a e1 v1 ad hia q1 q2 q6) (bk b e2 v2 ad hib q3 q4 q7)
 ·rw[bf] at hp
  by_cases hi0:i=0
  ·subst hi0
   exact s.pn w o hw hi
  ·rw[if_neg hi0] at hp
   exact s.pn w p hw hp
theorem TRs.focus:∀ {vs:List V} {os:List OT} {A:List ai} {k:Nat} {x:OT},TRs K F H vs os A->os[k]? = ae x->∃ v A1,vs[k]? = ae v/\TR K F H v x A1/\(∀ a ∈ A1,a ∈ A)/\(A.Nodup->A1.Nodup) /\
  ∀ (F' H':Hp) (x':OT) (A1':List ai),A.Nodup->Same F F'->(∀ a ∈ A,a ∉ A1->H' a=H a)->TR K F' H' v x' A1'->A1'.Nodup->(∀ a ∈ A1',a ∈ A1 \/ a ∉ A)->∃ A',TRs K F' H' vs (os.set k x') A'/\A'.Nodup/\∀ a ∈ A',(a ∈ A/\a ∉ A1) \/ a ∈ A1'
 | _,_,_,k,x,.nil,h=>by simp at h
 | _,_,_,0,x,.cons (A:=A0) (A':=A2) t ts,h=>by
  simp at h
  subst h
  refine⟨_,A0,rfl,t,fun a ha=>b9 _ ha,fun n=>(bH.mp n).1,fun F' H' x' A1' n sf hh t' n' hd=>?_⟩
  obtain⟨n0,n2,nd⟩:=bH.mp n
  refine⟨A1' ++ A2,.cons t' (ts.move sf fun a ha=>hh a (aS _ ha) fun h0=>nd a h0 a ha rfl),bH.mpr ⟨n',n2,fun a ha b hb e=>?_⟩,fun a ha=>?_⟩
  ·subst e
   rcases hd a ha with h | h
   ·exact nd a h a hb rfl
   ·exact h (aS _ hb)
  ·rcases b6.mp ha with h | h
   ·exact .inr h
   ·exact .inl ⟨aS _ h,fun h0=>nd a h0 a h rfl⟩
 | _,_,_,k+1,x,.cons (A:=A0) (A':=A2) t ts,h=>by
  obtain⟨v,A1,h1,h2,h3,h3n,h4⟩:=TRs.focus (k:=k) (x:=x) ts (by simpa using h)
  refine⟨v,A1,by simpa using h1,h2,fun a ha=>aS _ (h3 a ha),fun n=>h3n (bH.mp n).2.1,fun F' H' x' A1' n sf hh t' n' hd=>?_⟩
  obtain⟨n0,n2,nd⟩:=bH.mp n
  obtain⟨A',m1,m2,m3⟩:=h4 F' H' x' A1' n2 sf (fun a ha hn=>hh a (aS _ ha) hn) t' n' fun a ha=>(hd a ha).imp id fun z q=>z (aS _ q)
  refine⟨A0 ++ A',.cons (t.move sf fun a ha=>hh a (b9 _ ha) fun z=>nd a ha a (h3 a z) rfl) m1,bH.mpr ⟨n0,m2,fun a ha b hb e=>?_⟩,fun a ha=>?_⟩
  ·subst e
   rcases m3 a hb with h | h
   ·exact nd a ha a h.1 rfl
   ·rcases hd a h with h | h
    ·exact nd a ha a (h3 a h) rfl
    ·exact h (b9 _ ha)
  ·rcases b6.mp ha with h | h
   ·exact .inl ⟨b9 _ h,fun z=>nd a h a (h3 a z) rfl⟩
   ·exact(m3 a h).imp (fun z=>⟨aS _ z.1,z.2⟩) id
theorem TRs.put{y:V}{x:OT}{A1:List ai}(ty:TR K F H y x A1):∀ {vs:List V} {os:List OT} {A:List ai} {k:Nat},TRs K F H vs os A->k<os.length->A.Nodup->A1.Nodup->(∀ a ∈ A1,a ∉ A)->∃ A',TRs K F H (vs.set k y) (os.set k x) A'/\A'.Nodup/\∀ a ∈ A',a ∈ A \/ a ∈ A1
 | _,_,_,k,.nil,h,_,_,_=>by simp at h
 | _,_,_,0,.cons (A:=A0) (A':=A2) t ts,_,n,n1,hd=>by
  obtain⟨n0,n2,nd⟩:=bH.mp n
  refine⟨A1 ++ A2,.cons ty ts,bH.mpr ⟨n1,n2,fun a ha b hb e=>?_⟩,fun a ha=>?_⟩
  ·subst e;exact hd a ha (aS _ hb)
  ·exact(b6.mp ha).elim .inr fun z=>.inl (aS _ z)
 | _,_,_,k+1,.cons (A:=A0) (A':=A2) t ts,h,n,n1,hd=>by
  obtain⟨n0,n2,nd⟩:=bH.mp n
  obtain⟨A',m1,m2,m3⟩:=TRs.put ty (k:=k) ts (by simpa using h) n2 n1 fun a ha z=>hd a ha (aS _ z)
  refine⟨A0 ++ A',.cons t m1,bH.mpr ⟨n0,m2,fun a ha b hb e=>?_⟩,fun a ha=>?_⟩
  ·subst e
   rcases m3 a hb with z | z
   ·exact nd a ha a z rfl
   ·exact hd a z (b9 _ ha)
  ·rcases b6.mp ha with z | z
   ·exact .inl (b9 _ z)
   ·exact(m3 a z).imp (aS _) id
theorem TRs.add{y:V}{x:OT}{A1:List ai}(ty:TR K F H y x A1):∀ {vs:List V} {os:List OT} {A:List ai},TRs K F H vs os A->∃ A',TRs K F H (vs ++ [y]) (os ++ [x]) A'/\A'=A ++ A1
 | _,_,_,.nil=>⟨A1,by simpa using TRs.cons ty .nil,by simp⟩
 | _,_,_,.cons (A:=A0) t ts=>by
  obtain⟨A',m1,m2⟩:=TRs.add ty ts
  exact⟨A0 ++ A',.cons t m1,by rw[m2,cL]⟩
theorem zeA:∀ {ns:List Str} {vs:List V} {k:Nat} {f:Str} {v:V},ns.Nodup->ns[k]? = ae f->vs[k]? = ae v->(ns.zip vs).lookup f=ae v
 | [],_,_,_,_,_,h,_=>by simp at h
 | _ :: _,[],_,_,_,_,_,h=>by simp at h
 | n :: ns,w :: vs,0,f,v,_,h1,h2=>by
  simp at h1 h2
  subst h1;subst h2
  simp[bX]
 | n :: ns,w :: vs,k+1,f,v,nd,h1,h2=>by
  have h1':ns[k]? = ae f:=by simpa using h1
  have hne:(f == n)=false:=by
   rw[beq_eq_false_iff_ne]
   intro e
   subst e
   exact(a7.mp nd).1 (bJ h1')
  rw[cx,bX,hne]
  exact zeA (a7.mp nd).2 h1' (by simpa using h2)
theorem zfN:∀ {ns:List Str} {vs:List V} {f:Str},f ∉ ns->(ns.zip vs).lookup f=af
 | [],_,_,_=>rfl
 | _ :: _,[],_,_=>rfl
 | n :: ns,w :: vs,f,h=>by
  have hne:(f == n)=false:=by
   rw[beq_eq_false_iff_ne];intro e;exact h (by simp[e])
  rw[cx,bX,hne]
  exact zfN fun z=>h (av _ z)
theorem ziO:∀ {ns:List Str} {vs:List V} {k:Nat} {f:Str} {y:V},ns.Nodup->ns[k]? = ae f->ns.length=vs.length->zgi f y (ns.zip vs)=ns.zip (vs.set k y)
 | [],_,_,_,_,_,h,_=>by simp at h
 | _ :: _,[],_,_,_,_,_,h=>by simp at h
 | n :: ns,w :: vs,0,f,y,_,h,_=>by
  simp at h
  subst h
  simp[zgi]
 | n :: ns,w :: vs,k+1,f,y,nd,h,hl=>by
  have h':ns[k]? = ae f:=by simpa using h
  have hne:¬ n=f:=fun e=>by subst e;exact(a7.mp nd).1 (bJ h')
  rw[cx,zgi,if_neg hne,ziO (a7.mp nd).2 h' (by simpa using hl)]
  rfl
theorem putF_new{ns:List Str}{vs:List V}{f:Str}{y:V}(h:f ∉ ns)(hl:ns.length=vs.length):zgi f y (ns.zip vs)=(ns ++ [f]).zip (vs ++ [y]):=by
 induction ns generalizing vs with
 | nil=>
  cases vs with
  | nil=>rfl
  | cons w vs=>simp at hl
 | cons n ns ih=>
  cases vs with
  | nil=>simp at hl
  | cons w vs=>
   have hne:¬ n=f:=fun e=>h (by simp[e])
   rw[cx,zgi,if_neg hne,ih (fun z=>h (av _ z)) (by simpa using hl)]
   rfl
def toO:Ent->Option OT
 | .val d=>ae (.val d)
 | .own ds=>ae (.lst ds)
 | .obj o=>ae o
 | _=>af
theorem RepR.toO{e:Ent}{x:OT}(r:RepR K H0 F H v e)(q:toO e=ae x):∃ A,TR K F H v x A/\A.Nodup/\∀ a ∈ A,F a=af/\H0 a=af:=by
 cases e with
 | val d=>cases q;exact⟨[],.val r,.nil,fun a h=>by cases h⟩
 | own ds=>cases q;obtain⟨l,vs,e,h0,h1,rs,h2⟩:=r;subst e;exact⟨[l],.lst h1 rs,by simp,fun a h=>by simp at h;subst h;exact⟨h2,h0⟩⟩
 | obj o=>cases q;exact r.2
 | _=>cases q
end
noncomputable def isC(c:Str)(ns:List Str):OT->Option (List OT)
 | .ins c' ns' l=>gif (c'=c/\ns'=ns) (ae l)
 | _=>af
theorem zbo{c:Str}{ns:List Str}{l:List OT}:isC c ns (.ins c ns l)=ae l:=zf3 ⟨rfl,rfl⟩
theorem zd8{c:Str}{ns:List Str}{o:OT}{l:List OT}(h:isC c ns o=ae l):o=.ins c ns l:=by
 cases o with
 | ins c' ns' l'=>
  obtain⟨⟨h1,h2⟩,h3⟩:=zbp h
  cases h3
  rw[h1,h2]
 | _=>cases h
def oAt(i:Nat):En->Option OT:=fun δ=>match δ[i]? with
 | some (ae (.obj o))=>ae o
 | _=>af
theorem zbH{i:Nat}{δ:En}{o:OT}(h:oAt i δ=ae o):δ[i]? = ae (ae (.obj o)):=by
 unfold oAt at h
 split at h
 ·rename_i o' e;cases h;exact e
 ·cases h
def fE:OT->Option Ent
 | .val d=>ae (.val d)
 | .lst ds=>ae (.vw ds)
 | _=>af
noncomputable def ze4(i:Nat)(c:Str)(ns:List Str)(k:Nat):FE:=fun δ=>((oAt i δ).bind (isC c ns)).bind fun l=>(l[k]?).bind fE
structure ClsF(K:ak)(c:Str)(ns:List Str):Prop where
 h:∀ C,zfs K c C->Cls K C/\∀ f ∈ ns,NoAttr K C f
theorem zbK{K:ak}{c:Str}{C C':ai}(h:zfs K c C)(h':zfs K c C'):C=C':=by
 have:=h.symm.trans h'
 simp at this
 exact this
section
variable {X:Cx}{e:Expr}{pos pos' p:Pos}{fe:FE}{x f c:Str}{i k:Nat}{ns nsF:List Str}
theorem zhh(i k:Nat)(hc:ClsF X.K c nsF)(hf:f ∈ nsF:=by decide +kernel)(hk:ns[k]? = ae f:=by rfl)(hn:ns.Nodup:=by decide +kernel)(hN:X.N[i]? = ae x:=by rfl)(hv:Vis X.env.scope x:=by first | exact aE rfl | exact bd (aE rfl) | exact bd (bd rfl))(hd:(x == ("__debug__" : Str))=false:=by decide)
  (hcd:(x == ("__classdict__" : Str))=false:=by decide) (hb:cq (.Name x p) f X.env (eval (.Name x p) X.env)=eval (.Name x p) X.env:=by rfl):VE X (.Attribute (.Name x p) f pos) (ze4 i c ns k):=by
 refine⟨_,⟨ziJ (wv i hN hv hd hcd).h hb⟩,fun B F H σ δ r Q s q kk=>?_⟩
 obtain⟨l,q1,q⟩:=bind_some q
 obtain⟨o,q0,q1⟩:=bind_some q1
 obtain⟨x1,q2,q⟩:=bind_some q
 cases zd8 q1
 obtain⟨v,h1,A,t,_,_⟩:=s.ent i _ (zbH q0)
 cases t with
 | ins hcl e1 e2 hl ts=>
  obtain⟨w,A1,h2,h3,_⟩:=ts.focus q2
  obtain⟨g1,g2⟩:=hc.h _ hcl
  refine⟨_,h1,_,_,_,_,w,rfl,e1,g1,g2 f hf,zeA hn hk h2,?_⟩
  cases x1 with
  | val d=>cases q;cases h3 with | val h3=>exact kk w F H (Ex.refl s.fh) h3
  | lst ds=>cases q;cases h3 with | lst h3 h4=>exact kk _ F H (Ex.refl s.fh) ⟨_,_,rfl,h3,h4⟩
  | ins _ _ _=>cases q
  | dic _ _=>cases q
  | dcT _ _=>cases q
end
section
variable {K:ak}{B:Bd}{F H F1 H1 F' H' H0:Hp}{σ:Sg}{δ:En}{v w:V}{A A' A1 A1':List ai}{a dx C:ai}{i k:Nat}{o x' x1:OT}{c:Str}{ns ns':List Str}{vs vs':List V}{l l':List OT}
theorem RS.fld(s:RS K B F H σ δ)(x:Ex F H F1 H1)(hi:δ[i]? = ae (ae (.obj (.ins c ns l))))(hs:σ[i]? = ae (ae (.ref a)))(hcl:zfs K c C)(e1:H a=ae (.ins C dx (ns.zip vs)))(e2:H dx=ae (.own a))(hl:ns.length=vs.length)(ts:TRs K F H vs l A)(n:(a :: dx :: A).Nodup)
  (hl':ns'.length=vs'.length) (ts':TRs K F1 H1 vs' l' A') (n':A'.Nodup) (hA:∀ b ∈ A',b ∈ A \/ (F1 b=af/\H b=af)) :
  RS K B F1 (upd H1 a (.ins C dx (ns'.zip vs'))) σ (δ.set i (ae (.obj (.ins c ns' l'))))/\FX B F F1:=by
 have t:TR K F H (.ref a) (.ins c ns l) (a :: dx :: A):=.ins hcl e1 e2 hl ts
 obtain⟨A0,t0,n0,f0⟩:=s.at hi hs
 cases t0.det t
 have fA:∀ b ∈ a :: dx :: A,F1 b=af:=fun b hb=>((t.ext x).2 b hb).trans (f0 b hb).1
 have hadx:a ≠ dx:=fun e=>(a7.mp n).1 (by rw[e];exact aC)
 have haA:a ∉ A:=fun e=>(a7.mp n).1 (av _ e)
 have hdA:dx ∉ A:=(a7.mp (a7.mp n).2).1
 have ha':a ∉ A':=fun e=>(hA a e).elim haA fun z=>by rw[e1] at z;cases z.2
 have hd':dx ∉ A':=fun e=>(hA dx e).elim hdA fun z=>by rw[e2] at z;cases z.2
 refine s.chg hi hs t ⟨x.ff,fun b u h=>?_,fun b u h=>?_,fun b u h ht=>?_⟩ (.ins hcl zai (by rw[zaj (cr hadx)];exact x.hh _ _ e2) hl' (ts'.move (Same.refl _) fun b hb=>zaj fun e=>ha' (e ▸ hb))) ?_ fun b hb=>?_
 ·rw[zaj fun e=>by subst e;rw[fA b aC] at h;cases h]
  exact x.fh _ _ h
 ·obtain⟨h1,h2⟩:=zbL h
  rw[zaj fun e=>h1 (by rw[e];exact aC)]
  exact x.hh _ _ h2
 ·exact x.nw _ _ (zbL h).2 ht
 ·refine a7.mpr ⟨fun h=>?_,a7.mpr ⟨hd',n'⟩⟩
  rcases aF.mp h with e | e
  ·exact hadx e
  ·exact ha' e
 ·rcases aF.mp hb with e | hb
  ·subst e;exact⟨fA b aC,zdI aC⟩
  ·rcases aF.mp hb with e | hb
   ·subst e;exact⟨fA b (av _ aC),zdI (av _ aC)⟩
   ·rcases hA b hb with z | z
    ·exact⟨fA b (av _ (av _ z)),zdI (av _ (av _ z))⟩
    ·refine⟨z.1,?_⟩
     unfold zg9
     split
     ·rfl
     ·exact z.2
theorem RS.sub(s:RS K B F H σ δ)(hi:δ[i]? = ae (ae (.obj (.ins c ns l))))(hs:σ[i]? = ae (ae (.ref a)))(hcl:zfs K c C)(e1:H a=ae (.ins C dx (ns.zip vs)))(e2:H dx=ae (.own a))(hl:ns.length=vs.length)(ts:TRs K F H vs l A)
  (hk:l[k]? = ae x1) (hv:vs[k]? = ae w) (t1:TR K F H w x1 A1) (ch:Chg H F F' H' A1) (t':TR K F' H' w x' A1') (n':A1'.Nodup) (f':∀ b ∈ A1',F' b=af/\zg9 H A1 b=af) :
  RS K B F' H' σ (δ.set i (ae (.obj (.ins c ns (l.set k x')))))/\FX B F F':=by
 have t:TR K F H (.ref a) (.ins c ns l) (a :: dx :: A):=.ins hcl e1 e2 hl ts
 obtain⟨A0,t0,n,f0⟩:=s.at hi hs
 cases t0.det t
 obtain⟨w',B1,hw,tb,sb,_,go⟩:=ts.focus hk
 rw[hv] at hw
 cases hw
 cases tb.det t1
 have haA:a ∉ A:=fun e=>(a7.mp n).1 (av _ e)
 have hadx:a ≠ dx:=fun e=>(a7.mp n).1 (by rw[e];exact aC)
 have hdA:dx ∉ A:=(a7.mp (a7.mp n).2).1
 have nA:A.Nodup:=(a7.mp (a7.mp n).2).2
 have stay:∀ b u,b ∉ A1->H b=ae u->H' b=ae u:=fun b u hb hu=>ch.st _ _ (zcD hb hu)
 have new:∀ b ∈ A1',∀ u,b ∉ A1->H b ≠ ae u:=fun b hb u h1 h2=>by have:=(f' b hb).2;rw[zcD h1 h2] at this;cases this
 obtain⟨A2,m1,m2,m3⟩:=go F' H' x' A1' nA ch.ff (fun b hb hn=>by
  obtain⟨u,hu,_⟩:=ts.lies b hb
  rw[stay b u hn hu,hu]) t' n' fun b hb=>by
   by_cases h1:b ∈ A1
   ·exact .inl h1
   ·exact .inr fun h2=>by obtain⟨u,hu,_⟩:=ts.lies b h2;exact new b hb u h1 hu
 have ha1:a ∉ A1:=fun e=>haA (sb a e)
 have hd1:dx ∉ A1:=fun e=>hdA (sb dx e)
 have ha2:a ∉ A2:=fun e=>(m3 a e).elim (fun z=>haA z.1) fun z=>new a z _ ha1 e1
 have hd2:dx ∉ A2:=fun e=>(m3 dx e).elim (fun z=>hdA z.1) fun z=>new dx z _ hd1 e2
 refine s.chg hi hs t ⟨ch.ff,ch.fh,fun b u h=>?_,fun b u h ht=>?_⟩ (.ins hcl (stay _ _ ha1 e1) (stay _ _ hd1 e2) hl m1) ?_ fun b hb=>?_
 ·obtain⟨h1,h2⟩:=zbL h
  exact stay b u (fun e=>h1 (av _ (av _ (sb b e)))) h2
 ·obtain⟨h1,h2⟩:=zbL h
  exact ch.nw b u (zcD (fun e=>h1 (av _ (av _ (sb b e)))) h2) ht
 ·refine a7.mpr ⟨fun h=>?_,a7.mpr ⟨hd2,m2⟩⟩
  rcases aF.mp h with e | e
  ·exact hadx e
  ·exact ha2 e
 ·have old:∀ b u,b ∈ a :: dx :: A->b ∉ A1->H b=ae u->isT u=false->F' b=af/\zg9 H (a :: dx :: A) b=af:=fun b u h1 h2 h3 h4=>⟨(ch.nw b u (zcD h2 h3) h4).trans (f0 b h1).1,zdI h1⟩
  rcases aF.mp hb with e | hb
  ·subst e;exact old b _ aC ha1 e1 rfl
  ·rcases aF.mp hb with e | hb
   ·subst e;exact old b _ (av _ aC) hd1 e2 rfl
   ·rcases m3 b hb with z | z
    ·obtain⟨u,hu,hu'⟩:=ts.lies b z.1
     exact old b u (av _ (av _ z.1)) z.2 hu hu'
    ·refine⟨(f' b z).1,?_⟩
     by_cases h1:b ∈ A1
     ·exact zdI (av _ (av _ (sb b h1)))
     ·have:=(f' b z).2
      rw[zg5 h1] at this
      unfold zg9
      split
      ·rfl
      ·exact this
end
noncomputable def zfr(i:Nat)(c:Str)(ns:List Str)(k:Nat)(fe:FE):FS:=fun δ=>((fe δ).bind toO).bind fun y=>((oAt i δ).bind (isC c ns)).bind fun l=>if k<l.length then ae (.nx (δ.set i (ae (.obj (.ins c ns (l.set k y)))))) else af
noncomputable def zeC(i:Nat)(c:Str)(ns:List Str)(f:Str)(fe:FE):FS:=fun δ=>((fe δ).bind toO).bind fun y=>((oAt i δ).bind (isC c ns)).bind fun l=>ae (.nx (δ.set i (ae (.obj (.ins c (ns ++ [f]) (l ++ [y]))))))
def lOf:OT->Option (List D)
 | .lst ds=>ae ds
 | _=>af
noncomputable def fFApp(i:Nat)(c:Str)(ns:List Str)(k:Nat)(fe:FE):FS:=fun δ=>((oAt i δ).bind (isC c ns)).bind fun l=>((l[k]?).bind lOf).bind fun ds=>((fe δ).bind asV).bind fun d=>gif (sz (ds.length+1)) (ae (.nx (δ.set i (ae (.obj (.ins c ns (l.set k (.lst (ds ++ [d])))))))))
section
variable {X:Cx}{e:Expr}{pos pos' p:Pos}{fe:FE}{x f c:Str}{i k:Nat}{ns nsF:List Str}
theorem sFSet(i k:Nat)(hc:ClsF X.K c nsF)(he:VE X e fe)(hf:f ∈ nsF:=by decide +kernel)(hk:ns[k]? = ae f:=by rfl)(hn:ns.Nodup:=by decide +kernel)(hfew:ns.length<1000:=by decide)(hN:X.N[i]? = ae x:=by rfl)(hv:Vis X.env.scope x:=by first | exact aE rfl | exact bd (aE rfl) | exact bd (bd rfl))(hd:(x == ("__debug__" : Str))=false:=by decide)
  (hcd:(x == ("__classdict__" : Str))=false:=by decide) (hs:swapsWith e (ae (.Attribute (.Name x p) f pos')) pos.line X.env=pure false:=by rfl):VS X (.Assign [.Attribute (.Name x p) f pos'] e pos) (zfr i c ns k fe):=by
 obtain⟨t,w,m⟩:=he.h
 refine⟨_,⟨ps_fld (wv i hN hv hd hcd).h w.h hs⟩,fun B F H σ δ out DD s q kk=>?_⟩
 obtain⟨y,q1,q⟩:=bind_some q
 obtain⟨r,q1,q2⟩:=bind_some q1
 obtain⟨l,q3,q⟩:=bind_some q
 obtain⟨o,q3,q4⟩:=bind_some q3
 split at q
 ·rename_i hlt
  cases q
  cases zd8 q4
  refine m B F H σ δ r _ s q1 fun yv F1 H1 x1 z=>?_
  obtain⟨v,h1,A,t,n,h⟩:=s.ent i _ (zbH q3)
  cases t with
  | ins hcl e1 e2 hl ts=>
   obtain⟨g1,g2⟩:=hc.h _ hcl
   obtain⟨A1,ty,n1,f1⟩:=z.toO q2
   have nA:=(a7.mp (a7.mp n).2).2
   obtain⟨A',m1,m2,m3⟩:=TRs.put ty (ts.move x1.ff fun b hb=>let⟨u,hu,_⟩:=ts.lies b hb;(x1.hh _ _ hu).trans hu.symm) hlt nA n1 fun b hb hb'=>by
    obtain⟨u,hu,_⟩:=ts.lies b hb'
    rw[(f1 b hb).2] at hu
    cases hu
   obtain⟨r1,r2⟩:=s.fld (ns':=ns) x1 (zbH q3) h1 hcl e1 e2 hl ts n (by rw[List.length_set];exact hl) m1 m2 fun b hb=>(m3 b hb).imp id fun z=>f1 b z
   refine⟨_,h1,_,_,_,_,rfl,x1.hh _ _ e1,g1,g2 f hf,?_,?_⟩
   ·rw[fq];lia
   ·rw[ziO hn hk hl]
    exact kk σ F1 _ r1 r2
 ·cases q
theorem zfq(i:Nat)(hc:ClsF X.K c nsF)(he:VE X e fe)(hf:f ∈ nsF:=by decide +kernel)(hn:f ∉ ns:=by decide +kernel)(hfew:ns.length<1000:=by decide)(hN:X.N[i]? = ae x:=by rfl)(hv:Vis X.env.scope x:=by first | exact aE rfl | exact bd (aE rfl) | exact bd (bd rfl))(hd:(x == ("__debug__" : Str))=false:=by decide)
  (hcd:(x == ("__classdict__" : Str))=false:=by decide) (hs:swapsWith e (ae (.Attribute (.Name x p) f pos')) pos.line X.env=pure false:=by rfl):VS X (.Assign [.Attribute (.Name x p) f pos'] e pos) (zeC i c ns f fe):=by
 obtain⟨t,w,m⟩:=he.h
 refine⟨_,⟨ps_fld (wv i hN hv hd hcd).h w.h hs⟩,fun B F H σ δ out DD s q kk=>?_⟩
 obtain⟨y,q1,q⟩:=bind_some q
 obtain⟨r,q1,q2⟩:=bind_some q1
 obtain⟨l,q3,q⟩:=bind_some q
 obtain⟨o,q3,q4⟩:=bind_some q3
 cases q
 cases zd8 q4
 refine m B F H σ δ r _ s q1 fun yv F1 H1 x1 z=>?_
 obtain⟨v,h1,A,t,n,h⟩:=s.ent i _ (zbH q3)
 cases t with
 | ins hcl e1 e2 hl ts=>
  obtain⟨g1,g2⟩:=hc.h _ hcl
  obtain⟨A1,ty,n1,f1⟩:=z.toO q2
  have nA:=(a7.mp (a7.mp n).2).2
  obtain⟨A',m1,m2⟩:=TRs.add ty (ts.move x1.ff fun b hb=>let⟨u,hu,_⟩:=ts.lies b hb;(x1.hh _ _ hu).trans hu.symm)
  subst m2
  obtain⟨r1,r2⟩:=s.fld (ns':=ns ++ [f]) x1 (zbH q3) h1 hcl e1 e2 hl ts n (by simp[hl]) m1 (bH.mpr ⟨nA,n1,fun b hb b' hb' e=>by
   subst e
   obtain⟨u,hu,_⟩:=ts.lies b hb
   rw[(f1 b hb').2] at hu
   cases hu⟩) fun b hb=>(b6.mp hb).imp id fun z=>f1 b z
  refine⟨_,h1,_,_,_,_,rfl,x1.hh _ _ e1,g1,g2 f hf,?_,?_⟩
  ·rw[fq];lia
  ·rw[putF_new hn hl]
   exact kk σ F1 _ r1 r2
theorem sFApp(i k:Nat){apos cpos:Pos}(hc:ClsF X.K c nsF)(he:VE X e fe)(hf:f ∈ nsF:=by decide +kernel)(hk:ns[k]? = ae f:=by rfl)(hn:ns.Nodup:=by decide +kernel)(hN:X.N[i]? = ae x:=by rfl)(hv:Vis X.env.scope x:=by first | exact aE rfl | exact bd (aE rfl) | exact bd (bd rfl))(hd:(x == ("__debug__" : Str))=false:=by decide)
  (hcd:(x == ("__classdict__" : Str))=false:=by decide) (hb:cq (.Name x p) f X.env (eval (.Name x p) X.env)=eval (.Name x p) X.env:=by rfl)
  (hbase:cq (.Attribute (.Name x p) f pos') "append" X.env (eval (.Attribute (.Name x p) f pos') X.env)=eval (.Attribute (.Name x p) f pos') X.env:=by rfl) (hline:(apos.endLine == cpos.line)=true:=by rfl) (h1:zan e=true:=by rfl)
  (hs:swapsWith (.Call (.Attribute (.Attribute (.Name x p) f pos') "append" apos) [e] [] cpos) af pos.line X.env=pure false:=by rfl) :
  VS X (.Expr (.Call (.Attribute (.Attribute (.Name x p) f pos') "append" apos) [e] [] cpos) pos) (fFApp i c ns k fe):=by
 obtain⟨t,w,m⟩:=he.h
 refine⟨_,sex (wbm gG gw gy zeZ ⟨ziJ (wv i hN hv hd hcd).h hb⟩ (wac w wnil h1) hbase rfl hline h1 rfl) hs,fun B F H σ δ out DD s q kk=>?_⟩
 obtain⟨l,q3,q⟩:=bind_some q
 obtain⟨o,q3,q4⟩:=bind_some q3
 obtain⟨ds,q5,q⟩:=bind_some q
 obtain⟨x1,q5,q6⟩:=bind_some q5
 obtain⟨d,q1,q⟩:=bind_some q
 obtain⟨r,q1,q2⟩:=bind_some q1
 obtain⟨hlen,qz⟩:=zbp q
 cases qz
 cases zd8 q4
 obtain⟨v,h1,A,t,n,h⟩:=s.ent i _ (zbH q3)
 cases t with
 | ins hcl e1 e2 hl ts=>
  obtain⟨g1,g2⟩:=hc.h _ hcl
  obtain⟨w,A1,h2,h3,h4,_⟩:=ts.focus q5
  refine⟨_,h1,_,_,_,_,w,rfl,e1,g1,g2 f hf,zeA hn hk h2,?_⟩
  cases x1 with
  | val _=>cases q6
  | ins _ _ _=>cases q6
  | dic _ _=>cases q6
  | dcT _ _=>cases q6
  | lst _=>
   cases q6
   cases h3 with
   | @lst ad vs _ h5 h6=>
    refine⟨.inl ⟨rfl,_,SqL.of h5⟩,?_⟩
    refine m B F H σ δ r _ s q1 fun y F1 H1 x1 z=>?_
    obtain⟨F2,x2,sm,r2⟩:=RepR.frz x1 (Same.refl _) z q2
    refine⟨ad,vs,y,rfl,rfl,x2.hh _ _ h5,?_,?_⟩
    ·rw[h6.length,cA];unfold sz at hlen;lia
    ·have fl:F2 ad=af:=(x2.nw _ _ h5 rfl).trans (h ad (av _ (av _ (h4 ad (by simp))))).1
     obtain⟨z1,z2⟩:=s.sub (A1:=[ad]) (H':=upd H1 ad (.lst (vs ++ [y]))) (x':=.lst (ds ++ [d])) (zbH q3) h1 hcl e1 e2 hl ts q5 h2 (.lst h5 h6) ⟨x2.ff,fun b u hb=>by
       rw[zaj fun e=>by subst e;rw[fl] at hb;cases hb]
       exact x2.fh _ _ hb,fun b u hb=>by
       obtain⟨z1,z2⟩:=zbL hb
       rw[zaj fun e=>z1 (by simp[e])]
       exact x2.hh _ _ z2,fun b u hb ht=>x2.nw _ _ (zbL hb).2 ht⟩
      (.lst zai ((h6.mono x2.ff).append (.one r2))) (by simp) fun b hb=>by
       simp at hb
       subst hb
       exact⟨fl,zdI (by simp)⟩
     exact kk σ F2 _ z1 z2
end
end L3

namespace L3
open PySem PySem.Spec PyProof.Rows L2
abbrev FXE:=En->Option (D × En)
abbrev FXT:=En->Option (Bool × En)
abbrev FXA:=En->Option (List D × En)
abbrev GM:=OT->List D->Option (D × OT)
def SemX(K:ak)(t:TE)(f:FXE):Prop:=∀ (B:Bd) (F H:Hp) (σ:Sg) (δ:En) (d:D) (δ':En) (Q:VK),RS K B F H σ δ->f δ=ae (d,δ')->(∀ v F' H',RS K B F' H' σ δ'->FX B F F'->Rep F' v d->Q v H')->t σ H Q
def SemXT(K:ak)(t:TT)(f:FXT):Prop:=∀ (B:Bd) (F H:Hp) (σ:Sg) (δ:En) (b:Bool) (δ':En) (Q:Bool->Hp->Prop),RS K B F H σ δ->f δ=ae (b,δ')->(∀ F' H',RS K B F' H' σ δ'->FX B F F'->Q b H')->t σ H Q
def SemXA(K:ak)(t:TA)(f:FXA):Prop:=∀ (B:Bd) (F H:Hp) (σ:Sg) (δ:En) (ds:List D) (δ':En) (Q:List V->Hp->Prop),RS K B F H σ δ->f δ=ae (ds,δ')->(∀ vs F' H',RS K B F' H' σ δ'->FX B F F'->Reps F' vs ds->Q vs H')->t σ H Q
structure VX(X:Cx)(e:Expr)(f:FXE):Prop where
 h:∃ t,WE X e t/\SemX X.K t f
structure VXT(X:Cx)(e:Expr)(f:FXT):Prop where
 h:∃ t,WT X e t/\SemXT X.K t f
structure VXA(X:Cx)(es:List Expr)(f:FXA):Prop where
 h:∃ t,WA X es t/\SemXA X.K t f
def xP(fe:FE):FXE:=fun δ=>((fe δ).bind asV).map fun d=>(d,δ)
def xC(ks:List Kd)(g:List D->Option Ent)(fa:FXA):FXE:=fun δ=>(fa δ).bind fun p=>(((zaJ ks (p.1.map .val)).bind g).bind asV).map fun d=>(d,p.2)
def x2(g:Ent->Ent->Option Ent)(fa fb:FXE):FXE:=fun δ=>(fa δ).bind fun p=>(fb p.2).bind fun q=>((g (.val p.1) (.val q.1)).bind asV).map fun d=>(d,q.2)
section
variable {X:Cx}{a b c e:Expr}{es rest:List Expr}{pos p:Pos}{fa fb:FXE}{fs:FXA}{ft:FXT}{fe:FE}{x:Str}
theorem xpure(he:VE X e fe):VX X e (xP fe):=by
 obtain⟨t,w,m⟩:=he.h
 refine⟨t,w,fun B F H σ δ d δ' Q s q k=>?_⟩
 obtain⟨d',q1,q⟩:=map_some q
 cases q
 obtain⟨r,q1,q2⟩:=bind_some q1
 refine m B F H σ δ r _ s q1 fun v F1 H1 x1 z=>?_
 obtain⟨F2,x2,_,r2⟩:=RepR.frz x1 (Same.refl _) z q2
 exact k v F2 H1 (s.ext x2) (.of x2 s.bh) r2
theorem SemX.op{K:ak}{r:R2}{ta tb:TE}{g:Ent->Ent->Option Ent}(hr:zi6 K r g)(ha:SemX K ta fa)(hb:SemX K tb fb):SemX K (tOp r ta tb) (x2 g fa fb):=fun B F H σ δ d δ' Q s q k=>by
 obtain⟨p1,q1,q⟩:=bind_some q
 obtain⟨p2,q2,q⟩:=bind_some q
 obtain⟨d',q3,q⟩:=map_some q
 cases q
 obtain⟨res,q3,q4⟩:=bind_some q3
 refine ha B F H σ δ p1.1 p1.2 _ s q1 fun v F1 H1 s1 y1 r1=>?_
 refine hb B F1 H1 σ p1.2 p2.1 p2.2 _ s1 q2 fun w F2 H2 s2 y2 r2=>?_
 refine hr H2 F2 H2 v w (.val p1.1) (.val p2.1) res Q s2.fh (Same.refl _) (Rep.mono y2.ff r1) r2 q3 fun v' F' H' x3 r3=>?_
 obtain⟨F4,x4,_,r4⟩:=RepR.frz x3 (Same.refl _) r3 q4
 exact k v' F4 H' (s2.ext x4) ((y1.trans y2).trans (.of x4 s2.bh)) r4
theorem xop{op:Operator}{g:Ent->Ent->Option Ent}(ho:OpD X (binaryOp op) g)(ha:VX X a fa)(hb:VX X b fb):VX X (.BinOp a op b pos) (x2 g fa fb):=
 let⟨_,wa,sa⟩:=ha.h;let⟨_,wb,sb⟩:=hb.h;let⟨_,h1,h2⟩:=ho;⟨_,wop h1 wa wb,.op h2 sa sb⟩
end
def fX(fx:FXE):FS:=fun δ=>(fx δ).map fun p=>.nx p.2
def fXSet(i:Nat)(fx:FXE):FS:=fun δ=>(fx δ).map fun p=>.nx (p.2.set i (ae (.val p.1)))
def zit(fx:FXE):FS:=fun δ=>(fx δ).map fun p=>.rt (.val p.1) p.2
def zhW(i:Nat)(fe:FE):FS:=fun δ=>(fe δ).bind fun r=>match r with
 | .obj o=>ae (.nx (δ.set i (ae (.obj o))))
 | _=>af
section
variable {X:Cx}{e c:Expr}{pos pos' p:Pos}{fx:FXE}{ft:FXT}{fe:FE}{x:Str}{body els:List Stmt}{f g:FS}
theorem sX(h:VX X e fx)(hs:swapsWith e af pos.line X.env=pure false:=by rfl):VS X (.Expr e pos) (fX fx):=by
 obtain⟨t,w,m⟩:=h.h
 refine⟨_,sex w hs,fun B F H σ δ out DD s q k=>?_⟩
 obtain⟨p1,q1,q⟩:=map_some q
 cases q
 exact m B F H σ δ p1.1 p1.2 _ s q1 fun v F1 H1 s1 y1 _=>k σ F1 H1 s1 y1
theorem sXSet{i:Nat}(hN:X.N.Nodup)(hi:X.N[i]? = ae x)(hx:Loc X.env.scope x)(h:VX X e fx)(hs:swapsWith e (ae (.Name x pos')) pos.line X.env=pure false:=by rfl)(hf:X.fn x=true \/ X.env.scope.names.lookup x=ae .local:=by first | exact .inl rfl | exact .inr rfl | assumption) :
  VS X (.Assign [.Name x pos'] e pos) (fXSet i fx):=by
 obtain⟨t,w,m⟩:=h.h
 refine⟨_,sset hN hi hx w hs hf,fun B F H σ δ out DD s q k=>?_⟩
 obtain⟨p1,q1,q⟩:=map_some q
 cases q
 exact m B F H σ δ p1.1 p1.2 _ s q1 fun v F1 H1 s1 y1 r1=>k _ F1 H1 (s1.putV i r1) y1
theorem sXRet(h:VX X e fx):VS X (.Return (ae e) pos) (zit fx):=by
 obtain⟨t,w,m⟩:=h.h
 refine⟨_,sret w,fun B F H σ δ out DD s q k=>?_⟩
 obtain⟨p1,q1,q⟩:=map_some q
 cases q
 exact m B F H σ δ p1.1 p1.2 _ s q1 fun v F1 H1 s1 y1 r1=>k v σ F1 H1 s1 y1 r1
theorem sSetO{i:Nat}(h0:0<i)(hN:X.N.Nodup)(hi:X.N[i]? = ae x)(hx:Loc X.env.scope x)(he:VE X e fe)(hs:swapsWith e (ae (.Name x pos')) pos.line X.env=pure false:=by rfl)(hf:X.fn x=true \/ X.env.scope.names.lookup x=ae .local:=by first | exact .inl rfl | exact .inr rfl | assumption) :
  VS X (.Assign [.Name x pos'] e pos) (zhW i fe):=by
 obtain⟨t,w,m⟩:=he.h
 refine⟨_,sset hN hi hx w hs hf,fun B F H σ δ out DD s q k=>?_⟩
 obtain⟨r,q1,q⟩:=bind_some q
 cases r with
 | obj o=>cases q;exact m B F H σ δ _ _ s q1 fun v F' H' x z=>k _ F' H' (s.putO x i h0 z) (.of x s.bh)
 | _=>cases q
end
def spM(K:ak)(g:GM):Sp:=fun vs H Q _=>∃ v ws F o A ds d o',vs=v :: ws/\Same F H/\TR K F H v o A/\A.Nodup/\(∀ a ∈ A,F a=af)/\Reps F ws ds/\g o ds=ae (d,o') /\
 ∀ x F' H' A',Chg H F F' H' A->TR K F' H' v o' A'->A'.Nodup->(∀ a ∈ A',F' a=af/\zg9 H A a=af)->Rep F' x d->Q x H'
def ziV:Out->Option (D × OT)
 | .rt (.val d) δ=>(oAt 0 δ).map fun o=>(d,o)
 | .nx δ=>(oAt 0 δ).map fun o=>(.non,o)
 | _=>af
def zfe(n m:Nat)(f:FS)(o:OT)(ds:List D):Option (D × OT):=if ds.length=n then (f (ae (.obj o) :: (ds.map fun d=>ae (.val d)) ++ aB m af)).bind ziV else af
section
variable {P:aR}{w:aX}{K:ak}{mg:Str->Option ag}{base:aW}{x qual:Str}{st:Stmt}{f:ai}{fd:bq}{N ps:List Str}{k n:Nat}{g:GM}
theorem zed(F:FunA K x qual st f fd)(S:FnScope N ps (zad st))(fb:FS)(hk:ps.length=n+1)(hg:∀ o ds r,g o ds=ae r->zfe n (N.length - ps.length) fb o ds=ae r)
  (hbody:∀ (cdv:ag) (A:a8) (outer:List Env) (s:am) (H:Hp) (E:XK),Room k (A.deeper (envOfC qual (zad st) s.heap.objs.size f cdv))->VSs (zg8 CX0 P w K mg base N qual (zad st) f cdv A outer s H E).nox (zah st) fb) :
  FnOk P w K mg base CX0 (k+1) f fd ps (spM K g):=by
 obtain⟨oc,od,dV,kV,doc,pm,an,cdv,ct,osl,rfl,lk,hcd⟩:=F.ex
 refine fn_of lk hcd S (fun vs H Q E h=>?_) fun A outer s H vs Q E hr h=>?_
 ·obtain⟨v,ws,F,o,A,ds,d,o',rfl,_,_,_,_,rs,q,_⟩:=h
  have:=hg _ _ _ q
  unfold zfe at this
  split at this
  ·rename_i hl;rw[aL,rs.length,hl,hk]
  ·cases this
 ·obtain⟨v,ws,F,o,A,ds,d,o',rfl,fh,t,nd,fA,rs,q,kk⟩:=h
  obtain⟨tt,wt,m⟩:=(hbody cdv _ outer s H E hr).h
  refine⟨tt,wt.h.nox,?_⟩
  have q2:=hg _ _ _ q
  unfold zfe at q2
  split at q2
  ·rename_i hl
   obtain⟨out,q3,q4⟩:=bind_some q2
   have hws:=rs.length
   have ent:∀ (i:Nat) (e:Ent),(ae (Ent.obj o) :: (ds.map fun d=>ae (Ent.val d)) ++ aB (N.length - ps.length) af)[i]? = ae (ae e)->(i=0/\e=.obj o) \/ ∃ j d,i=j+1/\ds[j]? = ae d/\e=.val d:=fun i e h=>by
    cases i with
    | zero=>simp at h;exact .inl ⟨rfl,h.symm⟩
    | succ j=>
     rw[eN,dA] at h
     by_cases hj:j<(ds.map fun d=>ae (Ent.val d)).length
     ·rw[bo hj,aG] at h
      cases z:ds[j]? with
      | none=>rw[z] at h;cases h
      | some d=>rw[z] at h;cases h;exact .inr ⟨j,d,rfl,z,rfl⟩
     ·rw[cR (by lia),c9] at h
      split at h <;> cases h
   have sv:∀ (i:Nat) (y:V),(v :: ws)[i]? = ae y->(L2.start N (v :: ws))[i]? = ae (ae y):=fun i y h=>by
    unfold L2.start
    rw[bo (by rw[ax];exact(aO.mp h).1),aG,h]
    rfl
   have s0:RS K ⟨zg9 H A,ae v⟩ F H (L2.start N (v :: ws)) (ae (.obj o) :: (ds.map fun d=>ae (.val d)) ++ aB (N.length - ps.length) af):=by
    refine⟨fh,fun a u h=>(zbL h).2,?_,fun i e h=>?_,fun a b l es e hab h1=>?_,fun a b e1 e2 v1 v2 ad hab q1 q2 q3 q4 q5 q6 q7=>?_,fun w p hw _=>?_⟩
    ·unfold L2.start
     simp only[a9,ax,cE,aL]
     lia
    ·rcases ent i e h with ⟨rfl,rfl⟩ | ⟨j,d,rfl,hd,rfl⟩
     ·exact⟨v,sv 0 v rfl,A,t,nd,fun a ha=>⟨fA a ha,zdI ha⟩⟩
     ·obtain⟨y,hy,ry⟩:=rs.get hd
      exact⟨y,sv (j+1) y (by simpa using hy),ry⟩
    ·rcases ent a _ h1 with ⟨_,z⟩ | ⟨j,d,_,_,z⟩ <;> cases z
    ·rcases ent a _ q1 with ⟨rfl,rfl⟩ | ⟨j,d,_,_,rfl⟩
     ·rcases ent b _ q3 with ⟨rfl,_⟩ | ⟨j,d,_,_,rfl⟩
      ·exact hab rfl
      ·exact q7
     ·cases q5
    ·cases hw
     exact sv 0 v rfl
   have fin:∀ (δ':En) (σ':Sg) (F' H':Hp) (y:V),RS K ⟨zg9 H A,ae v⟩ F' H' σ' δ'->FX (zg9 H A) F F'->oAt 0 δ'=ae o'->Rep F' y d->Q y H':=fun δ' σ' F' H' y s' y' ho ry=>by
    have h0:=s'.pn v o' rfl (zbH ho)
    obtain⟨A',t',n',f'⟩:=s'.at (zbH ho) h0
    exact kk y F' H' A' ⟨y'.ff,s'.fh,s'.bh,y'.nw⟩ t' n' f' ry
   refine m ⟨zg9 H A,ae v⟩ F H (L2.start N (v :: ws)) _ out _ s0 q3 ?_
   cases out with
   | nx δ'=>
    obtain⟨o2,h1,h2⟩:=map_some q4
    cases h2
    exact fun σ' F' H' s' y=>fin δ' σ' F' H' .non s' y h1 .non
   | rt r' δ'=>
    cases r' with
    | val d'=>
     obtain⟨o2,h1,h2⟩:=map_some q4
     cases h2
     exact fun y σ' F' H' s' yy z=>fin δ' σ' F' H' y s' yy h1 z
    | _=>cases q4
   | bk δ'=>cases q4
   | ct δ'=>cases q4
  ·cases q2
end
structure MethD(K:ak)(c:Str)(m:Str)(st:Stmt)(qual:Str)(ps:List Str)(f:ai)(fd:bq):Prop where
 fn:FunA K m qual st f fd
 at_:∀ C,zfs K c C->Meth K C m f
 b:Binds K fd ps []
noncomputable def xM(i:Nat)(c:Str)(ns:List Str)(g:GM)(fa:FA):FXE:=fun δ=>(oAt i δ).bind fun o=>(isC c ns o).bind fun _=>((fa δ).bind zc8).bind fun ds=>(g o ds).map fun p=>(p.1,δ.set i (ae (.obj p.2)))
noncomputable def xMF(i:Nat)(c:Str)(ns:List Str)(k:Nat)(c2:Str)(ns2:List Str)(g:GM)(fa:FA):FXE:=fun δ=>((oAt i δ).bind (isC c ns)).bind fun l=>(l[k]?).bind fun o=>(isC c2 ns2 o).bind fun _=>((fa δ).bind zc8).bind fun ds=>(g o ds).map fun p=>(p.1,δ.set i (ae (.obj (.ins c ns (l.set k p.2)))))
section
variable {X:Cx}{e:Expr}{es:List Expr}{pos pos' p apos:Pos}{fa:FA}{x f m c c2 qual:Str}{ns nsF ns2 nsF2 ps:List Str}{g:GM}{fd:bq}{fm:ai}{st:Stmt}{kk j:Nat}{pl:Sem Bool}
theorem SemM.at{K:ak}{C:ai}{t:TA}{E:XK}{i:Nat}(sm:SemA K t fa)(hcl:zfs K c C)(hm:m ∉ ns):SemX K (tMeth C m (spM K g) [] E (tVar i) t) (xM i c ns g fa):=fun B F H σ δ d δ' Q s q k=>by
 obtain⟨o,q0,q⟩:=bind_some q
 obtain⟨l,q1,q⟩:=bind_some q
 obtain⟨ds,q2,q⟩:=bind_some q
 obtain⟨rs,q2,q3⟩:=bind_some q2
 obtain⟨p1,q4,q⟩:=map_some q
 cases q
 cases zd8 q1
 obtain⟨v,h1,A,t0,n0,f0⟩:=s.ent i _ (zbH q0)
 cases t0 with
 | ins hcl' e1 e2 hl ts=>
  cases zbK hcl hcl'
  refine⟨_,h1,_,_,_,rfl,e1,zfN hm,?_⟩
  refine sm B F H σ δ rs _ s q2 fun vs F1 H1 x1 r1=>?_
  obtain⟨F2,x2,_,r2⟩:=RepRs.frz x1 (Same.refl _) r1 q3
  have s2:=s.ext x2
  have tt:=((TR.ins hcl' e1 e2 hl ts).ext x2)
  rw[bF]
  refine⟨_,vs,F2,_,_,ds,p1.1,p1.2,rfl,s2.fh,tt.1,n0,fun a ha=>(tt.2 a ha).trans (f0 a ha).1,r2,q4,fun y F' H' A' ch t' n' f' ry=>?_⟩
  obtain⟨z1,z2⟩:=s2.chg (zbH q0) h1 tt.1 ch t' n' f'
  exact k y F' H' z1 ((FX.of x2 s.bh).trans z2) ry
theorem SemM.sub{K:ak}{C2:ai}{t:TA}{E:XK}{i k:Nat}(sm:SemA K t fa)(hc:ClsF K c nsF)(hcl2:zfs K c2 C2)(hm:m ∉ ns2)(hf:f ∈ nsF)(hk:ns[k]? = ae f)(hn:ns.Nodup):SemX K (tMeth C2 m (spM K g) [] E (tFld K (tVar i) f) t) (xMF i c ns k c2 ns2 g fa):=fun B F H σ δ d δ' Q s q kk=>by
 obtain⟨l,q0,q⟩:=bind_some q
 obtain⟨o,q0,q1⟩:=bind_some q0
 obtain⟨o1,q5,q⟩:=bind_some q
 obtain⟨l2,q6,q⟩:=bind_some q
 obtain⟨ds,q2,q⟩:=bind_some q
 obtain⟨rs,q2,q3⟩:=bind_some q2
 obtain⟨p1,q4,q⟩:=map_some q
 cases q
 cases zd8 q1
 cases zd8 q6
 obtain⟨v,h1,A,t0,n0,f0⟩:=s.ent i _ (zbH q0)
 cases t0 with
 | ins hcl e1 e2 hl ts=>
  obtain⟨g1,g2⟩:=hc.h _ hcl
  obtain⟨w,A1,h2,h3,h4,h4n,_⟩:=ts.focus q5
  have nA:=(a7.mp (a7.mp n0).2).2
  refine⟨_,h1,_,_,_,_,w,rfl,e1,g1,g2 f hf,zeA hn hk h2,?_⟩
  cases h3 with
  | ins hcl' d1 d2 dl us=>
   cases zbK hcl2 hcl'
   refine⟨_,_,_,rfl,d1,zfN hm,?_⟩
   refine sm B F H σ δ rs _ s q2 fun vs F1 H1 x1 r1=>?_
   obtain⟨F2,x2,_,r2⟩:=RepRs.frz x1 (Same.refl _) r1 q3
   have s2:=s.ext x2
   have tt:=((TR.ins hcl' d1 d2 dl us).ext x2)
   have ts2:=ts.move (H':=H1) x2.ff fun b hb=>let⟨u,hu,_⟩:=ts.lies b hb;(x2.hh _ _ hu).trans hu.symm
   rw[bF]
   refine⟨_,vs,F2,_,_,ds,p1.1,p1.2,rfl,s2.fh,tt.1,h4n nA,fun a ha=>(tt.2 a ha).trans (f0 a (av _ (av _ (h4 a ha)))).1,r2,q4,fun y F' H' A' ch t' n' f' ry=>?_⟩
   obtain⟨z1,z2⟩:=s2.sub (zbH q0) h1 hcl (x2.hh _ _ e1) (x2.hh _ _ e2) hl ts2 q5 h2 tt.1 ch t' n' f'
   exact kk y F' H' z1 ((FX.of x2 s.bh).trans z2) ry
theorem semNil{K:ak}:SemA K tNil zae:=fun B F H σ δ rs Q s q k=>by cases q;exact k [] F H (Ex.refl s.fh) .nil
variable {CX:CXT}{E:XK}
structure ClsD(K:ak)(mg:Str->Option ag)(c:Str)(nsF:List Str)(C:ai):Prop where
 at_:zfs K c C
 mg:mg c=ae (.ref C)
 cl:Cls K C
 no:∀ f ∈ nsF,NoAttr K C f
theorem ClsD.toF{K:ak}{mg:Str->Option ag}{C:ai}(D:ClsD K mg c nsF C):ClsF K c nsF:=⟨fun C' h=>by cases zbK D.at_ h;exact⟨D.cl,D.no⟩⟩
theorem xmeth{C:ai}(i:Nat)(DC:ClsD X.K X.mg c nsF C)(D:MethD X.K c m st qual ps fm fd)(F:FnOk X.prog X.w X.K X.mg X.base CX kk fm fd ps (spM X.K g))(hr:Room j X.A)(hx:zc6 CX X E)(ha:VA X (e :: es) fa)(hm:m ∉ ns:=by decide +kernel)(hjk:kk<=j:=by decide)
  (hN:X.N[i]? = ae x:=by rfl) (hv:Vis X.env.scope x:=by first | exact aE rfl | exact bd (aE rfl) | exact bd (bd rfl)) (hd:(x == ("__debug__" : Str))=false:=by decide) (hcd:(x == ("__classdict__" : Str))=false:=by decide)
  (h1:zan e=true:=by rfl) (h2:es.all zan=true:=by rfl)
  (ht:eval (.Call (.Attribute (.Name x p) m apos) (e :: es) [] pos) X.env=(do
   let ov <- eval (.Name x p) X.env
   standAt apos.atName
   let (f,first) <- holding [ov] (getMethod ov m pl)
   callWith pos f first (backTo pos (aY (e :: es) X.env)) (backToKw pos (keywordEach [] X.env))):=by rfl) :
  VX X (.Call (.Attribute (.Name x p) m apos) (e :: es) [] pos) (xM i c ns g fa):=
 let⟨_,w,sm⟩:=ha.h;⟨_,⟨pe_meth (wv i hN hv hd hcd).h DC.cl (D.at_ _ DC.at_) F (hr.mono hjk) D.b .nil hx w.h (zao h1) (zcy h2) ht⟩,SemM.at sm DC.at_ hm⟩
theorem xmeth0{C:ai}(i:Nat)(DC:ClsD X.K X.mg c nsF C)(D:MethD X.K c m st qual ps fm fd)(F:FnOk X.prog X.w X.K X.mg X.base CX kk fm fd ps (spM X.K g))(hr:Room j X.A)(hx:zc6 CX X E)(hm:m ∉ ns:=by decide +kernel)(hjk:kk<=j:=by decide)
  (hN:X.N[i]? = ae x:=by rfl) (hv:Vis X.env.scope x:=by first | exact aE rfl | exact bd (aE rfl) | exact bd (bd rfl)) (hd:(x == ("__debug__" : Str))=false:=by decide) (hcd:(x == ("__classdict__" : Str))=false:=by decide)
  (ht:eval (.Call (.Attribute (.Name x p) m apos) [] [] pos) X.env=(do
   let ov <- eval (.Name x p) X.env
   standAt apos.atName
   let (f,first) <- holding [ov] (getMethod ov m pl)
   callWith pos f first (backTo pos (aY [] X.env)) (backToKw pos (keywordEach [] X.env))):=by rfl) :
  VX X (.Call (.Attribute (.Name x p) m apos) [] [] pos) (xM i c ns g zae):=
 ⟨_,⟨ziL (wv i hN hv hd hcd).h DC.cl (D.at_ _ DC.at_) F (hr.mono hjk) D.b .nil hx ht⟩,SemM.at semNil DC.at_ hm⟩
theorem zi0{C C2:ai}(i k:Nat)(DC:ClsD X.K X.mg c nsF C)(DC2:ClsD X.K X.mg c2 nsF2 C2)(D:MethD X.K c2 m st qual ps fm fd)(F:FnOk X.prog X.w X.K X.mg X.base CX kk fm fd ps (spM X.K g))(hr:Room j X.A)(hx:zc6 CX X E)(ha:VA X (e :: es) fa)(hm:m ∉ ns2:=by decide +kernel)(hjk:kk<=j:=by decide)
  (hf:f ∈ nsF:=by decide +kernel) (hk:ns[k]? = ae f:=by rfl) (hn:ns.Nodup:=by decide +kernel)
  (hN:X.N[i]? = ae x:=by rfl) (hv:Vis X.env.scope x:=by first | exact aE rfl | exact bd (aE rfl) | exact bd (bd rfl)) (hd:(x == ("__debug__" : Str))=false:=by decide) (hcd:(x == ("__classdict__" : Str))=false:=by decide)
  (hb:cq (.Name x p) f X.env (eval (.Name x p) X.env)=eval (.Name x p) X.env:=by rfl) (h1:zan e=true:=by rfl) (h2:es.all zan=true:=by rfl)
  (ht:eval (.Call (.Attribute (.Attribute (.Name x p) f pos') m apos) (e :: es) [] pos) X.env=(do
   let ov <- eval (.Attribute (.Name x p) f pos') X.env
   standAt apos.atName
   let (f,first) <- holding [ov] (getMethod ov m pl)
   callWith pos f first (backTo pos (aY (e :: es) X.env)) (backToKw pos (keywordEach [] X.env))):=by rfl) :
  VX X (.Call (.Attribute (.Attribute (.Name x p) f pos') m apos) (e :: es) [] pos) (xMF i c ns k c2 ns2 g fa):=
 let⟨_,w,sm⟩:=ha.h;⟨_,⟨pe_meth (ziJ (wv i hN hv hd hcd).h hb) DC2.cl (D.at_ _ DC2.at_) F (hr.mono hjk) D.b .nil hx w.h (zao h1) (zcy h2) ht⟩,SemM.sub sm DC.toF DC2.at_ hm hf hk hn⟩
theorem xmethF0{C C2:ai}(i k:Nat)(DC:ClsD X.K X.mg c nsF C)(DC2:ClsD X.K X.mg c2 nsF2 C2)(D:MethD X.K c2 m st qual ps fm fd)(F:FnOk X.prog X.w X.K X.mg X.base CX kk fm fd ps (spM X.K g))(hr:Room j X.A)(hx:zc6 CX X E)(hm:m ∉ ns2:=by decide +kernel)(hjk:kk<=j:=by decide)
  (hf:f ∈ nsF:=by decide +kernel) (hk:ns[k]? = ae f:=by rfl) (hn:ns.Nodup:=by decide +kernel)
  (hN:X.N[i]? = ae x:=by rfl) (hv:Vis X.env.scope x:=by first | exact aE rfl | exact bd (aE rfl) | exact bd (bd rfl)) (hd:(x == ("__debug__" : Str))=false:=by decide) (hcd:(x == ("__classdict__" : Str))=false:=by decide)
  (hb:cq (.Name x p) f X.env (eval (.Name x p) X.env)=eval (.Name x p) X.env:=by rfl)
  (ht:eval (.Call (.Attribute (.Attribute (.Name x p) f pos') m apos) [] [] pos) X.env=(do
   let ov <- eval (.Attribute (.Name x p) f pos') X.env
   standAt apos.atName
   let (f,first) <- holding [ov] (getMethod ov m pl)
   callWith pos f first (backTo pos (aY [] X.env)) (backToKw pos (keywordEach [] X.env))):=by rfl) :
  VX X (.Call (.Attribute (.Attribute (.Name x p) f pos') m apos) [] [] pos) (xMF i c ns k c2 ns2 g zae):=
 ⟨_,⟨ziL (ziJ (wv i hN hv hd hcd).h hb) DC2.cl (D.at_ _ DC2.at_) F (hr.mono hjk) D.b .nil hx ht⟩,SemM.sub semNil DC.toF DC2.at_ hm hf hk hn⟩
end
def ze8(c:Str)(g:GM)(fa:FA):FE:=fun δ=>((fa δ).bind zc8).bind fun ds=>(g (.ins c [] []) ds).bind fun p=>match p.1 with
 | .non=>ae (.obj p.2)
 | _=>af
structure MakeD(K:ak)(c:Str)(st:Stmt)(qual:Str)(ps:List Str)(f:ai)(fd:bq):Prop where
 fn:FunA K "__init__" qual st f fd
 at_:∀ C,zfs K c C->Mk K C f
 b:Binds K fd ps []
section
variable {X:Cx}{e:Expr}{es:List Expr}{pos p:Pos}{fa:FA}{c qual:Str}{nsF ps:List Str}{g:GM}{fd:bq}{fm:ai}{st:Stmt}{kk j:Nat}{CX:CXT}{E:XK}
theorem SemE.make{K:ak}{C:ai}{t:TA}{E:XK}(sm:SemA K t fa)(hcl:zfs K c C):SemE K (tMake C (spM K g) [] E t) (ze8 c g fa):=fun B F H σ δ res Q s q k=>by
 obtain⟨ds,q1,q⟩:=bind_some q
 obtain⟨rs,q1,q2⟩:=bind_some q1
 obtain⟨p1,q3,q⟩:=bind_some q
 refine sm B F H σ δ rs _ s q1 fun vs F1 H1 x1 r1=>?_
 obtain⟨F2,x2,_,r2⟩:=RepRs.frz x1 (Same.refl _) r1 q2
 intro a dx ha hdx hne
 have fa0:F2 a=af:=x2.fh.free ha
 have fd0:F2 dx=af:=x2.fh.free hdx
 have sH:Same H1 (upd (upd H1 dx (.own a)) a (.ins C dx [])):=(Same.alloc hdx).trans (Same.alloc (by rw[zaj (cr hne)];exact ha))
 rw[bF]
 refine⟨_,vs,F2,.ins c [] [],[a,dx],ds,p1.1,p1.2,rfl,x2.fh.trans sH,?_,by simp[cr hne],fun b hb=>?_,r2,q3,fun y F' H' A' ch t' n' f' ry=>?_⟩
 ·exact .ins (vs:=[]) (A:=[]) hcl zai (by rw[zaj hne];exact zai) rfl .nil
 ·simp at hb
  rcases hb with rfl | rfl
  ·exact fa0
  ·exact fd0
 ·obtain⟨d0,o0⟩:=p1
  cases d0 with
  | non=>
   cases q
   have st:∀ b u,H1 b=ae u->zg9 (upd (upd H1 dx (.own a)) a (.ins C dx [])) [a,dx] b=ae u:=fun b u hb=>zcD (fun z=>by
    simp at z
    rcases z with rfl | rfl
    ·rw[ha] at hb;cases hb
    ·rw[hdx] at hb;cases hb) (sH _ _ hb)
   refine⟨zgW ry,k _ F' H' ⟨x2.ff.trans ch.ff,ch.fh,fun b u hb=>ch.st _ _ (st b u (x2.hh _ _ hb)),fun b u hb ht=>(ch.nw b u (st b u (x2.hh _ _ hb)) ht).trans (x2.nw b u hb ht)⟩ ⟨⟨a,rfl⟩,A',t',n',fun b hb=>⟨(f' b hb).1,?_⟩⟩⟩
   cases z:H b with
   | none=>rfl
   | some u=>have:=st b u (x2.hh _ _ z);rw[(f' b hb).2] at this;cases this
  | _=>cases q
theorem vmake{C:ai}(DC:ClsD X.K X.mg c nsF C)(D:MakeD X.K c st qual ps fm fd)(F:FnOk X.prog X.w X.K X.mg X.base CX kk fm fd ps (spM X.K g))(hr:Room j X.A)(hg:Gl X c)(hx:zc6 CX X E)(ha:VA X (e :: es) fa)(hjk:kk+1<=j:=by decide)(hdb:(c == ("__debug__" : Str))=false:=by decide)
  (h1:zan e=true:=by rfl) (h2:es.all zan=true:=by rfl):VE X (.Call (.Name c p) (e :: es) [] pos) (ze8 c g fa):=
 let⟨_,w,sm⟩:=ha.h;⟨_,⟨pe_make (D.at_ _ DC.at_) F (hr.mono hjk) hg DC.mg D.b .nil hx w.h hdb (zao h1) (zcy h2)⟩,.make sm DC.at_⟩
end
end L3

namespace L2
open PySem PySem.Spec PyProof.Rows
def pkD(ks:List Str)(k:Str):List Str:=if k ∈ ks then ks else ks ++ [k]
def pvG{α:Type}(ks:List Str)(vs:List α)(k:Str)(v:α):List α:=if k ∈ ks then em (fun x y=>if x=k then v else y) ks vs else vs ++ [v]
theorem zfF{α:Type}{ks:List Str}{vs:List α}{k:Str}{v:α}(h:ks.length=vs.length):(pkD ks k).length=(pvG ks vs k v).length/\(pkD ks k).length<=ks.length+1:=by
 unfold pkD pvG
 split
 ·rw[List.length_zipWith];lia
 ·simp[h]
theorem kv_any{k:Str}:∀ {ks:List Str} {vs:List V} {us:List (Key × ag)},ks.length=vs.length->KV ((ks.map bA).zip vs) us->(us.any fun kv=>decide (kv.1=bA k))=decide (k ∈ ks)
 | [],[],us,_,r=>by
  unfold KV at r
  cases r
  rfl
 | x :: ks,v :: vs,us,hl,r=>by
  unfold KV at r
  rw[aH,cx] at r
  cases r with
  | @cons _ q _ qs h t=>
   rw[List.any_cons,kv_any (by simpa using hl) t,<- h.1]
   by_cases e:x=k
   ·subst e;simp
   ·have e':¬ k=x:=fun z=>e z.symm
    simp[e,e']
theorem kv_repl{k:Str}{v:V}{u:ag}(ry:RelV v u):∀ {ks:List Str} {vs:List V} {us:List (Key × ag)},ks.length=vs.length->KV ((ks.map bA).zip vs) us ->
  KV ((ks.map bA).zip (em (fun x y=>if x=k then v else y) ks vs)) (us.map fun kv=>if kv.1=bA k then (kv.1,u) else kv)
 | [],[],us,_,r=>by
  unfold KV at r
  cases r
  exact .nil
 | x :: ks,w :: vs,us,hl,r=>by
  unfold KV at r
  rw[aH,cx] at r
  cases r with
  | @cons _ q _ qs h t=>
   obtain⟨h1,h2⟩:=h
   have h1':bA x=q.1:=h1
   rw[aH,aH,de,cx]
   refine .cons ?_ (kv_repl ry (by simpa using hl) t)
   by_cases e:x=k
   ·rw[if_pos e,if_pos (by rw[<- h1',e])];exact⟨h1',ry⟩
   ·rw[if_neg e,if_neg (fun z=>e (iX (h1'.trans z)))];exact⟨h1',h2⟩
theorem kv_snoc{k:Str}{v:V}{u:ag}(ry:RelV v u):∀ {ks:List Str} {vs:List V} {us:List (Key × ag)},ks.length=vs.length->KV ((ks.map bA).zip vs) us ->
  KV (((ks ++ [k]).map bA).zip (vs ++ [v])) (us ++ [(bA k,u)])
 | [],[],us,_,r=>by
  unfold KV at r
  cases r
  exact .cons ⟨rfl,ry⟩ .nil
 | x :: ks,w :: vs,us,hl,r=>by
  unfold KV at r
  rw[aH,cx] at r
  cases r with
  | cons h t=>exact .cons h (kv_snoc ry (by simpa using hl) t)
theorem kv_put{k:Str}{v:V}{u:ag}{ks:List Str}{vs:List V}{us:List (Key × ag)}(ry:RelV v u)(hl:ks.length=vs.length)(r:KV ((ks.map bA).zip vs) us) :
  KV (((pkD ks k).map bA).zip (pvG ks vs k v)) (stored us (bA k) u):=by
 unfold stored pkD pvG
 rw[kv_any hl r]
 by_cases e:k ∈ ks
 ·rw[if_pos e,if_pos e,if_pos (decide_eq_true e)];exact kv_repl ry hl r
 ·rw[if_neg e,if_neg e,if_neg (by simpa using e)];exact kv_snoc ry hl r
section
variable {X:Cx}
def rSetD:V->V->V->Hp->(Hp->Prop)->Prop:=fun o i v H Q=>∃ p ks vs k,o=.ref p/\i=.str k/\H p=ae (.dK ((ks.map bA).zip vs))/\ks.length=vs.length/\ks.length<1000000/\Q (upd H p (.dK (((pkD ks k).map bA).zip (pvG ks vs k v))))
theorem set_dic:PSet X rSetD:=by
 intro pins s σ H o i v ov iv u Q I ro ri rv h
 obtain⟨p,ks,vs,k,rfl,rfl,hp,hl,hz,q⟩:=h
 cases ro
 obtain⟨z,hd,us,rel,dd⟩:=I.hok p _ hp
 have hu:us.length<=ba:=by rw[<- ic rel];exact z
 refine wpAny_setItem_pairs (hsz:=hu) (kisS ri) dd fun h' dd' hs=>⟨_,?_,q⟩
 have he:∃ q,h'.get? p=ae q:=let⟨q,_,_,hq,_⟩:=dd';⟨q,hq⟩
 have hn:((((pkD ks k).map bA).zip (pvG ks vs k v)):List (Key × V)).length<=ba:=by
  have:=(zfF (k:=k) (v:=v) hl).2
  rw[fq,ax,cA];lia
 exact I.write (x:=p) (e:=p) (by rw[hp];exact dc) (.inl rfl) (fun b q hb z=>(hs.2 b hb).trans z) he ⟨hn,hd,_,kv_put rv hl rel,dd'⟩
def rGet:V->List V->Hp->VK->Prop:=fun x xs H Q=>∃ a kvs z d,x=.ref a/\xs=[.str z,d]/\Rd H a (.dK kvs)/\Q ((atK kvs (bA z)).getD d) H
theorem mt_get:MtR X "dict.get" rGet:=by
 intro pins s σ H x xs v us Q I rx rxs h
 obtain⟨a,kvs,z,d,rfl,rfl,e,q⟩:=h
 cases rx
 cases rxs with
 | cons r1 r=>
  cases r with
  | cons r2 r=>
   cases r
   obtain⟨_,hd,vs,rel,dd⟩:=e.ok I.hok
   refine call_meetsIn eR dd.typeIs PySem.F.entry_dict_get (PySem.F.args_dict_get_3 _ _ _) (meets_dict_get_default (zg0 X.prog X.w) a (kisS r1) hd _) ⟨_,dd.mapOf,_,H,I.tok _,?_,q⟩
   rcases atK_rel rel (bA z) with ⟨v2,w,e1,e2,e3⟩ | ⟨e1,e2⟩
   ·rw[e1,e2];exact e3
   ·rw[e1,e2];exact r2
end
end L2
namespace L3
open PySem PySem.Spec PyProof.Rows L2
theorem reps_pv{F:Hp}{k:Str}{v:V}{d:D}(r:Rep F v d):∀ {ks:List Str} {vs:List V} {ds:List D},Reps F vs ds->Reps F (pvG ks vs k v) (pvG ks ds k d):=by
 have key:∀ (ks:List Str) {vs:List V} {ds:List D},Reps F vs ds->Reps F (em (fun x y=>if x=k then v else y) ks vs) (em (fun x y=>if x=k then d else y) ks ds):=by
  intro ks
  induction ks with
  | nil=>intro vs ds _;exact .nil
  | cons x ks ih=>
   intro vs ds h
   cases h with
   | nil=>exact .nil
   | cons h t=>
    rw[de,de]
    refine .cons ?_ (ih t)
    by_cases e:x=k
    ·rw[if_pos e,if_pos e];exact r
    ·rw[if_neg e,if_neg e];exact h
 intro ks vs ds h
 unfold pvG
 split
 ·exact key ks h
 ·exact h.append (.one r)
def oDic:OT->Option (List Str × List D)
 | .dic ks ds=>ae (ks,ds)
 | _=>af
theorem oDic_some{o:OT}{p:List Str × List D}(h:oDic o=ae p):o=.dic p.1 p.2:=by
 cases o <;> first | (cases h;rfl) | (cases h)
def dAt(i:Nat):En->Option (List Str × List D):=fun δ=>(oAt i δ).bind oDic
theorem zfz{i:Nat}{δ:En}{p:List Str × List D}(h:dAt i δ=ae p):δ[i]? = ae (ae (.obj (.dic p.1 p.2))):=by
 obtain⟨o,h1,h2⟩:=bind_some h
 cases oDic_some h2
 exact zbH h1
def eD0:FE:=fun _=>ae (.obj (.dic [] []))
def gDg(p:List Str × List D):List Ent->Option Ent
 | [a,b]=>(sOf a).map fun z=>(lkD p.1 p.2 z).elim b .val
 | _=>af
def gGet:Ent->List Ent->Option Ent:=fun x es=>(dOf x).bind fun p=>gDg p es
def eDget(i:Nat)(fs:FA):FE:=fun δ=>(dAt i δ).bind fun p=>(fs δ).bind (gDg p)
noncomputable def fDput(i:Nat)(fk fe:FE):FS:=fun δ=>((fe δ).bind asV).bind fun d=>((fk δ).bind sOf).bind fun k=>(dAt i δ).bind fun p=>gif (sz (p.1.length+1)) (ae (.nx (δ.set i (ae (.obj (.dic (pkD p.1 k) (pvG p.1 p.2 k d)))))))
def fFrzD(i:Nat)(g:FS):FS:=fun δ=>(dAt i δ).bind fun p=>g (δ.set i (ae (.val (.dic p.1 p.2))))
section
variable {K:ak}{B:Bd}{F H F' H' H0:Hp}{σ:Sg}{δ:En}{v:V}{i:Nat}{ks:List Str}{ds:List D}
theorem gDg_ok{a:ai}{vs ws:List V}{es:List Ent}{res:Ent}{Q:VK}(e:Rd H a (.dK ((ks.map bA).zip vs)))(hl:ks.length=vs.length)(rs:Reps F vs ds)(rw':RepRs K H0 F H ws es)(q:gDg (ks,ds) es=ae res)(k:∀ v,RepR K H0 F H v res->Q v H):rGet (.ref a) ws H Q:=by
 match es,q with
 | [x,y],q=>
  obtain⟨z,q1,q2⟩:=map_some q
  cases zbk q1
  have q3:(lkD ks ds z).elim y .val=res:=q2
  subst q3
  cases rw' with
  | cons r1 r=>
   cases r with
   | cons r2 r=>
    cases r
    cases zb4 r1
    refine⟨a,_,z,_,rfl,rfl,e,?_⟩
    rcases lkD_ok z hl rs with ⟨d',v,e1,e2,e3⟩ | ⟨e1,e2⟩
    ·rw[e2];rw[e1] at k;exact k _ e3
    ·rw[e2];rw[e1] at k;exact k _ r2
theorem RS.frzD(s:RS K B F H σ δ)(hi:δ[i]? = ae (ae (.obj (.dic ks ds)))):∃ a kvs,σ[i]? = ae (ae (.ref a))/\H a=ae (.dK kvs)/\∀ ob,∃ F',FX B F F'/\RS K B F' (upd H a (.frz ob (.dK kvs))) σ (δ.set i (ae (.val (.dic ks ds)))):=by
 obtain⟨v,h1,A,t,n,h⟩:=s.ent i _ hi
 cases t with
 | @dic a _ vs _ e l rs=>
  refine⟨a,_,h1,e,fun ob=>?_⟩
  have fl:=(h a (by simp)).1
  have sm:Same F (upd F a (.frz ob (.dK ((ks.map bA).zip vs)))):=Same.alloc fl
  have rp:Rep (upd F a (.frz ob (.dK ((ks.map bA).zip vs)))) (.ref a) (.dic ks ds):=.dic zai l (rs.mono sm)
  obtain⟨z1,z2⟩:=s.chg (o':=.val (.dic ks ds)) (H':=upd H a (.frz ob (.dK ((ks.map bA).zip vs)))) hi h1 (.dic e l rs) ⟨sm,fun b u hb=>by
    by_cases hb':b=a
    ·subst hb';rw[zai] at hb ⊢;exact hb
    ·rw[zaj hb'] at hb ⊢;exact s.fh b u hb,fun b u hb=>by
    rw[zaj fun z=>(zbL hb).1 (by simp[z])];exact(zbL hb).2,fun b u hb _=>zaj fun z=>(zbL hb).1 (by simp[z])⟩
   (.val rp) .nil fun b hb=>by cases hb
  have z3:=z1.putV i rp
  rw[List.set_set] at z3
  obtain⟨hlt,he⟩:=aO.mp h1
  rw[<- he,List.set_getElem_self] at z3
  exact⟨_,z2,z3⟩
end
section
variable {X:Cx}{e ix o:Expr}{es:List Expr}{pos p tpos apos cpos:Pos}{fe fx fo:FE}{fs:FA}{x:Str}{sr:List Stmt}{g:FS}
theorem vD0:VE X (.Dict [] [] pos) eD0:=⟨_,wdnew,fun B F H σ δ res Q s q k p hp=>by
 cases q
 exact k _ F _ (Ex.lay s.fh hp) ⟨⟨p,rfl⟩,[p],.dic (vs:=[]) zai rfl .nil,by simp,fun a ha=>by
  simp at ha
  subst ha
  exact⟨s.fh.free hp,hp⟩⟩⟩
theorem m_get:MtD X "dict" "get" gGet:=⟨_,_,gJ,eR,hJ,mt_get,fun H0 F H x e es res fh r q=>by
  obtain⟨p,q1,q⟩:=bind_some q
  cases zi2 q1
  cases (show Rep F x (.dic p.1 p.2) from r) with
  | dic e l rs=>exact .inr (.inr (.inl ⟨rfl,.inl ⟨_,.inr ⟨_,fh _ _ e⟩⟩⟩)),fun H0 F H x vs e es res Q fh hh r rs q k=>by
  obtain⟨p,q1,q⟩:=bind_some q
  cases zi2 q1
  cases (show Rep F x (.dic p.1 p.2) from r) with
  | dic e l rd=>exact gDg_ok (K:=X.K) (H0:=H0) (.inr ⟨_,fh _ _ e⟩) l rd rs q fun v rv=>k v F H (Ex.refl fh) rv⟩
theorem vDget(i:Nat)(ha:VA X (e :: es) fs)(hN:X.N[i]? = ae x:=by rfl)(hv:Vis X.env.scope x:=by first | exact aE rfl | exact bd (aE rfl) | exact bd (bd rfl))(hd:(x == ("__debug__" : Str))=false:=by decide)(hcd:(x == ("__classdict__" : Str))=false:=by decide)
  (hbase:cq (.Name x p) "get" X.env (eval (.Name x p) X.env)=eval (.Name x p) X.env:=by rfl) (hl:decide ((e :: es).length+0+0<30)=true:=by rfl) (hline:(apos.endLine == cpos.line)=true:=by rfl)
  (h1:zan e=true:=by rfl) (h2:es.all zan=true:=by rfl):VE X (.Call (.Attribute (.Name x p) "get" apos) (e :: es) [] cpos) (eDget i fs):=by
 obtain⟨ta,wa,ma⟩:=ha.h
 refine⟨_,wbm gJ eR hJ mt_get (wv i hN hv hd hcd) wa hbase hl hline h1 h2,fun B F H σ δ res Q s q k=>?_⟩
 obtain⟨p,q1,q⟩:=bind_some q
 obtain⟨rs,q2,q⟩:=bind_some q
 obtain⟨v,h1,A,t,n,h⟩:=s.ent i _ (zfz q1)
 cases t with
 | dic e1 hl rd=>
  refine⟨_,h1,.inr (.inr (.inl ⟨rfl,.inl ⟨_,.inl e1⟩⟩)),?_⟩
  refine ma B F H σ δ rs _ s q2 fun vs F2 H2 x2 r2=>?_
  exact gDg_ok (K:=X.K) (H0:=H) (.inl (x2.hh _ _ e1)) hl (rd.mono x2.ff) r2 q fun v rv=>k v F2 H2 x2 rv
theorem sDput(i:Nat)(he:VE X e fe)(hx:VE X ix fx)(hN:X.N[i]? = ae x:=by rfl)(hv:Vis X.env.scope x:=by first | exact aE rfl | exact bd (aE rfl) | exact bd (bd rfl))(hd:(x == ("__debug__" : Str))=false:=by decide)(hcd:(x == ("__classdict__" : Str))=false:=by decide)
  (hg:∀ {to ti:TE},WE X (.Name x p) to->WE X ix ti->WG X (.Subscript (.Name x p) ix tpos) (gSub to ti rSetD))
  (hs:swapsWithSole [.Subscript (.Name x p) ix tpos] e pos.line X.env=pure false:=by rfl) (hw:swappedStores [.Subscript (.Name x p) ix tpos] e X.env=pure af:=by rfl) (h1:(ck [.Subscript (.Name x p) ix tpos] X.env).map (·.2)=[assign (.Subscript (.Name x p) ix tpos) X.env]:=by rfl) :
  VS X (.Assign [.Subscript (.Name x p) ix tpos] e pos) (fDput i fx fe):=by
 obtain⟨t,w,m⟩:=he.h
 obtain⟨t2,w2,m2⟩:=hx.h
 refine⟨_,sasg w (hg (wv i hN hv hd hcd) w2) hs hw h1,fun B F H σ δ out DD s q k=>?_⟩
 obtain⟨d,q1,q⟩:=bind_some q
 obtain⟨r,q2,q3⟩:=bind_some q1
 obtain⟨kk,q4,q⟩:=bind_some q
 obtain⟨rk,q5,q6⟩:=bind_some q4
 obtain⟨p,q7,q⟩:=bind_some q
 obtain⟨hlen,qz⟩:=zbp q
 cases qz
 cases zbk q6
 refine m B F H σ δ r _ s q2 fun y F1 H1 x1 z=>?_
 obtain⟨F2,x2,sm,r2⟩:=RepR.frz x1 (Same.refl _) z q3
 have s2:=s.ext x2
 obtain⟨v,h1,A,t,n,h⟩:=s.ent i _ (zfz q7)
 refine⟨_,h1,m2 B F2 H1 σ δ _ _ s2 q5 fun yk F3 H3 x3 z3=>?_⟩
 cases zb4 z3
 have s3:=s2.ext x3
 have x23:=x2.trans x3
 cases t with
 | @dic a _ vs _ e1 hl rd=>
  have tt:=(TR.dic (K:=X.K) e1 hl rd).ext x23
  have fl:F3 a=af:=(tt.2 a (by simp)).trans (h a (by simp)).1
  have r3:=Rep.mono x3.ff r2
  refine⟨a,p.1,vs,kk,rfl,rfl,x23.hh _ _ e1,hl,by unfold sz at hlen;lia,?_⟩
  obtain⟨z1,z2⟩:=s3.chg (o':=.dic (pkD p.1 kk) (pvG p.1 p.2 kk d)) (H':=upd H3 a (.dK (((pkD p.1 kk).map bA).zip (pvG p.1 vs kk y)))) (F':=F3) (zfz q7) h1 tt.1 ⟨Same.refl _,fun b u hb=>by
    rw[zaj fun z=>by subst z;rw[fl] at hb;cases hb]
    exact x23.fh _ _ hb,fun b u hb=>by
    obtain⟨z1,z2⟩:=zbL hb
    rw[zaj fun z=>z1 (by simp[z])]
    exact z2,fun _ _ _ _=>rfl⟩
   (.dic zai (zfF hl).1 (reps_pv r3 (rd.mono x23.ff))) (by simp) fun b hb=>by
    simp at hb
    subst hb
    exact⟨fl,zdI (by simp)⟩
  exact k σ F3 _ z1 ((FX.of x23 s.bh).trans z2)
theorem pss_frzD{i:Nat}{u:TS}(h:PSs X sr u):PSs X sr (fun DD σ H=>∃ a kvs,σ[i]? = ae (ae (.ref a))/\H a=ae (.dK kvs)/\∀ ob,u DD σ (upd H a (.frz ob (.dK kvs)))):=by
 intro pins s σ H DD I q
 obtain⟨a,kvs,_,e,q⟩:=q
 have z:=I.hok a _ e
 obtain⟨_,_,_,_,ob,_,_,ho,_⟩:=id z
 refine h pins s σ _ DD (I.write (x:=a) (e:=a) (h':=s.heap) (t':=s.toks) (o:=.frz ob (.dK kvs)) (by rw[e];exact dc) (.inl rfl) (fun _ _ _ z=>z) ⟨_,ho⟩ ⟨ho,?_⟩) (q ob)
 exact z
theorem sFrzD(i:Nat)(h:VSs X sr g):VSs X sr (fFrzD i g):=by
 obtain⟨u,w2,m2⟩:=h.h
 refine⟨_,⟨pss_frzD (i:=i) w2.h⟩,fun B F H σ δ out DD s q k=>?_⟩
 obtain⟨p,q1,q⟩:=bind_some q
 obtain⟨a,kvs,h1,h2,h3⟩:=s.frzD (zfz q1)
 refine⟨a,kvs,h1,h2,fun ob=>?_⟩
 obtain⟨F',x,s'⟩:=h3 ob
 exact m2 B F' _ σ _ out DD s' q (k.mono x)
end
end L3

namespace L2
open PySem PySem.Spec PyProof.Rows
section
variable {X:Cx}{e:Expr}{p p1 pos pos1:Pos}{t:TE}
end
end L2
namespace L3
open PySem PySem.Spec PyProof.Rows L2
section
variable {X:Cx}{e:Expr}{fe:FE}{p p1 pos pos1:Pos}
end
end L3

namespace L2
open PySem PySem.Spec PyProof.Rows PySem.W
structure Fly(P:aR)(w:aX)(C:ai)(l:List Env)(H:Hp)(s:am)(a:ai)(H':Hp)(B:aW)(s':am):Prop where
 os:s'.os=s.os
 bare:AllBare s'.gens
 un:Un (frs l) [] H H' s.heap s'.heap
 hok:HOk P w H' s'.heap
 fl:∃ a0,fB B l a (.ref C) a0 s'.heap
 inB:∀ b o,s'.heap.get? b=ae o->b ∉ frs l->(H' b ≠ af \/ ∃ o',s.heap.get? b=ae o')->B.get? b=ae o
def CXE(P:aR)(w:aX)(C:ai):CXT:=fun l H s E e s'=>∃ a H' B,e=.ref a/\Fly P w C l H s a H' B s'/\E (.ref C) af H'
theorem ObjOk.lies{P:aR}{w:aX}{H:Hp}{h:aW}{a:ai}{u:HO}(x:ObjOk P w H h a u):∃ o,h.get? a=ae o:=by
 cases u with
 | lst xs=>obtain⟨_,_,_,_,e⟩:=x;exact⟨_,e⟩
 | tup xs=>obtain⟨_,_,_,_,e,_⟩:=x;exact⟨_,e⟩
 | dK kvs=>obtain⟨_,_,_,_,o,_,_,e,_⟩:=x;exact⟨_,e⟩
 | dT kvs=>obtain⟨_,_,_,_,o,_,_,e,_⟩:=x;exact⟨_,e⟩
 | set S n=>obtain⟨o,_,_,_,e,_⟩:=x;exact⟨_,e⟩
 | ins C dx fs=>obtain⟨_,_,_,e,_⟩:=x;exact⟨_,e⟩
 | own y=>exact x
 | xd fs=>obtain⟨_,⟨_,_,_,e,_⟩,_⟩:=x;exact⟨_,e⟩
 | rng lo hi=>obtain⟨_,_,_,e⟩:=x;exact⟨_,e⟩
 | frz ob u=>obtain⟨e,_⟩:=x;exact⟨_,e⟩
 | tbl ps=>exact⟨_,x⟩
 | met f y=>exact⟨_,x⟩
 | ext φ=>obtain⟨_,e,_⟩:=x;exact e
theorem HOk.lies{P:aR}{w:aX}{H:Hp}{h:aW}(ok:HOk P w H h){b:ai}{u:HO}(e:H b=ae u):∃ o,h.get? b=ae o:=(ok b u e).lies
theorem HOk.frames{P:aR}{w:aX}{H:Hp}{h h':aW}(ok:HOk P w H h)(k:∀ b o,H b ≠ af->h.get? b=ae o->h'.get? b=ae o):HOk P w H h':=fun b u q=>
 (ok b u q).stay (fun c v hc r=>k c v (by
  rcases hc with rfl | hc
  ·rw[q];exact fun z=>nomatch z
  ·rw[hc];exact fun z=>nomatch z) r) (fun _ r=>r) fun _ _ r=>r
section
variable {P:aR}{w:aX}{K:ak}{mg:Str->Option ag}{base:aW}{N:List Str}{qual:Str}{scope:Scope}{f:ai}{cd:ag}{A:a8}{outer:List Env}{s s1:am}{H H1:Hp}{E:XK}{C:ai}{pins:List (ai × Obj)}{σ:St}{CX:CXT}
theorem fly_raise{M:Model}{Er:ag->am->Prop}{h1:aW}{e:ai}{vs:List ag}(I:Inv (zg8 CX P w K mg base N qual scope f cd A outer s H E) pins σ H1 s1)(hm:Heap.MadeExcOf s1.heap h1 e (.ref C) vs){Q:Unit->am->Prop}
  (hQ:∀ B s',Fly P w C outer H s e H1 B s'->Q () s'):ay M (A.deeper (envOfC qual scope s.heap.objs.size f cd)) (leaving (envOfC qual scope s.heap.objs.size f cd) (.ref e)) Q Er { s1 with heap:=h1}:=by
 have fr:(A.deeper (envOfC qual scope s.heap.objs.size f cd)).frames=ae (envOfC qual scope s.heap.objs.size f cd :: outer):=I.ok.frames
 have st:s1.heap.FunFrames base (envOfC qual scope s.heap.objs.size f cd :: outer):=I.stack
 have sf:∀ b ∈ frs (envOfC qual scope s.heap.objs.size f cd :: outer),H1 b=af:=I.stkFree
 have bs:Un (frs outer) [] H H1 s.heap s1.heap:=I.base
 have mem:∀ b,b ∈ frs (envOfC qual scope s.heap.objs.size f cd :: outer)->b=s.heap.objs.size \/ b ∈ frs outer:=fun b hb=>by
  unfold frs at hb ⊢
  rw[da] at hb
  exact aF.mp hb
 have old:∀ b o,s.heap.get? b=ae o->b ≠ s.heap.objs.size:=fun b o h=>aV (aK h)
 refine wpAny_leaves_madeW (base:=hideAll s1.heap (frs (envOfC qual scope s.heap.objs.size f cd :: outer))) (h:=s1.heap) fr rfl (fun b o q=>of_hideAll _ q) (funFrames_hide st fun env he b hb=>dB.mpr ⟨env,he,hb⟩) hm fun h' t x1 x2 x3 x4=>hQ (hideAll s1.heap (frs (envOfC qual scope s.heap.objs.size f cd :: outer))) _ ?_
 have up:s1.heap.UpToSlots h':=(j5 hm.keeps).trans x4
 have keep:∀ b o,s1.heap.get? b=ae o->b ∉ frs (envOfC qual scope s.heap.objs.size f cd :: outer)->h'.get? b=ae o:=fun b o h n=>x1.1 b o (hideAll_get _ h n)
 have slot:∀ b o,s1.heap.get? b=ae o->b ∈ frs (envOfC qual scope s.heap.objs.size f cd :: outer)->∃ sl,h'.get? b=ae { o with slots:=sl}:=fun b o h m=>by
  obtain⟨_,o',ho,hd⟩:=st.mem m
  rw[h] at ho
  cases ho
  exact up b o h hd
 have any:∀ b o,s1.heap.get? b=ae o->∃ o',h'.get? b=ae o':=fun b o h=>by
  by_cases n:b ∈ frs (envOfC qual scope s.heap.objs.size f cd :: outer)
  ·obtain⟨sl,q⟩:=slot b o h n;exact⟨_,q⟩
  ·exact⟨o,keep b o h n⟩
 have tr:∀ b o,H1 b ≠ af->s1.heap.get? b=ae o->h'.get? b=ae o:=fun b o h q=>keep b o q fun m=>h (sf b m)
 have nx:∀ b:ai,b ∉ ([]:List ai):=fun b h=>by cases h
 refine⟨I.os,I.bare,⟨fun b o h n hb _=>?_,fun b o h n hb _=>?_,fun b o h n _=>bs.free b o h n (nx b),fun b o h _=>?_,bs.tups,bs.frzs,bs.tbls⟩,I.hok.frames tr,⟨_,x1⟩,fun b o q n hb=>?_⟩
 ·refine keep b o (bs.keep b o h n hb (nx b)) fun m=>?_
  rcases mem b m with e | e
  ·exact old b o h e
  ·exact hb e
 ·obtain⟨sl,q⟩:=bs.slot b o h n hb (nx b)
  obtain⟨sl2,q2⟩:=slot b _ q (by unfold frs at hb ⊢;rw[da];exact av _ hb)
  exact⟨sl2,q2⟩
 ·obtain⟨o1,q⟩:=bs.there b o h (nx b)
  exact any b o1 q
 ·have hn:b ∉ frs (envOfC qual scope s.heap.objs.size f cd :: outer):=fun m=>by
   rcases hb with hb | ⟨o',hb⟩
   ·exact hb (sf b m)
   ·rcases mem b m with e | e
    ·exact old b o' hb e
    ·exact n e
  have:∃ o1,s1.heap.get? b=ae o1:=by
   rcases hb with hb | ⟨o',hb⟩
   ·cases z:H1 b with
    | none=>exact absurd z hb
    | some u=>exact I.hok.lies z
   ·exact bs.there b o' hb (nx b)
  obtain⟨o1,q1⟩:=this
  have q2:=keep b o1 q1 hn
  rw[q] at q2
  cases q2
  exact hideAll_get _ q1 hn
end
end L2
namespace L2
open PySem PySem.Spec PyProof.Rows PySem.W
abbrev bmVE:List ag:=[.type "ValueError",.type "Exception",.type "BaseException",.type "object"]
structure ExcD(K:ak)(mg:Str->Option ag)(x:Str)(C:ai):Prop where
 mg:mg x=ae (.ref C)
 ex:excIn K C bmVE "ValueError.__new__" = true
theorem exc_obj{K:ak}{h:aW}{C:ai}{bmB:List ag}{newId:String}(X:K.In h)(q:excIn K C bmB newId=true) :
  ∃ bm N nm qn bs hd sn sub ab col dd k0 k1 k2 k3 k5 mN,h.get? C=ae (excClassObj nm qn C N bs bm hd sn sub ab col dd k0 k1 k2 k3 k5 newId)/\h.Ns N mN/\mN "__init__" = af/\OwnTail h bmB bm:=by
 unfold excIn at q
 split at q
 case h_2=>cases q
 case h_1 dd cl sl ho=>
  split at q
  case h_2=>cases q
  case h_1 C' bm k0 k1 k2 k3 n k5 hm hs=>
   cases cl with
   | mk nm bs mro ns qn hd sn sub ab col del=>
    cases sl with
    | mk l=>
     have hm':mro=.ref C' :: bm:=hm
     have hs':l=[k0,k1,k2,k3,ae (.builtin n),k5]:=hs
     subst hm' hs'
     simp only[cV,beq_iff_eq,iP] at q
     obtain⟨⟨⟨⟨⟨e1,e2⟩,e3⟩,e4⟩,e5⟩,e6⟩:=q
     subst e1 e2
     have e3':del=false:=e3
     subst e3'
     exact⟨bm,ns,nm,qn,bs,hd,sn,sub,ab,col,dd,k0,k1,k2,k3,k5,_,X _ _ ho,.of_isNs (isNs_of_in X e5),nsMap_none_of_in X e5 e6,tail_of_in X e4⟩
def tRaise(C:ai)(E:XK)(t:TA):TS:=fun _ σ H=>t σ H fun vs H1=>vs.length<=1000/\E (.ref C) af H1
section
variable {P:aR}{w:aX}{K:ak}{mg:Str->Option ag}{base:aW}{N:List Str}{qual:Str}{scope:Scope}{f:ai}{cd:ag}{A:a8}{outer:List Env}{s:am}{H:Hp}{E:XK}{C:ai}
theorem ps_raise{x:Str}{np cpos pos:Pos}{e₀:Expr}{rest:List Expr}{t:TA}(D:ExcD K mg x C)(hg:Gl (zg8 (CXE P w C) P w K mg base N qual scope f cd A outer s H E) x)(ha:PA (zg8 (CXE P w C) P w K mg base N qual scope f cd A outer s H E) (e₀ :: rest) t)
  (he:aY (e₀ :: rest) (envOfC qual scope s.heap.objs.size f cd)=(false,eval e₀ (envOfC qual scope s.heap.objs.size f cd)) :: aY rest (envOfC qual scope s.heap.objs.size f cd)) (hpl:(backTo cpos (aY rest (envOfC qual scope s.heap.objs.size f cd))).any (·.1)=false)
  (hd:(x == ("__debug__" : Str))=false:=by decide):PS (zg8 (CXE P w C) P w K mg base N qual scope f cd A outer s H E) (.Raise (ae (.Call (.Name x np) (e₀ :: rest) [] cpos)) af pos) (tRaise C E t):=by
 intro pins s1 σ H1 DD I h
 obtain⟨bm,N',nm,qn,bs,hdct,sn,sub,ab,col,dd,k0,k1,k2,k3,k5,mN,hC,hN,hni,T⟩:=exc_obj (h:=base) I.mod.kin D.ex
 refine wpAny_Raise_call_subU (C:=C) (nm:=nm) (q:=qn) (N:=N') (bs:=bs) (bm:=bm) (hdct:=hdct) (sn:=sn) (sub:=sub) (ab:=ab) (col:=col) (dd:=dd) (k0:=k0) (k1:=k1) (k2:=k2) (k3:=k3) (k5:=k5) (mN:=mN)
  dY (by decide) dY (T.hasType dY.hasBase) (I.ok.hd rfl) ?_ hni (zfi I hg D.mg ⟨rfl,?_⟩ hd)
 ·show(backTo cpos (aY (e₀ :: rest) (envOfC qual scope s.heap.objs.size f cd))).any (·.1)=false
  rw[he]
  show(false || (backTo cpos (aY rest (envOfC qual scope s.heap.objs.size f cd))).any (·.1))=false
  rw[hpl]
  rfl
 ·have hA:=ha cpos pins s1 σ H1 _ I h
  have he':aY (e₀ :: rest) (zg8 (CXE P w C) P w K mg base N qual scope f cd A outer s H E).env=(false,eval e₀ (envOfC qual scope s.heap.objs.size f cd)) :: aY rest (envOfC qual scope s.heap.objs.size f cd):=he
  rw[he'] at hA ⊢
  refine hZ (thn hA fun us s2 ⟨vs,H2,I2,r,hl,q⟩=>⟨rfl,?_,I2.bk _ _ hC,hN.keeps I2.bk,T.keeps I2.bk,fun h' e hm=>?_⟩)
  ·rw[<- r.length];exact d7 (zhz hl)
  ·exact fly_raise I2 hm fun B s' F=>⟨e,H2,B,rfl,F,q⟩
end
end L2

namespace L3
open PySem PySem.Spec PyProof.Rows L2
abbrev FSX:=En->Option (Option Out)
abbrev FEX:=En->Option (Option Ent)
abbrev GX:=List D->Option (Option Ent)
def EndX(K:ak)(B:Bd)(F:Hp)(DD:Ends)(EE:Hp->Prop):Option Out->Prop
 | some out=>EndOk K B F DD out
 | none=>∀ F' H',Same F' H'->Same B H'->FX B F F'->EE H'
theorem EndX.mono{K:ak}{B:Bd}{F F':Hp}{DD:Ends}{EE:Hp->Prop}{r:Option Out}(h:EndX K B F DD EE r)(x:FX B F F'):EndX K B F' DD EE r:=by
 cases r with
 | none=>exact fun F2 H2 a b c=>h F2 H2 a b (x.trans c)
 | some out=>exact EndOk.mono h x
def SemSX(K:ak)(EE:Hp->Prop)(t:TS)(f:FSX):Prop:=∀ (B:Bd) (F H:Hp) (σ:Sg) (δ:En) (r:Option Out) (DD:Ends),RS K B F H σ δ->f δ=ae r->EndX K B F DD EE r->t DD σ H
def EndE(K:ak)(F H:Hp)(EE:Hp->Prop)(Q:VK):Option Ent->Prop
 | some e=>∀ v F' H',Ex F H F' H'->RepR K H F' H' v e->Q v H'
 | none=>∀ F' H',Ex F H F' H'->EE H'
def SemEX(K:ak)(EE:Hp->Prop)(t:TE)(f:FEX):Prop:=∀ (B:Bd) (F H:Hp) (σ:Sg) (δ:En) (r:Option Ent) (Q:VK),RS K B F H σ δ->f δ=ae r->EndE K F H EE Q r->t σ H Q
structure VSX(X:Cx)(EE:Hp->Prop)(s:Stmt)(f:FSX):Prop where
 h:∃ t,WS X s t/\SemSX X.K EE t f
structure VSsX(X:Cx)(EE:Hp->Prop)(s:List Stmt)(f:FSX):Prop where
 h:∃ t,WSs X s t/\SemSX X.K EE t f
structure VEX(X:Cx)(EE:Hp->Prop)(e:Expr)(f:FEX):Prop where
 h:∃ t,WE X e t/\SemEX X.K EE t f
def lX(f:FS):FSX:=fun δ=>(f δ).map ae
def sqX(g:FSX):Option Out->Option (Option Out)
 | some (.nx δ)=>g δ
 | r=>ae r
def zeR(f g:FSX):FSX:=fun δ=>(f δ).bind (sqX g)
def fIfX(ft:FT)(f g:FSX):FSX:=fun δ=>(ft δ).bind fun b=>if b=true then f δ else g δ
def fRz(fa:FA):FSX:=fun δ=>(fa δ).bind fun rs=>if rs.length<=1000 then ae af else af
def lpX(lp:En->Option (Option Out)):Option Out->Option (Option Out)
 | some (.nx δ)=>lp δ
 | some (.ct δ)=>lp δ
 | some (.bk δ)=>ae (ae (.nx δ))
 | r=>ae r
def ziU(c:FT)(f:FSX):Nat->FSX
 | 0,_=>af
 | n+1,δ=>(c δ).bind fun b=>if b=true then (f δ).bind (lpX (ziU c f n)) else ae (ae (.nx δ))
section
variable {X:Cx}{EE:Hp->Prop}{e c:Expr}{es:List Expr}{st:Stmt}{sr body els:List Stmt}{f g:FSX}{f0:FS}{ft:FT}{fe:FEX}{fa:FA}{pos pos' p:Pos}{x:Str}
theorem sxl(h:VS X st f0):VSX X EE st (lX f0):=by
 obtain⟨t,w,m⟩:=h.h
 refine⟨t,w,fun B F H σ δ r DD s q k=>?_⟩
 obtain⟨out,q1,q⟩:=map_some q
 subst q
 exact m B F H σ δ out DD s q1 k
theorem ssxl(h:VSs X sr f0):VSsX X EE sr (lX f0):=by
 obtain⟨t,w,m⟩:=h.h
 refine⟨t,w,fun B F H σ δ r DD s q k=>?_⟩
 obtain⟨out,q1,q⟩:=map_some q
 subst q
 exact m B F H σ δ out DD s q1 k
theorem ssx1(h:VSX X EE st f):VSsX X EE [st] f:=let⟨_,w,s⟩:=h.h;⟨_,s1 w,s⟩
theorem ssxc(h1:VSX X EE st f)(h2:VSsX X EE sr g):VSsX X EE (st :: sr) (zeR f g):=by
 obtain⟨t,w1,m1⟩:=h1.h
 obtain⟨u,w2,m2⟩:=h2.h
 refine⟨_,sc w1 w2,fun B F H σ δ r DD s q k=>?_⟩
 obtain⟨o,q1,q⟩:=bind_some q
 refine m1 B F H σ δ o _ s q1 ?_
 cases o with
 | none=>cases q;exact k
 | some o=>
  cases o with
  | nx δ'=>exact fun σ' F' H' s' y=>m2 B F' H' σ' δ' r DD s' q (k.mono y)
  | rt r' δ'=>cases q;exact k
  | bk δ'=>cases q;exact k
  | ct δ'=>cases q;exact k
theorem sxIf(hc:VT X c ft)(ha:VSsX X EE body f)(hb:VSsX X EE els g):VSX X EE (.If c body els pos) (fIfX ft f g):=by
 obtain⟨t,w,m⟩:=hc.h
 obtain⟨t1,w1,m1⟩:=ha.h
 obtain⟨t2,w2,m2⟩:=hb.h
 refine⟨_,sif w w1 w2,fun B F H σ δ r DD s q k=>?_⟩
 obtain⟨bb,q1,q⟩:=bind_some q
 refine m B F H σ δ bb _ s q1 fun F' H' x=>?_
 cases bb with
 | true=>exact iteT (m1 B F' H' σ δ r DD (s.ext x) q (k.mono (.of x s.bh)))
 | false=>exact iteF (m2 B F' H' σ δ r DD (s.ext x) q (k.mono (.of x s.bh)))
theorem sxWhl(n:Nat)(hc:VT X c ft)(hb:VSsX X EE body f)(hp:PassesOwn (model X.prog X.w) X.A X.env X.xe):VSX X EE (.While c body [] pos) (ziU ft f n):=by
 obtain⟨tc,wc,mc⟩:=hc.h
 obtain⟨tb,wb,mb⟩:=hb.h
 refine⟨_,swhile hp wc wb,fun B F H σ δ r DD s q k=>?_⟩
 refine⟨fun m σ' H'=>∃ F' δ',RS X.K B F' H' σ' δ'/\FX B F F'/\ziU ft f m δ'=ae r,⟨n,F,δ,s,.refl,q⟩,?_⟩
 rintro m σ' H' ⟨F',δ',s',y',q'⟩
 cases m with
 | zero=>cases q'
 | succ m=>
  obtain⟨b,q1,q'⟩:=bind_some q'
  refine mc B F' H' σ' δ' b _ s' q1 fun F1 H1 x1=>?_
  have y1:FX B F F1:=y'.trans (.of x1 s'.bh)
  cases b with
  | false=>cases q';exact iteF (k σ' F1 H1 (s'.ext x1) y1)
  | true=>
   refine iteT ?_
   obtain⟨o,q2,q'⟩:=bind_some q'
   refine⟨fun σ2 H2=>∃ F' δ',RS X.K B F' H2 σ2 δ'/\FX B F F'/\ziU ft f m δ'=ae r,fun σ2 H2 hN=>⟨m,cG m,hN⟩,?_⟩
   refine mb B F1 H1 σ' δ' o _ (s'.ext x1) q2 ?_
   cases o with
   | none=>cases q';exact fun F2 H2 a b c=>k F2 H2 a b (y1.trans c)
   | some o=>
    cases o with
    | nx δ2=>exact fun σ2 F2 H2 s2 y2=>⟨F2,δ2,s2,y1.trans y2,q'⟩
    | ct δ2=>exact fun σ2 F2 H2 s2 y2=>⟨F2,δ2,s2,y1.trans y2,q'⟩
    | bk δ2=>cases q';exact fun σ2 F2 H2 s2 y2=>k σ2 F2 H2 s2 (y1.trans y2)
    | rt r' δ2=>cases q';exact fun v σ2 F2 H2 s2 y2 z=>k v σ2 F2 H2 s2 (y1.trans y2) z
end
def spX(K:ak)(C:ai)(ks:List Kd)(g:GX):Sp:=fun vs H Q E=>∃ F ds r,Same F H/\ArgsOk K F H ks vs ds/\g ds=ae r/\EndE K F H (fun H'=>E (.ref C) af H') Q r
def endX:Option Out->Option (Option Ent)
 | some o=>(zc7 o).map ae
 | none=>ae af
def semX(ks:List Kd)(m:Nat)(f:FSX):GX:=fun ds=>(stE ks ds).bind fun es=>(f (es ++ aB m af)).bind endX
section
variable {X:Cx}{EE:Hp->Prop}{e:Expr}{es:List Expr}{fs:FA}{x:Str}{p pos:Pos}{ks:List Kd}{g:GX}{C:ai}
end
section
variable {P:aR}{w:aX}{K:ak}{mg:Str->Option ag}{base:aW}{N:List Str}{qual:Str}{scope:Scope}{f:ai}{cd:ag}{A:a8}{outer:List Env}{s:am}{H:Hp}{E:XK}{C:ai}{EE:Hp->Prop}
theorem sxRaise{x:Str}{np cpos pos:Pos}{e:Expr}{es:List Expr}{fa:FA}(D:ExcD K mg x C)(hg:Gl (zg8 (CXE P w C) P w K mg base N qual scope f cd A outer s H E) x)(hE:∀ H',EE H'->E (.ref C) af H')
  (ha:VA (zg8 (CXE P w C) P w K mg base N qual scope f cd A outer s H E) (e :: es) fa) (h1:zan e=true:=by rfl) (h2:es.all zan=true:=by rfl) (hd:(x == ("__debug__" : Str))=false:=by decide) :
  VSX (zg8 (CXE P w C) P w K mg base N qual scope f cd A outer s H E) EE (.Raise (ae (.Call (.Name x np) (e :: es) [] cpos)) af pos) (fRz fa):=by
 obtain⟨t,wt,m⟩:=ha.h
 refine⟨_,⟨ps_raise D hg wt.h (zao h1) (zcy h2) hd⟩,fun B F H σ δ r DD s q k=>?_⟩
 obtain⟨rs,q1,q⟩:=bind_some q
 split at q
 ·rename_i hl
  cases q
  refine m B F H σ δ rs _ s q1 fun vs F1 H1 x1 r1=>⟨?_,hE _ (k F1 H1 x1.fh (s.bh.trans x1.hh) (.of x1 s.bh))⟩
  rw[r1.length];exact hl
 ·cases q
theorem passL:PassesOwn (model P w) (zg8 (CXE P w C) P w K mg base N qual scope f cd A outer s H E).A (zg8 (CXE P w C) P w K mg base N qual scope f cd A outer s H E).env (zg8 (CXE P w C) P w K mg base N qual scope f cd A outer s H E).xe:=kI
end
section
variable {P:aR}{w:aX}{K:ak}{mg:Str->Option ag}{base:aW}{x qual:Str}{st:Stmt}{f:ai}{fd:bq}{N ps:List Str}{k:Nat}{ks:List Kd}{g:GX}{C:ai}
theorem start_rs{F H:Hp}{vs:List V}{ds:List D}{es:En}{n:Nat}(fh:Same F H)(a:ArgsOk K F H ks vs ds)(q1:stE ks ds=ae es)(hn:n=N.length - vs.length):RS K ⟨H,af⟩ F H (L2.start N vs) (es ++ aB n af):=by
 obtain⟨hl,he⟩:=a.start q1
 have hap:∀ (i:Nat) (e:Ent),(es ++ aB n af)[i]? = ae (ae e)->es[i]? = ae (ae e):=fun i e h=>by
  by_cases hi:i<es.length
  ·rwa [bo hi] at h
  ·rw[cR (by lia),c9] at h
   split at h <;> cases h
 refine⟨fh,Same.refl H,?_,fun i e h=>?_,fun a b l ds e hab h1=>?_,fun a b e1 e2 v1 v2 ad hab q1 _ _ _ q5 _ _=>?_,fun w o hw _=>by cases hw⟩
 ·unfold L2.start
  simp only[a9,ax,cE]
  lia
 ·obtain⟨⟨v,h1,h2⟩,_⟩:=he i e (hap i e h)
  refine⟨v,?_,h2⟩
  unfold L2.start
  rw[bo (by rw[ax];exact(aO.mp h1).1),aG,h1]
  rfl
 ·have:=(he a _ (hap a _ h1)).2.1
  cases this
 ·obtain⟨_,_,ho⟩:=he a _ (hap a _ q1)
  rw[ho] at q5
  cases q5
theorem fn_okX(F:FunA K x qual st f fd)(S:FnScope N ps (zad st))(fb:FSX)(hk:ks.length=ps.length)(hg:∀ ds r,g ds=ae r->semX ks (N.length - ps.length) fb ds=ae r)
  (hbody:∀ (cdv:ag) (A:a8) (outer:List Env) (s:am) (H:Hp) (E:XK),Room k (A.deeper (envOfC qual (zad st) s.heap.objs.size f cdv))->VSsX (zg8 (CXE P w C) P w K mg base N qual (zad st) f cdv A outer s H E) (fun H'=>E (.ref C) af H') (zah st) fb) :
  FnOk P w K mg base (CXE P w C) (k+1) f fd ps (spX K C ks g):=by
 obtain⟨oc,od,dV,kV,doc,pm,an,cdv,ct,osl,rfl,lk,hcd⟩:=F.ex
 refine fn_of lk hcd S (fun vs H Q E h=>?_) fun A outer s H vs Q E hr h=>?_
 ·obtain⟨F,ds,r,_,a,_⟩:=h
  rw[a.length,hk]
 ·obtain⟨F,ds,r,fh,a,q,kk⟩:=h
  obtain⟨t,wt,m⟩:=(hbody cdv A outer s H E hr).h
  refine⟨t,wt.h,?_⟩
  obtain⟨es,q1,q2⟩:=bind_some (hg ds r q)
  obtain⟨out,q3,q4⟩:=bind_some q2
  refine m ⟨H,af⟩ F H (L2.start N vs) _ out _ (start_rs fh a q1 (by rw[a.length,hk])) q3 ?_
  cases out with
  | none=>cases q4;exact fun F' H' a b y=>kk F' H' ⟨y.ff,a,b,y.nw⟩
  | some out=>
   obtain⟨r',q5,q6⟩:=map_some q4
   subst q6
   cases out with
   | nx δ'=>cases q5;exact fun σ' F' H' s' y=>kk .non F' H' ⟨y.ff,s'.fh,s'.bh,y.nw⟩ .non
   | rt r' δ'=>cases q5;exact fun v σ' F' H' s' y z=>kk v F' H' ⟨y.ff,s'.fh,s'.bh,y.nw⟩ z
   | bk δ'=>cases q5
   | ct δ'=>cases q5
end
end L3

namespace L2
open PySem PySem.Spec PyProof.Rows PySem.W
section
variable {P:aR}{w:aX}{C:ai}{l:List Env}{H H':Hp}{s s':am}{a:ai}{B:aW}
theorem Fly.moves(F:Fly P w C l H s a H' B s')(hf:∀ b ∈ frs l,H b=af/\∃ o,s.heap.get? b=ae o){h':aW}{a0:ag}(fl:fB B l a (.ref C) a0 h')(up:s'.heap.UpToSlots h'):Fly P w C l H s a H' B { s' with heap:=h'}:=by
 have nx:∀ b:ai,b ∉ ([]:List ai):=fun b h=>by cases h
 obtain⟨_,fl0⟩:=F.fl
 have sf:∀ b ∈ frs l,H' b=af:=fun b hb=>let⟨h1,o,h2⟩:=hf b hb;F.un.free b o h2 h1 (nx b)
 have stay:∀ b o,s'.heap.get? b=ae o->b ∉ frs l->(H' b ≠ af \/ ∃ o',s.heap.get? b=ae o')->h'.get? b=ae o:=fun b o q n hb=>fl.1 b o (F.inB b o q n hb)
 have slot:∀ b o,s'.heap.get? b=ae o->b ∈ frs l->∃ sl,h'.get? b=ae { o with slots:=sl}:=fun b o h m=>by
  obtain⟨_,o',ho,hd⟩:=fl0.2.2.1.mem m
  rw[h] at ho
  cases ho
  exact up b o h hd
 refine⟨F.os,F.bare,⟨fun b o h n hb _=>stay b o (F.un.keep b o h n hb (nx b)) hb (.inr ⟨_,h⟩),fun b o h n hb _=>?_,F.un.free,fun b o h _=>?_,F.un.tups,F.un.frzs,F.un.tbls⟩,F.hok.frames fun b o hb q=>stay b o q (fun m=>hb (sf b m)) (.inl hb),⟨_,fl⟩,fun b o q n hb=>?_⟩
 ·obtain⟨sl,q⟩:=F.un.slot b o h n hb (nx b)
  obtain⟨sl2,q2⟩:=slot b _ q hb
  exact⟨sl2,q2⟩
 ·obtain⟨o1,q1⟩:=F.un.there b o h (nx b)
  by_cases m:b ∈ frs l
  ·obtain⟨sl,q⟩:=slot b o1 q1 m;exact⟨_,q⟩
  ·exact⟨o1,stay b o1 q1 m (.inr ⟨_,h⟩)⟩
 ·have:∃ o1,s'.heap.get? b=ae o1:=by
   rcases hb with hb | ⟨o',hb⟩
   ·cases z:H' b with
    | none=>exact absurd z hb
    | some u=>exact F.hok.lies z
   ·exact F.un.there b o' hb (nx b)
  obtain⟨o1,q1⟩:=this
  have q2:=F.inB b o1 q1 n hb
  have q3:=fl.1 b o1 q2
  have q':h'.get? b=ae o:=q
  rw[q'] at q3
  cases q3
  exact q2
end
abbrev Cx.inX(X:Cx)(a:ai)(o:Obj):Cx:={ X with A:=X.A.mark (ae (.ref a)),calm:=false,pn:=(a,o) :: X.pn}
section
variable {X:Cx}{pins:List (ai × Obj)}{σ:St}{H:Hp}{s:am}{a:ai}{o:Obj}
theorem Cx.Ok.inX(ok:X.Ok):(X.inX a o).Ok:=
 ⟨ok.mod,ok.kind,ok.glob,ok.blt,ok.above,ok.inj,ok.has,ok.cab,(fun h=>absurd h aU),ok.frames,ok.stk,ok.exf,ok.bs,ok.bsz,ok.noex,ok.exfs,ok.funs,ok.frf⟩
theorem Inv.inX(I:Inv X pins σ H s)(h:s.heap.get? a=ae o)(hn:H a=af)(hl:a ≠ X.env.locals)(hfs:a ∉ X.fs)(hd:∀ v,o.data ≠ .cell v):Inv (X.inX a o) pins σ H s:=
 ⟨I.ok.inX,I.os,I.bare,I.base,I.loc,I.cell,I.free,I.freeC,fun p hp=>by
  rcases aF.mp hp with e | e
  ·subst e;exact⟨h,hn,hl,hfs,hd⟩
  ·exact I.pin p e,I.hok,I.len⟩
theorem Inv.outX(I:Inv (X.inX a o) pins σ H s)(ok:X.Ok):Inv X pins σ H s:=
 ⟨ok,I.os,I.bare,I.base,I.loc,I.cell,I.free,I.freeC,fun p hp=>I.pin p (av _ hp),I.hok,I.len⟩
end
section
variable {Y:Cx}{k i:Nat}{f C FE:ai}{fd:bq}{ps:List Str}{sp:Sp}{x y n:Str}{p np cp ep hp pos:Pos}{e:Expr}{es:List Expr}{b₀:Stmt}{suite:List Stmt}{ta:TA}{ts:ai->TS}
end
end L2

namespace L2
open PySem PySem.Spec PyProof.Rows PySem.W PySem.Calls PySem.Builtin PySem.Builtin.ObjectAttr PySem.Builtin.Getset_descriptor
section
variable {prog:aR}{w:aX}{A:a8}{E:ag->am->Prop}{s:am}{K:ak}{x C:ai}
structure ExcA(K:ak)(C:ai):Prop where
 cl:(clsIn K C).isSome=true
 ga:findIn K (.ref C) "__getattribute__" = ae (ae (.builtin "BaseException.__getattribute__"))
 gt:findIn K (.ref C) "__getattr__" = ae af
 at_:findIn K (.ref C) "__class__" = ae (ae (.builtin "object.__class__"))
 gs:specialIn K (.builtin "object.__class__") "__get__" = ae (ae (.builtin "getset_descriptor.__get__"))
 tk:takesIn K (.builtin "object.__class__")=ae true
 mo:mroIn K C (.type "object")=ae true
 mb:mroIn K C (.type "BaseException")=ae true
end
end L2

namespace L2
open PySem PySem.Spec PyProof.Rows PySem.W
section
variable {Y:Cx}{C a:ai}{o:Obj}
end
end L2
namespace L3
open PySem PySem.Spec PyProof.Rows L2
section
variable {Y:Cx}{k j:Nat}{f C FE A1 A2 A3:ai}{fd:bq}{ps:List Str}{ks:List Kd}{g:GX}{st:Stmt}{x y n z c1 c2 c3:Str}{p np cp ep hp pos zp p1 q1 r1 s1 p2 q2 r2 s2 lp ap p3 apos p4 q4 r4 r5 tp s4 cpos xp:Pos}{e:Expr}{es:List Expr}{fa:FA}{iz ie tn:Nat}{b1 b2 b3:Bool}
end
end L3

namespace L3
open PySem PySem.Spec PyProof.Rows L2
def fFrzX(i:Nat)(g:FSX):FSX:=fun δ=>match δ[i]? with
 | some (ae (.own ds))=>g (δ.set i (ae (.val (.lst ds))))
 | _=>af
theorem sFrzX{X:Cx}{EE:Hp->Prop}{sr:List Stmt}{g:FSX}(i:Nat)(h:VSsX X EE sr g):VSsX X EE sr (fFrzX i g):=by
 obtain⟨u,w2,m2⟩:=h.h
 refine⟨_,w2,fun B F H σ δ r DD s q k=>?_⟩
 unfold fFrzX at q
 split at q
 ·rename_i ds hi
  obtain⟨F',x,s'⟩:=s.frz hi
  exact m2 B F' H σ _ r DD s' q (k.mono x)
 ·cases q
section
variable {Y:Cx}{k j:Nat}{f C FE A1 A2 A3:ai}{fd:bq}{ps:List Str}{ks:List Kd}{g:GX}{st:Stmt}{x y n z c1 c2 c3:Str}{p np cp ep hp pos zp p1 q1 r1 s1 p2 q2 r2 s2 lp ap p3 apos p4 q4 r4 s4 p5 q5 r5 s5 cpos xp:Pos}{e:Expr}{es:List Expr}{fa:FA}{iz ie tn:Nat}{b1 b2 bv b3:Bool}
end
end L3

namespace L2
open PySem PySem.Spec PyProof.Rows PySem.W
def tTryA(sp:Sp)(t:TA)(i:Nat)(ts:TS):TS:=fun D σ H=>t σ H fun vs H1=>sp vs H1 (fun v H2=>D.nx (σ.set i (ae v)) H2) fun _ _ H2=>ts { nx:=D.nx,rt:=fun _ _=>False} σ H2
section
variable {Y:Cx}{k i:Nat}{f C FE:ai}{fd:bq}{ps:List Str}{sp:Sp}{x y z:Str}{p np cp ap zp hp pos:Pos}{e:Expr}{es:List Expr}{b₀:Stmt}{suite:List Stmt}{ta:TA}{ts:TS}
theorem ps_tryA(hst:Y.stack=Y.env :: Y.outer)(hfr:Y.env.frame=ae Y.env.locals)(F:FnOk Y.prog Y.w Y.K Y.mg Y.base (CXE Y.prog Y.w C) k f fd ps sp)(hr:Room k Y.A)(hg:Gl Y x)(hm:Y.mg x=ae (.ref f))(hk:aI Y.K (.ref f)=true)(hb:Binds Y.K fd ps [])
  (ha:PA Y.nox (e :: es) ta) (hy:Gl Y y) (hym:Y.mg y=ae (.ref FE)) (hmat:exmOne Y.K (.ref C) (.ref FE)=ae true) (hN:Y.N.Nodup) (hi:Y.N[i]? = ae z) (hz:Y.env.scope.names.lookup z=ae .local)
  (hs:∀ a o,o.cls=.ref C->notCls o=true->PSs (Y.inX a o).nox (b₀ :: suite) ts) (hdb:(x == ("__debug__" : Str))=false:=by decide) (hdy:(y == ("__debug__" : Str))=false:=by decide)
  (he:aY (e :: es) Y.env=(false,eval e Y.env) :: aY es Y.env:=by rfl) (hpl:(backTo cp (aY es Y.env)).any (·.1)=false:=by rfl) (hsw:swapsWith (.Call (.Name x p) (e :: es) [] cp) (ae (.Name z zp)) ap.line Y.env=pure false:=by rfl) :
  PS Y.nox (.Try [.Assign [.Name z zp] (.Call (.Name x p) (e :: es) [] cp) ap] [.ExceptHandler (ae (.Name y np)) af (b₀ :: suite) hp] [] [] pos) (tTryA sp ta i ts):=by
 intro pins s σ H D I h
 refine wpAny_Try_except (wpAny_execs_cons (wpAny_Assign_Name (cH (zfi I hg hm ?_ hdb)) hsw))
 refine d8 (h₀:=Y.base) I.ok.mod.kin hk (bI (ha cp pins s σ H _ I h) (fun us s1 ⟨vs,H1,I1,r,q⟩=>⟨I1.kIn,?_⟩) fun _ _ z=>bx z) he hpl
 have hl:us.length=ps.length:=by rw[<- r.length];exact F.len _ _ _ _ q
 have hb':=hb s1 us I1.kIn (by rw[bF];exact hl)
 rw[bF] at hb'
 refine wpAny_call (codeAny_mono (F.run Y.A Y.stack s1 H1 ⟨us,[]⟩ us vs _ _ hr I1.env0 hb' r q) fun res s' hq=>?_)
 cases res with
 | ok fl=>
  cases fl with
  | ret u=>
   obtain⟨v,H',I',rv,q'⟩:=I1.after hq
   exact zfE (X:=Y.nox) (i:=i) (v:=v) I' hN hi (.inl hz) rv (fun s7 I7=>wpAny_execs_nil (wpAny_execs_nil ⟨_,H',I7,q'⟩)) (.inr hz)
  | next=>exact bx hq
  | brk=>exact bx hq
  | cont=>exact bx hq
 | error er=>
  obtain⟨a,H',B,ea,Fl,qE⟩:=hq
  subst ea
  have hff:∀ b ∈ frs Y.stack,H1 b=af/\∃ o,s1.heap.get? b=ae o:=fun b hb=>⟨I1.stkFree b hb,let⟨_,o,ho,_⟩:=I1.stack.mem hb;⟨o,ho⟩⟩
  have frames:Y.A.frames=ae (Y.env :: Y.outer):=by rw[<- hst];exact I1.ok.frames
  obtain⟨a0,fl⟩:=Fl.fl
  have fl':fB B (Y.env :: Y.outer) a (.ref C) a0 s'.heap:=by rw[<- hst];exact fl
  refine wpAny_looks_onW frames hfr fl' fun h4 held4 up4=>wpAny_landsW held4 fun h5 fl5 up5=>?_
  have F5:=Fl.moves hff (by rw[hst];exact fl5) (up4.trans up5)
  have I5:Inv Y.nox pins σ H' { s' with heap:=h5}:=I1.call' (s':={ s' with heap:=h5}) F5.os F5.un F5.hok F5.bare fun b hb=>by cases hb
  have na:∀ {h6:aW} {l:List Env} {a1:ag},fB B l a (.ref C) a1 h6->∃ o,h6.get? a=ae o/\o.cls=.ref C/\notCls o=true/\∀ v,o.data ≠ .cell v:=fun fl=>by
   obtain⟨oe,vs,h1,h2,h3,_⟩:=fl.first
   exact⟨oe,h1,h2,by unfold notCls;rw[h3],fun v z=>by rw[h3] at z;cases z⟩
  have nf:∀ {h6:aW} {a1:ag},fB B (Y.env :: Y.outer) a (.ref C) a1 h6->a ∉ frs (Y.env :: Y.outer):=fun fl m=>by
   obtain⟨_,o',q1,q2⟩:=fl.2.2.1.mem m
   obtain⟨oe,vs,h1,_,h3,_⟩:=fl.first
   rw[h1] at q1
   cases q1
   exact q2 vs h3
  have nl:a ∉ frs (Y.env :: Y.outer)->a ≠ Y.env.locals/\a ∉ Y.fs:=fun z=>by
   unfold frs at z
   rw[da,hfr] at z
   exact⟨fun q=>z (by rw[q];exact aC),fun q=>z (av _ q)⟩
  have LT:∀ {h6:aW} {o:Obj},h6.get? a=ae o->o.cls=.ref C->Looks (model Y.prog Y.w) h6 (typeOf (.ref a)) (.ref C):=fun h1 h2=>h2 ▸ (Looks.ld h1).andThen .now
  obtain⟨o5,ho5,hc5,hno5,hd5⟩:=na fl5
  have aN:H' a=af:=by
   cases z:H' a with
   | none=>rfl
   | some u=>
    have:=F5.inB a o5 ho5 (by rw[hst];exact nf fl5) (.inl (by rw[z];exact fun z=>nomatch z))
    rw[fl5.2.1] at this
    cases this
  refine wpAny_handleBy_cons (codeAny_handlers_test (zfi (X:=(Y.inX a o5).nox) (I5.inX ho5 aN ?_ ?_ hd5) hy hym ((exm_one (M:=model Y.prog Y.w) I5.kIn (LT ho5 hc5) hmat).here ?_) hdy)) (by intro q;cases q)
  ·exact(nl (nf fl5)).1
  ·exact(nl (nf fl5)).2
  ·refine codeAny_handlers_suite (lands_againW fl5 fun h6 fl6 up6=>?_)
   have F6:=F5.moves hff (by rw[hst];exact fl6) up6
   have I6:Inv Y.nox pins σ H' { s' with heap:=h6}:=I1.call' (s':={ s' with heap:=h6}) F6.os F6.un F6.hok F6.bare fun b hb=>by cases hb
   obtain⟨o6,ho6,hc6,hno6,hd6⟩:=na fl6
   refine bI (hs a o6 hc6 hno6 pins _ σ H' _ (I6.inX ho6 aN ?_ ?_ hd6) qE) (fun fl s8 q8=>?_) fun _ _ z=>bx z
   ·exact(nl (nf fl6)).1
   ·exact(nl (nf fl6)).2
   ·cases fl with
    | next=>
     obtain⟨σ8,H8,I8,q8⟩:=q8
     exact⟨σ8,H8,I8.outX I.ok,q8⟩
    | ret u=>obtain⟨v,σ8,H8,I8,_,q8⟩:=q8;exact bx q8
    | brk=>obtain⟨σ8,H8,I8,q8⟩:=q8;exact bx q8
    | cont=>obtain⟨σ8,H8,I8,q8⟩:=q8;exact bx q8
end
end L2

namespace L3
open PySem PySem.Spec PyProof.Rows PySem.W L2
def fTryN(ks:List Kd)(g:GX)(fa:FA)(i:Nat):FS:=fun δ=>((fa δ).bind (zaJ ks)).bind fun ds=>(g ds).bind fun r=>match r with
 | some e=>(toN e).map fun e'=>.nx (δ.set i (ae e'))
 | none=>ae (.nx (δ.set i (ae (.val .non))))
theorem sTryN{Y:Cx}{k j:Nat}{f C FE:ai}{fd:bq}{ps:List Str}{ks:List Kd}{g:GX}{st:Stmt}{x y z:Str}{p np cp ap zp zp2 cp2 ap2 hp pos:Pos}{e:Expr}{es:List Expr}{fa:FA}{i cj:Nat}(hst:Y.stack=Y.env :: Y.outer)(hfr:Y.env.frame=ae Y.env.locals)(F:FnOk Y.prog Y.w Y.K Y.mg Y.base (CXE Y.prog Y.w C) k f fd ps (spX Y.K C ks g))(D:Def Y.K Y.mg x st ps f fd)(hr:Room j Y.A)(hg:Gl Y x)(ha:VA Y.nox (e :: es) fa)
  (hy:Gl Y y) (hym:Y.mg y=ae (.ref FE)) (hmat:exmOne Y.K (.ref C) (.ref FE)=ae true) (hN:Y.N.Nodup) (hz:Y.N[i]? = ae z) (hzl:Y.env.scope.names.lookup z=ae .local)
  (hjk:k<=j:=by decide) (d1:(x == ("__debug__" : Str))=false:=by decide) (d2:(y == ("__debug__" : Str))=false:=by decide)
  (h1:zan e=true:=by rfl) (h2:es.all zan=true:=by rfl) (hsw:swapsWith (.Call (.Name x p) (e :: es) [] cp) (ae (.Name z zp)) ap.line Y.env=pure false:=by rfl)
  (w1:swapsWith (.Constant .none cj cp2) (ae (.Name z zp2)) ap2.line Y.env=pure false:=by rfl) :
  VS Y.nox (.Try [.Assign [.Name z zp] (.Call (.Name x p) (e :: es) [] cp) ap] [.ExceptHandler (ae (.Name y np)) af [.Assign [.Name z zp2] (.Constant .none cj cp2) ap2] hp] [] [] pos) (fTryN ks g fa i):=by
 obtain⟨ta,wa,ma⟩:=ha.h
 have suite:∀ (a:ai) (o:Obj),PSs (Y.inX a o).nox [.Assign [.Name z zp2] (.Constant .none cj cp2) ap2] (tAsg (tC .non) (zgo i)):=fun a o=>
  (L2.s1 (sset (X:=(Y.inX a o).nox) (pos:=ap2) (pos':=zp2) hN hz (.inl hzl) (wnon (X:=(Y.inX a o).nox) (pos:=cp2) (j:=cj)) w1 (.inr hzl))).h
 refine⟨_,⟨ps_tryA (k:=k) (i:=i) (sp:=spX Y.K C ks g) hst hfr F (hr.mono hjk) hg D.mg D.fn.kp D.b wa.h hy hym hmat hN hz hzl (fun a o _ _=>suite a o) d1 d2 (zao h1) (zcy h2) hsw⟩,fun B F H σ δ out DD s q kk=>?_⟩
 obtain⟨ds,qa,q⟩:=bind_some q
 obtain⟨rs,qb,qc⟩:=bind_some qa
 obtain⟨r,qd,q⟩:=bind_some q
 refine ma B F H σ δ rs _ s qb fun vs F1 H1 x1 r1=>?_
 obtain⟨F2,x2,_,a2⟩:=RepRs.args x1 (Same.refl _) r1 qc
 refine⟨F2,ds,r,x2.fh,a2,qd,?_⟩
 cases r with
 | some r=>
  obtain⟨e',q1,q⟩:=map_some q
  cases q
  exact fun v F' H' x3 rv=>kk _ F' H' (s.putR (x2.trans x3) i (rv.earlier x2.hh) q1) (.of (x2.trans x3) s.bh)
 | none=>
  cases q
  exact fun F' H' x3=>kk _ F' H' (s.putR (x2.trans x3) i (v:=.non) (e:=.val .non) (e':=.val .non) .non rfl) (.of (x2.trans x3) s.bh)
end L3

namespace L2
open PySem PySem.Spec PyProof.Rows
theorem DtP.len{xs:List (List KN × ai × V)}{ys:List (List KN × ai × ag)}(r:DtP xs ys):xs.length=ys.length:=ic r
theorem DtP.keys{xs:List (List KN × ai × V)}{ys:List (List KN × ai × ag)}(r:DtP xs ys):ys.map (·.1)=xs.map (·.1):=by
 unfold DtP at r
 induction r with
 | nil=>rfl
 | cons h _ ih=>rw[aH,aH,ih,h.1]
def atTk(xs:List (List KN × ai × V))(k:List KN):Option V:=(xs.find? fun x=>decide (x.1=k)).map (·.2.2)
theorem DtP.at{xs:List (List KN × ai × V)}{ys:List (List KN × ai × ag)}(r:DtP xs ys)(k:List KN):(∃ v p,atTk xs k=ae v/\atKey ys k=ae p/\RelV v p.2) \/ (atTk xs k=af/\atKey ys k=af):=by
 unfold DtP at r
 induction r with
 | nil=>exact .inr ⟨rfl,rfl⟩
 | @cons p q ps qs h t ih=>
  obtain⟨h1,h2,h3⟩:=h
  unfold atTk atKey at ih ⊢
  by_cases e:p.1=k
  ·refine .inl ⟨p.2.2,q.2,?_,?_,h3⟩
   ·rw[cN (by simpa using e)];rfl
   ·rw[cN (by simpa using (h1 ▸ e:q.1=k))];rfl
  ·rw[cO (by simpa using e),cO (by simpa using (fun z=>e (h1.trans z):¬ q.1=k))]
   exact ih
theorem DtP.put{xs:List (List KN × ai × V)}{ys:List (List KN × ai × ag)}{k:List KN}{b:ai}{v:V}{u:ag}(r:DtP xs ys)(h:atTk xs k=af)(rv:RelV v u):DtP (xs ++ [(k,b,v)]) (storedH ys k b u):=by
 rcases r.at k with ⟨_,_,e,_⟩ | ⟨_,e⟩
 ·rw[h] at e;cases e
 ·rw[storedH_new e]
  exact Paired.snoc r ⟨rfl,rfl,rv⟩
section
variable {X:Cx}{pins:List (ai × Obj)}{σ:St}{H:Hp}{s:am}{a l:ai}{xs:List (List KN × ai × V)}
theorem zin{P:aR}{w:aX}:∀ {ks:List KN} {us:List ag},Vals (ks.map kN) us->ItemsAre (nKind P w) ks us
 | [],_,.nil=>.nil
 | none :: ks,_,.cons h t=>by
  cases (show _=cQ from h)
  exact .cons rfl (zin t)
 | some i :: ks,_,.cons h t=>by
  obtain⟨tk,rfl⟩:=(show ∃ t,_=eP i t from h)
  exact .cons (nIs_int i tk) (zin t)
theorem Inv.nkey{ks:List KN}(I:Inv X pins σ H s)(e:H a=ae (.tup (ks.map kN))):(tupleKind (nKind X.prog X.w)).is s.heap ks a:=by
 obtain⟨_,its,r,t⟩:=(show ObjOk X.prog X.w H s.heap a (.tup (ks.map kN)) from I.hok a _ e)
 obtain⟨o,h1,h2,n,h3⟩:=t.is
 exact⟨o,its.toArray,n,h1,h2,h3,by simpa using zin r⟩
theorem Inv.dt(I:Inv X pins σ H s)(e:H l=ae (dtO l xs))(hk:∀ x ∈ xs,H x.2.1=ae (.tup (x.1.map kN))):(l == sysModules)=false/\xs.length<=ba/\∃ ys,DtP xs ys/\s.heap.DictOfH (tupleKind (nKind X.prog X.w)) l ys:=by
 obtain⟨⟨h1,h2,ys,r,o,es,ep,h3,h4,h5,h6,h7⟩,_⟩:=(show ObjOk X.prog X.w H s.heap l (dtO l xs) from I.hok l _ e)
 refine⟨h1,h2,ys,r,o,es,ep,h3,h4,h5,h6,?_,h7⟩
 have all:∀ {xs:List (List KN × ai × V)} {ys:List (List KN × ai × ag)},DtP xs ys->(∀ x ∈ xs,H x.2.1=ae (.tup (x.1.map kN)))->∀ y ∈ ys,(tupleKind (nKind X.prog X.w)).is s.heap y.1 y.2.1:=by
  intro xs ys r
  unfold DtP at r
  induction r with
  | nil=>intro _ y hy;exact nomatch hy
  | @cons p q ps qs hq t ih=>
   intro hk y hy
   rcases aF.mp hy with e | hy
   ·subst e
    have:=hk p aC
    rw[hq.1,hq.2.1] at this
    exact I.nkey this
   ·exact ih (fun x hx=>hk x (av _ hx)) y hy
 exact all r hk
theorem dt_new{H':Hp}{h':aW}{ys:List (List KN × ai × ag)}(h1:(l == sysModules)=false)(h2:xs.length<=ba)(r:DtP xs ys)(dd:h'.DictOfH (tupleKind (nKind X.prog X.w)) l ys):ObjOk X.prog X.w H' h' l (dtO l xs):=by
 obtain⟨o,es,ep,h3,h4,h5,h6,_,h7⟩:=dd
 refine⟨⟨h1,h2,ys,r,o,es,ep,h3,h4,h5,h6,h7⟩,⟨o,h3⟩,fun z1 z2 q k=>?_⟩
 obtain⟨g1,g2,ys',r',o',es',ep',g3,g4⟩:=q
 exact⟨g1,g2,ys',r',o',es',ep',k _ g3,g4⟩
def KeysIn(H:Hp)(xs:List (List KN × ai × V)):Prop:=∀ x ∈ xs,H x.2.1=ae (.tup (x.1.map kN))
def rNiT:R2:=fun x y H Q=>∃ b k l xs,x=.ref b/\y=.ref l/\H b=ae (.tup (k.map kN))/\H l=ae (dtO l xs)/\KeysIn H xs/\Q (.bl (!(atTk xs k).isSome)) H
def rIxD:R2:=fun x y H Q=>∃ b k l xs v,x=.ref l/\y=.ref b/\H b=ae (.tup (k.map kN))/\H l=ae (dtO l xs)/\KeysIn H xs/\atTk xs k=ae v/\Q v H
theorem room1{k:Nat}{A:a8}(hr:Room k A):A.units+1<cLine:=by have:=hr.un;lia
theorem op_niTk{k:Nat}(hr:Room k X.A):OpR X (bB .NotIn) rNiT:=by
 intro pins s σ H x y v u Q I rx ry h
 obtain⟨b,k,l,xs,rfl,rfl,hb,hl,hk,q⟩:=h
 cases rx;cases ry
 obtain⟨h1,h2,ys,r,dd⟩:=I.dt hl hk
 refine wpAny_notIn_heap (tupleKind_room_in1 (room1 hr)) (I.nkey hb) h1 dd ⟨.bl _,H,I.tok _,?_,q⟩
 rcases r.at k with ⟨v,p,e1,e2,_⟩ | ⟨e1,e2⟩ <;> (rw[e1,e2];rfl)
theorem ix_dt{k:Nat}(hr:Room k X.A):IxR X rIxD:=by
 intro value slice pins s σ H x y v u Q I rx ry h hs
 obtain⟨b,k,l,xs,v',rfl,rfl,hb,hl,hk,hv,q⟩:=h
 cases rx;cases ry
 obtain⟨h1,h2,ys,r,dd⟩:=I.dt hl hk
 rcases r.at k with ⟨v2,p,e1,e2,e3⟩ | ⟨e1,_⟩
 ·rw[hv] at e1
  cases e1
  exact subscriptTail_builtinR (x:=p.2) dd.typeIs slot_dict_getitem.lookup (wpAny_getItem_heap (tupleKind_room_in1 (room1 hr)) (I.nkey hb) dd e2 ⟨rfl,v',H,I.tok _,e3,q⟩) hs
 ·rw[hv] at e1;cases e1
def rSetT:V->V->V->Hp->(Hp->Prop)->Prop:=fun o i v H Q=>∃ p b k xs,o=.ref p/\i=.ref b/\H b=ae (.tup (k.map kN))/\H p=ae (dtO p xs)/\KeysIn H xs/\atTk xs k=af/\xs.length<1000000/\Q (upd H p (dtO p (xs ++ [(k,b,v)])))
theorem set_dt{k:Nat}(hr:Room k X.A):PSet X rSetT:=by
 intro pins s σ H o i v ov iv u Q I ro ri rv h
 obtain⟨p,b,k,xs,rfl,rfl,hb,hp,hk,hn,hz,q⟩:=h
 cases ro;cases ri
 obtain⟨h1,h2,ys,r,dd⟩:=I.dt hp hk
 have hu:ys.length<=ba:=by rw[<- r.len];exact h2
 refine wpAny_setItem_heap (hsz:=hu) (tupleKind_room_in1 (room1 hr)) (I.nkey hb) dd fun h' dd' hs=>⟨_,?_,q⟩
 have he:∃ q,h'.get? p=ae q:=let⟨q,_,_,hq,_⟩:=dd';⟨q,hq⟩
 exact I.write (x:=p) (e:=p) (by rw[hp];exact dc) (.inl rfl) (fun b q hb z=>(hs.2 b hb).trans z) he (dt_new h1 (by rw[a9,cA];simp;lia) (r.put hn rv) dd')
def tDT1(tk tv:TE):TE:=fun σ H Q=>∀ p,H p=af->tk σ (upd H p (dtO p [])) fun x H1=>tv σ H1 fun v H2=>H2 p=ae (dtO p [])/\∃ b k,x=.ref b/\H2 b=ae (.tup (k.map kN))/\Q (.ref p) (upd H2 p (dtO p [(k,b,v)]))
theorem pe_dt1{k:Nat}(hr:Room k X.A){ke v:Expr}{pos:Pos}{tk tv:TE}(hk:PE X ke tk)(hv:PE X v tv):PE X (.Dict [ae ke] [v] pos) (tDT1 tk tv):=by
 intro pins s σ H Q I q
 have hn:=I.hok.fresh (aA s.heap.objs.size)
 have big:(s.heap.objs.size == sysModules)=false:=beq_eq_false_iff_ne.mpr (cr (aV (jS (by decide) ((I.mod.glob.keeps I.bk).lt))))
 have I1:=I.laid (a:=s.heap.objs.size) (o:=dtO s.heap.objs.size []) (h':=s.heap.push { cls:=.type "dict",data:=.dict #[]}) (t':=s.toks) (fun _ _ q=>aq _ q) (aA _)
  (dt_new (ys:=[]) big (cg _) .nil (kQ s.heap))
 rw[arm_eval_Dict,zip_pairTrees [ae ke] [v] X.env pos rfl rfl,dictDisplay_pairs (pairTrees [ae ke] [v] X.env pos) (by simp[pairTrees]) (by simp[pairTrees])]
 refine aj (wpAny_standAt (aj ?_))
 unfold subDict
 refine aj (wpAny_alloc ?_)
 refine aj (cz ?_)
 rw[if_pos (by simp[pairTrees])]
 refine aj (pairTrees_cons_walk (thn (hk pins _ σ _ _ I1 (q _ hn)) fun kv s1 ⟨x,H1,J1,rx,q1⟩=>thn (hv pins s1 σ H1 _ J1 q1) fun vv s2 ⟨y,H2,J2,ry,e,b,kk,ex,hb,q2⟩=>pairTrees_nil_walk ?_))
 subst ex
 cases rx
 obtain⟨g1,g2,ys,r,dd⟩:=J2.dt e (fun x hx=>by cases hx)
 cases r
 refine cz (aj ?_)
 rw[d5]
 refine aj (aj (wpAny_dictSet_heap (hsz:=cg _) (by have:=hr.un;show X.A.units<cLine;lia) (J2.nkey hb) dd fun h' dd' hs=>aw ?_))
 show ay _ _ (forIn ([]:List (ag × ag)) PUnit.unit _) _ _ _
 rw[ey]
 refine aw (aw (aw (aw ⟨.ref s.heap.objs.size,_,?_,rfl,q2⟩)))
 have he:∃ q,h'.get? s.heap.objs.size=ae q:=let⟨q,_,_,hq,_⟩:=dd';⟨q,hq⟩
 exact J2.write (x:=s.heap.objs.size) (e:=s.heap.objs.size) (by rw[e];exact dc) (.inl rfl) (fun b q hb z=>(hs.2 b hb).trans z) he (dt_new (xs:=[(kk,b,y)]) g1 (by rw[cA];simp) (.cons ⟨rfl,rfl,ry⟩ .nil) dd')
end
end L2

namespace L3
open PySem PySem.Spec PyProof.Rows L2
def kOf:D->Option KN
 | .non=>ae af
 | .int i=>ae (ae i)
 | _=>af
def ksOf:List D->Option (List KN)
 | []=>ae []
 | d :: ds=>(kOf d).bind fun k=>(ksOf ds).map fun ks=>k :: ks
def tkOf:Ent->Option (List KN)
 | .val (.tup l)=>ksOf l
 | _=>af
def dtOf:Ent->Option (List (List KN) × List D)
 | .vwt ks ds=>ae (ks,ds)
 | _=>af
def lkT:List (List KN)->List D->List KN->Option D
 | x :: ks,d :: ds,k=>if x=k then ae d else lkT ks ds k
 | _,_,_=>af
theorem kOf_ok{F:Hp}{v:V}{d:D}{k:KN}(r:Rep F v d)(q:kOf d=ae k):v=kN k:=by
 cases d with
 | non=>cases q;exact zgW r
 | int i=>cases q;exact zcg r
 | _=>cases q
theorem ksOf_ok{F:Hp}:∀ {vs:List V} {ds:List D} {ks:List KN},Reps F vs ds->ksOf ds=ae ks->vs=ks.map kN
 | _,_,_,.nil,q=>by cases q;rfl
 | _,_,_,.cons r t,q=>by
  obtain⟨k,q1,q⟩:=bind_some q
  obtain⟨ks,q2,q⟩:=map_some q
  subst q
  rw[kOf_ok r q1,ksOf_ok t q2]
  rfl
theorem zeQ{e:Ent}{k:List KN}(h:tkOf e=ae k):∃ l,e=.val (.tup l)/\ksOf l=ae k:=by
 cases e with
 | val d=>
  cases d with
  | tup l=>exact⟨l,rfl,h⟩
  | _=>cases h
 | _=>cases h
theorem zhQ{e:Ent}{p:List (List KN) × List D}(h:dtOf e=ae p):e=.vwt p.1 p.2:=by
 cases e with
 | vwt ks ds=>cases h;rfl
 | _=>cases h
theorem ziW{F:Hp}{v:V}{l:List D}{k:List KN}(r:Rep F v (.tup l))(q:ksOf l=ae k):∃ b,v=.ref b/\F b=ae (.tup (k.map kN)):=by
 cases r with
 | tup e rs=>rw[ksOf_ok rs q] at e;exact⟨_,rfl,e⟩
theorem zix{F:Hp}(k:List KN):∀ {xs:List (List KN × ai × V)} {ds:List D},Reps F (xs.map (·.2.2)) ds ->
  (∃ d v,lkT (xs.map (·.1)) ds k=ae d/\atTk xs k=ae v/\Rep F v d) \/ (lkT (xs.map (·.1)) ds k=af/\atTk xs k=af)
 | [],_,.nil=>.inr ⟨rfl,rfl⟩
 | x :: xs,_,.cons (d:=d) (ds:=ds) r rs=>by
  rw[aH]
  simp only[lkT]
  unfold atTk
  by_cases e:x.1=k
  ·rw[if_pos e,cN (by simpa using e)]
   exact .inl ⟨d,x.2.2,rfl,rfl,r⟩
  ·rw[if_neg e,cO (by simpa using e)]
   exact zix k rs
def gNiK:Ent->Ent->Option Ent:=fun x y=>(tkOf x).bind fun k=>(dtOf y).map fun p=>.val (.bl (!(lkT p.1 p.2 k).isSome))
def gDxK:Ent->Ent->Option Ent:=fun x y=>(dtOf x).bind fun p=>(tkOf y).bind fun k=>(lkT p.1 p.2 k).map .val
def vwO:Ent->Option Ent
 | .obj (.dcT ks ds)=>ae (.vwt ks ds)
 | .vwt ks ds=>ae (.vwt ks ds)
 | _=>af
def zjh(i:Nat):FE:=fun δ=>((δ[i]?).join).bind vwO
def eDT1(fk fv:FE):FE:=fun δ=>((fk δ).bind tkOf).bind fun k=>((fv δ).bind asV).map fun d=>.obj (.dcT [k] [d])
def oDT:OT->Option (List (List KN) × List D)
 | .dcT ks ds=>ae (ks,ds)
 | _=>af
theorem oDT_some{o:OT}{p:List (List KN) × List D}(h:oDT o=ae p):o=.dcT p.1 p.2:=by
 cases o <;> first | (cases h;rfl) | (cases h)
def tAt(i:Nat):En->Option (List (List KN) × List D):=fun δ=>(oAt i δ).bind oDT
theorem ziz{i:Nat}{δ:En}{p:List (List KN) × List D}(h:tAt i δ=ae p):δ[i]? = ae (ae (.obj (.dcT p.1 p.2))):=by
 obtain⟨o,h1,h2⟩:=bind_some h
 cases oDT_some h2
 exact zbH h1
noncomputable def fTput(i:Nat)(fk fe:FE):FS:=fun δ=>((fe δ).bind asV).bind fun d=>((fk δ).bind tkOf).bind fun k=>(tAt i δ).bind fun p=>gif (lkT p.1 p.2 k=af/\sz (p.1.length+1)) (ae (.nx (δ.set i (ae (.obj (.dcT (p.1 ++ [k]) (p.2 ++ [d])))))))
section
variable {X:Cx}{kr:Nat}{a b e ix o:Expr}{pos p tpos:Pos}{fa fb fe fx:FE}{x:Str}
theorem o_niK(hr:Room kr X.A):OpD X (bB .NotIn) gNiK:=⟨_,op_niTk hr,fun H0 F H x y e e' res Q fh hh rx ry q k=>by
 obtain⟨kk,q1,q⟩:=bind_some q
 obtain⟨pp,q2,q⟩:=map_some q
 cases q
 obtain⟨l,rfl,q3⟩:=zeQ q1
 cases zhQ q2
 obtain⟨bb,rfl,hb⟩:=ziW rx q3
 obtain⟨A,t⟩:=ry
 cases t with
 | @dcT l xs _ _ e1 e2 e3 e4=>
  refine⟨bb,kk,l,xs,rfl,rfl,fh _ _ hb,e1,fun x hx=>fh _ _ (e3 x hx),?_⟩
  rw[e2] at k
  rcases zix kk e4 with ⟨d',v,z1,z2,z3⟩ | ⟨z1,z2⟩
  ·rw[z2];rw[z1] at k;exact k _ F H (Ex.refl fh) (.bl _)
  ·rw[z2];rw[z1] at k;exact k _ F H (Ex.refl fh) (.bl _)⟩
theorem x_dxK(hr:Room kr X.A):IxD X gDxK:=⟨_,ix_dt hr,fun H0 F H x y e e' res Q fh hh rx ry q k=>by
 obtain⟨pp,q1,q⟩:=bind_some q
 obtain⟨kk,q2,q⟩:=bind_some q
 obtain⟨d,q3,q⟩:=map_some q
 cases q
 obtain⟨l,rfl,q4⟩:=zeQ q2
 cases zhQ q1
 obtain⟨bb,rfl,hb⟩:=ziW ry q4
 obtain⟨A,t⟩:=rx
 cases t with
 | @dcT l xs _ _ e1 e2 e3 e4=>
  rw[e2] at q3
  rcases zix kk e4 with ⟨d',v,z1,z2,z3⟩ | ⟨z1,z2⟩
  ·rw[q3] at z1
   cases z1
   exact⟨bb,kk,l,xs,v,rfl,rfl,fh _ _ hb,e1,fun x hx=>fh _ _ (e3 x hx),z2,k _ F H (Ex.refl fh) z3⟩
  ·rw[q3] at z1;cases z1⟩
theorem vvO(i:Nat)(hN:X.N[i]? = ae x:=by rfl)(hv:Vis X.env.scope x:=by first | exact aE rfl | exact bd (aE rfl) | exact bd (bd rfl))(hd:(x == ("__debug__" : Str))=false:=by decide)
  (hcd:(x == ("__classdict__" : Str))=false:=by decide):VE X (.Name x pos) (zjh i):=by
 refine⟨_,wv i hN hv hd hcd,fun B F H σ δ r Q s q k=>?_⟩
 obtain⟨e,q1,q2⟩:=bind_some q
 have q3:δ[i]? = ae (ae e):=by
  cases z:δ[i]? with
  | none=>rw[z] at q1;cases q1
  | some o=>rw[z] at q1;rw[show o=ae e from q1]
 obtain⟨v,h1,h2⟩:=s.ent i _ q3
 refine⟨v,h1,k v F H (Ex.refl s.fh) ?_⟩
 cases e with
 | obj o=>cases o <;> first | (cases q2;obtain⟨A,t,_⟩:=h2;exact⟨A,t⟩) | cases q2
 | vwt ks ds=>cases q2;exact h2
 | _=>cases q2
theorem vDT1(hr:Room kr X.A)(hk:VE X a fa)(hv:VE X b fb):VE X (.Dict [ae a] [b] pos) (eDT1 fa fb):=by
 obtain⟨t1,w1,m1⟩:=hk.h
 obtain⟨t2,w2,m2⟩:=hv.h
 refine⟨_,⟨pe_dt1 hr w1.h w2.h⟩,fun B F H σ δ res Q s q k p hp=>?_⟩
 obtain⟨kk,q1,q⟩:=bind_some q
 obtain⟨r1,q2,q3⟩:=bind_some q1
 obtain⟨d,q4,q⟩:=map_some q
 obtain⟨r2,q5,q6⟩:=bind_some q4
 subst q
 obtain⟨l,rfl,q7⟩:=zeQ q3
 have hx:Ex F H F (upd H p (dtO p [])):=Ex.lay s.fh hp
 refine m1 B F (upd H p (dtO p [])) σ δ _ _ (s.ext hx) q2 fun x F1 H1 x1 z1=>?_
 refine m2 B F1 H1 σ δ _ _ ((s.ext hx).ext x1) q5 fun v F2 H2 x2 z2=>?_
 obtain⟨F3,x3,s3,z3⟩:=RepR.frz x2 (Same.refl _) z2 q6
 obtain⟨b,rfl,hb⟩:=ziW z1 q7
 have x13:=x1.trans x3
 have hp2:H2 p=ae (dtO p []):=x13.hh _ _ zai
 have hf0:F p=af:=s.fh.free hp
 have hf:F3 p=af:=(x13.nw p _ zai rfl).trans hf0
 have hb3:F3 b=ae (.tup (kk.map kN)):=x3.ff _ _ hb
 refine⟨hp2,b,kk,rfl,x3.fh _ _ hb3,?_⟩
 have up:∀ c u,H c=ae u->c ≠ p/\upd H p (dtO p []) c=ae u:=fun c u e=>⟨zaA e hp,by rw[zaj (zaA e hp)];exact e⟩
 have e4:Ex F H F3 (upd H2 p (dtO p [(kk,b,v)])):=by
  refine⟨x13.ff,fun c u e=>?_,fun c u e=>?_,fun c u e t=>?_⟩
  ·rw[zaj fun z=>by subst z;rw[hf] at e;cases e];exact x3.fh c u e
  ·rw[zaj (up c u e).1];exact x13.hh c u (up c u e).2
  ·exact x13.nw c u (up c u e).2 t
 refine k _ F3 _ e4 ⟨⟨p,rfl⟩,[p],.dcT zai rfl (fun x hx=>?_) (.cons z3 .nil),by simp,fun c hc=>?_⟩
 ·rcases aF.mp hx with h | h
  ·subst h;exact hb3
  ·cases h
 ·simp at hc
  subst hc
  exact⟨hf,hp⟩
theorem atT_of{F:Hp}{k:List KN}{xs:List (List KN × ai × V)}{ds:List D}(r:Reps F (xs.map (·.2.2)) ds)(h:lkT (xs.map (·.1)) ds k=af):atTk xs k=af:=by
 rcases zix k r with ⟨_,_,e,_⟩ | ⟨_,e⟩
 ·rw[h] at e;cases e
 ·exact e
theorem sTput(i:Nat)(hr:Room kr X.A)(he:VE X e fe)(hx:VE X ix fx)(hN:X.N[i]? = ae x:=by rfl)(hv:Vis X.env.scope x:=by first | exact aE rfl | exact bd (aE rfl) | exact bd (bd rfl))(hd:(x == ("__debug__" : Str))=false:=by decide)(hcd:(x == ("__classdict__" : Str))=false:=by decide)
  (hg:∀ {to ti:TE},WE X (.Name x p) to->WE X ix ti->WG X (.Subscript (.Name x p) ix tpos) (gSub to ti rSetT))
  (hs:swapsWithSole [.Subscript (.Name x p) ix tpos] e pos.line X.env=pure false:=by rfl) (hw:swappedStores [.Subscript (.Name x p) ix tpos] e X.env=pure af:=by rfl) (h1:(ck [.Subscript (.Name x p) ix tpos] X.env).map (·.2)=[assign (.Subscript (.Name x p) ix tpos) X.env]:=by rfl) :
  VS X (.Assign [.Subscript (.Name x p) ix tpos] e pos) (fTput i fx fe):=by
 obtain⟨t,w,m⟩:=he.h
 obtain⟨t2,w2,m2⟩:=hx.h
 refine⟨_,sasg w (hg (wv i hN hv hd hcd) w2) hs hw h1,fun B F H σ δ out DD s q k=>?_⟩
 obtain⟨d,q1,q⟩:=bind_some q
 obtain⟨r,q2,q3⟩:=bind_some q1
 obtain⟨kk,q4,q⟩:=bind_some q
 obtain⟨rk,q5,q6⟩:=bind_some q4
 obtain⟨p,q7,q⟩:=bind_some q
 obtain⟨⟨hnew,hlen⟩,qz⟩:=zbp q
 cases qz
 obtain⟨l,rfl,q8⟩:=zeQ q6
 refine m B F H σ δ r _ s q2 fun y F1 H1 x1 z=>?_
 obtain⟨F2,x2,sm,r2⟩:=RepR.frz x1 (Same.refl _) z q3
 have s2:=s.ext x2
 obtain⟨v,h1,A,t,n,h⟩:=s.ent i _ (ziz q7)
 refine⟨_,h1,m2 B F2 H1 σ δ _ _ s2 q5 fun yk F3 H3 x3 z3=>?_⟩
 obtain⟨b,rfl,hb⟩:=ziW z3 q8
 have s3:=s2.ext x3
 have x23:=x2.trans x3
 cases t with
 | @dcT a xs _ _ e1 e2 e3 e4=>
  have tt:=(TR.dcT (K:=X.K) e1 e2 e3 e4).ext x23
  have fl:F3 a=af:=(tt.2 a (by simp)).trans (h a (by simp)).1
  have r3:=Rep.mono x3.ff r2
  rw[e2] at hnew
  have hl:xs.length=p.1.length:=by rw[e2,ax]
  refine⟨a,b,kk,xs,rfl,rfl,x3.fh _ _ hb,x23.hh _ _ e1,fun x hx=>x23.fh _ _ (x23.ff _ _ (e3 x hx)),atT_of e4 hnew,by unfold sz at hlen;lia,?_⟩
  obtain⟨z1,z2⟩:=s3.chg (o':=.dcT (p.1 ++ [kk]) (p.2 ++ [d])) (H':=upd H3 a (dtO a (xs ++ [(kk,b,y)]))) (F':=F3) (ziz q7) h1 tt.1 ⟨Same.refl _,fun b u hb=>by
    rw[zaj fun z=>by subst z;rw[fl] at hb;cases hb]
    exact x23.fh _ _ hb,fun b u hb=>by
    obtain⟨z1,z2⟩:=zbL hb
    rw[zaj fun z=>z1 (by simp[z])]
    exact z2,fun _ _ _ _=>rfl⟩
   (.dcT zai (by rw[e2,bG];rfl) (fun x hx=>by
    rcases b6.mp hx with hx | hx
    ·exact x23.ff _ _ (e3 x hx)
    ·rcases aF.mp hx with hx | hx
     ·subst hx;exact hb
     ·cases hx) (by rw[bG];exact(e4.mono x23.ff).append (.one r3))) (by simp) fun b hb=>by
    simp at hb
    subst hb
    exact⟨fl,zdI (by simp)⟩
  exact k σ F3 _ z1 ((FX.of x23 s.bh).trans z2)
end
end L3

namespace L3
open PySem PySem.Spec PyProof.Rows L2
section
variable {X:Cx}
end
end L3

namespace L3
open PySem PySem.Spec PyProof.Rows L2
section
variable {X:Cx}{e:Expr}{es:List Expr}{pos pos' p p0 apos cpos:Pos}{fa fb fx:FXE}{fs:FXA}{fe:FE}{x y:Str}{tg:Expr}{tgf:FG}
end
abbrev FXO:=En->Option (Option Int × En)
def SemXO(K:ak)(t:TO)(f:FXO):Prop:=∀ (B:Bd) (F H:Hp) (σ:Sg) (δ:En) (o:Option Int) (δ':En) (Q:Option Int->Hp->Prop),RS K B F H σ δ->f δ=ae (o,δ')->(∀ F' H',RS K B F' H' σ δ'->FX B F F'->Q o H')->t σ H Q
structure VXO(X:Cx)(e:Option Expr)(f:FXO):Prop where
 h:∃ t,WO X e t/\SemXO X.K t f
section
variable {X:Cx}{e tg iter:Expr}{lo hi:Option Expr}{fx:FXE}{fl fu:FXO}{pos p2:Pos}{tgf:FG}{f:FS}{body:List Stmt}
end
end L3

namespace L3
open PySem PySem.Spec PyProof.Rows L2
def eCM(g:GM)(fe:FE)(fa:FA):FE:=fun δ=>(fe δ).bind fun r=>match r with
 | .obj o=>((fa δ).bind zc8).bind fun ds=>(g o ds).map fun p=>.val p.1
 | _=>af
theorem vCM{X:Cx}{e:Expr}{es:List Expr}{pos p:Pos}{fe:FE}{fa:FA}{y:Str}{ps:List Str}{g:GM}{fd:bq}{f:ai}{st:Stmt}{k j:Nat}{CX:CXT}{E:XK}(F:FnOk X.prog X.w X.K X.mg X.base CX k f fd ps (spM X.K g))(D:Def X.K X.mg y st ps f fd)(hr:Room j X.A)(hg:Gl X y)(hx:zc6 CX X E)
  (he:VE X e fe) (ha:VA X es fa) (hjk:k<=j:=by decide) (hdb:(y == ("__debug__" : Str))=false:=by decide) (h1:zan e=true:=by rfl) (h2:es.all zan=true:=by rfl) :
  VE X (.Call (.Name y p) (e :: es) [] pos) (eCM g fe fa):=by
 obtain⟨t0,w0,m0⟩:=he.h
 obtain⟨t,w,m⟩:=ha.h
 refine⟨_,wcl F D hr hg hx (wac w0 w h1) hjk hdb h1 h2,fun B F H σ δ res Q s q kk=>?_⟩
 obtain⟨r,q0,q⟩:=bind_some q
 cases r with
 | obj o=>
  obtain⟨ds,q1,q⟩:=bind_some q
  obtain⟨rs,q1,q2⟩:=bind_some q1
  obtain⟨p1,q3,q⟩:=map_some q
  cases q
  refine m0 B F H σ δ _ _ s q0 fun v F1 H1 x1 r1=>?_
  obtain⟨_,A,t1,n1,f1⟩:=r1
  refine m B F1 H1 σ δ rs _ (s.ext x1) q1 fun vs F2 H2 x2 r2=>?_
  obtain⟨F3,x3,_,r3⟩:=RepRs.frz x2 (Same.refl _) r2 q2
  have tt:=t1.ext x3
  have x4:=x1.trans x3
  have st:∀ b u,H b=ae u->zg9 H2 A b=ae u:=fun b u hb=>zcD (fun z=>by
   have:=(f1 b z).2
   rw[hb] at this
   cases this) (x4.hh _ _ hb)
  rw[bF]
  refine⟨v,vs,F3,o,A,ds,p1.1,p1.2,rfl,x3.fh,tt.1,n1,fun a ha=>(tt.2 a ha).trans (f1 a ha).1,r3,q3,fun z F' H' A' ch t' n' f' rz=>?_⟩
  exact kk z F' H' ⟨x4.ff.trans ch.ff,ch.fh,fun b u hb=>ch.st _ _ (st b u hb),fun b u hb ht=>(ch.nw b u (st b u hb) ht).trans (x4.nw b u hb ht)⟩ rz
 | _=>cases q
end L3

namespace L3
open PySem PySem.Spec PyProof.Rows L2
section
variable {X:Cx}
theorem mt_idxS:MtR X "str.index" (fun x xs H Q=>∃ (z y:Str) (i:Nat) (rest:List Nat),x=.str z/\xs=[.str y]/\bP z y 0 z.length 1=i :: rest/\Q (.int i) H):=by
 intro pins s σ H x xs v us Q I rx r h
 obtain⟨z,y,i,rest,rfl,rfl,ho,q⟩:=h
 obtain⟨t,rfl⟩:=rx
 cases r with
 | cons r1 r=>
  cases r
  obtain⟨t1,rfl⟩:=r1
  exact call_gives F.slot_str_index (typeIs_str _ _ _) F.entry_str_index (F.args_str_index_2 _ _) (gives_str_index z y t t1 i rest ho) ⟨.int _,H,I.tok _,⟨_,rfl⟩,q⟩
def gIdxS:Ent->List Ent->Option Ent
 | x,[y]=>(sOf x).bind fun z=>(sOf y).bind fun u=>(bP z u 0 z.length 1).head?.map fun(i:Nat)=>.val (.int (i:Int))
 | _,_=>af
theorem m_idxS:MtD X "str" "index" gIdxS:=by
 refine⟨_,_,gW,PySem.F.slot_str_index,PySem.F.type_str_index,mt_idxS,?_,?_⟩
 ·intro H0 F H x e es res fh r q
  unfold gIdxS at q
  split at q
  ·obtain⟨z,q1,q⟩:=bind_some q
   cases zbk q1
   cases zb4 r
   rfl
  ·cases q
 ·intro H0 F H x vs e es res Q fh hh r rs q k
  unfold gIdxS at q
  split at q
  ·obtain⟨z,q1,q⟩:=bind_some q
   obtain⟨u,q2,q⟩:=bind_some q
   obtain⟨i,q3,q⟩:=map_some q
   cases q
   cases zbk q1
   cases zbk q2
   cases zb4 r
   cases rs with
   | cons r1 rs=>
    cases rs
    cases zb4 r1
    obtain⟨rest,ho⟩:∃ rest,bP z u 0 z.length 1=i :: rest:=by
     cases hl:bP z u 0 z.length 1 with
     | nil=>rw[hl] at q3;cases q3
     | cons a l=>rw[hl] at q3;cases q3;exact⟨l,rfl⟩
    exact⟨z,u,i,rest,rfl,rfl,ho,k _ F H (Ex.refl fh) (.int _)⟩
  ·cases q
end
end L3

namespace L3
theorem jqa{α β:Type}(a:α)(f:α->Option β):(ae a).bind f=f a:=rfl
theorem jqb{α β:Type}(f:α->Option β):(af:Option α).bind f=af:=rfl
theorem jqc{α β:Type}(a:α)(f:α->β):(ae a).map f=ae (f a):=rfl
theorem jqd{α β:Type}(f:α->β):(af:Option α).map f=af:=rfl
theorem jqe{α:Type}{a:α}{l:List α}:(a :: l)[0]? = ae a:=rfl
theorem jqf{α:Type}{a:α}{l:List α}{i:Nat}:(a :: l)[i+1]? = l[i]?:=rfl
theorem jqg{α:Type}{a b:α}{l:List α}:(a :: l).set 0 b=b :: l:=rfl
theorem jqh{α:Type}{a b:α}{l:List α}{i:Nat}:(a :: l).set (i+1) b=a :: l.set i b:=rfl
theorem jqi{α:Type}{a:α}{l m:List α}:(a :: l) ++ m=a :: (l ++ m):=rfl
theorem jqj{α:Type}(l:List α):[] ++ l=l:=rfl
theorem jqk{α:Type}(l:List α):l ++ []=l:=bF l
theorem jqn{α β:Type}{f:α->β}{a:α}{l:List α}:(a :: l).map f=f a :: l.map f:=rfl
theorem jqo{α β:Type}{f:α->β}:([]:List α).map f=[]:=rfl
theorem jqp{α:Type}{a:α}{l:List α}:(a :: l).length=l.length+1:=rfl
theorem jqq{α:Type}:([]:List α).length=0:=rfl
theorem jqr:(false=true)=False:=bp
theorem jqs{p:Prop}{_:Decidable p}:(decide p=true)=p:=decide_eq_true_eq
theorem jqt:(!true)=false:=rfl
theorem jqu:(!false)=true:=rfl
theorem jqx{α:Type}(a:Option α):(ae a).join=a:=rfl
theorem jqy{h:Decidable True}:decide True=true:=decide_true h
theorem jqz{h:Decidable False}:decide False=false:=decide_false h
theorem jra{α:Type}{_:Decidable True}(a b:α):(if True then a else b)=a:=if_true a b
theorem jrb{α:Type}{_:Decidable False}(a b:α):(if False then a else b)=b:=if_false a b
theorem jrc(p:Prop):(p \/ True)=True:=or_true p
theorem jre(p:Prop):(p/\True)=p:=and_true p
end L3

namespace CE
open PySem L2 L3
def oD:Option Int->D
 | none=>.non
 | some i=>.int i
theorem oD_s(i:Int):oD (ae i)=.int i:=rfl
theorem oD_n:oD af=.non:=rfl
def stp(c:Option Int)(p:Int):Option Int:=if p=0 then af else c.map (· + p)
def lw(cs:List (Option Int)):Option Int:=minI (cs.filterMap id)
def tc(fit:Nat->Nat->Bool)(c:Nat->Nat->Option Int)(i j:Nat):Option Int:=if 0<i/\0<j then (if (fit i (j - 1) && fit (i - 1) j)=true then c (i - 1) (j - 1) else af) else af
structure Pr where
 put:Int
 left:Int
 exch:Int
 turn:Int
def Pr.d(p:Pr):D:=.tup [.int p.put,.int p.left,.int p.exch,.int p.turn]
variable (fit:Nat->Nat->Bool)(p:Pr)(fr:Bool)
def cel:Nat->Nat->Option Int
 | 0,0=>ae 0
 | 0,j+1=>if fr=true then ae 0 else stp (cel 0 j) p.put
 | i+1,0=>stp (cel i 0) p.left
 | i+1,j+1=>lw [if fit i j=true then cel i j else stp (cel i j) p.exch,stp (cel (i+1) j) p.put,stp (cel i (j+1)) p.left,
   stp (if 0<i/\0<j then (if (fit i (j - 1) && fit (i - 1) j)=true then cel (i - 1) (j - 1) else af) else af) p.turn]
termination_by i j=>(i,j)
theorem cel_00:cel fit p fr 0 0=ae 0:=by rw[cel]
theorem cel_0s(j:Nat):cel fit p fr 0 (j+1)=if fr=true then ae 0 else stp (cel fit p fr 0 j) p.put:=by rw[cel]
theorem cel_s0(i:Nat):cel fit p fr (i+1) 0=stp (cel fit p fr i 0) p.left:=by rw[cel]
theorem cel_ss(i j:Nat):cel fit p fr (i+1) (j+1)=lw [if fit i j=true then cel fit p fr i j else stp (cel fit p fr i j) p.exch,stp (cel fit p fr (i+1) j) p.put,stp (cel fit p fr i (j+1)) p.left,stp (tc fit (cel fit p fr) i j) p.turn]:=by
 rw[cel]
 rfl
end CE
namespace L3
open PySem L2
def zeS(P:List Str)(T:List Nat)(i j:Nat):Bool:=inS (mkS [T.getD j 0]) (P.getD i (mkS []))
end L3
namespace CE
open PySem L2 L3
theorem minI_mem:∀ {ns:List Int} {m:Int},minI ns=ae m->m ∈ ns
 | [],m,h=>by cases h
 | n :: ns,m,h=>by
  have h':ns.foldl (fun a b=>if b<a then b else a) n=m:=bc h
  have key:∀ (ns:List Int) (n:Int),ns.foldl (fun a b=>if b<a then b else a) n=n \/ ns.foldl (fun a b=>if b<a then b else a) n ∈ ns:=by
   intro ns
   induction ns with
   | nil=>intro n;left;rfl
   | cons b ns ih=>
    intro n
    rw[eX]
    rcases ih (if b<n then b else n) with q | q
    ·rw[q]
     split
     ·right;exact aC
     ·left;rfl
    ·right;exact av _ q
  rcases key ns n with q | q
  ·rw[<- h',q];exact aC
  ·rw[<- h'];exact av _ q
theorem minI_le:∀ {ns:List Int} {c:Int},c ∈ ns->∃ m,minI ns=ae m/\m<=c
 | [],c,h=>by cases h
 | n :: ns,c,h=>by
  refine⟨_,rfl,?_⟩
  have key:∀ (ns:List Int) (n:Int),ns.foldl (fun a b=>if b<a then b else a) n<=n/\∀ c ∈ ns,ns.foldl (fun a b=>if b<a then b else a) n<=c:=by
   intro ns
   induction ns with
   | nil=>intro n;exact⟨Int.le_refl _,by simp⟩
   | cons b ns ih=>
    intro n
    rw[eX]
    obtain⟨h1,h2⟩:=ih (if b<n then b else n)
    have h3:(if b<n then b else n)<=n/\(if b<n then b else n)<=b:=by split <;> lia
    refine⟨by lia,fun c hc=>?_⟩
    rcases aF.mp hc with rfl | hc
    ·lia
    ·exact h2 c hc
  rcases aF.mp h with rfl | h
  ·exact(key ns _).1
  ·exact(key ns n).2 c h
theorem zhv{cs:List (Option Int)}{m:Int}(h:lw cs=ae m):ae m ∈ cs:=by
 have:=minI_mem h
 obtain⟨x,h1,h2⟩:=dB.mp this
 have:x=ae m:=h2
 rw[<- this];exact h1
theorem ziq{cs:List (Option Int)}{c:Int}(h:ae c ∈ cs):∃ m,lw cs=ae m/\m<=c:=minI_le (dB.mpr ⟨ae c,h,rfl⟩)
end CE
namespace BT
def bits(f:Nat->Bool):Nat->Nat
 | 0=>if f 0=true then 1 else 0
 | m+1=>bits f m ||| if f (m+1)=true then 2 ^ (m+1) else 0
theorem pw_get(b:Bool)(n i:Nat):(if b=true then 2 ^ n else 0).testBit i=(decide (n=i) && b):=by
 cases b with
 | true=>rw[if_pos rfl,fH,dX]
 | false=>rw[if_neg aU,eO,dq]
theorem ziu(f:Nat->Bool):∀ m i,(bits f m).testBit i=(decide (i<=m) && f i)
 | 0,i=>by
  have:=pw_get (f 0) 0 i
  rw[Nat.pow_zero] at this
  rw[bits,this]
  by_cases h:0=i
  ·subst h;simp
  ·rw[decide_eq_false h,decide_eq_false (show ¬ i<=0 by lia)];rfl
 | m+1,i=>by
  rw[bits,dr,ziu f m i,pw_get]
  by_cases h:m+1=i
  ·subst h
   rw[decide_eq_true rfl,decide_eq_true (aA _),decide_eq_false (show ¬ m+1<=m by lia)];simp
  ·rw[decide_eq_false h,fI,eF]
   by_cases h':i<=m
   ·rw[decide_eq_true h',decide_eq_true (show i<=m+1 by lia)]
   ·rw[decide_eq_false h',decide_eq_false (show ¬ i<=m+1 by lia)]
theorem bits_lt(f:Nat->Bool):∀ m,bits f m<2 ^ (m+1)
 | 0=>by rw[bits];split <;> decide
 | m+1=>by
  rw[bits]
  refine Nat.or_lt_two_pow (bn (bits_lt f m) (ib (by decide) (by lia))) ?_
  split
  ·exact Nat.pow_lt_pow_right (by decide) (by lia)
  ·exact jj _
variable (fit:Nat->Nat->Bool)
def pc:Nat->Nat->Nat
 | 0,_=>0
 | i+1,0=>i+1
 | i+1,j+1=>min (pc i j+if fit i j=true then 0 else 1) (min (pc (i+1) j+1) (pc i (j+1)+1))
termination_by i j=>(i,j)
theorem pc_0(j:Nat):pc fit 0 j=0:=by rw[pc]
theorem pc_s0(i:Nat):pc fit (i+1) 0=i+1:=by rw[pc]
theorem pc_i0:∀ i,pc fit i 0=i
 | 0=>pc_0 fit 0
 | i+1=>pc_s0 fit i
theorem pc_ss(i j:Nat):pc fit (i+1) (j+1)=min (pc fit i j+if fit i j=true then 0 else 1) (min (pc fit (i+1) j+1) (pc fit i (j+1)+1)):=by rw[pc]
theorem pcM:∀ i j,pc fit i j<=i
 | 0,j=>by rw[pc_0];exact aA 0
 | i+1,0=>by rw[pc_s0];exact aA _
 | i+1,j+1=>by
  have:=pcM i (j+1)
  rw[pc_ss]
  lia
def row(m j s:Nat):Nat:=bits (fun i=>decide (pc fit i j<=s)) m
theorem zd4(m j s i:Nat):(row fit m j s).testBit i=(decide (i<=m) && decide (pc fit i j<=s)):=ziu _ m i
theorem row_lt(m j s:Nat):row fit m j s<2 ^ (m+1):=bits_lt _ m
theorem first_row{m s:Nat}(h:s<=m):row fit m 0 s=2 ^ (s+1) - 1:=by
 refine dU fun i=>?_
 rw[zd4,pc_i0,dN,<- Bool.decide_and]
 exact decide_eq_decide.mpr (by lia)
def Fits(m j φ:Nat):Prop:=∀ i,φ.testBit i=(decide (0<i/\i<=m) && fit (i - 1) j)
theorem one_get(i:Nat):ka 1 (i+1)=false:=by
 rw[iU]
 intro h
 exact absurd (Nat.testBit_one_eq_true_iff_self_eq_zero.mp h) (by lia)
theorem row_0{m j φ:Nat}(h:Fits fit m j φ):(1 ||| (row fit m j 0 <<< 1 &&& φ)) &&& (2 ^ (m+1) - 1)=row fit m (j+1) 0:=by
 refine dU fun i=>?_
 rw[zd4,dE,dr,dE,dM,zd4,h i,dN]
 cases i with
 | zero=>rw[pc_0 fit (j+1)];simp
 | succ i=>
  rw[pc_ss,one_get,iH,dC]
  simp only[cV,gO,decide_eq_true_eq,bp,false_or]
  cases fit i j with
  | true=>rw[if_pos rfl];simp <;> lia
  | false=>rw[if_neg aU];simp <;> lia
theorem row_s{m j s φ:Nat}(h:Fits fit m j φ):((((1 ||| (row fit m j (s+1) <<< 1 &&& φ)) ||| row fit m j s) ||| row fit m j s <<< 1) ||| row fit m (j+1) s <<< 1) &&& (2 ^ (m+1) - 1)=row fit m (j+1) (s+1):=by
 refine dU fun i=>?_
 rw[zd4,dE,dr,dr,dr,dr,dE,dM,dM,dM,zd4,zd4,zd4,zd4,h i,dN]
 cases i with
 | zero=>rw[pc_0 fit (j+1),pc_0 fit j];simp
 | succ i=>
  rw[pc_ss,one_get,iH,dC]
  simp only[cV,gO,decide_eq_true_eq,bp,false_or]
  cases fit i j with
  | true=>rw[if_pos rfl];simp <;> lia
  | false=>rw[if_neg aU];simp <;> lia
def fb(has:Nat->Bool):Nat->Nat
 | 0=>0
 | n+1=>fb has n ||| if has n=true then 2 ^ (n+1) else 0
theorem fb_get(has:Nat->Bool):∀ n i,(fb has n).testBit i=(decide (0<i/\i<=n) && has (i - 1))
 | 0,i=>by rw[fb,eO,decide_eq_false (show ¬ (0<i/\i<=0) by lia)];rfl
 | n+1,i=>by
  rw[fb,dr,fb_get has n i,pw_get]
  by_cases h:n+1=i
  ·subst h
   rw[decide_eq_true rfl,decide_eq_false (show ¬ (0<n+1/\n+1<=n) by lia),decide_eq_true (show 0<n+1/\n+1<=n+1 by lia)]
   simp
  ·rw[decide_eq_false h,fI,eF]
   have:(0<i/\i<=n) ↔ (0<i/\i<=n+1):=by lia
   rw[decide_eq_decide.mpr this]
theorem or_twice(a b:Nat)(c:Bool):(a ||| if c=true then b else 0) ||| b=a ||| b:=by
 cases c with
 | true=>rw[if_pos rfl,Nat.or_assoc,Nat.or_self]
 | false=>rw[if_neg aU,gY]
theorem and_pow(r m:Nat):(r &&& 2 ^ m=0) ↔ r.testBit m=false:=by
 constructor
 ·intro h
  have:=congrArg (fun n=>ka n m) h
  simp only[dE,fH,eO,decide_true,dX] at this
  exact this
 ·intro h
  refine dU fun i=>?_
  rw[dE,fH,eO]
  by_cases e:m=i
  ·rw[<- e,h];rfl
  ·rw[decide_eq_false e,dq]
theorem lt64{m r:Nat}(hm:m<=60)(h:r<2 ^ (m+1)):r<18446744073709551616:=bn h (bK (ib (by decide) (show m+1<=64 by lia)) (by decide))
end BT
namespace L3
open PySem L2
theorem fSeqR{f g:FS}{δ δ':En}{e:Ent}(h:f δ=ae (.rt e δ')):zar f g δ=ae (.rt e δ'):=by unfold zar;rw[h];rfl
theorem zjy{fe:FE}{δ:En}{d:D}(h:fe δ=ae (.val d)):zb0 fe δ=ae (.rt (.val d) δ):=by unfold zb0;rw[h];rfl
theorem zaQ{i:Nat}{e:FE}{r:FS}{δ:En}{v:D}(h:e δ=ae (.val v)):zar (za7 i e) r δ=r (δ.set i (ae (.val v))):=by
 simp only[zar,za7,h,bU,sqO,stE,toN,dD]
theorem notI{X:FE}{δ:En}{b:Bool}(h:X δ=ae (.val (.bl b))):zi7 (tOf X) δ=ae (!b):=by simp only[zi7,tOf,h,jqa,bOf,jqc]
theorem fSetI{i:Nat}{e:FE}{δ:En}{v:D}(h:e δ=ae (.val v)):za7 i e δ=ae (.nx (δ.set i (ae (.val v)))):=by unfold za7;rw[h];rfl
theorem addI{E F:FE}{δ:En}{a b:Int}(h1:E δ=ae (.val (.int a)))(h2:F δ=ae (.val (.int b))):ex2 zdv E F δ=ae (.val (.int (a+b))):=by simp only[ex2,h1,h2,zdv,pI0,iOf,jqa,jqc]
theorem forN{it:FI}{tg:FG}{f r:FS}{δ δ':En}{ds:List D}(h:it δ=ae ds)(hl:loop tg f ds δ=ae (.nx δ')):zar (zdr it tg f) r δ=r δ':=zda (by unfold zdr;rw[h];exact hl)
theorem forR{it:FI}{tg:FG}{f r:FS}{δ δ':En}{ds:List D}{e:Ent}(h:it δ=ae ds)(hl:loop tg f ds δ=ae (.rt e δ')):zar (zdr it tg f) r δ=ae (.rt e δ'):=fSeqR (by unfold zdr;rw[h];exact hl)
theorem subI{E F:FE}{δ:En}{a b:Int}(h1:E δ=ae (.val (.int a)))(h2:F δ=ae (.val (.int b))):ex2 zgg E F δ=ae (.val (.int (a - b))):=by simp only[ex2,h1,h2,zgg,pI0,iOf,jqa,jqc]
theorem fAppI{i:Nat}{e:FE}{δ:En}{ds:List D}{v:D}(h0:δ[i]? = ae (ae (.own ds)))(h:e δ=ae (.val v))(hl:ds.length<1000000):zf0 i e δ=ae (.nx (δ.set i (ae (.own (ds ++ [v]))))):=by
 unfold zf0;rw[h0,h];simp (disch:=omega) only[jqa,asV,zaO,zaf]
theorem modI{E F:FE}{δ:En}{a b:Int}(h1:E δ=ae (.val (.int a)))(h2:F δ=ae (.val (.int b)))(hb:0<b):ex2 zdj E F δ=ae (.val (.int (a % b))):=by simp (disch:=omega) only[ex2,h1,h2,zdj,pI,iOf,jqa,zbq,zaf]
theorem divI{E F:FE}{δ:En}{a b:Int}(h1:E δ=ae (.val (.int a)))(h2:F δ=ae (.val (.int b)))(hb:0<b/\b<1000000):ex2 zfo E F δ=ae (.val (.int (a / b))):=by simp (disch:=omega) only[ex2,h1,h2,zfo,pI,iOf,jqa,zdd,zaf]
theorem eqTT{E F:FE}{δ:En}{a b:Int}(h1:E δ=ae (.val (.int a)))(h2:F δ=ae (.val (.int b))):tOf (ex2 gEq E F) δ=ae (decide (a=b)):=by by_cases e:a=b <;> simp only[tOf,ex2,h1,e,h2,gEq,zgu,jqa,jqy,jqc,bOf,jqz]
theorem ltII{E F:FE}{δ:En}{a b:Int}(h1:E δ=ae (.val (.int a)))(h2:F δ=ae (.val (.int b))):tOf (ex2 gLt E F) δ=ae (decide (a<b)):=by by_cases e:a<b <;> simp only[tOf,ex2,h1,h2,gLt,pI0,iOf,jqa,jqc,e,jqy,bOf,jqz]
theorem andEq{E F:FE}{δ:En}{a b:Int}(h1:E δ=ae (.val (.int a)))(h2:F δ=ae (.val (.int b))):zfB (tOf (ex2 gEq E (eC (.int 0)))) (tOf (ex2 gEq F (eC (.int 0)))) δ=ae (decide (a=0/\b=0)):=by
 by_cases e:a=0
 ·by_cases e2:b=0 <;> simp only[zfB,tOf,ex2,h1,e,eC,gEq,zgu,jqa,jqy,jqc,bOf,h2,e2,jra,and_self,jqz,and_false]
 ·simp only[zfB,tOf,ex2,h1,eC,gEq,zgu,jqa,e,jqz,jqc,bOf,jqr,jrb,false_and]
theorem ixLB{E F:FE}{δ:En}{ds:List D}{a:Int}{v:D}(h1:E δ=ae (.bor ds))(h2:F δ=ae (.val (.int a)))(h:atI ds a=ae v):ex2 zds E F δ=ae (.val v):=by simp only[ex2,h1,h2,zds,asL,iOf,jqa,h,jqc]
theorem ixTT{E F:FE}{δ:En}{ds:List D}{a:Int}{v:D}(h1:E δ=ae (.val (.tup ds)))(h2:F δ=ae (.val (.int a)))(h:atI ds a=ae v):ex2 zdx E F δ=ae (.val v):=by simp only[ex2,h1,h2,zdx,zdL,iOf,jqa,h,jqc]
theorem call2{X Y:FE}{δ:En}{a b:D}{g:List D->Option Ent}(hX:X δ=ae (.val a))(hY:Y δ=ae (.val b)):zag [.v,.v] g (zaa X (zaa Y zae)) δ=g [a,b]:=by
 unfold zag zaa zae;rw[hX];simp only[bU];rw[hY];rfl
theorem zjv{i:Nat}{e:FE}{δ:En}{ds:List D}(h:e δ=ae (.own ds)):za7 i e δ=ae (.nx (δ.set i (ae (.own ds)))):=by unfold za7;rw[h];rfl
theorem ixLW{E F:FE}{δ:En}{ds:List D}{a:Int}{v:D}(h1:E δ=ae (.vw ds))(h2:F δ=ae (.val (.int a)))(h:atI ds a=ae v):ex2 zds E F δ=ae (.val v):=by simp only[ex2,h1,h2,zds,asL,iOf,jqa,h,jqc]
end L3

namespace N35
open PySem L2 L3 PyProof.Rows
noncomputable section
def zdi:FE:=
  (ex2 zdx (zab 0) (zab 1))
def zec:FS:=
  (zb0 (eCB zc4 (zaa (eLC [1] (iB 0) zb3 zdi) zae)))
def zcS:List D->Option Ent:=zcz [.b,.v] 0 zec
def zav:FS:=
  (zar (fIf (fOr (tOf (ex2 gLt (zab 3) (eC (.int 2)))) (tOf (ex2 gLt (eCB zg3 (zaa (zab 2) zae)) (eC (.int 2))))) (zb0 (eC .non)) fNx)
   (zar (fIf (fOr (tOf (ex2 gNiS (ex2 gIxS (zab 2) (ex1 zeK (eC (.int 2)))) (ex2 zdx (zab 1) (ex2 zgg (zab 3) (eC (.int 1)))))) (tOf (ex2 gNiS (ex2 gIxS (zab 2) (ex1 zeK (eC (.int 1)))) (ex2 zdx (zab 1) (ex2 zgg (zab 3) (eC (.int 2))))))) (zb0 (eC .non)) fNx)
   (zb0 (ex2 zdx (ex2 zds (zab 0) (ex1 zeK (eC (.int 2)))) (ex2 zgg (zab 3) (eC (.int 2)))))))
def zal:List D->Option Ent:=zcz [.b,.v,.v,.v] 0 zav
def zey:FS:=
  (zar (fIf (fOr (tOf (ex2 gIsN (zab 0) (eC .non))) (tOf (ex2 gEq (zab 1) (eC (.int 0))))) (zb0 (eC .non)) fNx)
   (zb0 (ex2 zdv (zab 0) (zab 1))))
def zbs:List D->Option Ent:=zcz [.v,.v] 0 zey
def zeJ:FE:=
  (zab 0)
def zeL:FT:=
  (tOf (ex2 ziD (zab 0) (eC .non)))
def zgJ:FS:=
  (zb0 (ex2 gMinD (eLC [] (qV (zab 0)) zeL zeJ) (eC .non)))
def zeB:List D->Option Ent:=zcz [.v] 0 zgJ
def zce:FS:=
  (zar (za7 4 (ex2 zdx (ex2 zdx (zab 0) (ex2 zds (zab 2) (ex1 zeK (eC (.int 1))))) (eC (.int 1))))
   (zf0 2 (ex2 zdx (zab 4) (eBM gIdxS (eC (.str "abcdefghijklmnopqrstuvwxyz")) (zaa (zab 3) zae)))))
def zdb:FS:=
  (zar (za7 2 (zdC (zaa (eC (.int 0)) zae)))
   (zar (zdr (iS (zab 1)) (gNm 3) zce)
   (zdV 2)))
def zcs:List D->Option Ent:=zcz [.v,.v] 3 zdb
def zbP:FE:=
  (eIf (zfB (tOf (ex2 ziD (zab 0) (eC .non))) (tOf (ex2 gLe (zab 0) (zab 1)))) (zab 0) (eC .non))
def zeI:FS:=
  (zb0 (eCB zc4 (zaa (eLC [1] (iT (zab 0)) zb3 zbP) zae)))
def zch:List D->Option Ent:=zcz [.v,.v] 0 zeI
def zcG:FS:=
  (fDput 1 (zab 4) (ex2 gBor (eDget 1 (zaa (zab 4) (zaa (eC (.int 0)) zae))) (ex2 gShl (eC (.int 1)) (ex2 zdv (zab 2) (eC (.int 1))))))
def zcE:FS:=
  (zdr (iS (zab 3)) (gNm 4) zcG)
def zcR:FS:=
  (zar (zhW 1 eD0)
   (zar (zdr (iEnuT (zab 0)) (gTp (zcB (gNm 2) (zcB (gNm 3) zgq))) zcE)
   (fFrzD 1 (zdV 1))))
def zcb:List D->Option Ent:=zcz [.v] 4 zcR
def za6:FS:=
  (fIf (tOf (ex2 gNe (ex2 gBnd (zab 3) (ex2 gShl (eC (.int 1)) (zab 1))) (eC (.int 0)))) (zdV 2) fNx)
def zc5:FS:=
  (zar (zdr (iEnuB 0) (gTp (zcB (gNm 2) (zcB (gNm 3) zgq))) za6)
   (zb0 (eC .non)))
def za9:List D->Option Ent:=zcz [.b,.v] 2 zc5
def zen:FS:=
  (zb0 (ex2 zgg (ex2 gShl (eC (.int 1)) (ex2 zdv (zab 0) (eC (.int 1)))) (eC (.int 1))))
def zaH:List D->Option Ent:=zcz [.v] 0 zen
def zcO:FS:=
  (za7 2 (ex2 zdj (ex2 zdv (ex2 zfl (zab 2) (eC (.int 613))) (zab 3)) (eC (.int 2147483629))))
def zdY:FS:=
  (zar (fIf (tOf (ex2 gLt (zab 1) (eCB zbw (zaa (zab 0) zae)))) (zb0 (ex2 zds (zab 0) (zab 1))) fNx)
   (zar (za7 2 (ex2 zdv (eC (.int 104729)) (ex2 zfl (ex2 zfl (eC (.int 7919)) (zab 1)) (zab 1))))
   (zar (zdr (iL (eSl gSlL (zab 0) oNo (oSo (eC (.int 63))))) (gNm 3) zcO)
   (zar (za7 2 (ex2 zdj (ex2 zdv (ex2 zfl (zab 2) (eC (.int 48271))) (ex2 zfl (eC (.int 16807)) (zab 1))) (eC (.int 2147483647))))
   (zb0 (ex2 zdj (ex2 zfl (zab 2) (zab 2)) (eC (.int 2147483629))))))))
def zbl:List D->Option Ent:=zcz [.b,.v] 2 zdY
def zbJ:FS:=
  (zar (zf0 3 (ex2 zdj (zab 4) (zab 1)))
   (za7 4 (ex2 zfo (zab 4) (zab 1))))
def za8:FS:=
  (zar (za7 4 (ex2 zdj (ex2 zdv (ex2 zdv (ex2 zfl (zab 4) (eC (.int 69621))) (ex2 zfl (ex2 zfl (eC (.int 16807)) (zab 5)) (zab 5))) (eC (.int 7))) (eC (.int 2147483629))))
   (zf0 3 (ex2 zdj (ex2 zfo (ex2 zdj (ex2 zfl (zab 4) (zab 4)) (eC (.int 2147483647))) (eC (.int 3))) (zab 1))))
def zc9:FS:=
  (zar (za7 3 (zdC zae))
   (zar (za7 4 (zab 0))
   (zar (zdr (iR1 (zaa (zab 2) zae)) (gNm 5) zbJ)
   (zar (fIf (zfB (tOf (ex2 gGt (zab 2) (eC (.int 0)))) (zfB (tOf (ex2 gEq (zab 4) (eC (.int 0)))) (tOf (ex2 gEq (ex2 zds (zab 3) (ex1 zeK (eC (.int 1)))) (eC (.int 0)))))) (zar (za7 4 (ex2 zdj (ex2 zdv (ex2 zfl (zab 0) (eC (.int 48271))) (ex2 zfl (eC (.int 104729)) (zab 2))) (eC (.int 2147483647))))
   (zar (za7 3 (zdC zae))
   (zdr (iR1 (zaa (zab 2) zae)) (gNm 5) za8))) fNx)
   (zdV 3)))))
def zaz:List D->Option Ent:=zcz [.v,.v,.v] 3 zc9
def zbO:FE:=
  (ex2 gIxS (zab 1) (ex2 zdj (ex2 zdv (ex2 zfo (zab 2) (eC (.int 4))) (zab 0)) (eC (.int 26))))
def zeH:FS:=
  (zar (za7 1 (eC (.str "abcdefghijklmnopqrstuvwxyz")))
   (zar (za7 2 (ex2 zds (zdC (zaa (eC (.int 26)) (zaa (eC (.int 2)) (zaa (eC (.int 3)) (zaa (eC (.int 4)) zae))))) (ex2 zdj (zab 0) (eC (.int 4)))))
   (zb0 (eLC [1,0] (iR1 (zaa (zab 2) zae)) zb3 zbO))))
def zdu:List D->Option Ent:=zcz [.v] 2 zeH
def zbV:FS:=
  (zar (fIf (tOf (ex2 gEq (ex2 zdj (zab 1) (eC (.int 2))) (eC (.int 1)))) (za7 4 (ex2 zjl (zab 4) (zab 5))) fNx)
   (za7 1 (ex2 zfo (zab 1) (eC (.int 2)))))
def zeq:FS:=
  (zar (zdr (iS (zab 2)) (gNm 5) zbV)
   (zdV 4))
def zet:FS:=
  (zar (za7 1 (ex2 zdv (ex2 zdj (zab 1) (eC (.int 67108863))) (eC (.int 1))))
   zeq)
def zeb:FS:=
  (zar (za7 4 (eC (.str "")))
   zet)
def zdp:FS:=
  (zar (fIf (tOf (ex2 gEq (zab 3) (eC (.int 2)))) (zb0 (eBM zib (eC (.str "")) (zaa (ex1 zfW (zdC (zaa (ex2 zds (zab 0) (ex2 zdj (zab 1) (eCB zbw (zaa (zab 0) zae)))) (zaa (ex2 zds (zab 0) (ex2 zdj (ex2 zfo (zab 1) (eC (.int 26))) (eCB zbw (zaa (zab 0) zae)))) zae)))) zae))) fNx)
   zeb)
def zdq:FS:=
  (zar (fIf (tOf (ex2 gLt (zab 3) (eC (.int 2)))) (zb0 (ex2 zds (zab 0) (ex2 zdj (zab 1) (eCB zbw (zaa (zab 0) zae))))) fNx)
   zdp)
def zbY:FS:=
  (zar (fIf (zfB (tOf (ex2 gEq (zab 3) (eC (.int 0)))) (tOf (ex2 gEq (ex2 zdj (zab 1) (eC (.int 5))) (eC (.int 0))))) (zdV 2) fNx)
   zdq)
def zev:FS:=
  (zar (za7 1 (ex2 zfo (zab 1) (eC (.int 4))))
   zbY)
def zej:FS:=
  (zar (za7 3 (ex2 zdj (zab 1) (eC (.int 4))))
   zev)
def zeo:FS:=
  (zar (za7 2 (eC (.str "abcdefghijklmnopqrstuvwxyz")))
   zej)
def zcY:List D->Option Ent:=zcz [.b,.v] 4 zeo
def zcf:FS:=
  (zar (zf0 2 (eSl gSlS (zab 0) oNo (oSo (zab 3))))
   (za7 0 (eSl gSlS (zab 0) (oSo (zab 3)) oNo)))
def zdc:FS:=
  (zar (za7 2 (zdC zae))
   (zar (zdr (iB 1) (gNm 3) zcf)
   (zb0 (ex2 gCat (zab 2) (zdC (zaa (zab 0) zae))))))
def zde:List D->Option Ent:=zcz [.v,.b] 2 zdc
def zc2:FS:=
  (zar (zeC 0 "Sight" [] "most" (zab 1))
   (zar (zeC 0 "Sight" ["most"] "end" (eC (.int 0)))
   (zeC 0 "Sight" ["most","end"] "pairs" (zdC zae))))
def zay:GM:=zfe 1 0 zc2
def zcV:FS:=
  (zar (fIf (zfB (tOf (ex2 ziD (zab 1) (eC .non))) (tOf (ex2 gLe (zab 1) (ze4 0 "Sight" ["most","end","pairs"] 0)))) (fFApp 0 "Sight" ["most","end","pairs"] 2 (zhx (zaa (ze4 0 "Sight" ["most","end","pairs"] 1) (zaa (zab 1) zae)))) fNx)
   (zfr 0 "Sight" ["most","end","pairs"] 1 (ex2 zdv (ze4 0 "Sight" ["most","end","pairs"] 1) (eC (.int 1)))))
def zau:GM:=zfe 1 0 zcV
def zeh:FS:=
  (zar (za7 1 (eCB zc4 (zaa (ze4 0 "Sight" ["most","end","pairs"] 2) zae)))
   (zar (zfr 0 "Sight" ["most","end","pairs"] 2 (zdC zae))
   (zdV 1)))
def zbb:GM:=zfe 0 1 zeh
def zb1:FS:=
  (zf0 2 (zag [.v,.v] zbs (zaa (ex2 zds (zab 2) (ex2 zgg (zab 3) (eC (.int 1)))) (zaa (ex2 zdx (zab 1) (eC (.int 1))) zae))))
def zdN:FS:=
  (zar (za7 2 (zdC (zaa (eC (.int 0)) zae)))
   (zar (zdr (iR2 (zaa (eC (.int 1)) (zaa (ex2 zdv (eCB zbw (zaa (zab 0) zae)) (eC (.int 1))) zae))) (gNm 3) zb1)
   (zb0 (eCB zc4 (zaa (zab 2) zae)))))
def zaP:List D->Option Ent:=zcz [.v,.v] 2 zdN
def za5:FS:=
  (zar (za7 8 (ex2 gInS (ex2 gIxS (zab 2) (ex1 zeK (eC (.int 1)))) (ex2 zdx (zab 1) (ex2 zgg (zab 7) (eC (.int 1))))))
   (zf0 6 (zag [.v] zeB (zaa (zdC (zaa (eIf (tOf (zab 8)) (ex2 zdx (zab 5) (ex2 zgg (zab 7) (eC (.int 1)))) (zag [.v,.v] zbs (zaa (ex2 zdx (zab 5) (ex2 zgg (zab 7) (eC (.int 1)))) (zaa (ex2 zdx (zab 3) (eC (.int 2))) zae)))) (zaa (zag [.v,.v] zbs (zaa (ex2 zdx (zab 5) (zab 7)) (zaa (ex2 zdx (zab 3) (eC (.int 0))) zae))) (zaa (zag [.v,.v] zbs (zaa (ex2 zds (zab 6) (ex2 zgg (zab 7) (eC (.int 1)))) (zaa (ex2 zdx (zab 3) (eC (.int 1))) zae))) (zaa (zag [.v,.v] zbs (zaa (zag [.b,.v,.v,.v] zal (zaa (zab 0) (zaa (zab 1) (zaa (zab 2) (zaa (zab 7) zae))))) (zaa (ex2 zdx (zab 3) (eC (.int 3))) zae))) zae))))) zae))))
def zcc:FS:=
  (zar (za7 5 (ex2 zds (zab 0) (ex1 zeK (eC (.int 1)))))
   (zar (za7 6 (zdC (zaa (eIf (tOf (zab 4)) (eC (.int 0)) (zag [.v,.v] zbs (zaa (ex2 zdx (zab 5) (eC (.int 0))) (zaa (ex2 zdx (zab 3) (eC (.int 0))) zae)))) zae)))
   (zar (zdr (iR2 (zaa (eC (.int 1)) (zaa (ex2 zdv (eCB zbw (zaa (zab 1) zae)) (eC (.int 1))) zae))) (gNm 7) za5)
   (zb0 (eCB zc4 (zaa (zab 6) zae))))))
def zam:List D->Option Ent:=zcz [.b,.v,.v,.v,.v] 4 zcc
def zbS:FE:=
  (ex2 zdx (ex2 zdx (zab 1) (zab 0)) (eC (.int 0)))
def zbR:FE:=
  (zhx (zaa (zab 0) (zaa (zab 1) zae)))
def zbT:FT:=
  (tOf (ex2 ziD (zab 1) (eC .non)))
def zcx:FS:=
  (zar (za7 2 (eLC [0] (iL (zag [.v,.v] zcs (zaa (zab 0) (zaa (zab 1) zae)))) zb3 zbS))
   (fFrz 2 (zb0 (eCB zc4 (zaa (eL2 [] (iEnu (zab 2)) zbT zbR) zae)))))
def zbW:List D->Option Ent:=zcz [.v,.v] 1 zcx
def zek:FE:=
  (zag [.v] zaH (zaa (zab 0) zae))
def zdB:FS:=
  (zb0 (eLC [] (iR1 (zaa (ex2 zdv (eCB zjc (zaa (zab 0) (zaa (zab 1) zae))) (eC (.int 1))) zae)) zb3 zek))
def zdy:List D->Option Ent:=zcz [.v,.v] 0 zdB
def zbt:FS:=
  (zar (za7 6 (ex2 gBor (eC (.int 1)) (ex2 gBnd (ex2 gShl (zab 5) (eC (.int 1))) (zab 1))))
   (zar (fIf (tOf (ex2 gGt (zab 4) (eC (.int 0)))) (zar (za7 7 (ex2 zds (zab 0) (ex2 zgg (zab 4) (eC (.int 1)))))
   (zar (za7 8 (ex2 gShl (ex2 zds (zab 0) (ex2 zgg (zab 4) (eC (.int 1)))) (eC (.int 1))))
   (zar (za7 9 (ex2 gShl (ex2 zds (zab 3) (ex2 zgg (zab 4) (eC (.int 1)))) (eC (.int 1))))
   (za7 6 (ex2 gBor (ex2 gBor (ex2 gBor (zab 6) (zab 7)) (zab 8)) (zab 9)))))) fNx)
   (zf0 3 (ex2 gBnd (zab 6) (zag [.v] zaH (zaa (zab 2) zae))))))
def zcL:FS:=
  (zar (za7 3 (zdC zae))
   (zar (zdr (iEnuB 0) (gTp (zcB (gNm 4) (zcB (gNm 5) zgq))) zbt)
   (zdV 3)))
def zcJ:List D->Option Ent:=zcz [.b,.v,.v] 7 zcL
def zb5:FE:=
  (ex2 zds (zab 1) (zab 0))
def zeG:FS:=
  (zb0 (eBM zib (eC (.str "")) (zaa (eLC [0] (iL (zag [.v,.v,.v] zaz (zaa (zab 1) (zaa (eCB zbw (zaa (zab 0) zae)) (zaa (zab 2) zae))))) zb3 zb5) zae)))
def zdl:List D->Option Ent:=zcz [.b,.v,.v] 0 zeG
def zbr:FE:=
  (zag [.b,.v] zcY (zaa (zab 1) (zaa (zab 0) zae)))
def zdK:FS:=
  (zb0 (eCB zc4 (zaa (eLC [0] (iL (zag [.v,.v,.v] zaz (zaa (zab 1) (zaa (ex2 zfl (eC (.int 4)) (eC (.int 67108863))) (zaa (zab 2) zae))))) zb3 zbr) zae)))
def zca:List D->Option Ent:=zcz [.b,.v,.v] 0 zdK
def zd6:FS:=
  (zf0 4 (zag [.b,.v,.v,.v,.v] zam (zaa (zab 4) (zaa (zab 0) (zaa (eSl gSlS (zab 1) oNo (oSo (zab 5))) (zaa (zab 2) (zaa (zab 3) zae)))))))
def zdZ:FE:=
  (zag [.b,.v] zcS (zaa (zab 1) (zaa (zab 0) zae)))
def ze5:FS:=
  (zar (za7 4 (zdC (zaa (zag [.v,.v] zaP (zaa (zab 0) (zaa (zab 2) zae))) zae)))
   (zar (zdr (iR2 (zaa (eC (.int 1)) (zaa (ex2 zdv (eCB zg3 (zaa (zab 1) zae)) (eC (.int 1))) zae))) (gNm 5) zd6)
   (zb0 (eCB zc4 (zaa (eLC [4] (iR1 (zaa (ex2 zdv (eCB zbw (zaa (zab 0) zae)) (eC (.int 1))) zae)) zb3 zdZ) zae)))))
def zdU:List D->Option Ent:=zcz [.v,.v,.v,.v] 2 ze5
def zbF:FE:=
  (zag [.v,.v] zch (zaa (zag [.b,.v,.v,.v,.v] zam (zaa (zdC (zaa (zab 4) zae)) (zaa (zab 2) (zaa (zab 0) (zaa (zab 3) (zaa (eC (.bl true)) zae)))))) (zaa (zab 1) zae)))
def zc3:FS:=
  (zb0 (eLC [2,1,3,0] (iS (eC (.str "abcdefghijklmnopqrstuvwxyz"))) zb3 zbF))
def zbM:List D->Option Ent:=zcz [.v,.v,.v,.v] 0 zc3
def zdh:FS:=
  (zar (zeC 0 "Bits" [] "fitting" (zag [.v] zcb (zaa (zab 1) zae)))
   (zar (zeC 0 "Bits" ["fitting"] "classes" (eCB zbw (zaa (zab 1) zae)))
   (zar (zeC 0 "Bits" ["fitting","classes"] "rows" (zag [.v,.v] zdy (zaa (ze4 0 "Bits" ["fitting","classes"] 1) (zaa (zab 2) zae))))
   (zar (zeC 0 "Bits" ["fitting","classes","rows"] "sight" (ze8 "Sight" zay (zaa (zab 2) zae)))
   (fX (xMF 0 "Bits" ["fitting","classes","rows","sight"] 3 "Sight" ["most","end","pairs"] zau (zaa (zag [.b,.v] za9 (zaa (ze4 0 "Bits" ["fitting","classes","rows","sight"] 2) (zaa (ze4 0 "Bits" ["fitting","classes","rows","sight"] 1) zae))) zae)))))))
def zbv:GM:=zfe 2 0 zdh
def zeM:FS:=
  (zar (zfr 0 "Bits" ["fitting","classes","rows","sight"] 2 (zag [.b,.v,.v] zcJ (zaa (ze4 0 "Bits" ["fitting","classes","rows","sight"] 2) (zaa (eBM gGet (ze4 0 "Bits" ["fitting","classes","rows","sight"] 0) (zaa (zab 1) (zaa (eC (.int 0)) zae))) (zaa (ze4 0 "Bits" ["fitting","classes","rows","sight"] 1) zae)))))
   (fX (xMF 0 "Bits" ["fitting","classes","rows","sight"] 3 "Sight" ["most","end","pairs"] zau (zaa (zag [.b,.v] za9 (zaa (ze4 0 "Bits" ["fitting","classes","rows","sight"] 2) (zaa (ze4 0 "Bits" ["fitting","classes","rows","sight"] 1) zae))) zae))))
def zdo:GM:=zfe 1 0 zeM
def zcH:FS:=
  (zar (zeC 0 "Finder" [] "pattern" (zab 1))
   (zar (zeC 0 "Finder" ["pattern"] "prices" (zab 3))
   (zar (zeC 0 "Finder" ["pattern","prices"] "columns" (zdC (zaa (zag [.v,.v] zaP (zaa (zab 1) (zaa (zab 3) zae))) zae)))
   (zar (zeC 0 "Finder" ["pattern","prices","columns"] "last_sign" (eC (.str "")))
   (zar (zeC 0 "Finder" ["pattern","prices","columns","last_sign"] "sight" (ze8 "Sight" zay (zaa (zab 2) zae)))
   (fX (xMF 0 "Finder" ["pattern","prices","columns","last_sign","sight"] 4 "Sight" ["most","end","pairs"] zau (zaa (ex2 zdx (ex2 zds (ze4 0 "Finder" ["pattern","prices","columns","last_sign","sight"] 2) (ex1 zeK (eC (.int 1)))) (ex1 zeK (eC (.int 1)))) zae))))))))
def zbu:GM:=zfe 3 0 zcH
def zd1:FS:=
  (zar (za7 2 (zag [.b,.v,.v,.v,.v] zam (zaa (ze4 0 "Finder" ["pattern","prices","columns","last_sign","sight"] 2) (zaa (ze4 0 "Finder" ["pattern","prices","columns","last_sign","sight"] 0) (zaa (ex2 zjl (ze4 0 "Finder" ["pattern","prices","columns","last_sign","sight"] 3) (zab 1)) (zaa (ze4 0 "Finder" ["pattern","prices","columns","last_sign","sight"] 1) (zaa (eC (.bl true)) zae)))))))
   (zar (zfr 0 "Finder" ["pattern","prices","columns","last_sign","sight"] 2 (zdC (zaa (ex2 zds (ze4 0 "Finder" ["pattern","prices","columns","last_sign","sight"] 2) (ex1 zeK (eC (.int 1)))) (zaa (zab 2) zae))))
   (zar (zfr 0 "Finder" ["pattern","prices","columns","last_sign","sight"] 3 (zab 1))
   (fX (xMF 0 "Finder" ["pattern","prices","columns","last_sign","sight"] 4 "Sight" ["most","end","pairs"] zau (zaa (ex2 zdx (zab 2) (ex1 zeK (eC (.int 1)))) zae))))))
def zcr:GM:=zfe 1 1 zd1
def zb7:FS:=
  (fIf (tOf (ex2 gNiK (zab 8) (zjh 4))) (zar (fTput 4 (zab 8) (eCB zbw (zaa (zab 3) zae)))
   (zf0 3 (zab 8))) fNx)
def zcN:FE:=
  (ex2 gDxK (zjh 1) (zab 0))
def zdF:FSX:=
  (zeR (fIfX (tOf (ex2 gGt (eCB zbw (zaa (zab 3) zae)) (eC (.int 300)))) (fRz (zaa (eC (.str "there would be more than 300 rooms")) zae)) (lX fNx))
   (lX (zf0 5 (zhx (zaa (ex2 zdx (zab 6) (ex1 zeK (eC (.int 1)))) (zaa (eCB zc4 (zaa (eLC [4] (iL (zab 7)) zb3 zcN) zae)) zae))))))
def zdH:FSX:=
  (fFrzX 7 (zeR (lX (zdr (iL (zab 7)) (gNm 8) zb7))
   zdF))
def zdG:FSX:=
  (zeR (lX (za7 7 (zag [.v,.v,.v,.v] zbM (zaa (zab 6) (zaa (zab 0) (zaa (zab 1) (zaa (zab 2) zae)))))))
   zdH)
def zb6:FT:=
  (tOf (ex2 gLt (eCB zbw (zaa (zab 5) zae)) (eCB zbw (zaa (zab 3) zae))))
def zbm:FSX:=
  (zeR (lX (za7 6 (ex2 zds (zab 3) (eCB zbw (zaa (zab 5) zae)))))
   zdG)
def zdE:FSX:=
  (zeR (ziU zb6
   zbm 301)
   (lX (zb0 (eCB zc4 (zaa (zab 5) zae)))))
def zdP:FSX:=
  (zeR (lX (za7 5 (zdC zae)))
   zdE)
def zdM:FSX:=
  (zeR (lX (zhW 4 (eDT1 (ex2 zds (zab 3) (eC (.int 0))) (eC (.int 0)))))
   zdP)
def zdJ:FSX:=
  (zeR (lX (za7 3 (zdC (zaa (zag [.v,.v] zch (zaa (zag [.v,.v] zaP (zaa (zab 0) (zaa (zab 2) zae))) (zaa (zab 1) zae))) zae))))
   zdM)
def zd2:FSX:=
  (zeR (fIfX (tOf (ex2 gNe (ex2 zdx (zab 2) (eC (.int 3))) (eC (.int 0)))) (lX fNev) (lX fNx))
   zdJ)
def za4:GX:=semX [.v,.v,.v] 6 zd2
def zc0:FS:=
  (zb0 (ex2 zdx (zag [.v,.v,.v,.v] zdU (zaa (zab 0) (zaa (zab 1) (zaa (zab 2) (zaa (eC (.bl true)) zae))))) (ex1 zeK (eC (.int 1)))))
def zbI:List D->Option Ent:=zcz [.v,.v,.v] 0 zc0
def zcq(rg:List D->Option Ent):FS:=
  (fIf (zi7 (tOf (zag [.v,.v] rg (zaa (zab 2) (zaa (zab 3) zae))))) (zb0 (eC (.bl false))) fNx)
def zbe(rg:List D->Option Ent):FS:=
  (zar (fIf (tOf (ex1 (gIsi "tuple") (zab 1))) (zar (fIf (fOr (zi7 (tOf (ex1 (gIsi "tuple") (zab 0)))) (tOf (ex2 gNe (eCB zbw (zaa (zab 0) zae)) (eCB zbw (zaa (zab 1) zae))))) (zb0 (eC (.bl false))) fNx)
   (zar (zdr (iZip (qV (zab 0)) (qV (zab 1))) (gTp (zcB (gNm 2) (zcB (gNm 3) zgq))) (zcq rg))
   (zb0 (eC (.bl true))))) fNx)
   (zb0 (eAnd (ex1 (gIsi "int") (zab 0)) (eAnd (ex1 gNot (ex1 (gIsi "bool") (zab 0))) (ex2 gEq (zab 0) (zab 1))))))
def zcQ:List D->Option Ent:=zcz [.v,.v] 2 fNev
def zbN:List D->Option Ent:=zcz [.v,.v] 2 (zbe zcQ)
def zb9:List D->Option Ent:=zcz [.v,.v] 2 (zbe zbN)
def zcI:List D->Option Ent:=zcz [.v,.v] 2 (zbe zb9)
abbrev zcn:List D->Option Ent:=zcI
def zcM:FS:=
  (fX (xM 0 "Bits" ["fitting","classes","rows","sight"] zdo (zaa (zab 2) zae)))
def zeF:FS:=
  (zar (zdr (iS (zab 1)) (gNm 2) zcM)
   (zit (xMF 0 "Bits" ["fitting","classes","rows","sight"] 3 "Sight" ["most","end","pairs"] zbb zae)))
def zdn:GM:=zfe 1 1 zeF
def zcd:FS:=
  (fX (xM 0 "Finder" ["pattern","prices","columns","last_sign","sight"] zcr (zaa (zab 2) zae)))
def zd7:FS:=
  (zar (zdr (iS (zab 1)) (gNm 2) zcd)
   (zit (xMF 0 "Finder" ["pattern","prices","columns","last_sign","sight"] 4 "Sight" ["most","end","pairs"] zbb zae)))
def zcp:GM:=zfe 1 1 zd7
def zdA:FS:=
  (fX (xM 4 "Sight" ["most","end","pairs"] zau (zaa (zab 5) zae)))
def zfP:FS:=
  (zar (zhW 4 (ze8 "Sight" zay (zaa (zab 2) zae)))
   (zar (zdr (iT (zag [.v,.v,.v] zbI (zaa (zab 0) (zaa (zab 1) (zaa (zab 3) zae))))) (gNm 5) zdA)
   (zit (xM 4 "Sight" ["most","end","pairs"] zbb zae))))
def zcW:List D->Option Ent:=zcz [.v,.v,.v,.v] 2 zfP
def zcl:FS:=
  (zar (za7 3 (eC .non))
   (zar (fTryN [.v,.v,.v] za4 (zaa (zab 0) (zaa (zab 1) (zaa (zab 2) zae))) 3)
   (zdV 3)))
def zcT:List D->Option Ent:=zcz [.v,.v,.v] 1 zcl
def zd3:FS:=
  (fXSet 2 (x2 gCatT (xP (zab 2)) (xM 0 "Finder" ["pattern","prices","columns","last_sign","sight"] zcp (zaa (zab 3) zae))))
def zfb:FS:=
  (zar (za7 2 (zhx zae))
   (zar (zdr (iL (zab 1)) (gNm 3) zd3)
   (zdV 2)))
def zdT:GM:=zfe 1 2 zfb
def zdt:FS:=
  (fXSet 2 (x2 gCatT (xP (zab 2)) (xM 0 "Bits" ["fitting","classes","rows","sight"] zdn (zaa (zab 3) zae))))
def zef:FS:=
  (zar (za7 2 (zhx zae))
   (zar (zdr (iL (zab 1)) (gNm 3) zdt)
   (zdV 2)))
def zcj:GM:=zfe 1 2 zef
def zex:FS:=
  (zar (fIf (zfB (tOf (ex2 ziD (zab 9) (eC .non))) (zi7 (tOf (zag [.v,.v] zcn (zaa (zag [.v,.v] zbW (zaa (zab 9) (zaa (zab 4) zae))) (zaa (zab 7) zae)))))) (zb0 (eC (.bl false))) fNx)
   (zb0 (ex2 gEqD (zag [.v,.v,.v,.v] zcW (zaa (zab 3) (zaa (zab 4) (zaa (zab 6) (zaa (zab 5) zae))))) (zab 7))))
def zdW:FS:=
  (zar (za7 9 (zag [.v,.v,.v] zcT (zaa (zab 3) (zaa (zab 6) (zaa (zab 5) zae)))))
   zex)
def zez:FS:=
  (zar (fIf (zfB (tOf (ex2 gEqD (zab 5) (zhx (zaa (eC (.int 1)) (zaa (eC (.int 1)) (zaa (eC (.int 1)) (zaa (eC (.int 0)) zae))))))) (zi7 (tOf (zag [.v,.v] zcn (zaa (eCM zcj (ze8 "Bits" zbv (zaa (zab 3) (zaa (zab 6) zae))) (zaa (zab 8) zae)) (zaa (zab 7) zae)))))) (zb0 (eC (.bl false))) fNx)
   zdW)
def zgS:FS:=
  (fFrz 8 (zar (fIf (zi7 (tOf (zag [.v,.v] zcn (zaa (eCM zdT (ze8 "Finder" zbu (zaa (zab 3) (zaa (zab 6) (zaa (zab 5) zae)))) (zaa (zab 8) zae)) (zaa (zab 7) zae))))) (zb0 (eC (.bl false))) fNx)
   zez))
def zfC:FS:=
  (zar (za7 8 (zag [.v,.b] zde (zaa (zab 4) (zaa (zag [.v,.v,.v] zaz (zaa (zag [.b,.v] zbl (zaa (zab 0) (zaa (eC (.int 4)) zae))) (zaa (eC (.int 7)) (zaa (ex2 zdj (ex2 zfo (zab 1) (eC (.int 355264))) (eC (.int 11))) zae)))) zae))))
   zgS)
def ze1:FS:=
  (zar (za7 7 (zag [.v,.v,.v,.v] zcW (zaa (zab 3) (zaa (zab 4) (zaa (zab 6) (zaa (zab 5) zae))))))
   zfC)
def zfA:FS:=
  (zar (za7 6 (ex2 zdj (ex2 zfo (zab 1) (eC (.int 88816))) (eC (.int 3))))
   ze1)
def zeP:FS:=
  (zar (fIf (tOf (ex2 gEq (ex2 zdj (ex2 zfo (zab 1) (eC (.int 44408))) (eC (.int 2))) (eC (.int 1)))) (za7 5 (eCB zc4 (zaa (ex2 gCat (zag [.v,.v,.v] zaz (zaa (zag [.b,.v] zbl (zaa (zab 0) (zaa (eC (.int 3)) zae))) (zaa (eC (.int 10)) (zaa (eC (.int 3)) zae)))) (zdC (zaa (eC (.int 0)) zae))) zae))) fNx)
   zfA)
def zfx:FS:=
  (zar (za7 5 (zhx (zaa (eC (.int 1)) (zaa (eC (.int 1)) (zaa (eC (.int 1)) (zaa (eC (.int 0)) zae))))))
   zeP)
def zfH:FS:=
  (zar (za7 4 (zag [.b,.v,.v] zdl (zaa (zab 2) (zaa (zag [.b,.v] zbl (zaa (zab 0) (zaa (eC (.int 2)) zae))) (zaa (ex2 zdj (ex2 zfo (zab 1) (eC (.int 728))) (eC (.int 61))) zae)))))
   zfx)
def zfI:FS:=
  (zar (za7 3 (zag [.b,.v,.v] zca (zaa (zab 2) (zaa (zag [.b,.v] zbl (zaa (zab 0) (zaa (eC (.int 1)) zae))) (zaa (ex2 zdj (ex2 zfo (zab 1) (eC (.int 104))) (eC (.int 6))) zae)))))
   zfH)
def zfD:FS:=
  (zar (za7 2 (zag [.v] zdu (zaa (zab 1) zae)))
   zfI)
def F_law:FS:=
  (zar (za7 1 (zag [.b,.v] zbl (zaa (zab 0) (zaa (eC (.int 0)) zae))))
   zfD)
def g_law:List D->Option Ent:=zcz [.b] 9 F_law
end
end N35

namespace N35
open PySem L2 L3 PyProof.Rows
def top(i:Nat):Stmt:=PySem.Challenge.pw_nearfind_k35_whole_machines_alike.main.body.getD i (.Pass ⟨0,0,0,0⟩)
def clsB(st:Stmt)(j:Nat):Stmt:=match st with
 | .ClassDef _ _ _ b _ _ _ _ _ _ _=>b.getD j (.Pass ⟨0,0,0,0⟩)
 | _=>.Pass ⟨0,0,0,0⟩
abbrev zbU:Stmt:=top 5
theorem sc_cells_of:FnScope ["P","T","prices","free","columns","signs"] ["P","T","prices","free"] (zad zbU):=⟨rfl,rfl,rfl,by decide +kernel,rfl,by decide +kernel,by decide +kernel⟩
abbrev zbc:Stmt:=top 6
theorem zhf:FnScope ["columns","classes"] ["columns","classes"] (zad zbc):=⟨rfl,rfl,rfl,by decide +kernel,rfl,by decide +kernel,by decide +kernel⟩
abbrev zaT:Stmt:=top 7
theorem sc_first_column:FnScope ["pattern","prices","column","classes"] ["pattern","prices"] (zad zaT):=⟨rfl,rfl,rfl,by decide +kernel,rfl,by decide +kernel,by decide +kernel⟩
abbrev zaE:Stmt:=top 8
theorem sc_further_column:FnScope ["columns","pattern","text","prices","free","before","column","classes","fits"] ["columns","pattern","text","prices","free"] (zad zaE):=⟨rfl,rfl,rfl,by decide +kernel,rfl,by decide +kernel,by decide +kernel⟩
abbrev zap:Stmt:=top 9
theorem zep:FnScope ["columns","pattern","text","classes"] ["columns","pattern","text","classes"] (zad zap):=⟨rfl,rfl,rfl,by decide +kernel,rfl,by decide +kernel,by decide +kernel⟩
abbrev zco:Stmt:=top 10
theorem zjA:FnScope ["cell","price"] ["cell","price"] (zad zco):=⟨rfl,rfl,rfl,by decide +kernel,rfl,by decide +kernel,by decide +kernel⟩
abbrev zcU:Stmt:=top 11
theorem sc_lowest:FnScope ["cells"] ["cells"] (zad zcU):=⟨rfl,rfl,rfl,by decide +kernel,rfl,by decide +kernel,by decide +kernel⟩
abbrev zbB:Stmt:=top 19
theorem sc_rooms_for:FnScope ["P","most","prices","columns","numbers","rooms","column","behind","further"] ["P","most","prices"] (zad zbB):=⟨rfl,rfl,rfl,by decide +kernel,rfl,by decide +kernel,by decide +kernel⟩
abbrev zaL:Stmt:=top 20
theorem sc_ends_by_rooms:FnScope ["rooms","T","told"] ["rooms","T"] (zad zaL):=⟨rfl,rfl,rfl,by decide +kernel,rfl,by decide +kernel,by decide +kernel⟩
abbrev zaY:Stmt:=top 21
theorem sc_numbers_met:FnScope ["rooms","text","numbers","sign","nexts"] ["rooms","text"] (zad zaY):=⟨rfl,rfl,rfl,by decide +kernel,rfl,by decide +kernel,by decide +kernel⟩
abbrev zbx:Stmt:=top 22
theorem zhU:FnScope ["column","most"] ["column","most"] (zad zbx):=⟨rfl,rfl,rfl,by decide +kernel,rfl,by decide +kernel,by decide +kernel⟩
abbrev zaC:Stmt:=top 23
theorem zfj:FnScope ["column","pattern","most","prices"] ["column","pattern","most","prices"] (zad zaC):=⟨rfl,rfl,rfl,by decide +kernel,rfl,by decide +kernel,by decide +kernel⟩
abbrev zcm:Stmt:=top 26
theorem sc_ends_in:FnScope ["P","T","most","prices","sight","price"] ["P","T","most","prices"] (zad zcm):=⟨rfl,rfl,rfl,by decide +kernel,rfl,by decide +kernel,by decide +kernel⟩
abbrev zaD:Stmt:=top 27
theorem ze9:FnScope ["pattern","text","prices"] ["pattern","text","prices"] (zad zaD):=⟨rfl,rfl,rfl,by decide +kernel,rfl,by decide +kernel,by decide +kernel⟩
abbrev zaU:Stmt:=top 30
theorem sc_fitting_bits:FnScope ["pattern","fitting","number","letters","letter"] ["pattern"] (zad zaU):=⟨rfl,rfl,rfl,by decide +kernel,rfl,by decide +kernel,by decide +kernel⟩
abbrev zbg:Stmt:=top 31
theorem zgK:FnScope ["classes","most"] ["classes","most"] (zad zbg):=⟨rfl,rfl,rfl,by decide +kernel,rfl,by decide +kernel,by decide +kernel⟩
abbrev zaS:Stmt:=top 32
theorem sc_further_rows:FnScope ["rows","fitting","classes","further","slips","row","found","put","exchanged","left"] ["rows","fitting","classes"] (zad zaS):=⟨rfl,rfl,rfl,by decide +kernel,rfl,by decide +kernel,by decide +kernel⟩
abbrev zaF:Stmt:=top 33
theorem sc_slips_of_whole:FnScope ["rows","classes","slips","row"] ["rows","classes"] (zad zaF):=⟨rfl,rfl,rfl,by decide +kernel,rfl,by decide +kernel,by decide +kernel⟩
abbrev zbj:Stmt:=top 34
theorem zgQ:FnScope ["number"] ["number"] (zad zbj):=⟨rfl,rfl,rfl,by decide +kernel,rfl,by decide +kernel,by decide +kernel⟩
abbrev zbD:Stmt:=top 38
theorem sc__law_cell:FnScope ["_law_script","_law_at","_law_number","_law_cell_here"] ["_law_script","_law_at"] (zad zbD):=⟨rfl,rfl,rfl,by decide +kernel,rfl,by decide +kernel,by decide +kernel⟩
abbrev za0:Stmt:=top 39
theorem sc__law_digits:FnScope ["_law_cell_here","_law_base","_law_many","_law_found","_law_left","_law_k"] ["_law_cell_here","_law_base","_law_many"] (zad za0):=⟨rfl,rfl,rfl,by decide +kernel,rfl,by decide +kernel,by decide +kernel⟩
abbrev zbC:Stmt:=top 40
theorem sc__law_pool:FnScope ["_law_cell_here","_law_letters","_law_few"] ["_law_cell_here"] (zad zbC):=⟨rfl,rfl,rfl,by decide +kernel,rfl,by decide +kernel,by decide +kernel⟩
abbrev zbz:Stmt:=top 41
theorem zhq:FnScope ["_law_pool_here","_law_cell_here","_law_many"] ["_law_pool_here","_law_cell_here","_law_many"] (zad zbz):=⟨rfl,rfl,rfl,by decide +kernel,rfl,by decide +kernel,by decide +kernel⟩
abbrev zbi:Stmt:=top 42
theorem sc__law_class:FnScope ["_law_pool_here","_law_number","_law_letters","_law_way","_law_found","_law_letter"] ["_law_pool_here","_law_number"] (zad zbi):=⟨rfl,rfl,rfl,by decide +kernel,rfl,by decide +kernel,by decide +kernel⟩
abbrev zaR:Stmt:=top 43
theorem zfR:FnScope ["_law_pool_here","_law_cell_here","_law_many"] ["_law_pool_here","_law_cell_here","_law_many"] (zad zaR):=⟨rfl,rfl,rfl,by decide +kernel,rfl,by decide +kernel,by decide +kernel⟩
abbrev zaI:Stmt:=top 44
theorem sc__law_alike:FnScope ["_law_found","_law_due","_law_one","_law_other"] ["_law_found","_law_due"] (zad zaI):=⟨rfl,rfl,rfl,by decide +kernel,rfl,by decide +kernel,by decide +kernel⟩
abbrev za2:Stmt:=top 45
theorem sc__law_pieces:FnScope ["_law_text_here","_law_digits_here","_law_found","_law_digit"] ["_law_text_here","_law_digits_here"] (zad za2):=⟨rfl,rfl,rfl,by decide +kernel,rfl,by decide +kernel,by decide +kernel⟩
abbrev zba:Stmt:=top 46
theorem sc__law_rooms:FnScope ["_law_pattern_here","_law_most","_law_prices","_law_rooms_here"] ["_law_pattern_here","_law_most","_law_prices"] (zad zba):=⟨rfl,rfl,rfl,by decide +kernel,rfl,by decide +kernel,by decide +kernel⟩
abbrev zbG:Stmt:=top 47
theorem sc__law_fed:FnScope ["_law_machine","_law_pieces_here","_law_found","_law_piece"] ["_law_machine","_law_pieces_here"] (zad zbG):=⟨rfl,rfl,rfl,by decide +kernel,rfl,by decide +kernel,by decide +kernel⟩
abbrev zeE:Stmt:=top 48
theorem sc_law:FnScope ["_law_script","_law_cell_here","_law_pool_here","_law_pattern_here","_law_text_here","_law_prices","_law_most","_law_ends","_law_pieces_here","_law_rooms_here"] ["_law_script"] (zad zeE):=⟨rfl,rfl,rfl,by decide +kernel,rfl,by decide +kernel,by decide +kernel⟩
abbrev zaB:Stmt:=clsB (top 25) 0
theorem ze6:FnScope ["self","most"] ["self","most"] (zad zaB):=⟨rfl,rfl,rfl,by decide +kernel,rfl,by decide +kernel,by decide +kernel⟩
abbrev zbh:Stmt:=clsB (top 25) 1
theorem zha:FnScope ["self","price"] ["self","price"] (zad zbh):=⟨rfl,rfl,rfl,by decide +kernel,rfl,by decide +kernel,by decide +kernel⟩
abbrev zbf:Stmt:=clsB (top 25) 2
theorem sc_Sight_tell:FnScope ["self","told"] ["self"] (zad zbf):=⟨rfl,rfl,rfl,by decide +kernel,rfl,by decide +kernel,by decide +kernel⟩
abbrev zaM:Stmt:=clsB (top 29) 0
theorem zfu:FnScope ["self","P","most"] ["self","P","most"] (zad zaM):=⟨rfl,rfl,rfl,by decide +kernel,rfl,by decide +kernel,by decide +kernel⟩
abbrev zbA:Stmt:=clsB (top 29) 1
theorem sc_Bits_feed:FnScope ["self","T","sign"] ["self","T"] (zad zbA):=⟨rfl,rfl,rfl,by decide +kernel,rfl,by decide +kernel,by decide +kernel⟩
abbrev zby:Stmt:=clsB (top 29) 2
theorem zho:FnScope ["self","sign"] ["self","sign"] (zad zby):=⟨rfl,rfl,rfl,by decide +kernel,rfl,by decide +kernel,by decide +kernel⟩
abbrev zaw:Stmt:=clsB (top 36) 0
theorem zeV:FnScope ["self","P","most","prices"] ["self","P","most","prices"] (zad zaw):=⟨rfl,rfl,rfl,by decide +kernel,rfl,by decide +kernel,by decide +kernel⟩
abbrev zaZ:Stmt:=clsB (top 36) 1
theorem sc_Finder_feed:FnScope ["self","T","sign"] ["self","T"] (zad zaZ):=⟨rfl,rfl,rfl,by decide +kernel,rfl,by decide +kernel,by decide +kernel⟩
abbrev za1:Stmt:=clsB (top 36) 2
theorem sc_Finder_read:FnScope ["self","sign","column"] ["self","sign"] (zad za1):=⟨rfl,rfl,rfl,by decide +kernel,rfl,by decide +kernel,by decide +kernel⟩
theorem zfX:aZ "bool" = ae (.type "bool"):=by kernel_rfl
theorem zcP:aZ "enumerate" = ae (.type "enumerate"):=by kernel_rfl
theorem zgM:aZ "int" = ae (.type "int"):=by kernel_rfl
theorem zaq:aZ "isinstance" = ae (.builtin "isinstance"):=by kernel_rfl
theorem zaN:aZ "len" = ae (.builtin "len"):=by kernel_rfl
theorem ziP:aZ "min" = ae (.builtin "min"):=by kernel_rfl
theorem boot_range:aZ "range" = ae (.type "range"):=by kernel_rfl
theorem boot_set:aZ "set" = ae (.type "set"):=by kernel_rfl
theorem zij:aZ "sorted" = ae (.builtin "sorted"):=by kernel_rfl
theorem zaG:aZ "tuple" = ae (.type "tuple"):=by kernel_rfl
theorem zg1:aZ "zip" = ae (.type "zip"):=by kernel_rfl
structure Txt(K:ak)(mg:Str->Option ag):Prop where
 m_bool:mg "bool" = af
 m_enumerate:mg "enumerate" = af
 m_int:mg "int" = af
 m_isinstance:mg "isinstance" = af
 m_len:mg "len" = af
 m_min:mg "min" = af
 m_range:mg "range" = af
 m_set:mg "set" = af
 m_sorted:mg "sorted" = af
 m_tuple:mg "tuple" = af
 m_zip:mg "zip" = af
 g_PUT:∃ u,mg "PUT" = ae u/\RelV (.int 0) u
 g_LEFT:∃ u,mg "LEFT" = ae u/\RelV (.int 1) u
 g_EXCHANGED:∃ u,mg "EXCHANGED" = ae u/\RelV (.int 2) u
 g_TURNED:∃ u,mg "TURNED" = ae u/\RelV (.int 3) u
 g_LETTERS:∃ u,mg "LETTERS" = ae u/\RelV (.str "abcdefghijklmnopqrstuvwxyz") u
 g_MOST_ROOMS:∃ u,mg "MOST_ROOMS" = ae u/\RelV (.int 300) u
 c_Bits:∃ C,ClsD K mg "Bits" ["fitting","classes","rows","sight"] C
 c_Finder:∃ C,ClsD K mg "Finder" ["pattern","prices","columns","last_sign","sight"] C
 c_Sight:∃ C,ClsD K mg "Sight" ["most","end","pairs"] C
 x_exc:∃ C B A2 A3,ExcD K mg "TooMany" C/\ExcA K C/\mg "TooMany" = ae (.ref B)/\jl K (.ref C) (.ref B)=ae true/\dm K (.ref C) (.ref C)=ae true/\dm K (.ref C) (.type "ValueError")=ae true/\mg "NoPrices" = ae (.ref A2)/\mg "NoPrices" = ae (.ref A3)/\jm K (.ref C) [.ref A2,.ref A3]=ae false
 d_cells_of:∃ f fd,DefD K mg "cells_of" zbU ["P","T","prices","free"] f fd
 d_row_across:∃ f fd,Def K mg "row_across" zbc ["columns","classes"] f fd
 d_first_column:∃ f fd,Def K mg "first_column" zaT ["pattern","prices"] f fd
 d_further_column:∃ f fd,Def K mg "further_column" zaE ["columns","pattern","text","prices","free"] f fd
 d_cell_ahead_of_turn:∃ f fd,Def K mg "cell_ahead_of_turn" zap ["columns","pattern","text","classes"] f fd
 d_stepped:∃ f fd,Def K mg "stepped" zco ["cell","price"] f fd
 d_lowest:∃ f fd,Def K mg "lowest" zcU ["cells"] f fd
 d_rooms_for:∃ f fd,Def K mg "rooms_for" zbB ["P","most","prices"] f fd
 d_ends_by_rooms:∃ f fd,Def K mg "ends_by_rooms" zaL ["rooms","T"] f fd
 d_numbers_met:∃ f fd,Def K mg "numbers_met" zaY ["rooms","text"] f fd
 d_low_cells:∃ f fd,Def K mg "low_cells" zbx ["column","most"] f fd
 d_columns_behind:∃ f fd,Def K mg "columns_behind" zaC ["column","pattern","most","prices"] f fd
 d_ends_in:∃ f fd,Def K mg "ends_in" zcm ["P","T","most","prices"] f fd
 d_prices_at_ends:∃ f fd,Def K mg "prices_at_ends" zaD ["pattern","text","prices"] f fd
 d_fitting_bits:∃ f fd,Def K mg "fitting_bits" zaU ["pattern"] f fd
 d_first_rows:∃ f fd,Def K mg "first_rows" zbg ["classes","most"] f fd
 d_further_rows:∃ f fd,Def K mg "further_rows" zaS ["rows","fitting","classes"] f fd
 d_slips_of_whole:∃ f fd,Def K mg "slips_of_whole" zaF ["rows","classes"] f fd
 d_bits_up_to:∃ f fd,Def K mg "bits_up_to" zbj ["number"] f fd
 d__law_cell:∃ f fd,Def K mg "_law_cell" zbD ["_law_script","_law_at"] f fd
 d__law_digits:∃ f fd,Def K mg "_law_digits" za0 ["_law_cell_here","_law_base","_law_many"] f fd
 d__law_pool:∃ f fd,Def K mg "_law_pool" zbC ["_law_cell_here"] f fd
 d__law_text:∃ f fd,Def K mg "_law_text" zbz ["_law_pool_here","_law_cell_here","_law_many"] f fd
 d__law_class:∃ f fd,Def K mg "_law_class" zbi ["_law_pool_here","_law_number"] f fd
 d__law_pattern:∃ f fd,Def K mg "_law_pattern" zaR ["_law_pool_here","_law_cell_here","_law_many"] f fd
 d__law_alike:∃ f fd,Def K mg "_law_alike" zaI ["_law_found","_law_due"] f fd
 d__law_pieces:∃ f fd,Def K mg "_law_pieces" za2 ["_law_text_here","_law_digits_here"] f fd
 d__law_rooms:∃ f fd,Def K mg "_law_rooms" zba ["_law_pattern_here","_law_most","_law_prices"] f fd
 d__law_fed:∃ f fd,Def K mg "_law_fed" zbG ["_law_machine","_law_pieces_here"] f fd
 d_Sight___init__:∃ f fd,MakeD K "Sight" zaB "Sight.__init__" ["self","most"] f fd
 d_Sight_come:∃ f fd,MethD K "Sight" "come" zbh "Sight.come" ["self","price"] f fd
 d_Sight_tell:∃ f fd,MethD K "Sight" "tell" zbf "Sight.tell" ["self"] f fd
 d_Bits___init__:∃ f fd,MakeD K "Bits" zaM "Bits.__init__" ["self","P","most"] f fd
 d_Bits_feed:∃ f fd,MethD K "Bits" "feed" zbA "Bits.feed" ["self","T"] f fd
 d_Bits_read:∃ f fd,MethD K "Bits" "read" zby "Bits.read" ["self","sign"] f fd
 d_Finder___init__:∃ f fd,MakeD K "Finder" zaw "Finder.__init__" ["self","P","most","prices"] f fd
 d_Finder_feed:∃ f fd,MethD K "Finder" "feed" zaZ "Finder.feed" ["self","T"] f fd
 d_Finder_read:∃ f fd,MethD K "Finder" "read" za1 "Finder.read" ["self","sign"] f fd
section
variable {P:aR}{w:aX}{K:ak}{mg:Str->Option ag}{base:aW}{f:ai}{fd:bq}
theorem zgU(T:Txt K mg)(F:FunA K "row_across" "row_across" zbc f fd):FnOk P w K mg base CX0 1 f fd ["columns","classes"] (spD K [.b,.v] zcS):=by
 refine za3 F zhf zec rfl (fun _ _ h=>h) fun cdv A outer s H E hr=>?_
 have hu:=zbn hr
 exact(ss1 (zdQ (vct zee (by rfl) T.m_tuple zaG (zac (vlc (N:=["column","classes"]) (fr:=[1]) ⟨rfl,rfl,rfl,by decide +kernel,rfl,rfl⟩ (iib 0) (fun _ _ _ _=>by exact if0) (fun _ _ _ _=>by exact(vix zc1 (vv 0) (vv 1) (fun _ _=>rfl)))) zas))))
theorem zew(T:Txt K mg)(F:FunA K "cell_ahead_of_turn" "cell_ahead_of_turn" zap f fd):FnOk P w K mg base CX0 1 f fd ["columns","pattern","text","classes"] (spD K [.b,.v,.v,.v] zal):=by
 refine za3 F zep zav rfl (fun _ _ h=>h) fun cdv A outer s H E hr=>?_
 have hu:=zbn hr
 exact(ssc (sIf (tww (tor' (tcm ((o_lt)) (vv 3) zax (zaV _)) (zjg (tcm ((o_lt)) (vcb c_lenS (by rfl) T.m_len zaN (zac (vv 2) zas)) zax (zaV _))))) (ss1 (zdQ zjd)) ss0)
   (ssc (sIf (tww (tor' (tcm (o_niS) (vix x_str (vv 2) (vun zfa zax) (fun _ _=>rfl)) (vix zc1 (vv 1) (vop zfn (vv 3) zax) (fun _ _=>rfl)) (by with_unfolding_all rfl)) (zjg (tcm (o_niS) (vix x_str (vv 2) (vun zfa zax) (fun _ _=>rfl)) (vix zc1 (vv 1) (vop zfn (vv 3) zax) (fun _ _=>rfl)) (by with_unfolding_all rfl))))) (ss1 (zdQ zjd)) ss0)
   (ss1 (zdQ (vix zc1 (vix zcu (vv 0) (vun zfa zax) (fun _ _=>rfl)) (vop zfn (vv 3) zax) (fun _ _=>rfl))))))
theorem zgB(T:Txt K mg)(F:FunA K "stepped" "stepped" zco f fd):FnOk P w K mg base CX0 1 f fd ["cell","price"] (spD K [.v,.v] zbs):=by
 refine za3 F zjA zey rfl (fun _ _ h=>h) fun cdv A outer s H E hr=>?_
 have hu:=zbn hr
 exact(ssc (sIf (tww (tor' (tcm (o_isN) (vv 0) zjd (zaV _)) (zjg (tcm (o_eq) (vv 1) zax (zaV _))))) (ss1 (zdQ zjd)) ss0)
   (ss1 (zdQ (vop zes (vv 0) (vv 1)))))
theorem ok_lowest(T:Txt K mg)(F:FunA K "lowest" "lowest" zcU f fd):FnOk P w K mg base CX0 1 f fd ["cells"] (spD K [.v] zeB):=by
 refine za3 F sc_lowest zgJ rfl (fun _ _ h=>h) fun cdv A outer s H E hr=>?_
 have hu:=zbn hr
 exact(ss1 (zdQ (vminD (vlc (N:=["cell"]) (fr:=[]) ⟨rfl,rfl,rfl,by decide +kernel,rfl,rfl⟩ (iiq (vv 0)) (fun _ _ _ _=>by exact(if1 (tcm (o_noN) (vv 0) zjd (zaV _)))) (fun _ _ _ _=>by exact(vv 0))) zjd (by rfl) T.m_min ziP)))
theorem zgm(T:Txt K mg)(F:FunA K "numbers_met" "numbers_met" zaY f fd):FnOk P w K mg base CX0 1 f fd ["rooms","text"] (spD K [.v,.v] zcs):=by
 refine za3 F sc_numbers_met zdb rfl (fun _ _ h=>h) fun cdv A outer s H E hr=>?_
 have hu:=zbn hr
 exact(ssc (zcZ (i:=2) sc_numbers_met.nd rfl (aE rfl) (zgD (zac zax zas)))
   (ssc (zgh (iis (vv 1)) (gnm (i:=3) sc_numbers_met.nd rfl (aE rfl))
   (ssc (zcZ (i:=4) sc_numbers_met.nd rfl (aE rfl) (vix zc1 (vix zc1 (vv 0) (vix zcu (vv 2) (vun zfa zax) (fun _ _=>rfl)) (fun _ _=>rfl)) zax (fun _ _=>rfl)))
   (ss1 (sApp 2 (vix zc1 (vv 4) (vbm m_idxS (vglS (by rfl) T.g_LETTERS) (zac (vv 3) zas)) (fun _ _=>rfl))))))
   (ss1 (zgf 2))))
theorem zfm(T:Txt K mg)(F:FunA K "low_cells" "low_cells" zbx f fd):FnOk P w K mg base CX0 1 f fd ["column","most"] (spD K [.v,.v] zch):=by
 refine za3 F zhU zeI rfl (fun _ _ h=>h) fun cdv A outer s H E hr=>?_
 have hu:=zbn hr
 exact(ss1 (zdQ (vct zee (by rfl) T.m_tuple zaG (zac (vlc (N:=["cell","most"]) (fr:=[1]) ⟨rfl,rfl,rfl,by decide +kernel,rfl,rfl⟩ (iit (vv 0)) (fun _ _ _ _=>by exact if0) (fun _ _ _ _=>by exact(vif (tww (tan (tcm (o_noN) (vv 0) zjd (zaV _)) (tan1 (tcm (o_le) (vv 0) (vv 1) (zaV _))))) (vv 0) zjd))) zas))))
theorem zfM(T:Txt K mg)(F:FunA K "fitting_bits" "fitting_bits" zaU f fd):FnOk P w K mg base CX0 1 f fd ["pattern"] (spD K [.v] zcb):=by
 refine za3 F sc_fitting_bits zcR rfl (fun _ _ h=>h) fun cdv A outer s H E hr=>?_
 have hu:=zbn hr
 exact(ssc (sSetO (i:=1) (by decide) sc_fitting_bits.nd rfl (aE rfl) vD0)
   (ssc (zgh (iienut (vv 0) (by rfl) T.m_enumerate zcP) (gtp rfl (zjH (gnm (i:=2) sc_fitting_bits.nd rfl (aE rfl)) (zjH (gnm (i:=3) sc_fitting_bits.nd rfl (aE rfl)) gns0)) (hl:=gl1 (gl1 (gl0))))
   (ss1 (zgh (iis (vv 3)) (gnm (i:=4) sc_fitting_bits.nd rfl (aE rfl))
   (ss1 (sDput 1 (vop o_bor (vDget 1 (zac (vv 4) (zac zax zas))) (vop zjs zax (vop zes (vv 2) zax))) (vv 4) (hg:=fun a b=>⟨pg_sub a.h b.h set_dic⟩))))))
   (sFrzD 1 (ss1 (zgf 1)))))
theorem zdX(T:Txt K mg)(F:FunA K "slips_of_whole" "slips_of_whole" zaF f fd):FnOk P w K mg base CX0 1 f fd ["rows","classes"] (spD K [.b,.v] za9):=by
 refine za3 F sc_slips_of_whole zc5 rfl (fun _ _ h=>h) fun cdv A outer s H E hr=>?_
 have hu:=zbn hr
 exact(ssc (zgh (iienub 0 (by rfl) T.m_enumerate zcP) (gtp rfl (zjH (gnm (i:=2) sc_slips_of_whole.nd rfl (aE rfl)) (zjH (gnm (i:=3) sc_slips_of_whole.nd rfl (aE rfl)) gns0)) (hl:=gl1 (gl1 (gl0))))
   (ss1 (sIf (tcm (o_ne) (vop o_bnd (vv 3) (vop zjs zax (vv 1))) zax (zaV _)) (ss1 (zgf 2)) ss0)))
   (ss1 (zdQ zjd)))
theorem ze3(T:Txt K mg)(F:FunA K "bits_up_to" "bits_up_to" zbj f fd):FnOk P w K mg base CX0 1 f fd ["number"] (spD K [.v] zaH):=by
 refine za3 F zgQ zen rfl (fun _ _ h=>h) fun cdv A outer s H E hr=>?_
 have hu:=zbn hr
 exact(ss1 (zdQ (vop zfn (vop zjs zax (vop zes (vv 0) zax)) zax)))
theorem zhN(T:Txt K mg)(F:FunA K "_law_cell" "_law_cell" zbD f fd):FnOk P w K mg base CX0 1 f fd ["_law_script","_law_at"] (spD K [.b,.v] zbl):=by
 refine za3 F sc__law_cell zdY rfl (fun _ _ h=>h) fun cdv A outer s H E hr=>?_
 have hu:=zbn hr
 exact(ssc (sIf (tcm ((o_lt)) (vv 1) (vcb zck (by rfl) T.m_len zaN (zac (vv 0) zas)) (zaV _)) (ss1 (zdQ (vix zcu (vv 0) (vv 1) (fun _ _=>rfl)))) ss0)
   (ssc (zcZ (i:=2) sc__law_cell.nd rfl (aE rfl) (vop zes zax (vop zfk (vop zfk zax (vv 1)) (vv 1))))
   (ssc (zgh (iil (vsl l_list (vv 0) von (vos zax))) (gnm (i:=3) sc__law_cell.nd rfl (aE rfl))
   (ss1 (zcZ (i:=2) sc__law_cell.nd rfl (aE rfl) (vop zdw (vop zes (vop zfk (vv 2) zax) (vv 3)) zax))))
   (ssc (zcZ (i:=2) sc__law_cell.nd rfl (aE rfl) (vop zdw (vop zes (vop zfk (vv 2) zax) (vop zfk zax (vv 1))) zax))
   (ss1 (zdQ (vop zdw (vop zfk (vv 2) (vv 2)) zax)))))))
theorem zdO(T:Txt K mg)(F:FunA K "_law_digits" "_law_digits" za0 f fd):FnOk P w K mg base CX0 1 f fd ["_law_cell_here","_law_base","_law_many"] (spD K [.v,.v,.v] zaz):=by
 refine za3 F sc__law_digits zc9 rfl (fun _ _ h=>h) fun cdv A outer s H E hr=>?_
 have hu:=zbn hr
 exact(ssc (zcZ (i:=3) sc__law_digits.nd rfl (aE rfl) (zgD zas))
   (ssc (zcZ (i:=4) sc__law_digits.nd rfl (aE rfl) (vv 0))
   (ssc (zgh (iir1 (by rfl) T.m_range (zac (vv 2) zas)) (gnm (i:=5) sc__law_digits.nd rfl (aE rfl))
   (ssc (sApp 3 (vop zdw (vv 4) (vv 1)))
   (ss1 (zcZ (i:=4) sc__law_digits.nd rfl (aE rfl) (vop zfU (vv 4) (vv 1))))))
   (ssc (sIf (tww (tan (tcm (o_gt) (vv 2) zax (zaV _)) (tan (tcm (o_eq) (vv 4) zax (zaV _)) (tan1 (tcm (o_eq) (vix zcu (vv 3) (vun zfa zax) (fun _ _=>rfl)) zax (zaV _)))))) (ssc (zcZ (i:=4) sc__law_digits.nd rfl (aE rfl) (vop zdw (vop zes (vop zfk (vv 0) zax) (vop zfk zax (vv 2))) zax))
   (ssc (zcZ (i:=3) sc__law_digits.nd rfl (aE rfl) (zgD zas))
   (ss1 (zgh (iir1 (by rfl) T.m_range (zac (vv 2) zas)) (gnm (i:=5) sc__law_digits.nd rfl (aE rfl))
   (ssc (zcZ (i:=4) sc__law_digits.nd rfl (aE rfl) (vop zdw (vop zes (vop zes (vop zfk (vv 4) zax) (vop zfk (vop zfk zax (vv 5)) (vv 5))) zax) zax))
   (ss1 (sApp 3 (vop zdw (vop zfU (vop zdw (vop zfk (vv 4) (vv 4)) zax) zax) (vv 1))))))))) ss0)
   (ss1 (zgf 3))))))
theorem zhZ(T:Txt K mg)(F:FunA K "_law_pool" "_law_pool" zbC f fd):FnOk P w K mg base CX0 1 f fd ["_law_cell_here"] (spD K [.v] zdu):=by
 refine za3 F sc__law_pool zeH rfl (fun _ _ h=>h) fun cdv A outer s H E hr=>?_
 have hu:=zbn hr
 exact(ssc (zcZ (i:=1) sc__law_pool.nd rfl (bd rfl) vstr)
   (ssc (zcZ (i:=2) sc__law_pool.nd rfl (aE rfl) (vix zcu (zgD (zac zax (zac zax (zac zax (zac zax zas))))) (vop zdw (vv 0) zax) (fun _ _=>rfl)))
   (ss1 (zdQ (vlc (N:=["_law_k","_law_letters","_law_cell_here"]) (fr:=[1,0]) ⟨rfl,rfl,rfl,by decide +kernel,rfl,rfl⟩ (iir1 (by rfl) T.m_range (zac (vv 2) zas)) (fun _ _ _ _=>by exact if0) (fun _ _ _ _=>by exact(vix x_str (vv 1) (vop zdw (vop zes (vop zfU (vv 2) zax) (vv 0)) zax) (fun _ _=>rfl))))))))
theorem zgT(T:Txt K mg)(F:FunA K "_law_class" "_law_class" zbi f fd):FnOk P w K mg base CX0 1 f fd ["_law_pool_here","_law_number"] (spD K [.b,.v] zcY):=by
 refine za3 F sc__law_class zeo rfl (fun _ _ h=>h) fun cdv A outer s H E hr=>?_
 have hu:=zbn hr
 exact(ssc (zcZ (i:=2) sc__law_class.nd rfl (aE rfl) vstr)
   (ssc (zcZ (i:=3) sc__law_class.nd rfl (aE rfl) (vop zdw (vv 1) zax))
   (ssc (zcZ (i:=1) sc__law_class.nd rfl (aE rfl) (vop zfU (vv 1) zax))
   (ssc (sIf (tww (tan (tcm (o_eq) (vv 3) zax (zaV _)) (tan1 (tcm (o_eq) (vop zdw (vv 1) zax) zax (zaV _))))) (ss1 (zgf 2)) ss0)
   (ssc (sIf (tcm ((o_lt)) (vv 3) zax (zaV _)) (ss1 (zdQ (vix zcu (vv 0) (vop zdw (vv 1) (vcb zck (by rfl) T.m_len zaN (zac (vv 0) zas))) (fun _ _=>rfl)))) ss0)
   (ssc (sIf (tcm (o_eq) (vv 3) zax (zaV _)) (ss1 (zdQ (vbm m_join vstr (zac (vSortSetL (zgD (zac (vix zcu (vv 0) (vop zdw (vv 1) (vcb zck (by rfl) T.m_len zaN (zac (vv 0) zas))) (fun _ _=>rfl)) (zac (vix zcu (vv 0) (vop zdw (vop zfU (vv 1) zax) (vcb zck (by rfl) T.m_len zaN (zac (vv 0) zas))) (fun _ _=>rfl)) zas))) (by rfl) T.m_sorted zij (by rfl) T.m_set boot_set) zas)))) ss0)
   (ssc (zcZ (i:=4) sc__law_class.nd rfl (aE rfl) vstr)
   (ssc (zcZ (i:=1) sc__law_class.nd rfl (aE rfl) (vop zes (vop zdw (vv 1) zax) zax))
   (ssc (zgh (iis (vv 2)) (gnm (i:=5) sc__law_class.nd rfl (aE rfl))
   (ssc (sIf (tcm (o_eq) (vop zdw (vv 1) zax) zax (zaV _)) (ss1 (zcZ (i:=4) sc__law_class.nd rfl (aE rfl) (vop o_addS (vv 4) (vv 5)))) ss0)
   (ss1 (zcZ (i:=1) sc__law_class.nd rfl (aE rfl) (vop zfU (vv 1) zax)))))
   (ss1 (zgf 4)))))))))))
theorem zgk(T:Txt K mg)(F:FunA K "_law_pieces" "_law_pieces" za2 f fd):FnOk P w K mg base CX0 1 f fd ["_law_text_here","_law_digits_here"] (spD K [.v,.b] zde):=by
 refine za3 F sc__law_pieces zdc rfl (fun _ _ h=>h) fun cdv A outer s H E hr=>?_
 have hu:=zbn hr
 exact(ssc (zcZ (i:=2) sc__law_pieces.nd rfl (aE rfl) (zgD zas))
   (ssc (zgh (iib 1) (gnm (i:=3) sc__law_pieces.nd rfl (aE rfl))
   (ssc (sApp 2 (vsl l_str (vv 0) von (vos (vv 3))))
   (ss1 (zcZ (i:=0) sc__law_pieces.nd rfl (aE rfl) (vsl l_str (vv 0) (vos (vv 3)) von)))))
   (ss1 (zdQ (vop o_cat (vv 2) (zgD (zac (vv 0) zas)))))))
theorem zcC(T:Txt K mg)(F:FunA K "__init__" "Sight.__init__" zaB f fd):FnOk P w K mg base CX0 1 f fd ["self","most"] (spM K zay):=by
 obtain⟨C_Sight,DC_Sight⟩:=T.c_Sight
 refine zed (n:=1) F ze6 zc2 rfl (fun _ _ _ h=>h) fun cdv A outer s H E hr=>?_
 have hu:=zbn hr
 exact(ssc (zfq (ns:=[]) 0 DC_Sight.toF (vv 1))
   (ssc (zfq (ns:=["most"]) 0 DC_Sight.toF zax)
   (ss1 (zfq (ns:=["most","end"]) 0 DC_Sight.toF (zgD zas)))))
theorem zcv(T:Txt K mg)(F:FunA K "come" "Sight.come" zbh f fd):FnOk P w K mg base CX0 1 f fd ["self","price"] (spM K zau):=by
 obtain⟨C_Sight,DC_Sight⟩:=T.c_Sight
 refine zed (n:=1) F zha zcV rfl (fun _ _ _ h=>h) fun cdv A outer s H E hr=>?_
 have hu:=zbn hr
 exact(ssc (sIf (tww (tan (tcm (o_noN) (vv 1) zjd (zaV _)) (tan1 (tcm (o_le) (vv 1) (zhh (ns:=["most","end","pairs"]) 0 0 DC_Sight.toF) (zaV _))))) (ss1 (sFApp (ns:=["most","end","pairs"]) 0 2 DC_Sight.toF (vtup (zac (zhh (ns:=["most","end","pairs"]) 0 1 DC_Sight.toF) (zac (vv 1) zas))))) ss0)
   (ss1 (sFSet (ns:=["most","end","pairs"]) 0 1 DC_Sight.toF (vop zes (zhh (ns:=["most","end","pairs"]) 0 1 DC_Sight.toF) zax))))
theorem zd9(T:Txt K mg)(F:FunA K "tell" "Sight.tell" zbf f fd):FnOk P w K mg base CX0 1 f fd ["self"] (spM K zbb):=by
 obtain⟨C_Sight,DC_Sight⟩:=T.c_Sight
 refine zed (n:=0) F sc_Sight_tell zeh rfl (fun _ _ _ h=>h) fun cdv A outer s H E hr=>?_
 have hu:=zbn hr
 exact(ssc (zcZ (i:=1) sc_Sight_tell.nd rfl (aE rfl) (vct zee (by rfl) T.m_tuple zaG (zac (zhh (ns:=["most","end","pairs"]) 0 2 DC_Sight.toF) zas)))
   (ssc (sFSet (ns:=["most","end","pairs"]) 0 2 DC_Sight.toF (zgD zas))
   (ss1 (zgf 1))))
theorem zdk(T:Txt K mg)(F:FunA K "first_column" "first_column" zaT f fd):FnOk P w K mg base CX0 2 f fd ["pattern","prices"] (spD K [.v,.v] zaP):=by
 obtain⟨f_stepped,fd_stepped,D_stepped⟩:=T.d_stepped
 have G_stepped:FnOk P w K mg base CX0 1 f_stepped fd_stepped ["cell","price"] (spD K [.v,.v] zbs):=zgB T (.of D_stepped.fn)
 refine za3 F sc_first_column zdN rfl (fun _ _ h=>h) fun cdv A outer s H E hr=>?_
 have hu:=zbn hr
 exact(ssc (zcZ (i:=2) sc_first_column.nd rfl (aE rfl) (zgD (zac zax zas)))
   (ssc (zgh (iir2 (by rfl) T.m_range (zac zax (zac (vop zes (vcb zck (by rfl) T.m_len zaN (zac (vv 0) zas)) zax) zas))) (gnm (i:=3) sc_first_column.nd rfl (aE rfl))
   (ss1 (sApp 2 (vcl G_stepped D_stepped hr (by rfl) zat (zac (vix zcu (vv 2) (vop zfn (vv 3) zax) (fun _ _=>rfl)) (zac (vix zc1 (vv 1) (vglI (by rfl) T.g_LEFT) (fun _ _=>rfl)) zas))))))
   (ss1 (zdQ (vct zee (by rfl) T.m_tuple zaG (zac (vv 2) zas))))))
theorem zcF(T:Txt K mg)(F:FunA K "further_column" "further_column" zaE f fd):FnOk P w K mg base CX0 2 f fd ["columns","pattern","text","prices","free"] (spD K [.b,.v,.v,.v,.v] zam):=by
 obtain⟨f_cell_ahead_of_turn,fd_cell_ahead_of_turn,D_cell_ahead_of_turn⟩:=T.d_cell_ahead_of_turn
 have G_cell_ahead_of_turn:FnOk P w K mg base CX0 1 f_cell_ahead_of_turn fd_cell_ahead_of_turn ["columns","pattern","text","classes"] (spD K [.b,.v,.v,.v] zal):=zew T (.of D_cell_ahead_of_turn.fn)
 obtain⟨f_lowest,fd_lowest,D_lowest⟩:=T.d_lowest
 have G_lowest:FnOk P w K mg base CX0 1 f_lowest fd_lowest ["cells"] (spD K [.v] zeB):=ok_lowest T (.of D_lowest.fn)
 obtain⟨f_stepped,fd_stepped,D_stepped⟩:=T.d_stepped
 have G_stepped:FnOk P w K mg base CX0 1 f_stepped fd_stepped ["cell","price"] (spD K [.v,.v] zbs):=zgB T (.of D_stepped.fn)
 refine za3 F sc_further_column zcc rfl (fun _ _ h=>h) fun cdv A outer s H E hr=>?_
 have hu:=zbn hr
 exact(ssc (zcZ (i:=5) sc_further_column.nd rfl (aE rfl) (vix zcu (vv 0) (vun zfa zax) (fun _ _=>rfl)))
   (ssc (zcZ (i:=6) sc_further_column.nd rfl (aE rfl) (zgD (zac (vif (tva (vv 4)) zax (vcl G_stepped D_stepped hr (by rfl) zat (zac (vix zc1 (vv 5) zax (fun _ _=>rfl)) (zac (vix zc1 (vv 3) (vglI (by rfl) T.g_PUT) (fun _ _=>rfl)) zas)))) zas)))
   (ssc (zgh (iir2 (by rfl) T.m_range (zac zax (zac (vop zes (vcb zck (by rfl) T.m_len zaN (zac (vv 1) zas)) zax) zas))) (gnm (i:=7) sc_further_column.nd rfl (aE rfl))
   (ssc (zcZ (i:=8) sc_further_column.nd rfl (aE rfl) (vcmp (o_inS) (vix x_str (vv 2) (vun zfa zax) (fun _ _=>rfl)) (vix zc1 (vv 1) (vop zfn (vv 7) zax) (fun _ _=>rfl)) (by with_unfolding_all rfl)))
   (ss1 (sApp 6 (vcl G_lowest D_lowest hr (by rfl) zat (zac (zgD (zac (vif (tva (vv 8)) (vix zc1 (vv 5) (vop zfn (vv 7) zax) (fun _ _=>rfl)) (vcl G_stepped D_stepped hr (by rfl) zat (zac (vix zc1 (vv 5) (vop zfn (vv 7) zax) (fun _ _=>rfl)) (zac (vix zc1 (vv 3) (vglI (by rfl) T.g_EXCHANGED) (fun _ _=>rfl)) zas)))) (zac (vcl G_stepped D_stepped hr (by rfl) zat (zac (vix zc1 (vv 5) (vv 7) (fun _ _=>rfl)) (zac (vix zc1 (vv 3) (vglI (by rfl) T.g_PUT) (fun _ _=>rfl)) zas))) (zac (vcl G_stepped D_stepped hr (by rfl) zat (zac (vix zcu (vv 6) (vop zfn (vv 7) zax) (fun _ _=>rfl)) (zac (vix zc1 (vv 3) (vglI (by rfl) T.g_LEFT) (fun _ _=>rfl)) zas))) (zac (vcl G_stepped D_stepped hr (by rfl) zat (zac (vcl G_cell_ahead_of_turn D_cell_ahead_of_turn hr (by rfl) zat (zac (vv 0) (zac (vv 1) (zac (vv 2) (zac (vv 7) zas))))) (zac (vix zc1 (vv 3) (vglI (by rfl) T.g_TURNED) (fun _ _=>rfl)) zas))) zas))))) zas))))))
   (ss1 (zdQ (vct zee (by rfl) T.m_tuple zaG (zac (vv 6) zas)))))))
theorem zfp(T:Txt K mg)(F:FunA K "ends_by_rooms" "ends_by_rooms" zaL f fd):FnOk P w K mg base CX0 2 f fd ["rooms","T"] (spD K [.v,.v] zbW):=by
 obtain⟨f_numbers_met,fd_numbers_met,D_numbers_met⟩:=T.d_numbers_met
 have G_numbers_met:FnOk P w K mg base CX0 1 f_numbers_met fd_numbers_met ["rooms","text"] (spD K [.v,.v] zcs):=zgm T (.of D_numbers_met.fn)
 refine za3 F sc_ends_by_rooms zcx rfl (fun _ _ h=>h) fun cdv A outer s H E hr=>?_
 have hu:=zbn hr
 exact(ssc (sSetLC (i:=2) sc_ends_by_rooms.nd rfl (aE rfl) (N:=["number","rooms"]) (fr:=[0]) ⟨rfl,rfl,rfl,by decide +kernel,rfl,rfl⟩ (iil (vcl G_numbers_met D_numbers_met hr (by rfl) zat (zac (vv 0) (zac (vv 1) zas)))) (fun _ _ _ _=>by exact if0) (fun _ _ _ _=>by exact(vix zc1 (vix zc1 (vv 1) (vv 0) (fun _ _=>rfl)) zax (fun _ _=>rfl))))
   (sFrz 2 (ss1 (zdQ (vct zee (by rfl) T.m_tuple zaG (zac (vl2 (N:=["end","price"]) (fr:=[]) ⟨rfl,rfl,rfl,rfl,rfl⟩ rfl rfl (by decide +kernel) rfl rfl (iienu (vv 2) (by rfl) T.m_enumerate zcP) (fun _ _ _ _=>by exact(if1 (tcm (o_noN) (vv 1) zjd (zaV _)))) (fun _ _ _ _=>by exact(vtup (zac (vv 0) (zac (vv 1) zas))))) zas))))))
theorem zgL(T:Txt K mg)(F:FunA K "first_rows" "first_rows" zbg f fd):FnOk P w K mg base CX0 2 f fd ["classes","most"] (spD K [.v,.v] zdy):=by
 obtain⟨f_bits_up_to,fd_bits_up_to,D_bits_up_to⟩:=T.d_bits_up_to
 have G_bits_up_to:FnOk P w K mg base CX0 1 f_bits_up_to fd_bits_up_to ["number"] (spD K [.v] zaH):=ze3 T (.of D_bits_up_to.fn)
 refine za3 F zgK zdB rfl (fun _ _ h=>h) fun cdv A outer s H E hr=>?_
 have hu:=zbn hr
 exact(ss1 (zdQ (vlc (N:=["slips"]) (fr:=[]) ⟨rfl,rfl,rfl,by decide +kernel,rfl,rfl⟩ (iir1 (by rfl) T.m_range (zac (vop zes (vcb c_min2 (by rfl) T.m_min ziP (zac (vv 0) (zac (vv 1) zas))) zax) zas)) (fun _ _ _ _=>by exact if0) (fun _ _ _ _=>by exact(vcl G_bits_up_to D_bits_up_to hr (by rfl) zat (zac (vv 0) zas))))))
theorem zfJ(T:Txt K mg)(F:FunA K "further_rows" "further_rows" zaS f fd):FnOk P w K mg base CX0 2 f fd ["rows","fitting","classes"] (spD K [.b,.v,.v] zcJ):=by
 obtain⟨f_bits_up_to,fd_bits_up_to,D_bits_up_to⟩:=T.d_bits_up_to
 have G_bits_up_to:FnOk P w K mg base CX0 1 f_bits_up_to fd_bits_up_to ["number"] (spD K [.v] zaH):=ze3 T (.of D_bits_up_to.fn)
 refine za3 F sc_further_rows zcL rfl (fun _ _ h=>h) fun cdv A outer s H E hr=>?_
 have hu:=zbn hr
 exact(ssc (zcZ (i:=3) sc_further_rows.nd rfl (aE rfl) (zgD zas))
   (ssc (zgh (iienub 0 (by rfl) T.m_enumerate zcP) (gtp rfl (zjH (gnm (i:=4) sc_further_rows.nd rfl (aE rfl)) (zjH (gnm (i:=5) sc_further_rows.nd rfl (aE rfl)) gns0)) (hl:=gl1 (gl1 (gl0))))
   (ssc (zcZ (i:=6) sc_further_rows.nd rfl (aE rfl) (vop o_bor zax (vop o_bnd (vop zjs (vv 5) zax) (vv 1))))
   (ssc (sIf (tcm (o_gt) (vv 4) zax (zaV _)) (ssc (zcZ (i:=7) sc_further_rows.nd rfl (aE rfl) (vix zcu (vv 0) (vop zfn (vv 4) zax) (fun _ _=>rfl)))
   (ssc (zcZ (i:=8) sc_further_rows.nd rfl (aE rfl) (vop zjs (vix zcu (vv 0) (vop zfn (vv 4) zax) (fun _ _=>rfl)) zax))
   (ssc (zcZ (i:=9) sc_further_rows.nd rfl (aE rfl) (vop zjs (vix zcu (vv 3) (vop zfn (vv 4) zax) (fun _ _=>rfl)) zax))
   (ss1 (zcZ (i:=6) sc_further_rows.nd rfl (aE rfl) (vop o_bor (vop o_bor (vop o_bor (vv 6) (vv 7)) (vv 8)) (vv 9))))))) ss0)
   (ss1 (sApp 3 (vop o_bnd (vv 6) (vcl G_bits_up_to D_bits_up_to hr (by rfl) zat (zac (vv 2) zas))))))))
   (ss1 (zgf 3))))
theorem zh0(T:Txt K mg)(F:FunA K "_law_text" "_law_text" zbz f fd):FnOk P w K mg base CX0 2 f fd ["_law_pool_here","_law_cell_here","_law_many"] (spD K [.b,.v,.v] zdl):=by
 obtain⟨f__law_digits,fd__law_digits,D__law_digits⟩:=T.d__law_digits
 have G__law_digits:FnOk P w K mg base CX0 1 f__law_digits fd__law_digits ["_law_cell_here","_law_base","_law_many"] (spD K [.v,.v,.v] zaz):=zdO T (.of D__law_digits.fn)
 refine za3 F zhq zeG rfl (fun _ _ h=>h) fun cdv A outer s H E hr=>?_
 have hu:=zbn hr
 exact(ss1 (zdQ (vbm m_join vstr (zac (vlc (N:=["_law_digit","_law_pool_here"]) (fr:=[0]) ⟨rfl,rfl,rfl,by decide +kernel,rfl,rfl⟩ (iil (vcl G__law_digits D__law_digits hr (by rfl) zat (zac (vv 1) (zac (vcb zck (by rfl) T.m_len zaN (zac (vv 0) zas)) (zac (vv 2) zas))))) (fun _ _ _ _=>by exact if0) (fun _ _ _ _=>by exact(vix zcu (vv 1) (vv 0) (fun _ _=>rfl)))) zas))))
theorem zgd(T:Txt K mg)(F:FunA K "_law_pattern" "_law_pattern" zaR f fd):FnOk P w K mg base CX0 2 f fd ["_law_pool_here","_law_cell_here","_law_many"] (spD K [.b,.v,.v] zca):=by
 obtain⟨f__law_class,fd__law_class,D__law_class⟩:=T.d__law_class
 have G__law_class:FnOk P w K mg base CX0 1 f__law_class fd__law_class ["_law_pool_here","_law_number"] (spD K [.b,.v] zcY):=zgT T (.of D__law_class.fn)
 obtain⟨f__law_digits,fd__law_digits,D__law_digits⟩:=T.d__law_digits
 have G__law_digits:FnOk P w K mg base CX0 1 f__law_digits fd__law_digits ["_law_cell_here","_law_base","_law_many"] (spD K [.v,.v,.v] zaz):=zdO T (.of D__law_digits.fn)
 refine za3 F zfR zdK rfl (fun _ _ h=>h) fun cdv A outer s H E hr=>?_
 have hu:=zbn hr
 exact(ss1 (zdQ (vct zee (by rfl) T.m_tuple zaG (zac (vlc (N:=["_law_digit","_law_pool_here"]) (fr:=[0]) ⟨rfl,rfl,rfl,by decide +kernel,rfl,rfl⟩ (iil (vcl G__law_digits D__law_digits hr (by rfl) zat (zac (vv 1) (zac (vop zfk zax zax) (zac (vv 2) zas))))) (fun _ _ _ _=>by exact if0) (fun _ _ _ _=>by exact(vcl G__law_class D__law_class hr (by rfl) zat (zac (vv 1) (zac (vv 0) zas))))) zas))))
theorem zif(T:Txt K mg)(F:FunA K "cells_of" "cells_of" zbU f fd):FnOk P w K mg base CX0 3 f fd ["P","T","prices","free"] (spD K [.v,.v,.v,.v] zdU):=by
 obtain⟨f_first_column,fd_first_column,D_first_column⟩:=T.d_first_column
 have G_first_column:FnOk P w K mg base CX0 2 f_first_column fd_first_column ["pattern","prices"] (spD K [.v,.v] zaP):=zdk T (.of D_first_column.fn)
 obtain⟨f_further_column,fd_further_column,D_further_column⟩:=T.d_further_column
 have G_further_column:FnOk P w K mg base CX0 2 f_further_column fd_further_column ["columns","pattern","text","prices","free"] (spD K [.b,.v,.v,.v,.v] zam):=zcF T (.of D_further_column.fn)
 obtain⟨f_row_across,fd_row_across,D_row_across⟩:=T.d_row_across
 have G_row_across:FnOk P w K mg base CX0 1 f_row_across fd_row_across ["columns","classes"] (spD K [.b,.v] zcS):=zgU T (.of D_row_across.fn)
 refine za3 F sc_cells_of ze5 rfl (fun _ _ h=>h) fun cdv A outer s H E hr=>?_
 have hu:=zbn hr
 exact(ssc (zcZ (i:=4) sc_cells_of.nd rfl (bd rfl) (zgD (zac (vcl G_first_column D_first_column hr (by rfl) zat (zac (vv 0) (zac (vv 2) zas))) zas)))
   (ssc (zgh (iir2 (by rfl) T.m_range (zac zax (zac (vop zes (vcb c_lenS (by rfl) T.m_len zaN (zac (vv 1) zas)) zax) zas))) (gnm (i:=5) sc_cells_of.nd rfl (aE rfl))
   (ss1 (sApp 4 (vcl G_further_column D_further_column hr (by rfl) zat (zac (vv 4) (zac (vv 0) (zac (vsl l_str (vv 1) von (vos (vv 5))) (zac (vv 2) (zac (vv 3) zas)))))))))
   (ss1 (zdQ (vct zee (by rfl) T.m_tuple zaG (zac (vlc (N:=["classes","columns"]) (fr:=[4]) ⟨rfl,rfl,rfl,by decide +kernel,rfl,rfl⟩ (iir1 (by rfl) T.m_range (zac (vop zes (vcb zck (by rfl) T.m_len zaN (zac (vv 0) zas)) zax) zas)) (fun _ _ _ _=>by exact if0) (fun _ _ _ _=>by exact(vcl G_row_across D_row_across hr (by rfl) zat (zac (vv 1) (zac (vv 0) zas))))) zas))))))
theorem zfd(T:Txt K mg)(F:FunA K "columns_behind" "columns_behind" zaC f fd):FnOk P w K mg base CX0 3 f fd ["column","pattern","most","prices"] (spD K [.v,.v,.v,.v] zbM):=by
 obtain⟨f_further_column,fd_further_column,D_further_column⟩:=T.d_further_column
 have G_further_column:FnOk P w K mg base CX0 2 f_further_column fd_further_column ["columns","pattern","text","prices","free"] (spD K [.b,.v,.v,.v,.v] zam):=zcF T (.of D_further_column.fn)
 obtain⟨f_low_cells,fd_low_cells,D_low_cells⟩:=T.d_low_cells
 have G_low_cells:FnOk P w K mg base CX0 1 f_low_cells fd_low_cells ["column","most"] (spD K [.v,.v] zch):=zfm T (.of D_low_cells.fn)
 refine za3 F zfj zc3 rfl (fun _ _ h=>h) fun cdv A outer s H E hr=>?_
 have hu:=zbn hr
 exact(ss1 (zdQ (vlc (N:=["letter","most","pattern","prices","column"]) (fr:=[2,1,3,0]) ⟨rfl,rfl,rfl,by decide +kernel,rfl,rfl⟩ (iis (vglS (by rfl) T.g_LETTERS)) (fun _ _ _ _=>by exact if0) (fun _ _ _ _=>by exact(vcl G_low_cells D_low_cells hr (by rfl) zat (zac (vcl G_further_column D_further_column hr (by rfl) zat (zac (zgD (zac (vv 4) zas)) (zac (vv 2) (zac (vv 0) (zac (vv 3) (zac vbl zas)))))) (zac (vv 1) zas)))))))
theorem zft(T:Txt K mg)(F:FunA K "__init__" "Bits.__init__" zaM f fd):FnOk P w K mg base CX0 3 f fd ["self","P","most"] (spM K zbv):=by
 obtain⟨C_Bits,DC_Bits⟩:=T.c_Bits
 obtain⟨C_Sight,DC_Sight⟩:=T.c_Sight
 obtain⟨f_Sight___init__,fd_Sight___init__,D_Sight___init__⟩:=T.d_Sight___init__
 have G_Sight___init__:FnOk P w K mg base CX0 1 f_Sight___init__ fd_Sight___init__ ["self","most"] (spM K zay):=zcC T D_Sight___init__.fn
 obtain⟨f_Sight_come,fd_Sight_come,D_Sight_come⟩:=T.d_Sight_come
 have G_Sight_come:FnOk P w K mg base CX0 1 f_Sight_come fd_Sight_come ["self","price"] (spM K zau):=zcv T D_Sight_come.fn
 obtain⟨f_first_rows,fd_first_rows,D_first_rows⟩:=T.d_first_rows
 have G_first_rows:FnOk P w K mg base CX0 2 f_first_rows fd_first_rows ["classes","most"] (spD K [.v,.v] zdy):=zgL T (.of D_first_rows.fn)
 obtain⟨f_fitting_bits,fd_fitting_bits,D_fitting_bits⟩:=T.d_fitting_bits
 have G_fitting_bits:FnOk P w K mg base CX0 1 f_fitting_bits fd_fitting_bits ["pattern"] (spD K [.v] zcb):=zfM T (.of D_fitting_bits.fn)
 obtain⟨f_slips_of_whole,fd_slips_of_whole,D_slips_of_whole⟩:=T.d_slips_of_whole
 have G_slips_of_whole:FnOk P w K mg base CX0 1 f_slips_of_whole fd_slips_of_whole ["rows","classes"] (spD K [.b,.v] za9):=zdX T (.of D_slips_of_whole.fn)
 refine zed (n:=2) F zfu zdh rfl (fun _ _ _ h=>h) fun cdv A outer s H E hr=>?_
 have hu:=zbn hr
 exact(ssc (zfq (ns:=[]) 0 DC_Bits.toF (vcl G_fitting_bits D_fitting_bits hr (by rfl) zat (zac (vv 1) zas)))
   (ssc (zfq (ns:=["fitting"]) 0 DC_Bits.toF (vcb zck (by rfl) T.m_len zaN (zac (vv 1) zas)))
   (ssc (zfq (ns:=["fitting","classes"]) 0 DC_Bits.toF (vcl G_first_rows D_first_rows hr (by rfl) zat (zac (zhh (ns:=["fitting","classes"]) 0 1 DC_Bits.toF) (zac (vv 2) zas))))
   (ssc (zfq (ns:=["fitting","classes","rows"]) 0 DC_Bits.toF (vmake DC_Sight D_Sight___init__ G_Sight___init__ hr (by rfl) zat (zac (vv 2) zas)))
   (ss1 (sX (zi0 (ns:=["fitting","classes","rows","sight"]) (ns2:=["most","end","pairs"]) 0 3 DC_Bits DC_Sight D_Sight_come G_Sight_come hr zat (zac (vcl G_slips_of_whole D_slips_of_whole hr (by rfl) zat (zac (zhh (ns:=["fitting","classes","rows","sight"]) 0 2 DC_Bits.toF) (zac (zhh (ns:=["fitting","classes","rows","sight"]) 0 1 DC_Bits.toF) zas))) zas))))))))
theorem zhj(T:Txt K mg)(F:FunA K "read" "Bits.read" zby f fd):FnOk P w K mg base CX0 3 f fd ["self","sign"] (spM K zdo):=by
 obtain⟨C_Bits,DC_Bits⟩:=T.c_Bits
 obtain⟨C_Sight,DC_Sight⟩:=T.c_Sight
 obtain⟨f_Sight_come,fd_Sight_come,D_Sight_come⟩:=T.d_Sight_come
 have G_Sight_come:FnOk P w K mg base CX0 1 f_Sight_come fd_Sight_come ["self","price"] (spM K zau):=zcv T D_Sight_come.fn
 obtain⟨f_further_rows,fd_further_rows,D_further_rows⟩:=T.d_further_rows
 have G_further_rows:FnOk P w K mg base CX0 2 f_further_rows fd_further_rows ["rows","fitting","classes"] (spD K [.b,.v,.v] zcJ):=zfJ T (.of D_further_rows.fn)
 obtain⟨f_slips_of_whole,fd_slips_of_whole,D_slips_of_whole⟩:=T.d_slips_of_whole
 have G_slips_of_whole:FnOk P w K mg base CX0 1 f_slips_of_whole fd_slips_of_whole ["rows","classes"] (spD K [.b,.v] za9):=zdX T (.of D_slips_of_whole.fn)
 refine zed (n:=1) F zho zeM rfl (fun _ _ _ h=>h) fun cdv A outer s H E hr=>?_
 have hu:=zbn hr
 exact(ssc (sFSet (ns:=["fitting","classes","rows","sight"]) 0 2 DC_Bits.toF (vcl G_further_rows D_further_rows hr (by rfl) zat (zac (zhh (ns:=["fitting","classes","rows","sight"]) 0 2 DC_Bits.toF) (zac (vbm m_get (zhh (ns:=["fitting","classes","rows","sight"]) 0 0 DC_Bits.toF) (zac (vv 1) (zac zax zas))) (zac (zhh (ns:=["fitting","classes","rows","sight"]) 0 1 DC_Bits.toF) zas)))))
   (ss1 (sX (zi0 (ns:=["fitting","classes","rows","sight"]) (ns2:=["most","end","pairs"]) 0 3 DC_Bits DC_Sight D_Sight_come G_Sight_come hr zat (zac (vcl G_slips_of_whole D_slips_of_whole hr (by rfl) zat (zac (zhh (ns:=["fitting","classes","rows","sight"]) 0 2 DC_Bits.toF) (zac (zhh (ns:=["fitting","classes","rows","sight"]) 0 1 DC_Bits.toF) zas))) zas)))))
theorem zeN(T:Txt K mg)(F:FunA K "__init__" "Finder.__init__" zaw f fd):FnOk P w K mg base CX0 3 f fd ["self","P","most","prices"] (spM K zbu):=by
 obtain⟨C_Finder,DC_Finder⟩:=T.c_Finder
 obtain⟨C_Sight,DC_Sight⟩:=T.c_Sight
 obtain⟨f_Sight___init__,fd_Sight___init__,D_Sight___init__⟩:=T.d_Sight___init__
 have G_Sight___init__:FnOk P w K mg base CX0 1 f_Sight___init__ fd_Sight___init__ ["self","most"] (spM K zay):=zcC T D_Sight___init__.fn
 obtain⟨f_Sight_come,fd_Sight_come,D_Sight_come⟩:=T.d_Sight_come
 have G_Sight_come:FnOk P w K mg base CX0 1 f_Sight_come fd_Sight_come ["self","price"] (spM K zau):=zcv T D_Sight_come.fn
 obtain⟨f_first_column,fd_first_column,D_first_column⟩:=T.d_first_column
 have G_first_column:FnOk P w K mg base CX0 2 f_first_column fd_first_column ["pattern","prices"] (spD K [.v,.v] zaP):=zdk T (.of D_first_column.fn)
 refine zed (n:=3) F zeV zcH rfl (fun _ _ _ h=>h) fun cdv A outer s H E hr=>?_
 have hu:=zbn hr
 exact(ssc (zfq (ns:=[]) 0 DC_Finder.toF (vv 1))
   (ssc (zfq (ns:=["pattern"]) 0 DC_Finder.toF (vv 3))
   (ssc (zfq (ns:=["pattern","prices"]) 0 DC_Finder.toF (zgD (zac (vcl G_first_column D_first_column hr (by rfl) zat (zac (vv 1) (zac (vv 3) zas))) zas)))
   (ssc (zfq (ns:=["pattern","prices","columns"]) 0 DC_Finder.toF vstr)
   (ssc (zfq (ns:=["pattern","prices","columns","last_sign"]) 0 DC_Finder.toF (vmake DC_Sight D_Sight___init__ G_Sight___init__ hr (by rfl) zat (zac (vv 2) zas)))
   (ss1 (sX (zi0 (ns:=["pattern","prices","columns","last_sign","sight"]) (ns2:=["most","end","pairs"]) 0 4 DC_Finder DC_Sight D_Sight_come G_Sight_come hr zat (zac (vix zc1 (vix zcu (zhh (ns:=["pattern","prices","columns","last_sign","sight"]) 0 2 DC_Finder.toF) (vun zfa zax) (fun _ _=>rfl)) (vun zfa zax) (fun _ _=>rfl)) zas)))))))))
theorem zgp(T:Txt K mg)(F:FunA K "read" "Finder.read" za1 f fd):FnOk P w K mg base CX0 3 f fd ["self","sign"] (spM K zcr):=by
 obtain⟨C_Finder,DC_Finder⟩:=T.c_Finder
 obtain⟨C_Sight,DC_Sight⟩:=T.c_Sight
 obtain⟨f_Sight_come,fd_Sight_come,D_Sight_come⟩:=T.d_Sight_come
 have G_Sight_come:FnOk P w K mg base CX0 1 f_Sight_come fd_Sight_come ["self","price"] (spM K zau):=zcv T D_Sight_come.fn
 obtain⟨f_further_column,fd_further_column,D_further_column⟩:=T.d_further_column
 have G_further_column:FnOk P w K mg base CX0 2 f_further_column fd_further_column ["columns","pattern","text","prices","free"] (spD K [.b,.v,.v,.v,.v] zam):=zcF T (.of D_further_column.fn)
 refine zed (n:=1) F sc_Finder_read zd1 rfl (fun _ _ _ h=>h) fun cdv A outer s H E hr=>?_
 have hu:=zbn hr
 exact(ssc (zcZ (i:=2) sc_Finder_read.nd rfl (aE rfl) (vcl G_further_column D_further_column hr (by rfl) zat (zac (zhh (ns:=["pattern","prices","columns","last_sign","sight"]) 0 2 DC_Finder.toF) (zac (zhh (ns:=["pattern","prices","columns","last_sign","sight"]) 0 0 DC_Finder.toF) (zac (vop o_addS (zhh (ns:=["pattern","prices","columns","last_sign","sight"]) 0 3 DC_Finder.toF) (vv 1)) (zac (zhh (ns:=["pattern","prices","columns","last_sign","sight"]) 0 1 DC_Finder.toF) (zac vbl zas)))))))
   (ssc (sFSet (ns:=["pattern","prices","columns","last_sign","sight"]) 0 2 DC_Finder.toF (zgD (zac (vix zcu (zhh (ns:=["pattern","prices","columns","last_sign","sight"]) 0 2 DC_Finder.toF) (vun zfa zax) (fun _ _=>rfl)) (zac (vv 2) zas))))
   (ssc (sFSet (ns:=["pattern","prices","columns","last_sign","sight"]) 0 3 DC_Finder.toF (vv 1))
   (ss1 (sX (zi0 (ns:=["pattern","prices","columns","last_sign","sight"]) (ns2:=["most","end","pairs"]) 0 4 DC_Finder DC_Sight D_Sight_come G_Sight_come hr zat (zac (vix zc1 (vv 2) (vun zfa zax) (fun _ _=>rfl)) zas)))))))
theorem zhJ{C:ai}(T:Txt K mg)(DX:ExcD K mg "TooMany" C)(F:FunA K "rooms_for" "rooms_for" zbB f fd):FnOk P w K mg base (CXE P w C) 4 f fd ["P","most","prices"] (spX K C [.v,.v,.v] za4):=by
 obtain⟨f_columns_behind,fd_columns_behind,D_columns_behind⟩:=T.d_columns_behind
 have G_columns_behind:FnOk P w K mg base CX0 3 f_columns_behind fd_columns_behind ["column","pattern","most","prices"] (spD K [.v,.v,.v,.v] zbM):=zfd T (.of D_columns_behind.fn)
 obtain⟨f_first_column,fd_first_column,D_first_column⟩:=T.d_first_column
 have G_first_column:FnOk P w K mg base CX0 2 f_first_column fd_first_column ["pattern","prices"] (spD K [.v,.v] zaP):=zdk T (.of D_first_column.fn)
 obtain⟨f_low_cells,fd_low_cells,D_low_cells⟩:=T.d_low_cells
 have G_low_cells:FnOk P w K mg base CX0 1 f_low_cells fd_low_cells ["column","most"] (spD K [.v,.v] zch):=zfm T (.of D_low_cells.fn)
 refine fn_okX (C:=C) F sc_rooms_for zd2 rfl (fun _ _ h=>h) fun cdv A outer s H E hr=>?_
 have hu:=zbn hr
 exact(ssxc (sxIf (tcm (o_ne) (vix zc1 (vv 2) (vglI (by rfl) T.g_TURNED) (fun _ _=>rfl)) zax (zaV _)) (ssx1 (sxl sNev)) (ssxl ss0))
   (ssxc (sxl (zcZ (i:=3) sc_rooms_for.nd rfl (aE rfl) (zgD (zac (vcl G_low_cells D_low_cells hr (by rfl) zat (zac (vcl G_first_column D_first_column hr (by rfl) zat (zac (vv 0) (zac (vv 2) zas))) (zac (vv 1) zas))) zas))))
   (ssxc (sxl (sSetO (i:=4) (by decide) sc_rooms_for.nd rfl (bd rfl) (vDT1 hr (vix zcu (vv 3) zax (fun _ _=>rfl)) zax)))
   (ssxc (sxl (zcZ (i:=5) sc_rooms_for.nd rfl (aE rfl) (zgD zas)))
   (ssxc (sxWhl 301 (tcm ((o_lt)) (vcb zck (by rfl) T.m_len zaN (zac (vv 5) zas)) (vcb zck (by rfl) T.m_len zaN (zac (vv 3) zas)) (zaV _))
   (ssxc (sxl (zcZ (i:=6) sc_rooms_for.nd rfl (aE rfl) (vix zcu (vv 3) (vcb zck (by rfl) T.m_len zaN (zac (vv 5) zas)) (fun _ _=>rfl))))
   (ssxc (sxl (zcZ (i:=7) sc_rooms_for.nd rfl (aE rfl) (vcl G_columns_behind D_columns_behind hr (by rfl) zat (zac (vv 6) (zac (vv 0) (zac (vv 1) (zac (vv 2) zas)))))))
   (sFrzX 7 (ssxc (sxl (zgh (iil (vv 7)) (gnm (i:=8) sc_rooms_for.nd rfl (aE rfl))
   (ss1 (sIf (tcm (o_niK hr) (vv 8) (vvO 4) (by with_unfolding_all rfl)) (ssc (sTput 4 hr (vcb zck (by rfl) T.m_len zaN (zac (vv 3) zas)) (vv 8) (hg:=fun a b=>⟨pg_sub a.h b.h (set_dt hr)⟩))
   (ss1 (sApp 3 (vv 8)))) ss0)) passL))
   (ssxc (sxIf (tcm (o_gt) (vcb zck (by rfl) T.m_len zaN (zac (vv 3) zas)) (vglI (by rfl) T.g_MOST_ROOMS) (zaV _)) (ssx1 (sxRaise DX (by rfl) (fun _ h=>h) (zac vstr zas))) (ssxl ss0))
   (ssx1 (sxl (sApp 5 (vtup (zac (vix zc1 (vv 6) (vun zfa zax) (fun _ _=>rfl)) (zac (vct zee (by rfl) T.m_tuple zaG (zac (vlc (N:=["further","numbers"]) (fr:=[4]) ⟨rfl,rfl,rfl,by decide +kernel,rfl,rfl⟩ (iil (vv 7)) (fun _ _ _ _=>by exact if0) (fun _ _ _ _=>by exact(vix (x_dxK hr) (vvO 1) (vv 0) (fun _ _=>rfl)))) zas)) zas))))))))))) passL)
   (ssx1 (sxl (zdQ (vct zee (by rfl) T.m_tuple zaG (zac (vv 5) zas))))))))))
theorem ze7(T:Txt K mg)(F:FunA K "prices_at_ends" "prices_at_ends" zaD f fd):FnOk P w K mg base CX0 4 f fd ["pattern","text","prices"] (spD K [.v,.v,.v] zbI):=by
 obtain⟨f_cells_of,fd_cells_of,D_cells_of⟩:=T.d_cells_of
 have G_cells_of:FnOk P w K mg base CX0 3 f_cells_of fd_cells_of ["P","T","prices","free"] (spD K [.v,.v,.v,.v] zdU):=zif T D_cells_of.fn
 refine za3 F ze9 zc0 rfl (fun _ _ h=>h) fun cdv A outer s H E hr=>?_
 have hu:=zbn hr
 exact(ss1 (zdQ (vix zc1 (vclF G_cells_of D_cells_of hr (by rfl) zat (zac (vv 0) (zac (vv 1) (zac (vv 2) (zac vbl zas))))) (vun zfa zax) (fun _ _=>rfl))))
theorem zf5(T:Txt K mg)(F:FunA K "_law_alike" "_law_alike" zaI f fd):FnOk P w K mg base CX0 1 f fd ["_law_found","_law_due"] (spD K [.v,.v] zcQ):=by
 refine za3 F sc__law_alike fNev rfl (fun _ _ h=>h) fun cdv A outer s H E hr=>?_
 exact ssNev
theorem zf4(T:Txt K mg)(F:FunA K "_law_alike" "_law_alike" zaI f fd):FnOk P w K mg base CX0 2 f fd ["_law_found","_law_due"] (spD K [.v,.v] zbN):=by
 obtain⟨f__law_alike,fd__law_alike,D__law_alike⟩:=T.d__law_alike
 have G__law_alike:FnOk P w K mg base CX0 1 f__law_alike fd__law_alike ["_law_found","_law_due"] (spD K [.v,.v] zcQ):=zf5 T (.of D__law_alike.fn)
 refine za3 F sc__law_alike (zbe zcQ) rfl (fun _ _ h=>h) fun cdv A outer s H E hr=>?_
 have hu:=zbn hr
 exact(ssc (sIf (tva (zjI (vv 1) (by rfl) T.m_isinstance zaq (by rfl) T.m_tuple zaG)) (ssc (sIf (tww (tor' (tnt (tva (zjI (vv 0) (by rfl) T.m_isinstance zaq (by rfl) T.m_tuple zaG))) (zjg (tcm (o_ne) (vcb zck (by rfl) T.m_len zaN (zac (vv 0) zas)) (vcb zck (by rfl) T.m_len zaN (zac (vv 1) zas)) (zaV _))))) (ss1 (zdQ vbl)) ss0)
   (ssc (zgh (iizip (zqv (vv 0)) (zqv (vv 1)) (by rfl) T.m_zip zg1) (gtp rfl (zjH (gnm (i:=2) sc__law_alike.nd rfl (aE rfl)) (zjH (gnm (i:=3) sc__law_alike.nd rfl (aE rfl)) gns0)) (hl:=gl1 (gl1 (gl0))))
   (ss1 (sIf (tnt (tva (vcl G__law_alike D__law_alike hr (by rfl) zat (zac (vv 2) (zac (vv 3) zas))))) (ss1 (zdQ vbl)) ss0)))
   (ss1 (zdQ vbl)))) ss0)
   (ss1 (zdQ (vand (zjI (vv 0) (by rfl) T.m_isinstance zaq (by rfl) T.m_int zgM) (vand (vnot (zjI (vv 0) (by rfl) T.m_isinstance zaq (by rfl) T.m_bool zfX)) (vone (vcmp (o_eq) (vv 0) (vv 1) (zaV _))))))))
theorem zfT(T:Txt K mg)(F:FunA K "_law_alike" "_law_alike" zaI f fd):FnOk P w K mg base CX0 3 f fd ["_law_found","_law_due"] (spD K [.v,.v] zb9):=by
 obtain⟨f__law_alike,fd__law_alike,D__law_alike⟩:=T.d__law_alike
 have G__law_alike:FnOk P w K mg base CX0 2 f__law_alike fd__law_alike ["_law_found","_law_due"] (spD K [.v,.v] zbN):=zf4 T (.of D__law_alike.fn)
 refine za3 F sc__law_alike (zbe zbN) rfl (fun _ _ h=>h) fun cdv A outer s H E hr=>?_
 have hu:=zbn hr
 exact(ssc (sIf (tva (zjI (vv 1) (by rfl) T.m_isinstance zaq (by rfl) T.m_tuple zaG)) (ssc (sIf (tww (tor' (tnt (tva (zjI (vv 0) (by rfl) T.m_isinstance zaq (by rfl) T.m_tuple zaG))) (zjg (tcm (o_ne) (vcb zck (by rfl) T.m_len zaN (zac (vv 0) zas)) (vcb zck (by rfl) T.m_len zaN (zac (vv 1) zas)) (zaV _))))) (ss1 (zdQ vbl)) ss0)
   (ssc (zgh (iizip (zqv (vv 0)) (zqv (vv 1)) (by rfl) T.m_zip zg1) (gtp rfl (zjH (gnm (i:=2) sc__law_alike.nd rfl (aE rfl)) (zjH (gnm (i:=3) sc__law_alike.nd rfl (aE rfl)) gns0)) (hl:=gl1 (gl1 (gl0))))
   (ss1 (sIf (tnt (tva (vcl G__law_alike D__law_alike hr (by rfl) zat (zac (vv 2) (zac (vv 3) zas))))) (ss1 (zdQ vbl)) ss0)))
   (ss1 (zdQ vbl)))) ss0)
   (ss1 (zdQ (vand (zjI (vv 0) (by rfl) T.m_isinstance zaq (by rfl) T.m_int zgM) (vand (vnot (zjI (vv 0) (by rfl) T.m_isinstance zaq (by rfl) T.m_bool zfX)) (vone (vcmp (o_eq) (vv 0) (vv 1) (zaV _))))))))
theorem zfO(T:Txt K mg)(F:FunA K "_law_alike" "_law_alike" zaI f fd):FnOk P w K mg base CX0 4 f fd ["_law_found","_law_due"] (spD K [.v,.v] zcI):=by
 obtain⟨f__law_alike,fd__law_alike,D__law_alike⟩:=T.d__law_alike
 have G__law_alike:FnOk P w K mg base CX0 3 f__law_alike fd__law_alike ["_law_found","_law_due"] (spD K [.v,.v] zb9):=zfT T (.of D__law_alike.fn)
 refine za3 F sc__law_alike (zbe zb9) rfl (fun _ _ h=>h) fun cdv A outer s H E hr=>?_
 have hu:=zbn hr
 exact(ssc (sIf (tva (zjI (vv 1) (by rfl) T.m_isinstance zaq (by rfl) T.m_tuple zaG)) (ssc (sIf (tww (tor' (tnt (tva (zjI (vv 0) (by rfl) T.m_isinstance zaq (by rfl) T.m_tuple zaG))) (zjg (tcm (o_ne) (vcb zck (by rfl) T.m_len zaN (zac (vv 0) zas)) (vcb zck (by rfl) T.m_len zaN (zac (vv 1) zas)) (zaV _))))) (ss1 (zdQ vbl)) ss0)
   (ssc (zgh (iizip (zqv (vv 0)) (zqv (vv 1)) (by rfl) T.m_zip zg1) (gtp rfl (zjH (gnm (i:=2) sc__law_alike.nd rfl (aE rfl)) (zjH (gnm (i:=3) sc__law_alike.nd rfl (aE rfl)) gns0)) (hl:=gl1 (gl1 (gl0))))
   (ss1 (sIf (tnt (tva (vcl G__law_alike D__law_alike hr (by rfl) zat (zac (vv 2) (zac (vv 3) zas))))) (ss1 (zdQ vbl)) ss0)))
   (ss1 (zdQ vbl)))) ss0)
   (ss1 (zdQ (vand (zjI (vv 0) (by rfl) T.m_isinstance zaq (by rfl) T.m_int zgM) (vand (vnot (zjI (vv 0) (by rfl) T.m_isinstance zaq (by rfl) T.m_bool zfX)) (vone (vcmp (o_eq) (vv 0) (vv 1) (zaV _))))))))
theorem zhO(T:Txt K mg)(F:FunA K "feed" "Bits.feed" zbA f fd):FnOk P w K mg base CX0 4 f fd ["self","T"] (spM K zdn):=by
 obtain⟨C_Bits,DC_Bits⟩:=T.c_Bits
 obtain⟨C_Sight,DC_Sight⟩:=T.c_Sight
 obtain⟨f_Bits_read,fd_Bits_read,D_Bits_read⟩:=T.d_Bits_read
 have G_Bits_read:FnOk P w K mg base CX0 3 f_Bits_read fd_Bits_read ["self","sign"] (spM K zdo):=zhj T D_Bits_read.fn
 obtain⟨f_Sight_tell,fd_Sight_tell,D_Sight_tell⟩:=T.d_Sight_tell
 have G_Sight_tell:FnOk P w K mg base CX0 1 f_Sight_tell fd_Sight_tell ["self"] (spM K zbb):=zd9 T D_Sight_tell.fn
 refine zed (n:=1) F sc_Bits_feed zeF rfl (fun _ _ _ h=>h) fun cdv A outer s H E hr=>?_
 have hu:=zbn hr
 exact(ssc (zgh (iis (vv 1)) (gnm (i:=2) sc_Bits_feed.nd rfl (aE rfl))
   (ss1 (sX (xmeth (ns:=["fitting","classes","rows","sight"]) 0 DC_Bits D_Bits_read G_Bits_read hr zat (zac (vv 2) zas)))))
   (ss1 (sXRet (xmethF0 (ns:=["fitting","classes","rows","sight"]) (ns2:=["most","end","pairs"]) 0 3 DC_Bits DC_Sight D_Sight_tell G_Sight_tell hr zat))))
theorem zgl(T:Txt K mg)(F:FunA K "feed" "Finder.feed" zaZ f fd):FnOk P w K mg base CX0 4 f fd ["self","T"] (spM K zcp):=by
 obtain⟨C_Finder,DC_Finder⟩:=T.c_Finder
 obtain⟨C_Sight,DC_Sight⟩:=T.c_Sight
 obtain⟨f_Finder_read,fd_Finder_read,D_Finder_read⟩:=T.d_Finder_read
 have G_Finder_read:FnOk P w K mg base CX0 3 f_Finder_read fd_Finder_read ["self","sign"] (spM K zcr):=zgp T D_Finder_read.fn
 obtain⟨f_Sight_tell,fd_Sight_tell,D_Sight_tell⟩:=T.d_Sight_tell
 have G_Sight_tell:FnOk P w K mg base CX0 1 f_Sight_tell fd_Sight_tell ["self"] (spM K zbb):=zd9 T D_Sight_tell.fn
 refine zed (n:=1) F sc_Finder_feed zd7 rfl (fun _ _ _ h=>h) fun cdv A outer s H E hr=>?_
 have hu:=zbn hr
 exact(ssc (zgh (iis (vv 1)) (gnm (i:=2) sc_Finder_feed.nd rfl (aE rfl))
   (ss1 (sX (xmeth (ns:=["pattern","prices","columns","last_sign","sight"]) 0 DC_Finder D_Finder_read G_Finder_read hr zat (zac (vv 2) zas)))))
   (ss1 (sXRet (xmethF0 (ns:=["pattern","prices","columns","last_sign","sight"]) (ns2:=["most","end","pairs"]) 0 4 DC_Finder DC_Sight D_Sight_tell G_Sight_tell hr zat))))
theorem zjp(T:Txt K mg)(F:FunA K "ends_in" "ends_in" zcm f fd):FnOk P w K mg base CX0 5 f fd ["P","T","most","prices"] (spD K [.v,.v,.v,.v] zcW):=by
 obtain⟨C_Sight,DC_Sight⟩:=T.c_Sight
 obtain⟨f_Sight___init__,fd_Sight___init__,D_Sight___init__⟩:=T.d_Sight___init__
 have G_Sight___init__:FnOk P w K mg base CX0 1 f_Sight___init__ fd_Sight___init__ ["self","most"] (spM K zay):=zcC T D_Sight___init__.fn
 obtain⟨f_Sight_come,fd_Sight_come,D_Sight_come⟩:=T.d_Sight_come
 have G_Sight_come:FnOk P w K mg base CX0 1 f_Sight_come fd_Sight_come ["self","price"] (spM K zau):=zcv T D_Sight_come.fn
 obtain⟨f_Sight_tell,fd_Sight_tell,D_Sight_tell⟩:=T.d_Sight_tell
 have G_Sight_tell:FnOk P w K mg base CX0 1 f_Sight_tell fd_Sight_tell ["self"] (spM K zbb):=zd9 T D_Sight_tell.fn
 obtain⟨f_prices_at_ends,fd_prices_at_ends,D_prices_at_ends⟩:=T.d_prices_at_ends
 have G_prices_at_ends:FnOk P w K mg base CX0 4 f_prices_at_ends fd_prices_at_ends ["pattern","text","prices"] (spD K [.v,.v,.v] zbI):=ze7 T (.of D_prices_at_ends.fn)
 refine za3 F sc_ends_in zfP rfl (fun _ _ h=>h) fun cdv A outer s H E hr=>?_
 have hu:=zbn hr
 exact(ssc (sSetO (i:=4) (by decide) sc_ends_in.nd rfl (aE rfl) (vmake DC_Sight D_Sight___init__ G_Sight___init__ hr (by rfl) zat (zac (vv 2) zas)))
   (ssc (zgh (iit (vcl G_prices_at_ends D_prices_at_ends hr (by rfl) zat (zac (vv 0) (zac (vv 1) (zac (vv 3) zas))))) (gnm (i:=5) sc_ends_in.nd rfl (aE rfl))
   (ss1 (sX (xmeth (ns:=["most","end","pairs"]) 4 DC_Sight D_Sight_come G_Sight_come hr zat (zac (vv 5) zas)))))
   (ss1 (sXRet (xmeth0 (ns:=["most","end","pairs"]) 4 DC_Sight D_Sight_tell G_Sight_tell hr zat)))))
theorem zhb(T:Txt K mg)(F:FunA K "_law_rooms" "_law_rooms" zba f fd):FnOk P w K mg base CX0 5 f fd ["_law_pattern_here","_law_most","_law_prices"] (spD K [.v,.v,.v] zcT):=by
 obtain⟨C,B,A2,A3,DX,DA,xB,xm,xk1,xk2,xA2,xA3,xk3⟩:=T.x_exc
 obtain⟨f_rooms_for,fd_rooms_for,D_rooms_for⟩:=T.d_rooms_for
 have G_rooms_for:FnOk P w K mg base (CXE P w C) 4 f_rooms_for fd_rooms_for ["P","most","prices"] (spX K C [.v,.v,.v] za4):=zhJ T DX (.of D_rooms_for.fn)
 refine za3 F sc__law_rooms zcl rfl (fun _ _ h=>h) fun cdv A outer s H E hr=>?_
 have hu:=zbn hr
 exact(ssc (zcZ (i:=3) sc__law_rooms.nd rfl (aE rfl) zjd)
   (ssc (sTryN rfl rfl G_rooms_for D_rooms_for hr (by rfl) (zac (vv 0) (zac (vv 1) (zac (vv 2) zas))) (by rfl) xB xm sc__law_rooms.nd rfl rfl)
   (ss1 (zgf 3))))
theorem zh2(T:Txt K mg)(F:FunA K "_law_fed" "_law_fed" zbG f fd):FnOk P w K mg base CX0 5 f fd ["_law_machine","_law_pieces_here"] (spM K zdT):=by
 obtain⟨C_Finder,DC_Finder⟩:=T.c_Finder
 obtain⟨f_Finder_feed,fd_Finder_feed,D_Finder_feed⟩:=T.d_Finder_feed
 have G_Finder_feed:FnOk P w K mg base CX0 4 f_Finder_feed fd_Finder_feed ["self","T"] (spM K zcp):=zgl T D_Finder_feed.fn
 refine zed (n:=1) F sc__law_fed zfb rfl (fun _ _ _ h=>h) fun cdv A outer s H E hr=>?_
 have hu:=zbn hr
 exact(ssc (zcZ (i:=2) sc__law_fed.nd rfl (aE rfl) (vtup zas))
   (ssc (zgh (iil (vv 1)) (gnm (i:=3) sc__law_fed.nd rfl (aE rfl))
   (ss1 (sXSet (i:=2) sc__law_fed.nd rfl (aE rfl) (xop o_catT (xpure (vv 2)) (xmeth (ns:=["pattern","prices","columns","last_sign","sight"]) 0 DC_Finder D_Finder_feed G_Finder_feed hr zat (zac (vv 3) zas))))))
   (ss1 (zgf 2))))
theorem zg2(T:Txt K mg)(F:FunA K "_law_fed" "_law_fed" zbG f fd):FnOk P w K mg base CX0 5 f fd ["_law_machine","_law_pieces_here"] (spM K zcj):=by
 obtain⟨C_Bits,DC_Bits⟩:=T.c_Bits
 obtain⟨f_Bits_feed,fd_Bits_feed,D_Bits_feed⟩:=T.d_Bits_feed
 have G_Bits_feed:FnOk P w K mg base CX0 4 f_Bits_feed fd_Bits_feed ["self","T"] (spM K zdn):=zhO T D_Bits_feed.fn
 refine zed (n:=1) F sc__law_fed zef rfl (fun _ _ _ h=>h) fun cdv A outer s H E hr=>?_
 have hu:=zbn hr
 exact(ssc (zcZ (i:=2) sc__law_fed.nd rfl (aE rfl) (vtup zas))
   (ssc (zgh (iil (vv 1)) (gnm (i:=3) sc__law_fed.nd rfl (aE rfl))
   (ss1 (sXSet (i:=2) sc__law_fed.nd rfl (aE rfl) (xop o_catT (xpure (vv 2)) (xmeth (ns:=["fitting","classes","rows","sight"]) 0 DC_Bits D_Bits_feed G_Bits_feed hr zat (zac (vv 3) zas))))))
   (ss1 (zgf 2))))
theorem ok_law(T:Txt K mg)(F:FunA K "law" "law" zeE f fd):FnOk P w K mg base CX0 6 f fd ["_law_script"] (spD K [.b] g_law):=by
 obtain⟨C_Bits,DC_Bits⟩:=T.c_Bits
 obtain⟨C_Finder,DC_Finder⟩:=T.c_Finder
 obtain⟨f_Bits___init__,fd_Bits___init__,D_Bits___init__⟩:=T.d_Bits___init__
 have G_Bits___init__:FnOk P w K mg base CX0 3 f_Bits___init__ fd_Bits___init__ ["self","P","most"] (spM K zbv):=zft T D_Bits___init__.fn
 obtain⟨f_Finder___init__,fd_Finder___init__,D_Finder___init__⟩:=T.d_Finder___init__
 have G_Finder___init__:FnOk P w K mg base CX0 3 f_Finder___init__ fd_Finder___init__ ["self","P","most","prices"] (spM K zbu):=zeN T D_Finder___init__.fn
 obtain⟨f__law_alike,fd__law_alike,D__law_alike⟩:=T.d__law_alike
 have G__law_alike:FnOk P w K mg base CX0 4 f__law_alike fd__law_alike ["_law_found","_law_due"] (spD K [.v,.v] zcn):=zfO T (.of D__law_alike.fn)
 obtain⟨f__law_cell,fd__law_cell,D__law_cell⟩:=T.d__law_cell
 have G__law_cell:FnOk P w K mg base CX0 1 f__law_cell fd__law_cell ["_law_script","_law_at"] (spD K [.b,.v] zbl):=zhN T (.of D__law_cell.fn)
 obtain⟨f__law_digits,fd__law_digits,D__law_digits⟩:=T.d__law_digits
 have G__law_digits:FnOk P w K mg base CX0 1 f__law_digits fd__law_digits ["_law_cell_here","_law_base","_law_many"] (spD K [.v,.v,.v] zaz):=zdO T (.of D__law_digits.fn)
 obtain⟨f__law_fed,fd__law_fed,D__law_fed⟩:=T.d__law_fed
 have G__law_fed:FnOk P w K mg base CX0 5 f__law_fed fd__law_fed ["_law_machine","_law_pieces_here"] (spM K zdT):=zh2 T (.of D__law_fed.fn)
 obtain⟨f__law_fed_B,fd__law_fed_B,D__law_fed_B⟩:=T.d__law_fed
 have G__law_fed_B:FnOk P w K mg base CX0 5 f__law_fed_B fd__law_fed_B ["_law_machine","_law_pieces_here"] (spM K zcj):=zg2 T (.of D__law_fed_B.fn)
 obtain⟨f__law_pattern,fd__law_pattern,D__law_pattern⟩:=T.d__law_pattern
 have G__law_pattern:FnOk P w K mg base CX0 2 f__law_pattern fd__law_pattern ["_law_pool_here","_law_cell_here","_law_many"] (spD K [.b,.v,.v] zca):=zgd T (.of D__law_pattern.fn)
 obtain⟨f__law_pieces,fd__law_pieces,D__law_pieces⟩:=T.d__law_pieces
 have G__law_pieces:FnOk P w K mg base CX0 1 f__law_pieces fd__law_pieces ["_law_text_here","_law_digits_here"] (spD K [.v,.b] zde):=zgk T (.of D__law_pieces.fn)
 obtain⟨f__law_pool,fd__law_pool,D__law_pool⟩:=T.d__law_pool
 have G__law_pool:FnOk P w K mg base CX0 1 f__law_pool fd__law_pool ["_law_cell_here"] (spD K [.v] zdu):=zhZ T (.of D__law_pool.fn)
 obtain⟨f__law_rooms,fd__law_rooms,D__law_rooms⟩:=T.d__law_rooms
 have G__law_rooms:FnOk P w K mg base CX0 5 f__law_rooms fd__law_rooms ["_law_pattern_here","_law_most","_law_prices"] (spD K [.v,.v,.v] zcT):=zhb T (.of D__law_rooms.fn)
 obtain⟨f__law_text,fd__law_text,D__law_text⟩:=T.d__law_text
 have G__law_text:FnOk P w K mg base CX0 2 f__law_text fd__law_text ["_law_pool_here","_law_cell_here","_law_many"] (spD K [.b,.v,.v] zdl):=zh0 T (.of D__law_text.fn)
 obtain⟨f_ends_by_rooms,fd_ends_by_rooms,D_ends_by_rooms⟩:=T.d_ends_by_rooms
 have G_ends_by_rooms:FnOk P w K mg base CX0 2 f_ends_by_rooms fd_ends_by_rooms ["rooms","T"] (spD K [.v,.v] zbW):=zfp T (.of D_ends_by_rooms.fn)
 obtain⟨f_ends_in,fd_ends_in,D_ends_in⟩:=T.d_ends_in
 have G_ends_in:FnOk P w K mg base CX0 5 f_ends_in fd_ends_in ["P","T","most","prices"] (spD K [.v,.v,.v,.v] zcW):=zjp T (.of D_ends_in.fn)
 refine za3 F sc_law F_law rfl (fun _ _ h=>h) fun cdv A outer s H E hr=>?_
 have hu:=zbn hr
 exact(ssc (zcZ (i:=1) sc_law.nd rfl (aE rfl) (vcl G__law_cell D__law_cell hr (by rfl) zat (zac (vv 0) (zac zax zas))))
   (ssc (zcZ (i:=2) sc_law.nd rfl (aE rfl) (vcl G__law_pool D__law_pool hr (by rfl) zat (zac (vv 1) zas)))
   (ssc (zcZ (i:=3) sc_law.nd rfl (aE rfl) (vcl G__law_pattern D__law_pattern hr (by rfl) zat (zac (vv 2) (zac (vcl G__law_cell D__law_cell hr (by rfl) zat (zac (vv 0) (zac zax zas))) (zac (vop zdw (vop zfU (vv 1) zax) zax) zas)))))
   (ssc (zcZ (i:=4) sc_law.nd rfl (aE rfl) (vcl G__law_text D__law_text hr (by rfl) zat (zac (vv 2) (zac (vcl G__law_cell D__law_cell hr (by rfl) zat (zac (vv 0) (zac zax zas))) (zac (vop zdw (vop zfU (vv 1) zax) zax) zas)))))
   (ssc (zcZ (i:=5) sc_law.nd rfl (aE rfl) (vtup (zac zax (zac zax (zac zax (zac zax zas))))))
   (ssc (sIf (tcm (o_eq) (vop zdw (vop zfU (vv 1) zax) zax) zax (zaV _)) (ss1 (zcZ (i:=5) sc_law.nd rfl (aE rfl) (vct zee (by rfl) T.m_tuple zaG (zac (vop o_cat (vcl G__law_digits D__law_digits hr (by rfl) zat (zac (vcl G__law_cell D__law_cell hr (by rfl) zat (zac (vv 0) (zac zax zas))) (zac zax (zac zax zas)))) (zgD (zac zax zas))) zas)))) ss0)
   (ssc (zcZ (i:=6) sc_law.nd rfl (aE rfl) (vop zdw (vop zfU (vv 1) zax) zax))
   (ssc (zcZ (i:=7) sc_law.nd rfl (aE rfl) (vcl G_ends_in D_ends_in hr (by rfl) zat (zac (vv 3) (zac (vv 4) (zac (vv 6) (zac (vv 5) zas))))))
   (ssc (zcZ (i:=8) sc_law.nd rfl (aE rfl) (vcl G__law_pieces D__law_pieces hr (by rfl) zat (zac (vv 4) (zac (vcl G__law_digits D__law_digits hr (by rfl) zat (zac (vcl G__law_cell D__law_cell hr (by rfl) zat (zac (vv 0) (zac zax zas))) (zac zax (zac (vop zdw (vop zfU (vv 1) zax) zax) zas)))) zas))))
   (sFrz 8 (ssc (sIf (tnt (tva (vcl G__law_alike D__law_alike hr (by rfl) zat (zac (vCM G__law_fed D__law_fed hr (by rfl) zat (vmake DC_Finder D_Finder___init__ G_Finder___init__ hr (by rfl) zat (zac (vv 3) (zac (vv 6) (zac (vv 5) zas)))) (zac (vv 8) zas)) (zac (vv 7) zas))))) (ss1 (zdQ vbl)) ss0)
   (ssc (sIf (tww (tan (tcm (o_eqD hr) (vv 5) (vtup (zac zax (zac zax (zac zax (zac zax zas))))) (zaV _)) (tan1 (tnt (tva (vcl G__law_alike D__law_alike hr (by rfl) zat (zac (vCM G__law_fed_B D__law_fed_B hr (by rfl) zat (vmake DC_Bits D_Bits___init__ G_Bits___init__ hr (by rfl) zat (zac (vv 3) (zac (vv 6) zas))) (zac (vv 8) zas)) (zac (vv 7) zas)))))))) (ss1 (zdQ vbl)) ss0)
   (ssc (zcZ (i:=9) sc_law.nd rfl (aE rfl) (vcl G__law_rooms D__law_rooms hr (by rfl) zat (zac (vv 3) (zac (vv 6) (zac (vv 5) zas)))))
   (ssc (sIf (tww (tan (tcm (o_noN) (vv 9) zjd (zaV _)) (tan1 (tnt (tva (vcl G__law_alike D__law_alike hr (by rfl) zat (zac (vcl G_ends_by_rooms D_ends_by_rooms hr (by rfl) zat (zac (vv 9) (zac (vv 4) zas))) (zac (vv 7) zas)))))))) (ss1 (zdQ vbl)) ss0)
   (ss1 (zdQ (vcmp (o_eqD hr) (vcl G_ends_in D_ends_in hr (by rfl) zat (zac (vv 3) (zac (vv 4) (zac (vv 6) (zac (vv 5) zas))))) (vv 7) (zaV _))))))))))))))))))
end
end N35

namespace N35
open PySem L2 L3
open CE in
theorem zdg(c:Option Int)(q:Int):zbs [oD c,.int q]=ae (.val (oD (stp c q))):=by
 cases c with
 | none=>simp (disch:=omega) only[zbs,zcz,stE,stN,oD,jqc,jqa,zey,zar,fIf,fOr,tOf,ex2,zab,aB,jqk,eC,gIsN,isN,gEq,zgu,zb0,toN,fNx,zdv,jqe,bOf,jqf,jra,sqO,zc7,stp,jqd,ite_self]
 | some i=>
  by_cases h:q=0
  ·simp (disch:=omega) only[zbs,zcz,stE,stN,oD,h,jqc,jqa,zey,zar,fIf,fOr,tOf,ex2,zab,aB,jqk,eC,gIsN,isN,gEq,zgu,zb0,toN,fNx,zdv,jqe,bOf,jqf,jqy,jqr,jrb,jra,sqO,zc7,stp]
  ·simp (disch:=omega) only[zbs,zcz,stE,stN,oD,jqc,jqa,zey,zar,fIf,fOr,tOf,ex2,zab,aB,jqk,eC,gIsN,isN,gEq,zgu,zb0,toN,fNx,zdv,jqe,bOf,jqf,h,jqz,jqr,jrb,sqO,pI0,iOf,zc7,stp]
open CE in
theorem zio(δ:En)(cs:List (Option Int)):zcA (fun d=>zeL (cEn [] δ d)) (fun d=>zeJ (cEn [] δ d)) (cs.map oD)=ae ((cs.filterMap id).map D.int):=by
 induction cs with
 | nil=>rfl
 | cons c cs ih=>
  rw[aH,zcA,ih]
  cases c with
  | none=>rfl
  | some i=>rfl
open CE in
theorem lowest_q(cs:List (Option Int))(d:D)(hd:qOf (.val d)=ae (cs.map oD))(h:cs.length<=1000000):zeB [d]=ae (.val (oD (lw cs))):=by
 have hE:eLC [] (qV (zab 0)) zeL zeJ [ae (.val d)]=ae (.own ((cs.filterMap id).map D.int)):=
  zem (by unfold qV;exact hd) (zio _ cs) (by rw[ax];exact bK (List.length_filterMap_le _ _) h)
 simp (disch:=omega) only[zeB,zcz,stE,stN,jqc,jqa,zgJ,zb0,ex2,aB,jqk,eC,gMinD,asL,toN,hE,intsD_map]
 cases hm:minI (cs.filterMap id) with
 | none=>simp (disch:=omega) only[jqa,jqc,zc7,oD,lw,hm]
 | some m=>simp (disch:=omega) only[jqa,jqc,zc7,oD,lw,hm]
open CE in
theorem lowest_eq(cs:List (Option Int))(h:cs.length<=1000000):zeB [.lst (cs.map oD)]=ae (.val (oD (lw cs))):=lowest_q cs _ rfl h
def zjE(c:Nat->Nat->Option Int)(n a:Nat):D:=.tup ((au (n+1)).map fun j=>CE.oD (c a j))
def zbX(c:Nat->Nat->Option Int)(m j:Nat):D:=.tup ((au (m+1)).map fun i=>CE.oD (c i j))
theorem zfV(f:Nat->D)(n:Nat){k:Int}(h0:0<=k)(h:k.toNat<=n):atI ((au (n+1)).map f) k=ae (f k.toNat):=by
 refine zel h0 ?_
 rw[aG,bE (by lia)]
 rfl
theorem zfw(f:Nat->D)(n:Nat):atI ((au (n+1)).map f) (-1)=ae (f n):=zhB (by rw[cf,bG];simp)
theorem atI_m2{α:Type}{xs:List α}{x:α}(h2:2<=xs.length)(h:xs[xs.length - 2]? = ae x):atI xs (-2)=ae x:=by
 unfold atI ixN
 rw[if_neg (by lia),if_pos (by lia)]
 show xs[(-2+(xs.length:Int)).toNat]? = _
 rw[show(-2+(xs.length:Int)).toNat=xs.length - 2 by lia]
 exact h
theorem rng_last2(f:Nat->D)(n:Nat):atI ((au (n+1+1)).map f) (-2)=ae (f n):=by
 refine atI_m2 (by simp) ?_
 rw[ax,bY,show n+1+1 - 2=n by lia,aG,bE (by lia)]
 rfl
structure Win(c:Nat->Nat->Option Int)(fit:Nat->Nat->Bool)(P:List Str)(j:Nat)(cs:List D)(tx:List Nat):Prop where
 l:tx.length<=1000000
 c1:atI cs (-1)=ae (zbX c P.length j)
 s1:∃ t,atI tx (-1)=ae t/\∀ i,i<P.length->inS (mkS [t]) (P.getD i (mkS []))=fit i j
 two:(tx.length<2/\j=0) \/ (2<=tx.length/\0<j/\atI cs (-2)=ae (zbX c P.length (j - 1))/\∃ t,atI tx (-2)=ae t/\∀ i,i<P.length->inS (mkS [t]) (P.getD i (mkS []))=fit i (j - 1))
open CE in
theorem ahead_eq{c:Nat->Nat->Option Int}{fit:Nat->Nat->Bool}{P:List Str}{j:Nat}{cs:List D}{tx:List Nat}(W:Win c fit P j cs tx)(i:Nat)(hi:i<P.length) :
  zal [.lst cs,.tup (P.map .str),.str (mkS tx),.int (1+(i:Int))]=ae (.val (oD (tc fit c i j))):=by
 have hl:tx.length<=1000000:=W.l
 by_cases h1:(1+(i:Int))<2
 ·have ht:tc fit c i j=af:=by unfold tc;rw[if_neg (by lia)]
  rw[ht]
  simp (disch:=omega) only[zal,zcz,stE,stN,jqc,jqa,zav,zar,fIf,fOr,tOf,ex2,zab,aB,jqk,eC,gLt,pI0,iOf,eCB,zaa,zae,zb0,toN,fNx,zgg,jqf,jqe,h1,jqy,bOf,zg3,sOf,jra,sqO,zc7,oD_n]
 ·rcases W.two with ⟨h2,hj⟩ | ⟨h2,hj,q2,t',e2,g2⟩
  ·have ht:tc fit c i j=af:=by unfold tc;rw[if_neg (by lia)]
   have h3:(tx.length:Int)<2:=by lia
   rw[ht]
   simp (disch:=omega) only[zal,zcz,stE,stN,jqc,jqa,zav,zar,fIf,fOr,tOf,ex2,zab,aB,jqk,eC,gLt,pI0,iOf,eCB,zaa,zae,zb0,toN,fNx,zgg,jqf,jqe,h1,jqz,bOf,zg3,sOf,zb2,zaO,zaf,h3,jqy,jqr,jrb,jra,sqO,zc7,oD_n]
  ·obtain⟨t,e1,g1⟩:=W.s1
   have h3:¬ ((tx.length:Int)<2):=by lia
   have ht:tc fit c i j=if (fit i (j - 1) && fit (i - 1) j)=true then c (i - 1) (j - 1) else af:=by unfold tc;rw[if_pos (by lia)]
   have a3:atI (P.map D.str) (1+(i:Int) - 1)=ae (.str (P.getD i (mkS []))):=by
    rw[zfZ D.str (mkS []) (by lia) (by lia),show(1+(i:Int) - 1).toNat=i by lia]
   have a4:atI (P.map D.str) (1+(i:Int) - 2)=ae (.str (P.getD (i - 1) (mkS []))):=by
    rw[zfZ D.str (mkS []) (by lia) (by lia),show(1+(i:Int) - 2).toNat=i - 1 by lia]
   have a6:atI ((au (P.length+1)).map fun k=>oD (c k (j - 1))) (1+(i:Int) - 2)=ae (oD (c (i - 1) (j - 1))):=by
    rw[zfV _ _ (by lia) (by lia),show(1+(i:Int) - 2).toNat=i - 1 by lia]
   have f1:=g2 i hi
   have f2:=g1 (i - 1) (by lia)
   have m2:-(2:Int)=-2:=rfl
   rw[ht]
   unfold zbX at q2
   cases v1:fit i (j - 1) with
   | false=>
    rw[v1] at f1
    simp (disch:=omega) only[zal,zcz,stE,stN,jqc,jqa,zav,zar,fIf,fOr,tOf,ex2,zab,aB,jqk,eC,gLt,pI0,iOf,eCB,zaa,zae,zb0,toN,fNx,zgg,jqf,jqe,h1,jqz,bOf,zg3,sOf,zb2,zaO,zaf,h3,jqr,jrb,sqO,ex1,zeK,Int.reduceNeg,gIxS,zci,e2,zdx,zdL,a3,gNiS,f1,jqu,jra,zc7,fI,oD_n]
   | true=>
    rw[v1] at f1
    cases v2:fit (i - 1) j with
    | false=>
     rw[v2] at f2
     simp (disch:=omega) only[zal,zcz,stE,stN,jqc,jqa,zav,zar,fIf,fOr,tOf,ex2,zab,aB,jqk,eC,gLt,pI0,iOf,eCB,zaa,zae,zb0,toN,fNx,zgg,jqf,jqe,h1,jqz,bOf,zg3,sOf,zb2,zaO,zaf,h3,jqr,jrb,sqO,ex1,zeK,Int.reduceNeg,gIxS,zci,e2,zdx,zdL,a3,gNiS,f1,jqt,e1,a4,f2,jqu,jra,zc7,dq,oD_n]
    | true=>
     rw[v2] at f2
     simp (disch:=omega) only[zal,zcz,stE,stN,jqc,jqa,zav,zar,fIf,fOr,tOf,ex2,zab,aB,jqk,eC,gLt,pI0,iOf,eCB,zaa,zae,zb0,toN,fNx,zgg,jqf,jqe,h1,jqz,bOf,zg3,sOf,zb2,zaO,zaf,h3,jqr,jrb,sqO,ex1,zeK,Int.reduceNeg,gIxS,zci,e2,zdx,zdL,a3,gNiS,f1,jqt,e1,a4,f2,zds,asL,q2,a6,zc7,dX,jra]
open CE in
theorem zil(P:List Str)(p:Pr)(free:Bool)(fit:Nat->Nat->Bool)(k:Nat)(hk:k<P.length)(hP:P.length<=100000) :
  zb1 [ae (.val (.tup (P.map .str))),ae (.val p.d),ae (.own ((au (k+1)).map fun i=>oD (cel fit p free i 0))),ae (.val (.int (1+(k:Int))))] =
  ae (.nx [ae (.val (.tup (P.map .str))),ae (.val p.d),ae (.own ((au (k+1+1)).map fun i=>oD (cel fit p free i 0))),ae (.val (.int (1+(k:Int))))]):=by
 have hl:(((au (k+1)).map fun i=>oD (cel fit p free i 0))).length<1000000:=by simp;lia
 have hx:atI ((au (k+1)).map fun i=>oD (cel fit p free i 0)) (1+(k:Int) - 1)=ae (oD (cel fit p free k 0)):=by
  rw[zfV _ _ (by lia) (by lia),show(1+(k:Int) - 1).toNat=k by lia]
 have h0:atI [D.int p.put,D.int p.left,D.int p.exch,D.int p.turn] 1=ae (.int p.left):=rfl
 have e:(au (k+1+1)).map (fun i=>oD (cel fit p free i 0))=(au (k+1)).map (fun i=>oD (cel fit p free i 0)) ++ [oD (cel fit p free (k+1) 0)]:=by
  rw[cf (n:=k+1),bG];rfl
 rw[e,cel_s0]
 simp (disch:=omega) only[zb1,zf0,Pr.d,jqf,jqe,zag,zaa,ex2,zab,eC,zgg,pI0,iOf,jqa,jqc,zds,asL,hx,zdx,zdL,h0,zae,zaJ,zbZ,asV,zdg,zaO,jqh,jqg,zaf]
open CE in
theorem zfY(P:List Str)(p:Pr)(free:Bool)(fit:Nat->Nat->Bool)(hP:P.length<=100000) :
  zaP [.tup (P.map .str),p.d]=ae (.val (zbX (cel fit p free) P.length 0)):=by
 obtain⟨δ',w1,kv,rfl⟩:=ze2 (tg:=gNm 3) (f:=zb1) (fun k δ=>∃ kv,δ=[ae (.val (.tup (P.map .str))),ae (.val p.d),ae (.own ((au (k+1)).map fun i=>oD (cel fit p free i 0))),kv])
  ((au P.length).map fun(k:Nat)=>D.int (1+(k:Int))) 0 _ (fun k d δ hd hδ=>by
   obtain⟨kv,rfl⟩:=hδ
   rw[bj]
   rw[aG] at hd
   have hk:k<P.length:=by
    cases q:(au P.length)[k]? with
    | none=>rw[q] at hd;cases hd
    | some z=>have:=(aO.mp q).1;simpa using this
   rw[bE hk] at hd
   cases hd
   exact⟨_,_,rfl,.inl (zil P p free fit k hk hP),_,rfl⟩) ⟨af,rfl⟩
 have hb1:b62 1:=zeD (by decide)
 have hb2:b62 ((P.length:Int)+1):=zeD (by lia)
 have hn:((P.length:Int)+1 - 1).toNat=P.length:=by lia
 have hl:P.length<=100000:=hP
 simp only[ax,bY,bj] at w1
 simp only[cf (n:=0),gP,cZ,aH,cc,cel_00,oD_s,oD_n] at w1
 simp (disch:=omega) only[zaP,zcz,stE,stN,jqc,jqa,zdN,zar,za7,zdC,zaa,eC,zae,jqp,jqq,Nat.reduceLeDiff,zc8,asV,jra,aB,toN,zdv,sqO,zdr,iR2,ex2,eCB,zab,pI0,iOf,jqi,jqj,jqh,jqg,jqe,zbw,zdL,ax,zcK,jre,hn,zaf,w1,zb0,jqf,zc4,asL,zc7,zbX]
open CE in
structure Nxt(fit:Nat->Nat->Bool)(p:Pr)(free:Bool)(j:Nat)(c:Nat->Nat->Option Int):Prop where
 z:c 0 (j+1)=if free=true then ae 0 else stp (c 0 j) p.put
 s:∀ i,c (i+1) (j+1)=lw [if fit i j=true then c i j else stp (c i j) p.exch,stp (c (i+1) j) p.put,stp (c i (j+1)) p.left,stp (tc fit c i j) p.turn]
open CE in
theorem zhT(P:List Str)(p:Pr)(free:Bool)(fit:Nat->Nat->Bool)(cs:List D)(tx:List Nat)(j k:Nat)(c:Nat->Nat->Option Int)(R:Nxt fit p free j c)(W:Win c fit P j cs tx)(f8:Option Ent)(hk:k<P.length)(hP:P.length<=100000) :
  za5 [ae (.bor cs),ae (.val (.tup (P.map .str))),ae (.val (.str (mkS tx))),ae (.val p.d),ae (.val (.bl free)),ae (.val (zbX c P.length j)),ae (.own ((au (k+1)).map fun i=>oD (c i (j+1)))),ae (.val (.int (1+(k:Int)))),f8] =
  ae (.nx [ae (.bor cs),ae (.val (.tup (P.map .str))),ae (.val (.str (mkS tx))),ae (.val p.d),ae (.val (.bl free)),ae (.val (zbX c P.length j)),ae (.own ((au (k+1+1)).map fun i=>oD (c i (j+1)))),ae (.val (.int (1+(k:Int)))),ae (.val (.bl (fit k j)))]):=by
 have hl:(((au (k+1)).map fun i=>oD (c i (j+1)))).length<1000000:=by simp;lia
 have hx:atI ((au (k+1)).map fun i=>oD (c i (j+1))) (1+(k:Int) - 1)=ae (oD (c k (j+1))):=by
  rw[zfV _ _ (by lia) (by lia),show(1+(k:Int) - 1).toNat=k by lia]
 obtain⟨t,a1,g1⟩:=W.s1
 have f1:=g1 k hk
 have a2:atI (P.map D.str) (1+(k:Int) - 1)=ae (.str (P.getD k (mkS []))):=by
  rw[zfZ D.str (mkS []) (by lia) (by lia),show(1+(k:Int) - 1).toNat=k by lia]
 have a3:atI ((au (P.length+1)).map fun i=>oD (c i j)) (1+(k:Int) - 1)=ae (oD (c k j)):=by
  rw[zfV _ _ (by lia) (by lia),show(1+(k:Int) - 1).toNat=k by lia]
 have a4:atI ((au (P.length+1)).map fun i=>oD (c i j)) (1+(k:Int))=ae (oD (c (k+1) j)):=by
  rw[zfV _ _ (by lia) (by lia),show(1+(k:Int)).toNat=k+1 by lia]
 have hm:tx.length<=1000000:=W.l
 have p0:atI [D.int p.put,D.int p.left,D.int p.exch,D.int p.turn] 0=ae (.int p.put):=rfl
 have p1:atI [D.int p.put,D.int p.left,D.int p.exch,D.int p.turn] 1=ae (.int p.left):=rfl
 have p2:atI [D.int p.put,D.int p.left,D.int p.exch,D.int p.turn] 2=ae (.int p.exch):=rfl
 have p3:atI [D.int p.put,D.int p.left,D.int p.exch,D.int p.turn] 3=ae (.int p.turn):=rfl
 have ah:=ahead_eq W k hk
 have e:(au (k+1+1)).map (fun i=>oD (c i (j+1)))=(au (k+1)).map (fun i=>oD (c i (j+1))) ++ [oD (c (k+1) (j+1))]:=by
  rw[cf (n:=k+1),bG];rfl
 rw[e,R.s]
 have low:=fun a b e d=>lowest_eq [a,b,e,d] (by simp)
 simp only[aH,cc] at low
 cases q:fit k j with
 | true=>
  rw[q] at f1
  simp (disch:=omega) only[za5,zar,za7,ex2,zab,Pr.d,zbX,jqf,jqe,ex1,eC,jqa,zeK,iOf,jqc,Int.reduceNeg,gIxS,sOf,zb2,zaO,zci,a1,zaf,zgg,pI0,zdx,zdL,a2,gInS,f1,jqh,jqg,toN,sqO,zf0,zag,zaa,zdC,eIf,tOf,bOf,a3,zae,jra,a4,p0,zaJ,zbZ,asV,zdg,zds,asL,hx,p1,p3]
  simp (disch:=omega) only[ah,jqa,zaJ,zbZ,asV,jqc,zdg,jqp,jqq,Nat.reduceLeDiff,zc8,jra,low]
 | false=>
  rw[q] at f1
  simp (disch:=omega) only[za5,zar,za7,ex2,zab,Pr.d,zbX,jqf,jqe,ex1,eC,jqa,zeK,iOf,jqc,Int.reduceNeg,gIxS,sOf,zb2,zaO,zci,a1,zaf,zgg,pI0,zdx,zdL,a2,gInS,f1,jqh,jqg,toN,sqO,zf0,zag,zaa,zdC,eIf,tOf,bOf,a3,p2,zae,zaJ,zbZ,asV,zdg,jqr,jrb,a4,p0,zds,asL,hx,p1,p3]
  simp (disch:=omega) only[ah,jqa,zaJ,zbZ,asV,jqc,zdg,jqp,jqq,Nat.reduceLeDiff,zc8,jra,low]
open CE in
theorem zhr(P:List Str)(p:Pr)(free:Bool)(fit:Nat->Nat->Bool)(cs:List D)(tx:List Nat)(j:Nat)(c:Nat->Nat->Option Int)(R:Nxt fit p free j c)(W:Win c fit P j cs tx)(hP:P.length<=100000) :
  zam [.lst cs,.tup (P.map .str),.str (mkS tx),p.d,.bl free]=ae (.val (zbX c P.length (j+1))):=by
 obtain⟨δ',w1,kv,fv,rfl⟩:=ze2 (tg:=gNm 7) (f:=za5) (fun k δ=>∃ kv fv,δ=[ae (.bor cs),ae (.val (.tup (P.map .str))),ae (.val (.str (mkS tx))),ae (.val p.d),ae (.val (.bl free)),ae (.val (zbX c P.length j)),ae (.own ((au (k+1)).map fun i=>oD (c i (j+1)))),kv,fv])
  ((au P.length).map fun(k:Nat)=>D.int (1+(k:Int))) 0 _ (fun k d δ hd hδ=>by
   obtain⟨kv,fv,rfl⟩:=hδ
   rw[bj]
   rw[aG] at hd
   have hk:k<P.length:=by
    cases q:(au P.length)[k]? with
    | none=>rw[q] at hd;cases hd
    | some z=>have:=(aO.mp q).1;simpa using this
   rw[bE hk] at hd
   cases hd
   exact⟨_,_,rfl,.inl (zhT P p free fit cs tx j k c R W _ hk hP),_,_,rfl⟩) ⟨af,af,rfl⟩
 have hb1:b62 1:=zeD (by decide)
 have hb2:b62 ((P.length:Int)+1):=zeD (by lia)
 have hn:((P.length:Int)+1 - 1).toNat=P.length:=by lia
 have hl:P.length<=100000:=hP
 have c1:=W.c1
 have a2:atI ((au (P.length+1)).map fun i=>oD (c i j)) 0=ae (oD (c 0 j)):=by
  rw[zfV _ _ (by lia) (by simp)];rfl
 have p0:atI [D.int p.put,D.int p.left,D.int p.exch,D.int p.turn] 0=ae (.int p.put):=rfl
 simp only[ax,bY,bj] at w1
 simp only[cf (n:=0),gP,cZ,aH,cc,R.z] at w1
 simp only[zbX,Pr.d] at w1 c1 ⊢
 cases free with
 | true=>
  simp only[if_true,oD_s] at w1
  simp (disch:=omega) only[zam,zcz,stE,stN,jqc,jqa,zcc,zar,za7,ex2,zab,aB,ex1,eC,zeK,iOf,Int.reduceNeg,zds,asL,toN,zdv,jqi,jqj,jqe,c1,jqh,jqg,sqO,zdC,zaa,eIf,tOf,jqf,bOf,zag,zdx,zdL,zae,jra,jqp,jqq,Nat.reduceLeDiff,zc8,asV,zdr,iR2,eCB,zbw,ax,pI0,zcK,jre,hn,zaf,w1,zb0,zc4,zc7]
 | false=>
  simp only[bp,if_false] at w1
  simp (disch:=omega) only[zam,zcz,stE,stN,jqc,jqa,zcc,zar,za7,ex2,zab,aB,ex1,eC,zeK,iOf,Int.reduceNeg,zds,asL,toN,zdv,jqi,jqj,jqe,c1,jqh,jqg,sqO,zdC,zaa,eIf,tOf,jqf,bOf,zag,zdx,zdL,a2,p0,zae,zaJ,zbZ,asV,zdg,jqr,jrb,jqp,jqq,Nat.reduceLeDiff,zc8,jra,zdr,iR2,eCB,zbw,ax,pI0,zcK,jre,hn,zaf,w1,zb0,zc4,zc7]
open CE in
theorem cel_nxt(fit:Nat->Nat->Bool)(p:Pr)(free:Bool)(j:Nat):Nxt fit p free j (cel fit p free):=⟨cel_0s ..,fun _=>cel_ss ..⟩
open CE in
theorem zgC(P:List Str)(p:Pr)(free:Bool)(fit:Nat->Nat->Bool)(cs:List D)(tx:List Nat)(j:Nat)(W:Win (cel fit p free) fit P j cs tx)(hP:P.length<=100000) :
  zam [.lst cs,.tup (P.map .str),.str (mkS tx),p.d,.bl free]=ae (.val (zbX (cel fit p free) P.length (j+1))):=zhr P p free fit cs tx j _ (cel_nxt ..) W hP
theorem zh6{T:List Nat}{k:Nat}(h:k<T.length):T[k]? = ae (T.getD k 0):=by
 rw[bg h,dZ,bg h]
 rfl
open CE in
theorem win_take(P:List Str)(T:List Nat)(c:Nat->Nat->Option Int)(k:Nat)(hk:k<T.length)(hT:T.length<=100000):Win c (zeS P T) P k ((au (k+1)).map fun j=>zbX c P.length j) (T.take (k+1)):=by
 have hl:(T.take (k+1)).length=k+1:=by rw[dP];lia
 refine⟨by lia,zfw _ _,⟨T.getD k 0,?_,fun i _=>rfl⟩,?_⟩
 ·refine zhB ?_
  rw[gi,hl,d9 (by lia),show k+1 - 1=k by lia]
  exact zh6 hk
 ·by_cases h:k=0
  ·exact .inl ⟨by lia,h⟩
  ·obtain⟨n,rfl⟩:∃ n,k=n+1:=⟨k - 1,by lia⟩
   refine .inr ⟨by lia,by lia,rng_last2 _ n,T.getD n 0,?_,fun i _=>rfl⟩
   refine atI_m2 (by lia) ?_
   rw[hl,d9 (by lia),show n+1+1 - 2=n by lia]
   exact zh6 (by lia)
open CE in
theorem across_eq(c:Nat->Nat->Option Int)(m n i:Nat)(hi:i<=m)(hn:n<=100000):zcS [.lst ((au (n+1)).map fun j=>zbX c m j),.int (i:Int)]=ae (.val (zjE c n i)):=by
 have ec:eLC [1] (iB 0) zb3 zdi [ae (.bor ((au (n+1)).map fun j=>zbX c m j)),ae (.val (.int (i:Int)))]=ae (.own ((au (n+1)).map fun j=>oD (c i j))):=by
  refine zem (ds:=(au (n+1)).map fun j=>zbX c m j) rfl ?_ (by simp;lia)
  refine zf7 _ _ (by simp) (fun d _=>rfl) fun k d hd=>?_
  rw[aG] at hd
  obtain⟨j,e1,e2⟩:=dH.mp hd
  subst e2
  have ha:atI ((au (m+1)).map fun i=>oD (c i j)) (i:Int)=ae (oD (c i j)):=by
   rw[zfV _ _ (by lia) (by lia)];rfl
  refine⟨oD (c i j),?_,by rw[aG,e1];rfl⟩
  simp only[zdi,ex2,zab,cEn,zbX,jqn,jqf,jqe,jqx,jqa,zjr,jqo,zdx,zdL,iOf,ha,jqc,asV]
 have hl:n<=100000:=hn
 simp (disch:=omega) only[zcS,zcz,stE,stN,jqc,jqa,zec,zb0,eCB,zaa,aB,jqk,zae,toN,ec,zc4,asL,zc7,zjE]
open CE in
theorem cells_eq(P:List Str)(T:List Nat)(p:Pr)(free:Bool)(hP:P.length<=100000)(hT:T.length<=100000) :
  zdU [.tup (P.map .str),.str (mkS T),p.d,.bl free]=ae (.val (.tup ((au (P.length+1)).map fun i=>zjE (cel (zeS P T) p free) T.length i))):=by
 obtain⟨δ',w1,kv,rfl⟩:=ze2 (tg:=gNm 5) (f:=zd6) (fun k δ=>∃ kv,δ=[ae (.val (.tup (P.map .str))),ae (.val (.str (mkS T))),ae (.val p.d),ae (.val (.bl free)),ae (.own ((au (k+1)).map fun j=>zbX (cel (zeS P T) p free) P.length j)),kv])
  ((au T.length).map fun(k:Nat)=>D.int (1+(k:Int))) 0 _ (fun k d δ hd hδ=>by
   obtain⟨kv,rfl⟩:=hδ
   rw[bj]
   rw[aG] at hd
   have hk:k<T.length:=by
    cases q:(au T.length)[k]? with
    | none=>rw[q] at hd;cases hd
    | some z=>have:=(aO.mp q).1;simpa using this
   rw[bE hk] at hd
   cases hd
   have fe:=zgC P p free (zeS P T) ((au (k+1)).map fun j=>zbX (cel (zeS P T) p free) P.length j) (T.take (k+1)) k (win_take P T _ k hk hT) hP
   have hl:((au (k+1)).map fun j=>zbX (cel (zeS P T) p free) P.length j).length<1000000:=by simp;lia
   have e:(au (k+1+1)).map (fun j=>zbX (cel (zeS P T) p free) P.length j)=(au (k+1)).map (fun j=>zbX (cel (zeS P T) p free) P.length j) ++ [zbX (cel (zeS P T) p free) P.length (k+1)]:=by
    rw[cf (n:=k+1),bG];rfl
   have hc:zhH T af (ae (1+(k:Int)))=T.take (k+1):=by rw[zgZ _ (by lia),show(1+(k:Int)).toNat=k+1 by lia]
   have hm:T.length<=1000000:=by lia
   refine⟨_,_,rfl,.inl ?_,ae (.val (.int (1+(k:Int)))),rfl⟩
   rw[e]
   simp (disch:=omega) only[zd6,zf0,jqh,jqg,jqf,jqe,zag,zaa,zab,eSl,oNo,oSo,jqa,iOf,jqc,gSlS,sOf,zb2,zaO,zci,hc,zaf,zae,zaJ,zbZ,asL,asV,fe]) ⟨af,rfl⟩
 have hb1:b62 1:=zeD (by decide)
 have hb2:b62 ((T.length:Int)+1):=zeD (by lia)
 have hb3:b62 ((P.length:Int)+1):=zeD (by lia)
 have hn:((T.length:Int)+1 - 1).toNat=T.length:=by lia
 have hn3:((P.length:Int)+1).toNat=P.length+1:=by lia
 have f1:=zfY P p free (zeS P T) hP
 have hm:T.length<=1000000:=by lia
 have hm2:P.length<=100000:=hP
 simp only[ax,bY,bj] at w1
 simp only[cf (n:=0),gP,cZ,aH,cc] at w1
 have ec:eLC [4] (iR1 (zaa (ex2 zdv (eCB zbw (zaa (zab 0) zae)) (eC (.int 1))) zae)) zb3 zdZ [ae (.val (.tup (P.map .str))),ae (.val (.str (mkS T))),ae (.val p.d),ae (.val (.bl free)),ae (.own ((au (T.length+1)).map fun j=>zbX (cel (zeS P T) p free) P.length j)),kv] =
   ae (.own ((au (P.length+1)).map fun i=>zjE (cel (zeS P T) p free) T.length i)):=by
  refine zem (ds:=(au (P.length+1)).map fun(i:Nat)=>D.int (0+(i:Int))) ?_ ?_ (by simp;lia)
  ·simp (disch:=omega) only[iR1,zaa,ex2,eCB,zab,jqe,zae,jqc,jqa,zbw,zdL,ax,eC,zdv,pI0,iOf,zcK,hn3,zaf]
  ·refine zf7 _ _ (by simp) (fun d _=>rfl) fun k d hd=>?_
   rw[aG] at hd
   obtain⟨i,e1,e2⟩:=dH.mp hd
   subst e2
   have hi:i<=P.length:=by
    have:=dJ.mp (bJ e1)
    lia
   have ac:=across_eq (cel (zeS P T) p free) P.length T.length i hi hT
   refine⟨zjE (cel (zeS P T) p free) T.length i,?_,by rw[aG,e1];rfl⟩
   rw[show(0+(i:Int))=(i:Int) by lia]
   simp only[zdZ,zag,zaa,zab,cEn,jqn,jqf,jqe,jqx,jqa,zjr,jqo,zae,jqc,zaJ,zbZ,asL,asV,ac]
 simp only[zdv] at ec
 simp (disch:=omega) only[zdU,zcz,stE,stN,jqc,jqa,ze5,zar,za7,zdC,zaa,zag,zab,aB,zae,toN,zdv,jqi,jqj,jqe,jqf,zaJ,zbZ,asV,f1,jqp,jqq,Nat.reduceLeDiff,zc8,jra,jqh,jqg,sqO,zdr,iR2,eC,ex2,eCB,zg3,sOf,zb2,zaO,zaf,pI0,iOf,zcK,jre,hn,w1,zb0]
 simp (disch:=omega) only[ec,jqa,zc4,asL,jqc,zc7]
theorem alph:("abcdefghijklmnopqrstuvwxyz" : Str).cps.toList=(au 26).map fun i=>97+i:=by decide +kernel
theorem cell_turn(n m:Int)(sc i:Option Ent):zcO [sc,i,ae (.val (.int n)),ae (.val (.int m))]=ae (.nx [sc,i,ae (.val (.int ((n * 613+m) % 2147483629))),ae (.val (.int m))]):=by
 simp (disch:=omega) only[zcO,za7,ex2,zab,jqf,jqe,eC,zfl,pI,iOf,jqa,zdz,jrc,zaf,zdv,pI0,jqc,zdj,zbq,jqh,jqg,toN]
theorem zhX:∀ (ms:List Int) (n:Int) (sc i k:Option Ent),∃ n' k',loop (gNm 3) zcO (ms.map D.int) [sc,i,ae (.val (.int n)),k]=ae (.nx [sc,i,ae (.val (.int n')),k'])
 | [],n,_,_,k=>⟨n,k,rfl⟩
 | m :: ms,n,sc,i,k=>by
  obtain⟨n',k',h⟩:=zhX ms ((n * 613+m) % 2147483629) sc i (ae (.val (.int m)))
  exact⟨n',k',(zaX rfl (cell_turn n m sc i)).trans h⟩
theorem zf1(ns:List Int)(i:Int)(h0:0<=i)(h1:i<1000):∃ c,zbl [.lst (ns.map .int),.int i]=ae (.val (.int c)):=by
 by_cases hi:i<ns.length
 ·have hx:atI (ns.map D.int) i=ae (.int (ns.getD i.toNat 0)):=zel h0 (by rw[aG,bg (by lia)];simp[show i.toNat<ns.length by lia])
  refine⟨ns.getD i.toNat 0,?_⟩
  simp (disch:=omega) only[zbl,zcz,stE,stN,jqc,jqa,zdY,zar,fIf,tOf,ex2,zab,aB,eCB,zaa,zae,gLt,pI0,iOf,zb0,zds,asL,toN,fNx,zdv,zfl,zdj,jqi,jqj,jqf,jqe,zbw,zdL,ax,hi,jqy,bOf,hx,jra,sqO,zc7]
 ·obtain⟨n',k',e⟩:=zhX (ns.take 63) (104729+7919 * i * i) (ae (.bor (ns.map .int))) (ae (.val (.int i))) af
  have hcut:zhH (ns.map D.int) af (ae 63)=(ns.take 63).map D.int:=by rw[zgZ _ (by decide),List.map_take];rfl
  have hb:b64 i:=b64_of (by lia)
  have hb2:b64 ((n' * 48271+16807 * i) % 2147483647):=b64_of (by lia)
  refine⟨(n' * 48271+16807 * i) % 2147483647 * ((n' * 48271+16807 * i) % 2147483647) % 2147483629,?_⟩
  simp (disch:=omega) only[zbl,zcz,stE,stN,jqc,jqa,zdY,zar,fIf,tOf,ex2,zab,aB,eCB,zaa,zae,gLt,pI0,iOf,zb0,zds,asL,toN,fNx,zdv,zfl,zdj,jqi,jqj,jqf,jqe,zbw,zdL,ax,hi,jqz,bOf,jqr,jrb,sqO,za7,eC,pI,zdz,jrc,zaf,jqh,jqg,zdr,iL,eSl,oNo,oSo,gSlL,hcut,e,zbq,zc7]
theorem dig_turn1(b left:Int)(c m k:Option Ent)(fs:List D)(h0:0<b)(h1:b<1073741824)(hf:fs.length<1000000) :
  zbJ [c,ae (.val (.int b)),m,ae (.own fs),ae (.val (.int left)),k]=ae (.nx [c,ae (.val (.int b)),m,ae (.own (fs ++ [.int (left % b)])),ae (.val (.int (left / b))),k]):=by
 simp (disch:=omega) only[zbJ,zar,zf0,jqf,jqe,ex2,zab,zdj,pI,iOf,jqa,zbq,zaf,asV,zaO,jqh,jqg,zfo,sqO,za7,zdd,toN,jqc]
theorem dig_turn2(b left kk:Int)(c m:Option Ent)(fs:List D)(h0:0<b)(hk:-1000000<kk/\kk<1000000)(hf:fs.length<1000000) :
  ∃ left' d,za8 [c,ae (.val (.int b)),m,ae (.own fs),ae (.val (.int left)),ae (.val (.int kk))]=ae (.nx [c,ae (.val (.int b)),m,ae (.own (fs ++ [.int d])),ae (.val (.int left')),ae (.val (.int kk))])/\0<=d/\d<b:=by
 refine⟨(left * 69621+16807 * kk * kk+7) % 2147483629,((left * 69621+16807 * kk * kk+7) % 2147483629) * ((left * 69621+16807 * kk * kk+7) % 2147483629) % 2147483647 / 3 % b,?_,cv _ (by lia),cy _ h0⟩
 simp (disch:=omega) only[za8,zar,za7,ex2,zab,jqf,jqe,eC,zfl,pI,iOf,jqa,zdz,jrc,zaf,zdv,pI0,jqc,zdj,zbq,jqh,jqg,toN,zfo,sqO,zf0,zdd,asV,zaO]
theorem zht(b:Int)(c m:Option Ent)(h0:0<b)(h1:b<1073741824):∀ (ks:List Int) (fs:List Int) (left:Int) (k:Option Ent),fs.length+ks.length<=1000000->(∀ d ∈ fs,0<=d/\d<b) ->
  ∃ (fs':List Int) (left':Int) (k':Option Ent),loop (gNm 5) zbJ (ks.map D.int) [c,ae (.val (.int b)),m,ae (.own (fs.map .int)),ae (.val (.int left)),k]=ae (.nx [c,ae (.val (.int b)),m,ae (.own (fs'.map .int)),ae (.val (.int left')),k']) /\
   fs'.length=fs.length+ks.length/\∀ d ∈ fs',0<=d/\d<b
 | [],fs,left,k,_,hd=>⟨fs,left,k,rfl,rfl,hd⟩
 | kk :: ks,fs,left,k,hl,hd=>by
  simp only[aL] at hl
  obtain⟨fs',left',k',e,e1,e2⟩:=zht b c m h0 h1 ks (fs ++ [left % b]) (left / b) (ae (.val (.int kk))) (by simp;lia) (fun d h=>by
   rcases b6.mp h with h | h
   ·exact hd d h
   ·cases bL.mp h
    exact⟨cv _ (by lia),cy _ h0⟩)
  refine⟨fs',left',k',?_,by rw[e1];simp;lia,e2⟩
  rw[bG] at e
  exact(zaX rfl (dig_turn1 b left c m _ (fs.map .int) h0 h1 (by rw[ax];lia))).trans e
theorem zhD(b:Int)(c m:Option Ent)(h0:0<b):∀ (ks:List Int) (fs:List Int) (left:Int) (k:Option Ent),fs.length+ks.length<=1000000->(∀ d ∈ fs,0<=d/\d<b)->(∀ kk ∈ ks,-1000000<kk/\kk<1000000) ->
  ∃ (fs':List Int) (left':Int) (k':Option Ent),loop (gNm 5) za8 (ks.map D.int) [c,ae (.val (.int b)),m,ae (.own (fs.map .int)),ae (.val (.int left)),k]=ae (.nx [c,ae (.val (.int b)),m,ae (.own (fs'.map .int)),ae (.val (.int left')),k']) /\
   fs'.length=fs.length+ks.length/\∀ d ∈ fs',0<=d/\d<b
 | [],fs,left,k,_,hd,_=>⟨fs,left,k,rfl,rfl,hd⟩
 | kk :: ks,fs,left,k,hl,hd,hk=>by
  simp only[aL] at hl
  obtain⟨l2,d,t,t1,t2⟩:=dig_turn2 b left kk c m (fs.map .int) h0 (hk kk aC) (by rw[ax];lia)
  obtain⟨fs',left',k',e,e1,e2⟩:=zhD b c m h0 ks (fs ++ [d]) l2 (ae (.val (.int kk))) (by simp;lia) (fun d' h=>by
   rcases b6.mp h with h | h
   ·exact hd d' h
   ·cases bL.mp h
    exact⟨t1,t2⟩) fun x hx=>hk x (av _ hx)
  refine⟨fs',left',k',?_,by rw[e1];simp;lia,e2⟩
  rw[bG] at e
  exact(zaX rfl t).trans e
theorem zeW(c b m:Int)(h0:0<b)(h1:b<1073741824)(m0:0<=m)(m1:m<=1000) :
  ∃ fs:List Int,zaz [.int c,.int b,.int m]=ae (.own (fs.map .int))/\fs.length=m.toNat/\∀ d ∈ fs,0<=d/\d<b:=by
 have er:(au m.toNat).map (fun(i:Nat)=>D.int (0+(i:Int)))=((au m.toNat).map fun(i:Nat)=>(0+(i:Int))).map D.int:=by rw[cI];rfl
 have hrl:((au m.toNat).map fun(i:Nat)=>(0+(i:Int))).length=m.toNat:=by simp
 have hrb:∀ kk ∈ (au m.toNat).map (fun(i:Nat)=>(0+(i:Int))),-1000000<kk/\kk<1000000:=fun kk h=>by
  obtain⟨i,hi,rfl⟩:=cY.mp h
  have:=dJ.mp hi
  lia
 obtain⟨fs1,l1,k1,w1,n1,d1⟩:=zht b (ae (.val (.int c))) (ae (.val (.int m))) h0 h1 ((au m.toNat).map fun(i:Nat)=>(0+(i:Int))) [] c af (by rw[hrl];simp;lia) (by simp)
 rw[hrl] at n1
 simp only[cD,bj] at n1
 simp only[cc] at w1
 have hb:b62 m:=zeD ⟨by lia,by lia⟩
 have s1:za7 3 (zdC zae) [ae (.val (.int c)),ae (.val (.int b)),ae (.val (.int m)),af,af,af]=ae (.nx [ae (.val (.int c)),ae (.val (.int b)),ae (.val (.int m)),ae (.own []),af,af]):=rfl
 have s2:za7 4 (zab 0) [ae (.val (.int c)),ae (.val (.int b)),ae (.val (.int m)),ae (.own []),af,af]=ae (.nx [ae (.val (.int c)),ae (.val (.int b)),ae (.val (.int m)),ae (.own []),ae (.val (.int c)),af]):=rfl
 have it:∀ x3 x4 x5:Option Ent,iR1 (zaa (zab 2) zae) [ae (.val (.int c)),ae (.val (.int b)),ae (.val (.int m)),x3,x4,x5]=ae (((au m.toNat).map fun(i:Nat)=>(0+(i:Int))).map D.int):=fun x3 x4 x5=>by
  rw[<- er]
  exact zf3 hb
 have s3:zdr (iR1 (zaa (zab 2) zae)) (gNm 5) zbJ [ae (.val (.int c)),ae (.val (.int b)),ae (.val (.int m)),ae (.own []),ae (.val (.int c)),af]=ae (.nx [ae (.val (.int c)),ae (.val (.int b)),ae (.val (.int m)),ae (.own (fs1.map .int)),ae (.val (.int l1)),k1]):=by
  unfold zdr
  rw[it]
  exact w1
 have e0:zaz [.int c,.int b,.int m]=(zc9 [ae (.val (.int c)),ae (.val (.int b)),ae (.val (.int m)),af,af,af]).bind zc7:=rfl
 rw[e0]
 unfold zc9
 rw[zda s1,zda s2,zda s3]
 by_cases hm:0<m
 ·have hne:fs1 ≠ []:=by rintro rfl;simp at n1;lia
  obtain⟨ys,z,hz⟩:∃ ys z,fs1=ys ++ [z]:=⟨fs1.dropLast,fs1.getLast hne,(List.dropLast_concat_getLast hne).symm⟩
  have hlast:atI (fs1.map D.int) (-1)=ae (.int z):=zhB (by rw[hz];simp)
  by_cases hl:l1=0
  ·by_cases hz0:z=0
   ·obtain⟨fs2,l2,k2,w2,n2,d2⟩:=zhD b (ae (.val (.int c))) (ae (.val (.int m))) h0 ((au m.toNat).map fun(i:Nat)=>(0+(i:Int))) [] ((c * 48271+104729 * m) % 2147483647) k1 (by rw[hrl];simp;lia) (by simp) hrb
    rw[hrl] at n2
    simp only[cD,bj] at n2
    refine⟨fs2,?_,n2,d2⟩
    have s4:zdr (iR1 (zaa (zab 2) zae)) (gNm 5) za8 [ae (.val (.int c)),ae (.val (.int b)),ae (.val (.int m)),ae (.own []),ae (.val (.int ((c * 48271+104729 * m) % 2147483647))),k1]=ae (.nx [ae (.val (.int c)),ae (.val (.int b)),ae (.val (.int m)),ae (.own (fs2.map .int)),ae (.val (.int l2)),k2]):=by
     unfold zdr
     rw[it]
     exact w2
    generalize zdr (iR1 (zaa (zab 2) zae)) (gNm 5) za8=LL at *
    simp (disch:=omega) only[zar,fIf,zfB,tOf,ex2,zab,hl,jqf,jqe,eC,gGt,pI0,iOf,jqa,jqc,hm,jqy,bOf,gEq,zgu,ex1,zeK,Int.reduceNeg,zds,asL,hlast,hz0,jra,za7,zfl,pI,zdz,jrc,zaf,zdv,zdj,zbq,jqh,jqg,toN,sqO,zdC,zae,jqq,Nat.reduceLeDiff,zc8,s4,fNx,zdV,zc7]
   ·refine⟨fs1,?_,n1,d1⟩
    simp (disch:=omega) only[zar,fIf,zfB,tOf,ex2,zab,hl,jqf,jqe,eC,gGt,pI0,iOf,jqa,jqc,hm,jqy,bOf,gEq,zgu,ex1,zeK,Int.reduceNeg,zds,asL,hlast,hz0,jqz,jra,za7,zfl,pI,zdz,jrc,zaf,zdv,zdj,zbq,jqh,jqg,toN,sqO,zdC,zae,jqq,Nat.reduceLeDiff,zc8,zdr,iR1,zaa,zcK,fNx,jqr,jrb,zdV,zc7]
  ·refine⟨fs1,?_,n1,d1⟩
   simp (disch:=omega) only[zar,fIf,zfB,tOf,ex2,zab,jqf,jqe,eC,gGt,pI0,iOf,jqa,jqc,hm,jqy,bOf,gEq,zgu,hl,jqz,ex1,zeK,Int.reduceNeg,zds,asL,jqr,jrb,jra,za7,zfl,pI,zdz,jrc,zaf,zdv,zdj,zbq,jqh,jqg,toN,sqO,zdC,zae,jqq,Nat.reduceLeDiff,zc8,zdr,iR1,zaa,zcK,fNx,zdV,zc7]
 ·refine⟨fs1,?_,n1,d1⟩
  simp (disch:=omega) only[zar,fIf,zfB,tOf,ex2,zab,jqf,jqe,eC,gGt,pI0,iOf,jqa,jqc,hm,jqz,bOf,gEq,zgu,ex1,zeK,Int.reduceNeg,zds,asL,jqs,jqr,jrb,za7,zfl,pI,zdz,jrc,zaf,zdv,zdj,zbq,jqh,jqg,toN,sqO,zdC,zae,jqq,Nat.reduceLeDiff,zc8,jra,zdr,iR1,zaa,zcK,fNx,zdV,zc7]
theorem pool_el{A:Str}(hA:A.cps.toList=(au 26).map fun i=>97+i)(c:Int)(k:Int):∃ w:Nat,zbO [ae (.val (.int k)),ae (.val (.str A)),ae (.val (.int c))]=ae (.val (.str (mkS [w])))/\97<=w/\w<=122:=by
 have hx:atI A.cps.toList ((c / 4+k) % 26)=ae (97+((c / 4+k) % 26).toNat):=by
  refine zel (cv _ (by decide)) ?_
  rw[hA,aG,bE (by lia)]
  simp
 have hl:A.length<=1000000:=by
  have:=congrArg dF hA
  simp at this
  unfold hV
  lia
 refine⟨97+((c / 4+k) % 26).toNat,?_,by lia,by lia⟩
 simp (disch:=omega) only[zbO,ex2,zab,jqf,jqe,eC,zfo,pI,iOf,jqa,zdd,zaf,zdv,pI0,jqc,zdj,zbq,gIxS,sOf,zaO,hx]
theorem few_of(c:Int):∃ n:Nat,atI [D.int 26,D.int 2,D.int 3,D.int 4] (c % 4)=ae (.int n)/\2<=n/\n<=26:=by
 have h0:=cv c (show(4:Int) ≠ 0 by decide)
 have h1:=cy c (show(0:Int)<4 by decide)
 have:c % 4=0 \/ c % 4=1 \/ c % 4=2 \/ c % 4=3:=by lia
 rcases this with h | h | h | h <;> rw[h]
 ·exact⟨26,rfl,by decide,by decide⟩
 ·exact⟨2,rfl,by decide,by decide⟩
 ·exact⟨3,rfl,by decide,by decide⟩
 ·exact⟨4,rfl,by decide,by decide⟩
theorem pool_ok(c:Int):∃ ws:List Nat,zdu [.int c]=ae (.own (ws.map fun w=>.str (mkS [w])))/\2<=ws.length/\ws.length<=26/\∀ w ∈ ws,97<=w/\w<=122:=by
 obtain⟨n,hn,n2,n26⟩:=few_of c
 have hb62:b62 (n:Int):=zeD (by lia)
 obtain⟨A,eA⟩:∃ A:Str,A = "abcdefghijklmnopqrstuvwxyz" :=⟨_,rfl⟩
 have hA:A.cps.toList=(au 26).map fun i=>97+i:=by rw[eA];exact alph
 have cp:∀ ks:List Int,∃ ws:List Nat,zcA (fun d=>zb3 (cEn [1,0] [ae (.val (.int c)),ae (.val (.str A)),ae (.val (.int n))] d)) (fun d=>zbO (cEn [1,0] [ae (.val (.int c)),ae (.val (.str A)),ae (.val (.int n))] d)) (ks.map D.int)=ae (ws.map fun w=>.str (mkS [w]))/\ws.length=ks.length/\∀ w ∈ ws,97<=w/\w<=122:=by
  intro ks
  induction ks with
  | nil=>exact⟨[],rfl,rfl,by simp⟩
  | cons k ks ih=>
   obtain⟨ws,w1,w2,w3⟩:=ih
   obtain⟨w,q1,q2,q3⟩:=pool_el hA c k
   refine⟨w :: ws,?_,by simp[w2],fun x hx=>?_⟩
   ·rw[aH,zcA]
    have:zbO (cEn [1,0] [ae (.val (.int c)),ae (.val (.str A)),ae (.val (.int n))] (.int k))=ae (.val (.str (mkS [w]))):=q1
    rw[this,w1]
    rfl
   ·rcases aF.mp hx with rfl | hx
    ·exact⟨q2,q3⟩
    ·exact w3 x hx
 obtain⟨ws,w1,w2,w3⟩:=cp ((au n).map fun(i:Nat)=>(0+(i:Int)))
 rw[ax,bY] at w2
 refine⟨ws,?_,by lia,by lia,w3⟩
 have er:(au (n:Int).toNat).map (fun(i:Nat)=>D.int (0+(i:Int)))=((au n).map fun(i:Nat)=>(0+(i:Int))).map D.int:=by rw[cI];rfl
 have hl:ws.length<=1000000:=by lia
 have hE:eLC [1,0] (iR1 (zaa (zab 2) zae)) zb3 zbO [ae (.val (.int c)),ae (.val (.str A)),ae (.val (.int n))]=ae (.own (ws.map fun w=>.str (mkS [w]))):=
  zem (by simp (disch:=omega) only[iR1,zaa,zab,jqf,jqe,zae,jqc,jqa,iOf,zcK,er,zaf]) w1 (by rw[ax];exact hl)
 simp (disch:=omega) only[zdu,zcz,stE,stN,jqc,jqa,zeH,zar,za7,eC,<- eA,aB,toN,zdj,sqO,ex2,zdC,zaa,zae,jqp,jqq,Nat.reduceLeDiff,zc8,asV,jra,zab,pI,iOf,zbq,zaf,zds,asL,jqi,jqj,jqh,jqg,jqe,hn,zb0,hE,zc7]
theorem text_ok(ws:List Nat)(c m:Int)(h2:0<ws.length)(h26:ws.length<=26)(m0:0<=m)(m1:m<=1000) :
  ∃ w:List Nat,zdl [.lst (ws.map fun w=>.str (mkS [w])),.int c,.int m]=ae (.val (.str (mkS w)))/\w.length=m.toNat/\∀ x ∈ w,x ∈ ws:=by
 obtain⟨fs,q,hl,hd⟩:=zeW c ws.length m (by lia) (by lia) m0 m1
 have cp:∀ fs:List Int,(∀ d ∈ fs,0<=d/\d<(ws.length:Int))->∃ w:List Nat,zcA (fun d=>zb3 (cEn [0] [ae (.bor (ws.map fun w=>.str (mkS [w]))),ae (.val (.int c)),ae (.val (.int m))] d)) (fun d=>zb5 (cEn [0] [ae (.bor (ws.map fun w=>.str (mkS [w]))),ae (.val (.int c)),ae (.val (.int m))] d)) (fs.map D.int)=ae (w.map fun w=>.str (mkS [w]))/\w.length=fs.length/\∀ x ∈ w,x ∈ ws:=by
  intro fs
  induction fs with
  | nil=>intro _;exact⟨[],rfl,rfl,by simp⟩
  | cons k ks ih=>
   intro hd
   obtain⟨w,w1,w2,w3⟩:=ih fun d h=>hd d (av _ h)
   obtain⟨k0,k1⟩:=hd k aC
   have hx:atI (ws.map fun w=>D.str (mkS [w])) k=ae (.str (mkS [ws[k.toNat]'(by lia)])):=zel k0 (by rw[aG,bg (by lia)];rfl)
   have he:zb5 (cEn [0] [ae (.bor (ws.map fun w=>.str (mkS [w]))),ae (.val (.int c)),ae (.val (.int m))] (.int k))=ae (.val (.str (mkS [ws[k.toNat]'(by lia)]))):=by
    simp (disch:=omega) only[zb5,ex2,zab,cEn,jqn,jqe,jqx,jqa,zjr,jqo,jqf,zds,asL,iOf,hx,jqc]
   refine⟨ws[k.toNat]'(by lia) :: w,?_,by simp[w2],fun x hx=>?_⟩
   ·rw[aH,zcA,he,w1]
    rfl
   ·rcases aF.mp hx with rfl | hx
    ·exact eK _
    ·exact w3 x hx
 obtain⟨w,w1,w2,w3⟩:=cp fs hd
 refine⟨w,?_,by rw[w2,hl],w3⟩
 have hsum:((w.map fun c=>mkS [c]).map fun x=>x.length).sum+w.length * (mkS []).length<=1000000:=by
  have:((w.map fun c=>mkS [c]).map fun x=>x.length).sum=w.length:=by
   clear w1 w2 w3
   induction w with
   | nil=>rfl
   | cons c w ih=>rw[aH,aH,js,ih,zb2];simp;lia
  rw[this,zb2,w2,hl]
  simp
  lia
 have hw:w.length<=1000000:=by lia
 have hs:zhP (w.map fun c=>D.str (mkS [c]))=ae (w.map fun c=>mkS [c]):=by
  have:=zfS (w.map fun c=>mkS [c])
  rwa [cI] at this
 have hE:eLC [0] (iL (zag [.v,.v,.v] zaz (zaa (zab 1) (zaa (eCB zbw (zaa (zab 0) zae)) (zaa (zab 2) zae))))) zb3 zb5 [ae (.bor (ws.map fun w=>.str (mkS [w]))),ae (.val (.int c)),ae (.val (.int m))]=ae (.own (w.map fun w=>.str (mkS [w]))):=
  zem (by simp (disch:=omega) only[iL,zag,zaa,zab,jqf,jqe,eCB,zae,jqc,jqa,zbw,zdL,asL,ax,zaJ,zbZ,asV,q]) w1 (by rw[ax];exact hw)
 have he:(("" : Str))=mkS []:=rfl
 simp (disch:=omega) only[zdl,zcz,stE,stN,jqc,jqa,zeG,zb0,eBM,eC,he,zaa,aB,jqk,zae,zib,sOf,asL,toN,hE,hs,ax,zaO,zgs,zaf,zc7]
theorem ss2(x y:Nat):∃ w:List Nat,ssO [mkS [x],mkS [y]]=ae (.own ((w.map fun c=>mkS [c]).map .str))/\w.length<=2:=by
 have fin:∀ w:List Nat,(w.map fun c=>mkS [c]).Perm (TS.ddp [mkS [x],mkS [y]])->(w.map fun c=>mkS [c]).Pairwise TS.le->w.length<=2->∃ w:List Nat,ssO [mkS [x],mkS [y]]=ae (.own ((w.map fun c=>mkS [c]).map .str))/\w.length<=2:=fun w hp hl h2=>by
  refine⟨w,?_,h2⟩
  have hd:(TS.ddp [mkS [x],mkS [y]]).length<64:=by rw[<- hp.length_eq,ax];lia
  have h4:[mkS [x],mkS [y]].length<4000:=by show 2<4000;lia
  unfold ssO
  rw[TS.srt_eq hl hp,show(([mkS [x],mkS [y]].length<4000/\(TS.ddp [mkS [x],mkS [y]]).length<64))=True from eq_true ⟨h4,hd⟩,zaf]
 by_cases e:mkS [y]=mkS [x]
 ·refine fin [x] ?_ (.cons (by simp) .nil) (by simp)
  have:TS.ddp [mkS [x],mkS [y]]=[mkS [x]]:=by simp[TS.ddp,TS.put,e]
  rw[this]
  exact .refl _
 ·have hd:TS.ddp [mkS [x],mkS [y]]=[mkS [x],mkS [y]]:=by simp[TS.ddp,TS.put,e]
  cases h:gF (mkS [y]).cps.toList (mkS [x]).cps.toList with
  | false=>exact fin [x,y] (by rw[hd];exact .refl _) (.cons (by simp;exact h) (.cons (by simp) .nil)) (by simp)
  | true=>
   refine fin [y,x] (by rw[hd];exact .swap ..) (.cons ?_ (.cons (by simp) .nil)) (by simp)
   intro z hz
   rw[bL.mp hz]
   show gF (mkS [x]).cps.toList (mkS [y]).cps.toList=false
   simp only[zci,gF,gO,decide_eq_true_eq,dq,eF,eZ,decide_eq_false_iff_not] at h ⊢
   lia
theorem cls_turn(pl wy ar:Option Ent)(n:Int)(f:List Nat)(c:Nat)(hf:f.length<=1000):∃ f':List Nat,f'.length<=f.length+1 /\
  zbV [pl,ae (.val (.int n)),ar,wy,ae (.val (.str (mkS f))),ae (.val (.str (mkS [c])))]=ae (.nx [pl,ae (.val (.int (n / 2))),ar,wy,ae (.val (.str (mkS f'))),ae (.val (.str (mkS [c])))]):=by
 by_cases h:n % 2=1
 ·refine⟨f ++ [c],by simp,?_⟩
  have hl:(mkS f).length+(mkS [c]).length<=1000000:=by rw[zb2,zb2];simp;lia
  simp (disch:=omega) only[zbV,zar,fIf,tOf,ex2,zab,jqf,jqe,eC,zdj,pI,iOf,jqa,zbq,zaf,h,gEq,zgu,jqy,jqc,bOf,za7,zjl,sOf,zaO,zgY,jqh,jqg,toN,fNx,jra,zfo,sqO,zdd]
 ·refine⟨f,by lia,?_⟩
  simp (disch:=omega) only[zbV,zar,fIf,tOf,ex2,zab,jqf,jqe,eC,zdj,pI,iOf,jqa,zbq,zaf,gEq,zgu,h,jqz,jqc,bOf,za7,zjl,sOf,jqh,jqg,toN,fNx,jqr,jrb,zfo,sqO,zdd]
theorem ziZ(pl wy ar:Option Ent):∀ (cs:List Nat) (n:Int) (f:List Nat) (x5:Option Ent),f.length+cs.length<=1000->∃ (f':List Nat) (n':Int) (x5':Option Ent),f'.length<=f.length+cs.length /\
  loop (gNm 5) zbV (cs.map fun c=>D.str (mkS [c])) [pl,ae (.val (.int n)),ar,wy,ae (.val (.str (mkS f))),x5]=ae (.nx [pl,ae (.val (.int n')),ar,wy,ae (.val (.str (mkS f'))),x5'])
 | [],n,f,x5,_=>⟨f,n,x5,by simp,rfl⟩
 | c :: cs,n,f,x5,h=>by
  simp only[aL] at h
  obtain⟨f1,l1,t1⟩:=cls_turn pl wy ar n f c (by lia)
  obtain⟨f2,n2,x2,l2,t2⟩:=ziZ pl wy ar cs (n / 2) f1 (ae (.val (.str (mkS [c])))) (by lia)
  refine⟨f2,n2,x2,by simp only[aL];lia,?_⟩
  rw[aH]
  exact dw (zaX rfl t1) t2
theorem class_len(ws:List Nat)(d:Int)(h2:0<ws.length)(h26:ws.length<=26):∃ z:Str,z.cps.toList.length<=26/\zcY [.lst (ws.map fun w=>.str (mkS [w])),.int d]=ae (.val (.str z)):=by
 obtain⟨A,eA⟩:∃ A:Str,A = "abcdefghijklmnopqrstuvwxyz" :=⟨_,rfl⟩
 have hA:A.cps.toList=(au 26).map fun i=>97+i:=by rw[eA];exact alph
 have w0:=cv d (show(4:Int) ≠ 0 by decide)
 have w1:=cy d (show(0:Int)<4 by decide)
 have hz:(0:Int)<(ws.length:Int):=by lia
 have k0:=cv (d / 4) (show(ws.length:Int) ≠ 0 by lia)
 have k1:=cy (d / 4) hz
 have j0:=cv (d / 4 / 26) (show(ws.length:Int) ≠ 0 by lia)
 have j1:=cy (d / 4 / 26) hz
 have hx:=zfZ (fun w=>D.str (mkS [w])) 0 (xs:=ws) k0 (by lia)
 have hy:=zfZ (fun w=>D.str (mkS [w])) 0 (xs:=ws) j0 (by lia)
 generalize ws.getD (d / 4 % (ws.length:Int)).toNat 0=x at hx
 generalize ws.getD (d / 4 / 26 % (ws.length:Int)).toNat 0=y at hy
 have e0:zcY [.lst (ws.map fun w=>.str (mkS [w])),.int d]=(zbY [ae (.bor (ws.map fun w=>.str (mkS [w]))),ae (.val (.int (d / 4))),ae (.val (.str A)),ae (.val (.int (d % 4))),af,af]).bind zc7:=by
  subst eA
  refine congrArg (fun o=>cP o zc7) ((show zeo [ae (.bor (ws.map fun w=>.str (mkS [w]))),ae (.val (.int d)),af,af,af,af]=_ from zaQ (v:=.str "abcdefghijklmnopqrstuvwxyz") rfl).trans ((show zej _=_ from zaQ (modI rfl rfl (by decide))).trans (show zev _=_ from zaQ (divI rfl rfl (by decide)))))
 rw[e0]
 have hc:(ws.map fun w=>D.str (mkS [w])).length=ws.length:=ax _
 generalize ws.map (fun w=>D.str (mkS [w]))=cs at *
 clear e0 k0 k1 j0 j1 eA
 generalize d / 4=X at *
 generalize hw:d % 4=W at *
 suffices hF:∃ z δ',z.cps.toList.length<=26/\zbY [ae (.bor cs),ae (.val (.int X)),ae (.val (.str A)),ae (.val (.int W)),af,af]=ae (.rt (.val (.str z)) δ') by
  obtain⟨z,δ',h0,h⟩:=hF
  exact⟨z,h0,by rw[h];rfl⟩
 have ln:∀ x4 x5:Option Ent,eCB zbw (zaa (zab 0) zae) [ae (.bor cs),ae (.val (.int X)),ae (.val (.str A)),ae (.val (.int W)),x4,x5]=ae (.val (.int (ws.length:Int))):=fun _ _=>by rw[<- hc];rfl
 have t3:=andEq (E:=zab 3) (F:=ex2 zdj (zab 1) (eC (.int 5))) (δ:=[ae (.bor cs),ae (.val (.int X)),ae (.val (.str A)),ae (.val (.int W)),af,af]) rfl (modI rfl rfl (by decide))
 by_cases hA0:W=0/\X % 5=0
 ·rw[decide_eq_true hA0] at t3
  exact⟨A,_,by rw[hA,ax,bY];decide,show zbY _=_ from fSeqR ((fIfT t3).trans rfl)⟩
 ·rw[decide_eq_false hA0] at t3
  rw[show zbY _=_ from zda (fIfF t3)]
  have t4:=ltII (E:=zab 3) (F:=eC (.int 2)) (δ:=[ae (.bor cs),ae (.val (.int X)),ae (.val (.str A)),ae (.val (.int W)),af,af]) rfl rfl
  have v1:=ixLB (E:=zab 0) (F:=ex2 zdj (zab 1) (eCB zbw (zaa (zab 0) zae))) (δ:=[ae (.bor cs),ae (.val (.int X)),ae (.val (.str A)),ae (.val (.int W)),af,af]) rfl (modI rfl (ln _ _) hz) hx
  by_cases hB:W<2
  ·rw[decide_eq_true hB] at t4
   exact⟨mkS [x],_,by rw[zci];simp,show zdq _=_ from fSeqR ((fIfT t4).trans (zjy v1))⟩
  ·rw[decide_eq_false hB] at t4
   rw[show zdq _=_ from zda (fIfF t4)]
   have t5:=eqTT (E:=zab 3) (F:=eC (.int 2)) (δ:=[ae (.bor cs),ae (.val (.int X)),ae (.val (.str A)),ae (.val (.int W)),af,af]) rfl rfl
   by_cases hC:W=2
   ·rw[decide_eq_true hC] at t5
    obtain⟨w,z1,z3⟩:=ss2 x y
    have he:(("" : Str))=mkS []:=rfl
    have hs:=zfS [mkS [x],mkS [y]]
    simp only[aH,cc] at hs
    have hs2:=zfS (w.map fun c=>mkS [c])
    have hsum:((w.map fun c=>mkS [c]).map fun z=>z.length).sum=w.length:=by
     clear z1 z3 hs2
     induction w with
     | nil=>rfl
     | cons c w ih=>rw[aH,aH,js,ih,zb2,aL,aL,cD];lia
    have hl:((w.map fun c=>mkS [c]).map fun z=>z.length).sum+(w.map fun c=>mkS [c]).length * (mkS []).length<=1000000:=by rw[hsum,zb2,cD];lia
    have v2:=ixLB (E:=zab 0) (F:=ex2 zdj (ex2 zfo (zab 1) (eC (.int 26))) (eCB zbw (zaa (zab 0) zae))) (δ:=[ae (.bor cs),ae (.val (.int X)),ae (.val (.str A)),ae (.val (.int W)),af,af]) rfl (modI (divI rfl rfl (by decide)) (ln _ _) hz) hy
    refine⟨gB (mkS []) (w.map fun c=>mkS [c]),_,by rw[zgs,zci];lia,show zdp _=_ from fSeqR ((fIfT t5).trans (zjy ?_))⟩
    generalize ex2 zds (zab 0) (ex2 zdj (zab 1) (eCB zbw (zaa (zab 0) zae)))=E1 at *
    generalize ex2 zds (zab 0) (ex2 zdj (ex2 zfo (zab 1) (eC (.int 26))) (eCB zbw (zaa (zab 0) zae)))=E2 at *
    generalize w.map (fun c=>mkS [c])=zs at *
    simp (disch:=omega) only[eBM,eC,he,zaa,ex1,zdC,v1,v2,zae,jqc,jqa,jqp,jqq,Nat.reduceLeDiff,zc8,asV,jra,zfW,asL,hs,z1,zib,sOf,hs2,zaO,zaf]
   ·rw[decide_eq_false hC] at t5
    rw[show zdp _=_ from zda (fIfF t5)]
    obtain⟨f',n',x5',l',t'⟩:=ziZ (ae (.bor cs)) (ae (.val (.int W))) (ae (.val (.str A))) (A.cps.toList) (X % 67108863+1) [] af (by rw[hA];simp)
    refine⟨mkS f',?w,by rw[zci];rw[hA,ax,bY] at l';exact l',(show zeb _=_ from zaQ (v:=.str (mkS [])) rfl).trans ((show zet _=_ from zaQ (addI (modI rfl rfl (by decide)) rfl)).trans ((show zeq _=_ from forN rfl t').trans ?z))⟩
    case z=>rfl
theorem zir(ws:List Nat)(c m:Int)(h2:0<ws.length)(h26:ws.length<=26)(m0:0<=m)(m1:m<=1000) :
  ∃ P:List Str,zca [.lst (ws.map fun w=>.str (mkS [w])),.int c,.int m]=ae (.val (.tup (P.map .str)))/\P.length=m.toNat/\∀ z ∈ P,z.cps.toList.length<=26:=by
 obtain⟨fs,q,hl,hd⟩:=zeW c 268435452 m (by decide) (by decide) m0 m1
 have cp:∀ fs:List Int,∃ P:List Str,zcA (fun d=>zb3 (cEn [0] [ae (.bor (ws.map fun w=>.str (mkS [w]))),ae (.val (.int c)),ae (.val (.int m))] d)) (fun d=>zbr (cEn [0] [ae (.bor (ws.map fun w=>.str (mkS [w]))),ae (.val (.int c)),ae (.val (.int m))] d)) (fs.map D.int)=ae (P.map .str)/\P.length=fs.length/\∀ z ∈ P,z.cps.toList.length<=26:=by
  intro fs
  induction fs with
  | nil=>exact⟨[],rfl,rfl,fun _ h=>by cases h⟩
  | cons k ks ih=>
   obtain⟨P,w1,w2,w3⟩:=ih
   obtain⟨z,hz6,hz⟩:=class_len ws k h2 h26
   have he:zbr (cEn [0] [ae (.bor (ws.map fun w=>.str (mkS [w]))),ae (.val (.int c)),ae (.val (.int m))] (.int k))=ae (.val (.str z)):=by
    simp (disch:=omega) only[zbr,zag,zaa,zab,cEn,jqn,jqe,jqx,jqa,zjr,jqo,jqf,zae,jqc,zaJ,zbZ,asL,asV,hz]
   refine⟨z :: P,?_,by simp[w2],fun y hy=>(aF.mp hy).elim (fun e=>by rw[e];exact hz6) (w3 y)⟩
   rw[aH,zcA,he,w1]
   rfl
 obtain⟨P,w1,w2,w3⟩:=cp fs
 refine⟨P,?_,by rw[w2,hl],w3⟩
 have hw:P.length<=1000000:=by lia
 have e4:(4:Int) * 67108863=268435452:=by decide
 have hE:eLC [0] (iL (zag [.v,.v,.v] zaz (zaa (zab 1) (zaa (ex2 zfl (eC (.int 4)) (eC (.int 67108863))) (zaa (zab 2) zae))))) zb3 zbr [ae (.bor (ws.map fun w=>.str (mkS [w]))),ae (.val (.int c)),ae (.val (.int m))]=ae (.own (P.map .str)):=
  zem (by simp (disch:=omega) only[iL,zag,zaa,zab,jqf,jqe,ex2,eC,zfl,pI,iOf,jqa,zdz,jrc,zaf,e4,zae,jqc,zaJ,zbZ,asV,q]) w1 (by rw[ax];exact hw)
 simp only[zfl] at hE
 simp (disch:=omega) only[zca,zcz,stE,stN,jqc,jqa,zdK,zb0,eCB,zaa,zfl,aB,jqk,zae,toN,hE,zc4,asL,zc7]
section
open CE
variable (P:List Str)(T:List Nat)(p:Pr)
def siO(most:Int)(e:Nat)(prs:List D):OT:=.ins "Sight" ["most","end","pairs"] [.val (.int most),.val (.int (e:Int)),.lst prs]
def prD(most:Int)(x:Option Int)(j:Nat):List D:=match x with
 | some x=>if x<=most then [.tup [.int (j:Int),.int x]] else []
 | none=>[]
theorem zgR(most:Int)(x:Option Int)(j:Nat):(prD most x j).length<=1:=by
 unfold prD
 split
 ·split <;> simp
 ·simp
theorem zhc(most:Int):zay (.ins "Sight" [] []) [.int most]=ae (.non,siO most 0 []):=by
 simp only[zay,zfe,jqp,jqq,bj,zc2,zar,zeC,zab,jqn,jqo,aB,jqk,jqf,jqe,jqa,toO,oAt,zbo,jqj,jqg,sqO,eC,jqi,zdC,zae,Nat.reduceLeDiff,zc8,jqc,jra,ziV,siO]
 all_goals rfl
theorem zgb(most:Int)(x:Option Int)(e:Nat)(prs:List D)(hl:prs.length<100000):zau (siO most e prs) [oD x]=ae (.non,siO most (e+1) (prs ++ prD most x e)):=by
 have ee:((e+1:Nat):Int)=(e:Int)+1:=rfl
 unfold siO
 rw[ee]
 cases x with
 | none=>
  rw[show prD most af e=[] from rfl,bF]
  simp (disch:=omega) only[zau,zfe,oD_n,jqp,jqq,bj,zcV,zar,fIf,zfB,tOf,ex2,zab,jqn,jqo,aB,jqk,jqf,jqe,eC,ziD,isN,jqa,jqt,bOf,ze4,oAt,zbo,fE,gLe,pI0,iOf,jqc,jqb,jqr,jrb,fFApp,zhx,zaa,zae,Nat.reduceAdd,Nat.reduceLeDiff,zc8,asV,jra,jqg,lOf,jqh,zaO,zaf,fNx,zdv,sqO,zfr,toO,Nat.reduceLT,ziV]
 | some x=>
  by_cases h:x<=most
  ·rw[show prD most (ae x) e=[.tup [.int (e:Int),.int x]] from if_pos h]
   simp (disch:=omega) only[zau,zfe,oD_s,jqp,jqq,bj,zcV,zar,fIf,zfB,tOf,ex2,zab,jqn,jqo,aB,jqk,jqf,jqe,eC,ziD,isN,jqa,jqu,bOf,ze4,oAt,zbo,fE,gLe,pI0,iOf,jqc,h,jqy,jra,fFApp,zhx,zaa,zae,Nat.reduceAdd,Nat.reduceLeDiff,zc8,asV,jqg,lOf,jqh,zaO,zaf,fNx,zdv,sqO,zfr,toO,Nat.reduceLT,ziV]
  ·rw[show prD most (ae x) e=[] from if_neg h,bF]
   simp (disch:=omega) only[zau,zfe,oD_s,jqp,jqq,bj,zcV,zar,fIf,zfB,tOf,ex2,zab,jqn,jqo,aB,jqk,jqf,jqe,eC,ziD,isN,jqa,jqu,bOf,ze4,oAt,zbo,fE,gLe,pI0,iOf,jqc,h,jqz,jra,fFApp,zhx,zaa,zae,Nat.reduceAdd,Nat.reduceLeDiff,zc8,asV,jqg,lOf,jqh,zaO,zaf,fNx,jqr,jrb,zdv,sqO,zfr,toO,Nat.reduceLT,ziV]
theorem zia(most:Int)(e:Nat)(prs:List D):zbb (siO most e prs) []=ae (.tup prs,siO most e []):=by
 unfold siO
 simp (disch:=omega) only[zbb,zfe,jqq,zeh,zar,za7,eCB,zaa,ze4,oAt,jqo,aB,jqi,jqj,jqe,jqa,zbo,jqf,fE,zae,jqc,zc4,asL,jqh,jqg,toN,sqO,zfr,zdC,Nat.reduceLeDiff,zc8,jra,toO,jqp,bj,Nat.reduceAdd,Nat.reduceLT,zdV,ziV]
abbrev cT:Nat->Nat->Option Int:=cel (zeS P T) p true
def prR(most:Int)(a b:Nat):List D:=(cJ a (b - a)).flatMap fun j=>prD most (cT P T p P.length j) j
theorem zct(most:Int)(a:Nat):prR P T p most a a=[]:=by simp[prR]
theorem zeU(most:Int){a b:Nat}(h:a<=b):prR P T p most a (b+1)=prR P T p most a b ++ prD most (cT P T p P.length b) b:=by
 unfold prR
 rw[show b+1 - a=(b - a)+1 by lia,List.range'_concat,iq]
 simp[show a+(b - a)=b by lia]
theorem zff(most:Int)(a b:Nat):(prR P T p most a b).length<=b - a:=by
 have:∀ (l:List Nat),(l.flatMap fun j=>prD most (cT P T p P.length j) j).length<=l.length:=fun l=>by
  induction l with
  | nil=>simp
  | cons x l ih=>
   have:=zgR most (cT P T p P.length x) x
   simp only[iV,a9,aL]
   lia
 have h:=this (cJ a (b - a))
 rwa [List.length_range'] at h
theorem zf2(most:Int){a b d:Nat}(h1:a<=b)(h2:b<=d):prR P T p most a b ++ prR P T p most b d=prR P T p most a d:=by
 unfold prR
 rw[<- iq,show d - a=(b - a)+(d - b) by lia,<- List.range'_append_1,show a+(b - a)=b by lia]
theorem prD_mem{most:Int}{x:Option Int}{j:Nat}{d:D}(h:d ∈ prD most x j):∃ y:Int,d=.tup [.int (j:Int),.int y]/\y<=most:=by
 unfold prD at h
 split at h
 ·split at h
  ·simp at h;exact⟨_,h,by assumption⟩
  ·cases h
 ·cases h
theorem prR_mem{most:Int}{a b:Nat}{d:D}(h:d ∈ prR P T p most a b):∃ (j:Nat) (y:Int),a<=j/\j<b/\d=.tup [.int (j:Int),.int y]/\y<=most:=by
 obtain⟨j,h1,h2⟩:=List.mem_flatMap.mp h
 obtain⟨y,e,l⟩:=prD_mem h2
 rw[List.mem_range'_1] at h1
 exact⟨j,y,h1.1,by lia,e,l⟩
end
section
open CE
variable (P:List Str)(T:List Nat)(p:Pr)
theorem isC_si(most:Int)(e:Nat)(prs:List D):isC "Sight" ["most","end","pairs"] (siO most e prs)=ae [.val (.int most),.val (.int (e:Int)),.lst prs]:=zbo
theorem zgA(x0 x1 x3 y2:Option Ent)(most:Int):∀ (n a:Nat) (prs:List D) (x5:Option Ent),prs.length+n<100000->∃ y5,
  loop (gNm 5) zdA ((cJ a n).map fun(j:Nat)=>oD (cT P T p P.length j)) [x0,x1,y2,x3,ae (.obj (siO most a prs)),x5] =
  ae (.nx [x0,x1,y2,x3,ae (.obj (siO most (a+n) (prs ++ prR P T p most a (a+n)))),y5])
 | 0,a,prs,x5,_=>⟨x5,by rw[Nat.add_zero,zct,bF];rfl⟩
 | n+1,a,prs,x5,hl=>by
  have cm:=zgb most (cT P T p P.length a) a prs (by lia)
  have st:zdA [x0,x1,y2,x3,ae (.obj (siO most a prs)),ae (.val (oD (cT P T p P.length a)))]=ae (.nx [x0,x1,y2,x3,ae (.obj (siO most (a+1) (prs ++ prD most (cT P T p P.length a) a))),ae (.val (oD (cT P T p P.length a)))]):=by
   have c1:=isC_si most a prs
   generalize siO most a prs=o1 at *
   generalize siO most (a+1) (prs ++ prD most (cT P T p P.length a) a)=o2 at *
   generalize oD (cT P T p P.length a)=d at *
   simp only[zdA,fX,xM,oAt,jqf,jqe,zaa,zab,zae,jqc,jqa,zc8,asV,jqh,jqg,c1,cm]
  have pl:=zgR most (cT P T p P.length a) a
  obtain⟨y5,e⟩:=zgA x0 x1 x3 y2 most n (a+1) (prs ++ prD most (cT P T p P.length a) a) (ae (.val (oD (cT P T p P.length a)))) (by rw[a9];lia)
  refine⟨y5,dw (zaX rfl st) (dw e ?_)⟩
  have q:prD most (cT P T p P.length a) a=prR P T p most a (a+1):=by rw[zeU P T p most (aA a),zct,cZ]
  rw[cL,q,zf2 P T p most (by lia) (by lia),show a+1+n=a+(n+1) by lia]
variable (hP:P.length<=100000)(hT:T.length<=10000)
include hP hT
theorem ends_at:zbI [.tup (P.map .str),.str (mkS T),p.d]=ae (.val (.tup ((cJ 0 (T.length+1)).map fun(j:Nat)=>oD (cT P T p P.length j)))):=by
 have c:=cells_eq P T p true hP (by lia)
 have l1:=zfw (fun i=>zjE (cel (zeS P T) p true) T.length i) P.length
 rw[<- dj]
 simp (disch:=omega) only[zbI,zcz,stE,stN,jqc,jqa,zc0,zb0,ex2,zag,zaa,zab,aB,jqk,eC,zae,ex1,zeK,iOf,Int.reduceNeg,zdx,zdL,toN,jqe,jqf,zaJ,zbZ,asV,c,l1,zc7]
 rfl
theorem ends_ok(most:Int):zcW [.tup (P.map .str),.str (mkS T),.int most,p.d]=ae (.val (.tup (prR P T p most 0 (T.length+1)))):=by
 have e:=ends_at P T p hP hT
 obtain⟨y5,lo⟩:=zgA P T p (ae (.val (.tup (P.map .str)))) (ae (.val (.str (mkS T)))) (ae (.val p.d)) (ae (.val (.int most))) most (T.length+1) 0 [] af (by simp;lia)
 rw[cZ,bj] at lo
 have t:=zia most (T.length+1) (prR P T p most 0 (T.length+1))
 have i1:=zhc most
 have c2:=isC_si most (T.length+1) (prR P T p most 0 (T.length+1))
 generalize (cJ 0 (T.length+1)).map (fun(j:Nat)=>oD (cT P T p P.length j))=ls at *
 generalize siO most 0 []=o1 at *
 generalize siO most (T.length+1) (prR P T p most 0 (T.length+1))=o2 at *
 generalize siO most (T.length+1) []=o3 at *
 generalize prR P T p most 0 (T.length+1)=rr at *
 generalize P.map D.str=pp at *
 simp only[zcW,zcz,stE,stN,jqc,jqa,zfP,zar,zhW,ze8,zaa,zab,aB,zae,jqi,jqj,jqf,jqe,zc8,asV,i1,jqh,jqg,sqO,zdr,iT,zag,zaJ,zbZ,e,zdL,lo,zit,xM,oAt,c2,t,zc7]
end
section
theorem zgt(i:Int):zbN [.int i,.int i]=ae (.val (.bl true)):=by
 have t1:("int" == "int")=true:=rfl
 have t2:("int" == "bool")=false:=rfl
 have t3:("int" == "tuple")=false:=rfl
 have t4:("bool" == "int")=false:=rfl
 simp (disch:=omega) only[zbN,zcz,stE,stN,jqc,jqa,zbe,zar,fIf,tOf,ex1,zab,aB,fOr,zi7,ex2,eCB,zaa,zae,gNe,zgu,zb0,eC,toN,fNx,jqi,jqj,jqf,jqe,gIsi,isiD,tyN,t3,t2,dq,eF,bOf,jqu,zbw,zdL,asL,jqd,jqb,jra,sqO,jqr,jrb,eAnd,t1,t4,gNot,gEq,jqy,zc7]
theorem zgw{rg:List D->Option Ent}(a b:Option Ent):∀ (ds:List D) (x y:Option Ent),(∀ d ∈ ds,rg [d,d]=ae (.val (.bl true)))->∃ x' y',loop (gTp (zcB (gNm 2) (zcB (gNm 3) zgq))) (zcq rg) ((ds.zip ds).map fun p=>D.tup [p.1,p.2]) [a,b,x,y]=ae (.nx [a,b,x',y'])
 | [],x,y,_=>⟨x,y,rfl⟩
 | d :: ds,x,y,h=>by
  have h1:=h d aC
  have st:zcq rg [a,b,ae (.val d),ae (.val d)]=ae (.nx [a,b,ae (.val d),ae (.val d)]):=by
   simp only[zcq,fIf,zi7,tOf,zag,zaa,zab,jqf,jqe,zae,jqc,jqa,zaJ,zbZ,asV,h1,bOf,jqt,zb0,eC,toN,fNx,jqr,jrb]
  obtain⟨x',y',e⟩:=zgw a b ds (ae (.val d)) (ae (.val d)) fun z hz=>h z (av _ hz)
  exact⟨x',y',dw (zaX rfl st) e⟩
theorem zhw{rg:List D->Option Ent}(ds:List D)(hl:ds.length<=100000)(h:∀ d ∈ ds,rg [d,d]=ae (.val (.bl true))):zcz [.v,.v] 2 (zbe rg) [.tup ds,.tup ds]=ae (.val (.bl true)):=by
 obtain⟨x',y',e⟩:=zgw (ae (.val (.tup ds))) (ae (.val (.tup ds))) ds af af h
 have t1:("tuple" == "tuple")=true:=rfl
 generalize hz:(ds.zip ds).map (fun p=>D.tup [p.1,p.2])=zz at *
 simp (disch:=omega) only[zcz,stE,stN,jqc,jqa,zbe,zar,fIf,tOf,ex1,zab,aB,fOr,zi7,ex2,eCB,zaa,zae,gNe,zgu,zb0,eC,toN,fNx,jqi,jqj,jqf,jqe,gIsi,isiD,tyN,t1,Bool.true_or,bOf,jqt,zbw,zdL,jqy,jqr,jrb,sqO,zdr,iZip,qV,qOf,hz,e,jra,zc7]
theorem zim(ds:List D)(hl:ds.length<=100000)(h:∀ d ∈ ds,∃ i j:Int,d=.tup [.int i,.int j]):zcI [.tup ds,.tup ds]=ae (.val (.bl true)):=by
 unfold zcI
 refine zhw ds hl fun d hd=>?_
 obtain⟨i,j,rfl⟩:=h d hd
 unfold zb9
 refine zhw [.int i,.int j] (by simp) fun d hd=>?_
 simp only[aF,bw,or_false] at hd
 rcases hd with rfl | rfl
 ·exact zgt _
 ·exact zgt _
end
theorem pc_turn(x1:Option Ent)(t:List Nat)(acc:List D)(k:Int)(x3:Option Ent)(h0:0<=k)(ht:t.length<=100000)(ha:acc.length<100000) :
  zcf [ae (.val (.str (mkS t))),x1,ae (.own acc),ae (.val (.int k))]=ae (.nx [ae (.val (.str (mkS (t.drop k.toNat)))),x1,ae (.own (acc ++ [.str (mkS (t.take k.toNat))])),ae (.val (.int k))]):=by
 have ca:zhH t af (ae k)=t.take k.toNat:=zgZ t h0
 have cb:zhH t (ae k) af=t.drop k.toNat:=zje t h0
 have hl:t.length<=1000000:=by lia
 simp (disch:=omega) only[zcf,zar,zf0,jqf,jqe,eSl,zab,oNo,oSo,jqa,iOf,jqc,gSlS,sOf,zb2,zaO,zci,ca,zaf,asV,jqh,jqg,sqO,za7,cb,toN]
def pcD(w:List Nat):D:=.str (mkS w)
theorem pc_loop(x1:Option Ent):∀ (ks:List Int) (t:List Nat) (acc:List (List Nat)) (x3:Option Ent),(∀ k ∈ ks,0<=k)->t.length<=100000->acc.length+ks.length<10000->∃ (t':List Nat) (acc':List (List Nat)) (y3:Option Ent),
  loop (gNm 3) zcf (ks.map D.int) [ae (.val (.str (mkS t))),x1,ae (.own (acc.map pcD)),x3]=ae (.nx [ae (.val (.str (mkS t'))),x1,ae (.own (acc'.map pcD)),y3])/\acc'.flatten ++ t'=acc.flatten ++ t/\t'.length<=t.length/\acc'.length=acc.length+ks.length
 | [],t,acc,x3,_,_,_=>⟨t,acc,x3,rfl,rfl,aA _,rfl⟩
 | k :: ks,t,acc,x3,hk,ht,ha=>by
  simp only[aL] at ha
  have st:=pc_turn x1 t (acc.map pcD) k x3 (hk k aC) ht (by rw[ax];lia)
  have e0:acc.map pcD ++ [.str (mkS (t.take k.toNat))]=(acc ++ [t.take k.toNat]).map pcD:=by simp[pcD]
  rw[e0] at st
  obtain⟨t',acc',y3,e,f,l,n⟩:=pc_loop x1 ks (t.drop k.toNat) (acc ++ [t.take k.toNat]) (ae (.val (.int k))) (fun z hz=>hk z (av _ hz)) (by rw[dQ];lia) (by rw[a9,eQ];lia)
  refine⟨t',acc',y3,dw (zaX rfl st) e,?_,?_,?_⟩
  ·rw[f];simp
  ·rw[dQ] at l;lia
  ·rw[n,a9,eQ,aL];lia
section
open CE
variable (P:List Str)(T:List Nat)(p:Pr)
def zjm(c:Nat->Nat->Option Int)(m:Nat):Nat->List D
 | 0=>[zbX c m 0]
 | j+1=>[zbX c m j,zbX c m (j+1)]
def zeY(T:List Nat):Nat->List Nat
 | 0=>[]
 | j+1=>[T.getD j 0]
def fiO(most:Int)(j:Nat)(prs:List D):OT:=.ins "Finder" ["pattern","prices","columns","last_sign","sight"] [.val (.tup (P.map .str)),.val p.d,.lst (zjm (cT P T p) P.length j),.val (.str (mkS (zeY T j))),siO most (j+1) prs]
variable (hP:P.length<=100000)(hT:T.length<=10000)
theorem last_of(c:Nat->Nat->Option Int)(m j:Nat):atI ((au (m+1)).map fun i=>oD (c i j)) (-1)=ae (oD (c m j)):=zfw (fun i=>oD (c i j)) m
include hP
theorem finit_ok(most:Int):zbu (.ins "Finder" [] []) [.tup (P.map .str),.int most,p.d]=ae (.non,fiO P T p most 0 (prR P T p most 0 1)):=by
 have a1:=zfY P p true (zeS P T) hP
 have a2:=zhc most
 have a3:=zgb most (cT P T p P.length 0) 0 [] (by simp)
 have e1:prR P T p most 0 1=[] ++ prD most (cT P T p P.length 0) 0:=by rw[zeU P T p most (aA 0),zct]
 have l1:=last_of (cT P T p) P.length 0
 have l0:∀ d:D,atI [d] (-1)=ae d:=fun _=>rfl
 rw[e1]
 unfold fiO zjm zeY
 unfold siO at *
 unfold zbX at *
 simp only[cT] at *
 generalize (au (P.length+1)).map (fun i=>oD (cel (zeS P T) p true i 0))=col at *
 generalize P.map D.str=pp at *
 simp only[zbu,zfe,jqp,jqq,bj,Nat.reduceAdd,zcH,zar,zeC,zab,jqn,jqo,aB,jqk,jqf,jqe,jqa,toO,oAt,zbo,jqj,jqg,sqO,jqi,zdC,zaa,zag,zae,jqc,zaJ,zbZ,asV,a1,Nat.reduceLeDiff,zc8,jra,eC,ze8,a2,fX,xMF,ex2,ze4,fE,ex1,zeK,iOf,Int.reduceNeg,zds,asL,l0,zdx,zdL,l1,jqh,a3,ziV]
 rfl
theorem read_ok(hT:T.length<=10000)(most:Int)(j:Nat)(hj:j<T.length)(prs:List D)(hl:prs.length<100000) :
  zcr (fiO P T p most j prs) [.str (mkS [T.getD j 0])]=ae (.non,fiO P T p most (j+1) (prs ++ prD most (cT P T p P.length (j+1)) (j+1))):=by
 have W:Win (cT P T p) (zeS P T) P j (zjm (cT P T p) P.length j) (zeY T j ++ [T.getD j 0]):=by
  cases j with
  | zero=>exact⟨by simp[zeY],rfl,⟨T.getD 0 0,rfl,fun i _=>rfl⟩,.inl ⟨by simp[zeY],rfl⟩⟩
  | succ j=>exact⟨by simp[zeY],rfl,⟨T.getD (j+1) 0,rfl,fun i _=>rfl⟩,.inr ⟨by simp[zeY],by lia,rfl,T.getD j 0,rfl,fun i _=>rfl⟩⟩
 have a1:=zgC P p true (zeS P T) _ _ j W hP
 have a3:=zgb most (cT P T p P.length (j+1)) (j+1) prs hl
 have l1:=last_of (cT P T p) P.length (j+1)
 have l2:=W.c1
 have e2:zjm (cT P T p) P.length (j+1)=[zbX (cT P T p) P.length j,zbX (cT P T p) P.length (j+1)]:=rfl
 have e3:zeY T (j+1)=[T.getD j 0]:=rfl
 have e4:mkS (zeY T j ++ [T.getD j 0])=mkS (zeY T j) ++ mkS [T.getD j 0]:=(zgY _ _).symm
 have hs:(mkS (zeY T j)).length+(mkS [T.getD j 0]).length<=1000000:=by cases j <;> simp[zeY,zb2]
 rw[e4] at a1
 unfold fiO
 rw[e2,e3]
 unfold siO at *
 unfold zbX at a1 l2 ⊢
 simp only[cT] at *
 generalize (au (P.length+1)).map (fun i=>oD (cel (zeS P T) p true i (j+1)))=col at *
 generalize (au (P.length+1)).map (fun i=>oD (cel (zeS P T) p true i j))=col0 at *
 generalize zjm (cel (zeS P T) p true) P.length j=fc at *
 generalize P.map D.str=pp at *
 generalize mkS (zeY T j)=ls at *
 generalize mkS [T.getD j 0]=sg at *
 simp (disch:=omega) only[zcr,zfe,jqp,jqq,bj,zd1,zar,za7,zag,zaa,ze4,oAt,jqn,jqo,aB,jqi,jqj,jqe,jqa,zbo,jqf,fE,ex2,zab,zjl,sOf,zaO,zaf,eC,zae,jqc,zaJ,zbZ,asL,asV,a1,jqh,jqg,toN,sqO,zfr,zdC,ex1,zeK,iOf,Int.reduceNeg,zds,l2,Nat.reduceAdd,Nat.reduceLeDiff,zc8,jra,toO,Nat.reduceLT,fX,xMF,zdx,zdL,l1,a3,ziV]
end
section
open CE
variable (P:List Str)(T:List Nat)(p:Pr)
variable (hP:P.length<=100000)(hT:T.length<=10000)
include hP hT
theorem zhy(most:Int)(x1:Option Ent):∀ (w:List Nat) (j:Nat) (prs:List D) (v2:Option Ent),j+w.length<=T.length->w=(T.drop j).take w.length->prs.length+w.length<100000->∃ y2,
  loop (gNm 2) zcd (w.map fun c=>D.str (mkS [c])) [ae (.obj (fiO P T p most j prs)),x1,v2]=ae (.nx [ae (.obj (fiO P T p most (j+w.length) (prs ++ prR P T p most (j+1) (j+w.length+1)))),x1,y2])
 | [],j,prs,v2,_,_,_=>⟨v2,by simp[loop,zct]⟩
 | c :: w,j,prs,v2,hl,hw,hp=>by
  simp only[aL] at hl hw hp
  have hj:j<T.length:=by lia
  rw[bQ hj,ir,fC] at hw
  have hc:c=T.getD j 0:=by rw[hw.1];simp[hj]
  have r:=read_ok P T p hP hT most j hj prs (by lia)
  have pl:=zgR most (cT P T p P.length (j+1)) (j+1)
  have st:zcd [ae (.obj (fiO P T p most j prs)),x1,ae (.val (.str (mkS [c])))]=ae (.nx [ae (.obj (fiO P T p most (j+1) (prs ++ prD most (cT P T p P.length (j+1)) (j+1)))),x1,ae (.val (.str (mkS [c])))]):=by
   rw[hc]
   unfold fiO at *
   generalize P.map D.str=pp at *
   simp only[zcd,fX,xM,oAt,jqe,zaa,zab,jqf,zae,jqc,jqa,zc8,asV,jqg,zbo,r]
  obtain⟨y2,e⟩:=zhy most x1 w (j+1) (prs ++ prD most (cT P T p P.length (j+1)) (j+1)) (ae (.val (.str (mkS [c])))) (by lia) hw.2 (by rw[a9];lia)
  refine⟨y2,dw (zaX rfl st) (dw e ?_)⟩
  rw[aL,show j+1+w.length=j+(w.length+1) by lia,cL]
  have q:prD most (cT P T p P.length (j+1)) (j+1)=prR P T p most (j+1) (j+1+1):=by rw[zeU P T p most (aA (j+1)),zct,cZ]
  rw[q,zf2 P T p most (by lia) (by lia)]
theorem feed_ok(most:Int)(w:List Nat)(j:Nat)(prs:List D)(h1:j+w.length<=T.length)(h2:w=(T.drop j).take w.length)(h3:prs.length+w.length<100000) :
  zcp (fiO P T p most j prs) [.str (mkS w)]=ae (.tup (prs ++ prR P T p most (j+1) (j+w.length+1)),fiO P T p most (j+w.length) []):=by
 obtain⟨y2,e⟩:=zhy P T p hP hT most (ae (.val (.str (mkS w)))) w j prs af h1 h2 h3
 have t:=zia most (j+w.length+1) (prs ++ prR P T p most (j+1) (j+w.length+1))
 unfold fiO at *
 unfold siO at *
 generalize P.map D.str=pp at *
 generalize prs ++ prR P T p most (j+1) (j+w.length+1)=rr at *
 simp only[zcp,zfe,jqp,jqq,bj,zd7,zar,zdr,iS,zab,jqn,jqo,aB,jqi,jqj,jqf,jqe,sOf,jqa,jqc,zci,e,sqO,zit,xMF,oAt,zbo,zae,zc8,jqg,jqh,t,ziV,jra]
end
section
open CE BT
theorem band_nat(a b:Nat):gc (a:Int) (b:Int)=((a &&& b:Nat):Int):=by
 unfold gc
 rw[decide_eq_true (eu a),decide_eq_true (eu b)]
 rfl
theorem bnot2(a:Int):cC (cC a)=a:=by unfold cC;lia
theorem bor_nat(a b:Nat):ja (a:Int) (b:Int)=((a ||| b:Nat):Int):=by
 unfold ja gc
 rw[decide_eq_false (show ¬ 0<=cC (a:Int) by unfold cC;lia),decide_eq_false (show ¬ 0<=cC (b:Int) by unfold cC;lia)]
 show cC (cC _)=_
 rw[bnot2,bnot2,bnot2]
 rfl
section
variable {E F:FE}{δ:En}{a b:Nat}
theorem bandI(h1:E δ=ae (.val (.int (a:Int))))(h2:F δ=ae (.val (.int (b:Int)))):ex2 gBnd E F δ=ae (.val (.int ((a &&& b:Nat):Int))):=by
 unfold ex2;rw[h1,h2];exact congrArg (fun i=>ae (Ent.val (.int i))) (band_nat a b)
theorem borI(h1:E δ=ae (.val (.int (a:Int))))(h2:F δ=ae (.val (.int (b:Int)))):ex2 gBor E F δ=ae (.val (.int ((a ||| b:Nat):Int))):=by
 unfold ex2;rw[h1,h2];exact congrArg (fun i=>ae (Ent.val (.int i))) (bor_nat a b)
theorem shlI(h1:E δ=ae (.val (.int (a:Int))))(h2:F δ=ae (.val (.int 1)))(ha:a<18446744073709551616):ex2 gShl E F δ=ae (.val (.int ((a <<< 1:Nat):Int))):=by
 unfold ex2;rw[h1,h2]
 refine(zf3 (show shB (a:Int) 1 from ⟨⟨by decide,by decide⟩,by lia⟩)).trans ?_
 rw[Nat.shiftLeft_eq,Int.natCast_mul]
 rfl
theorem powI(h:F δ=ae (.val (.int (a:Int))))(ha:a<=1000000):ex2 gShl (eC (.int 1)) F δ=ae (.val (.int ((2 ^ a:Nat):Int))):=by
 unfold ex2;rw[h]
 refine(zf3 (show shB 1 (a:Int) from ⟨⟨by lia,by lia⟩,by decide⟩)).trans ?_
 show ae (Ent.val (.int ((1:Int) * 2 ^ (a:Int).toNat)))=_
 rw[Int.one_mul,c7,Int.natCast_pow]
 rfl
theorem addS(h:E δ=ae (.val (.int (a:Int)))):ex2 zdv E (eC (.int 1)) δ=ae (.val (.int ((a+1:Nat):Int))):=addI (F:=eC (.int 1)) (b:=1) h rfl
end
theorem neZ{E:FE}{δ:En}{a:Nat}(h:E δ=ae (.val (.int (a:Int)))):tOf (ex2 gNe E (eC (.int 0))) δ=ae (!decide (a=0)):=by
 have e:decide ((a:Int)=0)=decide (a=0):=decide_eq_decide.mpr (by lia)
 rw[<- e]
 by_cases c:(a:Int)=0 <;> simp only[tOf,ex2,h,c,eC,gNe,zgu,jqa,jqy,jqc,jqt,bOf,jqz,jqu]
theorem at_rng(f:Nat->D){n a:Nat}{x:Int}(h:x=(a:Int))(ha:a<n):atI ((au n).map f) x=ae (f a):=by
 subst h
 refine atI_of ?_
 rw[aG,bE ha]
 rfl
theorem zii(f:Nat->D)(n:Nat):ziN ((au n).map f)=(au n).map fun(s:Nat)=>D.tup [.int (s:Int),f s]:=by
 unfold ziN
 refine List.ext_getElem? fun i=>?_
 simp only[aG,fw]
 by_cases h:i<n
 ·rw[bE h];simp
 ·rw[dg (by simp;lia)];rfl
theorem upto_ok(n:Nat)(hn:n<=1000):zaH [.int (n:Int)]=ae (.val (.int ((2 ^ (n+1) - 1:Nat):Int))):=by
 have q:((2 ^ (n+1):Nat):Int) - 1=((2 ^ (n+1) - 1:Nat):Int):=by
  have:=jj (n+1)
  lia
 have e:zen [ae (.val (.int (n:Int)))]=ae (.rt (.val (.int ((2 ^ (n+1) - 1:Nat):Int))) [ae (.val (.int (n:Int)))]):=by
  rw[<- q]
  exact zjy (subI (powI (a:=n+1) (addS rfl) (by lia)) rfl)
 exact(congrArg (fun o=>cP o zc7) e).trans rfl
variable (fit:Nat->Nat->Bool)
def zea(m j s:Nat):D:=.int ((row fit m j s:Nat):Int)
def zcX(m k j:Nat):List D:=(au (k+1)).map (zea fit m j)
theorem first_ok(m k:Nat)(most:Int)(hk:(if most<(m:Int) then most else (m:Int))=(k:Int))(hm:m<=60):zdy [.int (m:Int),.int most]=ae (.own (zcX fit m k 0)):=by
 have hkm:k<=m:=by split at hk <;> lia
 have hi:iR1 (zaa (ex2 zdv (eCB zjc (zaa (zab 0) (zaa (zab 1) zae))) (eC (.int 1))) zae) [ae (.val (.int (m:Int))),ae (.val (.int most))]=ae ((au (k+1)).map fun(i:Nat)=>D.int (0+i)):=by
  have h1:eCB zjc (zaa (zab 0) (zaa (zab 1) zae)) [ae (.val (.int (m:Int))),ae (.val (.int most))]=ae (.val (.int (k:Int))):=by rw[<- hk];rfl
  have h2:=addI (F:=eC (.int 1)) h1 rfl
  have h3:((k:Int)+1).toNat=k+1:=by lia
  generalize ex2 zdv (eCB zjc (zaa (zab 0) (zaa (zab 1) zae))) (eC (.int 1))=EE at *
  simp (disch:=omega) only[iR1,zaa,h2,zae,jqc,jqa,iOf,zcK,h3,zaf]
 have hE:eLC [] (iR1 (zaa (ex2 zdv (eCB zjc (zaa (zab 0) (zaa (zab 1) zae))) (eC (.int 1))) zae)) zb3 zek [ae (.val (.int (m:Int))),ae (.val (.int most))]=ae (.own (zcX fit m k 0)):=by
  refine zem hi (zf7 _ _ (by simp[zcX]) (fun _ _=>rfl) fun i d h=>?_) (by simp[zcX];lia)
  rw[aG] at h
  by_cases hik:i<k+1
  ·rw[bE hik] at h
   cases h
   refine⟨zea fit m 0 i,?_,by rw[zcX,aG,bE hik];rfl⟩
   have u:=upto_ok i (by lia)
   rw[<- first_row fit (show i<=m by lia)] at u
   show(zaH [.int (0+(i:Int))]).bind asV=_
   rw[Int.zero_add,u]
   rfl
  ·rw[dg (by simp;lia)] at h
   cases h
 have e:zdB [ae (.val (.int (m:Int))),ae (.val (.int most))]=ae (.rt (.own (zcX fit m k 0)) [ae (.val (.int (m:Int))),ae (.val (.int most))]):=by
  unfold zdB zb0
  rw[hE]
  rfl
 exact(congrArg (fun o=>cP o zc7) e).trans rfl
theorem zgx(m j:Nat)(hm:m<=60)(x0:Option Ent):∀ (n a:Nat) (x2 x3:Option Ent),a<=pc fit m j->∃ δ',
  loop (gTp (zcB (gNm 2) (zcB (gNm 3) zgq))) za6 ((cJ a n).map fun(s:Nat)=>D.tup [.int (s:Int),zea fit m j s]) [x0,ae (.val (.int (m:Int))),x2,x3] =
  if pc fit m j<a+n then ae (.rt (.val (.int (pc fit m j:Int))) δ') else ae (.nx [x0,ae (.val (.int (m:Int))),δ'.getD 2 af,δ'.getD 3 af])
 | 0,a,x2,x3,h=>⟨[af,af,x2,x3],by rw[if_neg (by lia)];rfl⟩
 | n+1,a,x2,x3,h=>by
  have tt:tOf (ex2 gNe (ex2 gBnd (zab 3) (ex2 gShl (eC (.int 1)) (zab 1))) (eC (.int 0))) [x0,ae (.val (.int (m:Int))),ae (.val (.int (a:Int))),ae (.val (zea fit m j a))]=ae (!decide (row fit m j a &&& 2 ^ m=0)):=
   neZ (bandI rfl (powI rfl (by lia)))
  have key:(!decide (row fit m j a &&& 2 ^ m=0))=decide (pc fit m j<=a):=by
   have hh:=zd4 fit m j a m
   rw[decide_eq_true (aA m),Bool.true_and] at hh
   by_cases c:pc fit m j<=a
   ·rw[decide_eq_true c] at hh ⊢
    rw[decide_eq_false fun q=>by rw[(and_pow _ m).mp q] at hh;cases hh]
    rfl
   ·rw[decide_eq_false c] at hh ⊢
    rw[decide_eq_true ((and_pow _ m).mpr hh)]
    rfl
  rw[key] at tt
  rw[eL,aH]
  by_cases c:pc fit m j<=a
  ·have ea:pc fit m j=a:=by lia
   rw[decide_eq_true c] at tt
   refine⟨[x0,ae (.val (.int (m:Int))),ae (.val (.int (a:Int))),ae (.val (zea fit m j a))],?_⟩
   rw[if_pos (by lia),ea]
   have st:za6 [x0,ae (.val (.int (m:Int))),ae (.val (.int (a:Int))),ae (.val (zea fit m j a))]=ae (.rt (.val (.int (a:Int))) [x0,ae (.val (.int (m:Int))),ae (.val (.int (a:Int))),ae (.val (zea fit m j a))]):=(fIfT tt).trans rfl
   show(za6 [x0,ae (.val (.int (m:Int))),ae (.val (.int (a:Int))),ae (.val (zea fit m j a))]).bind _=_
   rw[st]
   rfl
  ·rw[decide_eq_false c] at tt
   obtain⟨δ',e⟩:=zgx m j hm x0 n (a+1) (ae (.val (.int (a:Int)))) (ae (.val (zea fit m j a))) (by lia)
   refine⟨δ',(zaX (f:=za6) rfl ((fIfF tt).trans rfl)).trans ?_⟩
   rw[e,show a+1+n=a+(n+1) by lia]
def slp(m k j:Nat):Option Int:=if pc fit m j<k+1 then ae (pc fit m j:Int) else af
theorem zi1(m k j:Nat)(hm:m<=60):za9 [.lst (zcX fit m k j),.int (m:Int)]=ae (.val (oD (slp fit m k j))):=by
 obtain⟨δ',e⟩:=zgx fit m j hm (ae (.bor (zcX fit m k j))) (k+1) 0 af af (cg _)
 rw[<- dj,bj] at e
 have hi:iEnuB 0 [ae (.bor (zcX fit m k j)),ae (.val (.int (m:Int))),af,af]=ae ((au (k+1)).map fun(s:Nat)=>D.tup [.int (s:Int),zea fit m j s]):=congrArg ae (zii _ _)
 have w:∃ δ2,zc5 [ae (.bor (zcX fit m k j)),ae (.val (.int (m:Int))),af,af]=ae (.rt (.val (oD (slp fit m k j))) δ2):=by
  unfold slp
  by_cases c:pc fit m j<k+1
  ·rw[if_pos c] at e ⊢
   exact⟨_,forR hi e⟩
  ·rw[if_neg c] at e ⊢
   exact⟨_,(forN hi e).trans (zjy rfl)⟩
 obtain⟨δ2,w⟩:=w
 exact(congrArg (fun o=>cP o zc7) w).trans rfl
section
variable {fit}{m k j φ:Nat}
abbrev ff(R:List D)(φ m:Nat)(x3 x4 x5 x6 x7 x8 x9:Option Ent):En:=[ae (.bor R),ae (.val (.int (φ:Int))),ae (.val (.int (m:Int))),x3,x4,x5,x6,x7,x8,x9]
theorem fur_turn(h:Fits fit m j φ)(hm:m<=60)(R:List D)(hR:R=zcX fit m k j)(a:Nat)(ha:a<=k)(hk:k<=1000)(x6 x7 x8 x9:Option Ent):∃ y6 y7 y8 y9,
  zbt (ff R φ m (ae (.own ((au a).map (zea fit m (j+1))))) (ae (.val (.int (a:Int)))) (ae (.val (zea fit m j a))) x6 x7 x8 x9) =
  ae (.nx (ff R φ m (ae (.own ((au (a+1)).map (zea fit m (j+1))))) (ae (.val (.int (a:Int)))) (ae (.val (zea fit m j a))) y6 y7 y8 y9)):=by
 have lt:∀ j s,row fit m j s<18446744073709551616:=fun j s=>lt64 hm (row_lt fit m j s)
 have hl:((au a).map (zea fit m (j+1))).length<1000000:=by rw[ax,bY];lia
 have u:=upto_ok m (by lia)
 have es:(au (a+1)).map (zea fit m (j+1))=(au a).map (zea fit m (j+1)) ++ [zea fit m (j+1) a]:=by rw[cf,bG];rfl
 rw[es]
 have hA:∀ x3 x7 x8 x9,ex2 gBor (eC (.int 1)) (ex2 gBnd (ex2 gShl (zab 5) (eC (.int 1))) (zab 1)) (ff R φ m x3 (ae (.val (.int (a:Int)))) (ae (.val (zea fit m j a))) x6 x7 x8 x9)=ae (.val (.int ((1 ||| (row fit m j a <<< 1 &&& φ):Nat):Int))):=
  fun x3 x7 x8 x9=>borI (a:=1) rfl (bandI (shlI rfl rfl (lt j a)) rfl)
 cases a with
 | zero=>
  have tt:tOf (ex2 gGt (zab 4) (eC (.int 0))) (ff R φ m (ae (.own ((au 0).map (zea fit m (j+1))))) (ae (.val (.int ((0:Nat):Int)))) (ae (.val (zea fit m j 0))) (ae (.val (.int ((1 ||| (row fit m j 0 <<< 1 &&& φ):Nat):Int)))) x7 x8 x9)=ae false:=rfl
  have hH:ex2 gBnd (zab 6) (zag [.v] zaH (zaa (zab 2) zae)) (ff R φ m (ae (.own ((au 0).map (zea fit m (j+1))))) (ae (.val (.int ((0:Nat):Int)))) (ae (.val (zea fit m j 0))) (ae (.val (.int ((1 ||| (row fit m j 0 <<< 1 &&& φ):Nat):Int)))) x7 x8 x9)=ae (.val (zea fit m (j+1) 0)):=by
   have:=bandI (E:=zab 6) (F:=zag [.v] zaH (zaa (zab 2) zae)) (δ:=(ff R φ m (ae (.own ((au 0).map (zea fit m (j+1))))) (ae (.val (.int ((0:Nat):Int)))) (ae (.val (zea fit m j 0))) (ae (.val (.int ((1 ||| (row fit m j 0 <<< 1 &&& φ):Nat):Int)))) x7 x8 x9)) rfl (show zaH [.int (m:Int)]=_ from u)
   rw[row_0 fit h] at this
   exact this
  exact⟨_,x7,x8,x9,(show zbt _=_ from zaQ (hA _ _ _ _)).trans ((zda ((fIfF tt).trans rfl)).trans (fAppI rfl hH hl))⟩
 | succ a=>
  have hR':atI R (((a+1:Nat):Int) - 1)=ae (zea fit m j a):=by rw[hR];exact at_rng _ (by lia) (by lia)
  have hF':atI ((au (a+1)).map (zea fit m (j+1))) (((a+1:Nat):Int) - 1)=ae (zea fit m (j+1) a):=at_rng _ (by lia) (by lia)
  have tt:tOf (ex2 gGt (zab 4) (eC (.int 0))) (ff R φ m (ae (.own ((au (a+1)).map (zea fit m (j+1))))) (ae (.val (.int ((a+1:Nat):Int)))) (ae (.val (zea fit m j (a+1)))) (ae (.val (.int ((1 ||| (row fit m j (a+1) <<< 1 &&& φ):Nat):Int)))) x7 x8 x9)=ae true:=by
   have c:(0:Int)<((a+1:Nat):Int):=by lia
   exact congrArg ae (decide_eq_true c)
  have hH:∀ x3 x4 x5 x7 x8 x9,ex2 gBnd (zab 6) (zag [.v] zaH (zaa (zab 2) zae)) (ff R φ m x3 x4 x5 (ae (.val (.int ((((1 ||| (row fit m j (a+1) <<< 1 &&& φ)) ||| row fit m j a) ||| row fit m j a <<< 1 ||| row fit m (j+1) a <<< 1:Nat):Int)))) x7 x8 x9)=ae (.val (zea fit m (j+1) (a+1))):=fun x3 x4 x5 x7 x8 x9=>by
   have:=bandI (E:=zab 6) (F:=zag [.v] zaH (zaa (zab 2) zae)) (δ:=(ff R φ m x3 x4 x5 (ae (.val (.int ((((1 ||| (row fit m j (a+1) <<< 1 &&& φ)) ||| row fit m j a) ||| row fit m j a <<< 1 ||| row fit m (j+1) a <<< 1:Nat):Int)))) x7 x8 x9)) rfl (show zaH [.int (m:Int)]=_ from u)
   rw[row_s fit h] at this
   exact this
  exact⟨_,_,_,_,(show zbt _=_ from zaQ (hA _ _ _ _)).trans ((zda ((fIfT tt).trans ((zaQ (ixLB rfl (subI rfl rfl) hR')).trans ((zaQ (shlI (ixLB rfl (subI rfl rfl) hR') rfl (lt j a))).trans ((zaQ (shlI (ixLW rfl (subI rfl rfl) hF') rfl (lt (j+1) a))).trans (fSetI (borI (borI (borI rfl rfl) rfl) rfl))))))).trans (fAppI rfl (hH _ _ _ _ _ _) hl))⟩
theorem ziA(h:Fits fit m j φ)(hm:m<=60)(R:List D)(hR:R=zcX fit m k j)(hk:k<=1000):∀ (n a:Nat) (x4 x5 x6 x7 x8 x9:Option Ent),a+n<=k+1->∃ y4 y5 y6 y7 y8 y9,
  loop (gTp (zcB (gNm 4) (zcB (gNm 5) zgq))) zbt ((cJ a n).map fun(s:Nat)=>D.tup [.int (s:Int),zea fit m j s]) (ff R φ m (ae (.own ((au a).map (zea fit m (j+1))))) x4 x5 x6 x7 x8 x9) =
  ae (.nx (ff R φ m (ae (.own ((au (a+n)).map (zea fit m (j+1))))) y4 y5 y6 y7 y8 y9))
 | 0,a,x4,x5,x6,x7,x8,x9,_=>⟨x4,x5,x6,x7,x8,x9,rfl⟩
 | n+1,a,x4,x5,x6,x7,x8,x9,ha=>by
  obtain⟨y6,y7,y8,y9,st⟩:=fur_turn h hm R hR a (by lia) hk x6 x7 x8 x9
  obtain⟨z4,z5,z6,z7,z8,z9,e⟩:=ziA h hm R hR hk n (a+1) (ae (.val (.int (a:Int)))) (ae (.val (zea fit m j a))) y6 y7 y8 y9 (by lia)
  rw[show a+1+n=a+(n+1) by lia] at e
  rw[eL,aH]
  exact⟨z4,z5,z6,z7,z8,z9,(zaX rfl st).trans e⟩
theorem zji(h:Fits fit m j φ)(hm:m<=60)(hk:k<=1000):zcJ [.lst (zcX fit m k j),.int (φ:Int),.int (m:Int)]=ae (.own (zcX fit m k (j+1))):=by
 obtain⟨y4,y5,y6,y7,y8,y9,e⟩:=ziA h hm (zcX fit m k j) rfl hk (k+1) 0 af af af af af af (by lia)
 rw[<- dj,bj] at e
 have hi:iEnuB 0 [ae (.bor (zcX fit m k j)),ae (.val (.int (φ:Int))),ae (.val (.int (m:Int))),ae (.own []),af,af,af,af,af,af]=ae ((au (k+1)).map fun(s:Nat)=>D.tup [.int (s:Int),zea fit m j s]):=congrArg ae (zii _ _)
 have w:zcL [ae (.bor (zcX fit m k j)),ae (.val (.int (φ:Int))),ae (.val (.int (m:Int))),af,af,af,af,af,af,af]=ae (.rt (.own (zcX fit m k (j+1))) _):=
  (show zcL _=_ from zda (zjv rfl)).trans ((forN hi e).trans rfl)
 exact(congrArg (fun o=>cP o zc7) w).trans rfl
end
end
section
open CE BT
theorem lk_rep{k:Str}{d:D}{z:Str}(h:¬ z=k):∀ (ks:List Str) (ds:List D),lkD ks (em (fun x y=>if x=k then d else y) ks ds) z=lkD ks ds z
 | [],_=>rfl
 | _ :: _,[]=>rfl
 | x :: ks,y :: ds=>by
  rw[de,lkD,lkD,lk_rep h ks ds]
  by_cases e:x=z
  ·rw[if_pos e,if_pos e,if_neg (fun q=>h (e.symm.trans q))]
  ·rw[if_neg e,if_neg e]
theorem lk_hit{k:Str}{d:D}:∀ (ks:List Str) (ds:List D),ks.length=ds.length->k ∈ ks->lkD ks (em (fun x y=>if x=k then d else y) ks ds) k=ae d
 | [],_,_,h=>by cases h
 | _ :: _,[],hl,_=>by cases hl
 | x :: ks,y :: ds,hl,h=>by
  rw[de,lkD]
  by_cases e:x=k
  ·rw[if_pos e,if_pos e]
  ·rw[if_neg e]
   refine lk_hit ks ds (by simpa using hl) ?_
   rcases aF.mp h with q | q
   ·exact absurd q.symm e
   ·exact q
theorem lk_add{k:Str}{d:D}{z:Str}:∀ (ks:List Str) (ds:List D),ks.length=ds.length->¬ k ∈ ks->lkD (ks ++ [k]) (ds ++ [d]) z=if z=k then ae d else lkD ks ds z
 | [],[],_,_=>by
  show(if k=z then ae d else af)=if z=k then ae d else af
  by_cases e:z=k
  ·rw[if_pos e,if_pos e.symm]
  ·rw[if_neg e,if_neg (fun q=>e q.symm)]
 | [],_ :: _,hl,_=>by cases hl
 | _ :: _,[],hl,_=>by cases hl
 | x :: ks,y :: ds,hl,h=>by
  rw[eN,eN,lkD,lkD,lk_add ks ds (by simpa using hl) fun q=>h (av _ q)]
  by_cases e:x=z
  ·rw[if_pos e,if_pos e,if_neg (fun q=>h (by rw[<- q,<- e];exact aC))]
  ·rw[if_neg e,if_neg e]
theorem lk_put{k:Str}{d:D}{z:Str}{ks:List Str}{ds:List D}(hl:ks.length=ds.length):lkD (pkD ks k) (pvG ks ds k d) z=if z=k then ae d else lkD ks ds z:=by
 unfold pkD pvG
 by_cases h:k ∈ ks
 ·rw[if_pos h,if_pos h]
  by_cases e:z=k
  ·rw[if_pos e,e];exact lk_hit ks ds hl h
  ·rw[if_neg e];exact lk_rep e ks ds
 ·rw[if_neg h,if_neg h];exact lk_add ks ds hl h
theorem fDputI{i:Nat}{fk fe:FE}{δ:En}{d:D}{k:Str}{ks:List Str}{ds:List D}(h0:δ[i]? = ae (ae (.obj (.dic ks ds))))(h1:fe δ=ae (.val d))(h2:fk δ=ae (.val (.str k)))(hl:ks.length<1000000) :
  fDput i fk fe δ=ae (.nx (δ.set i (ae (.obj (.dic (pkD ks k) (pvG ks ds k d)))))):=by
 unfold fDput dAt oAt
 rw[h0,h1,h2]
 exact zf3 (show ks.length+1<=1000000 by lia)
theorem eDgetI{i:Nat}{E:FE}{δ:En}{z:Str}{b:Int}{ks:List Str}{ds:List D}(h0:δ[i]? = ae (ae (.obj (.dic ks ds))))(h1:E δ=ae (.val (.str z))):eDget i (zaa E (zaa (eC (.int b)) zae)) δ=ae ((lkD ks ds z).elim (.val (.int b)) .val):=by
 unfold eDget dAt oAt zaa
 rw[h0,h1]
 rfl
variable (P:List Str)
def has(c i:Nat):Bool:=inS (mkS [c]) (P.getD i (mkS []))
structure IV(n:Nat)(dn:List Nat)(ks:List Str)(ds:List D):Prop where
 len:ks.length=ds.length
 at_:∀ c:Nat,(lkD ks ds (mkS [c])).elim (Ent.val (.int 0)) .val=.val (.int ((fb (has P c) n ||| if decide (c ∈ dn)=true then 2 ^ (n+1) else 0:Nat):Int))
theorem fit_turn(n:Nat)(hn:n<=1000)(dn:List Nat)(ks:List Str)(ds:List D)(c:Nat)(I:IV P n dn ks ds)(hl:ks.length<1000000)(x0 x3:Option Ent) :
  zcG [x0,ae (.obj (.dic ks ds)),ae (.val (.int (n:Int))),x3,ae (.val (.str (mkS [c])))] =
  ae (.nx [x0,ae (.obj (.dic (pkD ks (mkS [c])) (pvG ks ds (mkS [c]) (.int ((fb (has P c) n ||| 2 ^ (n+1):Nat):Int))))),ae (.val (.int (n:Int))),x3,ae (.val (.str (mkS [c])))]):=by
 have h1:eDget 1 (zaa (zab 4) (zaa (eC (.int 0)) zae)) [x0,ae (.obj (.dic ks ds)),ae (.val (.int (n:Int))),x3,ae (.val (.str (mkS [c])))]=ae (.val (.int ((fb (has P c) n ||| if decide (c ∈ dn)=true then 2 ^ (n+1) else 0:Nat):Int))):=(eDgetI rfl rfl).trans (congrArg ae (I.at_ c))
 have h2:=borI h1 (powI (a:=n+1) (addS (E:=zab 2) rfl) (by lia))
 rw[or_twice] at h2
 exact fDputI rfl h2 rfl hl
theorem IV.put{n:Nat}{dn:List Nat}{ks:List Str}{ds:List D}(I:IV P n dn ks ds)(c:Nat):IV P n (dn ++ [c]) (pkD ks (mkS [c])) (pvG ks ds (mkS [c]) (.int ((fb (has P c) n ||| 2 ^ (n+1):Nat):Int))):=by
 refine⟨(zfF I.len).1,fun c'=>?_⟩
 rw[lk_put I.len]
 by_cases e:c'=c
 ·subst e
  rw[if_pos rfl,if_pos (decide_eq_true (by simp))]
  rfl
 ·have ne:¬ (mkS [c']=mkS [c]):=fun q=>e (by have:=congrArg (fun z=>z.cps.toList) q;simp only[zci] at this;simpa using this)
  rw[if_neg ne,I.at_ c']
  have:decide (c' ∈ dn ++ [c])=decide (c' ∈ dn):=decide_eq_decide.mpr (by simp[e])
  rw[this]
theorem ziQ(n:Nat)(hn:n<=1000)(x0 x3:Option Ent):∀ (w dn:List Nat) (ks:List Str) (ds:List D) (x4:Option Ent),IV P n dn ks ds->ks.length+w.length<=100000->∃ (ks':List Str) (ds':List D) (y4:Option Ent),IV P n (dn ++ w) ks' ds'/\ks'.length<=ks.length+w.length /\
  loop (gNm 4) zcG (w.map fun c=>D.str (mkS [c])) [x0,ae (.obj (.dic ks ds)),ae (.val (.int (n:Int))),x3,x4]=ae (.nx [x0,ae (.obj (.dic ks' ds')),ae (.val (.int (n:Int))),x3,y4])
 | [],dn,ks,ds,x4,I,_=>⟨ks,ds,x4,by rw[bF];exact I,by lia,rfl⟩
 | c :: w,dn,ks,ds,x4,I,hl=>by
  simp only[aL] at hl
  have st:=fit_turn P n hn dn ks ds c I (by lia) x0 x3
  have l2:=(zfF (k:=mkS [c]) (v:=D.int ((fb (has P c) n ||| 2 ^ (n+1):Nat):Int)) I.len).2
  obtain⟨ks',ds',y4,h1,h2,h3⟩:=ziQ n hn x0 x3 w (dn ++ [c]) _ _ (ae (.val (.str (mkS [c])))) (I.put P c) (by lia)
  rw[cL] at h1
  refine⟨ks',ds',y4,h1,by simp only[aL];lia,?_⟩
  rw[aH]
  exact(zaX rfl st).trans h3
theorem IV.next{n:Nat}{ks:List Str}{ds:List D}{z:Str}(I:IV P n z.cps.toList ks ds)(hz:P.getD n (mkS [])=z):IV P (n+1) [] ks ds:=by
 refine⟨I.len,fun c=>?_⟩
 have e0:(if decide (c ∈ ([]:List Nat))=true then 2 ^ (n+1+1) else 0)=0:=if_neg (by simp)
 rw[I.at_ c,e0,gY,fb]
 have:has P c n=decide (c ∈ z.cps.toList):=by
  unfold has
  rw[hz]
  exact StrLaws.found_one z c
 rw[this]
theorem fit_run(x0:Option Ent):∀ (Q:List Str) (n:Nat) (ks:List Str) (ds:List D) (x2 x3 x4:Option Ent),Q=P.drop n->(∀ z ∈ Q,z.cps.toList.length<=26)->n+Q.length<=1000->IV P n [] ks ds->ks.length+26 * Q.length<=100000->∃ (ks':List Str) (ds':List D) (y2 y3 y4:Option Ent),IV P (n+Q.length) [] ks' ds' /\
  loop (gTp (zcB (gNm 2) (zcB (gNm 3) zgq))) zcE (((Q.map D.str).zipIdx n).map fun p=>D.tup [.int (p.2:Int),p.1]) [x0,ae (.obj (.dic ks ds)),x2,x3,x4]=ae (.nx [x0,ae (.obj (.dic ks' ds')),y2,y3,y4])
 | [],n,ks,ds,x2,x3,x4,_,_,_,I,_=>⟨ks,ds,x2,x3,x4,I,rfl⟩
 | z :: Q,n,ks,ds,x2,x3,x4,hQ,hz,hn,I,hl=>by
  simp only[aL] at hn hl
  have hlt:n<P.length:=by
   have:=congrArg dF hQ
   simp only[aL,dQ] at this
   lia
  have hq:=hQ
  rw[bQ hlt,fC] at hq
  have hzn:P.getD n (mkS [])=z:=by rw[hq.1];simp[hlt]
  have h26:=hz z aC
  obtain⟨ks1,ds1,y4,I1,l1,e1⟩:=ziQ P n (by lia) x0 (ae (.val (.str z))) z.cps.toList [] ks ds x4 I (by lia)
  rw[cZ] at I1
  have st:zcE [x0,ae (.obj (.dic ks ds)),ae (.val (.int (n:Int))),ae (.val (.str z)),x4]=ae (.nx [x0,ae (.obj (.dic ks1 ds1)),ae (.val (.int (n:Int))),ae (.val (.str z)),y4]):=e1
  obtain⟨ks2,ds2,y2,y3,y4',I2,e2⟩:=fit_run x0 Q (n+1) ks1 ds1 (ae (.val (.int (n:Int)))) (ae (.val (.str z))) y4 hq.2 (fun z' h=>hz z' (av _ h)) (by lia) (I1.next P hzn) (by lia)
  rw[show n+1+Q.length=n+(Q.length+1) by lia] at I2
  refine⟨ks2,ds2,y2,y3,y4',I2,?_⟩
  rw[aH,gD,aH]
  exact(zaX rfl st).trans e2
theorem zja(hP:P.length<=1000)(h26:∀ z ∈ P,z.cps.toList.length<=26):∃ (ks:List Str) (ds:List D),zcb [.tup (P.map .str)]=ae (.val (.dic ks ds))/\IV P P.length [] ks ds:=by
 obtain⟨ks,ds,y2,y3,y4,I,e⟩:=fit_run P (ae (.val (.tup (P.map .str)))) P 0 [] [] af af af rfl h26 (by lia) ⟨rfl,fun c=>by rw[if_neg (by simp),gY];rfl⟩ (by simp;lia)
 rw[bj] at I
 refine⟨ks,ds,?_,I⟩
 have w:zcR [ae (.val (.tup (P.map .str))),af,af,af,af]=ae (.rt (.val (.dic ks ds)) _):=
  (show zcR _=_ from zda (f:=zhW 1 eD0) rfl).trans ((forN rfl e).trans rfl)
 exact(congrArg (fun o=>cP o zc7) w).trans rfl
theorem IV.fits{ks:List Str}{ds:List D}(T:List Nat)(j:Nat):Fits (zeS P T) P.length j (fb (has P (T.getD j 0)) P.length):=fun i=>fb_get _ _ i
theorem IV.get{ks:List Str}{ds:List D}(I:IV P P.length [] ks ds)(c:Nat):(lkD ks ds (mkS [c])).elim (Ent.val (.int 0)) .val=.val (.int ((fb (has P c) P.length:Nat):Int)):=by
 rw[I.at_ c,if_neg (by simp),gY]
end
section
open CE BT
def p1:Pr:=⟨1,1,1,0⟩
theorem zhp(fit:Nat->Nat->Bool):∀ i j,cel fit p1 true i j=ae (pc fit i j:Int)
 | 0,0=>by rw[cel_00,pc_0];rfl
 | 0,j+1=>by rw[cel_0s,if_pos rfl,pc_0];rfl
 | i+1,0=>by rw[cel_s0,zhp fit i 0,pc_i0,pc_i0];rfl
 | i+1,j+1=>by
  have c1:=zhp fit i j
  have c2:=zhp fit (i+1) j
  have c3:=zhp fit i (j+1)
  rw[cel_ss,c1,c2,c3,pc_ss]
  have e1:(if fit i j=true then ae (pc fit i j:Int) else stp (ae (pc fit i j:Int)) p1.exch)=ae ((pc fit i j+if fit i j=true then 0 else 1:Nat):Int):=by
   cases fit i j with
   | true=>rfl
   | false=>rfl
  have e2:stp (ae (pc fit (i+1) j:Int)) p1.put=ae ((pc fit (i+1) j+1:Nat):Int):=rfl
  have e3:stp (ae (pc fit i (j+1):Int)) p1.left=ae ((pc fit i (j+1)+1:Nat):Int):=rfl
  have e4:stp (tc fit (cel fit p1 true) i j) p1.turn=af:=rfl
  rw[e1,e2,e3,e4]
  generalize pc fit i j+(if fit i j=true then 0 else 1)=a
  generalize pc fit (i+1) j+1=b
  generalize pc fit i (j+1)+1=c
  obtain⟨x,hx,ha⟩:=ziq (cs:=[ae (a:Int),ae (b:Int),ae (c:Int),af]) (c:=(a:Int)) (by simp)
  obtain⟨y,hy,hb⟩:=ziq (cs:=[ae (a:Int),ae (b:Int),ae (c:Int),af]) (c:=(b:Int)) (by simp)
  obtain⟨z,hz,hc⟩:=ziq (cs:=[ae (a:Int),ae (b:Int),ae (c:Int),af]) (c:=(c:Int)) (by simp)
  rw[hx] at hy hz
  cases hy
  cases hz
  rw[hx]
  have:=zhv hx
  simp only[aF,gb,reduceCtorEq,bw,or_false] at this
  congr 1
  lia
variable (P:List Str)(T:List Nat)
abbrev fT:=zeS P T
def biO(ks:List Str)(ds:List D)(most:Int)(k j:Nat)(prs:List D):OT:=.ins "Bits" ["fitting","classes","rows","sight"] [.val (.dic ks ds),.val (.int (P.length:Int)),.lst (zcX (fT P T) P.length k j),siO most (j+1) prs]
theorem slp_prD(most:Int)(k j:Nat)(hk:(if most<(P.length:Int) then most else (P.length:Int))=(k:Int)):prD most (slp (fT P T) P.length k j) j=prD most (cT P T p1 P.length j) j:=by
 have e:cT P T p1 P.length j=ae (pc (fT P T) P.length j:Int):=zhp _ _ _
 have hle:=pcM (fT P T) P.length j
 rw[e]
 unfold slp
 by_cases c:pc (fT P T) P.length j<k+1
 ·rw[if_pos c]
 ·rw[if_neg c]
  refine(if_neg (show ¬ ((pc (fT P T) P.length j:Int)<=most) from fun h=>?_)).symm
  split at hk <;> lia
variable (ks:List Str)(ds:List D)(most:Int)(k:Nat)(hk:(if most<(P.length:Int) then most else (P.length:Int))=(k:Int))(hP:P.length<=60)(I:IV P P.length [] ks ds)(hg:zcb [.tup (P.map .str)]=ae (.val (.dic ks ds)))
include hk hP in
theorem k_le:k<=1000:=by split at hk <;> lia
include hk hP hg in
theorem binit_ok:zbv (.ins "Bits" [] []) [.tup (P.map .str),.int most]=ae (.non,biO P T ks ds most k 0 (prR P T p1 most 0 1)):=by
 have a1:=first_ok (fT P T) P.length k most hk hP
 have a2:=zhc most
 have a3:=zi1 (fT P T) P.length k 0 hP
 have a4:=zgb most (slp (fT P T) P.length k 0) 0 [] (by simp)
 have e1:prR P T p1 most 0 1=[] ++ prD most (slp (fT P T) P.length k 0) 0:=by rw[zeU P T p1 most (aA 0),zct,slp_prD P T most k 0 hk]
 have hl:(P.map D.str).length=P.length:=ax _
 rw[e1]
 unfold biO
 unfold siO at *
 generalize zcX (fT P T) P.length k 0=R at *
 generalize P.map D.str=pp at *
 simp only[zbv,zfe,jqp,jqq,bj,Nat.reduceAdd,zdh,zar,zeC,zag,zaa,zab,jqn,jqo,aB,jqk,jqf,jqe,zae,jqc,jqa,zaJ,zbZ,asV,hg,toO,oAt,zbo,jqj,jqg,sqO,eCB,zbw,zdL,hl,jqi,ze4,fE,a1,ze8,zc8,a2,fX,xMF,asL,a3,jqh,a4,ziV,jra]
include hk hP I in
theorem bread_ok(j:Nat)(prs:List D)(hl:prs.length<100000) :
  zdo (biO P T ks ds most k j prs) [.str (mkS [T.getD j 0])]=ae (.non,biO P T ks ds most k (j+1) (prs ++ prD most (cT P T p1 P.length (j+1)) (j+1))):=by
 have a1:=zji (k:=k) (IV.fits P (ks:=ks) (ds:=ds) T j) hP (k_le P most k hk hP)
 have a2:=I.get P (T.getD j 0)
 have a3:=zi1 (fT P T) P.length k (j+1) hP
 have a4:=zgb most (slp (fT P T) P.length k (j+1)) (j+1) prs hl
 rw[slp_prD P T most k (j+1) hk] at a4
 unfold biO
 unfold siO at *
 generalize zcX (fT P T) P.length k j=R at *
 generalize zcX (fT P T) P.length k (j+1)=R' at *
 generalize ((fb (has P (T.getD j 0)) P.length:Nat):Int)=ph at *
 generalize (P.length:Int)=mm at *
 generalize mkS [T.getD j 0]=sg at *
 simp (disch:=omega) only[zdo,zfe,jqp,jqq,bj,zeM,zar,zfr,zag,zaa,ze4,oAt,jqn,jqo,aB,jqk,jqe,jqa,zbo,jqf,fE,eBM,zab,eC,zae,jqc,gGet,dOf,gDg,sOf,a2,zaJ,zbZ,asL,asV,a1,toO,jqg,Nat.reduceAdd,Nat.reduceLT,jqh,jra,sqO,fX,xMF,a3,zc8,a4,ziV]
include hk hP I in
theorem zgG(x1:Option Ent):∀ (w:List Nat) (j:Nat) (prs:List D) (v2:Option Ent),j+w.length<=T.length->w=(T.drop j).take w.length->prs.length+w.length<100000->∃ y2,
  loop (gNm 2) zcM (w.map fun c=>D.str (mkS [c])) [ae (.obj (biO P T ks ds most k j prs)),x1,v2]=ae (.nx [ae (.obj (biO P T ks ds most k (j+w.length) (prs ++ prR P T p1 most (j+1) (j+w.length+1)))),x1,y2])
 | [],j,prs,v2,_,_,_=>⟨v2,by simp[loop,zct]⟩
 | c :: w,j,prs,v2,hl,hw,hp=>by
  simp only[aL] at hl hw hp
  have hj:j<T.length:=by lia
  rw[bQ hj,ir,fC] at hw
  have hc:c=T.getD j 0:=by rw[hw.1];simp[hj]
  have r:=bread_ok P T ks ds most k hk hP I j prs (by lia)
  have pl:=zgR most (cT P T p1 P.length (j+1)) (j+1)
  have st:zcM [ae (.obj (biO P T ks ds most k j prs)),x1,ae (.val (.str (mkS [c])))]=ae (.nx [ae (.obj (biO P T ks ds most k (j+1) (prs ++ prD most (cT P T p1 P.length (j+1)) (j+1)))),x1,ae (.val (.str (mkS [c])))]):=by
   rw[hc]
   unfold biO at *
   generalize zcX (fT P T) P.length k j=R at *
   simp only[zcM,fX,xM,oAt,jqe,zaa,zab,jqf,zae,jqc,jqa,zc8,asV,jqg,zbo,r]
  obtain⟨y2,e⟩:=zgG x1 w (j+1) (prs ++ prD most (cT P T p1 P.length (j+1)) (j+1)) (ae (.val (.str (mkS [c])))) (by lia) hw.2 (by rw[a9];lia)
  refine⟨y2,dw (zaX rfl st) (dw e ?_)⟩
  rw[aL,show j+1+w.length=j+(w.length+1) by lia,cL]
  have q:prD most (cT P T p1 P.length (j+1)) (j+1)=prR P T p1 most (j+1) (j+1+1):=by rw[zeU P T p1 most (aA (j+1)),zct,cZ]
  rw[q,zf2 P T p1 most (by lia) (by lia)]
include hk hP I in
theorem bfeed_ok(w:List Nat)(j:Nat)(prs:List D)(h1:j+w.length<=T.length)(h2:w=(T.drop j).take w.length)(h3:prs.length+w.length<100000) :
  zdn (biO P T ks ds most k j prs) [.str (mkS w)]=ae (.tup (prs ++ prR P T p1 most (j+1) (j+w.length+1)),biO P T ks ds most k (j+w.length) []):=by
 obtain⟨y2,e⟩:=zgG P T ks ds most k hk hP I (ae (.val (.str (mkS w)))) w j prs af h1 h2 h3
 have t:=zia most (j+w.length+1) (prs ++ prR P T p1 most (j+1) (j+w.length+1))
 unfold biO at *
 unfold siO at *
 generalize prs ++ prR P T p1 most (j+1) (j+w.length+1)=rr at *
 generalize zcX (fT P T) P.length k j=R at *
 generalize zcX (fT P T) P.length k (j+w.length)=R' at *
 simp only[zdn,zfe,jqp,jqq,bj,zeF,zar,zdr,iS,zab,jqn,jqo,aB,jqi,jqj,jqf,jqe,sOf,jqa,jqc,zci,e,sqO,zit,xMF,oAt,zbo,zae,zc8,jqg,jqh,t,ziV,jra]
end
open CE
def cap(m:Int):Option Int->Option Int
 | some v=>if v<=m then ae v else af
 | none=>af
def nxt(f:Nat->Bool)(p:Pr)(col:Nat->Option Int):Nat->Option Int
 | 0=>ae 0
 | i+1=>lw [if f i=true then col i else stp (col i) p.exch,stp (col (i+1)) p.put,stp (nxt f p col i) p.left]
def fits(P:List Str)(t:Nat)(i:Nat):Bool:=inS (mkS [t]) (P.getD i (mkS []))
def nb(P:List Str)(p:Pr)(m:Int)(t:Nat)(col:List (Option Int)):List (Option Int):=(au (P.length+1)).map fun i=>cap m (nxt (fits P t) p (fun i=>col.getD i af) i)
def zdS(col:List (Option Int)):D:=.tup (col.map oD)
theorem nb_len(P:List Str)(p:Pr)(m:Int)(t:Nat)(col:List (Option Int)):(nb P p m t col).length=P.length+1:=by unfold nb;rw[ax,bY]
theorem low_comp(δ:En)(m:Int)(h:δ[1]? = ae (ae (.val (.int m))))(xs:List (Option Int)):zcA (fun d=>zb3 (cEn [1] δ d)) (fun d=>zbP (cEn [1] δ d)) (xs.map oD)=ae ((xs.map (cap m)).map oD):=by
 induction xs with
 | nil=>rfl
 | cons x xs ih=>
  rw[aH,zcA,ih]
  cases x with
  | none=>simp only[zb3,zbP,eIf,zfB,tOf,ex2,zab,cEn,oD,jqn,h,jqx,jqa,zjr,jqo,jqe,eC,ziD,isN,jqt,bOf,jqf,gLe,pI0,iOf,jqc,jqb,jqr,jrb,asV,jra,cap]
  | some v=>
   by_cases hv:v<=m
   ·simp only[zb3,zbP,eIf,zfB,tOf,ex2,zab,cEn,oD,jqn,h,jqx,jqa,zjr,jqo,jqe,eC,ziD,isN,jqu,bOf,jqf,gLe,pI0,iOf,jqc,hv,jqy,jra,asV,cap]
   ·simp only[zb3,zbP,eIf,zfB,tOf,ex2,zab,cEn,oD,jqn,h,jqx,jqa,zjr,jqo,jqe,eC,ziD,isN,jqu,bOf,jqf,gLe,pI0,iOf,jqc,hv,jqz,jra,jqr,jrb,asV,cap]
theorem low_ok(m:Int)(xs:List (Option Int))(hl:xs.length<=1000):zch [.tup (xs.map oD),.int m]=ae (.val (.tup ((xs.map (cap m)).map oD))):=by
 have hE:eLC [1] (iT (zab 0)) zb3 zbP [ae (.val (.tup (xs.map oD))),ae (.val (.int m))]=ae (.own ((xs.map (cap m)).map oD)):=
  zem rfl (low_comp _ m rfl xs) (by simp only[ax];lia)
 simp (disch:=omega) only[zch,zcz,stE,stN,jqc,jqa,zeI,zb0,eCB,zaa,aB,jqk,zae,toN,hE,zc4,asL,zc7]
theorem zjC(col:List (Option Int)):(au col.length).map (fun i=>col.getD i af)=col:=by
 refine dR (by simp) fun i h1 h2=>?_
 rw[i7,List.getElem_range,dZ,bg h2]
 rfl
theorem lw_n(a b c:Option Int):lw [a,b,c,af]=lw [a,b,c]:=by unfold lw;cases a <;> cases b <;> cases c <;> rfl
theorem zh9(P:List Str)(p:Pr)(t:Nat)(col:List (Option Int))(hc:col.length=P.length+1)(hp:p.turn=0)(hP:P.length<=1000) :
  zam [.lst [zdS col],.tup (P.map .str),.str (mkS [t]),p.d,.bl true]=ae (.val (.tup ((au (P.length+1)).map fun i=>oD (nxt (fits P t) p (fun i=>col.getD i af) i)))):=by
 have R:Nxt (fun i _=>fits P t i) p true 0 (fun i j=>if j=0 then col.getD i af else nxt (fits P t) p (fun i=>col.getD i af) i):=by
  refine⟨rfl,fun i=>?_⟩
  show nxt (fits P t) p (fun i=>col.getD i af) (i+1)=_
  have:stp (tc (fun i _=>fits P t i) (fun i j=>if j=0 then col.getD i af else nxt (fits P t) p (fun i=>col.getD i af) i) i 0) p.turn=af:=by unfold stp;rw[if_pos hp]
  rw[this,lw_n]
  rfl
 have W:Win (fun i j=>if j=0 then col.getD i af else nxt (fits P t) p (fun i=>col.getD i af) i) (fun i _=>fits P t i) P 0 [zdS col] [t]:=by
  refine⟨by simp,?_,⟨t,rfl,fun i _=>rfl⟩,.inl ⟨by simp,rfl⟩⟩
  refine zhB ?_
  show ae (zdS col)=_
  unfold zdS zbX
  rw[show(au (P.length+1)).map (fun i=>oD (if (0:Nat)=0 then col.getD i af else nxt (fits P t) p (fun i=>col.getD i af) i))=((au (P.length+1)).map fun i=>col.getD i af).map oD by rw[cI];rfl,<- hc,zjC]
 have:=zhr P p true (fun i _=>fits P t i) [zdS col] [t] 0 _ R W (by lia)
 rw[this]
 rfl
def let26:List Nat:=(au 26).map fun i=>97+i
theorem behind_ok(P:List Str)(p:Pr)(m:Int)(col:List (Option Int))(hc:col.length=P.length+1)(hp:p.turn=0)(hP:P.length<=900) :
  zbM [zdS col,.tup (P.map .str),.int m,p.d]=ae (.own (let26.map fun t=>zdS (nb P p m t col))):=by
 have hE:eLC [2,1,3,0] (iS (eC (.str "abcdefghijklmnopqrstuvwxyz"))) zb3 zbF [ae (.val (zdS col)),ae (.val (.tup (P.map .str))),ae (.val (.int m)),ae (.val p.d)]=ae (.own (let26.map fun t=>zdS (nb P p m t col))):=by
  refine zem (ds:=let26.map fun t=>.str (mkS [t])) ?_ ?_ (by rw[ax];decide)
  ·show ae (("abcdefghijklmnopqrstuvwxyz" : Str).cps.toList.map fun c=>D.str (mkS [c]))=_
   rw[alph];rfl
  ·have key:∀ ts:List Nat,zcA (fun d=>zb3 (cEn [2,1,3,0] [ae (.val (zdS col)),ae (.val (.tup (P.map .str))),ae (.val (.int m)),ae (.val p.d)] d)) (fun d=>zbF (cEn [2,1,3,0] [ae (.val (zdS col)),ae (.val (.tup (P.map .str))),ae (.val (.int m)),ae (.val p.d)] d)) (ts.map fun t=>.str (mkS [t]))=ae (ts.map fun t=>zdS (nb P p m t col)):=by
    intro ts
    induction ts with
    | nil=>rfl
    | cons t ts ih=>
     rw[aH,zcA,ih]
     have h1:=zh9 P p t col hc hp (by lia)
     have h2:=low_ok m ((au (P.length+1)).map fun i=>nxt (fits P t) p (fun i=>col.getD i af) i) (by simp;lia)
     have e:((au (P.length+1)).map fun i=>nxt (fits P t) p (fun i=>col.getD i af) i).map oD=(au (P.length+1)).map fun i=>oD (nxt (fits P t) p (fun i=>col.getD i af) i):=by rw[cI];rfl
     have e2:((au (P.length+1)).map fun i=>nxt (fits P t) p (fun i=>col.getD i af) i).map (cap m)=nb P p m t col:=by unfold nb;rw[cI];rfl
     rw[e,e2] at h2
     generalize zdS col=cd at h1 ⊢
     generalize p.d=pd at h1 ⊢
     simp only[zb3,zbF,zag,zaa,zdC,zab,cEn,jqn,jqf,jqe,jqx,jqa,zjr,jqo,zae,jqc,jqp,jqq,Nat.reduceLeDiff,zc8,asV,jra,eC,zaJ,zbZ,asL,h1,h2,zdS]
   exact key let26
 generalize p.d=pd at hE ⊢
 generalize zdS col=cd at hE ⊢
 simp only[zbM,zcz,stE,stN,jqc,jqa,zc3,zb0,aB,jqk,toN,hE,zc7]
def c0(p:Pr):Nat->Option Int
 | 0=>ae 0
 | i+1=>stp (c0 p i) p.left
theorem cel_c0(fit:Nat->Nat->Bool)(p:Pr)(free:Bool):∀ i,cel fit p free i 0=c0 p i
 | 0=>cel_00 ..
 | i+1=>by rw[cel_s0,cel_c0 fit p free i];rfl
def zhi(p:Pr)(m:Int)(n:Nat):List (Option Int):=(au (n+1)).map fun(i:Nat)=>cap m (c0 p i)
theorem fstC_len(p:Pr)(m:Int)(n:Nat):(zhi p m n).length=n+1:=by simp[zhi]
section
variable {α:Type}[DecidableEq α]
def add(acc:List α)(x:α):List α:=if x ∈ acc then acc else acc ++ [x]
def zdR(acc:List α)(xs:List α):List α:=xs.foldl add acc
theorem mem_add{acc:List α}{x y:α}:y ∈ add acc x ↔ y ∈ acc \/ y=x:=by
 unfold add
 split
 ·rename_i h
  exact⟨.inl,fun z=>z.elim id fun e=>e ▸ h⟩
 ·simp
theorem mem_adds{y:α}:∀ {xs acc:List α},y ∈ zdR acc xs ↔ y ∈ acc \/ y ∈ xs
 | [],acc=>by simp[zdR]
 | x :: xs,acc=>by
  show y ∈ zdR (add acc x) xs ↔ _
  rw[mem_adds,mem_add,aF,or_assoc]
theorem add_nd{acc:List α}{x:α}(h:acc.Nodup):(add acc x).Nodup:=by
 unfold add
 split
 ·exact h
 ·rename_i hx
  rw[bH]
  refine⟨h,by simp,fun a ha b hb=>?_⟩
  simp at hb
  subst hb
  exact fun e=>hx (e ▸ ha)
theorem zhe:∀ {xs acc:List α},acc.Nodup->(zdR acc xs).Nodup
 | [],_,h=>h
 | x :: xs,acc,h=>show(zdR (add acc x) xs).Nodup from zhe (add_nd h)
theorem add_pre(acc:List α)(x:α):∃ l,add acc x=acc ++ l:=by
 unfold add
 split
 ·exact⟨[],by simp⟩
 ·exact⟨[x],rfl⟩
theorem zd0:∀ (xs acc:List α),∃ l,zdR acc xs=acc ++ l
 | [],acc=>⟨[],by simp[zdR]⟩
 | x :: xs,acc=>by
  obtain⟨l1,h1⟩:=add_pre acc x
  obtain⟨l2,h2⟩:=zd0 xs (add acc x)
  refine⟨l1 ++ l2,?_⟩
  show zdR (add acc x) xs=_
  rw[h2,h1,cL]
theorem add_len(acc:List α)(x:α):(add acc x).length<=acc.length+1:=by
 unfold add
 split
 ·lia
 ·simp
theorem ziG:∀ (xs acc:List α),(zdR acc xs).length<=acc.length+xs.length
 | [],acc=>aA _
 | x :: xs,acc=>by
  have h1:=ziG xs (add acc x)
  have h2:=add_len acc x
  show(zdR (add acc x) xs).length<=_
  rw[aL]
  lia
theorem nd_le:∀ {A B:List α},A.Nodup->(∀ x ∈ A,x ∈ B)->A.length<=B.length
 | [],_,_,_=>cg _
 | a :: A,B,h,hs=>by
  rw[a7] at h
  have ha:=hs a aC
  have:=nd_le (A:=A) (B:=B.erase a) h.2 fun x hx=>(List.mem_erase_of_ne (fun(e:x=a)=>h.1 (by rw[<- e];exact hx))).mpr (hs x (av _ hx))
  rw[List.length_erase_of_mem ha] at this
  have:=List.length_pos_of_mem ha
  rw[aL]
  lia
inductive Rch(nbs:α->List α)(s:α):α->Prop
 | z:Rch nbs s s
 | s {c x:α}:Rch nbs s c->x ∈ nbs c->Rch nbs s x
structure Sta(nbs:α->List α)(s:α)(cs:List α)(r:Nat):Prop where
 nd:cs.Nodup
 rc:∀ x ∈ cs,Rch nbs s x
 hs:s ∈ cs
 cl:∀ i c,i<r->cs[i]? = ae c->∀ x ∈ nbs c,x ∈ cs
theorem Sta.init(nbs:α->List α)(s:α):Sta nbs s [s] 0:=⟨by simp,fun x hx=>by simp at hx;subst hx;exact .z,by simp,fun i c h=>by lia⟩
theorem Sta.step{nbs:α->List α}{s c:α}{cs xs:List α}{r:Nat}(S:Sta nbs s cs r)(hc:cs[r]? = ae c)(hx:∀ x,x ∈ xs ↔ x ∈ nbs c):Sta nbs s (zdR cs xs) (r+1):=by
 refine⟨zhe S.nd,fun x h=>?_,mem_adds.mpr (.inl S.hs),fun i d hi hd x h=>?_⟩
 ·rcases mem_adds.mp h with h | h
  ·exact S.rc x h
  ·exact .s (S.rc c (bJ hc)) ((hx x).mp h)
 ·obtain⟨l,hl⟩:=zd0 xs cs
  have hr:r<cs.length:=(aO.mp hc).1
  have hd':cs[i]? = ae d:=by rw[hl,bo (by lia)] at hd;exact hd
  rw[mem_adds]
  by_cases e:i=r
  ·subst e
   rw[hc] at hd'
   cases hd'
   exact .inr ((hx x).mpr h)
  ·exact .inl (S.cl i d (by lia) hd' x h)
theorem Sta.all{nbs:α->List α}{s:α}{cs:List α}{r:Nat}(S:Sta nbs s cs r)(h:cs.length<=r){x:α}(hx:Rch nbs s x):x ∈ cs:=by
 induction hx with
 | z=>exact S.hs
 | s h1 h2 ih=>
  obtain⟨i,hi,e⟩:=fD.mp ih
  exact S.cl i _ (by lia) (by rw[bg hi,e]) _ h2
theorem Sta.le{nbs:α->List α}{s:α}{cs ds:List α}{r q:Nat}(S:Sta nbs s cs r)(T:Sta nbs s ds q)(h:ds.length<=q):cs.length<=ds.length:=nd_le S.nd fun x hx=>T.all h (S.rc x hx)
end
open CE
theorem zf8:∀ col:List (Option Int),ksOf (col.map oD)=ae col
 | []=>rfl
 | none :: col=>by
  rw[aH,ksOf,zf8 col]
  rfl
 | some v :: col=>by
  rw[aH,ksOf,zf8 col]
  rfl
theorem lkT_in:∀ {ks:List (List KN)} {ds:List D} {k:List KN},ks.length=ds.length->k ∈ ks->∃ d,d ∈ ds/\lkT ks ds k=ae d
 | [],_,_,_,h=>by cases h
 | x :: ks,[],_,hl,_=>by simp at hl
 | x :: ks,d :: ds,k,hl,h=>by
  simp only[lkT]
  by_cases e:x=k
  ·exact⟨d,aC,if_pos e⟩
  ·rw[if_neg e]
   obtain⟨d',h1,h2⟩:=lkT_in (ks:=ks) (ds:=ds) (k:=k) (by simpa using hl) ((aF.mp h).resolve_left fun z=>e z.symm)
   exact⟨d',av _ h1,h2⟩
theorem lkT_out:∀ {ks:List (List KN)} {ds:List D} {k:List KN},k ∉ ks->lkT ks ds k=af
 | [],_,_,_=>by simp[lkT]
 | x :: ks,[],_,_=>by simp[lkT]
 | x :: ks,d :: ds,k,h=>by
  simp only[lkT]
  rw[if_neg (fun(e:x=k)=>h (by rw[e];exact aC)),lkT_out fun z=>h (av _ z)]
def ixs(n:Nat):List D:=(au n).map fun(i:Nat)=>D.int (i:Int)
theorem ixs_len(n:Nat):(ixs n).length=n:=by simp[ixs]
theorem ixs_succ(n:Nat):ixs (n+1)=ixs n ++ [D.int (n:Int)]:=by unfold ixs;rw[cf,bG];rfl
section
variable (q0 q1 q2 r5 c6 b7:Option Ent)
theorem rf_turn(cs:List (List (Option Int)))(x:List (Option Int))(hl:cs.length<=100000) :
  zb7 [q0,q1,q2,ae (.own (cs.map zdS)),ae (.obj (.dcT cs (ixs cs.length))),r5,c6,b7,ae (.val (zdS x))] =
  ae (.nx [q0,q1,q2,ae (.own ((add cs x).map zdS)),ae (.obj (.dcT (add cs x) (ixs (add cs x).length))),r5,c6,b7,ae (.val (zdS x))]):=by
 have hk:=zf8 x
 by_cases h:x ∈ cs
 ·obtain⟨d,_,hd⟩:=lkT_in (ds:=ixs cs.length) (by rw[ixs_len]) h
  have e:add cs x=cs:=if_pos h
  rw[e]
  simp only[zb7,fIf,tOf,ex2,zab,zdS,jqf,jqe,zjh,jqx,jqa,vwO,gNiK,tkOf,dtOf,jqc,hk,hd,Option.isSome_some,jqt,bOf,zar,fTput,eCB,zaa,zae,zbw,zdL,asL,asV,tAt,oAt,oDT,jqh,jqg,fNx,jqr,jrb]
 ·have hd:lkT cs (ixs cs.length) x=af:=lkT_out h
  have e:add cs x=cs ++ [x]:=if_neg h
  rw[e,bG,a9,show [x].length=1 from rfl,ixs_succ]
  have hl2:(cs.map zdS).length<1000000:=by rw[ax];lia
  have hl3:cs.length+1<=1000000:=by lia
  simp (disch:=omega) only[zb7,fIf,tOf,ex2,zab,zdS,jqf,jqe,zjh,jqx,jqa,vwO,gNiK,tkOf,dtOf,jqc,hk,hd,Option.isSome_none,jqu,bOf,zar,fTput,eCB,zaa,zae,zbw,zdL,asL,ax,asV,tAt,oAt,oDT,jqh,jqg,zaO,jre,zaf,sqO,zf0,fNx,jra,jqn,jqo]
theorem rf_loop:∀ (xs cs:List (List (Option Int))) (f8:Option Ent),cs.length+xs.length<=100000->∃ f8',
  loop (gNm 8) zb7 (xs.map zdS) [q0,q1,q2,ae (.own (cs.map zdS)),ae (.obj (.dcT cs (ixs cs.length))),r5,c6,b7,f8] =
  ae (.nx [q0,q1,q2,ae (.own ((zdR cs xs).map zdS)),ae (.obj (.dcT (zdR cs xs) (ixs (zdR cs xs).length))),r5,c6,b7,f8'])
 | [],cs,f8,_=>⟨f8,rfl⟩
 | x :: xs,cs,f8,hl=>by
  rw[aL] at hl
  have h2:=add_len cs x
  obtain⟨f8',h⟩:=rf_loop xs (add cs x) (ae (.val (zdS x))) (by lia)
  refine⟨f8',?_⟩
  rw[aH]
  refine dw (zaX rfl (rf_turn q0 q1 q2 r5 c6 b7 cs x (by lia))) ?_
  exact h
end
section
variable (P:List Str)(p:Pr)(m:Int)
abbrev RF(cs:List (List (Option Int)))(rooms:List D)(c6 b7 f8:Option Ent):En:=[ae (.val (.tup (P.map .str))),ae (.val (.int m)),ae (.val p.d),ae (.own (cs.map zdS)),ae (.obj (.dcT cs (ixs cs.length))),ae (.own rooms),c6,b7,f8]
end
open CE
section
variable {α:Type}[DecidableEq α]
def zf9:List α->α->Nat
 | [],_=>0
 | a :: l,x=>if a=x then 0 else zf9 l x+1
theorem zeT{x:α}:∀ {l:List α},x ∈ l->l[zf9 l x]? = ae x
 | [],h=>by cases h
 | a :: l,h=>by
  simp only[zf9]
  by_cases e:a=x
  ·rw[if_pos e,e];rfl
  ·rw[if_neg e,dA]
   exact zeT ((aF.mp h).resolve_left fun z=>e z.symm)
theorem ixOf_lt{x:α}{l:List α}(h:x ∈ l):zf9 l x<l.length:=(aO.mp (zeT h)).1
theorem ziI{x:α}{l':List α}:∀ {l:List α},x ∈ l->zf9 (l ++ l') x=zf9 l x
 | [],h=>by cases h
 | a :: l,h=>by
  rw[eN]
  simp only[zf9]
  by_cases e:a=x
  ·rw[if_pos e,if_pos e]
  ·rw[if_neg e,if_neg e,ziI ((aF.mp h).resolve_left fun z=>e z.symm)]
theorem ixOf_at{x:α}{l:List α}{j:Nat}(hn:l.Nodup)(h:l[j]? = ae x):zf9 l x=j:=by
 obtain⟨h1,e1⟩:=aO.mp h
 have hm:x ∈ l:=by rw[<- e1];exact eK h1
 obtain⟨h2,e2⟩:=aO.mp (zeT hm)
 exact(gq hn).mp (e2.trans e1.symm)
end
theorem lkT_ix:∀ {ks:List (List KN)} {x:List KN} (k:Nat),x ∈ ks->lkT ks ((cJ k ks.length).map fun(i:Nat)=>D.int (i:Int)) x=ae (.int ((k+zf9 ks x:Nat):Int))
 | [],_,_,h=>by cases h
 | a :: ks,x,k,h=>by
  rw[aL,eL,aH]
  simp only[lkT,zf9]
  by_cases e:a=x
  ·rw[if_pos e,if_pos e];rfl
  ·rw[if_neg e,if_neg e,lkT_ix (k+1) ((aF.mp h).resolve_left fun z=>e z.symm),show k+1+zf9 ks x=k+(zf9 ks x+1) by lia]
theorem lk_ixs{ks:List (List KN)}{x:List KN}(h:x ∈ ks):lkT ks (ixs ks.length) x=ae (.int ((zf9 ks x:Nat):Int)):=by
 have:=lkT_ix 0 h
 rw[bj] at this
 unfold ixs
 rw[dj]
 exact this
section
variable (P:List Str)(p:Pr)(m:Int)
def nbs(c:List (Option Int)):List (List (Option Int)):=let26.map fun t=>nb P p m t c
def run:Nat->List (List (Option Int))->Nat->List (List (Option Int))
 | 0,cs,_=>cs
 | n+1,cs,r=>match cs[r]? with
  | none=>cs
  | some c=>if 300<cs.length then cs else run n (zdR cs (nbs P p m c)) (r+1)
def rowI(cs:List (List (Option Int)))(c:List (Option Int)):List Int:=(nbs P p m c).map fun x=>((zf9 cs x:Nat):Int)
def lastO(c:List (Option Int)):Option Int:=c.getLastD af
def zd5(cs:List (List (Option Int)))(c:List (Option Int)):D:=.tup [oD (lastO c),.tup ((rowI P p m cs c).map .int)]
structure St3(cs:List (List (Option Int)))(r:Nat):Prop where
 nd:cs.Nodup
 hl:∀ c ∈ cs,c.length=P.length+1
 cl:∀ i c,i<r->cs[i]? = ae c->∀ x ∈ nbs P p m c,x ∈ cs
 cn:∀ k c,0<k->cs[k]? = ae c->∃ i d,i<k/\cs[i]? = ae d/\c ∈ nbs P p m d
 ps:0<cs.length
theorem nbs_len(c:List (Option Int)):(nbs P p m c).length=26:=by unfold nbs;rw[ax];decide
theorem nbs_l{c x:List (Option Int)}(h:x ∈ nbs P p m c):x.length=P.length+1:=by
 obtain⟨t,_,e⟩:=cY.mp h
 rw[<- e]
 exact nb_len P p m t c
theorem St3.step{cs:List (List (Option Int))}{r:Nat}{c:List (Option Int)}(S:St3 P p m cs r)(hc:cs[r]? = ae c):St3 P p m (zdR cs (nbs P p m c)) (r+1):=by
 have hr:r<cs.length:=(aO.mp hc).1
 obtain⟨l,hl⟩:=zd0 (nbs P p m c) cs
 have old:∀ i d,i<cs.length->(zdR cs (nbs P p m c))[i]? = ae d->cs[i]? = ae d:=fun i d hi hd=>by rw[hl,bo hi] at hd;exact hd
 have new:∀ i d,cs[i]? = ae d->(zdR cs (nbs P p m c))[i]? = ae d:=fun i d hd=>by rw[hl,bo (aO.mp hd).1];exact hd
 refine⟨zhe S.nd,fun x hx=>?_,fun i d hi hd x hx=>?_,fun k d hk hd=>?_,?_⟩
 ·rcases mem_adds.mp hx with h | h
  ·exact S.hl x h
  ·exact nbs_l P p m h
 ·rw[mem_adds]
  have hd':=old i d (by lia) hd
  by_cases e:i=r
  ·subst e
   rw[hc] at hd'
   cases hd'
   exact .inr hx
  ·exact .inl (S.cl i d (by lia) hd' x hx)
 ·by_cases h:k<cs.length
  ·obtain⟨i,e,h1,h2,h3⟩:=S.cn k d hk (old k d h hd)
   exact⟨i,e,h1,new i e h2,h3⟩
  ·refine⟨r,c,by lia,new r c hc,?_⟩
   have hm:d ∈ zdR cs (nbs P p m c):=bJ hd
   rcases mem_adds.mp hm with h' | h'
   ·exfalso
    obtain⟨j,hj,e⟩:=fD.mp h'
    have e':=new j d (by rw[bg hj,e])
    have nd':(zdR cs (nbs P p m c)).Nodup:=zhe S.nd
    generalize zdR cs (nbs P p m c)=cs' at e' hd nd'
    obtain⟨h5,e5⟩:=aO.mp e'
    obtain⟨h6,e6⟩:=aO.mp hd
    have:=(gq nd').mp (e5.trans e6.symm)
    lia
   ·exact h'
 ·rw[hl,a9];have:=S.ps;lia
theorem rowI_app{cs l:List (List (Option Int))}{c:List (Option Int)}(h:∀ x ∈ nbs P p m c,x ∈ cs):rowI P p m (cs ++ l) c=rowI P p m cs c:=by
 unfold rowI
 exact dz fun x hx=>by rw[ziI (h x hx)]
theorem zju{β:Type}(f:List (List (Option Int))->List (Option Int)->β)(hf:∀ cs l c,(∀ x ∈ nbs P p m c,x ∈ cs)->f (cs ++ l) c=f cs c){cs l:List (List (Option Int))}{r:Nat}(S:St3 P p m cs r)(hr:r<=cs.length):((cs ++ l).take r).map (f (cs ++ l))=(cs.take r).map (f cs):=by
 rw[List.take_append_of_le_length hr]
 refine dz fun c hc=>hf cs l c ?_
 obtain⟨i,hi,e⟩:=fD.mp hc
 rw[dP] at hi
 rw[List.getElem_take] at e
 exact S.cl i c (by lia) (by rw[bg (by lia),e])
theorem take_snoc{β:Type}{cs:List β}{r:Nat}{c:β}(hc:cs[r]? = ae c):cs.take (r+1)=cs.take r ++ [c]:=by
 rw[List.take_succ,hc];rfl
theorem zi9{β:Type}(f:List (List (Option Int))->List (Option Int)->β)(hf:∀ cs l c,(∀ x ∈ nbs P p m c,x ∈ cs)->f (cs ++ l) c=f cs c){cs:List (List (Option Int))}{r:Nat}{c:List (Option Int)}(S:St3 P p m cs r)(hc:cs[r]? = ae c) :
  ((zdR cs (nbs P p m c)).take (r+1)).map (f (zdR cs (nbs P p m c)))=(cs.take r).map (f cs) ++ [f (zdR cs (nbs P p m c)) c]:=by
 have hr:r<cs.length:=(aO.mp hc).1
 obtain⟨l,hl⟩:=zd0 (nbs P p m c) cs
 generalize zdR cs (nbs P p m c)=cs' at hl ⊢
 subst hl
 have hc':(cs ++ l)[r]? = ae c:=by rw[bo hr];exact hc
 have hg:=zju P p m f hf (l:=l) S (d7 hr)
 rw[take_snoc hc',bG,hg,aH,cc]
theorem roomD_app(cs l:List (List (Option Int)))(c:List (Option Int))(h:∀ x ∈ nbs P p m c,x ∈ cs):zd5 P p m (cs ++ l) c=zd5 P p m cs c:=by unfold zd5;rw[rowI_app P p m h]
theorem run_St{n:Nat}:∀ {cs:List (List (Option Int))} {r:Nat},St3 P p m cs r->r<=cs.length->cs.length<=300->301<=n+r->∃ q,St3 P p m (run P p m n cs r) q/\(300<(run P p m n cs r).length \/ q=(run P p m n cs r).length):=by
 induction n with
 | zero=>intro cs r S h1 h2 h3;lia
 | succ n ih=>
  intro cs r S h1 h2 h3
  unfold run
  by_cases h:r<cs.length
  ·have hc:cs[r]? = ae cs[r]:=bg h
   rw[hc]
   dsimp only
   rw[if_neg (by lia)]
   have S':=S.step P p m hc
   obtain⟨l,hl⟩:=zd0 (nbs P p m cs[r]) cs
   by_cases h4:(zdR cs (nbs P p m cs[r])).length<=300
   ·exact ih S' (by rw[hl,a9];lia) h4 (by lia)
   ·refine⟨r+1,?_⟩
    have:run P p m n (zdR cs (nbs P p m cs[r])) (r+1)=zdR cs (nbs P p m cs[r]):=by
     cases n with
     | zero=>rfl
     | succ n=>
      unfold run
      cases (zdR cs (nbs P p m cs[r]))[r+1]? with
      | none=>rfl
      | some d=>dsimp only;rw[if_pos (by lia)]
    rw[this]
    exact⟨S',.inl (by lia)⟩
  ·have hc:cs[r]? = af:=dg (by lia)
   rw[hc]
   exact⟨r,S,.inr (by show r=cs.length;lia)⟩
end
open CE
theorem whlX_go{c:FT}{f:FSX}{n:Nat}{δ δ':En}(h1:c δ=ae true)(h2:f δ=ae (ae (.nx δ'))):ziU c f (n+1) δ=ziU c f n δ':=by
 simp only[ziU,h1,h2,bU,if_true]
 rfl
theorem whlX_rz{c:FT}{f:FSX}{n:Nat}{δ:En}(h1:c δ=ae true)(h2:f δ=ae af):ziU c f (n+1) δ=ae af:=by
 simp only[ziU,h1,h2,bU,if_true]
 rfl
theorem whlX_end{c:FT}{f:FSX}{n:Nat}{δ:En}(h1:c δ=ae false):ziU c f (n+1) δ=ae (ae (.nx δ)):=by
 simp only[ziU,h1,bU,if_false,bp]
section
variable (P:List Str)(p:Pr)(m:Int)
theorem look3(δ:En)(cs:List (List (Option Int)))(h:δ[4]? = ae (ae (.obj (.dcT cs (ixs cs.length))))):∀ xs:List (List (Option Int)),(∀ x ∈ xs,x ∈ cs)->zcA (fun d=>zb3 (cEn [4] δ d)) (fun d=>zcN (cEn [4] δ d)) (xs.map zdS)=ae ((xs.map fun x=>((zf9 cs x:Nat):Int)).map .int)
 | [],_=>rfl
 | x :: xs,hx=>by
  have h2:=look3 δ cs h xs fun y hy=>hx y (av _ hy)
  have hd:=lk_ixs (hx x aC)
  rw[aH,zcA,h2]
  have hk:=zf8 x
  simp only[zb3,zcN,ex2,zjh,cEn,zdS,jqn,h,jqx,jqa,zjr,jqo,jqf,jqe,vwO,zab,gDxK,dtOf,tkOf,hk,hd,jqc,asV,jra]
theorem last_at{c:List (Option Int)}{n:Nat}(h:c.length=n+1):atI (c.map oD) (-1)=ae (oD (lastO c)):=by
 refine zhB ?_
 rw[List.getLast?_map]
 cases c with
 | nil=>simp at h
 | cons a c=>unfold lastO;rw[List.getLastD_cons];simp[List.getLast?_cons,List.getLastD_eq_getLast?]
theorem rf_body3(cs:List (List (Option Int)))(rooms:List D)(c6 b7 f8:Option Ent)(c:List (Option Int))(hc:cs[rooms.length]? = ae c)(hcl:c.length=P.length+1)(hp:p.turn=0)(hP:P.length<=900)(h3:cs.length<=300) :
  (300<(zdR cs (nbs P p m c)).length/\zbm (RF P p m cs rooms c6 b7 f8)=ae af) \/
  ((zdR cs (nbs P p m c)).length<=300/\∃ c6' b7' f8',zbm (RF P p m cs rooms c6 b7 f8)=ae (ae (.nx (RF P p m (zdR cs (nbs P p m c)) (rooms ++ [zd5 P p m (zdR cs (nbs P p m c)) c]) c6' b7' f8')))):=by
 unfold RF zd5 rowI
 have hr:rooms.length<cs.length:=(aO.mp hc).1
 have a1:atI (cs.map zdS) (rooms.length:Int)=ae (zdS c):=zel (by lia) (by rw[c7,aG,hc];rfl)
 have hb:=behind_ok P p m c hcl hp hP
 have hxl:=nbs_len P p m c
 have hl:=ziG (nbs P p m c) cs
 rw[hxl] at hl
 have hxs':(let26.map fun t=>zdS (nb P p m t c))=(nbs P p m c).map zdS:=by unfold nbs;rw[cI];rfl
 rw[hxs'] at hb
 generalize nbs P p m c=xs at hl hb hxl ⊢
 obtain⟨f8',hlp⟩:=rf_loop (ae (.val (.tup (P.map .str)))) (ae (.val (.int m))) (ae (.val p.d)) (ae (.own rooms)) (ae (.val (zdS c))) (ae (.val (.lst (xs.map zdS)))) xs cs f8 (by lia)
 have hin:∀ x ∈ xs,x ∈ zdR cs xs:=fun x hx=>mem_adds.mpr (.inr hx)
 generalize zdR cs xs=cs' at hl hlp hin ⊢
 have hv:=last_at hcl
 generalize hcd:zdS c=cd at a1 hb hlp
 have hcd':cd=.tup (c.map oD):=hcd.symm
 by_cases h:300<cs'.length
 ·refine .inl ⟨h,?_⟩
  have hg:(cs'.length:Int) > 300:=by lia
  generalize p.d=pd at hb hlp ⊢
  simp (disch:=omega) only[zbm,zeR,lX,za7,ex2,zab,jqf,jqe,eCB,zaa,zae,jqc,jqa,zbw,zdL,asL,zds,iOf,a1,jqh,jqg,toN,zdG,zdH,zdF,gGt,sqX,zag,zaJ,zbZ,asV,hb,fFrzX,zdr,iL,hlp,fIfX,tOf,ax,eC,pI0,hg,jqy,bOf,fRz,jqp,jqq,Nat.reduceLeDiff,jra,fNx]
 ·refine .inr ⟨by lia,?_⟩
  have hg:¬ ((cs'.length:Int) > 300):=by lia
  have o2:=look3 (RF P p m cs' rooms (ae (.val cd)) (ae (.val (.lst (xs.map zdS)))) f8') cs' rfl xs hin
  have hE:eLC [4] (iL (zab 7)) zb3 zcN (RF P p m cs' rooms (ae (.val cd)) (ae (.val (.lst (xs.map zdS)))) f8')=ae (.own ((xs.map fun x=>((zf9 cs' x:Nat):Int)).map .int)):=zem rfl o2 (by simp only[ax];lia)
  unfold RF at hE
  have ho:((xs.map fun x=>((zf9 cs' x:Nat):Int)).map D.int).length<=1000000:=by simp only[ax];lia
  have hrl:rooms.length<1000000:=by lia
  refine⟨ae (.val cd),ae (.val (.lst (xs.map zdS))),f8',?_⟩
  generalize p.d=pd at hb hlp hE ⊢
  generalize (xs.map fun x=>((zf9 cs' x:Nat):Int)).map D.int=out at hE ho ⊢
  generalize xs.map zdS=xd at hb hlp hE ⊢
  rw[hcd'] at a1 hb hlp hE ⊢
  simp (disch:=omega) only[zbm,zeR,lX,za7,ex2,zab,jqf,jqe,eCB,zaa,zae,jqc,jqa,zbw,zdL,asL,zds,iOf,a1,jqh,jqg,toN,zdG,zdH,zdF,gGt,sqX,zag,zaJ,zbZ,asV,hb,fFrzX,zdr,iL,hlp,fIfX,tOf,ax,eC,pI0,hg,jqz,bOf,fRz,jqp,jqq,Nat.reduceLeDiff,jra,fNx,jqr,jrb,zf0,zhx,ex1,zeK,Int.reduceNeg,zdx,zaO,zaf]
  simp (disch:=omega) only[Int.reduceNeg,hv,jqc,hE,jqa,zc4,asL,jqp,jqq,Nat.reduceLeDiff,zc8,asV,jra]
theorem rf_test(cs:List (List (Option Int)))(rooms:List D)(c6 b7 f8:Option Ent)(b:Bool)(hb:decide (rooms.length<cs.length)=b)(h1:rooms.length<=1000)(h2:cs.length<=1000):zb6 (RF P p m cs rooms c6 b7 f8)=ae b:=by
 subst hb
 unfold RF
 have e:decide ((rooms.length:Int)<(cs.length:Int))=decide (rooms.length<cs.length):=by
  by_cases h:rooms.length<cs.length
  ·rw[decide_eq_true h,decide_eq_true (by lia)]
  ·rw[decide_eq_false h,decide_eq_false (by lia)]
 simp (disch:=omega) only[zb6,tOf,ex2,eCB,zaa,zab,jqf,jqe,zae,jqc,jqa,zbw,zdL,asL,ax,gLt,pI0,iOf,e,bOf]
theorem rf_while3(hp:p.turn=0)(hP:P.length<=900):∀ (n:Nat) (cs:List (List (Option Int))) (r:Nat) (c6 b7 f8:Option Ent),St3 P p m cs r->r<=cs.length->cs.length<=300->301<=n+r ->
  (300<(run P p m n cs r).length/\ziU zb6 zbm n (RF P p m cs ((cs.take r).map (zd5 P p m cs)) c6 b7 f8)=ae af) \/
  ((run P p m n cs r).length<=300/\∃ c6' b7' f8',ziU zb6 zbm n (RF P p m cs ((cs.take r).map (zd5 P p m cs)) c6 b7 f8)=ae (ae (.nx (RF P p m (run P p m n cs r) ((run P p m n cs r).map (zd5 P p m (run P p m n cs r))) c6' b7' f8')))):=by
 intro n
 induction n with
 | zero=>intro cs r c6 b7 f8 S h1 h2 h3;lia
 | succ n ih=>
  intro cs r c6 b7 f8 S h1 h2 h3
  have hrl:((cs.take r).map (zd5 P p m cs)).length=r:=by rw[ax,dP];lia
  by_cases h:r<cs.length
  ·have ht:=rf_test P p m cs ((cs.take r).map (zd5 P p m cs)) c6 b7 f8 true (by rw[hrl];exact decide_eq_true h) (by lia) (by lia)
   obtain⟨c,hc⟩:∃ c,cs[r]? = ae c:=⟨_,bg h⟩
   have hrun:run P p m (n+1) cs r=run P p m n (zdR cs (nbs P p m c)) (r+1):=by
    rw[run,hc]
    dsimp only
    rw[if_neg (by lia)]
   have hb:=rf_body3 P p m cs ((cs.take r).map (zd5 P p m cs)) c6 b7 f8 c (by rw[hrl];exact hc) (S.hl c (bJ hc)) hp hP h2
   have S':=S.step P p m hc
   have hst:=zi9 P p m (zd5 P p m) (roomD_app P p m) S hc
   rw[hrun]
   obtain⟨l,hpre⟩:=zd0 (nbs P p m c) cs
   have hlen:r+1<=(zdR cs (nbs P p m c)).length:=by rw[hpre,a9];lia
   rcases hb with ⟨g1,g2⟩ | ⟨g1,c6',b7',f8',g2⟩
   ·refine .inl ⟨?_,whlX_rz ht g2⟩
    have:run P p m n (zdR cs (nbs P p m c)) (r+1)=zdR cs (nbs P p m c):=by
     generalize zdR cs (nbs P p m c)=cs' at g1
     cases n with
     | zero=>rfl
     | succ n=>
      rw[run]
      cases cs'[r+1]? with
      | none=>rfl
      | some d=>dsimp only;rw[if_pos g1]
    rw[this]
    exact g1
   ·rw[whlX_go ht g2,<- hst]
    exact ih (zdR cs (nbs P p m c)) (r+1) c6' b7' f8' S' hlen g1 (by lia)
  ·have ht:=rf_test P p m cs ((cs.take r).map (zd5 P p m cs)) c6 b7 f8 false (by rw[hrl];exact decide_eq_false h) (by lia) (by lia)
   have e:r=cs.length:=by lia
   have hrun:run P p m (n+1) cs r=cs:=by
    rw[run,dg (by lia)]
   rw[hrun]
   refine .inr ⟨h2,c6,b7,f8,?_⟩
   rw[whlX_end ht,e,gz]
theorem St3.init:St3 P p m [zhi p m P.length] 0:=by
 refine⟨by simp,fun c hc=>?_,fun i c h=>by lia,fun k c hk hc=>?_,by simp⟩
 ·simp at hc;subst hc;exact fstC_len p m _
 ·have:=(aO.mp hc).1
  simp at this
  lia
def zjJ:List (List (Option Int)):=run P p m 301 [zhi p m P.length] 0
theorem allC_St:∃ q,St3 P p m (zjJ P p m) q/\(300<(zjJ P p m).length \/ q=(zjJ P p m).length):=run_St P p m (St3.init P p m) (by simp) (by simp) (by lia)
theorem rooms_ok(hp:p.turn=0)(hP:P.length<=900) :
  (300<(zjJ P p m).length/\za4 [.tup (P.map .str),.int m,p.d]=ae af) \/ ((zjJ P p m).length<=300/\za4 [.tup (P.map .str),.int m,p.d]=ae (ae (.val (.tup ((zjJ P p m).map (zd5 P p m (zjJ P p m))))))):=by
 have h1:=zfY P p true (fun _ _=>true) (by lia)
 have e1:zbX (cel (fun _ _=>true) p true) P.length 0=.tup (((au (P.length+1)).map fun(i:Nat)=>c0 p i).map oD):=by
  unfold zbX
  rw[cI]
  congr 1
  exact dz fun i _=>by rw[cel_c0];rfl
 rw[e1] at h1
 have h2:=low_ok m ((au (P.length+1)).map fun(i:Nat)=>c0 p i) (by simp;lia)
 have e2:((au (P.length+1)).map fun(i:Nat)=>c0 p i).map (cap m)=zhi p m P.length:=by unfold zhi;rw[cI];rfl
 rw[e2] at h2
 have hk:=zf8 (zhi p m P.length)
 have hw:=rf_while3 P p m hp hP 301 [zhi p m P.length] 0 af af af (St3.init P p m) (by simp) (by simp) (by lia)
 rw[show run P p m 301 [zhi p m P.length] 0=zjJ P p m from rfl] at hw
 have p3:atI [D.int p.put,D.int p.left,D.int p.exch,D.int p.turn] 3=ae (.int 0):=by rw[<- hp];rfl
 have hd:p.d=.tup [D.int p.put,D.int p.left,D.int p.exch,D.int p.turn]:=rfl
 generalize hI:((au (P.length+1)).map fun(i:Nat)=>c0 p i).map oD=I at h1 h2
 generalize hC:zjJ P p m=C at hw ⊢
 generalize hR:C.map (zd5 P p m C)=R at hw ⊢
 have hRl:R.length=C.length:=by rw[<- hR,ax]
 unfold RF at hw
 generalize hpl:P.map D.str=PD at h1 hw ⊢
 rw[hd] at hw h1 ⊢
 have e0:ixs [zhi p m P.length].length=[D.int 0]:=rfl
 have e9:([zhi p m P.length].take 0).map (zd5 P p m [zhi p m P.length])=[]:=rfl
 rw[e0,e9] at hw
 generalize zhi p m P.length=s at hk hw h2
 simp only[aH,cc,zdS] at hw
 have a0:atI [D.tup (s.map oD)] 0=ae (D.tup (s.map oD)):=rfl
 rcases hw with ⟨w1,w2⟩ | ⟨w1,c6,b7,f8,w4⟩
 ·refine .inl ⟨w1,?_⟩
  simp (disch:=omega) only[za4,semX,stE,stN,jqc,jqa,zd2,zeR,fIfX,tOf,ex2,zab,aB,eC,zdx,zdL,iOf,gNe,zgu,lX,fNx,zdJ,zdM,zdP,zdE,jqi,jqj,jqf,jqe,p3,jqy,jqt,bOf,jqr,jrb,sqX,za7,zdC,zaa,zag,zae,zaJ,zbZ,asV,h1,h2,jqp,jqq,Nat.reduceLeDiff,zc8,jra,jqh,jqg,toN,zhW,eDT1,zds,asL,a0,tkOf,hk,w2,endX]
 ·refine .inr ⟨w1,?_⟩
  have hl:R.length<=1000000:=by lia
  simp (disch:=omega) only[za4,semX,stE,stN,jqc,jqa,zd2,zeR,fIfX,tOf,ex2,zab,aB,eC,zdx,zdL,iOf,gNe,zgu,lX,fNx,zdJ,zdM,zdP,zdE,jqi,jqj,jqf,jqe,p3,jqy,jqt,bOf,jqr,jrb,sqX,za7,zdC,zaa,zag,zae,zaJ,zbZ,asV,h1,h2,jqp,jqq,Nat.reduceLeDiff,zc8,jra,jqh,jqg,toN,zhW,eDT1,zds,asL,a0,tkOf,hk,w4,zb0,eCB,zc4,endX,zc7]
end
open CE
theorem cap_cap(m:Int)(x:Option Int):cap m (cap m x)=cap m x:=by
 cases x with
 | none=>rfl
 | some v=>by_cases h:v<=m <;> simp[cap,h]
theorem zg4(m q:Int)(hq:0<=q)(x:Option Int):cap m (stp (cap m x) q)=cap m (stp x q):=by
 unfold stp
 split
 ·rfl
 ·cases x with
  | none=>rfl
  | some v=>
   by_cases h:v<=m
   ·simp[cap,h]
   ·have h2:¬ v+q<=m:=by lia
    simp[cap,h,h2]
theorem zg6{m:Int}{x:Option Int}{w:Int}(h:cap m x=ae w):x=ae w/\w<=m:=by
 cases x with
 | none=>cases h
 | some v=>
  by_cases hv:v<=m
  ·rw[show cap m (ae v)=ae v from if_pos hv] at h;cases h;exact⟨rfl,hv⟩
  ·rw[show cap m (ae v)=af from if_neg hv] at h;cases h
theorem lw_is{ds:List (Option Int)}{v:Int}(h:ae v ∈ ds)(hl:∀ w,ae w ∈ ds->v<=w):lw ds=ae v:=by
 obtain⟨m',e,le⟩:=ziq h
 have:=hl m' (zhv e)
 rw[e,show m'=v by lia]
theorem cap_lw(m:Int)(cs:List (Option Int)):cap m (lw cs)=lw (cs.map (cap m)):=by
 cases hL:lw cs with
 | none=>
  cases hR:lw (cs.map (cap m)) with
  | none=>rfl
  | some w=>
   obtain⟨x,h1,h2⟩:=cY.mp (zhv hR)
   obtain⟨rfl,_⟩:=zg6 h2
   obtain⟨m',e,_⟩:=ziq h1
   rw[hL] at e;cases e
 | some v=>
  by_cases hv:v<=m
  ·rw[show cap m (ae v)=ae v from if_pos hv]
   refine(lw_is ?_ fun w hw=>?_).symm
   ·exact cY.mpr ⟨ae v,zhv hL,if_pos hv⟩
   ·obtain⟨x,h1,h2⟩:=cY.mp hw
    obtain⟨rfl,_⟩:=zg6 h2
    obtain⟨m',e,le⟩:=ziq h1
    rw[hL] at e;cases e;exact le
  ·rw[show cap m (ae v)=af from if_neg hv]
   cases hR:lw (cs.map (cap m)) with
   | none=>rfl
   | some w=>
    obtain⟨x,h1,h2⟩:=cY.mp (zhv hR)
    obtain⟨rfl,h3⟩:=zg6 h2
    obtain⟨m',e,le⟩:=ziq h1
    rw[hL] at e;cases e
    lia
theorem nxt_cap(f:Nat->Bool)(p:Pr)(m:Int)(h1:0<=p.put)(h2:0<=p.left)(h3:0<=p.exch)(col col':Nat->Option Int)(n:Nat)(h:∀ i,i<=n->col' i=cap m (col i)):∀ i,i<=n->cap m (nxt f p col' i)=cap m (nxt f p col i)
 | 0,_=>rfl
 | i+1,hi=>by
  have ih:=nxt_cap f p m h1 h2 h3 col col' n h i (by lia)
  have a1:cap m (if f i=true then cap m (col i) else stp (cap m (col i)) p.exch)=cap m (if f i=true then col i else stp (col i) p.exch):=by
   split
   ·exact cap_cap ..
   ·exact zg4 m _ h3 _
  have a3:cap m (stp (nxt f p col' i) p.left)=cap m (stp (nxt f p col i) p.left):=by rw[<- zg4 m _ h2,ih,zg4 m _ h2]
  show cap m (lw [_,_,_])=cap m (lw [_,_,_])
  rw[cap_lw,cap_lw]
  simp only[aH,cc]
  rw[h i (by lia),h (i+1) hi,a1,zg4 m _ h1,a3]
theorem nxt_cel(P:List Str)(T:List Nat)(p:Pr)(hp:p.turn=0)(j:Nat):∀ i,nxt (fits P (T.getD j 0)) p (fun i=>cel (zeS P T) p true i j) i=cel (zeS P T) p true i (j+1)
 | 0=>by rw[cel_0s];rfl
 | i+1=>by
  have e:stp (tc (zeS P T) (cel (zeS P T) p true) i j) p.turn=af:=by unfold stp;rw[if_pos hp]
  rw[cel_ss,e,lw_n,<- nxt_cel P T p hp j i]
  rfl
theorem tupL{E:FE}{δ:En}{ds:List D}(h:E δ=ae (.own ds))(hl:ds.length<=1000000):eCB zc4 (zaa E zae) δ=ae (.val (.tup ds)):=by simp only[eCB,zaa,h,zae,jqc,jqa,zc4,asL]
section
variable (P:List Str)(T:List Nat)(p:Pr)(m:Int)
def zh4(j:Nat):List (Option Int):=(au (P.length+1)).map fun i=>cap m (cT P T p i j)
theorem colj_0:zh4 P T p m 0=zhi p m P.length:=by
 unfold zh4 zhi
 exact dz fun i _=>by rw[show cT P T p i 0=c0 p i from cel_c0 ..]
theorem colj_get(j i:Nat)(h:i<=P.length):(zh4 P T p m j).getD i af=cap m (cT P T p i j):=by
 unfold zh4
 rw[dZ,aG,bE (by lia)]
 rfl
theorem colj_s(hp:p.turn=0)(h1:0<=p.put)(h2:0<=p.left)(h3:0<=p.exch)(j:Nat):zh4 P T p m (j+1)=nb P p m (T.getD j 0) (zh4 P T p m j):=by
 unfold nb
 refine dz fun i hi=>?_
 have hi':i<=P.length:=by have:=dJ.mp hi;lia
 rw[nxt_cap (fits P (T.getD j 0)) p m h1 h2 h3 (fun i=>cT P T p i j) _ P.length (fun i hi=>colj_get P T p m j i hi) i hi',nxt_cel P T p hp j i]
theorem colj_last(j:Nat):lastO (zh4 P T p m j)=cap m (cT P T p P.length j):=by
 unfold lastO zh4
 rw[cf,bG]
 simp
theorem run_pre:∀ (n:Nat) (cs:List (List (Option Int))) (r:Nat),∃ l,run P p m n cs r=cs ++ l
 | 0,cs,r=>⟨[],by simp[run]⟩
 | n+1,cs,r=>by
  unfold run
  split
  ·exact⟨[],by simp⟩
  ·rename_i c hc
   split
   ·exact⟨[],by simp⟩
   ·obtain⟨l1,e1⟩:=zd0 (nbs P p m c) cs
    obtain⟨l2,e2⟩:=run_pre n (zdR cs (nbs P p m c)) (r+1)
    exact⟨l1 ++ l2,by rw[e2,e1,cL]⟩
theorem allC_0:(zjJ P p m)[0]? = ae (zhi p m P.length):=by
 unfold zjJ
 obtain⟨l,e⟩:=run_pre P p m 301 [zhi p m P.length] 0
 rw[e]
 rfl
theorem let26_mem{t:Nat}(h:97<=t/\t<=122):t ∈ let26:=cY.mpr ⟨t - 97,dJ.mpr (by lia),by lia⟩
theorem let26_at{t:Nat}(h:97<=t/\t<=122):let26[t - 97]? = ae t:=by
 unfold let26
 rw[aG,bE (by lia)]
 show ae (97+(t - 97))=ae t
 rw[show 97+(t - 97)=t by lia]
theorem idx26:∀ k:Fin 26,(bP ("abcdefghijklmnopqrstuvwxyz" : Str) (mkS [97+k.val]) 0 26 1).head? = ae k.val:=by decide +kernel
theorem idx_ok{t:Nat}(h:97<=t/\t<=122){E:FE}{δ:En}(he:E δ=ae (.val (.str (mkS [t])))):eBM gIdxS (eC (.str "abcdefghijklmnopqrstuvwxyz")) (zaa E zae) δ=ae (.val (.int ((t - 97:Nat):Int))):=by
 have q:=idx26 ⟨t - 97,by lia⟩
 rw[show 97+(⟨t - 97,by lia⟩:Fin 26).val=t by show 97+(t - 97)=t;lia] at q
 have l:("abcdefghijklmnopqrstuvwxyz" : Str).length=26:=by decide +kernel
 unfold eBM zaa zae eC
 rw[he]
 show(bP ("abcdefghijklmnopqrstuvwxyz" : Str) (mkS [t]) 0 ("abcdefghijklmnopqrstuvwxyz" : Str).length 1).head?.map _=_
 rw[l,q]
 rfl
variable (hp:p.turn=0)(h1:0<=p.put)(h2:0<=p.left)(h3:0<=p.exch)(C:List (List (Option Int)))(S:St3 P p m C C.length)(hC0:C[0]? = ae (zhi p m P.length))(hT:∀ t ∈ T,97<=t/\t<=122)
theorem T_at{T:List Nat}(hT:∀ t ∈ T,97<=t/\t<=122){j:Nat}(hj:j<T.length):97<=T.getD j 0/\T.getD j 0<=122:=hT _ (bJ (zh6 hj))
include hp h1 h2 h3 S hC0 hT in
theorem zig:∀ j,j<=T.length->zh4 P T p m j ∈ C
 | 0,_=>by rw[colj_0];exact bJ hC0
 | j+1,hj=>by
  have ih:=zig j (by lia)
  rw[colj_s P T p m hp h1 h2 h3]
  exact S.cl _ _ (ixOf_lt ih) (zeT ih) _ (cY.mpr ⟨_,let26_mem (T_at hT (by lia)),rfl⟩)
def zgz(j:Nat):D:=.int ((zf9 C (zh4 P T p m j):Nat):Int)
abbrev zb8:D:=.tup (C.map (zd5 P p m C))
theorem room_at{c:List (Option Int)}(h:c ∈ C):atI (C.map (zd5 P p m C)) ((zf9 C c:Nat):Int)=ae (zd5 P p m C c):=by
 refine zel (eu _) ?_
 rw[aG,show((zf9 C c:Nat):Int).toNat=zf9 C c from rfl,zeT h]
 rfl
include hp h1 h2 h3 S hC0 hT in
theorem met_turn(j:Nat)(hj:j<T.length)(hl:T.length<=1000)(x1 x4:Option Ent):∃ y4,
  zce [ae (.val (zb8 P p m C)),x1,ae (.own ((au (j+1)).map (zgz P T p m C))),ae (.val (.str (mkS [T.getD j 0]))),x4]=ae (.nx [ae (.val (zb8 P p m C)),x1,ae (.own ((au (j+1+1)).map (zgz P T p m C))),ae (.val (.str (mkS [T.getD j 0]))),y4]):=by
 have hc:=zig P T p m hp h1 h2 h3 C S hC0 hT j (by lia)
 have ht:=T_at hT hj
 have a1:=zfw (zgz P T p m C) j
 have a2:=room_at P p m C hc
 have a5:atI ((rowI P p m C (zh4 P T p m j)).map D.int) ((T.getD j 0 - 97:Nat):Int)=ae (zgz P T p m C (j+1)):=by
  refine zel (eu _) ?_
  rw[show((T.getD j 0 - 97:Nat):Int).toNat=T.getD j 0 - 97 from rfl]
  unfold rowI nbs zgz
  rw[cI,cI,aG,let26_at ht,colj_s P T p m hp h1 h2 h3]
  rfl
 have e:(au (j+1+1)).map (zgz P T p m C)=(au (j+1)).map (zgz P T p m C) ++ [zgz P T p m C (j+1)]:=by rw[cf (n:=j+1),bG];rfl
 have hll:((au (j+1)).map (zgz P T p m C)).length<1000000:=by rw[ax,bY];lia
 rw[e]
 refine⟨ae (.val (.tup ((rowI P p m C (zh4 P T p m j)).map D.int))),?_⟩
 have v4:=ixTT (E:=ex2 zdx (zab 0) (ex2 zds (zab 2) (ex1 zeK (eC (.int 1))))) (F:=eC (.int 1)) (δ:=[ae (.val (zb8 P p m C)),x1,ae (.own ((au (j+1)).map (zgz P T p m C))),ae (.val (.str (mkS [T.getD j 0]))),x4]) (ixTT (E:=zab 0) rfl (ixLW (E:=zab 2) (F:=ex1 zeK (eC (.int 1))) rfl rfl a1) a2) rfl (v:=.tup ((rowI P p m C (zh4 P T p m j)).map D.int)) rfl
 refine(show zce _=_ from zaQ v4).trans ?_
 exact fAppI (i:=2) rfl (ixTT (E:=zab 4) rfl (idx_ok ht (E:=zab 3) rfl) a5) hll
include hp h1 h2 h3 S hC0 hT in
theorem ziR(hl:T.length<=1000)(x1:Option Ent):∀ (w:List Nat) (j:Nat) (x3 x4:Option Ent),T.drop j=w->j<=T.length->∃ y3 y4,
  loop (gNm 3) zce (w.map fun c=>D.str (mkS [c])) [ae (.val (zb8 P p m C)),x1,ae (.own ((au (j+1)).map (zgz P T p m C))),x3,x4]=ae (.nx [ae (.val (zb8 P p m C)),x1,ae (.own ((au (T.length+1)).map (zgz P T p m C))),y3,y4])
 | [],j,x3,x4,h,hj=>by
  have:j=T.length:=by have:=congrArg dF h;simp at this;lia
  subst this
  exact⟨x3,x4,rfl⟩
 | c :: w,j,x3,x4,h,hj=>by
  have hj:j<T.length:=by have:=congrArg dF h;simp at this;lia
  rw[bQ hj,fC] at h
  have hc:c=T.getD j 0:=by rw[<- h.1];simp[hj]
  subst hc
  obtain⟨z4,st⟩:=met_turn P T p m hp h1 h2 h3 C S hC0 hT j hj hl x1 x4
  obtain⟨y3,y4,e⟩:=ziR hl x1 w (j+1) (ae (.val (.str (mkS [T.getD j 0])))) z4 h.2 (by lia)
  exact⟨y3,y4,dw (zaX rfl st) e⟩
include hp h1 h2 h3 S hC0 hT in
theorem met_ok(hl:T.length<=1000):zcs [zb8 P p m C,.str (mkS T)]=ae (.own ((au (T.length+1)).map (zgz P T p m C))):=by
 have z0:zf9 C (zh4 P T p m 0)=0:=by rw[colj_0];exact ixOf_at S.nd hC0
 obtain⟨y3,y4,e⟩:=ziR P T p m hp h1 h2 h3 C S hC0 hT hl (ae (.val (.str (mkS T)))) T 0 af af rfl (cg _)
 rw[show(au (0+1)).map (zgz P T p m C)=[D.int 0] by show [zgz P T p m C 0]=_;unfold zgz;rw[z0];rfl] at e
 have w:zdb [ae (.val (zb8 P p m C)),ae (.val (.str (mkS T))),af,af,af]=_:=(show zdb _=_ from zda (zjv (ds:=[D.int 0]) rfl)).trans ((forN (it:=iS (zab 1)) (ds:=T.map fun c=>D.str (mkS [c])) (by show ae ((mkS T).cps.toList.map _)=_;rw[zci]) e).trans rfl)
 exact(congrArg (fun o=>cP o zc7) w).trans rfl
theorem zhC(δ:En)(h0:δ[0]? = ae (ae (.val (zb8 P p m C)))):∀ l:List Nat,(∀ j ∈ l,zh4 P T p m j ∈ C)->zcA (fun d=>zb3 (cEn [0] δ d)) (fun d=>zbS (cEn [0] δ d)) (l.map (zgz P T p m C))=ae (l.map fun j=>oD (cap m (cT P T p P.length j)))
 | [],_=>rfl
 | j :: l,h=>by
  have ih:=zhC δ h0 l fun k hk=>h k (av _ hk)
  have a2:=room_at P p m C (h j aC)
  have he:zbS (cEn [0] δ (zgz P T p m C j))=ae (.val (oD (cap m (cT P T p P.length j)))):=by
   rw[<- colj_last]
   have c0:cEn [0] δ (zgz P T p m C j)=[ae (.val (zgz P T p m C j)),ae (.val (zb8 P p m C))]:=by simp only[cEn,aH,cc,h0];rfl
   rw[c0]
   exact ixTT (E:=ex2 zdx (zab 1) (zab 0)) (F:=eC (.int 0)) (ixTT (E:=zab 1) (F:=zab 0) rfl rfl a2) rfl rfl
  rw[aH,zcA,ih,he]
  rfl
theorem zhI(δ:En):∀ l:List Nat,zcA (fun d=>(two d).bind fun q=>zbT (cEn2 [] δ q.1 q.2)) (fun d=>(two d).bind fun q=>zbR (cEn2 [] δ q.1 q.2)) (l.map fun(j:Nat)=>D.tup [.int (j:Int),oD (cap m (cT P T p P.length j))])=ae (l.flatMap fun j=>prD m (cT P T p P.length j) j)
 | []=>rfl
 | j :: l=>by
  have ih:=zhI δ l
  rw[aH,zcA,ih,iV]
  cases cT P T p P.length j with
  | none=>rfl
  | some v=>
   by_cases hv:v<=m
   ·rw[show cap m (ae v)=ae v from if_pos hv,show prD m (ae v) j=[.tup [.int (j:Int),.int v]] from if_pos hv]
    rfl
   ·rw[show cap m (ae v)=af from if_neg hv,show prD m (ae v) j=[] from if_neg hv]
    rfl
include hp h1 h2 h3 S hC0 hT in
theorem zjq(hl:T.length<=1000):zbW [zb8 P p m C,.str (mkS T)]=ae (.val (.tup (prR P T p m 0 (T.length+1)))):=by
 have n1:=met_ok P T p m hp h1 h2 h3 C S hC0 hT hl
 have c1:=zhC P T p m C [ae (.val (zb8 P p m C)),ae (.val (.str (mkS T))),af] rfl (au (T.length+1)) fun j hj=>zig P T p m hp h1 h2 h3 C S hC0 hT j (by have:=dJ.mp hj;lia)
 have e1:eLC [0] (iL (zag [.v,.v] zcs (zaa (zab 0) (zaa (zab 1) zae)))) zb3 zbS [ae (.val (zb8 P p m C)),ae (.val (.str (mkS T))),af]=ae (.own ((au (T.length+1)).map fun j=>oD (cap m (cT P T p P.length j)))):=by
  refine zem ?_ c1 (by rw[ax,bY];lia)
  unfold iL
  rw[call2 (X:=zab 0) (Y:=zab 1) rfl rfl,n1]
  rfl
 have e3:=zhI P T p m [ae (.val (zb8 P p m C)),ae (.val (.str (mkS T))),ae (.val (.lst ((au (T.length+1)).map fun j=>oD (cap m (cT P T p P.length j)))))] (au (T.length+1))
 have pl:=zff P T p m 0 (T.length+1)
 have er:(au (T.length+1)).flatMap (fun j=>prD m (cT P T p P.length j) j)=prR P T p m 0 (T.length+1):=by unfold prR;rw[dj];rfl
 rw[er] at e3
 have e2:eL2 [] (iEnu (zab 2)) zbT zbR [ae (.val (zb8 P p m C)),ae (.val (.str (mkS T))),ae (.val (.lst ((au (T.length+1)).map fun j=>oD (cap m (cT P T p P.length j)))))]=ae (.own (prR P T p m 0 (T.length+1))):=by
  unfold eL2
  rw[show iEnu (zab 2) [ae (.val (zb8 P p m C)),ae (.val (.str (mkS T))),ae (.val (.lst ((au (T.length+1)).map fun j=>oD (cap m (cT P T p P.length j)))))]=ae (ziN ((au (T.length+1)).map fun j=>oD (cap m (cT P T p P.length j)))) from rfl,bU,zii,e3,bU,if_pos (by lia)]
 have hl2:(prR P T p m 0 (T.length+1)).length<=1000000:=by lia
 generalize prR P T p m 0 (T.length+1)=E at *
 generalize (au (T.length+1)).map (fun j=>oD (cap m (cT P T p P.length j)))=L at *
 have w:zcx [ae (.val (zb8 P p m C)),ae (.val (.str (mkS T))),af]=ae (.rt (.val (.tup E)) [ae (.val (zb8 P p m C)),ae (.val (.str (mkS T))),ae (.val (.lst L))]):=by
  refine(show zcx _=_ from zda (zjv e1)).trans ?_
  show zb0 (eCB zc4 (zaa (eL2 [] (iEnu (zab 2)) zbT zbR) zae)) [ae (.val (zb8 P p m C)),ae (.val (.str (mkS T))),ae (.val (.lst L))]=_
  exact zjy (tupL e2 hl2)
 exact(congrArg (fun o=>cP o zc7) w).trans rfl
end
theorem pieces_ok(t:List Nat)(ks:List Int)(hk:∀ k ∈ ks,0<=k)(ht:t.length<=1000)(hn:ks.length<=1000):∃ ws:List (List Nat),zde [.str (mkS t),.lst (ks.map .int)]=ae (.own (ws.map pcD))/\ws.flatten=t/\ws ≠ []:=by
 obtain⟨t2,a2,y3,e1,f1,l1,n1⟩:=pc_loop (ae (.bor (ks.map .int))) ks t [] af hk (by lia) (by simp;lia)
 refine⟨a2 ++ [t2],?_,by rw[List.flatten_append];simpa using f1,by simp⟩
 have e0:(a2 ++ [t2]).map pcD=a2.map pcD ++ [.str (mkS t2)]:=by simp[pcD]
 have hl:(a2.map pcD).length+1<=1000000:=by rw[ax,n1,cD];lia
 rw[e0]
 have s4:zb0 (ex2 gCat (zab 2) (zdC (zaa (zab 0) zae))) [ae (.val (.str (mkS t2))),ae (.bor (ks.map .int)),ae (.own (a2.map pcD)),y3]=ae (.rt (.own (a2.map pcD ++ [.str (mkS t2)])) [ae (.val (.str (mkS t2))),ae (.bor (ks.map .int)),ae (.own (a2.map pcD)),y3]):=by
  generalize a2.map pcD=aa at *
  simp (disch:=omega) only[zb0,ex2,zab,jqf,jqe,zdC,zaa,zae,jqc,jqa,jqp,jqq,Nat.reduceLeDiff,zc8,asV,jra,gCat,asLt,zaO,zaf,toN]
 have w:zdc [ae (.val (.str (mkS t))),ae (.bor (ks.map .int)),af,af]=_:=(show zdc _=_ from zda (zjv (ds:=[].map pcD) rfl)).trans ((forN rfl e1).trans s4)
 exact(congrArg (fun o=>cP o zc7) w).trans rfl
section
open CE BT
variable (P:List Str)(T:List Nat)(p:Pr)
theorem isC_fi(most:Int)(j:Nat)(prs:List D):isC "Finder" ["pattern","prices","columns","last_sign","sight"] (fiO P T p most j prs)=ae [.val (.tup (P.map .str)),.val p.d,.lst (zjm (cT P T p) P.length j),.val (.str (mkS (zeY T j))),siO most (j+1) prs]:=zbo
theorem isC_bi(ks:List Str)(ds:List D)(most:Int)(k j:Nat)(prs:List D):isC "Bits" ["fitting","classes","rows","sight"] (biO P T ks ds most k j prs)=ae [.val (.dic ks ds),.val (.int (P.length:Int)),.lst (zcX (fT P T) P.length k j),siO most (j+1) prs]:=zbo
theorem zgO{O:Nat->List D->OT}{f:FS}{most:Int}(hT:T.length<=10000)(x1:Option Ent)
  (one:∀ (j:Nat) (w:List Nat) (prs acc:List D),j+w.length<=T.length->w=(T.drop j).take w.length->prs.length+w.length<100000->acc.length<=100000->f [ae (.obj (O j prs)),x1,ae (.val (.tup acc)),ae (.val (pcD w))]=ae (.nx [ae (.obj (O (j+w.length) [])),x1,ae (.val (.tup (acc ++ (prs ++ prR P T p most (j+1) (j+w.length+1))))),ae (.val (pcD w))])) :
  ∀ (ws:List (List Nat)) (a j:Nat) (x3:Option Ent),a<=j+1->j<=T.length->ws.flatten=T.drop j->(ws=[]->a=j+1)->∃ (o:OT) (y3:Option Ent),loop (gNm 3) f (ws.map pcD) [ae (.obj (O j (prR P T p most a (j+1)))),x1,ae (.val (.tup (prR P T p most 0 a))),x3]=ae (.nx [ae (.obj o),x1,ae (.val (.tup (prR P T p most 0 (T.length+1)))),y3])
 | [],a,j,x3,ha,hj,hf,hn=>by
  have:j=T.length:=by
   have:=congrArg dF hf
   simp at this
   lia
  subst this
  rw[hn rfl]
  exact⟨_,x3,rfl⟩
 | w :: ws,a,j,x3,ha,hj,hf,_=>by
  rw[List.flatten_cons] at hf
  have hl:j+w.length<=T.length:=by
   have:=congrArg dF hf
   simp at this
   lia
  have hw:w=(T.drop j).take w.length:=by rw[<- hf,List.take_left'];rfl
  have hr:ws.flatten=T.drop (j+w.length):=by rw[<- List.drop_drop,<- hf,List.drop_left'];rfl
  have r1:=zff P T p most a (j+1)
  have r2:=zff P T p most 0 a
  have st:=one j w (prR P T p most a (j+1)) (prR P T p most 0 a) hl hw (by lia) (by lia)
  rw[zf2 P T p most ha (by lia),zf2 P T p most (cg _) (by lia),<- zct P T p most (j+w.length+1)] at st
  obtain⟨o,y3,e⟩:=zgO hT x1 one ws (j+w.length+1) (j+w.length) (ae (.val (pcD w))) (aA _) hl hr (fun _=>rfl)
  exact⟨o,y3,dw (zaX rfl st) e⟩
variable (hP:P.length<=100000)(hT:T.length<=10000)
include hP hT in
theorem fed_ok(most:Int)(ws:List (List Nat))(hf:ws.flatten=T)(hne:ws ≠ []):∃ o,zdT (fiO P T p most 0 (prR P T p most 0 1)) [.lst (ws.map pcD)]=ae (.tup (prR P T p most 0 (T.length+1)),o):=by
 obtain⟨o,y3,e⟩:=zgO P T p (O:=fiO P T p most) (f:=zd3) (most:=most) hT (ae (.val (.lst (ws.map pcD)))) (fun j w prs acc h1 h2 h3 h4=>by
  have fo:=feed_ok P T p hP hT most w j prs h1 h2 h3
  have c1:=isC_fi P T p most j prs
  have r1:=zff P T p most (j+1) (j+w.length+1)
  have hl:acc.length+(prs ++ prR P T p most (j+1) (j+w.length+1)).length<=1000000:=by rw[a9];lia
  generalize prs ++ prR P T p most (j+1) (j+w.length+1)=rr at *
  generalize fiO P T p most j prs=o1 at *
  generalize fiO P T p most (j+w.length) []=o2 at *
  unfold pcD
  simp only[zd3,fXSet,x2,xP,zab,jqf,jqe,jqa,asV,jqc,xM,oAt,zaa,zae,gCatT,zdL,zc8,jqg,c1,fo,hl,zaO,zaf,jqh]) ws 0 0 af (by lia) (by lia) (by simpa using hf) (fun z=>absurd z hne)
 rw[zct] at e
 refine⟨o,?_⟩
 generalize fiO P T p most 0 (prR P T p most 0 (0+1))=o1 at *
 generalize prR P T p most 0 (T.length+1)=rr at *
 have hlst:iL (zab 1) [ae (.obj o1),ae (.val (.lst (ws.map pcD))),ae (.val (.tup [])),af]=ae (ws.map pcD):=rfl
 generalize ws.map pcD=wd at *
 simp only[zdT,zfe,jqp,jqq,bj,zfb,zar,za7,zhx,zae,jqa,Nat.reduceLeDiff,zc8,jqc,jra,jqn,jqo,aB,jqi,jqj,jqh,jqg,toN,sqO,zdr,iL,zab,jqf,jqe,e,zdV,ziV,oAt]
variable (ks:List Str)(ds:List D)(most:Int)(k:Nat)(hk:(if most<(P.length:Int) then most else (P.length:Int))=(k:Int))(hP6:P.length<=60)(I:IV P P.length [] ks ds)
include hT hk hP6 I in
theorem fedB_ok(ws:List (List Nat))(hf:ws.flatten=T)(hne:ws ≠ []):∃ o,zcj (biO P T ks ds most k 0 (prR P T p1 most 0 1)) [.lst (ws.map pcD)]=ae (.tup (prR P T p1 most 0 (T.length+1)),o):=by
 obtain⟨o,y3,e⟩:=zgO P T p1 (O:=biO P T ks ds most k) (f:=zdt) (most:=most) hT (ae (.val (.lst (ws.map pcD)))) (fun j w prs acc h1 h2 h3 h4=>by
  have fo:=bfeed_ok P T ks ds most k hk hP6 I w j prs h1 h2 h3
  have c1:=isC_bi P T ks ds most k j prs
  have r1:=zff P T p1 most (j+1) (j+w.length+1)
  have hl:acc.length+(prs ++ prR P T p1 most (j+1) (j+w.length+1)).length<=1000000:=by rw[a9];lia
  generalize prs ++ prR P T p1 most (j+1) (j+w.length+1)=rr at *
  generalize biO P T ks ds most k j prs=o1 at *
  generalize biO P T ks ds most k (j+w.length) []=o2 at *
  unfold pcD
  simp only[zdt,fXSet,x2,xP,zab,jqf,jqe,jqa,asV,jqc,xM,oAt,zaa,zae,gCatT,zdL,zc8,jqg,c1,fo,hl,zaO,zaf,jqh]) ws 0 0 af (by lia) (by lia) (by simpa using hf) (fun z=>absurd z hne)
 rw[zct] at e
 refine⟨o,?_⟩
 generalize biO P T ks ds most k 0 (prR P T p1 most 0 (0+1))=o1 at *
 generalize prR P T p1 most 0 (T.length+1)=rr at *
 generalize ws.map pcD=wd at *
 simp only[zcj,zfe,jqp,jqq,bj,zef,zar,za7,zhx,zae,jqa,Nat.reduceLeDiff,zc8,jqc,jra,jqn,jqo,aB,jqi,jqj,jqh,jqg,toN,sqO,zdr,iL,zab,jqf,jqe,e,zdV,ziV,oAt]
end
section
open CE BT
theorem ziy(n:Nat):∀ ds:List D,(∀ d ∈ ds,∃ i j:Int,d=.tup [.int i,.int j])->zgj (eqD (n+2)) ds ds=ae true
 | [],_=>rfl
 | d :: ds,h=>by
  obtain⟨i,j,rfl⟩:=h d aC
  have ih:=ziy n ds fun x hx=>h x (av _ hx)
  have e:∀ k:Int,eqD (n+1) (.int k) (.int k)=ae true:=fun k=>by simp[eqD,flD,eqF]
  have e2:eqD (n+2) (.tup [.int i,.int j]) (.tup [.int i,.int j])=ae true:=by
   show zgj (eqD (n+1)) [.int i,.int j] [.int i,.int j]=_
   simp only[zgj,e,bU,dD,ii]
  simp only[zgj,e2,ih,bU,dD,ii]
theorem eqTup{E F:FE}{δ:En}{a b:List D}{q:Bool}(h1:E δ=ae (.val (.tup a)))(h2:F δ=ae (.val (.tup b)))(h:zgj (eqD 8) a b=ae q):ex2 gEqD E F δ=ae (.val (.bl q)):=by
 unfold ex2
 rw[h1,h2]
 show(zgj (eqD 8) a b).map _=_
 rw[h]
 rfl
abbrev zdD(nn:List D)(c:Int)(y2:Option Ent)(P:List Str)(T:List Nat)(p:Pr)(most:Int)(a b d:Option Ent):En:=
 [ae (.bor nn),ae (.val (.int c)),y2,ae (.val (.tup (P.map .str))),ae (.val (.str (mkS T))),ae (.val p.d),ae (.val (.int most)),a,b,d]
theorem zhF(P:List Str)(T:List Nat)(p:Pr)(most:Int)(a b:Nat):∀ d ∈ prR P T p most a b,∃ i j:Int,d=.tup [.int i,.int j]:=fun d hd=>by
 obtain⟨i,y,_,_,e,_⟩:=prR_mem P T p hd
 exact⟨i,y,e⟩
theorem zh5{P:List Str}{most:Int}{pd:D}(h:za4 [.tup (P.map .str),.int most,pd]=ae af):zcT [.tup (P.map .str),.int most,pd]=ae (.val .non):=by
 have w:zcl [ae (.val (.tup (P.map .str))),ae (.val (.int most)),ae (.val pd),af]=_:=(show zcl _=_ from zaQ (v:=.non) rfl).trans ((zda (δ':=[ae (.val (.tup (P.map .str))),ae (.val (.int most)),ae (.val pd),ae (.val .non)]) (by
  show(za4 [.tup (P.map .str),.int most,pd]).bind _=_
  rw[h];rfl)).trans rfl)
 exact(congrArg (fun o=>cP o zc7) w).trans rfl
theorem zid{P:List Str}{most:Int}{pd r:D}(h:za4 [.tup (P.map .str),.int most,pd]=ae (ae (.val r))):zcT [.tup (P.map .str),.int most,pd]=ae (.val r):=by
 have w:zcl [ae (.val (.tup (P.map .str))),ae (.val (.int most)),ae (.val pd),af]=_:=(show zcl _=_ from zaQ (v:=.non) rfl).trans ((zda (δ':=[ae (.val (.tup (P.map .str))),ae (.val (.int most)),ae (.val pd),ae (.val r)]) (by
  show(za4 [.tup (P.map .str),.int most,pd]).bind _=_
  rw[h];rfl)).trans rfl)
 exact(congrArg (fun o=>cP o zc7) w).trans rfl
theorem k_of(P:List Str){most:Int}(h:0<=most):∃ k:Nat,(if most<(P.length:Int) then most else (P.length:Int))=(k:Int):=by
 split
 ·exact⟨most.toNat,by lia⟩
 ·exact⟨P.length,rfl⟩
variable (P:List Str)(T:List Nat)(p:Pr)(most:Int)
theorem tail35(ns:List Int)(c:Int)(y2:Option Ent)(hp:p.turn=0)(h1:0<=p.put)(h2:0<=p.left)(h3:0<=p.exch)(hm:0<=most)(hP:P.length<=60)(h26:∀ z ∈ P,z.cps.toList.length<=26)(hT:T.length<=100)(hL:∀ t ∈ T,97<=t/\t<=122) :
  (ze1 (zdD (ns.map .int) c y2 P T p most af af af)).bind zc7=ae (.val (.bl true)):=by
 have en:=ends_ok P T p (by lia) (by lia) most
 have al:=zim (prR P T p most 0 (T.length+1)) (by have:=zff P T p most 0 (T.length+1);lia) (zhF P T p most 0 (T.length+1))
 have eqe:=ziy 6 (prR P T p most 0 (T.length+1)) (zhF P T p most 0 (T.length+1))
 obtain⟨c4,h4⟩:=zf1 ns 4 (by decide) (by decide)
 have k0:=cv (c / 355264) (show(11:Int) ≠ 0 by decide)
 have k1:=cy (c / 355264) (show(0:Int)<11 by decide)
 obtain⟨fs,hd,hl,hb⟩:=zeW c4 7 (c / 355264 % 11) (by decide) (by decide) k0 (by lia)
 obtain⟨ws,hw,hf,hne⟩:=pieces_ok T fs (fun k hk=>(hb k hk).1) (by lia) (by lia)
 have fi:=finit_ok P T p (by lia) most
 obtain⟨o1,fe⟩:=fed_ok P T p (by lia) (by lia) most ws hf hne
 have e7:ze1 (zdD (ns.map .int) c y2 P T p most af af af)=zfC (zdD (ns.map .int) c y2 P T p most (ae (.val (.tup (prR P T p most 0 (T.length+1))))) af af):=by
  refine(show ze1 _=_ from zaQ (v:=.tup (prR P T p most 0 (T.length+1))) ?_).trans rfl
  generalize prR P T p most 0 (T.length+1)=E at *
  simp only[zag,zaa,zab,jqf,jqe,zae,jqc,jqa,zaJ,zbZ,asV,en]
 have e8:zfC (zdD (ns.map .int) c y2 P T p most (ae (.val (.tup (prR P T p most 0 (T.length+1))))) af af)=zgS (zdD (ns.map .int) c y2 P T p most (ae (.val (.tup (prR P T p most 0 (T.length+1))))) (ae (.own (ws.map pcD))) af):=by
  refine(show zfC _=_ from zda (zjv (ds:=ws.map pcD) ?_)).trans rfl
  generalize prR P T p most 0 (T.length+1)=E at *
  generalize ws.map pcD=wd at *
  simp (disch:=omega) only[zag,zaa,zab,jqf,jqe,eC,zae,jqc,jqa,zaJ,zbZ,asL,asV,h4,ex2,zfo,pI,iOf,zdd,zaf,zdj,zbq,hd,hw]
 have e9:zgS (zdD (ns.map .int) c y2 P T p most (ae (.val (.tup (prR P T p most 0 (T.length+1))))) (ae (.own (ws.map pcD))) af)=zez (zdD (ns.map .int) c y2 P T p most (ae (.val (.tup (prR P T p most 0 (T.length+1))))) (ae (.val (.lst (ws.map pcD)))) af):=by
  show zar _ zez (zdD (ns.map .int) c y2 P T p most (ae (.val (.tup (prR P T p most 0 (T.length+1))))) (ae (.val (.lst (ws.map pcD)))) af)=_
  refine zda (fIfF ?_)
  refine notI (b:=true) ?_
  refine(call2 (a:=.tup (prR P T p most 0 (T.length+1))) (b:=.tup (prR P T p most 0 (T.length+1))) ?_ rfl).trans al
  generalize prR P T p most 0 (T.length+1)=E at *
  generalize fiO P T p most 0 (prR P T p most 0 1)=ob at *
  generalize ws.map pcD=wd at *
  simp only[eCM,ze8,zaa,zab,jqf,jqe,zae,jqc,jqa,zc8,asV,fi,fe]
 have e10:zez (zdD (ns.map .int) c y2 P T p most (ae (.val (.tup (prR P T p most 0 (T.length+1))))) (ae (.val (.lst (ws.map pcD)))) af)=zdW (zdD (ns.map .int) c y2 P T p most (ae (.val (.tup (prR P T p most 0 (T.length+1))))) (ae (.val (.lst (ws.map pcD)))) af):=by
  refine(show zez _=_ from zda (fIfF ?_)).trans rfl
  by_cases pe:p=p1
  ·subst pe
   obtain⟨ks,ds,hg,I⟩:=zja P (by lia) h26
   obtain⟨k,hk⟩:=k_of P hm
   have bi:=binit_ok P T ks ds most k hk hP hg
   obtain⟨o2,fb⟩:=fedB_ok P T (by lia) ks ds most k hk hP I ws hf hne
   have t1:tOf (ex2 gEqD (zab 5) (zhx (zaa (eC (.int 1)) (zaa (eC (.int 1)) (zaa (eC (.int 1)) (zaa (eC (.int 0)) zae)))))) (zdD (ns.map .int) c y2 P T p1 most (ae (.val (.tup (prR P T p1 most 0 (T.length+1))))) (ae (.val (.lst (ws.map pcD)))) af)=ae true:=rfl
   have t2:zi7 (tOf (zag [.v,.v] zcn (zaa (eCM zcj (ze8 "Bits" zbv (zaa (zab 3) (zaa (zab 6) zae))) (zaa (zab 8) zae)) (zaa (zab 7) zae)))) (zdD (ns.map .int) c y2 P T p1 most (ae (.val (.tup (prR P T p1 most 0 (T.length+1))))) (ae (.val (.lst (ws.map pcD)))) af)=ae false:=by
    refine notI (b:=true) ?_
    refine(call2 (a:=.tup (prR P T p1 most 0 (T.length+1))) (b:=.tup (prR P T p1 most 0 (T.length+1))) ?_ rfl).trans al
    generalize prR P T p1 most 0 (T.length+1)=E at *
    generalize biO P T ks ds most k 0 (prR P T p1 most 0 1)=ob at *
    generalize ws.map pcD=wd at *
    simp only[eCM,ze8,zaa,zab,jqf,jqe,zae,jqc,jqa,zc8,asV,bi,fb]
   unfold zfB
   rw[t1,bU]
   exact t2
  ·have t1:tOf (ex2 gEqD (zab 5) (zhx (zaa (eC (.int 1)) (zaa (eC (.int 1)) (zaa (eC (.int 1)) (zaa (eC (.int 0)) zae)))))) (zdD (ns.map .int) c y2 P T p most (ae (.val (.tup (prR P T p most 0 (T.length+1))))) (ae (.val (.lst (ws.map pcD)))) af)=ae false:=by
    have q:zgj (eqD 8) [.int p.put,.int p.left,.int p.exch,.int p.turn] [.int 1,.int 1,.int 1,.int 0]=ae false:=by
     simp only[zgj,eqD,flD,eqF,ii,if_true,bU,dD,dX]
     obtain⟨a,b,d,e⟩:=p
     refine congrArg ae ?_
     refine iU.mpr fun z=>pe ?_
     simp only[cV,beq_iff_eq] at z
     obtain⟨z1,z2,z3,z4⟩:=z
     subst z1 z2 z3 z4
     rfl
    have v:ex2 gEqD (zab 5) (zhx (zaa (eC (.int 1)) (zaa (eC (.int 1)) (zaa (eC (.int 1)) (zaa (eC (.int 0)) zae))))) (zdD (ns.map .int) c y2 P T p most (ae (.val (.tup (prR P T p most 0 (T.length+1))))) (ae (.val (.lst (ws.map pcD)))) af)=ae (.val (.bl false)):=by
     exact eqTup (E:=zab 5) rfl rfl q
    unfold tOf
    rw[v]
    rfl
   unfold zfB
   rw[t1]
   rfl
 have fin:∀ x9:Option Ent,(zb0 (ex2 gEqD (zag [.v,.v,.v,.v] zcW (zaa (zab 3) (zaa (zab 4) (zaa (zab 6) (zaa (zab 5) zae))))) (zab 7)) (zdD (ns.map .int) c y2 P T p most (ae (.val (.tup (prR P T p most 0 (T.length+1))))) (ae (.val (.lst (ws.map pcD)))) x9)).bind zc7=ae (.val (.bl true)):=fun x9=>by
  exact(congrArg (fun o=>cP o zc7) (zjy (eqTup (F:=zab 7) (show zcW _=_ from en) rfl eqe))).trans rfl
 rw[e7,e8,e9,e10]
 rcases rooms_ok P p most hp (by lia) with ⟨_,hr⟩ | ⟨hC,hr⟩
 ·have lr:=zh5 hr
  have e11:zdW (zdD (ns.map .int) c y2 P T p most (ae (.val (.tup (prR P T p most 0 (T.length+1))))) (ae (.val (.lst (ws.map pcD)))) af)=zex (zdD (ns.map .int) c y2 P T p most (ae (.val (.tup (prR P T p most 0 (T.length+1))))) (ae (.val (.lst (ws.map pcD)))) (ae (.val .non))):=by
   refine(show zdW _=_ from zaQ (v:=.non) ?_).trans rfl
   generalize prR P T p most 0 (T.length+1)=E at *
   simp only[zag,zaa,zab,jqf,jqe,zae,jqc,jqa,zaJ,zbZ,asV,lr]
  rw[e11,show zex _=_ from zda (fIfF rfl)]
  exact fin _
 ·have lr:=zid hr
  obtain⟨q,S,hq⟩:=allC_St P p most
  have hC0:=allC_0 P p most
  generalize zjJ P p most=C at *
  have hq':q=C.length:=hq.elim (fun z=>absurd hC (Nat.not_le_of_lt z)) id
  rw[hq'] at S
  have br:=zjq P T p most hp h1 h2 h3 C S hC0 hL (by lia)
  have e11:zdW (zdD (ns.map .int) c y2 P T p most (ae (.val (.tup (prR P T p most 0 (T.length+1))))) (ae (.val (.lst (ws.map pcD)))) af)=zex (zdD (ns.map .int) c y2 P T p most (ae (.val (.tup (prR P T p most 0 (T.length+1))))) (ae (.val (.lst (ws.map pcD)))) (ae (.val (zb8 P p most C)))):=by
   refine(show zdW _=_ from zaQ (v:=zb8 P p most C) ?_).trans rfl
   generalize prR P T p most 0 (T.length+1)=E at *
   simp only[zag,zaa,zab,jqf,jqe,zae,jqc,jqa,zaJ,zbZ,asV,lr]
  have t2:zi7 (tOf (zag [.v,.v] zcn (zaa (zag [.v,.v] zbW (zaa (zab 9) (zaa (zab 4) zae))) (zaa (zab 7) zae)))) (zdD (ns.map .int) c y2 P T p most (ae (.val (.tup (prR P T p most 0 (T.length+1))))) (ae (.val (.lst (ws.map pcD)))) (ae (.val (zb8 P p most C))))=ae false:=by
   refine notI (b:=true) ?_
   refine(call2 (a:=.tup (prR P T p most 0 (T.length+1))) (b:=.tup (prR P T p most 0 (T.length+1))) ?_ rfl).trans al
   exact(call2 (X:=zab 9) (Y:=zab 4) rfl rfl).trans br
  rw[e11,show zex _=_ from zda (fIfF (by
   unfold zfB
   rw[show tOf (ex2 ziD (zab 9) (eC .non)) _=ae true from rfl,bU]
   exact t2))]
  exact fin _
end
open CE in
theorem main(ns:List Int)(_:ns.length<=63):g_law [.lst (ns.map .int)]=ae (.val (.bl true)):=by
 obtain⟨c,h0⟩:=zf1 ns 0 (by decide) (by decide)
 obtain⟨c1,h1⟩:=zf1 ns 1 (by decide) (by decide)
 obtain⟨c2,h2⟩:=zf1 ns 2 (by decide) (by decide)
 obtain⟨c3,h3⟩:=zf1 ns 3 (by decide) (by decide)
 obtain⟨ws,hws,ws2,ws26,hwl⟩:=pool_ok c
 have a0:=cv (c / 104) (show(6:Int) ≠ 0 by decide)
 have a1:=cy (c / 104) (show(0:Int)<6 by decide)
 have b0:=cv (c / 728) (show(61:Int) ≠ 0 by decide)
 have b1:=cy (c / 728) (show(0:Int)<61 by decide)
 have m0:=cv (c / 88816) (show(3:Int) ≠ 0 by decide)
 obtain⟨P,hPt,lP,h26⟩:=zir ws c1 (c / 104 % 6) (by lia) ws26 a0 (by lia)
 obtain⟨T,hTt,lT,hTl⟩:=text_ok ws c2 (c / 728 % 61) (by lia) ws26 b0 (by lia)
 have hP:P.length<=60:=by lia
 have hT:T.length<=100:=by lia
 have hL:∀ t ∈ T,97<=t/\t<=122:=fun t ht=>hwl t (hTl t ht)
 have e:g_law [.lst (ns.map .int)]=(F_law [ae (.bor (ns.map .int)),af,af,af,af,af,af,af,af,af]).bind zc7:=rfl
 have s1:F_law [ae (.bor (ns.map .int)),af,af,af,af,af,af,af,af,af]=zfD [ae (.bor (ns.map .int)),ae (.val (.int c)),af,af,af,af,af,af,af,af]:=
  (show F_law _=_ from zaQ (v:=.int c) (by simp only[zag,zaa,zab,jqe,eC,zae,jqc,jqa,zaJ,zbZ,asL,asV,h0])).trans rfl
 have s2:zfD [ae (.bor (ns.map .int)),ae (.val (.int c)),af,af,af,af,af,af,af,af]=zfI [ae (.bor (ns.map .int)),ae (.val (.int c)),ae (.own (ws.map fun w=>.str (mkS [w]))),af,af,af,af,af,af,af]:=
  (show zfD _=_ from zda (zjv (ds:=ws.map fun w=>.str (mkS [w])) (by generalize ws.map (fun w=>D.str (mkS [w]))=wd at *;simp only[zag,zaa,zab,jqf,jqe,zae,jqc,jqa,zaJ,zbZ,asV,hws]))).trans rfl
 have s3:zfI [ae (.bor (ns.map .int)),ae (.val (.int c)),ae (.own (ws.map fun w=>.str (mkS [w]))),af,af,af,af,af,af,af]=zfH [ae (.bor (ns.map .int)),ae (.val (.int c)),ae (.own (ws.map fun w=>.str (mkS [w]))),ae (.val (.tup (P.map .str))),af,af,af,af,af,af]:=
  (show zfI _=_ from zaQ (v:=.tup (P.map .str)) (by generalize ws.map (fun w=>D.str (mkS [w]))=wd at *;generalize P.map D.str=pp at *;simp (disch:=omega) only[zag,zaa,zab,jqf,jqe,eC,zae,jqc,jqa,zaJ,zbZ,asL,asV,h1,ex2,zfo,pI,iOf,zdd,zaf,zdj,zbq,hPt])).trans rfl
 have s4:zfH [ae (.bor (ns.map .int)),ae (.val (.int c)),ae (.own (ws.map fun w=>.str (mkS [w]))),ae (.val (.tup (P.map .str))),af,af,af,af,af,af]=zfx [ae (.bor (ns.map .int)),ae (.val (.int c)),ae (.own (ws.map fun w=>.str (mkS [w]))),ae (.val (.tup (P.map .str))),ae (.val (.str (mkS T))),af,af,af,af,af]:=
  (show zfH _=_ from zaQ (v:=.str (mkS T)) (by generalize ws.map (fun w=>D.str (mkS [w]))=wd at *;generalize P.map D.str=pp at *;generalize mkS T=zt at *;simp (disch:=omega) only[zag,zaa,zab,jqf,jqe,eC,zae,jqc,jqa,zaJ,zbZ,asL,asV,h2,ex2,zfo,pI,iOf,zdd,zaf,zdj,zbq,hTt])).trans rfl
 have s5:zfx [ae (.bor (ns.map .int)),ae (.val (.int c)),ae (.own (ws.map fun w=>.str (mkS [w]))),ae (.val (.tup (P.map .str))),ae (.val (.str (mkS T))),af,af,af,af,af]=zeP [ae (.bor (ns.map .int)),ae (.val (.int c)),ae (.own (ws.map fun w=>.str (mkS [w]))),ae (.val (.tup (P.map .str))),ae (.val (.str (mkS T))),ae (.val (.tup [.int 1,.int 1,.int 1,.int 0])),af,af,af,af]:=
  (show zfx _=_ from zaQ (v:=.tup [.int 1,.int 1,.int 1,.int 0]) rfl).trans rfl
 have s6:∀ p:Pr,zfA [ae (.bor (ns.map .int)),ae (.val (.int c)),ae (.own (ws.map fun w=>.str (mkS [w]))),ae (.val (.tup (P.map .str))),ae (.val (.str (mkS T))),ae (.val p.d),af,af,af,af]=ze1 (zdD (ns.map .int) c (ae (.own (ws.map fun w=>.str (mkS [w])))) P T p (c / 88816 % 3) af af af):=fun p=>
  (show zfA _=_ from zaQ (v:=.int (c / 88816 % 3)) (modI (divI rfl rfl (by decide)) rfl (by decide))).trans rfl
 rw[e,s1,s2,s3,s4,s5]
 have tst:=eqTT (E:=ex2 zdj (ex2 zfo (zab 1) (eC (.int 44408))) (eC (.int 2))) (F:=eC (.int 1)) (δ:=[ae (.bor (ns.map .int)),ae (.val (.int c)),ae (.own (ws.map fun w=>.str (mkS [w]))),ae (.val (.tup (P.map .str))),ae (.val (.str (mkS T))),ae (.val (.tup [.int 1,.int 1,.int 1,.int 0])),af,af,af,af]) (modI (divI rfl rfl (by decide)) rfl (by decide)) rfl
 by_cases hc:c / 44408 % 2=1
 ·obtain⟨fs,hd,hl,hb⟩:=zeW c3 10 3 (by decide) (by decide) (by decide) (by decide)
  obtain⟨x,y,z,rfl⟩:∃ x y z,fs=[x,y,z]:=by
   match fs,hl with
   | [x,y,z],_=>exact⟨x,y,z,rfl⟩
  have hx:=hb x (by simp)
  have hy:=hb y (by simp)
  have hz:=hb z (by simp)
  rw[decide_eq_true hc] at tst
  have st:zeP [ae (.bor (ns.map .int)),ae (.val (.int c)),ae (.own (ws.map fun w=>.str (mkS [w]))),ae (.val (.tup (P.map .str))),ae (.val (.str (mkS T))),ae (.val (.tup [.int 1,.int 1,.int 1,.int 0])),af,af,af,af]=zfA [ae (.bor (ns.map .int)),ae (.val (.int c)),ae (.own (ws.map fun w=>.str (mkS [w]))),ae (.val (.tup (P.map .str))),ae (.val (.str (mkS T))),ae (.val (Pr.d ⟨x,y,z,0⟩)),af,af,af,af]:=by
   refine(show zeP _=_ from zda ((fIfT tst).trans (fSetI (v:=Pr.d ⟨x,y,z,0⟩) ?_))).trans rfl
   refine tupL (ds:=[.int x,.int y,.int z,.int 0]) ?_ (by simp)
   generalize ws.map (fun w=>D.str (mkS [w]))=wd at *
   generalize P.map D.str=pp at *
   simp only[aH,cc] at hd
   simp (disch:=omega) only[ex2,zag,zaa,zab,jqe,eC,zae,jqc,jqa,zaJ,zbZ,asL,asV,h3,hd,zdC,jqp,jqq,Nat.reduceLeDiff,zc8,jra,gCat,asLt,zaO,jqi,jqj,zaf]
  rw[st,s6]
  exact tail35 P T ⟨x,y,z,0⟩ _ ns c _ rfl hx.1 hy.1 hz.1 m0 hP h26 hT hL
 ·rw[decide_eq_false hc] at tst
  rw[show zeP _=_ from zda (fIfF tst)]
  rw[show(D.tup [.int 1,.int 1,.int 1,.int 0])=Pr.d p1 from rfl,s6]
  exact tail35 P T p1 _ ns c _ rfl (by decide) (by decide) (by decide) m0 hP h26 hT hL
end N35
namespace N35
open PySem L2 L3 PyProof.Rows
def spLaw(K:ak):Sp:=fun vs H Q _=>∃ (a:ai) (ns:List Int),vs=[.ref a]/\SqL K H a (ns.map V.int)/\ns.length<=63/\∀ H',Q (.bl true) H'
theorem sp_law{K:ak}{vs:List V}{H:Hp}{Q:VK}{E:XK}(h:spLaw K vs H Q E):spD K [.b] g_law vs H Q E:=by
 obtain⟨a,ns,rfl,hq,hl,k⟩:=h
 refine⟨fun _=>af,_,_,fun _ _ e=>(nomatch e),.cons (k:=.b) (d:=.lst (ns.map D.int)) ⟨a,_,rfl,hq,Reps.ints ns⟩ .nil,main ns hl,fun v F' H' _ r=>?_⟩
 cases ziv r
 exact k H'
theorem all_mk{l:gN}{w:aX}{K:ak}{h:aW}{mg:Str->Option ag}{fa:ai}(X:K.In h)(G:h.Ns aD mg)(hfa:mg "law" = ae (.ref fa))
  {C_Bits:ai}
  {C_Finder:ai}
  {C_Sight:ai}
  {f_22:ai} {od_22 an_22:Option ai} {sl_22:Array (Option ag)} {oc_22 kV_22 dc_22 pm_22 cd_22 ct_22:ag}
  {df_22:ag}
  {f_37:ai} {od_37 an_37:Option ai} {sl_37:Array (Option ag)} {oc_37 kV_37 dc_37 pm_37 cd_37 ct_37:ag}
  {f_26:ai} {od_26 an_26:Option ai} {sl_26:Array (Option ag)} {oc_26 kV_26 dc_26 pm_26 cd_26 ct_26:ag}
  {f_29:ai} {od_29 an_29:Option ai} {sl_29:Array (Option ag)} {oc_29 kV_29 dc_29 pm_29 cd_29 ct_29:ag}
  {f_21:ai} {od_21 an_21:Option ai} {sl_21:Array (Option ag)} {oc_21 kV_21 dc_21 pm_21 cd_21 ct_21:ag}
  {f_39:ai} {od_39 an_39:Option ai} {sl_39:Array (Option ag)} {oc_39 kV_39 dc_39 pm_39 cd_39 ct_39:ag}
  {f_33:ai} {od_33 an_33:Option ai} {sl_33:Array (Option ag)} {oc_33 kV_33 dc_33 pm_33 cd_33 ct_33:ag}
  {f_36:ai} {od_36 an_36:Option ai} {sl_36:Array (Option ag)} {oc_36 kV_36 dc_36 pm_36 cd_36 ct_36:ag}
  {f_24:ai} {od_24 an_24:Option ai} {sl_24:Array (Option ag)} {oc_24 kV_24 dc_24 pm_24 cd_24 ct_24:ag}
  {f_34:ai} {od_34 an_34:Option ai} {sl_34:Array (Option ag)} {oc_34 kV_34 dc_34 pm_34 cd_34 ct_34:ag}
  {f_32:ai} {od_32 an_32:Option ai} {sl_32:Array (Option ag)} {oc_32 kV_32 dc_32 pm_32 cd_32 ct_32:ag}
  {f_23:ai} {od_23 an_23:Option ai} {sl_23:Array (Option ag)} {oc_23 kV_23 dc_23 pm_23 cd_23 ct_23:ag}
  {f_25:ai} {od_25 an_25:Option ai} {sl_25:Array (Option ag)} {oc_25 kV_25 dc_25 pm_25 cd_25 ct_25:ag}
  {f_35:ai} {od_35 an_35:Option ai} {sl_35:Array (Option ag)} {oc_35 kV_35 dc_35 pm_35 cd_35 ct_35:ag}
  {f_28:ai} {od_28 an_28:Option ai} {sl_28:Array (Option ag)} {oc_28 kV_28 dc_28 pm_28 cd_28 ct_28:ag}
  {f_27:ai} {od_27 an_27:Option ai} {sl_27:Array (Option ag)} {oc_27 kV_27 dc_27 pm_27 cd_27 ct_27:ag}
  {f_30:ai} {od_30 an_30:Option ai} {sl_30:Array (Option ag)} {oc_30 kV_30 dc_30 pm_30 cd_30 ct_30:ag}
  {f_38:ai} {od_38 an_38:Option ai} {sl_38:Array (Option ag)} {oc_38 kV_38 dc_38 pm_38 cd_38 ct_38:ag}
  {f_20:ai} {od_20 an_20:Option ai} {sl_20:Array (Option ag)} {oc_20 kV_20 dc_20 pm_20 cd_20 ct_20:ag}
  {f_10:ai} {od_10 an_10:Option ai} {sl_10:Array (Option ag)} {oc_10 kV_10 dc_10 pm_10 cd_10 ct_10:ag}
  {f_12:ai} {od_12 an_12:Option ai} {sl_12:Array (Option ag)} {oc_12 kV_12 dc_12 pm_12 cd_12 ct_12:ag}
  {f_17:ai} {od_17 an_17:Option ai} {sl_17:Array (Option ag)} {oc_17 kV_17 dc_17 pm_17 cd_17 ct_17:ag}
  {f_19:ai} {od_19 an_19:Option ai} {sl_19:Array (Option ag)} {oc_19 kV_19 dc_19 pm_19 cd_19 ct_19:ag}
  {f_11:ai} {od_11 an_11:Option ai} {sl_11:Array (Option ag)} {oc_11 kV_11 dc_11 pm_11 cd_11 ct_11:ag}
  {f_15:ai} {od_15 an_15:Option ai} {sl_15:Array (Option ag)} {oc_15 kV_15 dc_15 pm_15 cd_15 ct_15:ag}
  {f_9:ai} {od_9 an_9:Option ai} {sl_9:Array (Option ag)} {oc_9 kV_9 dc_9 pm_9 cd_9 ct_9:ag}
  {f_16:ai} {od_16 an_16:Option ai} {sl_16:Array (Option ag)} {oc_16 kV_16 dc_16 pm_16 cd_16 ct_16:ag}
  {f_18:ai} {od_18 an_18:Option ai} {sl_18:Array (Option ag)} {oc_18 kV_18 dc_18 pm_18 cd_18 ct_18:ag}
  {f_13:ai} {od_13 an_13:Option ai} {sl_13:Array (Option ag)} {oc_13 kV_13 dc_13 pm_13 cd_13 ct_13:ag}
  {f_31:ai} {od_31 an_31:Option ai} {sl_31:Array (Option ag)} {oc_31 kV_31 dc_31 pm_31 cd_31 ct_31:ag}
  {f_6:ai} {od_6 an_6:Option ai} {sl_6:Array (Option ag)} {oc_6 kV_6 dc_6 pm_6 cd_6 ct_6:ag}
  {f_7:ai} {od_7 an_7:Option ai} {sl_7:Array (Option ag)} {oc_7 kV_7 dc_7 pm_7 cd_7 ct_7:ag}
  {f_8:ai} {od_8 an_8:Option ai} {sl_8:Array (Option ag)} {oc_8 kV_8 dc_8 pm_8 cd_8 ct_8:ag}
  {f_0:ai} {od_0 an_0:Option ai} {sl_0:Array (Option ag)} {oc_0 kV_0 dc_0 pm_0 cd_0 ct_0:ag}
  {f_1:ai} {od_1 an_1:Option ai} {sl_1:Array (Option ag)} {oc_1 kV_1 dc_1 pm_1 cd_1 ct_1:ag}
  {f_2:ai} {od_2 an_2:Option ai} {sl_2:Array (Option ag)} {oc_2 kV_2 dc_2 pm_2 cd_2 ct_2:ag}
  {f_3:ai} {od_3 an_3:Option ai} {sl_3:Array (Option ag)} {oc_3 kV_3 dc_3 pm_3 cd_3 ct_3:ag}
  {f_4:ai} {od_4 an_4:Option ai} {sl_4:Array (Option ag)} {oc_4 kV_4 dc_4 pm_4 cd_4 ct_4:ag}
  {f_5:ai} {od_5 an_5:Option ai} {sl_5:Array (Option ag)} {oc_5 kV_5 dc_5 pm_5 cd_5 ct_5:ag}
  {tk_PUT:Tok}
  {tk_LEFT:Tok}
  {tk_EXCHANGED:Tok}
  {tk_TURNED:Tok}
  {tk_LETTERS:Tok}
  {tk_MOST_ROOMS:Tok}
  {xC xB xA2 xA3:ai}
  (a_Bits:aJ K aD "Bits" = ae (ae (.ref C_Bits))) (p1_Bits:db K C_Bits iA=true) (p2_Bits:di K C_Bits=true) (p3_Bits:dI K C_Bits=true) (p4_Bits:aT K (.ref C_Bits) "__setattr__" = ae (ae (.builtin "object.__setattr__")))
  (n_Bits_fitting:aT K (.ref C_Bits) "fitting" = ae af)
  (n_Bits_classes:aT K (.ref C_Bits) "classes" = ae af)
  (n_Bits_rows:aT K (.ref C_Bits) "rows" = ae af)
  (n_Bits_sight:aT K (.ref C_Bits) "sight" = ae af)
  (m1_Bits:d4 K C_Bits=true) (m2_Bits:aI K (.ref C_Bits)=true)
  (a_Finder:aJ K aD "Finder" = ae (ae (.ref C_Finder))) (p1_Finder:db K C_Finder iA=true) (p2_Finder:di K C_Finder=true) (p3_Finder:dI K C_Finder=true) (p4_Finder:aT K (.ref C_Finder) "__setattr__" = ae (ae (.builtin "object.__setattr__")))
  (n_Finder_pattern:aT K (.ref C_Finder) "pattern" = ae af)
  (n_Finder_prices:aT K (.ref C_Finder) "prices" = ae af)
  (n_Finder_columns:aT K (.ref C_Finder) "columns" = ae af)
  (n_Finder_last_sign:aT K (.ref C_Finder) "last_sign" = ae af)
  (n_Finder_sight:aT K (.ref C_Finder) "sight" = ae af)
  (m1_Finder:d4 K C_Finder=true) (m2_Finder:aI K (.ref C_Finder)=true)
  (a_Sight:aJ K aD "Sight" = ae (ae (.ref C_Sight))) (p1_Sight:db K C_Sight iA=true) (p2_Sight:di K C_Sight=true) (p3_Sight:dI K C_Sight=true) (p4_Sight:aT K (.ref C_Sight) "__setattr__" = ae (ae (.builtin "object.__setattr__")))
  (n_Sight_most:aT K (.ref C_Sight) "most" = ae af)
  (n_Sight_end:aT K (.ref C_Sight) "end" = ae af)
  (n_Sight_pairs:aT K (.ref C_Sight) "pairs" = ae af)
  (m1_Sight:d4 K C_Sight=true) (m2_Sight:aI K (.ref C_Sight)=true)
  (a_22:aJ K aD "cells_of" = ae (ae (.ref f_22))) (l_22:K.lookup f_22=ae ⟨oc_22,od_22,.func (aQ "cells_of" "cells_of" (zak zbU) (zah zbU) (zad zbU) df_22 kV_22 dc_22 pm_22 an_22 cd_22 ct_22),sl_22⟩) (c_22:aM K cd_22 "cells_of" = true) (k_22:aI K (.ref f_22)=true)
  (e_22:DfOk K df_22)
  (a_37:aJ K aD "row_across" = ae (ae (.ref f_37))) (l_37:K.lookup f_37=ae ⟨oc_37,od_37,.func (aQ "row_across" "row_across" (zak zbc) (zah zbc) (zad zbc) .none kV_37 dc_37 pm_37 an_37 cd_37 ct_37),sl_37⟩) (c_37:aM K cd_37 "row_across" = true) (k_37:aI K (.ref f_37)=true)
  (a_26:aJ K aD "first_column" = ae (ae (.ref f_26))) (l_26:K.lookup f_26=ae ⟨oc_26,od_26,.func (aQ "first_column" "first_column" (zak zaT) (zah zaT) (zad zaT) .none kV_26 dc_26 pm_26 an_26 cd_26 ct_26),sl_26⟩) (c_26:aM K cd_26 "first_column" = true) (k_26:aI K (.ref f_26)=true)
  (a_29:aJ K aD "further_column" = ae (ae (.ref f_29))) (l_29:K.lookup f_29=ae ⟨oc_29,od_29,.func (aQ "further_column" "further_column" (zak zaE) (zah zaE) (zad zaE) .none kV_29 dc_29 pm_29 an_29 cd_29 ct_29),sl_29⟩) (c_29:aM K cd_29 "further_column" = true) (k_29:aI K (.ref f_29)=true)
  (a_21:aJ K aD "cell_ahead_of_turn" = ae (ae (.ref f_21))) (l_21:K.lookup f_21=ae ⟨oc_21,od_21,.func (aQ "cell_ahead_of_turn" "cell_ahead_of_turn" (zak zap) (zah zap) (zad zap) .none kV_21 dc_21 pm_21 an_21 cd_21 ct_21),sl_21⟩) (c_21:aM K cd_21 "cell_ahead_of_turn" = true) (k_21:aI K (.ref f_21)=true)
  (a_39:aJ K aD "stepped" = ae (ae (.ref f_39))) (l_39:K.lookup f_39=ae ⟨oc_39,od_39,.func (aQ "stepped" "stepped" (zak zco) (zah zco) (zad zco) .none kV_39 dc_39 pm_39 an_39 cd_39 ct_39),sl_39⟩) (c_39:aM K cd_39 "stepped" = true) (k_39:aI K (.ref f_39)=true)
  (a_33:aJ K aD "lowest" = ae (ae (.ref f_33))) (l_33:K.lookup f_33=ae ⟨oc_33,od_33,.func (aQ "lowest" "lowest" (zak zcU) (zah zcU) (zad zcU) .none kV_33 dc_33 pm_33 an_33 cd_33 ct_33),sl_33⟩) (c_33:aM K cd_33 "lowest" = true) (k_33:aI K (.ref f_33)=true)
  (a_36:aJ K aD "rooms_for" = ae (ae (.ref f_36))) (l_36:K.lookup f_36=ae ⟨oc_36,od_36,.func (aQ "rooms_for" "rooms_for" (zak zbB) (zah zbB) (zad zbB) .none kV_36 dc_36 pm_36 an_36 cd_36 ct_36),sl_36⟩) (c_36:aM K cd_36 "rooms_for" = true) (k_36:aI K (.ref f_36)=true)
  (a_24:aJ K aD "ends_by_rooms" = ae (ae (.ref f_24))) (l_24:K.lookup f_24=ae ⟨oc_24,od_24,.func (aQ "ends_by_rooms" "ends_by_rooms" (zak zaL) (zah zaL) (zad zaL) .none kV_24 dc_24 pm_24 an_24 cd_24 ct_24),sl_24⟩) (c_24:aM K cd_24 "ends_by_rooms" = true) (k_24:aI K (.ref f_24)=true)
  (a_34:aJ K aD "numbers_met" = ae (ae (.ref f_34))) (l_34:K.lookup f_34=ae ⟨oc_34,od_34,.func (aQ "numbers_met" "numbers_met" (zak zaY) (zah zaY) (zad zaY) .none kV_34 dc_34 pm_34 an_34 cd_34 ct_34),sl_34⟩) (c_34:aM K cd_34 "numbers_met" = true) (k_34:aI K (.ref f_34)=true)
  (a_32:aJ K aD "low_cells" = ae (ae (.ref f_32))) (l_32:K.lookup f_32=ae ⟨oc_32,od_32,.func (aQ "low_cells" "low_cells" (zak zbx) (zah zbx) (zad zbx) .none kV_32 dc_32 pm_32 an_32 cd_32 ct_32),sl_32⟩) (c_32:aM K cd_32 "low_cells" = true) (k_32:aI K (.ref f_32)=true)
  (a_23:aJ K aD "columns_behind" = ae (ae (.ref f_23))) (l_23:K.lookup f_23=ae ⟨oc_23,od_23,.func (aQ "columns_behind" "columns_behind" (zak zaC) (zah zaC) (zad zaC) .none kV_23 dc_23 pm_23 an_23 cd_23 ct_23),sl_23⟩) (c_23:aM K cd_23 "columns_behind" = true) (k_23:aI K (.ref f_23)=true)
  (a_25:aJ K aD "ends_in" = ae (ae (.ref f_25))) (l_25:K.lookup f_25=ae ⟨oc_25,od_25,.func (aQ "ends_in" "ends_in" (zak zcm) (zah zcm) (zad zcm) .none kV_25 dc_25 pm_25 an_25 cd_25 ct_25),sl_25⟩) (c_25:aM K cd_25 "ends_in" = true) (k_25:aI K (.ref f_25)=true)
  (a_35:aJ K aD "prices_at_ends" = ae (ae (.ref f_35))) (l_35:K.lookup f_35=ae ⟨oc_35,od_35,.func (aQ "prices_at_ends" "prices_at_ends" (zak zaD) (zah zaD) (zad zaD) .none kV_35 dc_35 pm_35 an_35 cd_35 ct_35),sl_35⟩) (c_35:aM K cd_35 "prices_at_ends" = true) (k_35:aI K (.ref f_35)=true)
  (a_28:aJ K aD "fitting_bits" = ae (ae (.ref f_28))) (l_28:K.lookup f_28=ae ⟨oc_28,od_28,.func (aQ "fitting_bits" "fitting_bits" (zak zaU) (zah zaU) (zad zaU) .none kV_28 dc_28 pm_28 an_28 cd_28 ct_28),sl_28⟩) (c_28:aM K cd_28 "fitting_bits" = true) (k_28:aI K (.ref f_28)=true)
  (a_27:aJ K aD "first_rows" = ae (ae (.ref f_27))) (l_27:K.lookup f_27=ae ⟨oc_27,od_27,.func (aQ "first_rows" "first_rows" (zak zbg) (zah zbg) (zad zbg) .none kV_27 dc_27 pm_27 an_27 cd_27 ct_27),sl_27⟩) (c_27:aM K cd_27 "first_rows" = true) (k_27:aI K (.ref f_27)=true)
  (a_30:aJ K aD "further_rows" = ae (ae (.ref f_30))) (l_30:K.lookup f_30=ae ⟨oc_30,od_30,.func (aQ "further_rows" "further_rows" (zak zaS) (zah zaS) (zad zaS) .none kV_30 dc_30 pm_30 an_30 cd_30 ct_30),sl_30⟩) (c_30:aM K cd_30 "further_rows" = true) (k_30:aI K (.ref f_30)=true)
  (a_38:aJ K aD "slips_of_whole" = ae (ae (.ref f_38))) (l_38:K.lookup f_38=ae ⟨oc_38,od_38,.func (aQ "slips_of_whole" "slips_of_whole" (zak zaF) (zah zaF) (zad zaF) .none kV_38 dc_38 pm_38 an_38 cd_38 ct_38),sl_38⟩) (c_38:aM K cd_38 "slips_of_whole" = true) (k_38:aI K (.ref f_38)=true)
  (a_20:aJ K aD "bits_up_to" = ae (ae (.ref f_20))) (l_20:K.lookup f_20=ae ⟨oc_20,od_20,.func (aQ "bits_up_to" "bits_up_to" (zak zbj) (zah zbj) (zad zbj) .none kV_20 dc_20 pm_20 an_20 cd_20 ct_20),sl_20⟩) (c_20:aM K cd_20 "bits_up_to" = true) (k_20:aI K (.ref f_20)=true)
  (a_10:aJ K aD "_law_cell" = ae (ae (.ref f_10))) (l_10:K.lookup f_10=ae ⟨oc_10,od_10,.func (aQ "_law_cell" "_law_cell" (zak zbD) (zah zbD) (zad zbD) .none kV_10 dc_10 pm_10 an_10 cd_10 ct_10),sl_10⟩) (c_10:aM K cd_10 "_law_cell" = true) (k_10:aI K (.ref f_10)=true)
  (a_12:aJ K aD "_law_digits" = ae (ae (.ref f_12))) (l_12:K.lookup f_12=ae ⟨oc_12,od_12,.func (aQ "_law_digits" "_law_digits" (zak za0) (zah za0) (zad za0) .none kV_12 dc_12 pm_12 an_12 cd_12 ct_12),sl_12⟩) (c_12:aM K cd_12 "_law_digits" = true) (k_12:aI K (.ref f_12)=true)
  (a_17:aJ K aD "_law_pool" = ae (ae (.ref f_17))) (l_17:K.lookup f_17=ae ⟨oc_17,od_17,.func (aQ "_law_pool" "_law_pool" (zak zbC) (zah zbC) (zad zbC) .none kV_17 dc_17 pm_17 an_17 cd_17 ct_17),sl_17⟩) (c_17:aM K cd_17 "_law_pool" = true) (k_17:aI K (.ref f_17)=true)
  (a_19:aJ K aD "_law_text" = ae (ae (.ref f_19))) (l_19:K.lookup f_19=ae ⟨oc_19,od_19,.func (aQ "_law_text" "_law_text" (zak zbz) (zah zbz) (zad zbz) .none kV_19 dc_19 pm_19 an_19 cd_19 ct_19),sl_19⟩) (c_19:aM K cd_19 "_law_text" = true) (k_19:aI K (.ref f_19)=true)
  (a_11:aJ K aD "_law_class" = ae (ae (.ref f_11))) (l_11:K.lookup f_11=ae ⟨oc_11,od_11,.func (aQ "_law_class" "_law_class" (zak zbi) (zah zbi) (zad zbi) .none kV_11 dc_11 pm_11 an_11 cd_11 ct_11),sl_11⟩) (c_11:aM K cd_11 "_law_class" = true) (k_11:aI K (.ref f_11)=true)
  (a_15:aJ K aD "_law_pattern" = ae (ae (.ref f_15))) (l_15:K.lookup f_15=ae ⟨oc_15,od_15,.func (aQ "_law_pattern" "_law_pattern" (zak zaR) (zah zaR) (zad zaR) .none kV_15 dc_15 pm_15 an_15 cd_15 ct_15),sl_15⟩) (c_15:aM K cd_15 "_law_pattern" = true) (k_15:aI K (.ref f_15)=true)
  (a_9:aJ K aD "_law_alike" = ae (ae (.ref f_9))) (l_9:K.lookup f_9=ae ⟨oc_9,od_9,.func (aQ "_law_alike" "_law_alike" (zak zaI) (zah zaI) (zad zaI) .none kV_9 dc_9 pm_9 an_9 cd_9 ct_9),sl_9⟩) (c_9:aM K cd_9 "_law_alike" = true) (k_9:aI K (.ref f_9)=true)
  (a_16:aJ K aD "_law_pieces" = ae (ae (.ref f_16))) (l_16:K.lookup f_16=ae ⟨oc_16,od_16,.func (aQ "_law_pieces" "_law_pieces" (zak za2) (zah za2) (zad za2) .none kV_16 dc_16 pm_16 an_16 cd_16 ct_16),sl_16⟩) (c_16:aM K cd_16 "_law_pieces" = true) (k_16:aI K (.ref f_16)=true)
  (a_18:aJ K aD "_law_rooms" = ae (ae (.ref f_18))) (l_18:K.lookup f_18=ae ⟨oc_18,od_18,.func (aQ "_law_rooms" "_law_rooms" (zak zba) (zah zba) (zad zba) .none kV_18 dc_18 pm_18 an_18 cd_18 ct_18),sl_18⟩) (c_18:aM K cd_18 "_law_rooms" = true) (k_18:aI K (.ref f_18)=true)
  (a_13:aJ K aD "_law_fed" = ae (ae (.ref f_13))) (l_13:K.lookup f_13=ae ⟨oc_13,od_13,.func (aQ "_law_fed" "_law_fed" (zak zbG) (zah zbG) (zad zbG) .none kV_13 dc_13 pm_13 an_13 cd_13 ct_13),sl_13⟩) (c_13:aM K cd_13 "_law_fed" = true) (k_13:aI K (.ref f_13)=true)
  (a_31:aJ K aD "law" = ae (ae (.ref f_31))) (l_31:K.lookup f_31=ae ⟨oc_31,od_31,.func (aQ "law" "law" (zak zeE) (zah zeE) (zad zeE) .none kV_31 dc_31 pm_31 an_31 cd_31 ct_31),sl_31⟩) (c_31:aM K cd_31 "law" = true) (k_31:aI K (.ref f_31)=true)
  (a_6:aT K (.ref C_Sight) "__init__" = ae (ae (.ref f_6))) (l_6:K.lookup f_6=ae ⟨oc_6,od_6,.func (aQ "__init__" "Sight.__init__" (zak zaB) (zah zaB) (zad zaB) .none kV_6 dc_6 pm_6 an_6 cd_6 ct_6),sl_6⟩) (c_6:aM K cd_6 "Sight.__init__" = true) (k_6:aI K (.ref f_6)=true) (i_6:cF K (.ref f_6)=true)
  (a_7:aT K (.ref C_Sight) "come" = ae (ae (.ref f_7))) (l_7:K.lookup f_7=ae ⟨oc_7,od_7,.func (aQ "come" "Sight.come" (zak zbh) (zah zbh) (zad zbh) .none kV_7 dc_7 pm_7 an_7 cd_7 ct_7),sl_7⟩) (c_7:aM K cd_7 "Sight.come" = true) (k_7:aI K (.ref f_7)=true) (i_7:cF K (.ref f_7)=true)
  (a_8:aT K (.ref C_Sight) "tell" = ae (ae (.ref f_8))) (l_8:K.lookup f_8=ae ⟨oc_8,od_8,.func (aQ "tell" "Sight.tell" (zak zbf) (zah zbf) (zad zbf) .none kV_8 dc_8 pm_8 an_8 cd_8 ct_8),sl_8⟩) (c_8:aM K cd_8 "Sight.tell" = true) (k_8:aI K (.ref f_8)=true) (i_8:cF K (.ref f_8)=true)
  (a_0:aT K (.ref C_Bits) "__init__" = ae (ae (.ref f_0))) (l_0:K.lookup f_0=ae ⟨oc_0,od_0,.func (aQ "__init__" "Bits.__init__" (zak zaM) (zah zaM) (zad zaM) .none kV_0 dc_0 pm_0 an_0 cd_0 ct_0),sl_0⟩) (c_0:aM K cd_0 "Bits.__init__" = true) (k_0:aI K (.ref f_0)=true) (i_0:cF K (.ref f_0)=true)
  (a_1:aT K (.ref C_Bits) "feed" = ae (ae (.ref f_1))) (l_1:K.lookup f_1=ae ⟨oc_1,od_1,.func (aQ "feed" "Bits.feed" (zak zbA) (zah zbA) (zad zbA) .none kV_1 dc_1 pm_1 an_1 cd_1 ct_1),sl_1⟩) (c_1:aM K cd_1 "Bits.feed" = true) (k_1:aI K (.ref f_1)=true) (i_1:cF K (.ref f_1)=true)
  (a_2:aT K (.ref C_Bits) "read" = ae (ae (.ref f_2))) (l_2:K.lookup f_2=ae ⟨oc_2,od_2,.func (aQ "read" "Bits.read" (zak zby) (zah zby) (zad zby) .none kV_2 dc_2 pm_2 an_2 cd_2 ct_2),sl_2⟩) (c_2:aM K cd_2 "Bits.read" = true) (k_2:aI K (.ref f_2)=true) (i_2:cF K (.ref f_2)=true)
  (a_3:aT K (.ref C_Finder) "__init__" = ae (ae (.ref f_3))) (l_3:K.lookup f_3=ae ⟨oc_3,od_3,.func (aQ "__init__" "Finder.__init__" (zak zaw) (zah zaw) (zad zaw) .none kV_3 dc_3 pm_3 an_3 cd_3 ct_3),sl_3⟩) (c_3:aM K cd_3 "Finder.__init__" = true) (k_3:aI K (.ref f_3)=true) (i_3:cF K (.ref f_3)=true)
  (a_4:aT K (.ref C_Finder) "feed" = ae (ae (.ref f_4))) (l_4:K.lookup f_4=ae ⟨oc_4,od_4,.func (aQ "feed" "Finder.feed" (zak zaZ) (zah zaZ) (zad zaZ) .none kV_4 dc_4 pm_4 an_4 cd_4 ct_4),sl_4⟩) (c_4:aM K cd_4 "Finder.feed" = true) (k_4:aI K (.ref f_4)=true) (i_4:cF K (.ref f_4)=true)
  (a_5:aT K (.ref C_Finder) "read" = ae (ae (.ref f_5))) (l_5:K.lookup f_5=ae ⟨oc_5,od_5,.func (aQ "read" "Finder.read" (zak za1) (zah za1) (zad za1) .none kV_5 dc_5 pm_5 an_5 cd_5 ct_5),sl_5⟩) (c_5:aM K cd_5 "Finder.read" = true) (k_5:aI K (.ref f_5)=true) (i_5:cF K (.ref f_5)=true)
  (z_bool:aJ K aD "bool" = ae af)
  (z_enumerate:aJ K aD "enumerate" = ae af)
  (z_int:aJ K aD "int" = ae af)
  (z_isinstance:aJ K aD "isinstance" = ae af)
  (z_len:aJ K aD "len" = ae af)
  (z_min:aJ K aD "min" = ae af)
  (z_range:aJ K aD "range" = ae af)
  (z_set:aJ K aD "set" = ae af)
  (z_sorted:aJ K aD "sorted" = ae af)
  (z_tuple:aJ K aD "tuple" = ae af)
  (z_zip:aJ K aD "zip" = ae af)
  (q_PUT:aJ K aD "PUT" = ae (ae (.int 0 tk_PUT)))
  (q_LEFT:aJ K aD "LEFT" = ae (ae (.int 1 tk_LEFT)))
  (q_EXCHANGED:aJ K aD "EXCHANGED" = ae (ae (.int 2 tk_EXCHANGED)))
  (q_TURNED:aJ K aD "TURNED" = ae (ae (.int 3 tk_TURNED)))
  (q_LETTERS:aJ K aD "LETTERS" = ae (ae (.str "abcdefghijklmnopqrstuvwxyz" tk_LETTERS)))
  (q_MOST_ROOMS:aJ K aD "MOST_ROOMS" = ae (ae (.int 300 tk_MOST_ROOMS)))
  (a_xC:aJ K aD "TooMany" = ae (ae (.ref xC)))
  (a_xB:aJ K aD "TooMany" = ae (ae (.ref xB)))
  (a_xA2:aJ K aD "NoPrices" = ae (ae (.ref xA2)))
  (a_xA3:aJ K aD "NoPrices" = ae (ae (.ref xA3)))
  (x1:PySem.W.excIn K xC bmVE "ValueError.__new__" = true)
  (x2:(PySem.W.clsIn K xC).isSome=true)
  (x3:aT K (.ref xC) "__getattribute__" = ae (ae (.builtin "BaseException.__getattribute__")))
  (x4:aT K (.ref xC) "__getattr__" = ae af)
  (x5:aT K (.ref xC) "__class__" = ae (ae (.builtin "object.__class__")))
  (x6:f7 K (.builtin "object.__class__") "__get__" = ae (ae (.builtin "getset_descriptor.__get__")))
  (x7:jc K (.builtin "object.__class__")=ae true)
  (x8:ig K xC (.type "object")=ae true)
  (x9:ig K xC (.type "BaseException")=ae true)
  (x10:jl K (.ref xC) (.ref xB)=ae true)
  (x11:dm K (.ref xC) (.ref xC)=ae true)
  (x12:dm K (.ref xC) (.type "ValueError")=ae true)
  (x13:jm K (.ref xC) [.ref xA2,.ref xA3]=ae false) :
  ∃ fd:bq,(∀ (s:am) (v:ag),BindsTo s fd ⟨[v],[]⟩ [("_law_script",v)])/\∀ base:aW,K.In base->base.Ns aD mg->FnOk l.prog w K mg base CX0 6 fa fd ["_law_script"] (spLaw K):=by
 have e:=hfa.symm.trans (aP X G a_31)
 cases e
 have DC_Bits:ClsD K mg "Bits" ["fitting","classes","rows","sight"] C_Bits:=⟨a_Bits,aP X G a_Bits,⟨p1_Bits,p2_Bits,p3_Bits,p4_Bits⟩,fun f hf=>by
  simp only[aF,bw,or_false] at hf
  rcases hf with rfl | rfl | rfl | rfl
  ·exact n_Bits_fitting
  ·exact n_Bits_classes
  ·exact n_Bits_rows
  ·exact n_Bits_sight⟩
 have DC_Finder:ClsD K mg "Finder" ["pattern","prices","columns","last_sign","sight"] C_Finder:=⟨a_Finder,aP X G a_Finder,⟨p1_Finder,p2_Finder,p3_Finder,p4_Finder⟩,fun f hf=>by
  simp only[aF,bw,or_false] at hf
  rcases hf with rfl | rfl | rfl | rfl | rfl
  ·exact n_Finder_pattern
  ·exact n_Finder_prices
  ·exact n_Finder_columns
  ·exact n_Finder_last_sign
  ·exact n_Finder_sight⟩
 have DC_Sight:ClsD K mg "Sight" ["most","end","pairs"] C_Sight:=⟨a_Sight,aP X G a_Sight,⟨p1_Sight,p2_Sight,p3_Sight,p4_Sight⟩,fun f hf=>by
  simp only[aF,bw,or_false] at hf
  rcases hf with rfl | rfl | rfl
  ·exact n_Sight_most
  ·exact n_Sight_end
  ·exact n_Sight_pairs⟩
 obtain⟨T_22,o_22,n_22,rfl,h1_22,h2_22⟩:=e_22
 have F_22:FunA K "cells_of" "cells_of" zbU f_22 _:=⟨⟨oc_22,od_22,.ref T_22,kV_22,dc_22,pm_22,an_22,cd_22,ct_22,sl_22,rfl,l_22,c_22⟩,k_22⟩
 have D_22:DefD K mg "cells_of" zbU ["P","T","prices","free"] _ _:=⟨F_22,aP X G a_22,(fun s us KI hl=>match us,hl with | [_,_,_,_],_=>gQ KI rfl h1_22 h2_22 rfl rfl),(fun s us KI hl=>match us,(show us.length=3 from Nat.succ.inj ((a9 (as:=us) (bs:=[gg false])).symm.trans hl)),hl with | [_,_,_],_,_=>gQ KI rfl h1_22 h2_22 rfl rfl),⟨(fun s us ws KI hl=>by
  obtain⟨e1,e2,e3⟩:=gK_shape hl
  rw[e3]
  exact match us,e1,ws,e2 with | [_,_,_],_,[_],_=>gQ KI rfl h1_22 h2_22 rfl rfl),fun r rz=>gK_rel r rz⟩⟩
 have F_37:=zaK (st:=zbc) l_37 c_37 k_37
 have D_37:Def K mg "row_across" zbc ["columns","classes"] _ _:=⟨F_37,aP X G a_37,F_37.binds (ps:=["columns","classes"]) fun _ _ _ _ _ _ us hl=>by obtain⟨_,_,rfl⟩:=zhg hl;rfl⟩
 have F_26:=zaK (st:=zaT) l_26 c_26 k_26
 have D_26:Def K mg "first_column" zaT ["pattern","prices"] _ _:=⟨F_26,aP X G a_26,F_26.binds (ps:=["pattern","prices"]) fun _ _ _ _ _ _ us hl=>by obtain⟨_,_,rfl⟩:=zhg hl;rfl⟩
 have F_29:=zaK (st:=zaE) l_29 c_29 k_29
 have D_29:Def K mg "further_column" zaE ["columns","pattern","text","prices","free"] _ _:=⟨F_29,aP X G a_29,F_29.binds (ps:=["columns","pattern","text","prices","free"]) fun _ _ _ _ _ _ us hl=>by obtain⟨_,_,_,_,_,rfl⟩:=len5 hl;rfl⟩
 have F_21:=zaK (st:=zap) l_21 c_21 k_21
 have D_21:Def K mg "cell_ahead_of_turn" zap ["columns","pattern","text","classes"] _ _:=⟨F_21,aP X G a_21,F_21.binds (ps:=["columns","pattern","text","classes"]) fun _ _ _ _ _ _ us hl=>by obtain⟨_,_,_,_,rfl⟩:=len4 hl;rfl⟩
 have F_39:=zaK (st:=zco) l_39 c_39 k_39
 have D_39:Def K mg "stepped" zco ["cell","price"] _ _:=⟨F_39,aP X G a_39,F_39.binds (ps:=["cell","price"]) fun _ _ _ _ _ _ us hl=>by obtain⟨_,_,rfl⟩:=zhg hl;rfl⟩
 have F_33:=zaK (st:=zcU) l_33 c_33 k_33
 have D_33:Def K mg "lowest" zcU ["cells"] _ _:=⟨F_33,aP X G a_33,F_33.binds (ps:=["cells"]) fun _ _ _ _ _ _ us hl=>by obtain⟨_,rfl⟩:=len1 hl;rfl⟩
 have F_36:=zaK (st:=zbB) l_36 c_36 k_36
 have D_36:Def K mg "rooms_for" zbB ["P","most","prices"] _ _:=⟨F_36,aP X G a_36,F_36.binds (ps:=["P","most","prices"]) fun _ _ _ _ _ _ us hl=>by obtain⟨_,_,_,rfl⟩:=len3 hl;rfl⟩
 have F_24:=zaK (st:=zaL) l_24 c_24 k_24
 have D_24:Def K mg "ends_by_rooms" zaL ["rooms","T"] _ _:=⟨F_24,aP X G a_24,F_24.binds (ps:=["rooms","T"]) fun _ _ _ _ _ _ us hl=>by obtain⟨_,_,rfl⟩:=zhg hl;rfl⟩
 have F_34:=zaK (st:=zaY) l_34 c_34 k_34
 have D_34:Def K mg "numbers_met" zaY ["rooms","text"] _ _:=⟨F_34,aP X G a_34,F_34.binds (ps:=["rooms","text"]) fun _ _ _ _ _ _ us hl=>by obtain⟨_,_,rfl⟩:=zhg hl;rfl⟩
 have F_32:=zaK (st:=zbx) l_32 c_32 k_32
 have D_32:Def K mg "low_cells" zbx ["column","most"] _ _:=⟨F_32,aP X G a_32,F_32.binds (ps:=["column","most"]) fun _ _ _ _ _ _ us hl=>by obtain⟨_,_,rfl⟩:=zhg hl;rfl⟩
 have F_23:=zaK (st:=zaC) l_23 c_23 k_23
 have D_23:Def K mg "columns_behind" zaC ["column","pattern","most","prices"] _ _:=⟨F_23,aP X G a_23,F_23.binds (ps:=["column","pattern","most","prices"]) fun _ _ _ _ _ _ us hl=>by obtain⟨_,_,_,_,rfl⟩:=len4 hl;rfl⟩
 have F_25:=zaK (st:=zcm) l_25 c_25 k_25
 have D_25:Def K mg "ends_in" zcm ["P","T","most","prices"] _ _:=⟨F_25,aP X G a_25,F_25.binds (ps:=["P","T","most","prices"]) fun _ _ _ _ _ _ us hl=>by obtain⟨_,_,_,_,rfl⟩:=len4 hl;rfl⟩
 have F_35:=zaK (st:=zaD) l_35 c_35 k_35
 have D_35:Def K mg "prices_at_ends" zaD ["pattern","text","prices"] _ _:=⟨F_35,aP X G a_35,F_35.binds (ps:=["pattern","text","prices"]) fun _ _ _ _ _ _ us hl=>by obtain⟨_,_,_,rfl⟩:=len3 hl;rfl⟩
 have F_28:=zaK (st:=zaU) l_28 c_28 k_28
 have D_28:Def K mg "fitting_bits" zaU ["pattern"] _ _:=⟨F_28,aP X G a_28,F_28.binds (ps:=["pattern"]) fun _ _ _ _ _ _ us hl=>by obtain⟨_,rfl⟩:=len1 hl;rfl⟩
 have F_27:=zaK (st:=zbg) l_27 c_27 k_27
 have D_27:Def K mg "first_rows" zbg ["classes","most"] _ _:=⟨F_27,aP X G a_27,F_27.binds (ps:=["classes","most"]) fun _ _ _ _ _ _ us hl=>by obtain⟨_,_,rfl⟩:=zhg hl;rfl⟩
 have F_30:=zaK (st:=zaS) l_30 c_30 k_30
 have D_30:Def K mg "further_rows" zaS ["rows","fitting","classes"] _ _:=⟨F_30,aP X G a_30,F_30.binds (ps:=["rows","fitting","classes"]) fun _ _ _ _ _ _ us hl=>by obtain⟨_,_,_,rfl⟩:=len3 hl;rfl⟩
 have F_38:=zaK (st:=zaF) l_38 c_38 k_38
 have D_38:Def K mg "slips_of_whole" zaF ["rows","classes"] _ _:=⟨F_38,aP X G a_38,F_38.binds (ps:=["rows","classes"]) fun _ _ _ _ _ _ us hl=>by obtain⟨_,_,rfl⟩:=zhg hl;rfl⟩
 have F_20:=zaK (st:=zbj) l_20 c_20 k_20
 have D_20:Def K mg "bits_up_to" zbj ["number"] _ _:=⟨F_20,aP X G a_20,F_20.binds (ps:=["number"]) fun _ _ _ _ _ _ us hl=>by obtain⟨_,rfl⟩:=len1 hl;rfl⟩
 have F_10:=zaK (st:=zbD) l_10 c_10 k_10
 have D_10:Def K mg "_law_cell" zbD ["_law_script","_law_at"] _ _:=⟨F_10,aP X G a_10,F_10.binds (ps:=["_law_script","_law_at"]) fun _ _ _ _ _ _ us hl=>by obtain⟨_,_,rfl⟩:=zhg hl;rfl⟩
 have F_12:=zaK (st:=za0) l_12 c_12 k_12
 have D_12:Def K mg "_law_digits" za0 ["_law_cell_here","_law_base","_law_many"] _ _:=⟨F_12,aP X G a_12,F_12.binds (ps:=["_law_cell_here","_law_base","_law_many"]) fun _ _ _ _ _ _ us hl=>by obtain⟨_,_,_,rfl⟩:=len3 hl;rfl⟩
 have F_17:=zaK (st:=zbC) l_17 c_17 k_17
 have D_17:Def K mg "_law_pool" zbC ["_law_cell_here"] _ _:=⟨F_17,aP X G a_17,F_17.binds (ps:=["_law_cell_here"]) fun _ _ _ _ _ _ us hl=>by obtain⟨_,rfl⟩:=len1 hl;rfl⟩
 have F_19:=zaK (st:=zbz) l_19 c_19 k_19
 have D_19:Def K mg "_law_text" zbz ["_law_pool_here","_law_cell_here","_law_many"] _ _:=⟨F_19,aP X G a_19,F_19.binds (ps:=["_law_pool_here","_law_cell_here","_law_many"]) fun _ _ _ _ _ _ us hl=>by obtain⟨_,_,_,rfl⟩:=len3 hl;rfl⟩
 have F_11:=zaK (st:=zbi) l_11 c_11 k_11
 have D_11:Def K mg "_law_class" zbi ["_law_pool_here","_law_number"] _ _:=⟨F_11,aP X G a_11,F_11.binds (ps:=["_law_pool_here","_law_number"]) fun _ _ _ _ _ _ us hl=>by obtain⟨_,_,rfl⟩:=zhg hl;rfl⟩
 have F_15:=zaK (st:=zaR) l_15 c_15 k_15
 have D_15:Def K mg "_law_pattern" zaR ["_law_pool_here","_law_cell_here","_law_many"] _ _:=⟨F_15,aP X G a_15,F_15.binds (ps:=["_law_pool_here","_law_cell_here","_law_many"]) fun _ _ _ _ _ _ us hl=>by obtain⟨_,_,_,rfl⟩:=len3 hl;rfl⟩
 have F_9:=zaK (st:=zaI) l_9 c_9 k_9
 have D_9:Def K mg "_law_alike" zaI ["_law_found","_law_due"] _ _:=⟨F_9,aP X G a_9,F_9.binds (ps:=["_law_found","_law_due"]) fun _ _ _ _ _ _ us hl=>by obtain⟨_,_,rfl⟩:=zhg hl;rfl⟩
 have F_16:=zaK (st:=za2) l_16 c_16 k_16
 have D_16:Def K mg "_law_pieces" za2 ["_law_text_here","_law_digits_here"] _ _:=⟨F_16,aP X G a_16,F_16.binds (ps:=["_law_text_here","_law_digits_here"]) fun _ _ _ _ _ _ us hl=>by obtain⟨_,_,rfl⟩:=zhg hl;rfl⟩
 have F_18:=zaK (st:=zba) l_18 c_18 k_18
 have D_18:Def K mg "_law_rooms" zba ["_law_pattern_here","_law_most","_law_prices"] _ _:=⟨F_18,aP X G a_18,F_18.binds (ps:=["_law_pattern_here","_law_most","_law_prices"]) fun _ _ _ _ _ _ us hl=>by obtain⟨_,_,_,rfl⟩:=len3 hl;rfl⟩
 have F_13:=zaK (st:=zbG) l_13 c_13 k_13
 have D_13:Def K mg "_law_fed" zbG ["_law_machine","_law_pieces_here"] _ _:=⟨F_13,aP X G a_13,F_13.binds (ps:=["_law_machine","_law_pieces_here"]) fun _ _ _ _ _ _ us hl=>by obtain⟨_,_,rfl⟩:=zhg hl;rfl⟩
 have F_31:=zaK (st:=zeE) l_31 c_31 k_31
 have D_31:Def K mg "law" zeE ["_law_script"] _ _:=⟨F_31,aP X G a_31,F_31.binds (ps:=["_law_script"]) fun _ _ _ _ _ _ us hl=>by obtain⟨_,rfl⟩:=len1 hl;rfl⟩
 have F_6:=zaK (st:=zaB) l_6 c_6 k_6
 have D_6:MakeD K "Sight" zaB "Sight.__init__" ["self","most"] _ _:=⟨.of F_6,fun C h=>by cases zbK a_Sight h;exact⟨m1_Sight,a_6,i_6,m2_Sight⟩,F_6.binds (ps:=["self","most"]) fun _ _ _ _ _ _ us hl=>by obtain⟨_,_,rfl⟩:=zhg hl;rfl⟩
 have F_7:=zaK (st:=zbh) l_7 c_7 k_7
 have D_7:MethD K "Sight" "come" zbh "Sight.come" ["self","price"] _ _:=⟨.of F_7,fun C h=>by cases zbK a_Sight h;exact⟨a_7,i_7,k_7⟩,F_7.binds (ps:=["self","price"]) fun _ _ _ _ _ _ us hl=>by obtain⟨_,_,rfl⟩:=zhg hl;rfl⟩
 have F_8:=zaK (st:=zbf) l_8 c_8 k_8
 have D_8:MethD K "Sight" "tell" zbf "Sight.tell" ["self"] _ _:=⟨.of F_8,fun C h=>by cases zbK a_Sight h;exact⟨a_8,i_8,k_8⟩,F_8.binds (ps:=["self"]) fun _ _ _ _ _ _ us hl=>by obtain⟨_,rfl⟩:=len1 hl;rfl⟩
 have F_0:=zaK (st:=zaM) l_0 c_0 k_0
 have D_0:MakeD K "Bits" zaM "Bits.__init__" ["self","P","most"] _ _:=⟨.of F_0,fun C h=>by cases zbK a_Bits h;exact⟨m1_Bits,a_0,i_0,m2_Bits⟩,F_0.binds (ps:=["self","P","most"]) fun _ _ _ _ _ _ us hl=>by obtain⟨_,_,_,rfl⟩:=len3 hl;rfl⟩
 have F_1:=zaK (st:=zbA) l_1 c_1 k_1
 have D_1:MethD K "Bits" "feed" zbA "Bits.feed" ["self","T"] _ _:=⟨.of F_1,fun C h=>by cases zbK a_Bits h;exact⟨a_1,i_1,k_1⟩,F_1.binds (ps:=["self","T"]) fun _ _ _ _ _ _ us hl=>by obtain⟨_,_,rfl⟩:=zhg hl;rfl⟩
 have F_2:=zaK (st:=zby) l_2 c_2 k_2
 have D_2:MethD K "Bits" "read" zby "Bits.read" ["self","sign"] _ _:=⟨.of F_2,fun C h=>by cases zbK a_Bits h;exact⟨a_2,i_2,k_2⟩,F_2.binds (ps:=["self","sign"]) fun _ _ _ _ _ _ us hl=>by obtain⟨_,_,rfl⟩:=zhg hl;rfl⟩
 have F_3:=zaK (st:=zaw) l_3 c_3 k_3
 have D_3:MakeD K "Finder" zaw "Finder.__init__" ["self","P","most","prices"] _ _:=⟨.of F_3,fun C h=>by cases zbK a_Finder h;exact⟨m1_Finder,a_3,i_3,m2_Finder⟩,F_3.binds (ps:=["self","P","most","prices"]) fun _ _ _ _ _ _ us hl=>by obtain⟨_,_,_,_,rfl⟩:=len4 hl;rfl⟩
 have F_4:=zaK (st:=zaZ) l_4 c_4 k_4
 have D_4:MethD K "Finder" "feed" zaZ "Finder.feed" ["self","T"] _ _:=⟨.of F_4,fun C h=>by cases zbK a_Finder h;exact⟨a_4,i_4,k_4⟩,F_4.binds (ps:=["self","T"]) fun _ _ _ _ _ _ us hl=>by obtain⟨_,_,rfl⟩:=zhg hl;rfl⟩
 have F_5:=zaK (st:=za1) l_5 c_5 k_5
 have D_5:MethD K "Finder" "read" za1 "Finder.read" ["self","sign"] _ _:=⟨.of F_5,fun C h=>by cases zbK a_Finder h;exact⟨a_5,i_5,k_5⟩,F_5.binds (ps:=["self","sign"]) fun _ _ _ _ _ _ us hl=>by obtain⟨_,_,rfl⟩:=zhg hl;rfl⟩
 have T:Txt K mg:={ m_bool:=bS X G z_bool,m_enumerate:=bS X G z_enumerate,m_int:=bS X G z_int,m_isinstance:=bS X G z_isinstance,m_len:=bS X G z_len,m_min:=bS X G z_min,m_range:=bS X G z_range,m_set:=bS X G z_set,m_sorted:=bS X G z_sorted,m_tuple:=bS X G z_tuple,m_zip:=bS X G z_zip,g_PUT:=⟨_,aP X G q_PUT,⟨_,rfl⟩⟩,g_LEFT:=⟨_,aP X G q_LEFT,⟨_,rfl⟩⟩,g_EXCHANGED:=⟨_,aP X G q_EXCHANGED,⟨_,rfl⟩⟩,g_TURNED:=⟨_,aP X G q_TURNED,⟨_,rfl⟩⟩,g_LETTERS:=⟨_,aP X G q_LETTERS,⟨_,rfl⟩⟩,g_MOST_ROOMS:=⟨_,aP X G q_MOST_ROOMS,⟨_,rfl⟩⟩,x_exc:=⟨_,_,_,_,⟨aP X G a_xC,x1⟩,⟨x2,x3,x4,x5,x6,x7,x8,x9⟩,aP X G a_xB,x10,x11,x12,aP X G a_xA2,aP X G a_xA3,x13⟩,c_Bits:=⟨_,DC_Bits⟩,c_Finder:=⟨_,DC_Finder⟩,c_Sight:=⟨_,DC_Sight⟩,d_cells_of:=⟨_,_,D_22⟩,d_row_across:=⟨_,_,D_37⟩,d_first_column:=⟨_,_,D_26⟩,d_further_column:=⟨_,_,D_29⟩,d_cell_ahead_of_turn:=⟨_,_,D_21⟩,d_stepped:=⟨_,_,D_39⟩,d_lowest:=⟨_,_,D_33⟩,d_rooms_for:=⟨_,_,D_36⟩,d_ends_by_rooms:=⟨_,_,D_24⟩,d_numbers_met:=⟨_,_,D_34⟩,d_low_cells:=⟨_,_,D_32⟩,d_columns_behind:=⟨_,_,D_23⟩,d_ends_in:=⟨_,_,D_25⟩,d_prices_at_ends:=⟨_,_,D_35⟩,d_fitting_bits:=⟨_,_,D_28⟩,d_first_rows:=⟨_,_,D_27⟩,d_further_rows:=⟨_,_,D_30⟩,d_slips_of_whole:=⟨_,_,D_38⟩,d_bits_up_to:=⟨_,_,D_20⟩,d__law_cell:=⟨_,_,D_10⟩,d__law_digits:=⟨_,_,D_12⟩,d__law_pool:=⟨_,_,D_17⟩,d__law_text:=⟨_,_,D_19⟩,d__law_class:=⟨_,_,D_11⟩,d__law_pattern:=⟨_,_,D_15⟩,d__law_alike:=⟨_,_,D_9⟩,d__law_pieces:=⟨_,_,D_16⟩,d__law_rooms:=⟨_,_,D_18⟩,d__law_fed:=⟨_,_,D_13⟩,d_Sight___init__:=⟨_,_,D_6⟩,d_Sight_come:=⟨_,_,D_7⟩,d_Sight_tell:=⟨_,_,D_8⟩,d_Bits___init__:=⟨_,_,D_0⟩,d_Bits_feed:=⟨_,_,D_1⟩,d_Bits_read:=⟨_,_,D_2⟩,d_Finder___init__:=⟨_,_,D_3⟩,d_Finder_feed:=⟨_,_,D_4⟩,d_Finder_read:=⟨_,_,D_5⟩}
 exact⟨aQ "law" "law" (zak zeE) (zah zeE) (zad zeE) .none kV_31 dc_31 pm_31 an_31 cd_31 ct_31,fun s v=>.of_eq rfl,fun base _ _=>(ok_law T (.of F_31)).imp fun _ _ _ _ h=>sp_law h⟩
theorem walk{l:gN}{q:aR}{loose:List Str}{XP:(Str->Option ag)->aW->Prop}{YP:aX->aW->Prop}{d:DefRec}{K:Params->ak}(hn:l.most=ae 63)(hdf:d.params.defaults=[])
  (hY:∀ (w:aX) (h:aW),YP w h->(K w.params).In h)
  (F:∀ (w:aX) (mg:Str->Option ag) (fa:ai) (h:aW),(K w.params).In h->h.Ns aD mg->mg d.name=ae (.ref fa) ->
   ∃ fd:bq,(∀ (s:am) (u:ag),BindsTo s fd ⟨[u],[]⟩ [("_law_script",u)])/\∀ base:aW,(K w.params).In base->base.Ns aD mg->FnOk l.prog w (K w.params) mg base CX0 6 fa fd ["_law_script"] (spLaw (K w.params))) :
  jq q loose XP YP l.row.toRowW d [] (fun f vs=>jd f vs):=
 L2.walk_of (n:=63) (k:=6) (x:= "_law_script") (CX:=fun _=>CX0) (sp:=fun w=>spLaw (K w.params)) hn (by decide) hdf ⟨rfl,by decide,by decide⟩ hY F (fun _ _ a ns hl _ hS=>⟨a,ns,rfl,hS,hl,fun _=>rfl⟩) fun _ _ _ _ _ z=>z
end N35
open PySem PySem.W PyProof.Rows
set_option maxRecDepth 100000 in
set_option maxHeartbeats 0 in
theorem PySem.Challenge.cw_nearfind_k35_whole_machines_alike_holds : PySem.Challenge.rw_nearfind_k35_whole_machines_alike.Holds := by
 refine holds_law (by kernel_rfl) fun said=>?_
 refine holds_open (q:=TopH.topView) (loose:=TopH.topLoose) (Xt:=fun s=>recOk (jE TopH.topRow) s) (XP:=fun _ _=>True) (Yf:=TopH.topHook.obs) (Ya:=TopH.topHook.val) (YP:=TopH.topHook.says) (N:=12000) TopH.topLeft TopH.topHook.of TopH.topHook.keeps (fun _ _=>trivial) (fun _ _ _ _ _=>trivial) (by rfl) (by rfl) (by rfl) (fun s e=>recFacts_of e) (by rfl) (by assumption) (by decide +kernel) ⟨rfl,rfl,rfl,rfl,rfl,by decide +kernel⟩ ?hw ?hc
 (case hw=>w_witness2)
 unfold TopH.topHook
 k_fill
 refine N35.walk (l:=PySem.Challenge.rw_nearfind_k35_whole_machines_alike) rfl rfl (fun w h Y=>PySem.W.kIn_of Y) ?F
 case F=>
  intro w mg fa h KX G hmg
  refine' N35.all_mk KX G hmg ?a_Bits ?p1_Bits ?p2_Bits ?p3_Bits ?p4_Bits ?n_Bits_fitting ?n_Bits_classes ?n_Bits_rows ?n_Bits_sight ?m1_Bits ?m2_Bits ?a_Finder ?p1_Finder ?p2_Finder ?p3_Finder ?p4_Finder ?n_Finder_pattern ?n_Finder_prices ?n_Finder_columns ?n_Finder_last_sign ?n_Finder_sight ?m1_Finder ?m2_Finder ?a_Sight ?p1_Sight ?p2_Sight ?p3_Sight ?p4_Sight ?n_Sight_most ?n_Sight_end ?n_Sight_pairs ?m1_Sight ?m2_Sight ?a_22 ?l_22 ?c_22 ?k_22 ?e_22 ?a_37 ?l_37 ?c_37 ?k_37 ?a_26 ?l_26 ?c_26 ?k_26 ?a_29 ?l_29 ?c_29 ?k_29 ?a_21 ?l_21 ?c_21 ?k_21 ?a_39 ?l_39 ?c_39 ?k_39 ?a_33 ?l_33 ?c_33 ?k_33 ?a_36 ?l_36 ?c_36 ?k_36 ?a_24 ?l_24 ?c_24 ?k_24 ?a_34 ?l_34 ?c_34 ?k_34 ?a_32 ?l_32 ?c_32 ?k_32 ?a_23 ?l_23 ?c_23 ?k_23 ?a_25 ?l_25 ?c_25 ?k_25 ?a_35 ?l_35 ?c_35 ?k_35 ?a_28 ?l_28 ?c_28 ?k_28 ?a_27 ?l_27 ?c_27 ?k_27 ?a_30 ?l_30 ?c_30 ?k_30 ?a_38 ?l_38 ?c_38 ?k_38 ?a_20 ?l_20 ?c_20 ?k_20 ?a_10 ?l_10 ?c_10 ?k_10 ?a_12 ?l_12 ?c_12 ?k_12 ?a_17 ?l_17 ?c_17 ?k_17 ?a_19 ?l_19 ?c_19 ?k_19 ?a_11 ?l_11 ?c_11 ?k_11 ?a_15 ?l_15 ?c_15 ?k_15 ?a_9 ?l_9 ?c_9 ?k_9 ?a_16 ?l_16 ?c_16 ?k_16 ?a_18 ?l_18 ?c_18 ?k_18 ?a_13 ?l_13 ?c_13 ?k_13 ?a_31 ?l_31 ?c_31 ?k_31 ?a_6 ?l_6 ?c_6 ?k_6 ?i_6 ?a_7 ?l_7 ?c_7 ?k_7 ?i_7 ?a_8 ?l_8 ?c_8 ?k_8 ?i_8 ?a_0 ?l_0 ?c_0 ?k_0 ?i_0 ?a_1 ?l_1 ?c_1 ?k_1 ?i_1 ?a_2 ?l_2 ?c_2 ?k_2 ?i_2 ?a_3 ?l_3 ?c_3 ?k_3 ?i_3 ?a_4 ?l_4 ?c_4 ?k_4 ?i_4 ?a_5 ?l_5 ?c_5 ?k_5 ?i_5 ?z_bool ?z_enumerate ?z_int ?z_isinstance ?z_len ?z_min ?z_range ?z_set ?z_sorted ?z_tuple ?z_zip ?q_PUT ?q_LEFT ?q_EXCHANGED ?q_TURNED ?q_LETTERS ?q_MOST_ROOMS ?a_xC ?a_xB ?a_xA2 ?a_xA3 ?x1 ?x2 ?x3 ?x4 ?x5 ?x6 ?x7 ?x8 ?x9 ?x10 ?x11 ?x12 ?x13
  (case a_Bits=>k_is)
  (case p1_Bits=>k_is)
  (case p2_Bits=>k_is)
  (case p3_Bits=>k_is)
  (case p4_Bits=>k_is)
  (case n_Bits_fitting=>k_is)
  (case n_Bits_classes=>k_is)
  (case n_Bits_rows=>k_is)
  (case n_Bits_sight=>k_is)
  (case m1_Bits=>k_is)
  (case m2_Bits=>k_is)
  (case a_Finder=>k_is)
  (case p1_Finder=>k_is)
  (case p2_Finder=>k_is)
  (case p3_Finder=>k_is)
  (case p4_Finder=>k_is)
  (case n_Finder_pattern=>k_is)
  (case n_Finder_prices=>k_is)
  (case n_Finder_columns=>k_is)
  (case n_Finder_last_sign=>k_is)
  (case n_Finder_sight=>k_is)
  (case m1_Finder=>k_is)
  (case m2_Finder=>k_is)
  (case a_Sight=>k_is)
  (case p1_Sight=>k_is)
  (case p2_Sight=>k_is)
  (case p3_Sight=>k_is)
  (case p4_Sight=>k_is)
  (case n_Sight_most=>k_is)
  (case n_Sight_end=>k_is)
  (case n_Sight_pairs=>k_is)
  (case m1_Sight=>k_is)
  (case m2_Sight=>k_is)
  (case a_22=>k_is)
  (case l_22=>k_is)
  (case c_22=>k_is)
  (case k_22=>k_is)
  (case e_22=>exact⟨_,_,_,rfl,by k_is,rfl⟩)
  (case a_37=>k_is)
  (case l_37=>k_is)
  (case c_37=>k_is)
  (case k_37=>k_is)
  (case a_26=>k_is)
  (case l_26=>k_is)
  (case c_26=>k_is)
  (case k_26=>k_is)
  (case a_29=>k_is)
  (case l_29=>k_is)
  (case c_29=>k_is)
  (case k_29=>k_is)
  (case a_21=>k_is)
  (case l_21=>k_is)
  (case c_21=>k_is)
  (case k_21=>k_is)
  (case a_39=>k_is)
  (case l_39=>k_is)
  (case c_39=>k_is)
  (case k_39=>k_is)
  (case a_33=>k_is)
  (case l_33=>k_is)
  (case c_33=>k_is)
  (case k_33=>k_is)
  (case a_36=>k_is)
  (case l_36=>k_is)
  (case c_36=>k_is)
  (case k_36=>k_is)
  (case a_24=>k_is)
  (case l_24=>k_is)
  (case c_24=>k_is)
  (case k_24=>k_is)
  (case a_34=>k_is)
  (case l_34=>k_is)
  (case c_34=>k_is)
  (case k_34=>k_is)
  (case a_32=>k_is)
  (case l_32=>k_is)
  (case c_32=>k_is)
  (case k_32=>k_is)
  (case a_23=>k_is)
  (case l_23=>k_is)
  (case c_23=>k_is)
  (case k_23=>k_is)
  (case a_25=>k_is)
  (case l_25=>k_is)
  (case c_25=>k_is)
  (case k_25=>k_is)
  (case a_35=>k_is)
  (case l_35=>k_is)
  (case c_35=>k_is)
  (case k_35=>k_is)
  (case a_28=>k_is)
  (case l_28=>k_is)
  (case c_28=>k_is)
  (case k_28=>k_is)
  (case a_27=>k_is)
  (case l_27=>k_is)
  (case c_27=>k_is)
  (case k_27=>k_is)
  (case a_30=>k_is)
  (case l_30=>k_is)
  (case c_30=>k_is)
  (case k_30=>k_is)
  (case a_38=>k_is)
  (case l_38=>k_is)
  (case c_38=>k_is)
  (case k_38=>k_is)
  (case a_20=>k_is)
  (case l_20=>k_is)
  (case c_20=>k_is)
  (case k_20=>k_is)
  (case a_10=>k_is)
  (case l_10=>k_is)
  (case c_10=>k_is)
  (case k_10=>k_is)
  (case a_12=>k_is)
  (case l_12=>k_is)
  (case c_12=>k_is)
  (case k_12=>k_is)
  (case a_17=>k_is)
  (case l_17=>k_is)
  (case c_17=>k_is)
  (case k_17=>k_is)
  (case a_19=>k_is)
  (case l_19=>k_is)
  (case c_19=>k_is)
  (case k_19=>k_is)
  (case a_11=>k_is)
  (case l_11=>k_is)
  (case c_11=>k_is)
  (case k_11=>k_is)
  (case a_15=>k_is)
  (case l_15=>k_is)
  (case c_15=>k_is)
  (case k_15=>k_is)
  (case a_9=>k_is)
  (case l_9=>k_is)
  (case c_9=>k_is)
  (case k_9=>k_is)
  (case a_16=>k_is)
  (case l_16=>k_is)
  (case c_16=>k_is)
  (case k_16=>k_is)
  (case a_18=>k_is)
  (case l_18=>k_is)
  (case c_18=>k_is)
  (case k_18=>k_is)
  (case a_13=>k_is)
  (case l_13=>k_is)
  (case c_13=>k_is)
  (case k_13=>k_is)
  (case a_31=>k_is)
  (case l_31=>k_is)
  (case c_31=>k_is)
  (case k_31=>k_is)
  (case a_6=>k_is)
  (case l_6=>k_is)
  (case c_6=>k_is)
  (case k_6=>k_is)
  (case i_6=>k_is)
  (case a_7=>k_is)
  (case l_7=>k_is)
  (case c_7=>k_is)
  (case k_7=>k_is)
  (case i_7=>k_is)
  (case a_8=>k_is)
  (case l_8=>k_is)
  (case c_8=>k_is)
  (case k_8=>k_is)
  (case i_8=>k_is)
  (case a_0=>k_is)
  (case l_0=>k_is)
  (case c_0=>k_is)
  (case k_0=>k_is)
  (case i_0=>k_is)
  (case a_1=>k_is)
  (case l_1=>k_is)
  (case c_1=>k_is)
  (case k_1=>k_is)
  (case i_1=>k_is)
  (case a_2=>k_is)
  (case l_2=>k_is)
  (case c_2=>k_is)
  (case k_2=>k_is)
  (case i_2=>k_is)
  (case a_3=>k_is)
  (case l_3=>k_is)
  (case c_3=>k_is)
  (case k_3=>k_is)
  (case i_3=>k_is)
  (case a_4=>k_is)
  (case l_4=>k_is)
  (case c_4=>k_is)
  (case k_4=>k_is)
  (case i_4=>k_is)
  (case a_5=>k_is)
  (case l_5=>k_is)
  (case c_5=>k_is)
  (case k_5=>k_is)
  (case i_5=>k_is)
  (case z_bool=>k_is)
  (case z_enumerate=>k_is)
  (case z_int=>k_is)
  (case z_isinstance=>k_is)
  (case z_len=>k_is)
  (case z_min=>k_is)
  (case z_range=>k_is)
  (case z_set=>k_is)
  (case z_sorted=>k_is)
  (case z_tuple=>k_is)
  (case z_zip=>k_is)
  (case q_PUT=>k_is)
  (case q_LEFT=>k_is)
  (case q_EXCHANGED=>k_is)
  (case q_TURNED=>k_is)
  (case q_LETTERS=>k_is)
  (case q_MOST_ROOMS=>k_is)
  (case a_xC=>k_is)
  (case a_xB=>k_is)
  (case a_xA2=>k_is)
  (case a_xA3=>k_is)
  (case x1=>kernel_rfl)
  (case x2=>kernel_rfl)
  (case x3=>k_is)
  (case x4=>k_is)
  (case x5=>k_is)
  (case x6=>k_is)
  (case x7=>k_is)
  (case x8=>k_is)
  (case x9=>k_is)
  (case x10=>kernel_rfl)
  (case x11=>kernel_rfl)
  (case x12=>kernel_rfl)
  (case x13=>kernel_rfl)
#print axioms PySem.Challenge.cw_nearfind_k35_whole_machines_alike_holds


