import PyProof.Rows.All
import Wide.All
import OpenK.AllK
import Wide.FinOn
import Lean
import PyProof.EqAt
import PyProof.EqKinds
import PyProof.TupleCall
import PyProof.NeKinds
import PyProof.SetNew
import PyProof.SetRoads
import PyProof.Rows.SetFrom
import PyProof.CollectStr
import PyProof.ZipIter
import PyProof.Rows.StrNews2
import PyProof.Rows.StrCut
import KE.KRevIter
import PyProof.MaxThree
import KE.KEqDict
import PySem.Challenge.RW_nearfind_k62_whole_slips_made
open Array renaming length_toList->aF,getElem_mem->bv,mem_toList_iff->cK,getElem?_toList->cX,toList_extract->dc,getElem_extract->dt,getElem_toList->dz,toList_append->dF,append_empty->dM,toList_reverse->en,toList_zip->eX,size_extract->fR,getElem?_eq_some_iff->fY,toList_setIfInBounds->fZ,perm_iff_toList_perm->f6,toList_push->f9,replicate->gI,ext'->iw,reverse_empty->iF,toList->j0
open Bool renaming false_ne_true->aR,false_eq_true->cY,and_eq_true->d9,eq_iff_iff->fz,and_false->gY,or_eq_true_iff->iE,not_eq_true'->i5,and_true->jG,or_true->kx
open Classical renaming byContradiction->jY,propDecidable->kB
open Decidable renaming byContradiction->dB
open Eq renaming trans->jh
open False renaming elim->cg
open ForInStep renaming yield->fC
open Int renaming eq_ofNat_of_zero_le->bp,emod_lt_of_pos->cz,emod_nonneg->cC,natCast_nonneg->dO,mul_le_mul_of_nonneg_right->dQ,le_refl->dX,zero_add->d6,toNat_natCast->eR,add_zero->fG,le_trans->fI,ofNat->iV,natCast_ediv->ji,ofNat_lt->ky
open Int.ofNat renaming inj->jL
open List renaming mem_cons_of_mem->ah,mem_cons_self->aj,length_map->al,length_append->am,range->aq,map_cons->ar,length_cons->au,mem_append_right->av,getElem?_map->aA,nodup_cons->aB,getElem?_eq_getElem->aC,mem_cons->aE,replicate->aG,mem_singleton->aK,mem_append->aQ,append_nil->aU,mem_append_left->aX,append_assoc->a7,getElem?_set->bf,getElem?_append_left->bg,size_toArray->bm,map_append->bn,getElem?_eq_some_iff->bo,map_nil->bu,length_take->bw,getD_eq_getElem?_getD->bE,zip_cons_cons->bG,getElem?_range->bH,nodup_append->bJ,length_range->bK,getElem?_append_right->bL,cons_lt_cons_iff->bM,getElem?_cons_succ->bN,map_congr_left->bQ,drop_eq_getElem_cons->bR,length_drop->bS,mem_map->bU,lookup_cons->bW,mem_range->bZ,map_map->b9,lookup->cr,nil_append->cy,range_succ->cB,extract_eq_drop_take->cG,length_replicate->cH,length_singleton->cI,mem_of_getElem?->cL,flatMap_cons->cM,length_nil->cO,getElem?_set_self->cQ,take_of_length_le->cR,zipWith_cons_cons->cS,all_eq_true->cV,length->cZ,getElem?_set_ne->c7,getElem?_take_of_lt->c9,foldl_cons->db,eq_nil_of_length_eq_zero->de,getElem?_replicate->dg,getElem?_cons_zero->dh,filter_append->dm,mem_filter->dq,getElem?_eq_none->dr,take_append_drop->du,length_filter_le->dv,pairwise_iff_getElem->dA,not_mem_nil->dE,find?_cons_of_pos->dU,find?_cons_of_neg->dW,range'->dY,zipWith->d3,perm_append_comm->d4,cons_append->ej,pairwise_append->ek,mem_iff_getElem->em,sum_cons->eF,flatMap_append->eG,length_set->eI,mem_filterMap->eL,pairwise_singleton->eQ,drop_eq_nil_of_le->eS,drop_length->eU,take_length->eV,filter_cons->eY,mem_flatMap->eZ,singleton_append->fw,length_zip->fD,dropLast_concat->fH,filterMap_cons->fK,getElem?_drop->fS,set_cons_zero->fT,pairwise_cons->fU,all_cons->fW,pairwise_map->ga,mem_range'_1->gb,getElem?_eq_none_iff->gc,getLast?_eq_getElem?->gd,getLast?_eq_some_iff->gg,getLast?_eq_none_iff->gh,map_snd_zip->gk,ext_getElem->gq,le_antisymm->gy,map_flatMap->gz,pairwise_mergeSort->gB,filter_cons_of_pos->gC,filter_cons_of_neg->gD,of_mem_zip->gF,range_zero->gN,map_id->gS,filter_eq_nil_iff->gU,dropLast_eq_take->gZ,drop_zero->g7,pairwise_reverse->g9,set_append_right->hG,countP_mono_left->hJ,nodup_nil->ie,length_dropLast->ip,range'_append_1->iy,range_eq_range'->iz,mergeSort_perm->iH,replicate_zero->iI,set_set->iU,map_inj_right->iW,map_singleton->iX,length_range'->iY,foldl_append->i3,getElem_drop->i4,reverse_perm->i6,getLast?_map->i9,not_lt->ja,countP_cons->jd,nil_sublist->jf,perm_middle->jg,forIn_cons->jl,filter_nil->jr,count_cons->jt,forIn_nil->ju,take_zero->jv,drop_drop->jw,lt_irrefl->jx,take_nil->jE,drop_nil->jF,le_trans->jJ,le_total->jK
open List.Pairwise renaming nil->lb
open List.Perm renaming eq_of_pairwise->gx,append_left->hZ,cons->jA
open List.cons renaming inj->jI
open Nat renaming le_refl->ak,le_trans->aH,zero_le->aL,lt_of_lt_of_le->aP,zero_add->bi,ne_of_lt->bz,le_of_lt->bB,lt_irrefl->cA,add_le_add_left->di,add_lt_of_lt_sub->dy,le_of_eq->dC,le_add_right->dD,add_sub_cancel_left->dH,min_eq_left->dL,add_sub_cancel->dN,le_succ->dR,add_comm->d5,min_le_right->d8,lt_of_le_of_lt->eN,lt_succ_self->eT,lt_of_not_le->eW,sub_self->fF,min_eq_right->gu,add_zero->gv,lt_of_succ_lt_succ->gR,ne_of_gt->iN,sub_zero->iR,not_lt->jm,min_le_left->jn,strongRecOn->jq,add_assoc->jM,min_self->kr
open Nat.succ renaming inj->ko
open Ne renaming symm->cP
open Option renaming some->aa,none->ab,bind_some->aS,bind->cu,map_some->cx,join_some->eE,map_eq_some_iff->gT,map->iu,getD_none->jc,none->kI
open Option.some renaming inj->aJ,injEq->i8
open Or renaming inl->az,inr->ba
open Prod renaming fst->ku,ext->lu
open PyProof.Rows renaming wpS_bind->aw,wpS_pure->aD,pendingOf->be,wpS_forRange->cf,callWith_type1->d7,callWith_builtin1->jj,callWith_kw->km
open PyProof.Rows.SortSt renaming mk'->eO
open PySem renaming Addr->ae,Value->ag,Shared->ai,wpAny_bind->ay,Program->aI,wpAny->aM,World->aO,Heap->aV,Around->aW,wpAny_pure->a8,mainGlobals->a9,sizeLine->bj,starEach->br,FuncData->bx,compareOp->bC,bootBuiltins->bO,attributeBase->bT,mem_of_lookup->bV,wpAny_mono->bX,foldedSetIterable->ck,sizeLine_eq->cn,assignEach->cv,wpAny_Call_Name_kw->dk,wpAny_holding->dI,Within->iM,call->jk
open PySem.Around renaming under_plainId->ef,under->iP
open PySem.Builtin.Builtins renaming bindParams->fP
open PySem.Builtin.List renaming listTooLong->eM
open PySem.Builtin.Range renaming rangeSize->kz
open PySem.Builtin.Str renaming strSliceIndices->cN,occurrences->eP
open PySem.Builtin.Tuple renaming tupleHashOf->jX
open PySem.Calls renaming Name_function_global->fV,callWith_builtin->gQ
open PySem.Code renaming isFrame->iQ,frames->kH
open PySem.Data renaming seq->li
open PySem.DictEntry renaming refKey->lj
open PySem.EqMixed renaming eq_bool_str->jQ,eq_str_bool->jR,ne_bool_str->jV,ne_str_bool->jW,eq_int_str->j8,eq_str_int->kc,ne_int_str->kh,ne_str_int->kj
open PySem.EqNone renaming eq_none_none->jN,eq_none_bool->jO,eq_bool_none->jP,ne_none_none->jS,ne_none_bool->jT,ne_bool_none->jU,eq_none_int->j4,eq_none_str->j6,eq_int_none->j7,eq_str_none->j9,ne_none_int->ke,ne_none_str->kf,ne_int_none->kg,ne_str_none->ki
open PySem.F renaming plain_min_loop->bY,plainAttrs_list->dG,entry_min_loop->dS,slot_dict_get->fq,slot_list_append->gl,type_list_append->gp,plainAttrs_dict->gA,type_dict_get->g8
open PySem.Heap renaming get?_push_of_some->ax,lt_size->aN,get?_push_size->aT,get?_update_other->cE,size_update->eD,get?_update_self->fg,SameBut->gj,size_push->gW,get?_update_ne->iG,get?_push_ne->i7
open PySem.Heap.DictOf renaming new->ly
open PySem.Heap.IsList renaming push->lr
open PySem.Heap.IsSliceOf renaming new->kZ
open PySem.Heap.IsTuple renaming push->lg
open PySem.IsL renaming update->lm
open PySem.NameKind renaming free->bD,cell->cU
open PySem.Obj renaming mapSeq->cj
open PySem.Paired renaming length->jC
open PySem.PassesOwn renaming never->gJ
open PySem.SeqAt renaming EqAt->im
open PySem.SeqAt.EqAt renaming of_refs->fQ,same->gG,int_str->iJ,str_int->iK,none_bool->kJ,bool_none->kK,bool_bool->kL,none_int->kO,none_str->kP,bool_int->kQ,bool_str->kR,int_none->kS,int_bool->kT,str_none->kU,str_bool->kW,int_int->k5,str_str->k6
open PySem.SeqAt.RcAt renaming lists_lengths->kt,tuples->lf,lists->lq
open PySem.SeqAt.RcNeAt renaming lists_lengths->jH,tuples->kX,lists->k8
open PySem.Str renaming ofString->eJ,length->ik,empty->iO,join->kq
open PySem.StrLaws renaming strSliceIndices_plain->fJ
open PySem.Txt renaming slice_le->gr,join->iq,slice->jB
open PySem.Value renaming ref->bq,int->dJ,str->fN,none->ig,bool->ii,type->ij,isStrOf->iA,isInt->kD,bytes->kF,float->kG
open PySem.W renaming Frag->af,findIn->aZ,keepIn->bA,nsIn->bF,fnOf->bP,codeIn->b8,mg_none_of->cD,emptyDict->cF,mg_of->cJ,instObj->c6,isFn->c8,plainGet->dj,hasDictIn->dw,plainOver->dZ,makesIn->eH,plainGet_of->fL,lookIn->fM,callWith_K->fO,methodObj->f7,kat_cons->gw,takerIn->gE,OpenLaw->gH,kat_nil->gL,kat_yes->gM,binds_K->gO,cellsFrom_some->gP,methodCall_KW->gX,kat_no->hU,callWith_K0->iC,specialIn->iZ,handedIn->jb,kat_kind->je,kat_one->jo,KatTups->jp,KatLex->jy,kat_lt->jz,WalkO->jD
open PySem.W.Looks renaming here->kY
open PySem.W.RowW renaming records->jZ
open PySem.W.WData renaming int->k7
open PySem.W.WShape renaming has->kM
open PySem.Within renaming cons->k9
open Sum renaming inr->aY,inl->bI
open Sum.inr renaming inj->kE
open True renaming intro->fB
noncomputable section
namespace TopH
open PySem PySem.W PyProof.Rows
local macro_rules | `(tactic| o_head $H)=>`(tactic| (contradiction;exact $H))
set_option maxRecDepth 100000
set_option maxHeartbeats 0 in
noncomputable def topHook:Hook:=by
 refine(fun(_:False->PySem.Challenge.rw_nearfind_k62_whole_slips_made.row.Holds)=>?H) ?g;rotate_left;intro _
 k_head
abbrev topProg:aI:=PySem.Challenge.pw_nearfind_k62_whole_slips_made
noncomputable def topView:aI:=view topProg [47]
noncomputable def topLoose:List Str:=["_wall","PUT","LEFT","EXCHANGED","TURNED","cells_of","price_between","row_across","first_column","further_column","cell_ahead_of_turn","stepped","lowest","Sight","ends_in","prices_at_ends","PLAIN_PRICES","pattern_of","Book","Knot","slips_between","hang","knots_in_reach","ends_in_kept","ends_in_stretch","kept_by_parts","kept_by_counts","kept_by_pieces","places_of","windows","times_of_pieces","number_shared","joined","_law_cell","_law_digits","_law_pool","_law_text","_law_slipped","_law_turned","_law_told"].map eJ
abbrev topRow:RowW:=OpenRow.toRowW (OpenLaw.row PySem.Challenge.rw_nearfind_k62_whole_slips_made)
abbrev topAt(w:aO):Prop:=(openEnds treeTable topProg w 12000).map (fun s=>(openSeen topView topLoose (importedModules topProg.main.body) (fun s=>recOk (jZ topRow) s) true s,topHook.obs s))=aa (openGood topView topLoose,topHook.val w)
theorem topLeft(w:aO):topAt w:=by kernel_rfl
end TopH
set_option Elab.async false
set_option linter.all false
set_option maxRecDepth 100000
namespace L2
open PySem PySem.Spec PyProof.Rows
abbrev Key:=Sum Int Str
def ziO:Key->ag->Bool
 |.inl k,v=>kD k v
 |.inr x,v=>iA x v
def keyH(w:aO):Key->Int
 |.inl k=>hashInt k
 |.inr x=>hashStr w x
def zaM:∀{k:Key} {v:ag},ziO k v=true->(∃i t,k=bI i/\v=dJ i t)\/(∃x t,k=aY x/\v=fN x t)
 |.inl i,v,h=>by
  obtain⟨t,e⟩:=Value.isInt_shape (k:=i) (v:=v) h;exact .inl ⟨i,t,rfl,e⟩
 |.inr x,v,h=>by
  obtain⟨t,e⟩:=Value.isStrOf_shape (x:=x) (v:=v) h;exact .inr ⟨x,t,rfl,e⟩
def keyIs_int(i:Int)(t:Tok):ziO (.inl i) (.int i t)=true:=by simp[ziO,kD]
def key_ll(a b:Int):decide ((bI a:Key)=bI b)=(a==b):=by
 by_cases e:a=b
 ·subst e;simp
 ·have h:¬ (bI a:Key)=bI b:=λq=>e (Sum.inl.inj q);rw[decide_eq_false h];exact(beq_eq_false_iff_ne.mpr e).symm
def key_rr(a b:Str):decide ((aY a:Key)=aY b)=decide (a=b):=by
 by_cases e:a=b
 ·subst e;simp
 ·have h:¬ (aY a:Key)=aY b:=λq=>e (kE q);rw[decide_eq_false h,decide_eq_false e]
def key_lr(a:Int)(b:Str):decide ((bI a:Key)=aY b)=false:=decide_eq_false (λq=>nomatch q)
def key_rl(a:Str)(b:Int):decide ((aY a:Key)=bI b)=false:=decide_eq_false (λq=>nomatch q)
def zbo(prog:aI)(w:aO):PySem.KeyKind prog w Key where
 is:=ziO
 hash:=keyH w
 inj:=λv a b ha hb=>by
  rcases zaM ha with ⟨i,t,rfl,rfl⟩|⟨x,t,rfl,rfl⟩
  ·rcases zaM hb with ⟨j,u,rfl,e⟩|⟨y,u,rfl,e⟩
   ·injection e with e1 _;rw[e1]
   ·exact nomatch e
  ·rcases zaM hb with ⟨j,u,rfl,e⟩|⟨y,u,rfl,e⟩
   ·exact nomatch e
   ·injection e with e1 _;rw[e1]
 byValue:=λk v h=>by
  rcases zaM h with ⟨i,t,rfl,rfl⟩|⟨x,t,rfl,rfl⟩ <;> rfl
 pyHash:=λhv h=>by
  rcases zaM hv with ⟨i,t,rfl,rfl⟩|⟨x,t,rfl,rfl⟩
  ·exact wpAny_pyHash_int h
  ·exact wpAny_pyHash_str h
 eqBool:=λhu hv h=>by
  rcases zaM hu with ⟨i,t,rfl,rfl⟩|⟨x,t,rfl,rfl⟩
  ·rcases zaM hv with ⟨j,u,rfl,rfl⟩|⟨y,u,rfl,rfl⟩
   ·rw[key_ll]at h;exact wpAny_eqBool_int h
   ·rw[key_lr]at h;exact iJ i t y u _ _ _ _ h
  ·rcases zaM hv with ⟨j,u,rfl,rfl⟩|⟨y,u,rfl,rfl⟩
   ·rw[key_rl]at h;exact iK x t j u _ _ _ _ h
   ·rw[key_rr]at h;exact wpAny_eqBool_str h
 «strs» :=λk x t v h=>by
  rcases zaM h with ⟨i,u,rfl,e⟩|⟨y,u,rfl,e⟩
  ·exact nomatch e
  ·injection e with e1 _;subst e1;cases v <;> rfl
end L2
namespace L2
open PySem PySem.Spec PyProof.Rows
inductive V where
 |non|bl (b:Bool)|int (i:Int)|str (x:Str)|byt (b:Array UInt8)|flt (b:UInt64)|ref (a:ae)|ty (n:String)
 deriving DecidableEq
def RelV:V->ag->Prop
 |.non,u=>u=ig
 |.bl b,u=>u=ii b
 |.int i,u=>∃t,u=dJ i t
 |.str x,u=>∃t,u=fN x t
 |.byt b,u=>∃t,u=kF b t
 |.flt b,u=>∃t,u=kG b t
 |.ref a,u=>u=bq a
 |.ty n,u=>u=ij n
abbrev Vals:List V->List ag->Prop:=Paired RelV
def Vals.length{xs:List V}{us:List ag}(r:Vals xs us):xs.length=us.length:=jC r
def Vals.get:∀{xs:List V} {us:List ag} {i:Nat} {x:V},Vals xs us->xs[i]? =aa x->∃u,us[i]? =aa u/\RelV x u
 | _,_,_,_,.nil,e=>by simp at e
 | _,_,0,_,.cons r _,e=>by simp at e;subst e;exact⟨_,rfl,r⟩
 | _,_,i+1,x,.cons _ t,e=>by
  obtain⟨u,h1,h2⟩:=Vals.get (i:=i) (x:=x) t (by simpa using e);exact⟨u,by simpa using h1,h2⟩
def Vals.set{x:V}{u:ag}(r:RelV x u):∀{xs:List V} {us:List ag} (i:Nat),Vals xs us->Vals (xs.set i x) (us.set i u)
 | _,_,_,.nil=>.nil
 | _,_,0,.cons _ t=>.cons r t
 | _,_,i+1,.cons q t=>.cons q (Vals.set r i t)
def Vals.append:∀{xs ys:List V} {us ws:List ag},Vals xs us->Vals ys ws->Vals (xs++ys) (us++ws)
 | _,_,_,_,.nil,s=>s
 | _,_,_,_,.cons r t,s=>.cons r (Vals.append t s)
def Vals.take:∀{xs:List V} {us:List ag} (n:Nat),Vals xs us->Vals (xs.take n) (us.take n)
 | _,_,0,_=>.nil
 | _,_,_+1,.nil=>.nil
 | _,_,n+1,.cons r t=>.cons r (Vals.take n t)
def Vals.drop:∀{xs:List V} {us:List ag} (n:Nat),Vals xs us->Vals (xs.drop n) (us.drop n)
 | _,_,0,r=>r
 | _,_,_+1,.nil=>.nil
 | _,_,n+1,.cons _ t=>Vals.drop n t
def Vals.none_of:∀{xs:List V} {us:List ag} {i:Nat},Vals xs us->xs[i]? =ab->us[i]? =ab:=fun {xs us i} r e=>by
 have h1:=r.length;have h2:xs.length<=i:=gc.mp e;exact gc.mpr (by lia)
def RelO:Option V->Option ag->Prop
 |some v,aa u=>RelV v u
 |none,ab=>True
 | _,_=>False
def KV{κ:Type}:List (κ×V)->List (κ×ag)->Prop:=Paired λ(p:κ×V) (q:κ×ag)=>p.1=q.1/\RelV p.2 q.2
def kV:Key->V
 |.inl i=>.int i
 |.inr x=>.str x
inductive HO where
  |lst (xs:List V)
  |tup (xs:List V)
  |dK (kvs:List (Key×V))|dT (kvs:List (List Key×V))
  |set (S:Int->Bool) (n:Nat)
  |ins (C dx:ae) (fs:List (Str×V))
  |own (x:ae)
  |xd (fs:List (Str×V))
  |met (f x:ae)
  |rng (lo hi:Int)
  |frz (o:Obj) (u:HO)
  |tbl (ps:Array ag)
  |ext (φ:aV->Prop)
abbrev Hp:=ae->Option HO
def upd(H:Hp)(a:ae)(o:HO):Hp:=λb=>if b=a then aa o else H b
def zaj{H:Hp}{a:ae}{o:HO}:upd H a o a=aa o:=by unfold upd;rw[if_pos rfl]
def zai{H:Hp}{a b:ae}{o:HO}(h:b≠a):upd H a o b=H b:=by unfold upd;rw[if_neg h]
def upd_upd{H:Hp}{a:ae}{o u:HO}:upd (upd H a o) a u=upd H a u:=by
 funext b;unfold upd;split <;> rfl
def zaB{H:Hp}{a b:ae}{o:HO}(h:H a=aa o)(h':H b=ab):a≠b:=by
 intro e;subst e;rw[h]at h';cases h'
section
variable (P:aI)(w:aO)
def TupN(h:aV)(a:ae)(ts:Array ag):Prop:=∃o,h.get? a=aa o/\o.cls=.type "tuple" /\ ∃n,(o.data,o.dict)=(li ts n,ab)
def TupN.is{h:aV}{a:ae}{ts:Array ag}(x:TupN h a ts):IsTup h a ts:=let⟨o,e,c,n,d⟩:=x;⟨o,e,c,n,(Prod.mk.inj d).1⟩
def TupN.lt{h:aV}{a:ae}{ts:Array ag}(x:TupN h a ts):a<h.objs.size:=x.is.lt
def TupN.new(h:aV)(ts:Array ag):TupN (h.push { cls:=.type "tuple",data:=.seq ts}) h.objs.size ts:=⟨_,aT _ rfl,rfl,0,rfl⟩
instance {h:aV}{a:ae}{ts:Array ag}:Coe (TupN h a ts) (IsTup h a ts):=⟨TupN.is⟩
def ObjOk(H:Hp)(h:aV)(a:ae):HO->Prop
 |.lst xs=>xs.length<=bj/\∃(its:List ag) (n:Nat),Vals xs its/\h.get? a=aa { cls:=.type "list",data:=.seq its.toArray n}
 |.tup xs=>xs.length<=bj/\∃its:List ag,Vals xs its/\TupN h a its.toArray
 |.dK kvs=>kvs.length<=bj/\(a==sysModules)=false/\∃vs,KV kvs vs/\h.DictOf (zbo P w) a vs
 | .dT kvs=>kvs.length<=bj/\(a == sysModules)=false/\∃ xs:List (List Key × ae × ag),
   Paired (λ(p:List Key×V) (q:List Key×ae×ag)=>p.1=q.1/\H q.2.1=aa (.tup (p.1.map kV))/\RelV p.2 q.2.2) kvs xs /\
   ∃o es ep,h.get? a=aa o/\o.ExactDict/\o.data=.dict es ep/\es.toList=xs.map (entryOfKey (tupleKind (zbo P w)))/\(xs.map (·.1)).Nodup
 |.set S n=>h.SetOf (intKind P w) a S n
 | .ins C dx fs=>H dx=aa (.own a)/\fs.length<=1000/\dx ≠ a/\h.get? a=aa (c6 C dx) /\
   ∃mA,h.Ns1 dx mA/\(∀f,RelO (fs.lookup f) (mA f))/\iM mA (fs.map (·.1))
 |.own _=>∃o,h.get? a=aa o
 |.xd fs=>∃mA,h.Ns1 a mA/\∀f,RelO (fs.lookup f) (mA f)
 |.rng lo hi=>∃t u v,h.get? a=aa { cls:=.type "range",data:=.fields #[.int lo t,.int hi u,.int 1 v]}
 |.frz o u=>h.get? a=aa o/\ObjOk H h a u
 |.tbl ps=>h.get? a=aa { cls:=.none,data:=.fields ps}
 |.met f x=>h.get? a=aa (f7 (.ref f) (.ref x))
 |.ext φ=>φ h/\(∃o,h.get? a=aa o)/\∀h1 h2:aV,φ h1->(∀o,h1.get? a=aa o->h2.get? a=aa o)->φ h2
def HOk(H:Hp)(h:aV):Prop:=∀a o,H a=aa o->ObjOk P w H h a o
end
section
variable {P:aI}{w:aO}{H H':Hp}{h h':aV}{a:ae}{o:HO}
def ObjOk.lt(x:ObjOk P w H h a o):a<h.objs.size:=by
 cases o with
 |lst xs=>obtain⟨_,_,_,_,e⟩:=x;exact aN e
 |tup xs=>obtain⟨_,_,_,p⟩:=x;exact p.lt
 |dK kvs=>obtain⟨_,_,_,_,o,_,_,e,_⟩:=x;exact aN e
 |dT kvs=>obtain⟨_,_,_,_,o,_,_,e,_⟩:=x;exact aN e
 |set S n=>obtain⟨o,_,_,_,e,_⟩:=x;exact aN e
 |ins C dx fs=>obtain⟨_,_,_,e,_⟩:=x;exact aN e
 |own y=>obtain⟨_,e⟩:=x;exact aN e
 |xd fs=>obtain⟨_,⟨_,_,_,e,_⟩,_⟩:=x;exact aN e
 |rng lo hi=>obtain⟨_,_,_,e⟩:=x;exact aN e
 |frz ob u=>obtain⟨e,_⟩:=x;exact aN e
 |tbl ps=>exact aN (show h.get? a=aa _ from x)
 |met f y=>exact aN (show h.get? a=aa _ from x)
 |ext φ=>obtain⟨_,⟨_,e⟩,_⟩:=x;exact aN e
def Paired.mapP{α β:Type}{F G:α->β->Prop}:∀{l₁:List α} {l₂:List β},Paired F l₁ l₂->(∀a b,F a b->G a b)->Paired G l₁ l₂
 | _,_,.nil,_=>.nil
 | _,_,.cons r t,f=>.cons (f _ _ r) (Paired.mapP t f)
def ObjOk.stay(x:ObjOk P w H h a o)(k:∀b u,(b=a\/H b=aa (.own a))->h.get? b=aa u->h'.get? b=aa u)
  (ho:∀b,H b=aa (.own a)->H' b=aa (.own a)) (ht:∀b xs,H b=aa (.tup xs)->H' b=aa (.tup xs)):ObjOk P w H' h' a o:=by
 induction o with
 |lst xs=>obtain⟨z,its,n,r,e⟩:=x;exact⟨z,its,n,r,k _ _ (.inl rfl) e⟩
 |tup xs=>obtain⟨z,its,r,ob,e,c⟩:=x;exact⟨z,its,r,ob,k _ _ (.inl rfl) e,c⟩
 |dK kvs=>obtain⟨z,y,vs,r,ob,es,ep,e,c⟩:=x;exact⟨z,y,vs,r,ob,es,ep,k _ _ (.inl rfl) e,c⟩
 |dT kvs=>
  obtain⟨z,y,xs,r,ob,es,ep,e,c⟩:=x;exact⟨z,y,xs,Paired.mapP r λp q z=>⟨z.1,ht _ _ z.2.1,z.2.2⟩,ob,es,ep,k _ _ (.inl rfl) e,c⟩
 |set S n=>obtain⟨ob,es,ep,t,e,c⟩:=x;exact⟨ob,es,ep,t,k _ _ (.inl rfl) e,c⟩
 |ins C dx fs=>
  obtain⟨d,z,ne,e,mA,⟨od,es,ep,e2,c⟩,r⟩:=x;exact⟨ho _ d,z,ne,k _ _ (.inl rfl) e,mA,⟨od,es,ep,k _ _ (.inr d) e2,c⟩,r⟩
 |own y=>obtain⟨ob,e⟩:=x;exact⟨ob,k _ _ (.inl rfl) e⟩
 |xd fs=>obtain⟨mA,⟨od,es,ep,e,c⟩,r⟩:=x;exact⟨mA,⟨od,es,ep,k _ _ (.inl rfl) e,c⟩,r⟩
 |rng lo hi=>obtain⟨t,u,v,e⟩:=x;exact⟨t,u,v,k _ _ (.inl rfl) e⟩
 |frz ob u ih=>obtain⟨e,q⟩:=x;exact⟨k _ _ (.inl rfl) e,ih q⟩
 |tbl ps=>
  have e:h.get? a=aa { cls:=.none,data:=.fields ps}:=x;show h'.get? a=aa { cls:=.none,data:=.fields ps};exact k a _ (.inl rfl) e
 |met f y=>
  have e:h.get? a=aa (f7 (.ref f) (.ref y)):=x;show h'.get? a=aa (f7 (.ref f) (.ref y));exact k a _ (.inl rfl) e
 |ext φ=>obtain⟨p,⟨o,e⟩,st⟩:=x;exact⟨st _ _ p λo q=>k _ _ (.inl rfl) q,⟨o,k _ _ (.inl rfl) e⟩,st⟩
def HOk.lt(x:HOk P w H h)(e:H a=aa o):a<h.objs.size:=(x a o e).lt
def HOk.fresh(x:HOk P w H h)(e:h.objs.size<=a):H a=ab:=by
 cases q:H a with
 |none=>rfl
 |some u=>exact absurd (aP (x.lt q) e) (cA _)
def HOk.kept(x:HOk P w H h)(k:∀b u,h.get? b=aa u->h'.get? b=aa u):HOk P w H h':=λa o e=>
 (x a o e).stay (λb u _ q=>k b u q) (λ_ q=>q) λ_ _ q=>q
def HOk.laid(x:HOk P w H h)(k:∀b u,h.get? b=aa u->h'.get? b=aa u)(hp:h.objs.size<=a)(new:ObjOk P w (upd H a o) h' a o):HOk P w (upd H a o) h':=λb u e=>by
 have hn:=x.fresh hp;by_cases hb:b=a
 ·subst hb;rw[zaj]at e;cases e;exact new
 ·rw[zai hb]at e;exact(x b u e).stay (λc v _ q=>k c v q) (λc q=>by rw[zai (zaB q hn)];exact q) λc xs q=>by rw[zai (zaB q hn)];exact q
end
def Rd(H:Hp)(a:ae)(u:HO):Prop:=H a=aa u\/∃o,H a=aa (.frz o u)
def Rd.of{H:Hp}{a:ae}{u:HO}(h:H a=aa u):Rd H a u:=.inl h
def Rd.ok{P:aI}{w:aO}{H:Hp}{h:aV}{a:ae}{u:HO}(r:Rd H a u)(x:HOk P w H h):ObjOk P w H h a u:=by
 rcases r with r|⟨o,r⟩
 ·exact x a u r
 ·obtain⟨_,q⟩:=x a _ r;exact q
def Mut:Option HO->Prop
 |some (.lst _)=>True
 |some (.dK _)=>True
 |some (.dT _)=>True
 |some (.set _ _)=>True
 |some (.ins _ _ _)=>True
 |some (.ext _)=>True
 | _=>False
section
variable {P:aI}{w:aO}{H:Hp}{h h':aV}{x e:ae}{o':HO}
def HOk.write(ok:HOk P w H h)(mu:Mut (H x))(he:e=x\/H e=aa (.own x))(k:∀b u,b≠e->h.get? b=aa u->h'.get? b=aa u)(heo:∃u,h'.get? e=aa u)
  (new:ObjOk P w (upd H x o') h' x o'):HOk P w (upd H x o') h':=λb u q=>by
 have nown:∀c y,H c=aa (.own y)->c≠x:=λc y r z=>by subst z;rw[r]at mu;exact mu
 have ntup:∀c xs,H c=aa (.tup xs)->c≠x:=λc xs r z=>by subst z;rw[r]at mu;exact mu
 by_cases hb:b=x
 ·subst hb;rw[zaj]at q;cases q;exact new
 ·rw[zai hb]at q;by_cases hbe:b=e
  ·have q':H b=aa (.own x):=by
    rcases he with z|z
    ·exact absurd (hbe.trans z) hb
    ·rw[hbe];exact z
   rw[q]at q';cases q';obtain⟨v,hv⟩:=heo;exact⟨v,by rw[hbe];exact hv⟩
  ·refine(ok b u q).stay (λc v hc r=>k c v ?_ r) (λc r=>by rw[zai (nown c b r)];exact r) λc xs r=>by rw[zai (ntup c xs r)];exact r
   rcases hc with rfl|hc
   ·exact hbe
   ·rintro rfl;rcases he with z|z
    ·exact nown c b hc z
    ·rw[hc]at z;cases z;exact hb rfl
end
structure Un(fs ex:List ae)(H H':Hp)(h h':aV):Prop where
 keep:∀b o,h.get? b=aa o->H b=ab->b∉fs->b∉ex->h'.get? b=aa o
 slot:∀b o,h.get? b=aa o->H b=ab->b∈fs->b∉ex->∃sl,h'.get? b=aa { o with slots:=sl}
 free:∀b o,h.get? b=aa o->H b=ab->b∉ex->H' b=ab
 there:∀b o,h.get? b=aa o->b∉ex->∃o',h'.get? b=aa o'
 tups:∀b xs,H b=aa (.tup xs)->H' b=aa (.tup xs)
 frzs:∀b o u,H b=aa (.frz o u)->H' b=aa (.frz o u)
 tbls:∀b ps,H b=aa (.tbl ps)->∃more,H' b=aa (.tbl (ps++more))
section
variable {fs fs' ex ex':List ae}{H H1 H2:Hp}{h h1 h2 h':aV}{a x e:ae}{o:HO}
def Un.any(u:Un fs ex H H1 h h1){b:ae}{ob:Obj}(q:h.get? b=aa ob)(n:H b=ab)(hx:b∉ex):∃sl,h1.get? b=aa { ob with slots:=sl}:=by
 by_cases hb:b∈fs
 ·exact u.slot b ob q n hb hx
 ·exact⟨ob.slots,u.keep b ob q n hb hx⟩
def Un.kept(k:∀b u,h.get? b=aa u->h'.get? b=aa u):Un fs ex H H h h':=
 ⟨λb ob q _ _ _=>k b ob q,λb ob q _ _ _=>⟨ob.slots,k b ob q⟩,λ_ _ _ n _=>n,λb ob q _=>⟨ob,k b ob q⟩,λ_ _ q=>q,λ_ _ _ q=>q,λ_ ps q=>⟨#[],by rw[q];simp⟩⟩
def Un.refl:Un fs ex H H h h:=Un.kept λ_ _ q=>q
def Un.laid(k:∀b u,h.get? b=aa u->h'.get? b=aa u)(hp:h.objs.size<=a)(hn:H a=ab):Un fs ex H (upd H a o) h h' where
 keep:=λb u q _ _ _=>k b u q
 slot:=λb u q _ _ _=>⟨u.slots,k b u q⟩
 free:=λb u q n _=>by rw[zai (bz (aP (aN q) hp))];exact n
 there:=λb u q _=>⟨u,k b u q⟩
 tups:=λb xs q=>by rw[zai (zaB q hn)];exact q
 frzs:=λb u xs q=>by rw[zai (zaB q hn)];exact q
 tbls:=λb ps q=>⟨#[],by rw[zai (zaB q hn),q];simp⟩
def Un.write(mu:Mut (H x))(he:e=x\/H e=aa (.own x))(k:∀b u,b≠e->h.get? b=aa u->h'.get? b=aa u)(heo:∃u,h'.get? e=aa u):Un fs ex H (upd H x o) h h':=by
 have hx:∀b,H b=ab->b≠x:=λb n z=>by subst z;rw[n]at mu;exact mu
 have hb:∀b,H b=ab->b≠e:=λb n z=>by
  subst z;rcases he with r|r
  ·exact hx b n r
  ·rw[n]at r;cases r
 have hm:∀b u,H b=aa u->¬ Mut (aa u)->b≠x:=λb u q nm z=>by subst z;rw[q]at mu;exact nm mu
 refine⟨λb u q n _ _=>k b u (hb b n) q,λb u q n _ _=>⟨u.slots,k b u (hb b n) q⟩,λb u q n _=>by rw[zai (hx b n)];exact n,λb u q _=>?_,
  λb xs q=>by rw[zai (hm b _ q λz=>z)];exact q,λb u xs q=>by rw[zai (hm b _ q λz=>z)];exact q,λb ps q=>⟨#[],by rw[zai (hm b _ q λz=>z),q];simp⟩⟩
 by_cases hbe:b=e
 ·subst hbe;exact heo
 ·exact⟨u,k b u hbe q⟩
end
def trk(h:aV)(H:Hp):List ae:=(aq h.objs.size).filter λa=>(H a).isSome
def hidT(h:aV)(H:Hp):aV:=PySem.W.hideAll h (trk h H)
def hidT_size(h:aV)(H:Hp):(hidT h H).objs.size=h.objs.size:=PySem.W.hideAll_size _ _
def hidT_get{h:aV}{H:Hp}{b:ae}{o:Obj}(e:h.get? b=aa o)(n:H b=ab):(hidT h H).get? b=aa o:=
 PySem.W.hideAll_get _ e λhm=>by
  have q:(H b).isSome=true:=(dq.mp hm).2;rw[n]at q;simp at q
def of_hidT{h:aV}{H:Hp}{b:ae}{o:Obj}(e:(hidT h H).get? b=aa o):h.get? b=aa o/\H b=ab:=by
 have e':h.get? b=aa o:=PySem.W.of_hideAll (trk h H) e;refine⟨e',?_⟩;cases q:H b with
 |none=>rfl
 |some x=>
  have hm:b∈trk h H:=dq.mpr ⟨bZ.mpr (aN e'),by simp[q]⟩;have z:(hidT h H).get? b=ab:=PySem.W.hideAll_none (trk h H) hm;rw[z]at e;cases e
def allNews(g h:aV)(L:ae):List (ae×Obj):=(aq h.objs.size).filterMap λa=>if a=L\/(g.get? a).isSome=true then ab else (h.get? a).map λo=>(a,o)
def rest(g h:aV)(L d:ae):List (ae×Obj):=(allNews g h L).filter λp=>decide (p.1≠d)
end L2
namespace L2
open PySem PySem.Spec PyProof.Rows
structure Mod(K:af)(mg:Str->Option ag)(base:aV):Prop where
 kin:K.In base
 glob:base.Ns a9 mg
 blt:∃mb,base.Ns builtinsNs mb/\∀x:Str,x≠ "__name__" -> mb x=bO x
 nolimit:base.NoLimit
structure Cx where
 prog:aI
 w:aO
 K:af
 mg:Str->Option ag
 base:aV
 A:aW
 N:List Str
 s₀:ai
 H₀:Hp
 env:Env
 outer:List Env
 stack:List Env
 ex:List ae
 fn:Str->Bool
 calm:Bool
 pn:List (ae×Obj)
 xe:ag->ai->Prop
def frs(l:List Env):List ae:=l.filterMap (·.frame)
abbrev Cx.fs(X:Cx):List ae:=frs X.outer
def Vis(sc:Scope)(x:Str):Prop:=sc.names.lookup x=aa .local\/sc.names.lookup x=aa .cell\/sc.names.lookup x=aa .free
def Loc(sc:Scope)(x:Str):Prop:=sc.names.lookup x=aa .local\/sc.names.lookup x=aa .cell
def Look(env:Env)(h:aV)(m:Str->Option ag)(x:Str)(u:ag):Prop:=
 (env.kindOf x=aa .local/\m x=aa u)\/((env.kindOf x=aa .cell\/env.kindOf x=aa .free)/\∃c,env.cells.lookup x=aa c/\h.IsCell c (aa u))
structure Cx.Ok(X:Cx):Prop where
 mod:Mod X.K X.mg X.base
 kind:X.env.scope.kind=.function
 glob:X.env.globals=a9
 blt:X.env.builtins=builtinsNs
 above:X.s₀.heap.objs.size<=X.env.locals
 inj:∀x y c,X.env.cells.lookup x=aa c->X.env.cells.lookup y=aa c->x=y
 has:∀x,(X.env.kindOf x=aa .cell\/X.env.kindOf x=aa .free)->∃c,X.env.cells.lookup x=aa c
 cab:∀x c,X.fn x=true->X.env.cells.lookup x=aa c->X.s₀.heap.objs.size<=c
 hd:X.calm=true->X.A.handled=ab
 frames:X.A.frames=aa X.stack
 stk:X.stack=X.outer\/(X.stack=X.env::X.outer/\X.env.frame=aa X.env.locals)
 exf:∀b∈X.ex,b≠X.env.locals/\∀x c,X.env.cells.lookup x=aa c->c≠b
 bs:∀b o,X.base.get? b=aa o->X.s₀.heap.get? b=aa o/\X.H₀ b=ab
 bsz:X.base.objs.size<=X.s₀.heap.objs.size
 noex:∀b o,X.base.get? b=aa o->b∉X.ex
 exfs:∀b∈X.ex,b∉X.fs
 funs:X.s₀.heap.FunFrames X.base X.outer
 frf:∀b∈X.fs,X.H₀ b=ab
structure Inv(X:Cx)(pins:List (ae×Obj))(σ:List (Option V))(H:Hp)(s:ai):Prop where
 ok:X.Ok
 os:s.os=X.s₀.os
 bare:AllBare s.gens
 base:Un X.fs X.ex X.H₀ H X.s₀.heap s.heap
 loc:∃m,s.heap.Ns X.env.locals m/\∀(i:Nat) (x:Str) (v:V),X.N[i]? =aa x->σ[i]? =aa (aa v)->Vis X.env.scope x->∃u,RelV v u/\Look X.env s.heap m x u
 cell:∀x c,X.env.cells.lookup x=aa c->∃v,s.heap.IsCell c v
 free:H X.env.locals=ab
 freeC:∀x c,X.env.cells.lookup x=aa c->H c=ab
 pin:∀p∈X.pn++pins,s.heap.get? p.1=aa p.2/\H p.1=ab/\p.1≠X.env.locals/\p.1∉X.fs/\∀v,p.2.data≠.cell v
 hok:HOk X.prog X.w H s.heap
 len:σ.length=X.N.length
section
variable {X:Cx}{pins:List (ae×Obj)}{σ:List (Option V)}{H H':Hp}{s:ai}{h':aV}
def Cx.Ok.nofr(ok:X.Ok){b:ae}{o:Obj}(e:X.base.get? b=aa o):b∉X.fs:=λhb=>by
 have:=(ok.funs.mem hb).1;rw[e]at this;cases this
def Inv.bs(I:Inv X pins σ H s):∀b o,X.base.get? b=aa o->s.heap.get? b=aa o/\H b=ab:=λb o e=>
 ⟨I.base.keep b o (I.ok.bs b o e).1 (I.ok.bs b o e).2 (I.ok.nofr e) (I.ok.noex b o e),I.base.free b o (I.ok.bs b o e).1 (I.ok.bs b o e).2 (I.ok.noex b o e)⟩
def Inv.bk(I:Inv X pins σ H s):∀b o,X.base.get? b=aa o->s.heap.get? b=aa o:=λb o e=>(I.bs b o e).1
def Inv.mod(I:Inv X pins σ H s):Mod X.K X.mg X.base:=I.ok.mod
def Inv.kIn(I:Inv X pins σ H s):X.K.In s.heap:=I.ok.mod.kin.keeps I.bk
def Inv.lt(I:Inv X pins σ H s):X.env.locals<s.heap.objs.size:=let⟨_,hn,_⟩:=I.loc;hn.lt
def Inv.sz(I:Inv X pins σ H s):X.s₀.heap.objs.size<=s.heap.objs.size:=aH I.ok.above (bB I.lt)
def Inv.nofs(I:Inv X pins σ H s){a:ae}(h:s.heap.objs.size<=a):a∉X.fs:=λhb=>by
 obtain⟨_,o,ho,_⟩:=I.ok.funs.mem hb;exact absurd (aP (aN ho) (aH I.sz h)) (cA _)
def Inv.cne(I:Inv X pins σ H s):∀x c,X.env.cells.lookup x=aa c->c≠X.env.locals:=λx c e z=>by
 obtain⟨v,o,ho,hd⟩:=I.cell x c e;obtain⟨m,⟨o',es,ep,ho',hd',_⟩,_⟩:=I.loc;rw[z,ho']at ho;cases ho;rw[hd']at hd;cases hd
def Inv.funs(I:Inv X pins σ H s):s.heap.FunFrames X.base X.outer:=by
 have all:∀(l:List Env),(∀b∈frs l,b∈X.fs)->X.s₀.heap.FunFrames X.base l->s.heap.FunFrames X.base l:=by
  intro l
  induction l with
  |nil=>intro _ _;trivial
  |cons env r ih=>
   intro hs hl;obtain⟨hk,⟨L,o,hf,hn,ho,hd⟩,hr⟩:=hl;have hL:L∈X.fs:=hs L (by unfold frs;rw[fK,hf];exact aj);obtain⟨sl,e⟩:=I.base.slot L o ho (I.ok.frf L hL) hL λz=>I.ok.exfs L z hL;exact⟨hk,⟨L,_,hf,hn,e,hd⟩,ih (λb hb=>hs b (by unfold frs;rw[fK,hf];exact ah _ hb)) hr⟩
 exact all X.outer (λ_ hb=>hb) I.ok.funs
def Inv.stack(I:Inv X pins σ H s):s.heap.FunFrames X.base X.stack:=by
 rcases I.ok.stk with e|⟨e,hf⟩
 ·rw[e];exact I.funs
 ·rw[e];obtain⟨m,hn,_⟩:=I.loc;refine .cons (by rw[I.ok.kind];decide) hf hn ?_ I.funs;exact Heap.get?_none_of_le (aH I.ok.bsz I.ok.above)
def Inv.stkSub(I:Inv X pins σ H s):∀b∈frs X.stack,b∈X.env.locals::X.fs:=λb hb=>by
 rcases I.ok.stk with e|⟨e,hf⟩
 ·rw[e]at hb;exact ah _ hb
 ·rw[e]at hb;unfold frs at hb;rw[fK,hf]at hb;exact hb
def Inv.stkFree(I:Inv X pins σ H s):∀b∈frs X.stack,H b=ab:=λb hb=>by
 rcases aE.mp (I.stkSub b hb)with e|hb
 ·rw[e];exact I.free
 ·obtain⟨_,o,ho,_⟩:=I.ok.funs.mem hb;exact I.base.free b o ho (I.ok.frf b hb) λz=>I.ok.exfs b z hb
def Inv.step{g':Array GenState}{t':Nat}{d':Drawn}{ch:List ae}(I:Inv X pins σ H s)
  (hch:∀b∈ch,(b∈X.ex\/X.s₀.heap.objs.size<=b)/\b≠X.env.locals/\(∀x c,X.env.cells.lookup x=aa c->c≠b)/\∀p∈X.pn++pins,p.1≠b)
  (keep:∀b o,b≠X.env.locals->b∉X.fs->b∉ch->s.heap.get? b=aa o->H b=ab->h'.get? b=aa o)
  (slot:∀b o,b≠X.env.locals->b∈X.fs->b∉ch->s.heap.get? b=aa o->H b=ab->∃sl,h'.get? b=aa { o with slots:=sl}) (free:∀b o,b∉ch->s.heap.get? b=aa o->H b=ab->H' b=ab)
  (there:∀b o,b∉ch->s.heap.get? b=aa o->∃o',h'.get? b=aa o')
  (tups:∀b xs,H b=aa (.tup xs)->H' b=aa (.tup xs)) (frzs:∀b o u,H b=aa (.frz o u)->H' b=aa (.frz o u)) (tbls:∀b ps,H b=aa (.tbl ps)->∃more,H' b=aa (.tbl (ps++more)))
  (ns:∀m,s.heap.Ns X.env.locals m->h'.Ns X.env.locals m) (hok:HOk X.prog X.w H' h') (hg:AllBare g') :
  Inv X pins σ H' { s with heap:=h',gens:=g',drawn:=d',toks:=t'}:=by
 have neL:∀b o,X.s₀.heap.get? b=aa o->b≠X.env.locals:=λb o e=>bz (aP (aN e) I.ok.above);have neC:∀b o,X.s₀.heap.get? b=aa o->b∉X.ex->b∉ch:=λb o e hx hb=>by
  rcases (hch b hb).1 with z|z
  ·exact hx z
  ·exact absurd (aP (aN e) z) (cA _)
 have cellK:∀x c,X.env.cells.lookup x=aa c->∀v,s.heap.IsCell c v->h'.IsCell c v:=λx c e v ⟨o,ho,hd⟩=>by
  have nch:c∉ch:=λz=>(hch c z).2.2.1 x c e rfl;by_cases hc:c∈X.fs
  ·obtain⟨sl,q⟩:=slot c o (I.cne x c e) hc nch ho (I.freeC x c e);exact⟨_,q,hd⟩
  ·exact⟨o,keep c o (I.cne x c e) hc nch ho (I.freeC x c e),hd⟩
 refine⟨I.ok,I.os,hg,⟨λb o e n hb hx=>?_,λb o e n hb hx=>?_,λb o e n hx=>?_,λb o e hx=>?_,λb xs e=>tups b xs (I.base.tups b xs e),λb o xs e=>frzs b o xs (I.base.frzs b o xs e),λb ps e=>?_⟩,?_,λx c e=>?_,?_,λx c e=>?_,λp hp=>?_,hok,I.len⟩
 ·exact keep b o (neL b o e) hb (neC b o e hx) (I.base.keep b o e n hb hx) (I.base.free b o e n hx)
 ·obtain⟨sl,e1⟩:=I.base.slot b o e n hb hx;obtain⟨sl',e2⟩:=slot b _ (neL b o e) hb (neC b o e hx) e1 (I.base.free b o e n hx);exact⟨sl',e2⟩
 ·obtain⟨o',e1⟩:=I.base.there b o e hx;exact free b o' (neC b o e hx) e1 (I.base.free b o e n hx)
 ·obtain⟨o',e1⟩:=I.base.there b o e hx;exact there b o' (neC b o e hx) e1
 ·obtain⟨m1,e1⟩:=I.base.tbls b ps e;obtain⟨m2,e2⟩:=tbls b _ e1;exact⟨m1++m2,by rw[e2,Array.append_assoc]⟩
 ·obtain⟨m,hn,hl⟩:=I.loc;refine⟨m,ns m hn,λi x v e1 e2 e3=>?_⟩;obtain⟨u,r,l⟩:=hl i x v e1 e2 e3;refine⟨u,r,?_⟩;rcases l with l|⟨k,c,e,z⟩
  ·exact .inl l
  ·exact .inr ⟨k,c,e,cellK x c e _ z⟩
 ·obtain⟨v,z⟩:=I.cell x c e;exact⟨v,cellK x c e v z⟩
 ·obtain⟨m,⟨o,_,_,ho,_⟩,_⟩:=I.loc;exact free _ o (λz=>(hch _ z).2.1 rfl) ho I.free
 ·obtain⟨v,o,ho,hd⟩:=I.cell x c e;exact free c o (λz=>(hch c z).2.2.1 x c e rfl) ho (I.freeC x c e)
 ·obtain⟨e,n,ne,nf,d⟩:=I.pin p hp;have nch:p.1∉ch:=λz=>(hch p.1 z).2.2.2 p hp rfl;exact⟨keep p.1 p.2 ne nf nch e n,free p.1 p.2 nch e n,ne,nf,d⟩
def Inv.un{t':Nat}(I:Inv X pins σ H s)(u:Un X.fs [] H H' s.heap h')(hok:HOk X.prog X.w H' h'):Inv X pins σ H' { s with heap:=h',toks:=t'}:=by
 obtain⟨m,⟨o,es,ep,ho,r⟩,_⟩:=id I.loc;obtain⟨sl,hL⟩:=u.any ho I.free (by simp);exact I.step (g':=s.gens) (d':=s.drawn) (ch:=[]) (λ_ z=>nomatch z) (λb o _ hb _ e n=>u.keep b o e n hb (by simp)) (λb o _ hb _ e n=>u.slot b o e n hb (by simp)) (λb o _ e n=>u.free b o e n (by simp)) (λb o _ e=>u.there b o e (by simp)) u.tups u.frzs u.tbls (λm' hm=>by
  obtain⟨o',es',ep',ho',r'⟩:=hm;rw[ho]at ho';cases ho';exact⟨_,es',ep',hL,r'⟩) hok I.bare
def Inv.call{g':Array GenState}{t':Nat}{d':Drawn}{ch:List ae}(I:Inv X pins σ H s)(u:Un (frs X.stack) ch H H' s.heap h')(hok:HOk X.prog X.w H' h')(hg:AllBare g')
  (hch:∀b∈ch,(b∈X.ex\/X.s₀.heap.objs.size<=b)/\b≠X.env.locals/\(∀x c,X.env.cells.lookup x=aa c->c≠b)/\∀p∈X.pn++pins,p.1≠b) :
  Inv X pins σ H' { s with heap:=h',gens:=g',drawn:=d',toks:=t'}:=by
 obtain⟨m,⟨o,es,ep,ho,r⟩,_⟩:=id I.loc;obtain⟨sl,hL⟩:=u.any ho I.free λz=>(hch _ z).2.1 rfl;exact I.step (ch:=ch) hch (λb o hL hb hc e n=>u.keep b o e n (λz=>(aE.mp (I.stkSub b z)).elim hL hb) hc) (λb o _ _ hc e n=>u.any e n hc) (λb o hc e n=>u.free b o e n hc) (λb o hc e=>u.there b o e hc) u.tups u.frzs u.tbls (λm' hm=>by
  obtain⟨o',es',ep',ho',r'⟩:=hm;rw[ho]at ho';cases ho';exact⟨_,es',ep',hL,r'⟩) hok hg
def Inv.turned{t':Nat}{it:ae}(I:Inv X pins σ H s)(k:∀b o,b≠it->s.heap.get? b=aa o->h'.get? b=aa o)(hn:H it=ab)(hL:it≠X.env.locals)
  (h1:it∈X.ex\/X.s₀.heap.objs.size<=it) (h2:∀x c,X.env.cells.lookup x=aa c->c≠it) (h3:∀p∈X.pn++pins,p.1≠it):Inv X pins σ H { s with heap:=h',toks:=t'}:=by
 have nit:∀b u,H b=aa u->b≠it:=λb u e z=>by rw[z,hn]at e;cases e
 refine I.step (g':=s.gens) (d':=s.drawn) (ch:=[it]) (λb hb=>?_) (λb o _ _ hc e _=>k b o (λz=>hc (by simp[z])) e) (λb o _ _ hc e _=>⟨o.slots,k b o (λz=>hc (by simp[z])) e⟩) (λ_ _ _ _ n=>n)
  (λb o hc e=>⟨o,k b o (λz=>hc (by simp[z])) e⟩) (λ_ _ e=>e) (λ_ _ _ e=>e) (λb ps e=>⟨#[],by rw[e];simp⟩) (λm hm=>?_) (λb u e=>?_) I.bare
 ·have e:b=it:=by simpa using hb
  subst e;exact⟨h1,hL,h2,h3⟩
 ·obtain⟨o,es,ep,ho,r⟩:=hm;exact⟨o,es,ep,k _ o (cP hL) ho,r⟩
 ·refine(I.hok b u e).stay (λc v hc q=>k c v ?_ q) (λ_ q=>q) λ_ _ q=>q;rcases hc with z|z
  ·rw[z];exact nit b u e
  ·exact nit c _ z
def Inv.tok(I:Inv X pins σ H s)(t:Nat):Inv X pins σ H { s with toks:=t}:=I.un (h':=s.heap) (t':=t) Un.refl I.hok
def Inv.kept{t':Nat}(I:Inv X pins σ H s)(k:∀b u,s.heap.get? b=aa u->h'.get? b=aa u):Inv X pins σ H { s with heap:=h',toks:=t'}:=I.un (Un.kept k) (I.hok.kept k)
def Inv.laid{a:ae}{o:HO}{t':Nat}(I:Inv X pins σ H s)(k:∀b u,s.heap.get? b=aa u->h'.get? b=aa u)(hp:s.heap.objs.size<=a)(new:ObjOk X.prog X.w (upd H a o) h' a o) :
  Inv X pins σ (upd H a o) { s with heap:=h',toks:=t'}:=I.un (Un.laid k hp (I.hok.fresh hp)) (I.hok.laid k hp new)
def Inv.write{x e:ae}{o:HO}{t':Nat}(I:Inv X pins σ H s)(mu:Mut (H x))(he:e=x\/H e=aa (.own x))(k:∀b u,b≠e->s.heap.get? b=aa u->h'.get? b=aa u)(heo:∃u,h'.get? e=aa u)
  (new:ObjOk X.prog X.w (upd H x o) h' x o):Inv X pins σ (upd H x o) { s with heap:=h',toks:=t'}:=I.un (Un.write mu he k heo) (I.hok.write mu he k heo new)
def Inv.pins_of{pins':List (ae×Obj)}(I:Inv X pins σ H s)(h:∀p∈pins',s.heap.get? p.1=aa p.2/\H p.1=ab/\p.1≠X.env.locals/\p.1∉X.fs/\∀v,p.2.data≠.cell v):Inv X pins' σ H s:=
 ⟨I.ok,I.os,I.bare,I.base,I.loc,I.cell,I.free,I.freeC,λp hp=>(aQ.mp hp).elim (λz=>I.pin p (aX _ z)) (h p),I.hok,I.len⟩
def zi7{N:List Str}(hN:N.Nodup){i j:Nat}{x:Str}(a:N[i]? =aa x)(b:N[j]? =aa x):i=j:=by
 obtain⟨h1,e1⟩:=bo.mp a;obtain⟨h2,e2⟩:=bo.mp b;exact(List.getElem_inj hN).mp (e1.trans e2.symm)
def zh4{M:Model}{A:aW}{E:ag->ai->Prop}{i:Nat}{x:Str}{v:V}{u:ag}{Q:Unit->ai->Prop}(I:Inv X pins σ H s)(hN:X.N.Nodup)(hi:X.N[i]? =aa x)(hx:Loc X.env.scope x)(r:RelV v u)
  (h:∀s',Inv X pins (σ.set i (aa v)) H s'->(∃a,gj a s.heap s'.heap/\(a=X.env.locals\/X.env.cells.lookup x=aa a))->Q () s') (hf:X.fn x=true\/X.env.scope.names.lookup x=aa .local:=by first|exact .inl rfl|exact .inr rfl|assumption):aM M A (storeName X.env x u) Q E s:=by
 obtain⟨m,hn,hl⟩:=id I.loc;have hcls:(X.env.scope.kind == .class || (X.env.scope.kind == .module&&X.env.locals != X.env.globals))=false:=by rw[I.ok.kind];rfl
 have hiσ:i<σ.length:=by rw[I.len];exact(bo.mp hi).1
 have cne:=I.cne;have tracked:∀{a:ae} {h':aV},(∃o,s.heap.get? a=aa o/\H a=ab)->gj a s.heap h'->HOk X.prog X.w H h':=fun {a h'} ha hs b ob e=>by
  obtain⟨_,_,hfree⟩:=ha;refine(I.hok b ob e).stay (λc w' hc q=>(hs.2 c ?_).trans q) (λ_ q=>q) λ_ _ q=>q;rintro rfl;rcases hc with rfl|hc
  ·rw[hfree]at e;cases e
  ·rw[hfree]at hc;cases hc
 rcases hx with hk|hk
 ·refine wpAny_storeName_local hk hn (λh' hn' hs=>?_) hcls;obtain⟨oL,_,_,hoL,_⟩:=id hn;refine h _ ⟨I.ok,I.os,I.bare,⟨λb o e n hb hx=>?_,λb o e n hb hx=>?_,I.base.free,λb o e hx=>?_,I.base.tups,I.base.frzs,I.base.tbls⟩,⟨_,hn',λj y v' e1 e2 e3=>?_⟩,λy c e=>?_,I.free,I.freeC,λp hp=>?_,tracked ⟨oL,hoL,I.free⟩ hs,by simpa using I.len⟩ ⟨_,hs,.inl rfl⟩
  ·exact(hs.2 b (bz (aP (aN e) I.ok.above))).trans (I.base.keep b o e n hb hx)
  ·obtain⟨sl,e1⟩:=I.base.slot b o e n hb hx;exact⟨sl,(hs.2 b (bz (aP (aN e) I.ok.above))).trans e1⟩
  ·obtain⟨o',e1⟩:=I.base.there b o e hx;exact⟨o',(hs.2 b (bz (aP (aN e) I.ok.above))).trans e1⟩
  ·by_cases hj:j=i
   ·subst hj;rw[hi]at e1;cases e1;rw[cQ hiσ]at e2;cases e2;exact⟨u,r,.inl ⟨hk,by simp⟩⟩
   ·rw[c7 (cP hj)]at e2;obtain⟨u',r',q⟩:=hl j y v' e1 e2 e3;refine⟨u',r',?_⟩;rcases q with ⟨k,e⟩|⟨k,c,e,z⟩
    ·refine .inl ⟨k,?_⟩;have:y≠x:=λe=>hj (zi7 hN e1 (e ▸ hi));simp[this,e]
    ·exact .inr ⟨k,c,e,z.sameBut hs (cne y c e)⟩
  ·obtain⟨w',z⟩:=I.cell y c e;exact⟨w',z.sameBut hs (cne y c e)⟩
  ·obtain⟨e,n,ne,nf,d⟩:=I.pin p hp;exact⟨(hs.2 p.1 ne).trans e,n,ne,nf,d⟩
 ·have hfn:X.fn x=true:=by
   rcases hf with z|z
   ·exact z
   ·rw[z]at hk;cases hk
  obtain⟨c,hc⟩:=I.ok.has x (.inl hk);obtain⟨w',z⟩:=I.cell x c hc;refine wpAny_storeName_cell I.ok.kind hk hc z (λh' hc' hs=>?_);obtain⟨oc,hoc,hocd⟩:=id z;refine h { s with heap:=h'} ⟨I.ok,I.os,I.bare,⟨λb o e n hb hx=>?_,λb o e n hb hx=>?_,I.base.free,λb o e hx=>?_,I.base.tups,I.base.frzs,I.base.tbls⟩,⟨m,hn.sameBut hs (cP (cne x c hc)),λj y v' e1 e2 e3=>?_⟩,λy c' e=>?_,I.free,I.freeC,λp hp=>?_,tracked ⟨oc,hoc,I.freeC x c hc⟩ hs,by simpa using I.len⟩ ⟨c,hs,.inr hc⟩
  ·exact(hs.2 b (bz (aP (aN e) (I.ok.cab x c hfn hc)))).trans (I.base.keep b o e n hb hx)
  ·obtain⟨sl,e1⟩:=I.base.slot b o e n hb hx;exact⟨sl,(hs.2 b (bz (aP (aN e) (I.ok.cab x c hfn hc)))).trans e1⟩
  ·obtain⟨o',e1⟩:=I.base.there b o e hx;exact⟨o',(hs.2 b (bz (aP (aN e) (I.ok.cab x c hfn hc)))).trans e1⟩
  ·by_cases hj:j=i
   ·subst hj;rw[hi]at e1;cases e1;rw[cQ hiσ]at e2;cases e2;exact⟨u,r,.inr ⟨.inl hk,c,hc,hc'⟩⟩
   ·rw[c7 (cP hj)]at e2;obtain⟨u',r',q⟩:=hl j y v' e1 e2 e3;refine⟨u',r',?_⟩;rcases q with q|⟨k,c',e,z'⟩
    ·exact .inl q
    ·refine .inr ⟨k,c',e,z'.sameBut hs ?_⟩;rintro rfl;exact hj (zi7 hN e1 (I.ok.inj _ _ _ e hc ▸ hi))
  ·by_cases hcc:c'=c
   ·subst hcc;exact⟨_,hc'⟩
   ·obtain⟨w2,z2⟩:=I.cell y c' e;exact⟨w2,z2.sameBut hs hcc⟩
  ·obtain⟨e,n,ne,nf,d⟩:=I.pin p hp;refine⟨(hs.2 p.1 ?_).trans e,n,ne,nf,d⟩;intro q;rw[q,hoc]at e;have q':oc=p.2:=aJ e;exact d w' (by rw[<- q'];exact hocd)
def zgB{M:Model}{A:aW}{E:ag->ai->Prop}{i:Nat}{x:Str}{v:V}{u:ag}{Q:Unit->ai->Prop}(I:Inv X pins σ H s)(hN:X.N.Nodup)(hi:X.N[i]? =aa x)(hx:Loc X.env.scope x)(r:RelV v u)
  (h:∀s',Inv X pins (σ.set i (aa v)) H s'->Q () s') (hf:X.fn x=true\/X.env.scope.names.lookup x=aa .local:=by first|exact .inl rfl|exact .inr rfl|assumption):aM M A (storeName X.env x u) Q E s:=
 zh4 I hN hi hx r (λs' I' _=>h s' I') hf
def Inv.call'{s':ai}{ch:List ae}(I:Inv X pins σ H s)(ho:s'.os=s.os)(u:Un (frs X.stack) ch H H' s.heap s'.heap)(hok:HOk X.prog X.w H' s'.heap)(hg:AllBare s'.gens)
  (hch:∀b∈ch,(b∈X.ex\/X.s₀.heap.objs.size<=b)/\b≠X.env.locals/\(∀x c,X.env.cells.lookup x=aa c->c≠b)/\∀p∈X.pn++pins,p.1≠b):Inv X pins σ H' s':=by
 obtain⟨h',g',d',t',o'⟩:=s';have e:o'=s.os:=ho;subst e;exact I.call (g':=g') (t':=t') (d':=d') u hok hg hch
end
abbrev XK:=ag->Option ae->Hp->Prop
abbrev St:=List (Option V)
abbrev VK:=V->Hp->Prop
abbrev TE:=St->Hp->VK->Prop
abbrev TT:=St->Hp->(Bool->Hp->Prop)->Prop
abbrev TA:=St->Hp->(List V->Hp->Prop)->Prop
structure Ends where
 nx:St->Hp->Prop
 rt:VK
 bk:St->Hp->Prop:=λ_ _=>False
 ct:St->Hp->Prop:=λ_ _=>False
abbrev TS:=Ends->St->Hp->Prop
inductive EP(X:Cx)(pins:List (ae×Obj))(σ:St)(Q:VK)(u:ag)(s':ai):Prop
 |mk (v:V) (H':Hp):Inv X pins σ H' s'->RelV v u->Q v H'->EP X pins σ Q u s'
inductive TP(X:Cx)(pins:List (ae×Obj))(σ:St)(Q:Bool->Hp->Prop)(b:Bool)(s':ai):Prop
 |mk (H':Hp):Inv X pins σ H' s'->Q b H'->TP X pins σ Q b s'
inductive AP(X:Cx)(pins:List (ae×Obj))(σ:St)(Q:List V->Hp->Prop)(us:List ag)(s':ai):Prop
 |mk (vs:List V) (H':Hp):Inv X pins σ H' s'->Vals vs us->Q vs H'->AP X pins σ Q us s'
inductive NP(X:Cx)(pins:List (ae×Obj))(N:St->Hp->Prop)(z:ai):Prop
 |mk (a:St) (b:Hp):Inv X pins a b z->N a b->NP X pins N z
inductive RP(X:Cx)(pins:List (ae×Obj))(Q:VK)(u:ag)(z:ai):Prop
 |mk (v:V) (a:St) (b:Hp):Inv X pins a b z->RelV v u->Q v b->RP X pins Q u z
def SP(X:Cx)(pins:List (ae×Obj))(D:Ends)(f:Flow)(s':ai):Prop:=
 match f with
 |.next=>NP X pins D.nx s'
 |.brk=>NP X pins D.bk s'
 |.cont=>NP X pins D.ct s'
 |.ret u=>RP X pins D.rt u s'
def PE(X:Cx)(e:Expr)(t:TE):Prop:=
 ∀(pins:List (ae×Obj)) (s:ai) (σ:St) (H:Hp) (Q:VK),Inv X pins σ H s->t σ H Q->aM (model X.prog X.w) X.A (eval e X.env) (EP X pins σ Q) X.xe s
def PT(X:Cx)(e:Expr)(t:TT):Prop:=
 ∀(pins:List (ae×Obj)) (s:ai) (σ:St) (H:Hp) (Q:Bool->Hp->Prop),Inv X pins σ H s->t σ H Q->aM (model X.prog X.w) X.A (isTrue e X.env (eval e X.env)) (TP X pins σ Q) X.xe s
def PW(X:Cx)(e:Expr)(t:TT):Prop:=
 ∀(whole:Sem ag) (pins:List (ae×Obj)) (s:ai) (σ:St) (H:Hp) (Q:Bool->Hp->Prop),Inv X pins σ H s->t σ H Q->aM (model X.prog X.w) X.A (isTrue e X.env whole) (TP X pins σ Q) X.xe s
def PW.pt{X:Cx}{e:Expr}{t:TT}(h:PW X e t):PT X e t:=h _
def PA(X:Cx)(es:List Expr)(t:TA):Prop:=
 ∀(pos:Pos) (pins:List (ae×Obj)) (s:ai) (σ:St) (H:Hp) (Q:List V->Hp->Prop),Inv X pins σ H s->t σ H Q->aM (model X.prog X.w) X.A (spliced (backTo pos (br es X.env))) (AP X pins σ Q) X.xe s
def PS(X:Cx)(st:Stmt)(t:TS):Prop:=
 ∀(pins:List (ae×Obj)) (s:ai) (σ:St) (H:Hp) (D:Ends),Inv X pins σ H s->t D σ H->aM (model X.prog X.w) X.A (exec st X.env) (SP X pins D) X.xe s
def PSs(X:Cx)(st:List Stmt)(t:TS):Prop:=
 ∀(pins:List (ae×Obj)) (s:ai) (σ:St) (H:Hp) (D:Ends),Inv X pins σ H s->t D σ H->aM (model X.prog X.w) X.A (execs st X.env) (SP X pins D) X.xe s
def thn{α:Type}{t:Sem α}{Q Q':α->ai->Prop}{M:Model}{A:aW}{E:ag->ai->Prop}{s:ai}(h:aM M A t Q E s)(hQ:∀a s,Q a s->Q' a s):aM M A t Q' E s:=bX h hQ λ_ _ x=>x
end L2
namespace L2
open PySem PySem.Spec PyProof.Rows
section
variable {X:Cx}
def zd1(i:Nat):TE:=λσ H Q=>∃v,σ[i]? =aa (aa v)/\Q v H
def tC(v:V):TE:=λ_ H Q=>Q v H
def pe_var{i:Nat}{x:Str}{pos:Pos}(hN:X.N[i]? =aa x)(hv:Vis X.env.scope x)(hd:(x==("__debug__" : Str))=false:=by decide)(hcd:(x==("__classdict__" : Str))=false:=by decide):PE X (.Name x pos) (zd1 i):=by
 intro pins s σ H Q I h;obtain⟨v,e,h⟩:=h;obtain⟨m,hn,hl⟩:=I.loc;obtain⟨u,r,l⟩:=hl i x v hN e hv;have fin:EP X pins σ Q u s:=⟨v,H,I,r,h⟩
 rcases l with ⟨hk,hm⟩|⟨hk,c,hc,hcell⟩
 ·exact wpAny_Name (wpAny_loadName_local I.ok.kind hk hn hm fin) hd
 ·rcases hk with hk|hk
  ·exact wpAny_Name (wpAny_loadName_cell I.ok.kind hk hc hcell fin) hd
  ·exact wpAny_Name (wpAny_loadName_free I.ok.kind hk hc hcell fin hcd) hd
def pe_int{i j pos}:PE X (.Constant (.int i) j pos) (tC (.int i)):=λ_ _ _ H _ I h=>wpAny_Constant_int ⟨.int i,H,I.tok _,⟨_,rfl⟩,h⟩
def pe_bl{b j pos}:PE X (.Constant (.bool b) j pos) (tC (.bl b)):=λ_ _ _ H _ I h=>Constant_bool ⟨.bl b,H,I,rfl,h⟩
def pe_non{j pos}:PE X (.Constant .none j pos) (tC .non):=λ_ _ _ H _ I h=>Constant_none ⟨.non,H,I,rfl,h⟩
def pe_str{x j pos}:PE X (.Constant (.str x) j pos) (tC (.str x)):=λ_ _ _ H _ I h=>Calls.Constant_str ⟨.str x,H,I.tok _,⟨_,rfl⟩,h⟩
def Gl(X:Cx)(x:Str):Prop:=X.env.kindOf x=aa .globalImplicit
def zgO{E:ag->ai->Prop}{pins:List (ae×Obj)}{s:ai}{σ:St}{H:Hp}{x:Str}{u:ag}{pos:Pos}{Q:ag->ai->Prop}(I:Inv X pins σ H s)(hg:Gl X x)(hm:X.mg x=aa u)(h:Q u s)
  (hd:(x==("__debug__" : Str))=false:=by decide):aM (model X.prog X.w) X.A (eval (.Name x pos) X.env) Q E s:=
 fV I.ok.kind hg (Calls.loadGlobal_global (by rw[I.ok.glob];exact I.mod.glob.keeps I.bk) hm h) hd
def zhQ{E:ag->ai->Prop}{pins:List (ae×Obj)}{s:ai}{σ:St}{H:Hp}{x:Str}{u:ag}{pos:Pos}{Q:ag->ai->Prop}(I:Inv X pins σ H s)(hg:Gl X x)(hm:X.mg x=ab)(hv:bO x=aa u)(h:Q u s)
  (hn:x≠ "__name__" :=by decide) (hd:(x==("__debug__" : Str))=false:=by decide):aM (model X.prog X.w) X.A (eval (.Name x pos) X.env) Q E s:=by
 obtain⟨mb,h1,h2⟩:=I.mod.blt;exact fV I.ok.kind hg (Calls.loadGlobal_builtin (by rw[I.ok.glob];exact I.mod.glob.keeps I.bk) hm (by rw[I.ok.blt];exact h1.keeps I.bk) ((h2 x hn).trans hv) h) hd
def pe_glob{x:Str}{v:V}{u:ag}{pos:Pos}(hg:Gl X x)(hm:X.mg x=aa u)(r:RelV v u)(hd:(x==("__debug__" : Str))=false:=by decide):PE X (.Name x pos) (tC v):=
 λ_ _ _ H _ I h=>zgO I hg hm ⟨v,H,I,r,h⟩ hd
variable {a b:Expr}{ta tb:TE}{pos:Pos}
def tB(t:TE):TT:=λσ H Q=>t σ H λx H1=>∃c,x=.bl c/\Q c H1
def pt_val{e:Expr}{t:TE}(h:PE X e t)(he:∀whole,isTrue e X.env whole=(do let v <- whole;standAt e.pos;holding [v] (truthy v)):=by intro _;rfl):PT X e (tB t):=by
 intro pins s σ H Q I hw;refine isTrue_plain (thn (h pins s σ H _ I hw) ?_) (he _);rintro v s1 ⟨x,H1,I1,r1,q1⟩;obtain⟨d,rfl,q⟩:=q1;cases r1;exact wpAny_truthy_bool ⟨H1,I1,q⟩
variable {tA tB':TT}{rest:List Expr}
def tAnd(t u:TT):TT:=λσ H Q=>t σ H λc H1=>if c=true then u σ H1 Q else Q false H1
def tOr(t u:TT):TT:=λσ H Q=>t σ H λc H1=>if c=true then Q true H1 else u σ H1 Q
def tNot(t:TT):TT:=λσ H Q=>t σ H λc H1=>Q (!c) H1
def pw_and1(ha:PT X a tA):PW X (.BoolOp .And [a] pos) tA:=by
 intro wh pins s σ H Q I h;refine isTrue_and (thn (ha pins s σ H Q I h) λc s1 e=>?_);cases c with
 |true=>exact isTrue_and_nil e
 |false=>exact e
def pw_or1(ha:PT X a tA):PW X (.BoolOp .Or [a] pos) tA:=by
 intro wh pins s σ H Q I h;refine isTrue_or (thn (ha pins s σ H Q I h) λc s1 e=>?_);cases c with
 |false=>exact isTrue_or_nil e
 |true=>exact e
def pw_and(ha:PT X a tA)(hb:PW X (.BoolOp .And (b::rest) pos) tB'):PW X (.BoolOp .And (a::b::rest) pos) (tAnd tA tB'):=by
 intro wh pins s σ H Q I h;refine isTrue_and (thn (ha pins s σ H _ I h) ?_);rintro c s1 ⟨H1,I1,q1⟩;cases c with
 |true=>exact hb wh pins s1 σ H1 Q I1 q1
 |false=>exact⟨H1,I1,q1⟩
def pw_or(ha:PT X a tA)(hb:PW X (.BoolOp .Or (b::rest) pos) tB'):PW X (.BoolOp .Or (a::b::rest) pos) (tOr tA tB'):=by
 intro wh pins s σ H Q I h;refine isTrue_or (thn (ha pins s σ H _ I h) ?_);rintro c s1 ⟨H1,I1,q1⟩;cases c with
 |true=>exact⟨H1,I1,q1⟩
 |false=>exact hb wh pins s1 σ H1 Q I1 q1
def pt_not(ha:PT X a tA):PT X (.UnaryOp .Not a pos) (tNot tA):=by
 intro pins s σ H Q I h;exact isTrue_not (thn (ha pins s σ H (λc H1=>Q (!c) H1) I h) λ_ _ ⟨a,b,c⟩=>⟨a,b,c⟩)
def tAndV(ta tb:TE):TE:=λσ H Q=>ta σ H λx H1=>∃c,x=.bl c/\if c=true then tb σ H1 Q else Q (.bl false) H1
def pe_one{op}{t:TE}(h:PE X a t):PE X (.BoolOp op [a] pos) t:=λpins s σ H Q I hw=>BoolOp_one (h pins s σ H Q I hw)
def pe_and(ha:PE X a ta)(hb:PE X (.BoolOp .And (b::rest) pos) tb):PE X (.BoolOp .And (a::b::rest) pos) (tAndV ta tb):=by
 intro pins s σ H Q I h;refine BoolOp_and (thn (ha pins s σ H _ I h) ?_);rintro v s1 ⟨x,H1,I1,r1,q1⟩;obtain⟨c,rfl,q1⟩:=q1;cases r1;refine wpAny_truthy_bool ?_;cases c with
 |true=>exact hb pins s1 σ H1 Q I1 q1
 |false=>exact⟨.bl false,H1,I1,rfl,q1⟩
def tIf(t:TT)(ta tb:TE):TE:=λσ H Q=>t σ H λc H1=>if c=true then ta σ H1 Q else tb σ H1 Q
def pe_ifExp{c:Expr}(hc:PT X c tA)(ha:PE X a ta)(hb:PE X b tb):PE X (.IfExp c a b pos) (tIf tA ta tb):=by
 intro pins s σ H Q I h;refine wpAny_IfExp (thn (hc pins s σ H _ I h) ?_);rintro d s1 ⟨H1,I1,q1⟩;cases d with
 |true=>exact ha pins s1 σ H1 Q I1 q1
 |false=>exact hb pins s1 σ H1 Q I1 q1
end
end L2
namespace L2
open PySem PySem.Spec PyProof.Rows
def SqL(K:af)(H:Hp)(a:ae)(xs:List V):Prop:=
 Rd H a (.lst xs) \/
  ∃(o:Obj) (its:Array ag) (n:Nat),K.lookup a=aa o/\o.cls=.type "list" /\ o.dict=ab/\o.data=.seq its n/\its.size<=bj/\Vals xs its.toList
def SqT(K:af)(H:Hp)(a:ae)(xs:List V):Prop:=
 Rd H a (.tup xs) \/
  ∃(o:Obj) (its:Array ag) (n:Nat),K.lookup a=aa o/\o.cls=.type "tuple" /\ o.data=.seq its n/\its.size<=bj/\Vals xs its.toList
def absV:ag->Option V
 |.none=>aa .non
 |.bool b=>aa (.bl b)
 |.int i _=>aa (.int i)
 |.str x _=>aa (.str x)
 |.bytes b _=>aa (.byt b)
 |.float b _=>aa (.flt b)
 |.ref a=>aa (.ref a)
 |.type n=>aa (.ty n)
 | _=>ab
def RelV.abs{x:V}{u:ag}(r:RelV x u):absV u=aa x:=by
 cases x with
 |non=>cases r;rfl
 |bl _=>cases r;rfl
 |int _=>obtain⟨t,rfl⟩:=r;rfl
 |str _=>obtain⟨t,rfl⟩:=r;rfl
 |byt _=>obtain⟨t,rfl⟩:=r;rfl
 |flt _=>obtain⟨t,rfl⟩:=r;rfl
 |ref _=>cases r;rfl
 |ty _=>cases r;rfl
def RelV.inj{x y:V}{u:ag}(r:RelV x u)(q:RelV y u):x=y:=aJ (r.abs.symm.trans q.abs)
def Vals.inj:∀{xs ys:List V} {us:List ag},Vals xs us->Vals ys us->xs=ys
 | _,_,_,.nil,.nil=>rfl
 | _,_,_,.cons r t,.cons r' t'=>by rw[r.inj r',Vals.inj t t']
section
variable {X:Cx}{pins:List (ae×Obj)}{σ:St}{H:Hp}{s:ai}{a:ae}{xs ys:List V}
def SqL.of{K:af}(h:H a=aa (.lst xs)):SqL K H a xs:=.inl (.inl h)
def SqT.of{K:af}(h:H a=aa (.tup xs)):SqT K H a xs:=.inl (.inl h)
def Inv.list(I:Inv X pins σ H s)(h:SqL X.K H a xs):∃its:List ag,Vals xs its/\PlainL s.heap a its.toArray/\xs.length<=bj:=by
 rcases h with h|⟨o,its,n,hk,hc,hd,hs,hz,r⟩
 ·obtain⟨z,its,n,r,e⟩:=h.ok I.hok;exact⟨its,r,⟨_,n,e,rfl,rfl,rfl⟩,z⟩
 ·refine⟨its.toList,r,⟨o,n,I.kIn a o hk,hc,hd,by simpa using hs⟩,?_⟩;have e:=r.length;simp only[aF]at e;lia
def Inv.tuple(I:Inv X pins σ H s)(h:SqT X.K H a xs):∃its:List ag,Vals xs its/\IsTup s.heap a its.toArray/\xs.length<=bj:=by
 rcases h with h|⟨o,its,n,hk,hc,hs,hz,r⟩
 ·obtain⟨z,its,r,p⟩:=h.ok I.hok;exact⟨its,r,p,z⟩
 ·refine⟨its.toList,r,⟨o,I.kIn a o hk,hc,n,by simpa using hs⟩,?_⟩;have e:=r.length;simp only[aF]at e;lia
def Inv.list_inj(I:Inv X pins σ H s)(h:SqL X.K H a xs)(h':SqL X.K H a ys):xs=ys:=by
 obtain⟨its,r,⟨o,n,e,_,_,d⟩,_⟩:=I.list h;obtain⟨its',r',⟨o',n',e',_,_,d'⟩,_⟩:=I.list h';rw[e]at e';cases e';rw[d]at d';injection d' with d1 _;have:its=its':=by simpa using congrArg j0 d1
 subst this;exact r.inj r'
def Inv.tuple_inj(I:Inv X pins σ H s)(h:SqT X.K H a xs)(h':SqT X.K H a ys):xs=ys:=by
 obtain⟨its,r,⟨o,e,_,n,d⟩,_⟩:=I.tuple h;obtain⟨its',r',⟨o',e',_,n',d'⟩,_⟩:=I.tuple h';rw[e]at e';cases e';rw[d]at d';injection d' with d1 _;have:its=its':=by simpa using congrArg j0 d1
 subst this;exact r.inj r'
end
abbrev Cx.wish(X:Cx)(E:ag->ai->Prop):Cx:={ X with xe:=E}
abbrev Cx.nox(X:Cx):Cx:=X.wish λ_ _=>False
def Cx.Ok.wish{X:Cx}(ok:X.Ok)(E:ag->ai->Prop):(X.wish E).Ok:=
 ⟨ok.mod,ok.kind,ok.glob,ok.blt,ok.above,ok.inj,ok.has,ok.cab,ok.hd,ok.frames,ok.stk,ok.exf,ok.bs,ok.bsz,ok.noex,ok.exfs,ok.funs,ok.frf⟩
def Cx.Ok.unwish{X:Cx}{E:ag->ai->Prop}(ok:(X.wish E).Ok):X.Ok:=
 ⟨ok.mod,ok.kind,ok.glob,ok.blt,ok.above,ok.inj,ok.has,ok.cab,ok.hd,ok.frames,ok.stk,ok.exf,ok.bs,ok.bsz,ok.noex,ok.exfs,ok.funs,ok.frf⟩
section
variable {X:Cx}{pins:List (ae×Obj)}{σ:St}{H:Hp}{s:ai}{E:ag->ai->Prop}
def Inv.wish(I:Inv X pins σ H s)(E:ag->ai->Prop):Inv (X.wish E) pins σ H s:=⟨I.ok.wish E,I.os,I.bare,I.base,I.loc,I.cell,I.free,I.freeC,I.pin,I.hok,I.len⟩
def Inv.unwish(I:Inv (X.wish E) pins σ H s):Inv X pins σ H s:=⟨I.ok.unwish,I.os,I.bare,I.base,I.loc,I.cell,I.free,I.freeC,I.pin,I.hok,I.len⟩
def SP.unwish{D:Ends}{f:Flow}{s':ai}(h:SP (X.wish E) pins D f s'):SP X pins D f s':=by
 cases f with
 |next=>obtain⟨σ',H',I,q⟩:=h;exact⟨σ',H',I.unwish,q⟩
 |brk=>obtain⟨σ',H',I,q⟩:=h;exact⟨σ',H',I.unwish,q⟩
 |cont=>obtain⟨σ',H',I,q⟩:=h;exact⟨σ',H',I.unwish,q⟩
 |ret u=>obtain⟨v,σ',H',I,r,q⟩:=h;exact⟨v,σ',H',I.unwish,r,q⟩
def PE.nox{e:Expr}{t:TE}(h:PE X.nox e t):PE X e t:=λpins s σ H Q I hw=>
 bX (h pins s σ H Q (I.wish _) hw) (λ_ _ ⟨v,H',I',r,q⟩=>⟨v,H',I'.unwish,r,q⟩) λ_ _ z=>cg z
def PT.nox{e:Expr}{t:TT}(h:PT X.nox e t):PT X e t:=λpins s σ H Q I hw=>
 bX (h pins s σ H Q (I.wish _) hw) (λ_ _ ⟨H',I',q⟩=>⟨H',I'.unwish,q⟩) λ_ _ z=>cg z
def PSs.nox{st:List Stmt}{t:TS}(h:PSs X.nox st t):PSs X st t:=λpins s σ H D I hw=>
 bX (h pins s σ H D (I.wish _) hw) (λ_ _ q=>q.unwish) λ_ _ z=>cg z
end
section
variable {X:Cx}{st:Stmt}{rest:List Stmt}{t u:TS}{e:Expr}{te:TE}{pos:Pos}
def tNext:TS:=λD σ H=>D.nx σ H
def tSeq(t u:TS):TS:=λD σ H=>t { D with nx:=u D} σ H
def pss_nil:PSs X [] tNext:=λ_ _ σ H _ I h=>wpAny_execs_nil ⟨σ,H,I,h⟩
def pss_cons(h1:PS X st t)(h2:PSs X rest u):PSs X (st::rest) (tSeq t u):=by
 intro pins s σ H D I h;refine wpAny_execs_cons (thn (h1 pins s σ H { D with nx:=u D} I h) λf s1 q=>?_);cases f with
 |next=>
  obtain⟨σ',H',I',q⟩:=q;exact h2 pins s1 σ' H' D I' q
 |ret v=>exact q
 |brk=>exact q
 |cont=>exact q
def pss_one(h1:PS X st t):PSs X [st] t:=by
 intro pins s σ H D I h;refine wpAny_execs_cons (thn (h1 pins s σ H D I h) λf s1 q=>?_);cases f with
 |next=>exact wpAny_execs_nil q
 |ret v=>exact q
 |brk=>exact q
 |cont=>exact q
def Inv.quiet{pins:List (ae×Obj)}{σ:St}{H:Hp}{s:ai}(I:Inv X pins σ H s):interactive X.env=false:=by simp[interactive,I.ok.kind]
def tDrop(te:TE):TS:=λD σ H=>te σ H λ_ H1=>D.nx σ H1
def ps_expr(he:PE X e te)(hs:swapsWith e ab pos.line X.env=pure false:=by rfl):PS X (.Expr e pos) (tDrop te):=by
 intro pins s σ H D I h;exact wpAny_Expr_any (thn (he pins s σ H _ I h) λv s1 ⟨x,H1,I1,r1,q1⟩=>⟨σ,H1,I1,q1⟩) I.quiet hs
def tRet(te:TE):TS:=λD σ H=>te σ H D.rt
def ps_ret(he:PE X e te):PS X (.Return (aa e) pos) (tRet te):=by
 intro pins s σ H D I h;exact wpAny_Return_some (thn (he pins s σ H _ I h) λv s1 ⟨x,H1,I1,r1,q1⟩=>⟨x,σ,H1,I1,r1,q1⟩)
def tIfS(c:TT)(t u:TS):TS:=λD σ H=>c σ H λb H1=>if b=true then t D σ H1 else u D σ H1
def ps_if{c:Expr}{a b:List Stmt}{tc:TT}(hc:PT X c tc)(ha:PSs X a t)(hb:PSs X b u):PS X (.If c a b pos) (tIfS tc t u):=by
 intro pins s σ H D I h;refine wpAny_If (thn (hc pins s σ H _ I h) ?_);rintro d s1 ⟨H1,I1,q1⟩;cases d with
 |true=>exact ha pins s1 σ H1 D I1 q1
 |false=>exact hb pins s1 σ H1 D I1 q1
end
abbrev TG:=V->St->Hp->(St->Hp->Prop)->Prop
abbrev TGs:=List V->St->Hp->(St->Hp->Prop)->Prop
def PG(X:Cx)(target:Expr)(t:TG):Prop:=
 ∀(pins:List (ae×Obj)) (s:ai) (σ:St) (H:Hp) (v:V) (u:ag) (Q:St->Hp->Prop),Inv X pins σ H s->RelV v u->t v σ H Q ->
  aM (model X.prog X.w) X.A (assign target X.env u) (λ_ s'=>NP X pins Q s') X.xe s
def PGs(X:Cx)(ts:List Expr)(t:TGs):Prop:=
 ∀(pins:List (ae×Obj)) (s:ai) (σ:St) (H:Hp) (vs:List V) (us:List ag) (Q:St->Hp->Prop),Inv X pins σ H s->Vals vs us->t vs σ H Q ->
  aM (model X.prog X.w) X.A (assignInOrder ((cv ts X.env).map (·.2)) us) (λ_ s'=>NP X pins Q s') X.xe s
abbrev TSet:=V->V->V->Hp->(Hp->Prop)->Prop
def PSet(X:Cx)(t:TSet):Prop:=
 ∀(pins:List (ae×Obj)) (s:ai) (σ:St) (H:Hp) (o i v:V) (ov iv u:ag) (Q:Hp->Prop),Inv X pins σ H s->RelV o ov->RelV i iv->RelV v u->t o i v H Q ->
  aM (model X.prog X.w) X.A (setItem ov iv u) (λ_ s'=>∃H',Inv X pins σ H' s'/\Q H') X.xe s
section
variable {X:Cx}{pos:Pos}
def zdG(i:Nat):TG:=λv σ H Q=>Q (σ.set i (aa v)) H
def ziT{i:Nat}{x:Str}(hN:X.N.Nodup)(hi:X.N[i]? =aa x)(hx:Loc X.env.scope x)(hf:X.fn x=true\/X.env.scope.names.lookup x=aa .local:=by first|exact .inl rfl|exact .inr rfl|assumption):PG X (.Name x pos) (zdG i):=by
 intro pins s σ H v u Q I r h;exact wpAny_assign_Name (zgB I hN hi hx r (λs' I'=>⟨_,H,I',h⟩) hf)
def gNil:TGs:=λvs σ H Q=>vs=[]/\Q σ H
def gCons(t:TG)(u:TGs):TGs:=λvs σ H Q=>∃v r,vs=v::r/\t v σ H λσ' H'=>u r σ' H' Q
def pgs_nil:PGs X [] gNil:=by
 intro pins s σ H vs us Q I r h;obtain⟨e,h⟩:=h;subst e;cases r;exact assignInOrder_nil ⟨σ,H,I,h⟩
def zgA{e:Expr}{es:List Expr}{t:TG}{u:TGs}(h1:PG X e t)(h2:PGs X es u)
  (hs:(cv (e::es) X.env).map (·.2)=assign e X.env::(cv es X.env).map (·.2):=by rfl):PGs X (e::es) (gCons t u):=by
 intro pins s σ H vs us Q I r h;obtain⟨v,vr,e1,h⟩:=h;subst e1;cases r with
 |cons r rr=>
  rw[hs];refine assignInOrder_cons (thn (h1 pins s σ H _ _ _ I r h) ?_);rintro _ s1 ⟨σ1,H1,I1,q1⟩;exact h2 pins s1 σ1 H1 _ _ Q I1 rr q1
def gTup(K:af)(n:Nat)(t:TGs):TG:=λv σ H Q=>∃a xs,v=.ref a/\SqT K H a xs/\xs.length=n/\t xs σ H Q
def pg_tup{es:List Expr}{k:Nat}{t:TGs}{n:Nat}(hc:X.calm=true)(h:PGs X es t)
  (hn:(cv es X.env).length=n:=by rfl) (hst:(cv es X.env).findIdx? (·.1)=ab:=by rfl):PG X (.Tuple es k pos) (gTup X.K n t):=by
 intro pins s σ H v u Q I r hw;obtain⟨a,xs,e1,hq,hl,hw⟩:=hw;subst e1;cases r;obtain⟨its,rv,ht,hz⟩:=I.tuple hq;refine assign_Tuple_tuple (I.ok.hd hc) ht (by simp[hn,<- hl,rv.length]) hst λh' hx=>?_;have I1:Inv X pins σ H { s with heap:=h'}:=I.kept (t':=s.toks) λb o e=>hx b o (bz (aN e)) e;exact h pins _ σ H xs _ Q I1 (by simpa using rv) hw
def gSub(to ti:TE)(t:TSet):TG:=λv σ H Q=>to σ H λo H1=>ti σ H1 λi H2=>t o i v H2 λH3=>Q σ H3
def pg_sub{o i:Expr}{to ti:TE}{t:TSet}(ho:PE X o to)(hi:PE X i ti)(hs:PSet X t)
  (ha:∀ v,assign (.Subscript o i pos) X.env v=(do
   let ov <- holding [v] (eval o X.env);let iv <- holding [v,ov] (eval i X.env)
   standAt pos
   holding [v,ov,iv] (setItem ov iv v)
   release [v,ov,iv] []):=by intro _;rfl):PG X (.Subscript o i pos) (gSub to ti t):=by
 intro pins s σ H v u Q I r h;rw[ha];refine ay (dI (thn (ho pins s σ H _ I h) ?_));rintro ov s1 ⟨x,H1,I1,r1,q1⟩;refine ay (dI (thn (hi pins s1 σ H1 _ I1 q1) ?_));rintro iv s2 ⟨y,H2,I2,r2,q2⟩;refine ay (wpAny_standAt (ay (dI (thn (hs pins s2 σ H2 x y v ov iv u _ I2 r1 r2 r q2) ?_))));rintro _ s3 ⟨H3,I3,q3⟩;exact wpAny_release ⟨σ,H3,I3,q3⟩
def zgZ(te:TE)(g:TG):TS:=λD σ H=>te σ H λx H1=>g x σ H1 D.nx
def ps_asg{tg e:Expr}{te:TE}{g:TG}(he:PE X e te)(hg:PG X tg g)(hs:swapsWithSole [tg] e pos.line X.env=pure false:=by rfl)(hw:swappedStores [tg] e X.env=pure ab:=by rfl)
  (h1:(cv [tg] X.env).map (·.2)=[assign tg X.env]:=by rfl):PS X (.Assign [tg] e pos) (zgZ te g):=by
 intro pins s σ H D I h;refine wpAny_Assign_stores (thn (he pins s σ H _ I h) ?_) hs hw;rintro v s1 ⟨x,H1,I1,r1,q1⟩;rw[h1];exact thn (hg pins s1 σ H1 x v _ I1 r1 q1) λ_ s2 q=>q
def ps_set{i:Nat}{x:Str}{e:Expr}{te:TE}{pos':Pos}(hN:X.N.Nodup)(hi:X.N[i]? =aa x)(hx:Loc X.env.scope x)(he:PE X e te)(hs:swapsWith e (aa (.Name x pos')) pos.line X.env=pure false:=by rfl)(hf:X.fn x=true\/X.env.scope.names.lookup x=aa .local:=by first|exact .inl rfl|exact .inr rfl|assumption) :
  PS X (.Assign [.Name x pos'] e pos) (zgZ te (zdG i)):=by
 intro pins s σ H D I h;refine wpAny_Assign_Name (thn (he pins s σ H _ I h) ?_) hs;rintro v s1 ⟨y,H1,I1,r1,q1⟩;exact zgB I1 hN hi hx r1 (λs2 I2=>⟨_,H1,I2,q1⟩) hf
end
section
variable {X:Cx}{pos:Pos}
def zjh(c:TT)(tb:TS):TS:=λD σ H=>∃W:Nat->St->Hp->Prop,(∃m,W m σ H)/\∀m σ H,W m σ H ->
 c σ H λb H1=>if b=true then ∃N:St->Hp->Prop,(∀σ' H',N σ' H'->∃m',m'<m/\W m' σ' H')/\tb { D with nx:=N,ct:=N,bk:=D.nx} σ H1 else D.nx σ H1
def ps_while{c:Expr}{body:List Stmt}{tc:TT}{tb:TS}(hp:PassesOwn (model X.prog X.w) X.A X.env X.xe)(hc:PT X c tc)(hb:PSs X body tb):PS X (.While c body [] pos) (zjh tc tb):=by
 intro pins s σ H D I h;obtain⟨W,⟨m0,w0⟩,turn⟩:=h;refine wpAny_While (codeAny_whileLoop (λn s'=>∃σ' H',Inv X pins σ' H' s'/\W n σ' H') ?_ m0 ⟨σ,H,I,w0⟩);rintro n s1 ⟨σ1,H1,I1,w1⟩;refine wpAny_passesOwn hp (thn (hc pins s1 σ1 H1 _ I1 (turn n σ1 H1 w1)) ?_);rintro b s2 ⟨H2,I2,q2⟩;cases b with
 |true=>
  obtain⟨N,hN,q2⟩:=q2;rw[if_pos rfl];refine wpAny_passesOwn hp (thn (hb pins s2 σ1 H2 _ I2 q2) λf s3 q3=>?_);cases f with
  |next=>
   obtain⟨σ3,H3,I3,n3⟩:=q3;obtain⟨m',hm,w3⟩:=hN σ3 H3 n3;exact⟨m',hm,σ3,H3,I3,w3⟩
  |cont=>
   obtain⟨σ3,H3,I3,n3⟩:=q3;obtain⟨m',hm,w3⟩:=hN σ3 H3 n3;exact⟨m',hm,σ3,H3,I3,w3⟩
  |brk=>exact q3
  |ret v=>exact q3
 |false=>
  rw[if_neg aR];exact wpAny_execs_nil ⟨σ1,H2,I2,q2⟩
end
structure It where
 go:Nat->Hp->Prop
 yld:Nat->Hp->V->Hp->Prop
 stop:Nat->Hp->Prop
def zir(X:Cx)(pins:List (ae×Obj))(H:Hp)(b:ae):Prop:=
 H b=ab/\b≠X.env.locals/\b∉X.fs/\(b∈X.ex\/X.s₀.heap.objs.size<=b)/\(∀x c,X.env.cells.lookup x=aa c->c≠b)/\∀p∈X.pn++pins,p.1≠b
def Inv.fpOk{X:Cx}{pins:List (ae×Obj)}{σ:St}{H H':Hp}{s:ai}{b:ae}(I:Inv X pins σ H s)(hb:s.heap.objs.size<=b)(hn:H' b=ab):zir X pins H' b:=by
 refine⟨hn,iN (aP I.lt hb),I.nofs hb,.inr (aH I.sz hb),λx c e z=>?_,λp hp z=>?_⟩
 ·obtain⟨v,q⟩:=I.cell x c e;exact absurd (aP q.lt (by rw[z];exact hb)) (cA _)
 ·exact absurd (aP (aN (I.pin p hp).1) (by rw[z];exact hb)) (cA _)
structure Turn(P:aI)(w:aO)(K:af)(tg:Expr)(J:It)(fp:List ae)(it:ae)(tn:Nat->aV->Prop):Prop where
 mem:it∈fp
 obj:∀i h,tn i h->∀b∈fp,∃o,h.get? b=aa o/\∀v,o.data≠.cell v
 keep:∀i h h',tn i h->(∀b∈fp,∀o,h.get? b=aa o->h'.get? b=aa o)->tn i h'
 item:∀(X:Cx),X.prog=P->X.w=w->X.K=K->X.calm=true->∀(i:Nat) (pins:List (ae×Obj)) (s:ai) (σ:St) (H:Hp) (E:ag->ai->Prop),Inv X pins σ H s->(∀b∈fp,zir X pins H b)->tn i s.heap->J.go i H ->
  aM (model P w) X.A (pyNext (.ref it)) (λr s1=>∃u,r=aa u /\
   aM (model P w) X.A (letOwnedTupleGo tg (.ref it) u) (λ_ s2=>∃x H',Inv X pins σ H' s2/\RelV x u/\J.yld i H x H'/\tn (i+1) s2.heap/\∀b∈fp,H' b=ab) E s1) E s
 done:∀(X:Cx),X.prog=P->X.w=w->X.K=K->X.calm=true->∀(i:Nat) (pins:List (ae×Obj)) (s:ai) (σ:St) (H:Hp) (E:ag->ai->Prop),Inv X pins σ H s->(∀b∈fp,zir X pins H b)->tn i s.heap->J.stop i H ->
  aM (model P w) X.A (pyNext (.ref it)) (λr s1=>r=ab/\Inv X pins σ H s1) E s
 self:∀(A:aW) (i:Nat) (s:ai) (Q:ag->ai->Prop) (E:ag->ai->Prop),tn i s.heap->Q (.ref it) s->aM (model P w) A (pyIter (.ref it)) Q E s
abbrev TI:=St->Hp->(It->Hp->Prop)->Prop
def PIE(X:Cx)(pins:List (ae×Obj))(σ:St)(tg:Expr)(R:It->Hp->Prop)(itv:ag)(s2:ai):Prop:=
 ∃(it:ae) (fp:List ae) (tn:Nat->aV->Prop) (J:It) (H':Hp),itv=.ref it/\Inv X pins σ H' s2/\Turn X.prog X.w X.K tg J fp it tn/\tn 0 s2.heap/\(∀b∈fp,zir X pins H' b)/\R J H'
def PI(X:Cx)(tg iter:Expr)(wi:TI):Prop:=
 ∀(pins:List (ae×Obj)) (s:ai) (σ:St) (H:Hp) (R:It->Hp->Prop),Inv X pins σ H s->wi σ H R ->
  aM (model X.prog X.w) X.A (eval iter X.env) (λv s1=>aM (model X.prog X.w) X.A (pyIter v) (PIE X pins σ tg R) X.xe s1) X.xe s
def go_of{M:Model}{A:aW}{E:ag->ai->Prop}{s:ai}{tg:Expr}{it:ae}{u:ag}{o:Obj}{n:String}{vs:Array ag}{Q:Unit->ai->Prop}(ho:s.heap.get? it=aa o)(hc:o.cls=.type n)(hd:o.data=.fields vs)
    (hn:["enumerate","zip","dict_itemiterator","dict_reverseitemiterator","odict_iterator","itertools.zip_longest","itertools.pairwise"].contains n=false) (hQ:Q () s):aM M A (letOwnedTupleGo tg (.ref it) u) Q E s:=by
  unfold letOwnedTupleGo;cases tg <;> first
    |exact a8 hQ
    |(cases u <;> first
        |exact a8 hQ
        | (refine ay (wpAny_load ho ?_)
           rw[hc,hd];show aM M A (if (["enumerate","zip","dict_itemiterator","dict_reverseitemiterator","odict_iterator","itertools.zip_longest","itertools.pairwise"].contains n&&vs[0]? == aa (rawInt _))=true then _ else _) Q E s;rw[if_neg (by intro h;rw[hn,Bool.false_and]at h;cases h)];exact a8 hQ))
def Itl(K:af)(a:ae):It:=
 ⟨λi H=>∃xs x,SqL K H a xs/\xs[i]? =aa x,λi H x H'=>H'=H/\∀xs,SqL K H a xs->xs[i]? =aa x,λi H=>∃xs,SqL K H a xs/\xs.length<=i⟩
def Itt(K:af)(a:ae):It:=
 ⟨λi H=>∃xs x,SqT K H a xs/\xs[i]? =aa x,λi H x H'=>H'=H/\∀xs,SqT K H a xs->xs[i]? =aa x,λi H=>∃xs,SqT K H a xs/\xs.length<=i⟩
def Itr(lo:Int)(n:Nat):It:=⟨λi _=>i<n,λi H x H'=>H'=H/\x=.int (lo+i),λi _=>n<=i⟩
def zh7{P:aI}{w:aO}{K:af}{tg:Expr}(a it:ae):Turn P w K tg (Itl K a) [it] it (λi h=>h.IsListIter it a i) where
 mem:=by simp
 obj:=λi h st b hb=>by
  have e:b=it:=by simpa using hb
  subst e;obtain⟨o,e,c,d⟩:=st;exact⟨o,e,λv z=>by rw[d]at z;cases z⟩
 keep:=λi h h' st k=>st.at λo e=>k it (by simp) o e
 item:=by
  intro X hP hw hK hc i pins s σ H E I hf st hg;subst hP hw hK;obtain⟨xs,x,hq,hx⟩:=hg;obtain⟨its,rv,p,hz⟩:=I.list hq;obtain⟨u,hu,ru⟩:=rv.get hx;obtain⟨f0,f1,f2,f3,f4,f5⟩:=hf it (by simp);refine wpAny_pyNext_list_item st p.isList (x:=u) (by simpa using hu) λh' st' sb=>?_;have I1:Inv X pins σ H { s with heap:=h'}:=I.turned (t':=s.toks) (λb o hb e=>(sb.2 b hb).trans e) f0 f1 f3 f4 f5;obtain⟨o,e,c,d⟩:=id st';exact⟨u,rfl,go_of (s:={ s with heap:=h'}) e c d (by decide) ⟨x,H,I1,ru,⟨rfl,λys hy=>by rw[I.list_inj hy hq];exact hx⟩,st',λb hb=>(hf b hb).1⟩⟩
 done:=by
  intro X hP hw hK hc i pins s σ H E I hf st hg;subst hP hw hK;obtain⟨xs,hq,hx⟩:=hg;obtain⟨its,rv,p,hz⟩:=I.list hq;obtain⟨f0,f1,f2,f3,f4,f5⟩:=hf it (by simp);have hl:=rv.length;exact wpAny_pyNext_list_end (I.ok.hd hc) st p.isList (by simp;lia) λh' eb=>⟨rfl,I.turned (t':=s.toks) (λb o hb e=>eb b o hb e) f0 f1 f3 f4 f5⟩
 self:=λ_ _ _ _ _ st h=>wpAny_pyIter_listiter st h
def zgr{P:aI}{w:aO}{K:af}{tg:Expr}(a it:ae):Turn P w K tg (Itt K a) [it] it (λi h=>h.IsTupleIter it a i) where
 mem:=by simp
 obj:=λi h st b hb=>by
  have e:b=it:=by simpa using hb
  subst e;obtain⟨o,e,c,d⟩:=st;exact⟨o,e,λv z=>by rw[d]at z;cases z⟩
 keep:=λi h h' st k=>st.at λo e=>k it (by simp) o e
 item:=by
  intro X hP hw hK hc i pins s σ H E I hf st hg;subst hP hw hK;obtain⟨xs,x,hq,hx⟩:=hg;obtain⟨its,rv,p,hz⟩:=I.tuple hq;obtain⟨u,hu,ru⟩:=rv.get hx;obtain⟨f0,f1,f2,f3,f4,f5⟩:=hf it (by simp);refine wpAny_pyNext_tuple_item st (show s.heap.IsTuple a its.toArray from p) (x:=u) (by simpa using hu) λh' st' sb=>?_;have I1:Inv X pins σ H { s with heap:=h'}:=I.turned (t':=s.toks) (λb o hb e=>(sb.2 b hb).trans e) f0 f1 f3 f4 f5;obtain⟨o,e,c,d⟩:=id st';exact⟨u,rfl,go_of (s:={ s with heap:=h'}) e c d (by decide) ⟨x,H,I1,ru,⟨rfl,λys hy=>by rw[I.tuple_inj hy hq];exact hx⟩,st',λb hb=>(hf b hb).1⟩⟩
 done:=by
  intro X hP hw hK hc i pins s σ H E I hf st hg;subst hP hw hK;obtain⟨xs,hq,hx⟩:=hg;obtain⟨its,rv,p,hz⟩:=I.tuple hq;obtain⟨f0,f1,f2,f3,f4,f5⟩:=hf it (by simp);have hl:=rv.length;exact wpAny_pyNext_tuple_end (I.ok.hd hc) st (show s.heap.IsTuple a its.toArray from p) (by simp;lia) λh' eb=>⟨rfl,I.turned (t':=s.toks) (λb o hb e=>eb b o hb e) f0 f1 f3 f4 f5⟩
 self:=λ_ _ _ _ _ st h=>wpAny_pyIter_tupleiter st h
def zkc{P:aI}{w:aO}{K:af}{tg:Expr}(it:ae)(lo:Int)(n:Nat):Turn P w K tg (Itr lo n) [it] it (λi h=>IsRangeIter h it (lo+(i:Nat)*1) ((n:Int)-(i:Nat)) 1) where
 mem:=by simp
 obj:=λi h st b hb=>by
  have e:b=it:=by simpa using hb
  subst e;exact⟨_,st,λv z=>by
   have z':Data.fields _=Data.cell v:=z;cases z'⟩
 keep:=λi h h' st k=>k it (by simp) _ st
 item:=by
  intro X hP hw hK hc i pins s σ H E I hf st hg;subst hP hw hK;obtain⟨f0,f1,f2,f3,f4,f5⟩:=hf it (by simp);have W:=Walks.range (prog:=X.prog) (w:=X.w) (I.ok.hd hc) it lo 1 n;refine W.item i s _ _ hg st λv h' tk hv st' kk=>?_;obtain⟨t,rfl⟩:=hv;have I1:Inv X pins σ H { s with heap:=h',toks:=tk}:=I.turned (λb o hb e=>kk b o (by simpa using hb) e) f0 f1 f3 f4 f5;refine⟨_,rfl,go_of (s:={ s with heap:=h',toks:=tk}) (n:= "range_iterator") st' rfl rfl (by decide) ⟨.int (lo+i),H,I1,⟨t,?_⟩,⟨rfl,rfl⟩,st',λb hb=>(hf b hb).1⟩⟩;rw[Int.mul_one]
 done:=by
  intro X hP hw hK hc i pins s σ H E I hf st hg;subst hP hw hK;obtain⟨f0,f1,f2,f3,f4,f5⟩:=hf it (by simp);exact wpAny_pyNext_range_end (I.ok.hd hc) st (by have:n<=i:=hg;lia) λh' eb=>⟨rfl,I.turned (t':=s.toks) (λb o hb e=>eb b o hb e) f0 f1 f3 f4 f5⟩
 self:=λ_ _ _ _ _ st h=>wpAny_pyIter_rangeiter st h
end L2
namespace L2
open PySem PySem.Spec PyProof.Rows
section
variable {X:Cx}{tg:Expr}
def iList(K:af)(tl:TE):TI:=λσ H R=>tl σ H λx H1=>∃a,x=.ref a/\(∃xs,SqL K H1 a xs)/\R (Itl K a) H1
def iTup(K:af)(tl:TE):TI:=λσ H R=>tl σ H λx H1=>∃a,x=.ref a/\(∃xs,SqT K H1 a xs)/\R (Itt K a) H1
def pi_list{l:Expr}{tl:TE}(hl:PE X l tl):PI X tg l (iList X.K tl):=by
 intro pins s σ H R I h;refine thn (hl pins s σ H _ I h) ?_;rintro v s1 ⟨x,H1,I1,r1,q1⟩;obtain⟨a,e,⟨xs,hq⟩,q⟩:=q1;subst e;cases r1;obtain⟨its,rv,p,hz⟩:=I1.list hq;refine wpAny_pyIter_list p.isList ?_;refine⟨s1.heap.objs.size,[s1.heap.objs.size],_,_,H1,rfl,I1.kept (t':=s1.toks) λb o e=>ax _ e,zh7 a _,⟨_,aT _ rfl,rfl,rfl⟩,λb hb=>?_,q⟩;have e:b=s1.heap.objs.size:=by simpa using hb
 subst e;exact I1.fpOk (ak _) (I1.hok.fresh (ak _))
def pi_tup{l:Expr}{tl:TE}(hl:PE X l tl):PI X tg l (iTup X.K tl):=by
 intro pins s σ H R I h;refine thn (hl pins s σ H _ I h) ?_;rintro v s1 ⟨x,H1,I1,r1,q1⟩;obtain⟨a,e,⟨xs,hq⟩,q⟩:=q1;subst e;cases r1;obtain⟨its,rv,p,hz⟩:=I1.tuple hq;refine wpAny_pyIter_tuple (show s1.heap.IsTuple a its.toArray from p) ?_;refine⟨s1.heap.objs.size,[s1.heap.objs.size],_,_,H1,rfl,I1.kept (t':=s1.toks) λb o e=>ax _ e,zgr a _,⟨_,aT _ rfl,rfl,rfl⟩,λb hb=>?_,q⟩;have e:b=s1.heap.objs.size:=by simpa using hb
 subst e;exact I1.fpOk (ak _) (I1.hok.fresh (ak _))
def zjc{pins:List (ae×Obj)}{σ:St}{H:Hp}{s:ai}{R:It->Hp->Prop}{E:ag->ai->Prop}{lo hi:Int}{t u v:Tok}{tk:Nat}(I:Inv X pins σ H s)(h1:-(2 ^ 62)<=lo)(h2:lo<2 ^ 62)(h3:-(2 ^ 62)<=hi)(h4:hi<2 ^ 62)
  (q:R (Itr lo (hi-lo).toNat) H):aM (model X.prog X.w) X.A (pyIter (.ref s.heap.objs.size)) (PIE X pins σ tg R) E { s with heap:=s.heap.push { cls:=.type "range",data:=.fields #[.int lo t,.int hi u,.int 1 v]},toks:=tk}:=by
 refine wpAny_pyIter_range (IsRange.new ..) (small_one h1 h2 h3 h4) ?_;have I1:Inv X pins σ H { s with heap:=s.heap.push { cls:=.type "range",data:=.fields #[.int lo t,.int hi u,.int 1 v]},toks:=tk}:=I.kept λb o e=>ax _ e;refine⟨(s.heap.push { cls:=.type "range",data:=.fields #[.int lo t,.int hi u,.int 1 v]}).objs.size,[(s.heap.push { cls:=.type "range",data:=.fields #[.int lo t,.int hi u,.int 1 v]}).objs.size],_,_,H,rfl,
  I1.kept (t':=tk) λb o e=>ax _ e,zkc _ lo (hi-lo).toNat,?_,λb hb=>?_,q⟩
 ·have e1:lo+((0:Nat):Int)*1=lo:=by simp
  have e2:(((hi-lo).toNat:Nat):Int)-((0:Nat):Int)=kz lo hi 1:=by rw[rangeSize_one];split <;> lia
  show IsRangeIter _ _ (lo+((0:Nat):Int)*1) ((((hi-lo).toNat:Nat):Int)-((0:Nat):Int)) 1;rw[e1,e2];exact aT _ rfl
 ·have e:b=(s.heap.push { cls:=.type "range",data:=.fields #[.int lo t,.int hi u,.int 1 v]}).objs.size:=by simpa using hb
  subst e;exact I1.fpOk (ak _) (I1.hok.fresh (ak _))
def iRng1(ta:TA):TI:=λσ H R=>ta σ H λvs H1=>∃j:Int,vs=[.int j] /\ -(2 ^ 62)<=j/\j<2 ^ 62/\R (Itr 0 j.toNat) H1
def iRng2(ta:TA):TI:=λσ H R=>ta σ H λvs H1=>∃i j:Int,vs=[.int i,.int j]/\(-(2 ^ 62)<=i/\i<2 ^ 62 /\ -(2 ^ 62)<=j/\j<2 ^ 62)/\R (Itr i (j-i).toNat) H1
def pi_range1{a:Expr}{ta:TA}{p pos:Pos}(hg:Gl X "range")(hm:X.mg "range" =ab)(ha:PA X [a] ta)(hs:br [a] X.env=[(false,eval a X.env)]:=by rfl):PI X tg (.Call (.Name "range" p) [a] [] pos) (iRng1 ta):=by
 intro pins s σ H R I h;refine Call_ (zhQ I hg hm boot_range (d7 (thn (ha pos pins s σ H _ I h) ?_) hs rfl));rintro us s1 ⟨vs,H1,I1,r1,q1⟩;obtain⟨j,e,q1,q2,q⟩:=q1;subst e;cases r1 with
 |cons r rr=>
  cases rr;obtain⟨t,rfl⟩:=r;exact call_range_1 (zjc I1 (by lia) (by lia) q1 q2 (by simpa using q))
def pi_range2{a b:Expr}{ta:TA}{p pos:Pos}(hg:Gl X "range")(hm:X.mg "range" =ab)(ha:PA X [a,b] ta)(hs:br [a,b] X.env=[(false,eval a X.env),(false,eval b X.env)]:=by rfl)(hs2:br [b] X.env=[(false,eval b X.env)]:=by rfl) :
  PI X tg (.Call (.Name "range" p) [a,b] [] pos) (iRng2 ta):=by
 intro pins s σ H R I h;refine Call_ (zhQ I hg hm boot_range (d7 (thn (ha pos pins s σ H _ I h) ?_) (by rw[hs,hs2]) (by rw[hs2];rfl)));rintro us s1 ⟨vs,H1,I1,r1,q1⟩;obtain⟨i,j,e,⟨q1,q2,q3,q4⟩,q⟩:=q1;subst e;cases r1 with
 |cons r rr=>
  cases rr with
  |cons r' rr=>
   cases rr;obtain⟨t,rfl⟩:=r;obtain⟨t',rfl⟩:=r';exact call_range_2 (zjc I1 q1 q2 q3 q4 q)
def tFor(wi:TI)(g:TG)(tb:TS):TS:=λD σ H=>wi σ H λJ H1=>∃W:Nat->Nat->St->Hp->Prop,(∃m,W 0 m σ H1)/\∀i m σ H,W i m σ H ->
 (J.stop i H/\D.nx σ H)\/(J.go i H/\∃N:St->Hp->Prop,(∀σ' H',N σ' H'->∃m',m'<m/\W (i+1) m' σ' H')/\∀x H',J.yld i H x H'->g x σ H' λσ2 H2=>tb { D with nx:=N,ct:=N,bk:=D.nx} σ2 H2)
def zfN(fp:List ae)(h:aV):List (ae×Obj):=fp.filterMap λb=>(h.get? b).map λo=>(b,o)
def zcY{fp:List ae}{h:aV}{b:ae}{o:Obj}(hb:b∈fp)(e:h.get? b=aa o):(b,o)∈zfN fp h:=eL.mpr ⟨b,hb,by rw[e];rfl⟩
def of_pinsAt{fp:List ae}{h:aV}{p:ae×Obj}(hp:p∈zfN fp h):p.1∈fp/\h.get? p.1=aa p.2:=by
 obtain⟨b,hb,e⟩:=eL.mp hp;cases q:h.get? b with
 |none=>rw[q]at e;cases e
 |some o=>
  rw[q]at e;have e':(b,o)=p:=aJ e;subst e';exact⟨hb,q⟩
def Inv.pinned{pins:List (ae×Obj)}{σ:St}{H:Hp}{s:ai}{fp:List ae}(I:Inv X pins σ H s)(hf:∀b∈fp,zir X pins H b)(ho:∀b∈fp,∃o,s.heap.get? b=aa o/\∀v,o.data≠.cell v):Inv X (pins++zfN fp s.heap) σ H s:=
 I.pins_of λp hp=>(aQ.mp hp).elim (λz=>I.pin p (av _ z)) λz=>by
  obtain⟨hb,e⟩:=of_pinsAt z;obtain⟨f0,f1,f2,_⟩:=hf p.1 hb;obtain⟨o,e',d⟩:=ho p.1 hb;rw[e]at e';cases e';exact⟨e,f0,f1,f2,d⟩
def Inv.unpinned{pins pl:List (ae×Obj)}{σ:St}{H:Hp}{s:ai}(I:Inv X (pins++pl) σ H s):Inv X pins σ H s:=I.pins_of λp hp=>I.pin p (av _ (aX _ hp))
def ps_for{iter:Expr}{body:List Stmt}{wi:TI}{g:TG}{tb:TS}{pos:Pos}(hp:PassesOwn (model X.prog X.w) X.A X.env X.xe)(hc:X.calm=true)(hi:PI X tg iter wi)(hg:PG X tg g)(hb:PSs X body tb)
  (hs:∀x,ck iter X.env x=pure x:=by intro _;rfl):PS X (.For tg iter body [] pos) (tFor wi g tb):=by
 intro pins s σ H D I h;refine wpAny_For (thn (hi pins s σ H _ I h) λv s1 h1=>thn h1 λitv s2 h2=>?_) hs;obtain⟨it,fp,tn,J,H2,e,I2,T,st2,f2,W,⟨m0,w0⟩,turn⟩:=h2;subst e;have stat:∀{H':Hp},(∀b∈fp,H' b=ab)->∀b∈fp,zir X pins H' b:=λhn b hb=>⟨hn b hb,(f2 b hb).2⟩
 refine codeAny_forLoop_any (λn s'=>∃i σ' H',Inv X pins σ' H' s'/\tn i s'.heap/\(∀b∈fp,H' b=ab)/\W i n σ' H') ?_ m0 ⟨0,σ,H2,I2,st2,λb hb=>(f2 b hb).1,w0⟩;rintro n s3 ⟨i,σ3,H3,I3,st3,fr3,w3⟩;rcases turn i n σ3 H3 w3 with ⟨stop,qn⟩|⟨go,N,hN,step⟩
 ·refine wpAny_passesOwn hp (thn (T.done X rfl rfl rfl hc i pins s3 σ3 H3 X.xe I3 (stat fr3) st3 stop) ?_);rintro r s4 ⟨hr,I4⟩;subst hr;exact wpAny_execs_nil ⟨σ3,H3,I4,qn⟩
 ·refine wpAny_passesOwn hp (thn (T.item X rfl rfl rfl hc i pins s3 σ3 H3 X.xe I3 (stat fr3) st3 go) ?_);rintro r s4 ⟨u,hr,h4⟩;subst hr;refine wpAny_passesOwn hp (thn h4 ?_);rintro _ s5 ⟨x,H5,I5,r5,y5,st5,fr5⟩;have I5':=I5.pinned (stat fr5) (T.obj _ _ st5);refine wpAny_passesOwn hp (thn (hg _ s5 σ3 H5 x u _ I5' r5 (step x H5 y5)) ?_);rintro _ s6 ⟨σ6,H6,I6,q6⟩;refine wpAny_passesOwn hp (thn (hb _ s6 σ6 H6 _ I6 q6) λf s7 q7=>?_);have again:∀{σ7:St} {H7:Hp},Inv X (pins++zfN fp s5.heap) σ7 H7 s7->N σ7 H7->∃m,m<n/\∃i σ' H',Inv X pins σ' H' s7/\tn i s7.heap/\(∀b∈fp,H' b=ab)/\W i m σ' H':=fun {σ7 H7} I7 n7=>by
   obtain⟨m',hm,w7⟩:=hN σ7 H7 n7;refine⟨m',hm,i+1,σ7,H7,I7.unpinned,T.keep _ _ _ st5 λb hb o e=>(I7.pin (b,o) (av _ (av _ (zcY hb e)))).1,λb hb=>?_,w7⟩;obtain⟨o,e,d⟩:=T.obj _ _ st5 b hb;exact(I7.pin (b,o) (av _ (av _ (zcY hb e)))).2.1
  cases f with
  |next=>obtain⟨σ7,H7,I7,n7⟩:=q7;exact again I7 n7
  |cont=>obtain⟨σ7,H7,I7,n7⟩:=q7;exact again I7 n7
  |brk=>obtain⟨σ7,H7,I7,q7⟩:=q7;exact⟨σ7,H7,I7.unpinned,q7⟩
  |ret v=>obtain⟨x7,σ7,H7,I7,r7,q7⟩:=q7;exact⟨x7,σ7,H7,I7.unpinned,r7,q7⟩
end
end L2
namespace L2
open PySem PySem.Spec PyProof.Rows
abbrev R2:=V->V->Hp->VK->Prop
def OpR(X:Cx)(f:ag->ag->Sem ag)(r:R2):Prop:=
 ∀(pins:List (ae×Obj)) (s:ai) (σ:St) (H:Hp) (x y:V) (v u:ag) (Q:VK),Inv X pins σ H s->RelV x v->RelV y u->r x y H Q ->
  aM (model X.prog X.w) X.A (f v u) (EP X pins σ Q) X.xe s
def UnR(X:Cx)(f:ag->Sem ag)(r:V->Hp->VK->Prop):Prop:=
 ∀(pins:List (ae×Obj)) (s:ai) (σ:St) (H:Hp) (x:V) (v:ag) (Q:VK),Inv X pins σ H s->RelV x v->r x H Q ->
  aM (model X.prog X.w) X.A (f v) (EP X pins σ Q) X.xe s
def zd7(X:Cx)(f:ag)(r:List V->Hp->VK->Prop):Prop:=
 ∀(pins:List (ae×Obj)) (s:ai) (σ:St) (H:Hp) (xs:List V) (us:List ag) (Q:VK),Inv X pins σ H s->Vals xs us->r xs H Q ->
  aM (model X.prog X.w) X.A (call f us) (EP X pins σ Q) X.xe s
def tOp(r:R2)(ta tb:TE):TE:=λσ H Q=>ta σ H λx H1=>tb σ H1 λy H2=>r x y H2 Q
def tUn(r:V->Hp->VK->Prop)(ta:TE):TE:=λσ H Q=>ta σ H λx H1=>r x H1 Q
def rI(C:Int->Int->Prop)(g:Int->Int->V):R2:=λx y H Q=>∃i j,x=.int i/\y=.int j/\C i j/\Q (g i j) H
def rI0(g:Int->Int->V):R2:=λx y H Q=>∃i j,x=.int i/\y=.int j/\Q (g i j) H
def rU(g:Int->V):V->Hp->VK->Prop:=λx H Q=>∃i,x=.int i/\Q (g i) H
section
variable {X:Cx}{a b c:Expr}{ta tb tc:TE}{pos:Pos}
def binT(ha:PE X a ta)(hb:PE X b tb){pins:List (ae×Obj)}{s:ai}{σ:St}{H:Hp}{R:V->V->Hp->Prop}(I:Inv X pins σ H s)
  (h:ta σ H λx H1=>tb σ H1 λy H2=>R x y H2) {Q:ag->ai->Prop} {f:ag->ag->Sem ag}
  (hf:∀v u s2 x y H2,Inv X pins σ H2 s2->RelV x v->RelV y u->R x y H2->aM (model X.prog X.w) X.A (f v u) Q X.xe s2) :
  aM (model X.prog X.w) X.A (eval a X.env) (λv s₁=>aM (model X.prog X.w) X.A (eval b X.env) (λu s₂=>aM (model X.prog X.w) X.A (f v u) Q X.xe s₂) X.xe s₁) X.xe s:=by
 refine thn (ha pins s σ H _ I h) ?_;rintro v s1 ⟨x,H1,I1,r1,q1⟩;refine thn (hb pins s1 σ H1 _ I1 q1) ?_;rintro u s2 ⟨y,H2,I2,r2,q2⟩;exact hf v u s2 x y H2 I2 r1 r2 q2
def pe_op{op:Operator}{r:R2}(ho:OpR X (binaryOp op) r)(ha:PE X a ta)(hb:PE X b tb):PE X (.BinOp a op b pos) (tOp r ta tb):=by
 intro pins s σ H Q I h;exact wpAny_BinOp (binT ha hb I h λv u s2 x y H2 I2 rx ry q=>ho pins s2 σ H2 x y v u Q I2 rx ry q)
def pe_un{op:UnaryOp}{r:V->Hp->VK->Prop}(ho:UnR X (unaryOp op) r)(ha:PE X a ta):PE X (.UnaryOp op a pos) (tUn r ta):=by
 intro pins s σ H Q I h;exact UnaryOp_ (thn (ha pins s σ H _ I h) λv s1 ⟨x,H1,I1,r1,q1⟩=>ho pins s1 σ H1 x v Q I1 r1 q1)
def opI{f:ag->ag->Sem ag}{C:Int->Int->Prop}{g:Int->Int->Int}
  (rule:∀(i j:Int) (t u:Tok) (s:ai) (Q:ag->ai->Prop) (E:ag->ai->Prop),C i j->Q (.int (g i j) s.toks) { s with toks:=s.toks+1}->aM (model X.prog X.w) X.A (f (.int i t) (.int j u)) Q E s) :
  OpR X f (rI C λi j=>.int (g i j)):=by
 intro pins s σ H x y v u Q I rx ry h;obtain⟨i,j,rfl,rfl,hc,q⟩:=h;obtain⟨t,rfl⟩:=rx;obtain⟨t',rfl⟩:=ry;exact rule i j t t' s _ _ hc ⟨.int (g i j),H,I.tok _,⟨_,rfl⟩,q⟩
def opI0{f:ag->ag->Sem ag}{g:Int->Int->Int}
  (rule:∀(i j:Int) (t u:Tok) (s:ai) (Q:ag->ai->Prop) (E:ag->ai->Prop),Q (.int (g i j) s.toks) { s with toks:=s.toks+1}->aM (model X.prog X.w) X.A (f (.int i t) (.int j u)) Q E s) :
  OpR X f (rI0 λi j=>.int (g i j)):=by
 intro pins s σ H x y v u Q I rx ry h;obtain⟨i,j,rfl,rfl,q⟩:=h;obtain⟨t,rfl⟩:=rx;obtain⟨t',rfl⟩:=ry;exact rule i j t t' s _ _ ⟨.int (g i j),H,I.tok _,⟨_,rfl⟩,q⟩
def opB0{f:ag->ag->Sem ag}{g:Int->Int->Bool}
  (rule:∀(i j:Int) (t u:Tok) (s:ai) (Q:ag->ai->Prop) (E:ag->ai->Prop),Q (.bool (g i j)) s->aM (model X.prog X.w) X.A (f (.int i t) (.int j u)) Q E s) :
  OpR X f (rI0 λi j=>.bl (g i j)):=by
 intro pins s σ H x y v u Q I rx ry h;obtain⟨i,j,rfl,rfl,q⟩:=h;obtain⟨t,rfl⟩:=rx;obtain⟨t',rfl⟩:=ry;exact rule i j t t' s _ _ ⟨.bl (g i j),H,I,rfl,q⟩
def CDiv(i j:Int):Prop:=0<j/\j<1073741824
def CMul(i j:Int):Prop:=(-(2 ^ 64)<i/\i<2 ^ 64)\/(-(2 ^ 64)<j/\j<2 ^ 64)
def CMul.ok{i j:Int}(h:CMul i j):IntMulOk i j:=by
 rcases h with ⟨h1,h2⟩|⟨h1,h2⟩
 ·exact .of_left (intBits_le_64 h1 h2)
 ·exact .of_right (intBits_le_64 h1 h2)
def op_add:OpR X (binaryOp .Add) (rI0 λi j=>.int (i+j)):=opI0 λ_ _ _ _ _ _ _ q=>add_int q
def op_sub:OpR X (binaryOp .Sub) (rI0 λi j=>.int (i-j)):=opI0 λ_ _ _ _ _ _ _ q=>sub_int q
def op_mul:OpR X (binaryOp .Mult) (rI CMul λi j=>.int (i*j)):=opI λ_ _ _ _ _ _ _ hc q=>mul_int q hc.ok
def op_fdiv:OpR X (binaryOp .FloorDiv) (rI CDiv λi j=>.int (i / j)):=opI λi j _ _ _ _ _ hc q=>by
 have h1:(0:Int)<j:=hc.1;have h2:j<1073741824:=hc.2;exact floordiv_int (by lia) (by rw[Int.fdiv_eq_ediv_of_nonneg i (by lia)];exact q) (.inl (PyProof.noPylong_small (by lia)))
def op_mod:OpR X (binaryOp .Mod) (rI (λ_ j=>0<j) λi j=>.int (i%j)):=opI λi j _ _ _ _ _ hc q=>by
 have h1:(0:Int)<j:=hc;exact mod_int' (by lia) (by rw[Int.fmod_eq_emod_of_nonneg i (by lia)];exact q)
def unI{f:ag->Sem ag}{g:Int->Int}
  (rule:∀(i:Int) (t:Tok) (s:ai) (Q:ag->ai->Prop) (E:ag->ai->Prop),Q (.int (g i) s.toks) { s with toks:=s.toks+1}->aM (model X.prog X.w) X.A (f (.int i t)) Q E s) :
  UnR X f (rU λi=>.int (g i)):=by
 intro pins s σ H x v Q I rx h;obtain⟨i,rfl,q⟩:=h;obtain⟨t,rfl⟩:=rx;exact rule i t s _ _ ⟨.int (g i),H,I.tok _,⟨_,rfl⟩,q⟩
def un_neg:UnR X (unaryOp .USub) (rU λi=>.int (-i)):=unI λ_ _ _ _ _ q=>neg_int q
end
def scal:V->V->Bool
 |.non,.non=>true|.non,.int _=>true|.int _,.non=>true|.non,.bl _=>true|.bl _,.non=>true|.non,.str _=>true|.str _,.non=>true
 |.int _,.int _=>true|.bl _,.bl _=>true|.str _,.str _=>true|.byt _,.byt _=>true
 |.int _,.str _=>true|.str _,.int _=>true|.bl _,.str _=>true|.str _,.bl _=>true
 | _,_=>false
def rEq:R2:=λx y H Q=>scal x y=true/\Q (.bl (decide (x=y))) H
def rNe:R2:=λx y H Q=>scal x y=true/\Q (.bl (!decide (x=y))) H
def dec_int{i j:Int}:decide (V.int i=V.int j)=(i==j):=by
 rw[fz];simp
def dec_bl{i j:Bool}:decide (V.bl i=V.bl j)=(i==j):=by
 rw[fz];simp
def dec_str{i j:Str}:decide (V.str i=V.str j)=(i==j):=by
 rw[fz];simp
def dec_byt{i j:Array UInt8}:decide (V.byt i=V.byt j)=(i.toList==j.toList):=by
 rw[fz];cases i;cases j;simp
section
variable {X:Cx}{a b c:Expr}{ta tb tc:TE}{pos:Pos}
def zaL{pins:List (ae×Obj)}{σ:St}{H:Hp}{s:ai}{Q:VK}{k k':Bool}(I:Inv X pins σ H s)(q:Q (.bl k) H)(e:k=k'):EP X pins σ Q (.bool k') s:=by
 subst e;exact⟨.bl k,H,I,rfl,q⟩
def op_eq:OpR X (bC .Eq) rEq:=by
 intro pins s σ H x y v u Q I rx ry h;obtain⟨hs,q⟩:=h;cases x with
 |non=>
  cases rx;cases y with
  |non=>cases ry;exact jN (zaL I q (by simp))
  |bl j=>cases ry;exact jO (zaL I q (by simp))
  |int j=>obtain⟨t',rfl⟩:=ry;exact j4 (zaL I q (by simp))
  |str j=>obtain⟨t',rfl⟩:=ry;exact j6 (zaL I q (by simp))
  | _=>exact absurd (show false=true from hs) aR
 |bl i=>
  cases rx;cases y with
  |non=>cases ry;exact jP (zaL I q (by simp))
  |bl j=>cases ry;exact eq_bool (zaL I q dec_bl)
  |str j=>obtain⟨t',rfl⟩:=ry;exact jQ (zaL I q (by simp))
  | _=>exact absurd (show false=true from hs) aR
 |int i=>
  obtain⟨t,rfl⟩:=rx;cases y with
  |non=>cases ry;exact j7 (zaL I q (by simp))
  |int j=>obtain⟨t',rfl⟩:=ry;exact eq_int (zaL I q dec_int)
  |str j=>obtain⟨t',rfl⟩:=ry;exact j8 (zaL I q (by simp))
  | _=>exact absurd (show false=true from hs) aR
 |str i=>
  obtain⟨t,rfl⟩:=rx;cases y with
  |non=>cases ry;exact j9 (zaL I q (by simp))
  |bl j=>cases ry;exact jR (zaL I q (by simp))
  |int j=>obtain⟨t',rfl⟩:=ry;exact kc (zaL I q (by simp))
  |str j=>obtain⟨t',rfl⟩:=ry;exact eq_str (zaL I q dec_str)
  | _=>exact absurd (show false=true from hs) aR
 |byt i=>
  obtain⟨t,rfl⟩:=rx;cases y with
  |byt j=>obtain⟨t',rfl⟩:=ry;exact PySem.W.eq_bytes (zaL I q dec_byt)
  | _=>exact absurd (show false=true from hs) aR
 | _=>cases y <;> exact absurd (show false=true from hs) aR
def op_ne:OpR X (bC .NotEq) rNe:=by
 intro pins s σ H x y v u Q I rx ry h;obtain⟨hs,q⟩:=h;cases x with
 |non=>
  cases rx;cases y with
  |non=>cases ry;exact jS (zaL I q (by simp))
  |bl j=>cases ry;exact jT (zaL I q (by simp))
  |int j=>obtain⟨t',rfl⟩:=ry;exact ke (zaL I q (by simp))
  |str j=>obtain⟨t',rfl⟩:=ry;exact kf (zaL I q (by simp))
  | _=>exact absurd (show false=true from hs) aR
 |bl i=>
  cases rx;cases y with
  |non=>cases ry;exact jU (zaL I q (by simp))
  |bl j=>cases ry;exact ne_bool (zaL I q (congrArg not dec_bl))
  |str j=>obtain⟨t',rfl⟩:=ry;exact jV (zaL I q (by simp))
  | _=>exact absurd (show false=true from hs) aR
 |int i=>
  obtain⟨t,rfl⟩:=rx;cases y with
  |non=>cases ry;exact kg (zaL I q (by simp))
  |int j=>obtain⟨t',rfl⟩:=ry;exact ne_int (zaL I q (congrArg not dec_int))
  |str j=>obtain⟨t',rfl⟩:=ry;exact kh (zaL I q (by simp))
  | _=>exact absurd (show false=true from hs) aR
 |str i=>
  obtain⟨t,rfl⟩:=rx;cases y with
  |non=>cases ry;exact ki (zaL I q (by simp))
  |bl j=>cases ry;exact jW (zaL I q (by simp))
  |int j=>obtain⟨t',rfl⟩:=ry;exact kj (zaL I q (by simp))
  |str j=>obtain⟨t',rfl⟩:=ry;exact ne_str (zaL I q (congrArg not dec_str))
  | _=>exact absurd (show false=true from hs) aR
 |byt i=>
  obtain⟨t,rfl⟩:=rx;cases y with
  |byt j=>obtain⟨t',rfl⟩:=ry;exact PySem.W.ne_bytes (zaL I q (congrArg not dec_byt))
  | _=>exact absurd (show false=true from hs) aR
 | _=>cases y <;> exact absurd (show false=true from hs) aR
def op_lt:OpR X (bC .Lt) (rI0 λi j=>.bl (decide (i<j))):=opB0 λ_ _ _ _ _ _ _ q=>lt_int q
def op_le:OpR X (bC .LtE) (rI0 λi j=>.bl (decide (i<=j))):=opB0 λ_ _ _ _ _ _ _ q=>le_int q
def op_gt:OpR X (bC .Gt) (rI0 λi j=>.bl (decide (j<i))):=opB0 λ_ _ _ _ _ _ _ q=>gt_int q
def op_ge:OpR X (bC .GtE) (rI0 λi j=>.bl (decide (j<=i))):=opB0 λ_ _ _ _ _ _ _ q=>ge_int q
def op_in_str:OpR X (bC .In) (λx y H Q=>∃i j,x=.str i/\y=.str j/\Q (.bl (!(eP j i 0 j.length 1).isEmpty)) H):=by
 intro pins s σ H x y v u Q I rx ry h;obtain⟨i,j,rfl,rfl,q⟩:=h;obtain⟨t,rfl⟩:=rx;obtain⟨t',rfl⟩:=ry;exact in_str (zaL I q rfl)
def op_isN:OpR X (bC .Is) (λx y H Q=>y=.non/\Q (.bl (decide (x=.non))) H):=by
 intro pins s σ H x y v u Q I rx ry h;obtain⟨rfl,q⟩:=h;cases ry;refine is_none_gen (zaL I q ?_);cases x <;> first
  |(cases rx;rfl)
  |(obtain⟨t,rfl⟩:=rx;rfl)
def op_notN:OpR X (bC .IsNot) (λx y H Q=>y=.non/\Q (.bl (!decide (x=.non))) H):=by
 intro pins s σ H x y v u Q I rx ry h;obtain⟨rfl,q⟩:=h;cases ry;refine isnot_none_gen (zaL I q ?_);cases x <;> first
  |(cases rx;rfl)
  |(obtain⟨t,rfl⟩:=rx;rfl)
def zhB:OpR X (bC .NotIn) (λx y H Q=>∃i j,x=.str i/\y=.str j/\Q (.bl (!(!(eP j i 0 j.length 1).isEmpty))) H):=by
 intro pins s σ H x y v u Q I rx ry h;obtain⟨i,j,rfl,rfl,q⟩:=h;obtain⟨t,rfl⟩:=rx;obtain⟨t',rfl⟩:=ry;exact notIn_str (zaL I q rfl)
def zaD(b:Expr){op:CmpOp}(h:op≠.In:=by decide)(h2:op≠.NotIn:=by decide):behindInMarks op b=false:=by
 have e1:(op==CmpOp.In)=false:=by cases op <;> first|rfl|exact absurd rfl h
 have e2:(op==CmpOp.NotIn)=false:=by cases op <;> first|rfl|exact absurd rfl h2
 cases b <;> simp[behindInMarks,e1,e2]
def pe_cmpR{op:CmpOp}{r:R2}(ho:OpR X (bC op) r)(ha:PE X a ta)(hb:PE X b tb)(hm:behindInMarks op b=false):PE X (.Compare a [op] [b] pos) (tOp r ta tb):=by
 intro pins s σ H Q I h;exact wpAny_Compare1 (binT ha hb I h λv u s2 x y H2 I2 rx ry q=>ho pins s2 σ H2 x y v u Q I2 rx ry q) hm
def zf5(t:TE):TT:=λσ H Q=>t σ H λx H'=>∃k,x=.bl k/\Q k H'
def pt_cmpR{op:CmpOp}{r:R2}(ho:OpR X (bC op) r)(ha:PE X a ta)(hb:PE X b tb)(hm:behindInMarks op b=false):PT X (.Compare a [op] [b] pos) (zf5 (tOp r ta tb)):=by
 intro pins s σ H Q I h;refine wpAny_isTrue_Compare1 (thn (ha pins s σ H _ I h) λv s1 ⟨x,H1,I1,r1,q1⟩=>thn (hb pins s1 σ H1 _ I1 q1) λu s2 ⟨y,H2,I2,r2,q2⟩=>
  thn (ho pins s2 σ H2 x y v u _ I2 r1 r2 q2) λc s3 ⟨z,H3,I3,r3,k,e,q3⟩=>?_) hm
 subst e;cases r3;exact wpAny_truthy_bool ⟨H3,I3,q3⟩
def zgi:(bj:Nat)<2 ^ 63:=by rw[cn];decide
def zjS:OpR X (binaryOp .Add) (λx y H Q=>∃i j,x=.str i/\y=.str j/\i.length+j.length<=bj/\Q (.str (i++j)) H):=by
 intro pins s σ H x y v u Q I rx ry h;obtain⟨i,j,rfl,rfl,hz,q⟩:=h;obtain⟨t,rfl⟩:=rx;obtain⟨t',rfl⟩:=ry;exact add_str (λt' tk=>⟨.str (i++j),H,I.tok _,⟨_,rfl⟩,q⟩) hz
def zfD{x:V}{us:List ag}(r:Vals [x] us):∃u,us=[u]/\RelV x u:=by
 cases r with
 |cons r1 r2=>cases r2;exact⟨_,rfl,r1⟩
def vals2{x y:V}{us:List ag}(r:Vals [x,y] us):∃u w',us=[u,w']/\RelV x u/\RelV y w':=by
 cases r with
 |cons r1 r2=>
  cases r2 with
  |cons r3 r4=>cases r4;exact⟨_,_,rfl,r1,r3⟩
def call_abs:zd7 X (.builtin "abs") (λxs H Q=>∃i,xs=[.int i]/\Q (.int (if i<0 then -i else i)) H):=by
 intro pins s σ H xs us Q I r h;obtain⟨i,rfl,q⟩:=h;obtain⟨u,rfl,t,rfl⟩:=zfD r;exact call_abs_int λu tk=>⟨.int (if i<0 then -i else i),H,I.tok _,⟨_,rfl⟩,q⟩
def call_max2(hc:X.calm=true):zd7 X (.builtin "max") (λxs H Q=>∃i j,xs=[.int i,.int j]/\Q (.int (if j > i then j else i)) H):=by
 intro pins s σ H xs us Q I r h;obtain⟨i,j,rfl,q⟩:=h;obtain⟨u,w',rfl,⟨t,rfl⟩,⟨t',rfl⟩⟩:=vals2 r;refine max_two_ints (I.ok.hd hc) λh' tk k=>⟨_,H,I.kept k,?_,q⟩
 by_cases hj:j > i
 ·rw[if_pos hj,if_pos hj];exact⟨_,rfl⟩
 ·rw[if_neg hj,if_neg hj];exact⟨_,rfl⟩
def call_min2(hc:X.calm=true):zd7 X (.builtin "min") (λxs H Q=>∃i j,xs=[.int i,.int j]/\Q (.int (if j<i then j else i)) H):=by
 intro pins s σ H xs us Q I r h;obtain⟨i,j,rfl,q⟩:=h;obtain⟨u,w',rfl,⟨t,rfl⟩,⟨t',rfl⟩⟩:=vals2 r;refine min_two_ints (I.ok.hd hc) λh' tk k=>⟨_,H,I.kept k,?_,q⟩
 by_cases hj:j<i
 ·rw[if_pos hj,if_pos hj];exact⟨_,rfl⟩
 ·rw[if_neg hj,if_neg hj];exact⟨_,rfl⟩
def call_int1:zd7 X (.type "int") (λxs H Q=>(∃i,xs=[.int i]/\Q (.int i) H)\/∃k,xs=[.bl k]/\Q (.int (if k then 1 else 0)) H):=by
 intro pins s σ H xs us Q I r h;rcases h with ⟨i,rfl,q⟩|⟨k,rfl,q⟩
 ·obtain⟨u,rfl,t,rfl⟩:=zfD r;exact call_int_int ⟨.int i,H,I,⟨_,rfl⟩,q⟩
 ·obtain⟨u,rfl,r1⟩:=zfD r;cases r1;exact call_int_bool ⟨.int (if k then 1 else 0),H,I.tok _,⟨_,rfl⟩,q⟩
end
end L2
namespace L2
open PySem PySem.Spec PyProof.Rows
structure ObjM(h:aV)(x dx C:ae)(mA:Str->Option ag):Prop where
 obj:h.get? x=aa (c6 C dx)
 ns:h.Ns1 dx mA
 ne:dx≠x
def lookIn_ns{h:aV}{dx:ae}{mA:Str->Option ag}(n:h.Ns1 dx mA):∃od,h.get? dx=aa od/\∀name,fM name od=aa (mA name):=by
 obtain⟨o,es,ep,ho,hd,hk,_,hm⟩:=n;refine⟨o,ho,λname=>?_⟩;have e:=hm name;unfold nsFind findBy at e;rw[<- Array.find?_toList]at e;unfold fM;rw[hd];dsimp only;split
 ·rename_i y q;rw[q]at e;exact congrArg aa e
 ·rename_i q;rw[q]at e;have a:es.toList.any (·.refKey)=false:=by
   rw[List.any_eq_false];intro y hy;obtain⟨z,t,hkey⟩:=hk y (cK.mp hy);simp[lj,hkey]
  have a':¬ es.toList.any (·.refKey)=true:=by rw[a];exact aR
  rw[if_neg a'];exact congrArg aa e
def ObjM.look{h:aV}{x dx C:ae}{mA:Str->Option ag}(I:ObjM h x dx C mA):∃od,PySem.W.InstAt h x (c6 C dx) C (aa od)/\∀name,fM name od=aa (mA name):=
 let⟨od,ho,hl⟩:=lookIn_ns I.ns
 ⟨od,⟨I.obj,rfl,rfl,ho⟩,hl⟩
section
variable {prog:aI}{w:aO}{A:aW}{E:ag->ai->Prop}{s:ai}{K:af}{x dx C f:ae}{mA:Str->Option ag}{name:Str}{v:ag}
def get_map{expr:Bool}{Q:ag->ai->Prop}(X:K.In s.heap)(I:ObjM s.heap x dx C mA)(hg:dj K C name=true)(hh:dw K C=true)
  (ha:aZ K (.ref C) name=aa ab) (hv:mA name=aa v) (hv':jb v=true) (h:Q v { s with toks:=s.toks+1}) :
  aM (model prog w) A (getAttr (.ref x) name expr) Q E s:=by
 obtain⟨od,J,hl⟩:=I.look;exact PySem.W.get_value X J (fL hg).1 (PySem.W.findObj_own hh ha rfl (by rw[hl,hv])) hv' h
def get_meth{pl:Sem Bool}{Q:ag×List ag->ai->Prop}(X:K.In s.heap)(I:ObjM s.heap x dx C mA)(hg:dj K C name=true)
  (hf:aZ K (.ref C) name=aa (aa (.ref f))) (ht:c8 K (.ref f)=true) (hv:mA name=ab) (h:Q (.ref f,[.ref x]) s) :
  aM (model prog w) A (getMethod (.ref x) name pl) Q E s:=by
 obtain⟨od,J,hl⟩:=I.look;exact PySem.W.method_fn X J (fL hg).1 (fL hg).2 hf (beq_iff_eq.mp ht) (by show(fM name od).map (·.isSome)=aa false;rw[hl,hv];rfl) h
def set_map{ns:List Str}{Q:Unit->ai->Prop}(X:K.In s.heap)(I:ObjM s.heap x dx C mA)
  (hs:aZ K (.ref C) "__setattr__" =aa (aa (.builtin "object.__setattr__"))) (hp:dZ K C=true) (ht:gE K C name=aa ab) (hh:dw K C=true)
  (hw:iM mA ns) (hsz:ns.length<=bj)
  (h:∀h',ObjM h' x dx C (λy=>if y=name then aa v else mA y)->gj dx s.heap h'->Q () { s with heap:=h',toks:=s.toks+2}) :
  aM (model prog w) A (setAttr (.ref x) name v) Q E s:=by
 obtain⟨od,J,hl⟩:=I.look;refine PySem.W.set_plain X J hs (PySem.W.osa_open (s:={ s with toks:=s.toks+1}) (r:=ab) X J hp ht λb=>?_);obtain⟨cd,hc,hd'⟩:=PySem.W.any_some hh;have hx:s.heap.get? x=aa ⟨.ref C,aa dx,.plain,#[]⟩:=I.obj;refine ay (a8 (ay (ay (wpAny_loadPart hx (ay (kY (s:={ s with toks:=s.toks+1}) (PySem.W.looks_clsIn X hc) ?_))))));rw[hd'];refine a8 (a:=aa dx) (ay (a8 (ay ?_)));refine wpAny_nsSet1 (s:={ s with toks:=s.toks+1}) I.ns λh' hn2 hs2=>?_;obtain⟨oD,esD,epD,hoD,hdD,hcD⟩:=hn2.count (k9 name v hw);refine ay (wpAny_lookBehind hoD (by rw[hdD];exact pastItsLine_dict (aH hcD (by rw[au];lia))) ?_);exact a8 (h _ ⟨(hs2.2 _ (cP I.ne)).trans I.obj,hn2,I.ne⟩ hs2)
def make_map{R:Result->ai->Prop}{vs:List ag}{kw:List (Str×ag)}(X:K.In s.heap)(hm:eH K C=true)
  (hi:aZ K (.ref C) "__init__" =aa (aa (.ref f))) (hf:PySem.W.typeIn K (.ref f)=aa (.type "function"))
  (h:codeAny (model prog w) (A.under (.builtin "type.__call__" ⟨.ref C :: vs,kw⟩)) (.call (.ref f) ⟨.ref (s.heap.objs.size+1) :: vs,kw⟩) (PySem.W.InitBack (s.heap.objs.size+1) R)
   { s with heap:=(s.heap.push cF).push (c6 C s.heap.objs.size)}) :
  codeAny (model prog w) A (.call (.ref C) ⟨vs,kw⟩) R s:=by
 obtain⟨hh,g,d,t,os⟩:=s;exact PySem.W.make_core (PySem.W.makes_of X hm) (PySem.W.looks_findIn X hi) (λself=>PySem.W.bind_fn X self hf) (.inl rfl) h
end
def zgd(f:Str)(v:V):List (Str×V)->List (Str×V)
 |[]=>[(f,v)]
 |(g,x)::r=>if g=f then (g,v)::r else (g,x)::zgd f v r
def zfF(f g:Str)(v:V):∀fs:List (Str×V),(zgd f v fs).lookup g=if g=f then aa v else fs.lookup g
 |[]=>by
  show cr g [(f,v)]=_;by_cases h:g=f
  ·have hb:(g==f)=true:=beq_iff_eq.mpr h;simp only[cr,hb,if_pos h]
  ·have hb:(g==f)=false:=beq_eq_false_iff_ne.mpr h;simp only[cr,hb,if_neg h]
 |(k,x)::r=>by
  have ih:=zfF f g v r;rw[show zgd f v ((k,x)::r)=(if k=f then (k,v)::r else (k,x)::zgd f v r)from rfl];by_cases hk:k=f
  ·rw[if_pos hk];by_cases h:g=k
   ·have hb:(g==k)=true:=beq_iff_eq.mpr h;simp only[cr,hb,if_pos (h.trans hk)]
   ·have hb:(g==k)=false:=beq_eq_false_iff_ne.mpr h;simp only[cr,hb,if_neg (λe:g=f=>h (e.trans hk.symm))]
  ·rw[if_neg hk];by_cases h:g=k
   ·have hb:(g==k)=true:=beq_iff_eq.mpr h;simp only[cr,hb,if_neg (λe:g=f=>hk (h.symm.trans e))]
   ·have hb:(g==k)=false:=beq_eq_false_iff_ne.mpr h;simp only[cr,hb];exact ih
def zfG(f:Str)(v:V):∀fs:List (Str×V),f∈(zgd f v fs).map (·.1)/\∀g,g∈fs.map (·.1)->g∈(zgd f v fs).map (·.1)
 |[]=>⟨by simp[zgd],λg h=>by simp at h⟩
 |(k,x)::r=>by
  obtain⟨i1,i2⟩:=zfG f v r;rw[show zgd f v ((k,x)::r)=(if k=f then (k,v)::r else (k,x)::zgd f v r)from rfl];by_cases hk:k=f
  ·rw[if_pos hk];subst hk;exact⟨by simp,λg h=>by simpa using h⟩
  ·rw[if_neg hk];refine⟨?_,λg h=>?_⟩
   ·rw[ar];exact ah _ i1
   ·rw[ar]at h ⊢;rcases aE.mp h with e|e
    ·exact aE.mpr (.inl e)
    ·exact ah _ (i2 g e)
def zfX(f:Str)(v:V):∀fs:List (Str×V),(zgd f v fs).length<=fs.length+1
 |[]=>by simp[zgd]
 |(k,x)::r=>by
  have ih:=zfX f v r;rw[show zgd f v ((k,x)::r)=(if k=f then (k,v)::r else (k,x)::zgd f v r)from rfl];by_cases hk:k=f
  ·rw[if_pos hk,au,au];lia
  ·rw[if_neg hk,au,au];lia
def RelO.some_of{v:V}{o:Option ag}(r:RelO (aa v) o):∃u,o=aa u/\RelV v u:=by
 cases o with
 |none=>exact(show False from r).elim
 |some u=>exact⟨u,rfl,r⟩
def RelO.none_of{o:Option ag}(r:RelO ab o):o=ab:=by
 cases o with
 |none=>rfl
 |some u=>exact(show False from r).elim
def handed_of{v:V}{u:ag}(r:RelV v u):jb u=true:=by
 cases v with
 |non=>cases (show u=ig from r);rfl
 |bl b=>cases (show u=ii b from r);rfl
 |int i=>obtain⟨t,e⟩:=(show ∃t,u=dJ i t from r);cases e;rfl
 |str x=>obtain⟨t,e⟩:=(show ∃t,u=fN x t from r);cases e;rfl
 |byt b=>obtain⟨t,e⟩:=(show ∃t,u=kF b t from r);cases e;rfl
 |flt b=>obtain⟨t,e⟩:=(show ∃t,u=kG b t from r);cases e;rfl
 |ref a=>cases (show u=bq a from r);rfl
 |ty n=>cases (show u=ij n from r);rfl
section
variable {P:aI}{w:aO}{H H':Hp}{h h':aV}{a C dx:ae}{fs fs':List (Str×V)}
def ziz(hok:HOk P w H h)(e:H a=aa (.ins C dx fs)):∃mA,ObjM h a dx C mA/\(∀f,RelO (fs.lookup f) (mA f))/\iM mA (fs.map (·.1))/\fs.length<=1000/\H dx=aa (.own a):=by
 obtain⟨d,z,ne,ob,mA,n,r,q⟩:=(show ObjOk P w H h a (.ins C dx fs)from hok a _ e);exact⟨mA,⟨ob,n,ne⟩,r,q,z,d⟩
end
structure Cls(K:af)(C:ae):Prop where
 pg:dj K C iO=true
 hd:dw K C=true
 po:dZ K C=true
 sa:aZ K (.ref C) "__setattr__" =aa (aa (.builtin "object.__setattr__"))
def Cls.get{K:af}{C:ae}(c:Cls K C)(f:Str):dj K C f=true:=c.pg
def NoAttr(K:af)(C:ae)(f:Str):Prop:=aZ K (.ref C) f=aa ab
def NoAttr.taker{K:af}{C:ae}{f:Str}(n:NoAttr K C f):gE K C f=aa ab:=by
 unfold gE;rw[show aZ K (.ref C) f=aa ab from n];rfl
structure Con(K:af)(C:ae)(f:Str)(v:V)(u:ag):Prop where
 at_:aZ K (.ref C) f=aa (aa u)
 rel:RelV v u
 get:iZ K u "__get__" =aa ab
 cp:PySem.W.copiedNames.contains f=false
structure Meth(K:af)(C:ae)(m:Str)(f:ae):Prop where
 at_:aZ K (.ref C) m=aa (aa (.ref f))
 fn:c8 K (.ref f)=true
 kp:bA K (.ref f)=true
section
variable {X:Cx}{pins:List (ae×Obj)}{σ:St}{H:Hp}{s:ai}{a C dx:ae}{fs:List (Str×V)}{f:Str}{v:V}{A:aW}{E:ag->ai->Prop}
def zjR{b:Bool}{Q:ag->ai->Prop}(I:Inv X pins σ H s)(e:H a=aa (.ins C dx fs))(c:Cls X.K C)(n:NoAttr X.K C f)(l:fs.lookup f=aa v)
  (h:∀u s',Inv X pins σ H s'->RelV v u->Q u s'):aM (model X.prog X.w) A (getAttr (.ref a) f b) Q E s:=by
 obtain⟨mA,O,r,_,_,_⟩:=ziz I.hok e;obtain⟨u,hu,ru⟩:=RelO.some_of (v:=v) (o:=mA f) (by rw[<- l];exact r f);exact get_map I.kIn O (c.get f) c.hd n hu (handed_of ru) (h u _ (I.tok _) ru)
def zgw{m:Str}{g:ae}{pl:Sem Bool}{Q:ag×List ag->ai->Prop}(I:Inv X pins σ H s)(e:H a=aa (.ins C dx fs))(c:Cls X.K C)(k:Meth X.K C m g)(l:fs.lookup m=ab)
  (h:Q (.ref g,[.ref a]) s):aM (model X.prog X.w) A (getMethod (.ref a) m pl) Q E s:=by
 obtain⟨mA,O,r,_,_,_⟩:=ziz I.hok e;have hn:mA m=ab:=RelO.none_of (by rw[<- l];exact r m);exact get_meth I.kIn O (c.get m) k.at_ k.fn hn h
def zke{y:V}{u:ag}{Q:Unit->ai->Prop}(I:Inv X pins σ H s)(e:H a=aa (.ins C dx fs))(c:Cls X.K C)(n:NoAttr X.K C f)(hl:fs.length<1000)(ry:RelV y u)
  (h:∀s',Inv X pins σ (upd H a (.ins C dx (zgd f y fs))) s'->Q () s'):aM (model X.prog X.w) A (setAttr (.ref a) f u) Q E s:=by
 obtain⟨mA,O,r,wi,_,ho⟩:=ziz I.hok e;have hz:(fs.map (·.1)).length<=bj:=by rw[al,cn];lia
 refine set_map I.kIn O c.sa c.po n.taker c.hd wi hz λh' O' sb=>h _ ?_;have hd:∃o,h'.get? dx=aa o:=let⟨o,_,_,e',_⟩:=O'.ns;⟨o,e'⟩;refine I.write (x:=a) (e:=dx) (by rw[e];exact fB) (.inr ho) (λb q hb z=>(sb.2 b hb).trans z) hd ?_;refine⟨by rw[zai O.ne];exact ho,?_,O.ne,O'.obj,_,O'.ns,λg=>?_,λg hg=>?_⟩
 ·have:=zfX f y fs;lia
 ·show RelO ((zgd f y fs).lookup g) (if g=f then aa u else mA g);rw[zfF];by_cases q:g=f
  ·rw[if_pos q,if_pos q];exact ry
  ·rw[if_neg q,if_neg q];exact r g
 ·by_cases q:g=f
  ·rw[q];exact(zfG f y fs).1
  ·refine(zfG f y fs).2 g (wi g λz=>hg ?_);show(if g=f then aa u else mA g)=ab;rw[if_neg q];exact z
def Inv.made(I:Inv X pins σ H s):Inv X pins σ (upd (upd H s.heap.objs.size (.own (s.heap.objs.size+1))) (s.heap.objs.size+1) (.ins C s.heap.objs.size []))
  { s with heap:=(s.heap.push cF).push (c6 C s.heap.objs.size)}:=by
 have e1:(s.heap.push cF).get? s.heap.objs.size=aa cF:=aT s.heap rfl;have e2:((s.heap.push cF).push (c6 C s.heap.objs.size)).get? (s.heap.objs.size+1)=aa (c6 C s.heap.objs.size):=by
  have:=aT (s.heap.push cF) (o:=c6 C s.heap.objs.size) rfl;rwa [gW]at this
 have e3:(s.heap.push cF).Ns s.heap.objs.size (λ_=>ab):=⟨cF,#[],_,e1,rfl,(λe he=>absurd he (by simp)),λ_=>rfl⟩
 have I1:=I.laid (a:=s.heap.objs.size) (o:=.own (s.heap.objs.size+1)) (h':=s.heap.push cF) (t':=s.toks) (λb u q=>ax _ q) (ak _) ⟨_,e1⟩;refine I1.laid (a:=s.heap.objs.size+1) (o:=.ins C s.heap.objs.size []) (t':=s.toks) (λb u q=>ax _ q) (dC (gW _ _)) ?_;have ne:s.heap.objs.size≠s.heap.objs.size+1:=bz (eT _);refine⟨by rw[zai ne,zaj],aL _,ne,e2,λ_=>ab,(Heap.Ns1.of_empty e3).at λo q=>ax _ q,λ_=>fB,λy hy=>absurd rfl hy⟩
def attr_of{prog:aI}{w:aO}{env:Env}{e:Expr}{f:Str}{pos:Pos}{s:ai}{Q:ag->ai->Prop}(hb:bT e f env (eval e env)=eval e env)
  (h:aM (model prog w) A (eval e env) (λo s₁=>aM (model prog w) A (getAttr o f true) Q E s₁) E s):aM (model prog w) A (eval (.Attribute e f pos) env) Q E s:=
 Attribute_any_ h (by rw[arm_eval_Attribute,hb])
end
def zi3(K:af)(ta:TE)(f:Str):TE:=λσ H Q=>ta σ H λx H1=>∃a C dx fs v,x=.ref a/\H1 a=aa (.ins C dx fs)/\Cls K C/\NoAttr K C f/\fs.lookup f=aa v/\Q v H1
def sFld(K:af)(ta tv:TE)(f:Str):TS:=λD σ H=>tv σ H λy H1=>ta σ H1 λx H2=>∃a C dx fs,x=.ref a/\H2 a=aa (.ins C dx fs)/\Cls K C/\NoAttr K C f/\fs.length<1000 /\
 D.nx σ (upd H2 a (.ins C dx (zgd f y fs)))
section
variable {X:Cx}{o e value:Expr}{f:Str}{pos pos' tpos:Pos}{ta tv:TE}
def zed(he:PE X e ta)(hb:bT e f X.env (eval e X.env)=eval e X.env):PE X (.Attribute e f pos) (zi3 X.K ta f):=by
 intro pins s σ H Q I h;refine attr_of hb (thn (he pins s σ H _ I h) ?_);rintro u s1 ⟨x,H1,I1,rx,a,C,dx,fs,v,ex,ea,c,n,l,q⟩;subst ex;obtain rfl:u=bq a:=rx;exact zjR I1 ea c n l λu' s2 I2 ru=>⟨v,H1,I2,ru,q⟩
def ps_fld(ha:PE X o ta)(hv:PE X value tv)(hs:swapsWith value (aa (.Attribute o f pos')) pos.line X.env=pure false):PS X (.Assign [.Attribute o f pos'] value pos) (sFld X.K ta tv f):=by
 intro pins s σ H D I h;refine plainObj_wpAny_Assign_Attribute (thn (hv pins s σ H _ I h) λu s1 ⟨y,H1,I1,ry,q⟩=>thn (ha pins s1 σ H1 _ I1 q) ?_) hs;rintro ov s2 ⟨x,H2,I2,rx,a,C,dx,fs,ex,ea,c,n,l,q2⟩;subst ex;obtain rfl:ov=bq a:=rx;exact zke I2 ea c n l ry λs3 I3=>⟨σ,_,I3,q2⟩
end
section
variable {X:Cx}{pins:List (ae×Obj)}{σ:St}{H:Hp}{s:ai}{A:aW}{E:ag->ai->Prop}{Q:ag->ai->Prop}{c:ag}{b:Bool}
inductive TyOf(K:af)(H:Hp):V->ag->Prop where
 |non:TyOf K H .non (.type "NoneType")
 |bl (x:Bool):TyOf K H (.bl x) (.type "bool")
 |int (i:Int):TyOf K H (.int i) (.type "int")
 |str (x:Str):TyOf K H (.str x) (.type "str")
 |flt (x:UInt64):TyOf K H (.flt x) (.type "float")
 |lst {a:ae} {xs:List V} (e:H a=aa (.lst xs)):TyOf K H (.ref a) (.type "list")
 |frz {a:ae} {o:Obj} {xs:List V} (e:H a=aa (.frz o (.lst xs))):TyOf K H (.ref a) (.type "list")
 |tup {a:ae} {xs:List V} (e:H a=aa (.tup xs)):TyOf K H (.ref a) (.type "tuple")
 |dK {a:ae} {kvs:List (Key×V)} (e:Rd H a (.dK kvs)):TyOf K H (.ref a) (.type "dict")
 |dT {a:ae} {kvs:List (List Key×V)} (e:H a=aa (.dT kvs)):TyOf K H (.ref a) (.type "dict")
 | ins {a C dx:ae} {fs:List (Str × V)} (e:H a=aa (.ins C dx fs)) (cl:Cls K C) (ha:aZ K (.ref C) "__class__" = aa (aa (.builtin "object.__class__")))
   (hn:iZ K (.builtin "object.__class__") "__get__" =aa (aa (.builtin "getset_descriptor.__get__"))) (htk:PySem.W.takesIn K (.builtin "object.__class__")=aa true)
   (hm:PySem.W.mroIn K C (.type "object")=aa true):TyOf K H (.ref a) (.ref C)
end
end L2
namespace L2
open PySem PySem.Spec PyProof.Rows
structure Room(k:Nat)(A:aW):Prop where
 hd:A.handled=ab
 dp:A.depth+3*k+5<recursionLimit
 un:A.units+16*k+200<cLine
def Room.mono{j k:Nat}{A:aW}(r:Room k A)(h:j<=k):Room j A:=⟨r.hd,by have:=r.dp;lia,by have:=r.un;lia⟩
def Room.deeper{k:Nat}{A:aW}(r:Room (k+1) A)(env:Env):Room k (A.deeper env):=
 ⟨r.hd,by have:=r.dp;show A.depth+1+3*k+5<_;lia,by have:=r.un;show A.units+3+16*k+200<_;lia⟩
def zj7{A:aW}{C:ae}{us:List ag}{kw:List (Str×ag)}:(A.under (.builtin "type.__call__" ⟨.ref C::us,kw⟩)).depth=A.depth+1:=by
 first|rfl|simp[iP,Code.weight,Code.isCreation,Code.isGuard,Code.isCaller,kH,iQ,guardIds]
def zj5{A:aW}{C:ae}{us:List ag}{kw:List (Str×ag)}:(A.under (.builtin "type.__call__" ⟨.ref C::us,kw⟩)).units=A.units+1:=by
 first|rfl|simp[iP,Code.cUnits,kH,iQ]
def Room.make{k:Nat}{A:aW}(r:Room (k+1) A)(C:ae)(us:List ag)(kw:List (Str×ag)):Room k (A.under (.builtin "type.__call__" ⟨.ref C::us,kw⟩)):=
 ⟨r.hd,by have:=r.dp;rw[zj7];lia,by have:=r.un;rw[zj5];lia⟩
def Room.depth{k:Nat}{A:aW}(r:Room k A):A.depth<recursionLimit:=by have:=r.dp;lia
def Room.units{k:Nat}{A:aW}(r:Room k A):A.units+64<cLine:=by have:=r.un;lia
def tNil:TA:=λ_ H Q=>Q [] H
def tCons(ta:TE)(tr:TA):TA:=λσ H Q=>ta σ H λx H1=>tr σ H1 λxs H2=>Q (x::xs) H2
section
variable {X:Cx}{e:Expr}{es:List Expr}{te:TE}{t:TA}{pos:Pos}
def pa_nil:PA X [] tNil:=λ_ _ _ _ H Q I h=>Calls.spliced_nil ⟨[],H,I,.nil,h⟩
def pa_cons(ha:PE X e te)(hr:PA X es t)(hs:br (e::es) X.env=(false,eval e X.env)::br es X.env:=by rfl):PA X (e::es) (tCons te t):=by
 intro pos pins s σ H Q I h;rw[hs];show aM _ _ (spliced ((false,eval e X.env)::backTo pos (br es X.env))) _ _ s;refine Calls.spliced_cons (thn (ha pins s σ H _ I h) ?_);rintro u s1 ⟨x,H1,I1,r1,q1⟩;refine thn (hr pos pins s1 σ H1 _ I1 q1) ?_;rintro us s2 ⟨xs,H2,I2,r2,q2⟩;exact⟨x::xs,H2,I2,.cons r1 r2,q2⟩
def tTup(t:TA):TE:=λσ H Q=>t σ H λxs H1=>xs.length<=bj/\∀p,H1 p=ab->Q (.ref p) (upd H1 p (.tup xs))
def tLst(t:TA):TE:=λσ H Q=>t σ H λxs H1=>xs.length<=bj/\∀p,H1 p=ab->Q (.ref p) (upd H1 p (.lst xs))
def pe_tup{x1}(h:PA X es t):PE X (.Tuple es x1 pos) (tTup t):=by
 intro pins s σ H Q I hq;refine wpAny_Tuple_spliced (thn (h pos pins s σ H _ I hq) λus s1 ⟨xs,H1,I1,r,z,q⟩=>⟨by rw[<- r.length];exact z,?_⟩);have hf:H1 s1.heap.objs.size=ab:=I1.hok.fresh (ak _);refine⟨.ref s1.heap.objs.size,upd H1 s1.heap.objs.size (.tup xs),I1.laid (t':=s1.toks) (λb u e=>ax _ e) (ak _) ?_,rfl,q _ hf⟩;exact⟨z,us,r,⟨_,aT _ rfl,rfl,_,rfl⟩⟩
def pe_lst(h:PA X es t):PE X (.List es pos) (tLst t):=by
 intro pins s σ H Q I hq;refine wpAny_List_spliced (thn (h pos pins s σ H _ I hq) λus s1 ⟨xs,H1,I1,r,z,q⟩=>⟨by rw[<- r.length];exact z,?_⟩);have hf:H1 s1.heap.objs.size=ab:=I1.hok.fresh (ak _);refine⟨.ref s1.heap.objs.size,upd H1 s1.heap.objs.size (.lst xs),I1.laid (t':=s1.toks) (λb u e=>ax _ e) (ak _) ?_,rfl,q _ hf⟩;exact⟨z,us,0,r,aT _ rfl⟩
end
abbrev Sp:=List V->Hp->VK->XK->Prop
abbrev CXT:=List Env->Hp->ai->XK->ag->ai->Prop
structure Env0(P:aI)(w:aO)(K:af)(mg:Str->Option ag)(base:aV)(A:aW)(outer:List Env)(s:ai)(H:Hp):Prop where
 frames:A.frames=aa outer
 mod:Mod K mg base
 bs:∀b o,base.get? b=aa o->s.heap.get? b=aa o/\H b=ab
 bsz:base.objs.size<=s.heap.objs.size
 funs:s.heap.FunFrames base outer
 frf:∀b∈frs outer,H b=ab
 hok:HOk P w H s.heap
 bare:AllBare s.gens
def CE(outer:List Env)(P:aI)(w:aO)(H:Hp)(s:ai)(Q:VK)(u:ag)(s':ai):Prop:=
 ∃v H',s'.os=s.os/\AllBare s'.gens/\Un (frs outer) [] H H' s.heap s'.heap/\HOk P w H' s'.heap/\RelV v u/\Q v H'
def CR(CX:CXT)(outer:List Env)(P:aI)(w:aO)(H:Hp)(s:ai)(Q:VK)(E:XK)(r:Result)(s':ai):Prop:=
 match r with
 |.ok (.ret u)=>CE outer P w H s Q u s'
 |.ok _=>False
 |.error e=>CX outer H s E e s'
structure FnOk(P:aI)(w:aO)(K:af)(mg:Str->Option ag)(base:aV)(CX:CXT)(k:Nat)(f:ae)(fd:bx)(ps:List Str)(sp:Sp):Prop where
 len:∀vs H Q E,sp vs H Q E->vs.length=ps.length
 run:∀(A:aW) (outer:List Env) (s:ai) (H:Hp) (args:Args) (us:List ag) (vs:List V) (Q:VK) (E:XK),Room k A->Env0 P w K mg base A outer s H->BindsTo s fd args (ps.zip us)->Vals vs us->sp vs H Q E ->
  codeAny (model P w) A (.call (.ref f) args) (CR CX outer P w H s Q E) s
def FnOk.imp{P:aI}{w:aO}{K:af}{mg:Str->Option ag}{base:aV}{CX:CXT}{k:Nat}{f:ae}{fd:bx}{ps:List Str}{sp sp':Sp}(F:FnOk P w K mg base CX k f fd ps sp)
  (h:∀vs H Q E,sp' vs H Q E->sp vs H Q E):FnOk P w K mg base CX k f fd ps sp':=
 ⟨λvs H Q E q=>F.len vs H Q E (h _ _ _ _ q),λA outer s H args us vs Q E hr he hb hv hs=>F.run A outer s H args us vs Q E hr he hb hv (h _ _ _ _ hs)⟩
def Env0.make{P:aI}{w:aO}{K:af}{mg:Str->Option ag}{base:aV}{A:aW}{outer:List Env}{s:ai}{H:Hp}(e:Env0 P w K mg base A outer s H)(C:ae)(us:List ag)(kw:List (Str×ag)) :
  Env0 P w K mg base (A.under (.builtin "type.__call__" ⟨.ref C::us,kw⟩)) outer s H:=⟨by first|exact e.frames|(simpa [iP,Code.envs,iQ,pushEnvs] using e.frames),e.mod,e.bs,e.bsz,e.funs,e.frf,e.hok,e.bare⟩
section
variable {X:Cx}{pins:List (ae×Obj)}{σ:St}{H:Hp}{s s':ai}
def Inv.env0(I:Inv X pins σ H s):Env0 X.prog X.w X.K X.mg X.base X.A X.stack s H:=
 ⟨I.ok.frames,I.ok.mod,I.bs,aH I.ok.bsz I.sz,I.stack,I.stkFree,I.hok,I.bare⟩
def Inv.after{Q:VK}{u:ag}(I:Inv X pins σ H s)(h:CE X.stack X.prog X.w H s Q u s'):EP X pins σ Q u s':=by
 obtain⟨v,H',os,bare,un,hok,r,q⟩:=h;obtain⟨hh,g,d,t,os'⟩:=s';obtain rfl:os'=s.os:=os;exact⟨v,H',I.call (h':=hh) (g':=g) (d':=d) (t':=t) (ch:=[]) un hok bare (λb z=>absurd z (by simp)),r,q⟩
end
def tCall(sp:Sp)(dvs:List V)(E:XK)(t:TA):TE:=λσ H Q=>t σ H λvs H1=>sp (vs++dvs) H1 Q E
def tMeth(C:ae)(m:Str)(sp:Sp)(dvs:List V)(E:XK)(ta:TE)(t:TA):TE:=λσ H Q=>ta σ H λx H1=>∃a dx fs,x=.ref a/\H1 a=aa (.ins C dx fs)/\fs.lookup m=ab /\
 t σ H1 λvs H2=>sp (x::(vs++dvs)) H2 Q E
def tMake(C:ae)(sp:Sp)(dvs:List V)(E:XK)(t:TA):TE:=λσ H Q=>t σ H λvs H1=>∀x dx,H1 x=ab->H1 dx=ab->dx≠x ->
 sp (.ref x::(vs++dvs)) (upd (upd H1 dx (.own x)) x (.ins C dx [])) (λv H2=>v=.non/\Q (.ref x) H2) E
def Binds(K:af)(fd:bx)(ps:List Str)(ds:List ag):Prop:=
 ∀(s:ai) (us:List ag),K.In s.heap->(us++ds).length=ps.length->BindsTo s fd ⟨us,[]⟩ (ps.zip (us++ds))
def Binds.all{K:af}{fd:bx}{ps:List Str}(h:∀us:List ag,us.length=ps.length->bindArgs fd ⟨us,[]⟩=pure (ps.zip us)):Binds K fd ps []:=λs us _ hl=>by
 rw[aU]at hl ⊢;exact .of_eq (h us hl)
def zcm(CX:CXT)(X:Cx)(E:XK):Prop:=∀(pins:List (ae×Obj)) (σ:St) (H:Hp) (s:ai) (e:ag) (s':ai),Inv X pins σ H s->CX X.stack H s E e s'->X.xe e s'
section
variable {X:Cx}{CX:CXT}{k:Nat}{f C:ae}{fd:bx}{ps:List Str}{sp:Sp}{dvs:List V}{ds:List ag}{E:XK}{x m:Str}{p pos apos:Pos}{e o:Expr}{es:List Expr}{ta:TE}{t:TA}
def run_fn{pins:List (ae×Obj)}{σ:St}{H:Hp}{s:ai}{Q:VK}{us:List ag}{vs:List V}(F:FnOk X.prog X.w X.K X.mg X.base CX k f fd ps sp)(hr:Room k X.A)(hb:Binds X.K fd ps ds)(hd:Vals dvs ds)(hx:zcm CX X E)
  (I:Inv X pins σ H s) (r:Vals vs us) (h:sp (vs++dvs) H Q E):aM (model X.prog X.w) X.A (call (.ref f) us) (EP X pins σ Q) X.xe s:=by
 have r2:Vals (vs++dvs) (us++ds):=r.append hd;have hl:(us++ds).length=ps.length:=by rw[<- r2.length];exact F.len _ _ _ _ h
 refine wpAny_call (codeAny_mono (F.run X.A X.stack s H ⟨us,[]⟩ (us++ds) (vs++dvs) Q E hr I.env0 (hb s us I.kIn hl) r2 h) λr s' hq=>?_);cases r with
 |error e=>exact hx pins σ H s e s' I hq
 |ok fl=>
  cases fl with
  |ret u=>exact I.after hq
  |next=>exact cg hq
  |brk=>exact cg hq
  |cont=>exact cg hq
def ziR(F:FnOk X.prog X.w X.K X.mg X.base CX k f fd ps sp)(hr:Room k X.A)(hg:Gl X x)(hm:X.mg x=aa (.ref f))(hk:bA X.K (.ref f)=true)(hb:Binds X.K fd ps ds)(hd:Vals dvs ds)(hx:zcm CX X E)
  (ha:PA X (e::es) t) (hdb:(x==("__debug__" : Str))=false:=by decide) (he:br (e::es) X.env=(false,eval e X.env)::br es X.env:=by rfl) (hpl:(backTo pos (br es X.env)).any (·.1)=false:=by rfl) :
  PE X (.Call (.Name x p) (e::es) [] pos) (tCall sp dvs E t):=by
 intro pins s σ H Q I h;refine dk (zgO I hg hm ?_ hdb);refine fO (h₀:=X.base) I.ok.mod.kin hk (thn (ha pos pins s σ H _ I h) λus s1 ⟨vs,H1,I1,r,q⟩=>⟨I1.kIn,?_⟩) he hpl;exact run_fn F hr hb hd hx I1 r q
def pe_meth{pl:Sem Bool}(he:PE X o ta)(c:Cls X.K C)(hm:Meth X.K C m f)(F:FnOk X.prog X.w X.K X.mg X.base CX k f fd ps sp)(hr:Room k X.A)(hb:Binds X.K fd ps ds)(hd:Vals dvs ds)(hx:zcm CX X E)(ha:PA X (e::es) t)
  (hst:br (e::es) X.env=(false,eval e X.env)::br es X.env:=by rfl) (hpl:(backTo pos (br es X.env)).any (·.1)=false:=by rfl)
  (ht:eval (.Call (.Attribute o m apos) (e :: es) [] pos) X.env=(do
   let ov <- eval o X.env
   standAt apos.atName
   let (f,first) <- holding [ov] (getMethod ov m pl)
   callWith pos f first (backTo pos (br (e::es) X.env)) (backToKw pos (keywordEach [] X.env))):=by rfl) :
  PE X (.Call (.Attribute o m apos) (e::es) [] pos) (tMeth C m sp dvs E ta t):=by
 intro pins s σ H Q I h;refine gX (pl:=pl) (thn (he pins s σ H _ I h) ?_) ht;rintro u s1 ⟨x,H1,I1,rx,a,dx,fs,ex,ea,l,q⟩;subst ex;obtain rfl:u=bq a:=rx;refine zgw I1 ea c hm l ?_;refine fO (first:=[.ref a]) (h₀:=X.base) I.ok.mod.kin hm.kp (thn (ha pos pins s1 σ H1 _ I1 q) λus s2 ⟨vs,H2,I2,r,q2⟩=>⟨I2.kIn,?_⟩) hst hpl;exact run_fn (us:=.ref a::us) (vs:=.ref a::vs) F hr hb hd hx I2 (.cons rfl r) q2
def pe_meth0{pl:Sem Bool}(he:PE X o ta)(c:Cls X.K C)(hm:Meth X.K C m f)(F:FnOk X.prog X.w X.K X.mg X.base CX k f fd ps sp)(hr:Room k X.A)(hb:Binds X.K fd ps ds)(hd:Vals dvs ds)(hx:zcm CX X E)
  (ht:eval (.Call (.Attribute o m apos) [] [] pos) X.env=(do
   let ov <- eval o X.env
   standAt apos.atName
   let (f,first) <- holding [ov] (getMethod ov m pl)
   callWith pos f first (backTo pos (br [] X.env)) (backToKw pos (keywordEach [] X.env))):=by rfl) :
  PE X (.Call (.Attribute o m apos) [] [] pos) (tMeth C m sp dvs E ta tNil):=by
 intro pins s σ H Q I h;refine gX (pl:=pl) (thn (he pins s σ H _ I h) ?_) ht;rintro u s1 ⟨x,H1,I1,rx,a,dx,fs,ex,ea,l,q⟩;subst ex;obtain rfl:u=bq a:=rx;refine zgw I1 ea c hm l ?_;exact iC (first:=[.ref a]) I1.kIn hm.kp (run_fn (us:=[.ref a]) (vs:=[.ref a]) F hr hb hd hx I1 (.cons rfl .nil) q)
structure Mk(K:af)(C f:ae):Prop where
 makes:eH K C=true
 init:aZ K (.ref C) "__init__" =aa (aa (.ref f))
 fn:c8 K (.ref f)=true
 kp:bA K (.ref C)=true
def zi2{pins:List (ae×Obj)}{σ:St}{H:Hp}{s:ai}{Q:VK}{us:List ag}{vs:List V}(M:Mk X.K C f)(F:FnOk X.prog X.w X.K X.mg X.base CX k f fd ps sp)(hr:Room (k+1) X.A)(hb:Binds X.K fd ps ds)(hd:Vals dvs ds)
  (hx:zcm CX X E) (I:Inv X pins σ H s) (r:Vals vs us)
  (h:∀x dx,H x=ab->H dx=ab->dx≠x->sp (.ref x::(vs++dvs)) (upd (upd H dx (.own x)) x (.ins C dx [])) (λv H2=>v=.non/\Q (.ref x) H2) E) :
  aM (model X.prog X.w) X.A (call (.ref C) us) (EP X pins σ Q) X.xe s:=by
 have hq:=h (s.heap.objs.size+1) s.heap.objs.size (I.hok.fresh (dR _)) (I.hok.fresh (ak _)) (bz (eT _));have I2:=Inv.made (C:=C) I;have r2:Vals (V.ref (s.heap.objs.size+1)::(vs++dvs)) (bq (s.heap.objs.size+1)::(us++ds)):=.cons rfl (r.append hd);have hl:(bq (s.heap.objs.size+1)::us++ds).length=ps.length:=by
  have e:=r2.length;rw[F.len _ _ _ _ hq]at e;exact e.symm
 refine wpAny_call (make_map (f:=f) I.kIn M.makes M.init (beq_iff_eq.mp M.fn) (codeAny_mono (F.run _ X.stack _ _ ⟨bq (s.heap.objs.size+1)::us,[]⟩ (bq (s.heap.objs.size+1)::(us++ds)) _ _ E (hr.make C us [])
  (I2.env0.make C us []) (hb _ (bq (s.heap.objs.size+1)::us) I2.kIn hl) r2 hq) λr s' hq'=>?_))
 cases r with
 |error e=>exact hx pins σ _ _ e s' I2 hq'
 |ok fl=>
  cases fl with
  |ret u=>
   obtain⟨v,H',I3,rv,ev,q3⟩:=I2.after hq';subst ev;exact⟨rv,⟨V.ref (s.heap.objs.size+1),H',I3,rfl,q3⟩⟩
  |next=>exact cg hq'
  |brk=>exact cg hq'
  |cont=>exact cg hq'
def pe_make(M:Mk X.K C f)(F:FnOk X.prog X.w X.K X.mg X.base CX k f fd ps sp)(hr:Room (k+1) X.A)(hg:Gl X x)(hm:X.mg x=aa (.ref C))(hb:Binds X.K fd ps ds)(hd:Vals dvs ds)(hx:zcm CX X E)
  (ha:PA X (e::es) t) (hdb:(x==("__debug__" : Str))=false:=by decide) (he:br (e::es) X.env=(false,eval e X.env)::br es X.env:=by rfl) (hpl:(backTo pos (br es X.env)).any (·.1)=false:=by rfl) :
  PE X (.Call (.Name x p) (e::es) [] pos) (tMake C sp dvs E t):=by
 intro pins s σ H Q I h;refine dk (zgO I hg hm ?_ hdb);refine fO (h₀:=X.base) I.ok.mod.kin M.kp (thn (ha pos pins s σ H _ I h) λus s1 ⟨vs,H1,I1,r,q⟩=>⟨I1.kIn,?_⟩) he hpl;exact zi2 M F hr hb hd hx I1 r q
def pe_make0(M:Mk X.K C f)(F:FnOk X.prog X.w X.K X.mg X.base CX k f fd ps sp)(hr:Room (k+1) X.A)(hg:Gl X x)(hm:X.mg x=aa (.ref C))(hb:Binds X.K fd ps ds)(hd:Vals dvs ds)(hx:zcm CX X E)
  (hdb:(x==("__debug__" : Str))=false:=by decide):PE X (.Call (.Name x p) [] [] pos) (tMake C sp dvs E tNil):=by
 intro pins s σ H Q I h;refine dk (zgO I hg hm ?_ hdb);exact iC I.kIn M.kp (zi2 (us:=[]) M F hr hb hd hx I .nil h)
end
def PK(X:Cx)(kws:List Keyword)(t:TA):Prop:=
 ∀(pos:Pos) (pins:List (ae×Obj)) (s:ai) (σ:St) (H:Hp) (Q:List V->Hp->Prop),Inv X pins σ H s->t σ H Q->aM (model X.prog X.w) X.A (evalAll ((backToKw pos (keywordEach kws X.env)).map (·.2))) (AP X pins σ Q) X.xe s
section
variable {X:Cx}{CX:CXT}{k:Nat}{f C:ae}{fd:bx}{ps ks:List Str}{sp:Sp}{E:XK}{x m:Str}{p pos apos kpos:Pos}{e o:Expr}{es:List Expr}{kws:List Keyword}{te ta:TE}{t tk:TA}{nm:Option Str}
def pk_nil:PK X [] tNil:=λ_ _ _ _ H Q I h=>wpAny_evalAll_nil ⟨[],H,I,.nil,h⟩
def pk_cons(ha:PE X e te)(hr:PK X kws t):PK X (⟨nm,e,kpos⟩::kws) (tCons te t):=by
 intro pos pins s σ H Q I h;show aM _ _ (evalAll ((do let v <- eval e X.env;standAt pos;pure v)::(backToKw pos (keywordEach kws X.env)).map (·.2))) _ _ s;refine wpAny_evalAll_cons (ay (thn (ha pins s σ H _ I h) λu s1 ⟨x,H1,I1,r1,q1⟩=>ay (wpAny_standAt (a8 ?_))));refine thn (hr pos pins s1 σ H1 _ I1 q1) ?_;rintro us s2 ⟨xs,H2,I2,r2,q2⟩;exact⟨x::xs,H2,I2,.cons r1 r2,q2⟩
structure KBinds(K:af)(fd:bx)(ps ks:List Str)(g:List ag->List ag->List ag)(gV:List V->List V->List V):Prop where
 to:∀(s:ai) (us ws:List ag),K.In s.heap->(g us ws).length=ps.length->BindsTo s fd ⟨us,ks.zip ws⟩ (ps.zip (g us ws))
 rel:∀{vs:List V} {us:List ag} {zs:List V} {ws:List ag},Vals vs us->Vals zs ws->Vals (gV vs zs) (g us ws)
variable {g:List ag->List ag->List ag}{gV:List V->List V->List V}
end
structure FnScope(N P:List Str)(sc:Scope):Prop where
 kind:sc.kind=.function
 co:sc.isCoroutine=false
 gen:sc.isGenerator=false
 nd:N.Nodup
 pre:N.take P.length=P
 par:∀x∈P,sc.names.lookup x=aa .local\/sc.names.lookup x=aa .cell
 nofree:∀y∈sc.names,y.2≠.free
def zh2{kindOf:Str->Option NameKind}{x:Str}:∀{binds:List (Str×ag)} {m:Str->Option ag},(∀v,(x,v)∉binds)->bindL kindOf binds m x=m x
 |[],_,_=>rfl
 |(n,v)::r,m,h=>by
  unfold bindL;rw[zh2 λw hw=>h w (ah _ hw)];split
  ·have:x≠n:=by rintro rfl;exact h v aj
   simp[this]
  ·rfl
def zho{kindOf:Str->Option NameKind}{x:Str}:∀{binds:List (Str×ag)} {m:Str->Option ag},(∀v,(x,v)∉binds)->bindC kindOf binds m x=m x
 |[],_,_=>rfl
 |(n,v)::r,m,h=>by
  unfold bindC;rw[zho λw hw=>h w (ah _ hw)];split
  ·rfl
  ·have:x≠n:=by rintro rfl;exact h v aj
   simp[this]
def zhq{kindOf:Str->Option NameKind}{x:Str}{v:ag}:∀{P:List Str} {vs:List ag} {i:Nat} {m:Str->Option ag},P.Nodup->P[i]? =aa x->vs[i]? =aa v->kindOf x=aa .local ->
  bindL kindOf (P.zip vs) m x=aa v
 |[],_,_,_,_,h,_,_=>by simp at h
 | _::_,[],_,_,_,_,h,_=>by simp at h
 |p::P,w::vs,0,m,nd,h1,h2,hk=>by
  simp at h1 h2;subst h1;subst h2;show bindL kindOf ((p,w)::P.zip vs) m p=_;unfold bindL;rw[zh2 λv hv=>(aB.mp nd).1 (gF hv).1,if_pos hk];simp
 |p::P,w::vs,i+1,m,nd,h1,h2,hk=>by
  show bindL kindOf ((p,w)::P.zip vs) m x=_;unfold bindL;exact zhq (i:=i) (aB.mp nd).2 (by simpa using h1) (by simpa using h2) hk
def zin{kindOf:Str->Option NameKind}{x:Str}{v:ag}:∀{P:List Str} {vs:List ag} {i:Nat} {m:Str->Option ag},P.Nodup->P[i]? =aa x->vs[i]? =aa v->kindOf x≠aa .local ->
  bindC kindOf (P.zip vs) m x=aa v
 |[],_,_,_,_,h,_,_=>by simp at h
 | _::_,[],_,_,_,_,h,_=>by simp at h
 |p::P,w::vs,0,m,nd,h1,h2,hk=>by
  simp at h1 h2;subst h1;subst h2;show bindC kindOf ((p,w)::P.zip vs) m p=_;unfold bindC;rw[zho λv hv=>(aB.mp nd).1 (gF hv).1,if_neg hk];simp
 |p::P,w::vs,i+1,m,nd,h1,h2,hk=>by
  show bindC kindOf ((p,w)::P.zip vs) m x=_;unfold bindC;exact zin (i:=i) (aB.mp nd).2 (by simpa using h1) (by simpa using h2) hk
def start(N:List Str)(vs:List V):St:=vs.map aa++aG (N.length-vs.length) ab
def cxOf(CX:CXT)(P:aI)(w:aO)(K:af)(mg:Str->Option ag)(base:aV)(N:List Str)(qual:Str)(scope:Scope)(f:ae)(cd:ag)(A:aW)(outer:List Env)(s:ai)(H:Hp)(E:XK):Cx where
 prog:=P
 w:=w
 K:=K
 mg:=mg
 base:=base
 A:=A.deeper (envOfC qual scope s.heap.objs.size f cd)
 N:=N
 s₀:=s
 H₀:=H
 env:=envOfC qual scope s.heap.objs.size f cd
 outer:=outer
 stack:=envOfC qual scope s.heap.objs.size f cd::outer
 ex:=[]
 calm:=true
 fn:=λ_=>true
 pn:=[]
 xe:=λe s'=>aM (model P w) (A.deeper (envOfC qual scope s.heap.objs.size f cd)) (leaving (envOfC qual scope s.heap.objs.size f cd) e) (λ_ s''=>CX outer H s E e s'') (λe' s''=>CX outer H s E e' s'') s'
def zjo{sc:Scope}{n:Nat}{x:Str}(h:sc.names.lookup x=aa .cell):∃c,(cellsFrom n sc.names []).lookup x=aa c:=by
 have q:=gP sc.names n [] (.inl h);exact Option.isSome_iff_exists.mp q
def inv_start{CX:CXT}{P:aI}{w:aO}{K:af}{mg:Str->Option ag}{base:aV}{N ps:List Str}{qual:Str}{scope:Scope}{f:ae}{cd:ag}{A:aW}{outer:List Env}{s s1:ai}{H:Hp}{E:XK}{us:List ag}{vs:List V}
  (S:FnScope N ps scope) (hd:A.handled=ab) (e0:Env0 P w K mg base A outer s H) (hl:vs.length=ps.length) (r:Vals vs us)
  (x:InCallC s s.heap.objs.size (bindL (envOfC qual scope s.heap.objs.size f cd).kindOf (ps.zip us) λ_=>ab) (cellsFrom (s.heap.objs.size+1) scope.names []) (bindC (envOfC qual scope s.heap.objs.size f cd).kindOf (ps.zip us) λ_=>ab) s1) :
  Inv (cxOf CX P w K mg base N qual scope f cd A outer s H E) [] (start N vs) H s1:=by
 have hpl:ps.length<=N.length:=by have:=congrArg cZ S.pre;rw[bw]at this;lia
 obtain⟨h1,tk,rfl,hk⟩:=x.done;have noA:∀b:ae,b∉(cxOf CX P w K mg base N qual scope f cd A outer s H E).ex:=λb z=>absurd (show b∈([]:List ae)from z) (by simp);refine⟨⟨e0.mod,S.kind,rfl,rfl,ak _,λy z c h1 h2=>?_,λy hy=>?_,λy c _ h=>?_,λ_=>hd,Around.frames_deeper e0.frames,.inr ⟨rfl,rfl⟩,λb z=>absurd z (noA b),e0.bs,e0.bsz,λb _ _=>noA b,λb z=>absurd z (noA b),e0.funs,e0.frf⟩,
  rfl,e0.bare,Un.kept hk,⟨_,x.toInCall.ns,λi y v h1 h2 h3=>?_⟩,λy c h=>⟨_,x.cell y c h⟩,e0.hok.fresh (ak _),λy c h=>?_,λp hp=>absurd (show p∈([]:List (ae×Obj))from hp) (by simp),e0.hok.kept hk,?_⟩
 ·exact name_of_addr x.apart (bV h1) (bV h2)
 ·have hy:scope.names.lookup y=aa .cell\/scope.names.lookup y=aa .free:=hy;rcases hy with hy|hy
  ·exact zjo hy
  ·exact absurd rfl (S.nofree _ (bV hy))
 ·exact bB (x.above y c (bV h))
 ·have hi:i<vs.length:=by
   unfold start at h2;by_cases hi:i<vs.length
   ·exact hi
   ·rw[bL (by simpa using hi)]at h2;rw[dg]at h2;split at h2 <;> cases h2
  have ha:vs[i]? =aa v:=by
   unfold start at h2;rw[bg (by simpa using hi),aA]at h2;cases e:vs[i]? with
   |none=>rw[e]at h2;cases h2
   |some a=>rw[e]at h2;cases h2;rfl
  obtain⟨u,hu,rv⟩:=r.get ha;have hp:ps[i]? =aa y:=by
   rw[<- S.pre,c9 (by lia)];exact h1
  have ndP:ps.Nodup:=by rw[<- S.pre];exact S.nd.sublist (List.take_sublist _ _)
  refine⟨u,rv,?_⟩;rcases S.par y (cL hp)with k|k
  ·exact .inl ⟨k,zhq ndP hp hu k⟩
  ·obtain⟨c,e⟩:=zjo (n:=s.heap.objs.size+1) k;refine .inr ⟨.inl k,c,e,?_⟩;have q:=x.cell y c e;rw[zin ndP hp hu (by show scope.names.lookup y≠_;rw[k];decide)]at q;exact q
 ·exact e0.hok.fresh (bB (x.above y c (bV h)))
 ·unfold start;show _=N.length;rw[am,al,cH];lia
def fn_of{CX:CXT}{P:aI}{w:aO}{K:af}{mg:Str->Option ag}{base:aV}{k:Nat}{f:ae}{name qual:Str}{params:Arguments}{body:List Stmt}{scope:Scope}{dV kV doc pm cdv ct oc:ag}{an od:Option ae}
  {osl:Array (Option ag)} {N ps:List Str} {sp:Sp} (lk:K.lookup f=aa ⟨oc,od,.func (bP name qual params body scope dV kV doc pm an cdv ct),osl⟩) (hcd:b8 K cdv qual=true) (S:FnScope N ps scope)
  (len:∀vs H Q E,sp vs H Q E->vs.length=ps.length)
  (hbody:∀ (A:aW) (outer:List Env) (s:ai) (H:Hp) (vs:List V) (Q:VK) (E:XK),Room k (A.deeper (envOfC qual scope s.heap.objs.size f cdv))->sp vs H Q E ->
   ∃t,PSs (cxOf CX P w K mg base N qual scope f cdv A outer s H E) body t/\t { nx:=λ_ H'=>Q .non H',rt:=Q} (start N vs) H) :
  FnOk P w K mg base CX (k+1) f (bP name qual params body scope dV kV doc pm an cdv ct) ps sp:=by
 refine⟨len,λA outer s H args us vs Q E hr e0 hb r hsp=>?_⟩;have hl:=len _ _ _ _ hsp;have KX:K.In s.heap:=e0.mod.kin.keeps λb o e=>(e0.bs b o e).1;have lim:s.heap.NoLimit:=e0.mod.nolimit.keeps λb o e=>(e0.bs b o e).1;have hkind:∀y∈ps.zip us,scope.names.lookup y.1=aa .local\/(scope.names.lookup y.1=aa .cell/\((cellsFrom (s.heap.objs.size+1) scope.names []).lookup y.1).isSome=true):=λ⟨n,v⟩ hy=>by
  rcases S.par n (gF hy).1 with q|q
  ·exact .inl q
  ·exact .inr ⟨q,gP _ _ _ (.inl q)⟩
 refine codeAny_call_function hr.depth (KX _ _ lk) rfl S.co S.gen rfl (PySem.W.codeRec_of KX hcd) (hb _ _ _ _ ?_);refine wpAny_newFunctionEnv_cells S.kind hkind λenv he s1 x=>?_;subst he;refine⟨lim.keeps x.toInCall.keep,codeAny_func ?_⟩;obtain⟨t,ht,hq⟩:=hbody A outer s H vs Q E (hr.deeper _) hsp;have I:Inv (cxOf CX P w K mg base N qual scope f cdv A outer s H E) [] (start N vs) H s1:=inv_start S hr.hd e0 hl r x;refine bX (ht [] s1 (start N vs) H _ I hq) (λfl s' hs=>?_) λe s' hs=>hs;have fin:∀{σ':St} {H':Hp} {v:V} {u:ag},Inv (cxOf CX P w K mg base N qual scope f cdv A outer s H E) [] σ' H' s'->RelV v u->Q v H'->CE outer P w H s Q u s':=
  fun {σ' H' v u} J rv q=>⟨v,H',J.os,J.bare,J.base,J.hok,rv,q⟩
 cases fl with
 |ret u=>
  obtain⟨v,σ',H',J,rv,q⟩:=hs;exact fin J rv q
 |next=>
  obtain⟨σ',H',J,q⟩:=hs;exact fin (v:=V.non) (u:=ig) J rfl q
 |brk=>
  obtain⟨_,_,_,q⟩:=hs;exact cg q
 |cont=>
  obtain⟨_,_,_,q⟩:=hs;exact cg q
end L2
namespace L2
open PySem PySem.Spec PyProof.Rows
section
variable {X:Cx}{x:Str}{p pos:Pos}{e:Expr}{es:List Expr}{t:TA}{id T:String}{r:List V->Hp->VK->Prop}
def tCB(r:List V->Hp->VK->Prop)(t:TA):TE:=λσ H Q=>t σ H λvs H1=>r vs H1 Q
def pe_callB(hc:zd7 X (.builtin id) r)(hg:Gl X x)(hm:X.mg x=ab)(hv:bO x=aa (.builtin id))(ha:PA X (e::es) t)(hn:x≠ "__name__" :=by decide)(hdb:(x==("__debug__" : Str))=false:=by decide)
  (he:br (e::es) X.env=(false,eval e X.env)::br es X.env:=by rfl) (hpl:(backTo pos (br es X.env)).any (·.1)=false:=by rfl):PE X (.Call (.Name x p) (e::es) [] pos) (tCB r t):=by
 intro pins s σ H Q I h;refine dk (zhQ I hg hm hv ?_ hn hdb);exact jj (thn (ha pos pins s σ H _ I h) λus s1 ⟨vs,H1,I1,r1,q1⟩=>hc pins s1 σ H1 vs us Q I1 r1 q1) he hpl
def pe_callTy(hc:zd7 X (.type T) r)(hg:Gl X x)(hm:X.mg x=ab)(hv:bO x=aa (.type T))(ha:PA X (e::es) t)(hn:x≠ "__name__" :=by decide)(hdb:(x==("__debug__" : Str))=false:=by decide)
  (he:br (e::es) X.env=(false,eval e X.env)::br es X.env:=by rfl) (hpl:(backTo pos (br es X.env)).any (·.1)=false:=by rfl):PE X (.Call (.Name x p) (e::es) [] pos) (tCB r t):=by
 intro pins s σ H Q I h;refine dk (zhQ I hg hm hv ?_ hn hdb);exact d7 (thn (ha pos pins s σ H _ I h) λus s1 ⟨vs,H1,I1,r1,q1⟩=>hc pins s1 σ H1 vs us Q I1 r1 q1) he hpl
end
end L2
namespace HT
open PySem PyProof.Rows
section
open PySem.SeqAt
open PySem.AutoSeq1 (wpAny_loadPart')
open PySem.MeetsSeq PySem.MeetsSeq2 PySem.MeetsSeq3
end
section
variable {prog:aI}{w:aO}{A:aW}{E:ag->ai->Prop}{s:ai}
def sIx(n d:Nat):Option Int->Nat
 |none=>d
 |some v=>if v<0 then (v+(n:Int)).toNat else min v.toNat n
def sIx_none(n d:Nat):sIx n d ab=d:=rfl
def sIx_nat(n d k:Nat):sIx n d (aa (k:Int))=min k n:=by
 show(if (k:Int)<0 then ((k:Int)+(n:Int)).toNat else min (k:Int).toNat n)=min k n;rw[if_neg (by lia),eR]
def sIx_le(n d:Nat)(hd:d<=n)(o:Option Int):sIx n d o<=n:=by
 cases o with
 |none=>exact hd
 |some v=>
  show(if v<0 then (v+(n:Int)).toNat else min v.toNat n)<=n;by_cases hv:v<0
  ·rw[if_pos hv];lia
  ·rw[if_neg hv];exact d8 _ _
end
end HT
namespace L2
open PySem PySem.Spec PyProof.Rows
abbrev TO:=St->Hp->(Option Int->Hp->Prop)->Prop
def PO(X:Cx)(e:Option Expr)(t:TO):Prop:=
 ∀(pins:List (ae×Obj)) (s:ai) (σ:St) (H:Hp) (Q:Option Int->Hp->Prop),Inv X pins σ H s->t σ H Q ->
  aM (model X.prog X.w) X.A (evalPart e X.env) (λu s'=>∃o H',Inv X pins σ H' s'/\IsPart u o/\Q o H') X.xe s
def tNoPart:TO:=λ_ H Q=>Q ab H
def tPart(t:TE):TO:=λσ H Q=>t σ H λx H1=>∃i,x=.int i/\Q (aa i) H1
section
variable {X:Cx}{e:Expr}{te:TE}{lo hi:Option Expr}{tl th:TO}{pos p2:Pos}
def po_none:PO X ab tNoPart:=by
 intro pins s σ H Q I h;rw[evalPart_none];exact a8 ⟨ab,H,I,.none,h⟩
def po_some(h:PE X e te):PO X (aa e) (tPart te):=by
 intro pins s σ H Q I hw;rw[evalPart_some];refine thn (h pins s σ H _ I hw) ?_;rintro u s1 ⟨x,H1,I1,r1,q1⟩;obtain⟨i,rfl,q⟩:=q1;obtain⟨t,rfl⟩:=r1;exact⟨aa i,H1,I1,.int i t,q⟩
def SlR(X:Cx)(r:V->Option Int->Option Int->Hp->VK->Prop):Prop:=
 ∀(pins:List (ae×Obj)) (s:ai) (σ:St) (H:Hp) (x:V) (v vl vu:ag) (lo hi:Option Int) (sl:ae) (Q:VK),Inv X pins σ H s->RelV x v->s.heap.IsSliceOf sl vl vu .none->IsPart vl lo->IsPart vu hi->r x lo hi H Q ->
  ∃T id,typeLookup (.type T) "__getitem__" =pure (aa (.builtin id))/\s.TypeIs v T/\aM (model X.prog X.w) X.A (getItem v (.ref sl)) (EP X pins σ Q) X.xe s
def tSl(r:V->Option Int->Option Int->Hp->VK->Prop)(te:TE)(tl th:TO):TE:=λσ H Q=>te σ H λx H1=>tl σ H1 λl H2=>th σ H2 λu H3=>r x l u H3 Q
def pe_slice{r:V->Option Int->Option Int->Hp->VK->Prop}(hr:SlR X r)(he:PE X e te)(hl:PO X lo tl)(hu:PO X hi th):PE X (.Subscript e (.Slice lo hi ab p2) pos) (tSl r te tl th):=by
 intro pins s σ H Q I h;refine Subscript_ (thn (he pins s σ H _ I h) ?_);rintro v s1 ⟨x,H1,I1,r1,q1⟩;refine wpAny_Slice (thn (hl pins s1 σ H1 _ I1 q1) λvl s2 ⟨l,H2,I2,pl,q2⟩=>thn (hu pins s2 σ H2 _ I2 q2) ?_);rintro vu s3 ⟨u,H3,I3,pu,q3⟩;rw[evalPart_none];refine a8 ?_;have I4:Inv X pins σ H3 { s3 with heap:=s3.heap.push { cls:=.type "slice",data:=.fields #[vl,vu,.none]}}:=I3.kept (t':=s3.toks) λb ob q=>ax _ q;obtain⟨T,id,hT,ht,hg⟩:=hr pins { s3 with heap:=s3.heap.push { cls:=.type "slice",data:=.fields #[vl,vu,.none]}} σ H3 x v vl vu l u s3.heap.objs.size Q I4 r1 (kZ ..) pl pu q3;show aM (model X.prog X.w) X.A (subscriptTail e (.Slice lo hi ab p2) v (.ref s3.heap.objs.size)) (EP X pins σ Q) X.xe { s3 with heap:=s3.heap.push { cls:=.type "slice",data:=.fields #[vl,vu,.none]}};exact tail_any (ops:=[.ref s3.heap.objs.size,v]) ht hT hg (by with_unfolding_all rfl)
def cutV(xs:List V)(lo hi:Option Int):List V:=(xs.drop (HT.sIx xs.length 0 lo)).take (HT.sIx xs.length xs.length hi-HT.sIx xs.length 0 lo)
def ziE(xs:List V)(lo hi:Option Int):(cutV xs lo hi).length<=xs.length:=by
 unfold cutV;rw[bw,bS];lia
end
end L2
namespace L2
open PySem PySem.Spec PyProof.Rows
def ixN(n:Nat)(i:Int):Option Nat:=if 0<=i then (if i<n then aa i.toNat else ab)else if -(n:Int)<=i then aa (i+n).toNat else ab
def atI{α:Type}(xs:List α)(i:Int):Option α:=(ixN xs.length i).bind λj=>xs[j]?
def ixN_seq{n:Nat}{i:Int}{j:Nat}(h:ixN n i=aa j):seqIndex? i n=aa j/\j<n /\ -(n:Int)<=i/\i<n:=by
 unfold ixN at h;by_cases h0:0<=i
 ·rw[if_pos h0]at h;by_cases h1:i<n
  ·rw[if_pos h1]at h;have e:i.toNat=j:=aJ h;exact⟨by rw[seqIndex_of h0 h1,e],by lia,by lia,h1⟩
  ·rw[if_neg h1]at h;cases h
 ·rw[if_neg h0]at h;by_cases h1:-(n:Int)<=i
  ·rw[if_pos h1]at h;have e:(i+n).toNat=j:=aJ h;exact⟨by rw[seqIndex_neg (by lia) h1,e],by lia,h1,by lia⟩
  ·rw[if_neg h1]at h;cases h
def ziA{α:Type}{xs:List α}{i:Int}{v:α}(h:atI xs i=aa v):∃j,seqIndex? i xs.length=aa j/\xs[j]? =aa v/\j<xs.length /\ -(xs.length:Int)<=i/\i<xs.length:=by
 unfold atI at h;cases e:ixN xs.length i with
 |none=>rw[e]at h;cases h
 |some j=>
  rw[e]at h;obtain⟨h1,h2,h3,h4⟩:=ixN_seq e;exact⟨j,h1,h,h2,h3,h4⟩
def ziG(b:Expr):Prop:=∀o i,subscripted b false o i=operate [o,i] (getItem o i)
def IxR(X:Cx)(r:R2):Prop:=
 ∀(value slice:Expr) (pins:List (ae×Obj)) (s:ai) (σ:St) (H:Hp) (x y:V) (v u:ag) (Q:VK),Inv X pins σ H s->RelV x v->RelV y u->r x y H Q ->
  subscripted slice false v u=operate [v,u] (getItem v u)->aM (model X.prog X.w) X.A (subscriptTail value slice v u) (EP X pins σ Q) X.xe s
def MtR(X:Cx)(id:String)(r:V->List V->Hp->VK->Prop):Prop:=
 ∀(pins:List (ae×Obj)) (s:ai) (σ:St) (H:Hp) (x:V) (xs:List V) (v:ag) (us:List ag) (Q:VK),Inv X pins σ H s->RelV x v->Vals xs us->r x xs H Q ->
  aM (model X.prog X.w) X.A (call (.builtin id) (v::us)) (EP X pins σ Q) X.xe s
section
variable {X:Cx}{a b:Expr}{ta tb:TE}{pos:Pos}
def pe_ix{r:R2}(hr:IxR X r)(ha:PE X a ta)(hb:PE X b tb)(hs:ziG b):PE X (.Subscript a b pos) (tOp r ta tb):=by
 intro pins s σ H Q I h;exact Subscript_ (binT ha hb I h λv u s2 x y H2 I2 rx ry q=>hr a b pins s2 σ H2 x y v u Q I2 rx ry q (hs _ _))
def rIxL(K:af):R2:=λx y H Q=>∃p xs i v,x=.ref p/\y=.int i/\SqL K H p xs/\atI xs i=aa v/\Q v H
def rIxT(K:af):R2:=λx y H Q=>∃p xs i v,x=.ref p/\y=.int i/\SqT K H p xs/\atI xs i=aa v/\Q v H
def rIxS:R2:=λx y H Q=>∃z i c,x=.str z/\y=.int i/\z.length<=bj/\atI z.cps.toList i=aa c/\Q (.str ⟨#[c]⟩) H
def ix_list:IxR X (rIxL X.K):=by
 intro value slice pins s σ H x y v u Q I rx ry h hs;obtain⟨p,xs,i,z,rfl,rfl,hq,he,q⟩:=h;cases rx;obtain⟨t,rfl⟩:=ry;obtain⟨its,r,pl,hz⟩:=I.list hq;obtain⟨j,h1,h2,h3,h4,h5⟩:=ziA he;obtain⟨w,ew,rw'⟩:=r.get h2;have hl:=r.length;have hn:=zgi;have fin:EP X pins σ Q w s:=⟨z,H,I,rw',q⟩
 by_cases h0:0<=i
 ·have hj:i.toNat=j:=by
   rw[seqIndex_of h0 h5]at h1;exact aJ h1
  exact item_listR pl.isList h0 (by lia) (by rw[hj];simpa using ew) fin hs
 ·have hj:(i+(its.toArray.size:Int)).toNat=j:=by
   rw[seqIndex_neg (by lia) h4]at h1;rw[bm,<- hl];exact aJ h1
  exact subscriptTail_builtinR (x:=w) pl.isList.typeIs slot_list_getitem.lookup
   (wpAny_getItem_list_neg (Q:=λr s'=>r=w/\EP X pins σ Q r s') pl.isList (by lia) (by rw[bm] <;> lia) (by lia) (by rw[hj];simpa using ew) ⟨rfl,fin⟩) hs
def ix_tup:IxR X (rIxT X.K):=by
 intro value slice pins s σ H x y v u Q I rx ry h hs;obtain⟨p,xs,i,z,rfl,rfl,hq,he,q⟩:=h;cases rx;obtain⟨t,rfl⟩:=ry;obtain⟨its,r,pl,hz⟩:=I.tuple hq;obtain⟨j,h1,h2,h3,h4,h5⟩:=ziA he;obtain⟨w,ew,rw'⟩:=r.get h2;have hl:=r.length;have hn:=zgi;have fin:EP X pins σ Q w s:=⟨z,H,I,rw',q⟩
 exact subscriptTail_builtinR (x:=w) pl.typeIs slot_tuple_getitem.lookup
  (getItem_tuple (j:=j) (Q:=λr s'=>r=w/\EP X pins σ Q r s') pl (by lia) (by lia) (by rw[bm,<- hl];exact h1) (by simpa using ew) ⟨rfl,fin⟩) hs
def ix_str:IxR X rIxS:=by
 intro value slice pins s σ H x y v u Q I rx ry h hs;obtain⟨z,i,c,rfl,rfl,hz,he,q⟩:=h;obtain⟨t,rfl⟩:=rx;obtain⟨t',rfl⟩:=ry;obtain⟨j,h1,h2,h3,h4,h5⟩:=ziA he;have hl:z.cps.toList.length=z.length:=by simp[ik]
 rw[hl]at h1 h4 h5;have hn:=zgi;exact tail_any (typeIs_str s z t) slot_str_getitem.lookup (getItem_str (c:=c) (by
  have e1:decide (i < -(2 ^ 63:Int))=false:=decide_eq_false (by lia);have e2:decide (i ≥ 2 ^ 63)=false:=decide_eq_false (by lia);rw[e1,e2,Bool.or_false]) (by rw[h1];simpa using h2) ⟨.str ⟨#[c]⟩,H,I.tok _,⟨_,rfl⟩,q⟩) hs
def zj2(its:List ag)(n j:Nat)(u:ag):cj (·.setIfInBounds j u) { cls:=.type "list",data:=.seq its.toArray n}={ cls:=.type "list",data:=.seq (its.set j u).toArray n}:=by
 simp[cj]
def Inv.lst{pins:List (ae×Obj)}{σ:St}{H:Hp}{s:ai}{p:ae}{xs:List V}(I:Inv X pins σ H s)(h:H p=aa (.lst xs)) :
  ∃(its:List ag) (n:Nat),Vals xs its/\s.heap.get? p=aa { cls:=.type "list",data:=.seq its.toArray n}/\xs.length<=bj:=by
 obtain⟨z,its,n,r,e⟩:=I.hok p _ h;exact⟨its,n,r,e,z⟩
def Inv.lstUpd{pins:List (ae×Obj)}{σ:St}{H:Hp}{s:ai}{p:ae}{xs ys:List V}{its its':List ag}{n n':Nat}{f:Obj->Obj}(I:Inv X pins σ H s)(h:H p=aa (.lst xs))
  (ho:s.heap.get? p=aa { cls:=.type "list",data:=.seq its.toArray n}) (hf:f { cls:=.type "list",data:=.seq its.toArray n}={ cls:=.type "list",data:=.seq its'.toArray n'}) (r:Vals ys its') (hz:ys.length<=bj) (t:Nat) :
  Inv X pins σ (upd H p (.lst ys)) { s with heap:=s.heap.update p f,toks:=t}:=by
 have e:(s.heap.update p f).get? p=aa { cls:=.type "list",data:=.seq its'.toArray n'}:=by
  rw[fg f ho (by rw[hf] <;> rfl),hf]
 refine I.write (x:=p) (e:=p) (by rw[h];trivial) (.inl rfl) (λb u hb q=>(cE _ _ (cP hb)).trans q) ⟨_,e⟩ ?_;exact⟨hz,its',n',r,e⟩
def rSetL:V->V->V->Hp->(Hp->Prop)->Prop:=λo i v H Q=>∃p xs k j,o=.ref p/\i=.int k/\H p=aa (.lst xs)/\ixN xs.length k=aa j/\Q (upd H p (.lst (xs.set j v)))
def set_list:PSet X rSetL:=by
 intro pins s σ H o i v ov iv u Q I ro ri rv h;obtain⟨p,xs,k,j,rfl,rfl,hp,hj,q⟩:=h;cases ro;obtain⟨t,rfl⟩:=ri;obtain⟨its,n,r,ho,hz⟩:=I.lst hp;obtain⟨h1,h2,h3,h4⟩:=ixN_seq hj;have hl:=r.length;have hn:=zgi;have I':Inv X pins σ (upd H p (.lst (xs.set j v))) { s with heap:=s.heap.update p (cj (·.setIfInBounds j u))}:=
  I.lstUpd hp ho (zj2 its n j u) (r.set rv j) (by rw[eI];exact hz) s.toks
 by_cases h0:0<=k
 ·have hk:k.toNat=j:=by
   rw[seqIndex_of h0 h4]at h1;exact aJ h1
  exact PySem.W.ki_setAt ho h0 (by lia) (by rw[bm,<- hl];exact h4) (by rw[hk];exact⟨_,I',q⟩)
 ·have hk:(k+(its.toArray.size:Int)).toNat=j:=by
   rw[seqIndex_neg (by lia) h3]at h1;rw[bm,<- hl];exact aJ h1
  exact PySem.W.ki_setBack ho (by lia) (by rw[bm,<- hl];exact h3) (by lia) (by rw[hk];exact⟨_,I',q⟩)
def zh6(lo hi:Option Int)(n:Nat):(sliceBounds lo hi ab n).1=((HT.sIx n 0 lo:Nat):Int)/\(sliceBounds lo hi ab n).2.1=((HT.sIx n n hi:Nat):Int)/\(sliceBounds lo hi ab n).2.2=1:=by
 refine⟨?_,?_,rfl⟩
 ·cases lo with
  |none=>simp[sliceBounds,HT.sIx]
  |some i=>
   simp only[sliceBounds,HT.sIx,jc,show(1:Int) > 0 by decide,if_true];by_cases h:i<0
   ·simp only[h,if_true] <;> lia
   ·simp only[h,if_false] <;> lia
 ·cases hi with
  |none=>simp[sliceBounds,HT.sIx]
  |some i=>
   simp only[sliceBounds,HT.sIx,jc,show(1:Int) > 0 by decide,if_true];by_cases h:i<0
   ·simp only[h,if_true] <;> lia
   ·simp only[h,if_false] <;> lia
def zgL(its:List ag)(lo hi:Option Int):slicePick its.toArray lo hi ab=((its.drop (HT.sIx its.length 0 lo)).take (HT.sIx its.length its.length hi-HT.sIx its.length 0 lo)).toArray:=by
 obtain⟨h1,h2,h3⟩:=zh6 lo hi its.toArray.size;unfold slicePick;rw[h1,h2,h3];simp only[sliceRange_one,pick_run,bm] <;> rfl
def rSlL(K:af):V->Option Int->Option Int->Hp->VK->Prop:=λx lo hi H Q=>∃a xs,x=.ref a/\SqL K H a xs/\∀p,H p=ab->Q (.ref p) (upd H p (.lst (cutV xs lo hi)))
def sl_list:SlR X (rSlL X.K):=by
 intro pins s σ H x v vl vu lo hi sl Q I rx hs pl pu h;obtain⟨a,xs,rfl,hx,q⟩:=h;cases rx;obtain⟨its,r,ht,hz⟩:=I.list hx;have hlen:=r.length;refine⟨"list",_,slot_list_getitem.lookup,ht.isList.typeIs,?_⟩;refine wpAny_getItem_list_slice ht.isList hs pl pu .none (by simp) ?_ (by rw[bm] <;> lia);rw[zgL,<- hlen];refine⟨.ref s.heap.objs.size,_,I.laid (t':=s.toks) (o:=.lst (cutV xs lo hi)) (λb ob q=>ax _ q) (ak _) ?_,rfl,q _ (I.hok.fresh (ak _))⟩;exact⟨aH (ziE xs lo hi) hz,_,0,(r.drop (HT.sIx xs.length 0 lo)).take (HT.sIx xs.length xs.length hi-HT.sIx xs.length 0 lo),aT _ rfl⟩
def flatV:V->Bool
 |.non=>true
 |.bl _=>true
 |.int _=>true
 |.str _=>true
 | _=>false
def eqV:V->V->Bool
 |.non,.non=>true
 |.bl a,.bl b=>a==b
 |.bl a,.int b=>(if a then 1 else 0)==b
 |.int a,.bl b=>a==(if b then 1 else 0)
 |.int a,.int b=>a==b
 |.str a,.str b=>a==b
 | _,_=>false
def eqAt_V{A:aW}{s:ai}{y x:V}{u v:ag}(ry:RelV y u)(rx:RelV x v)(fy:flatV y=true)(fx:flatV x=true):im A s u v (eqV y x):=by
 cases y with
 |non=>
  cases ry;cases x with
  |non=>cases rx;exact gG _
  |bl b=>cases rx;exact kJ b
  |int b=>obtain⟨t,rfl⟩:=rx;exact kO b t
  |str b=>obtain⟨t,rfl⟩:=rx;exact kP b t
  | _=>exact absurd (show false=true from fx) aR
 |bl a=>
  cases ry;cases x with
  |non=>cases rx;exact kK a
  |bl b=>cases rx;exact kL a b
  |int b=>obtain⟨t,rfl⟩:=rx;exact kQ a b t
  |str b=>obtain⟨t,rfl⟩:=rx;exact kR a b t
  | _=>exact absurd (show false=true from fx) aR
 |int a=>
  obtain⟨t',rfl⟩:=ry;cases x with
  |non=>cases rx;exact kS a t'
  |bl b=>cases rx;exact kT a t' b
  |int b=>obtain⟨t,rfl⟩:=rx;exact k5 a t' b t
  |str b=>obtain⟨t,rfl⟩:=rx;exact iJ a t' b t
  | _=>exact absurd (show false=true from fx) aR
 |str a=>
  obtain⟨t',rfl⟩:=ry;cases x with
  |non=>cases rx;exact kU a t'
  |bl b=>cases rx;exact kW a t' b
  |int b=>obtain⟨t,rfl⟩:=rx;exact iK a t' b t
  |str b=>obtain⟨t,rfl⟩:=rx;exact k6 a t' b t
  | _=>exact absurd (show false=true from fx) aR
 | _=>exact absurd (show false=true from fy) aR
def zhm:zd7 X (.builtin "len") (λxs H Q=>∃p ys,xs=[.ref p]/\(SqL X.K H p ys\/SqT X.K H p ys)/\Q (.int ys.length) H):=by
 intro pins s σ H xs us Q I r h;obtain⟨p,ys,rfl,hq,q⟩:=h;obtain⟨u,rfl,rx⟩:=zfD r;cases rx;have hn:=zgi;rcases hq with hq|hq
 ·obtain⟨its,r',pl,hz⟩:=I.list hq;have hlen:=r'.length;exact Calls.call_len_list pl.isList (by simp only[bm] <;> lia) ⟨.int ys.length,H,I.tok _,⟨s.toks+1,by rw[bm,hlen]⟩,q⟩
 ·obtain⟨its,r',pl,hz⟩:=I.tuple hq;have hlen:=r'.length;exact len_tuple pl (by simp only[bm] <;> lia) ⟨.int ys.length,H,I.tok _,⟨s.toks+1,by rw[bm,hlen]⟩,q⟩
def zik:zd7 X (.builtin "len") (λxs H Q=>∃z,xs=[.str z]/\z.length<=bj/\Q (.int z.length) H):=by
 intro pins s σ H xs us Q I r h;obtain⟨z,rfl,hz,q⟩:=h;obtain⟨u,rfl,t,rfl⟩:=zfD r;have hn:=zgi;exact len_str (by lia) ⟨.int z.length,H,I.tok _,⟨_,rfl⟩,q⟩
def zgK:zd7 X (.type "tuple") (λxs H Q=>∃p ys,xs=[.ref p]/\((SqL X.K H p ys/\∀l,H l=ab->Q (.ref l) (upd H l (.tup ys)))\/(SqT X.K H p ys/\Q (.ref p) H))):=by
 intro pins s σ H xs us Q I r h;obtain⟨p,ys,rfl,h⟩:=h;obtain⟨u,rfl,rx⟩:=zfD r;cases rx;rcases h with ⟨hq,q⟩|⟨hq,q⟩
 ·obtain⟨its,r',pl,hz⟩:=I.list hq;have hlen:=r'.length;refine call_tuple_list pl.isList (λh' kp=>?_) (by simp only[bm] <;> lia);have I1:Inv X pins σ H { s with heap:=h'}:=I.kept (t':=s.toks) kp;have I2:Inv X pins σ (upd H h'.objs.size (.tup ys)) { s with heap:=h'.push { cls:=.type "tuple",data:=.seq its.toArray}}:=
   I1.laid (t':=s.toks) (λb o e=>ax _ e) (ak _) (show ObjOk X.prog X.w _ _ _ (.tup ys)from ⟨hz,its,r',TupN.new _ _⟩)
  exact⟨.ref h'.objs.size,_,I2,rfl,q _ (I1.hok.fresh (ak _))⟩
 ·obtain⟨its,r',pl,hz⟩:=I.tuple hq;exact call_tuple_same pl ⟨.ref p,H,I,rfl,q⟩
def tyV(K:af)(T:String)(x:V)(H:Hp):Prop:=match x with
 |.str _=>T = "str"
 |.int _=>T = "int"
 | .ref p=>(T = "list" /\ ∃ xs,SqL K H p xs) \/ (T = "tuple" /\ ∃ o,K.lookup p=aa o/\o.cls=.type "tuple" /\ o.dict=ab) \/
   (T = "dict" /\ ((∃kvs,Rd H p (.dK kvs))\/∃kvs,H p=aa (.dT kvs)))\/(T = "set" /\ ∃S n,H p=aa (.set S n))
 | _=>False
def tyV_is{pins:List (ae×Obj)}{σ:St}{H:Hp}{s:ai}{T:String}{x:V}{v:ag}(I:Inv X pins σ H s)(r:RelV x v)(ty:tyV X.K T x H) :
  s.TypeIs v T/\∀a,v=.ref a->∃ob,s.heap.get? a=aa ob/\ob.dict=ab:=by
 cases x with
 |str z=>
  obtain⟨t,rfl⟩:=r;cases (show T = "str" from ty);exact⟨typeIs_str s z t,λ_ e=>nomatch e⟩
 |int i=>
  obtain⟨t,rfl⟩:=r;cases (show T = "int" from ty);exact⟨typeIs_int s i t,λ_ e=>nomatch e⟩
 |ref p=>
  cases r;rcases ty with ⟨rfl,xs,hq⟩|⟨rfl,o,hk,hc,hd⟩|⟨rfl,hk⟩|⟨rfl,S,n,hk⟩
  ·obtain⟨its,_,pl,_⟩:=I.list hq;refine⟨pl.isList.typeIs,λa e=>?_⟩;cases e;obtain⟨o,n,e,c,hd,_⟩:=pl;exact⟨o,e,hd⟩
  ·refine⟨⟨o,I.kIn p o hk,hc⟩,λa e=>?_⟩;cases e;exact⟨o,I.kIn _ o hk,hd⟩
  ·have z:∃o,s.heap.get? p=aa o/\o.ExactDict:=by
    rcases hk with ⟨kvs,hk⟩|⟨kvs,hk⟩
    ·obtain⟨_,_,_,_,o,_,_,e,ex,_⟩:=hk.ok I.hok;exact⟨o,e,ex⟩
    ·obtain⟨_,_,_,_,o,_,_,e,ex,_⟩:=I.hok p _ hk;exact⟨o,e,ex⟩
   obtain⟨o,e,ex⟩:=z;refine⟨⟨o,e,ex.1⟩,λa e2=>?_⟩;cases e2;exact⟨o,e,ex.2.1⟩
  ·obtain⟨o,_,_,_,e,ex,_⟩:=I.hok p _ hk;refine⟨⟨o,e,ex.1⟩,λa e2=>?_⟩;cases e2;exact⟨o,e,ex.2.1⟩
 | _=>exact cg ty
def tBM0(K:af)(T:String)(r:V->List V->Hp->VK->Prop)(to:TE):TE:=λσ H Q=>to σ H λx H1=>tyV K T x H1/\r x [] H1 Q
def tBM(K:af)(T:String)(r:V->List V->Hp->VK->Prop)(to:TE)(t:TA):TE:=λσ H Q=>to σ H λx H1=>tyV K T x H1/\t σ H1 λxs H2=>r x xs H2 Q
variable {o e:Expr}{es:List Expr}{to:TE}{t:TA}{name:Str}{apos cpos:Pos}{T id:String}{r:V->List V->Hp->VK->Prop}
def pe_bm0(pa:PlainAttrs T)(slot:Slot T name id)(hty:typeOf (.builtin id)=pure (.type "method_descriptor"))(hm:MtR X id r)(ho:PE X o to)
  (hbase:bT o name X.env (eval o X.env)=eval o X.env:=by rfl) (hline:(apos.endLine==cpos.line)=true:=by rfl):PE X (.Call (.Attribute o name apos) [] [] cpos) (tBM0 X.K T r to):=by
 intro pins s σ H Q I h;refine wpAny_Call_method0_late hbase hline (thn (ho pins s σ H _ I h) ?_);rintro v s1 ⟨x,H1,I1,r1,ty,q1⟩;obtain⟨h1,h2⟩:=tyV_is I1 r1 ty;exact⟨T,id,pa,slot,hty,h1,h2,gQ rfl (PySem.evalArgs_none (hm pins s1 σ H1 x [] v [] Q I1 r1 .nil q1))⟩
def pe_bm(pa:PlainAttrs T)(slot:Slot T name id)(hty:typeOf (.builtin id)=pure (.type "method_descriptor"))(hm:MtR X id r)(ho:PE X o to)(ha:PA X (e::es) t)
  (hbase:bT o name X.env (eval o X.env)=eval o X.env:=by rfl)
  (hfew:((backTo cpos (br (e :: es) X.env)).all (fun x=>!x.1) && (backToKw cpos (keywordEach [] X.env)).all (fun x=>x.1.isSome)
   && decide ((e::es).length+([]:List Keyword).length+(if ([]:List Keyword).isEmpty then 0 else 1)<30))=true:=by rfl)
  (hline:(apos.endLine==cpos.line)=true:=by rfl) (hs:br (e::es) X.env=(false,eval e X.env)::br es X.env:=by rfl) (hplain:(backTo cpos (br es X.env)).any (·.1)=false:=by rfl) :
  PE X (.Call (.Attribute o name apos) (e::es) [] cpos) (tBM X.K T r to t):=by
 intro pins s σ H Q I h;refine wpAny_Call_method_late hbase hfew hline rfl (thn (ho pins s σ H _ I h) ?_);rintro v s1 ⟨x,H1,I1,r1,ty,q1⟩;obtain⟨h1,h2⟩:=tyV_is I1 r1 ty;refine⟨T,id,pa,slot,hty,h1,h2,?_⟩;have hA:=ha cpos pins s1 σ H1 _ I1 q1;rw[hs]at hA ⊢;refine gQ (by show(false || (backTo cpos (br es X.env)).any (·.1))=false;rw[hplain] <;> rfl) (Calls.evalArgs_plain ?_);refine thn hA ?_;rintro us s2 ⟨vs,H2,I2,r2,q2⟩;exact hm pins s2 σ H2 x vs v us Q I2 r1 r2 q2
end
end L2
namespace L2
open PySem PySem.Spec PyProof.Rows
def MtM(X:Cx)(id:String)(r:V->List V->Hp->VK->Prop):Prop:=
 ∀(pins:List (ae×Obj)) (s:ai) (σ:St) (H:Hp) (x:V) (xs:List V) (v:ag) (us:List ag) (Q:VK),Inv X pins σ H s->RelV x v->Vals xs us->r x xs H Q ->
  aM (model X.prog X.w) X.A (call (.builtin id) (v::us)) (EP X pins σ Q) X.xe s
def Vals.one:∀{x:V} {us:List ag},Vals [x] us->∃u,us=[u]/\RelV x u
 | _,_,.cons r .nil=>⟨_,rfl,r⟩
def Vals.zero:∀{us:List ag},Vals [] us->us=[]
 | _,.nil=>rfl
def Vals.dropLast{xs:List V}{us:List ag}(h:Vals xs us):Vals xs.dropLast us.dropLast:=by
 induction h with
 |nil=>exact .nil
 |cons r t ih=>
  cases t with
  |nil=>exact .nil
  |cons q t'=>exact .cons r ih
def Vals.eraseIdx:∀{xs:List V} {us:List ag} (i:Nat),Vals xs us->Vals (xs.eraseIdx i) (us.eraseIdx i)
 | _,_,_,.nil=>.nil
 | _,_,0,.cons _ t=>t
 | _,_,i+1,.cons r t=>.cons r (Vals.eraseIdx i t)
def zkb{α:Type}(l:List α):l.eraseIdx (l.length-1)=l.dropLast:=by
 induction l with
 |nil=>rfl
 |cons a r ih=>
  cases r with
  |nil=>rfl
  |cons b r=>
   have e:(a::b::r).length-1=((b::r).length-1)+1:=by
    have h1:(a::b::r).length=r.length+2:=rfl;have h2:(b::r).length=r.length+1:=rfl;lia
   rw[e,List.eraseIdx_cons_succ,ih]
   all_goals rfl
section
variable {X:Cx}{pins:List (ae×Obj)}{σ:St}{H:Hp}{s:ai}{l b:ae}{xs ys zs:List V}
def Inv.lset{its its':List ag}{n:Nat}{f:Array ag->Array ag}{t':Nat}(I:Inv X pins σ H s)(hH:H l=aa (.lst xs))
  (e:s.heap.get? l=aa { cls:=.type "list",data:=.seq its.toArray n}) (hf:f its.toArray=its'.toArray) (hv:Vals ys its') (hz:ys.length<=bj) :
  Inv X pins σ (upd H l (.lst ys)) { s with heap:=s.heap.update l (cj f),toks:=t'}:=by
 have q:=lm e f;rw[hf]at q;refine I.write (x:=l) (e:=l) (by rw[hH];exact trivial) (.inl rfl) (λb' u hb hu=>(cE s.heap (cj f) (cP hb)).trans hu) ⟨_,q⟩ ?_;exact⟨hz,its',_,hv,q⟩
def Inv.fresh(I:Inv X pins σ H s):H s.heap.objs.size=ab:=I.hok.fresh (ak _)
def Inv.lstM(I:Inv X pins σ H s)(hH:H l=aa (.lst xs)):xs.length<=bj/\∃(its:List ag) (n:Nat),Vals xs its/\xs.length=its.length/\s.heap.get? l=aa { cls:=.type "list",data:=.seq its.toArray n}:=by
 obtain⟨z,its,n,r,e⟩:=I.hok l _ hH;exact⟨z,its,n,r,r.length,e⟩
def notLongL{n:Nat}(h:n<=bj):eM n=false:=by
 unfold eM;exact decide_eq_false (by lia)
end
section
variable {X:Cx}
def rAppend:V->List V->Hp->VK->Prop:=λx vs H Q=>∃l xs y,x=.ref l/\vs=[y]/\H l=aa (.lst xs)/\xs.length<bj/\Q .non (upd H l (.lst (xs++[y])))
def zeD:MtM X "list.append" rAppend:=by
 intro pins s σ H x vs v us Q I rx rv h;obtain⟨l,xs,y,rfl,rfl,hH,hz,q⟩:=h;cases rx;obtain⟨u,rfl,ru⟩:=rv.one;obtain⟨z,its,n,r,hl,e⟩:=I.lstM hH;refine call_meets F.slot_list_append ⟨_,e,rfl⟩ F.entry_list_append (F.args_list_append_2 _ _) (PySem.list_append l its.toArray n u (by rw[bm];lia)) ⟨e,?_⟩;refine⟨.non,_,I.lset (its':=its++[u]) hH e (by simp) (r.append (.cons ru .nil)) ?_,rfl,q⟩;rw[am,cI];lia
def rExtend:V->List V->Hp->VK->Prop:=λx vs H Q=>∃l b xs zs,x=.ref l/\vs=[.ref b]/\H l=aa (.lst xs)/\H b=aa (.lst zs)/\xs.length+zs.length<=bj/\Q .non (upd H l (.lst (xs++zs)))
def mt_extend:MtM X "list.extend" rExtend:=by
 intro pins s σ H x vs v us Q I rx rv h;obtain⟨l,b,xs,zs,rfl,rfl,hH,hB,hz,q⟩:=h;cases rx;obtain⟨u,rfl,ru⟩:=rv.one;cases ru;obtain⟨z,its,n,r,hl,e⟩:=I.lstM hH;obtain⟨z2,its2,n2,r2,hl2,e2⟩:=I.lstM hB;have hsz:its.toArray.size+its2.toArray.size<=bj:=by rw[bm,bm];lia
 have hlong:¬ (!its.toArray.isEmpty&&eM (its.toArray.size+its2.toArray.size))=true:=by
  rw[notLongL hsz,gY];exact aR
 refine call_meets F.slot_list_extend ⟨_,e,rfl⟩ F.entry_list_extend (F.args_list_extend_2 _ _)
  (AutoSeq1.list_extend_list_list_0 l its.toArray n b its2.toArray n2 hlong (by rw[bm];lia) (by lia)) ⟨e,e2,?_⟩
 refine⟨.non,_,I.lset (its':=its++its2) hH e (by simp) (r.append r2) ?_,rfl,q⟩;rw[am];lia
def rPop:V->List V->Hp->VK->Prop:=λx vs H Q=>∃l xs y,x=.ref l/\vs=[]/\H l=aa (.lst xs)/\xs[xs.length-1]? =aa y/\Q y (upd H l (.lst xs.dropLast))
def mt_pop:MtM X "list.pop" rPop:=by
 intro pins s σ H x vs v us Q I rx rv h;obtain⟨l,xs,y,rfl,rfl,hH,hy,q⟩:=h;cases rx;have hus:=rv.zero;subst hus;obtain⟨z,its,n,r,hl,e⟩:=I.lstM hH;obtain⟨u,hu,ru⟩:=r.get hy;have hy':its.toArray[its.toArray.size-1]? =aa u:=by
  show its.toArray[its.length-1]? =aa u;rw[<- cX,<- hl];exact hu
 refine call_meets F.slot_list_pop ⟨_,e,rfl⟩ F.entry_list_pop (F.args_list_pop_1 _) (MeetsSeq.list_pop_last l its.toArray n u hy' (by rw[bm];lia)) ⟨e,?_⟩;refine⟨y,_,I.lset (its':=its.dropLast) hH e ?_ r.dropLast ?_,ru,q⟩
 ·show its.toArray.eraseIdxIfInBounds (its.toArray.size-1)=its.dropLast.toArray;rw[bm,List.eraseIdxIfInBounds_toArray,zkb]
 ·rw[ip];lia
end
section
variable {prog:aI}{w:aO}{A:aW}{E:ag->ai->Prop}{s:ai}
end
section
variable {X:Cx}
end
end L2
namespace Att
open PySem PySem.W PySem.Calls PyProof.Rows
def zfP{P:Params}{h:aV}:∀(ns:List Int) (vs:List ag),WellAll P h vs (ns.map k7)->IntsAre vs ns:=by
 intro ns
 induction ns with
 |nil=>
  intro vs w;rw[bu]at w;cases w;exact .nil
 |cons n ns ih=>
  intro vs w;rw[ar]at w;cases w with
  |cons a b=>
   cases a;exact .cons _ _ (ih _ b)
def script_of{l:OpenLaw}{n:Nat}(hn:l.most=aa n){P:Params}{h:aV}{args:List WData}{vals:List ag}
  (hpre:l.row.toRowW.claim.pre args=true) (hwl:WellAll P h vals args) :
  ∃a vs ns,vals=[bq a]/\args=[WData.list (ns.map k7)]/\h.get? a=aa { cls:=.type "list",data:=.seq vs.toArray}/\IntsAre vs ns/\ns.length<=n:=by
 have hsh:WShape.hasAll [] args [.list .int]=true:=(pre_splitW hpre).1;have hc:l.pre.holds [] { args:=args}=true:=(pre_splitW hpre).2;obtain⟨d,r,rfl,h1,h2⟩:=hasAllW_cons hsh;obtain rfl:=hasAllW_nil h2;obtain⟨xs,rfl,h3⟩:=hasW_list h1;obtain⟨ns,rfl⟩:=items_int h3;have hlen:ns.length<=n:=by
  unfold OpenLaw.pre at hc;have h4:(WTm.not (.lt (.lit (.int (n:Int))) (.len (.arg 0)))).holds [] { args:=[.list (ns.map .int)]}=true:=by
   have h4:=(holds_andW hc).1;rw[hn]at h4;exact h4
  have h5:=condW_of h4 (w_not (w_lt w_lit (w_len_list (w_arg rfl))));rw[al]at h5;refine Nat.le_of_not_lt λq=>?_;have q':(n:Int)<((ns.length:Nat):Int):=by lia
  first
   |(rw[decide_eq_true q']at h5;exact absurd h5 (by decide))
   |(simp at h5;lia)
 cases hwl with
 |cons w1 w2=>
  cases w2;cases w1 with
  |list ho hall=>exact⟨_,_,ns,rfl,rfl,ho,zfP ns _ hall,hlen⟩
def post_true(l:OpenLaw)(args:List WData):l.row.toRowW.claim.post args (.bool true) args=true:=
 postW_of (r:=l.row.toRowW) (X:=(true==true))
  (show kM [] (.bool true) .bool=true by first|rfl|decide|simp[kM,WShape.arms,WShape.armsAll])
  (show(WTm.eq .res (.lit (.bool true))).value [] { args:=args,res:=aa (.bool true),after:=args}=aa (.bool (true==true))from w_eq_bool (w_res rfl) w_lit) rfl
def attach_call{l:OpenLaw}{n:Nat}{q:aI}{loose:List Str}{XP:(Str->Option ag)->aV->Prop}{YP:aO->aV->Prop}{d:DefRec}
  (hn:l.most=aa n) (hdf:d.params.defaults=[])
  (call:∀ (w:aO) (s₀ s₁:ai) (mg mb:Str->Option ag) (fa:ae) (o:Obj) (pm cd doc:ag) (a:ae) (vs:List ag) (ns:List Int),
   Ground q loose [] XP w s₀ mg mb s₁.heap->YP w s₁.heap ->
   s₁.heap.get? fa=aa o->o.data=.func (docDef d.name d.params d.body d.scope pm cd doc)->s₁.heap.CodeRec cd d.name->mg d.name=aa (.ref fa) ->
   s₁.heap.get? a=aa { cls:=.type "list",data:=.seq vs.toArray}->IntsAre vs ns->ns.length<=n->s₁.gens=#[] ->
   codeAny (model l.prog w) callerA (.call (.ref fa) ⟨[.ref a],[]⟩) (λr s'=>r=.ok (.ret (.bool true))/\OldK s₁.heap s'.heap/\s'.os=s₁.os/\AllBare s'.gens) s₁) :
  WalkO q loose XP YP l.row.toRowW d [] (λf vs=>jk f vs):=by
 intro w s₀ s₁ mg mb G Y fa o pm cd doc dV kV ho hd hcd hD hmg hg args vals as hpre hlay hrd hwl hlo;obtain rfl:dV=.none:=Dflts.none hD hdf;obtain rfl:kV=.none:=Dflts.noKw hD;obtain⟨a,vs,ns,rfl,rfl,hobj,hints,hlen⟩:=script_of hn hpre hwl;refine enter_call (codeAny_mono (call w s₀ s₁ mg mb fa o pm cd doc a vs ns G Y ho (fd_plain hd) hcd hmg hobj hints hlen hg) λr s' hq=>?_);obtain⟨rfl,h2,h3,h4⟩:=hq;exact⟨.inl ⟨.bool true,.bool true,[],rfl,λ_=>rfl,.bool true,post_true l _,λ_=>⟨lb,λ_ hm=>(nomatch hm)⟩⟩,h2,h3,h4⟩
section
variable {prog:aI}{w:aO}{A:aW}{E:ag->ai->Prop}{s:ai}{K:Frag}
end
end Att
namespace L2
open PySem PySem.Spec PyProof.Rows
def zhL:∀{vs:List ag} {ns:List Int},IntsAre vs ns->Vals (ns.map V.int) vs
 | _,_,.nil=>.nil
 | _,_,.cons n t h=>.cons ⟨t,rfl⟩ (zhL h)
def Only(H:Hp):Prop:=∀b,H b=ab\/∃o xs,H b=aa (.frz o (.lst xs))
def law_call{P:aI}{w:aO}{K:af}{mg mb:Str->Option ag}{CX:CXT}{k:Nat}{fa a:ae}{fd:bx}{x:Str}{sp:Sp}{s₁:ai}{vs:List ag}{ns:List Int}
  (KX:K.In s₁.heap) (hns:s₁.heap.Ns a9 mg) (hb:s₁.heap.Ns builtinsNs mb) (hbb:∀x:Str,x≠ "__name__" -> mb x=bO x) (hlim:s₁.heap.NoLimit) (hg:s₁.gens=#[])
  (ha:s₁.heap.get? a=aa { cls:=.type "list",data:=.seq vs.toArray}) (hi:IntsAre vs ns) (hl:ns.length<=bj) (hr:Room k callerA)
  (F:∀base:aV,K.In base->base.Ns a9 mg->FnOk P w K mg base CX k fa fd [x] sp) (hbind:∀(s:ai) (u:ag),BindsTo s fd ⟨[u],[]⟩ [(x,u)])
  (hsp:∀H:Hp,Only H->SqL K H a (ns.map V.int)->sp [.ref a] H (λv _=>v=.bl true) λ_ _ _=>False)
  (hCX:∀H e s',CX [] H s₁ (λ_ _ _=>False) e s'->False) :
  codeAny (model P w) callerA (.call (.ref fa) ⟨[.ref a],[]⟩) (λr s'=>r=.ok (.ret (.bool true))/\OldK s₁.heap s'.heap/\s'.os=s₁.os/\AllBare s'.gens) s₁:=by
 have rv:=zhL hi;have lenV:=hi.length;have core:∀H:Hp,Only H->SqL K H a (ns.map V.int)->HOk P w H s₁.heap->(∀b,H b≠ab->b=a)->(H a≠ab->K.lookup a=ab) ->
   codeAny (model P w) callerA (.call (.ref fa) ⟨[.ref a],[]⟩) (λr s'=>r=.ok (.ret (.bool true))/\OldK s₁.heap s'.heap/\s'.os=s₁.os/\AllBare s'.gens) s₁:=by
  intro H hO hS hok hA hK;have base_of:∀{b:ae} {o:Obj},s₁.heap.get? b=aa o->H b=ab->(hidT s₁.heap H).get? b=aa o:=λe n=>hidT_get e n;have noA:∀{b:ae} {o:Obj} {es:Array DictEntry} {ep:Nat},s₁.heap.get? b=aa o->o.data=.dict es ep->H b=ab:=fun {b o es ep} e d=>by
   cases q:H b with
   |none=>rfl
   |some u=>
    have e':b=a:=hA b (by rw[q];simp);subst e';rw[ha]at e;cases e;have d':li vs.toArray _=Data.dict es ep:=d;cases d'
  have nsK:∀{b:ae} {m:Str->Option ag},s₁.heap.Ns b m->(hidT s₁.heap H).Ns b m:=fun {b m} ⟨o,es,ep,e,d,r⟩=>⟨o,es,ep,base_of e (noA e d),d,r⟩
  have hKb:K.In (hidT s₁.heap H):=λb o e=>base_of (KX b o e) (by
   cases q:H b with
   |none=>rfl
   |some u=>
    have e':b=a:=hA b (by rw[q];simp);subst e';rw[hK (by rw[q];simp)]at e;cases e)
  have hM:Mod K mg (hidT s₁.heap H):=⟨hKb,nsK hns,⟨mb,nsK hb,hbb⟩,let⟨mc,h1,h2⟩:=hlim;⟨mc,nsK h1,h2⟩⟩
  have e0:Env0 P w K mg (hidT s₁.heap H) callerA [] s₁ H:=⟨rfl,hM,λb o e=>of_hidT e,dC (hidT_size _ _),trivial,λb hb=>absurd (show b∈([]:List ae)from hb) (by simp),hok,.of_eq hg⟩
  refine codeAny_mono ((F _ hKb (nsK hns)).run callerA [] s₁ H ⟨[.ref a],[]⟩ [.ref a] [.ref a] _ _ hr e0 (hbind s₁ (.ref a)) (.cons rfl .nil) (hsp H hO hS)) λr s' h=>?_;cases r with
  |error e=>exact(hCX H e s' h).elim
  |ok fl=>
   cases fl with
   |next=>exact cg h
   |brk=>exact cg h
   |cont=>exact cg h
   |ret u=>
    obtain⟨v,H',os,bare,un,hok',r',q⟩:=h;have q':v=.bl true:=q;subst q';obtain rfl:u=ii true:=r';refine⟨rfl,OldK.of_keep λb o e=>?_,os,bare⟩;cases q:H b with
    |none=>exact un.keep b o e q (by intro z;exact absurd (show b∈([]:List ae)from z) (by simp)) (by simp)
    |some u=>
     rcases hO b with z|⟨ob,xs,z⟩
     ·rw[q]at z;cases z
     ·have z2:=un.frzs b ob _ z;obtain⟨e1,_⟩:=hok b _ z;obtain⟨e2,_⟩:=hok' b _ z2;rw[e]at e1;cases e1;exact e2
 cases hk:K.lookup a with
 |some o=>
  have e:=KX a o hk;rw[ha]at e;cases e;refine core (λ_=>ab) (λ_=>.inl rfl) (.inr ⟨_,vs.toArray,_,hk,rfl,rfl,rfl,by rw[bm,lenV];exact hl,by simpa using rv⟩) (λb u z=>by have z':(ab:Option HO)=aa u:=z;cases z') (λb z=>absurd rfl z) λz=>absurd rfl z
 |none=>
  refine core (λb=>if b=a then aa (.frz { cls:=.type "list",data:=.seq vs.toArray} (.lst (ns.map V.int)))else ab) (λb=>?_) (.inl (.inr ⟨{ cls:=.type "list",data:=.seq vs.toArray},if_pos rfl⟩)) (λb u z=>?_) (λb z=>?_) λ_=>hk
  ·by_cases hb:b=a
   ·exact .inr ⟨_,_,if_pos hb⟩
   ·exact .inl (if_neg hb)
  ·by_cases hb:b=a
   ·have z':=(if_pos hb).symm.trans z;cases z';subst hb;exact⟨ha,by rw[al];exact hl,vs,_,rv,ha⟩
   ·have z':=(if_neg hb).symm.trans z;cases z'
  ·by_cases hb:b=a
   ·exact hb
   ·exact absurd (if_neg hb) z
end L2
namespace L2
open PySem PySem.Spec PyProof.Rows
def walk_of{l:gH}{n k:Nat}{q:aI}{loose:List Str}{XP:(Str->Option ag)->aV->Prop}{YP:aO->aV->Prop}{d:DefRec}{K:Params->af}{CX:aO->CXT}{sp:aO->Sp}{x:Str}
  (hn:l.most=aa n) (hn2:n<=bj) (hdf:d.params.defaults=[]) (hr:Room k callerA)
  (hY:∀(w:aO) (h:aV),YP w h->(K w.params).In h)
  (F:∀ (w:aO) (mg:Str->Option ag) (fa:ae) (h:aV),(K w.params).In h->h.Ns a9 mg->mg d.name=aa (.ref fa) ->
   ∃fd:bx,(∀(s:ai) (u:ag),BindsTo s fd ⟨[u],[]⟩ [(x,u)]) /\
    ∀base:aV,(K w.params).In base->base.Ns a9 mg->FnOk l.prog w (K w.params) mg base (CX w) k fa fd [x] (sp w))
  (hsp:∀(w:aO) (H:Hp) (a:ae) (ns:List Int),ns.length<=n->Only H->SqL (K w.params) H a (ns.map V.int)->sp w [.ref a] H (λv _=>v=.bl true) λ_ _ _=>False)
  (hCX:∀(w:aO) (H:Hp) (s:ai) (e:ag) (s':ai),CX w [] H s (λ_ _ _=>False) e s'->False) :
  jD q loose XP YP l.row.toRowW d [] (λf vs=>jk f vs):=by
 refine Att.attach_call hn hdf λw s₀ s₁ mg mb fa o pm cd doc a vs ns G Y ho hd hcd hmg hobj hints hlen hg=>?_;have KX:=hY w _ Y;obtain⟨fd,hb,hF⟩:=F w mg fa _ KX G.T.g hmg;exact law_call KX G.T.g G.T.b G.T.builtins G.T.nolimit hg hobj hints (aH hlen hn2) hr hF hb (λH hO hS=>hsp w H a ns hlen hO hS) λH e s'=>hCX w H s₁ e s'
end L2
namespace L2
open PySem PySem.Spec PyProof.Rows
def zbx(s:Stmt):Arguments:=match s with
 |.FunctionDef _ a _ _ _ _ _ _ _ _=>a
 | _=>{ posonlyargs:=[],args:=[],vararg:=ab,kwonlyargs:=[],kw_defaults:=[],kwarg:=ab,defaults:=[]}
def zbe(s:Stmt):List Stmt:=match s with
 |.FunctionDef _ _ b _ _ _ _ _ _ _=>b
 | _=>[]
def zae(s:Stmt):Scope:=match s with
 |.FunctionDef _ _ _ _ _ _ sc _ _ _=>sc
 | _=>{ kind:=.function,names:=[],isGenerator:=false,isCoroutine:=false}
abbrev CX0:CXT:=λ_ _ _ _ _ _=>False
abbrev E0:XK:=λ_ _ _=>False
def zas{X:Cx}:zcm CX0 X E0:=λ_ _ _ _ _ _ _ h=>h.elim
structure Fun(K:af)(x qual:Str)(st:Stmt)(f:ae)(fd:bx):Prop where
 ex:∃(oc:ag) (od:Option ae) (kV doc pm:ag) (an:Option ae) (cdv ct:ag) (osl:Array (Option ag)),
  fd=bP x qual (zbx st) (zbe st) (zae st) .none kV doc pm an cdv ct/\K.lookup f=aa ⟨oc,od,.func fd,osl⟩/\b8 K cdv qual=true
 kp:bA K (.ref f)=true
section
variable {P:aI}{w:aO}{K:af}{mg:Str->Option ag}{base:aV}
def Fun.binds{x qual:Str}{st:Stmt}{f:ae}{fd:bx}{ps:List Str}(F:Fun K x qual st f fd)
  (h:∀(kV doc pm:ag) (an:Option ae) (cdv ct:ag) (us:List ag),us.length=ps.length->bindArgs (bP x qual (zbx st) (zbe st) (zae st) .none kV doc pm an cdv ct) ⟨us,[]⟩=pure (ps.zip us)):Binds K fd ps []:=by
 obtain⟨oc,od,kV,doc,pm,an,cdv,ct,osl,rfl,lk,hcd⟩:=F.ex;exact .all (h kV doc pm an cdv ct)
def zd9{x qual:Str}{st:Stmt}{f:ae}{oc:ag}{od an:Option ae}{osl:Array (Option ag)}{kV doc pm cdv ct:ag}(l:K.lookup f=aa ⟨oc,od,.func (bP x qual (zbx st) (zbe st) (zae st) .none kV doc pm an cdv ct),osl⟩)
  (c:b8 K cdv qual=true) (k:bA K (.ref f)=true):Fun K x qual st f (bP x qual (zbx st) (zbe st) (zae st) .none kV doc pm an cdv ct):=⟨⟨oc,od,kV,doc,pm,an,cdv,ct,osl,rfl,l,c⟩,k⟩
end
def zbg{A:aW}{k:Nat}(hr:Room k A):A.units+1<cLine:=eN (di (by decide:1<=64) _) hr.units
def small1000{n:Nat}(h:n<=1000):n<bj:=eN h (by decide)
section
variable {X:Cx}
end
def zjx{A B:Prop}(h:B):if false=true then A else B:=by
 rw[if_neg aR];exact h
def zj0{A B:Prop}(h:A):if true=true then A else B:=by
 rw[if_pos rfl];exact h
def Same(H H':Hp):Prop:=∀b o,H b=aa o->H' b=aa o
def Same.refl(H:Hp):Same H H:=λ_ _ h=>h
def Same.trans{H H1 H2:Hp}(a:Same H H1)(b:Same H1 H2):Same H H2:=λc o h=>b c o (a c o h)
def Same.free{H H':Hp}(e:Same H H'){l:ae}(h:H' l=kI):H l=kI:=by
 cases q:H l with
 |none=>rfl
 |some o=>
  rw[e l o q]at h;cases h
def Same.seq{K:af}{H H':Hp}{a:ae}{xs:List V}(e:Same H H')(h:SqL K H a xs):SqL K H' a xs:=by
 rcases h with (h|⟨o,h⟩)|h
 ·exact .inl (.inl (e _ _ h))
 ·exact .inl (.inr ⟨o,e _ _ h⟩)
 ·exact .inr h
end L2

namespace L2
open PySem PySem.Spec PyProof.Rows
def zkm{α β:Type}{l:List α}{f:α->β->Sem (ForInStep β)}(g:β->α->β)(h:∀x∈l,∀c,f x c=pure (.yield (g c x)))(c:β):forIn l c f=pure (l.foldl g c):=by
 induction l generalizing c with
 |nil=>rfl
 |cons x l ih=>
  rw[jl,h x aj,pure_bind];exact ih (λy hy=>h y (ah _ hy)) _
def clG(env:Env)(cs:List (Str×ae))(x:Str×NameKind):List (Str×ae):=
 if (x.2==bD)=true then (match env.cells.lookup x.1 with|some c=>(x.1,c)::cs|none=>cs)else cs
def zjf(env:Env)(names:List (Str×NameKind)):List (Str×ae):=names.foldl (clG env) []
def zgq{scope:Scope}{env:Env}(h:∀y∈scope.names,y.2=.free->∃c,env.cells.lookup y.1=aa c):closureFor scope env=pure (zjf env scope.names):=by
 simp only[closureFor];rw[zkm (clG env) (λx hx c=>by
  obtain⟨n,k⟩:=x;cases hk:(k==bD)with
  |false=>simp only[clG,hk,cY,if_false]
  |true=>
   have e:k=.free:=by cases k <;> first|rfl|(exact absurd hk (by decide))
   obtain⟨c0,hc⟩:=h _ hx e;simp only[clG,hk,if_true,cellOf,hc,pure_bind])]
 rfl
def zhW{env:Env}:∀(names:List (Str×NameKind)) (cs:List (Str×ae)),(∀y c,cs.lookup y=aa c->env.cells.lookup y=aa c) ->
  ∀y c,(names.foldl (clG env) cs).lookup y=aa c->env.cells.lookup y=aa c
 |[],_,h,y,c,e=>h y c e
 |(n,k)::r,cs,h,y,c,e=>by
  refine zhW r (clG env cs (n,k)) (λz d hz=>?_) y c e;unfold clG at hz;split at hz
  ·cases q:env.cells.lookup n with
   |none=>simp only[q]at hz;exact h z d hz
   |some c0=>
    simp only[q,bW]at hz;cases hb:z==n with
    |true=>
     simp only[hb]at hz;cases hz;have:z=n:=by simpa using hb
     rw[this];exact q
    |false=>simp only[hb]at hz;exact h z d hz
  ·exact h z d hz
def cl_has{env:Env}:∀(names:List (Str×NameKind)) (cs:List (Str×ae)) (y:Str),(∃c,env.cells.lookup y=aa c)->((∃c,cs.lookup y=aa c)\/(y,bD)∈names) ->
  ∃c,(names.foldl (clG env) cs).lookup y=aa c
 |[],_,_,_,h=>by
  rcases h with h|h
  ·exact h
  ·cases h
 |(n,k)::r,cs,y,hc,h=>by
  refine cl_has r (clG env cs (n,k)) y hc ?_;have keep:(∃c,cs.lookup y=aa c)->∃c,(clG env cs (n,k)).lookup y=aa c:=λ⟨c,e⟩=>by
   unfold clG;split
   ·cases q:env.cells.lookup n with
    |none=>exact⟨c,e⟩
    |some c0=>
     show ∃c,cr y ((n,c0)::cs)=aa c;rw[bW];cases y==n with
     |true=>exact⟨c0,rfl⟩
     |false=>exact⟨c,e⟩
   ·exact⟨c,e⟩
  rcases h with h|h
  ·exact .inl (keep h)
  ·rcases aE.mp h with h|h
   ·cases h;left;obtain⟨c0,q⟩:=hc;unfold clG;rw[if_pos (by rfl)];show ∃c,cr n (match env.cells.lookup n with|some c=>(n,c)::cs|none=>cs)=aa c;rw[q];refine⟨c0,?_⟩;show cr n ((n,c0)::cs)=aa c0;rw[bW];simp
   ·exact .inr h
def zdM{env:Env}:∀{names:List (Str×NameKind)} {x:Str},names.lookup x=aa .free ->
  (names.map λ(n,k)=>if (k==bD&&env.scope.kind == .function&&env.kindOf n==aa .cell)then (n,cU)else (n,k)).lookup x=aa .cell \/
  (names.map λ(n,k)=>if (k==bD&&env.scope.kind == .function&&env.kindOf n==aa .cell)then (n,cU)else (n,k)).lookup x=aa .free
 |[],_,h=>by simp at h
 |(n,k)::r,x,h=>by
  have ih:=@zdM env r x;show cr x ((if (k==bD&&env.scope.kind == .function&&env.kindOf n==aa .cell)=true then (n,cU)else (n,k))::_)=_\/cr x ((if (k==bD&&env.scope.kind == .function&&env.kindOf n==aa .cell)=true then (n,cU)else (n,k))::_)=_;cases hx:x==n with
  |true=>
   simp only[bW,hx]at h;cases h;by_cases hc:(bD==bD&&env.scope.kind == .function&&env.kindOf n==aa .cell)=true
   ·rw[if_pos hc];left;simp only[bW,hx]
   ·rw[if_neg hc];right;simp only[bW,hx]
  |false=>
   simp only[bW,hx]at h;by_cases hc:(k==bD&&env.scope.kind == .function&&env.kindOf n==aa .cell)=true
   ·rw[if_pos hc];simp only[bW,hx];exact ih h
   ·rw[if_neg hc];simp only[bW,hx];exact ih h
def zdS{env:Env}:∀{names:List (Str×NameKind)} {x:Str},(∀y∈names,y.2≠.cell) ->
  ((names.map λ(n,k)=>if (k==bD&&env.scope.kind == .function&&env.kindOf n==aa .cell)then (n,cU)else (n,k)).lookup x=aa .cell \/
  (names.map λ(n,k)=>if (k==bD&&env.scope.kind == .function&&env.kindOf n==aa .cell)then (n,cU)else (n,k)).lookup x=aa .free)->names.lookup x=aa .free
 |[],_,_,h=>by rcases h with h|h <;> simp at h
 |(n,k)::r,x,hnc,h=>by
  have ih:=@zdS env r x λy hy=>hnc y (ah _ hy);have h':cr x ((if (k==bD&&env.scope.kind == .function&&env.kindOf n==aa .cell)=true then (n,cU)else (n,k))::(r.map λ(n,k)=>if (k==bD&&env.scope.kind == .function&&env.kindOf n==aa .cell)then (n,cU)else (n,k)))=aa .cell\/cr x ((if (k==bD&&env.scope.kind == .function&&env.kindOf n==aa .cell)=true then (n,cU)else (n,k))::(r.map λ(n,k)=>if (k==bD&&env.scope.kind == .function&&env.kindOf n==aa .cell)then (n,cU)else (n,k)))=aa .free:=h;rw[bW];cases hx:x==n with
  |true=>
   have hk:k=.free:=by
    by_cases hc:(k==bD&&env.scope.kind == .function&&env.kindOf n==aa .cell)=true
    ·cases k <;> first|rfl|(simp at hc)
    ·rw[if_neg hc]at h';simp only[bW,hx]at h';rcases h' with h'|h'
     ·exact absurd (aJ h') (hnc (n,k) aj)
     ·exact aJ h'
   rw[hk]
  |false=>
   by_cases hc:(k==bD&&env.scope.kind == .function&&env.kindOf n==aa .cell)=true
   ·rw[if_pos hc]at h';simp only[bW,hx]at h';exact ih h'
   ·rw[if_neg hc]at h';simp only[bW,hx]at h';exact ih h'
structure CompSc(X:Cx)(N:List Str)(fr:List Nat)(x:Str)(scope:Scope):Prop where
 kind:scope.kind=.function
 chk:(scope.names.all λy=>match y.2 with
  |.cell=>false
  |.local=>scope.names.lookup y.1==aa .local
  |.free=>X.env.scope.names.lookup y.1==aa .cell || X.env.scope.names.lookup y.1==aa .free
  | _=>true)=true
 tg:scope.names.lookup x=aa .local
 nd:N.Nodup
 nm:N.map aa=aa x::fr.map (λi=>X.N[i]?)
 nf:(N.tail.all λy=>scope.names.lookup y==aa .free)=true
def za1{o:Option NameKind}{k:NameKind}(h:(o==aa k)=true):o=aa k:=by
 cases o with
 |none=>cases h
 |some j=>
  have:(j==k)=true:=h;cases j <;> cases k <;> first|rfl|(exact absurd this (by decide))
section
variable {X:Cx}{N:List Str}{fr:List Nat}{x:Str}{scope:Scope}
def CompSc.ncell(S:CompSc X N fr x scope):∀y∈scope.names,y.2≠.cell:=λy hy e=>by
 have h:=cV.mp S.chk y hy;obtain⟨n,k⟩:=y;cases (show k=.cell from e);exact absurd h (by simp)
def CompSc.loc(S:CompSc X N fr x scope):∀y∈scope.names,y.2=.local->scope.names.lookup y.1=aa .local:=λy hy e=>by
 have h:=cV.mp S.chk y hy;obtain⟨n,k⟩:=y;cases (show k=.local from e);exact za1 h
def CompSc.free(S:CompSc X N fr x scope):∀y∈scope.names,y.2=.free->X.env.kindOf y.1=aa .cell\/X.env.kindOf y.1=aa .free:=λy hy e=>by
 have h:=cV.mp S.chk y hy;obtain⟨n,k⟩:=y;cases (show k=.free from e);have h':(X.env.scope.names.lookup n==aa .cell || X.env.scope.names.lookup n==aa .free)=true:=h;rcases iE.mp h' with h'|h'
 ·exact .inl (za1 h')
 ·exact .inr (za1 h')
end
def zeZ(fr:List Nat)(σ:St):St:=fr.map λi=>(σ[i]?).join
def cxC(X:Cx)(N:List Str)(scope:Scope)(C:ae)(s₀:ai)(H₀:Hp)(fp:List ae):Cx:=
 { X with N:=N,s₀:=s₀,H₀:=H₀,env:=compEnvC scope (zjf X.env scope.names) C X.env,outer:=X.stack,ex:=fp,fn:=λ_=>false,pn:=[],xe:=λ_ _=>False}
def PTs(X:Cx)(ifs:List Expr)(t:TT):Prop:=
 ∀(pins:List (ae×Obj)) (s:ai) (σ:St) (H:Hp) (Q:Bool->Hp->Prop),Inv X pins σ H s->t σ H Q ->
  aM (model X.prog X.w) X.A (forIn ifs true λc r=>if r=true then do let ok <- isTrue c X.env (eval c X.env);pure (fC ok)else pure (fC r)) (TP X pins σ Q) X.xe s
def tNoIf:TT:=λ_ H Q=>Q true H
def pts_nil{X:Cx}:PTs X [] tNoIf:=λ_ _ _ H _ I h=>by
 rw[ju];exact a8 ⟨H,I,h⟩
def pts_one{X:Cx}{c:Expr}{t:TT}(h:PT X c t):PTs X [c] t:=λpins s σ H Q I hw=>by
 rw[jl,if_pos rfl];refine ay (ay (thn (h pins s σ H Q I hw) λok s1 q=>a8 ?_));show aM _ _ (forIn ([]:List Expr) ok _) _ _ _;rw[ju];exact a8 q
def lcW(fr:List Nat)(tt:TT)(te:TE)(J:It)(σ:St)(H1:Hp)(R:ae->Hp->Prop):Prop:=
 ∀a,H1 a=ab->∃W:Nat->Nat->List V->Hp->Prop,(∃m,W 0 m [] (upd H1 a (.lst [])))/\∀i m ys H,W i m ys H ->
  (J.stop i H/\R a H)\/(J.go i H/\∀x H',J.yld i H x H'->tt (aa x::zeZ fr σ) H' λb H2=>
   if b=true then te (aa x::zeZ fr σ) H2 λy H3=>H3 a=aa (.lst ys)/\ys.length<bj/\∃m',m'<m/\W (i+1) m' (ys++[y]) (upd H3 a (.lst (ys++[y])))
   else ∃m',m'<m/\W (i+1) m' ys H2)
def tLC(fr:List Nat)(wi:TI)(tt:TT)(te:TE):TE:=λσ H Q=>wi σ H λJ H1=>lcW fr tt te J σ H1 λa H2=>Q (.ref a) H2
section
variable {X:Cx}{N:List Str}{fr:List Nat}{x:Str}{scope:Scope}{pins:List (ae×Obj)}{σ:St}{H:Hp}{s:ai}
def comp_inv(S:CompSc X N fr x scope){fp:List ae}{h₁:aV}{tk:Nat}(I:Inv X pins σ H s)(hf:∀b∈fp,zir X pins H b)(hfo:∀b∈fp,b<s.heap.objs.size)
  (hns:h₁.Ns s.heap.objs.size λy=>([]:List (Str×ag)).reverse.lookup y) (old:∀b o,s.heap.get? b=aa o->h₁.get? b=aa o) :
  Inv (cxC X N scope s.heap.objs.size s H fp) [] (ab::zeZ fr σ) H { s with heap:=h₁,toks:=tk}:=by
 have sub:∀y c,(zjf X.env scope.names).lookup y=aa c->X.env.cells.lookup y=aa c:=zhW scope.names [] (λ_ _ z=>by cases z);have has:∀y,(y,bD)∈scope.names->∃c,(zjf X.env scope.names).lookup y=aa c:=λy hy=>cl_has scope.names [] y (I.ok.has y (S.free _ hy rfl)) (.inr hy);have celK:∀c v,s.heap.IsCell c v->h₁.IsCell c v:=λc v ⟨o,ho,hd⟩=>⟨o,old c o ho,hd⟩
 have hlen:N.length=fr.length+1:=by
  have:=congrArg cZ S.nm;simpa using this
 refine⟨⟨I.ok.mod,S.kind,I.ok.glob,I.ok.blt,ak _,λy z c h1 h2=>I.ok.inj y z c (sub y c h1) (sub z c h2),λy hy=>?_,λy c hy _=>(by cases hy),I.ok.hd,I.ok.frames,.inl rfl,λb hb=>⟨bz (hfo b hb),λy c e=>(hf b hb).2.2.2.2.1 y c (sub y c e)⟩,
  I.bs,aH I.ok.bsz I.sz,λb o e hb=>?_,λb hb hfs=>?_,I.stack,I.stkFree⟩,rfl,I.bare,Un.kept old,⟨_,hns,λi y v e1 e2 e3=>?_⟩,λy c e=>?_,I.hok.fresh (ak _),λy c e=>I.freeC y c (sub y c e),λp hp=>absurd (show p∈([]:List (ae×Obj))from hp) (by simp),I.hok.kept old,?_⟩
 ·exact has y (bV (zdS S.ncell hy))
 ·rcases (hf b hb).2.2.2.1 with z|z
  ·exact I.ok.noex b o e z
  ·exact absurd (aP (aN e) (aH I.ok.bsz z)) (cA _)
 ·rcases aE.mp (I.stkSub b hfs)with z|z
  ·exact(hf b hb).2.1 z
  ·exact(hf b hb).2.2.1 z
 ·cases i with
  |zero=>simp at e2
  |succ j=>
   have e1':N[j+1]? =aa y:=e1;have q1:(N.map aa)[j+1]? =aa (aa y):=by rw[aA,e1'];rfl
   rw[S.nm,bN,aA]at q1;have e2':(zeZ fr σ)[j]? =aa (aa v):=by simpa using e2
   unfold zeZ at e2';rw[aA]at e2';cases q:fr[j]? with
   |none=>rw[q]at q1;cases q1
   |some i'=>
    rw[q]at q1 e2';have n1:X.N[i']? =aa y:=aJ q1;have n2:(σ[i']?).join=aa v:=aJ e2';have n3:σ[i']? =aa (aa v):=by
     cases q':σ[i']? with
     |none=>rw[q']at n2;cases n2
     |some o=>rw[q']at n2;rw[show o=aa v from n2]
    have hy:y∈N.tail:=by
     have:N.tail[j]? =aa y:=by rw[List.getElem?_tail];exact e1'
     exact cL this
    have hfree:scope.names.lookup y=aa .free:=za1 (cV.mp S.nf y hy);have hk:=S.free _ (bV hfree) rfl;obtain⟨m,hn,hl⟩:=I.loc;obtain⟨u,r,l⟩:=hl i' y v n1 n3 (hk.elim (λz=>.inr (.inl z)) λz=>.inr (.inr z));refine⟨u,r,.inr ⟨zdM hfree,?_⟩⟩;rcases l with ⟨k,_⟩|⟨k,c,ec,hc⟩
    ·rcases hk with z|z <;> (rw[show X.env.kindOf y=aa .local from k]at z;cases z)
    ·obtain⟨c',ec'⟩:=has y (bV hfree);have:c'=c:=aJ ((sub y c' ec').symm.trans ec);rw[this]at ec';exact⟨c,ec',celK c _ hc⟩
 ·obtain⟨v,z⟩:=I.cell y c (sub y c e);exact⟨v,celK c v z⟩
 ·show(ab::zeZ fr σ).length=N.length;rw[hlen];simp[zeZ]
def zgx{fp:List ae}{σ':St}{pins':List (ae×Obj)}{H':Hp}{s':ai}{C:ae}(I:Inv X pins σ H s)(hf:∀b∈fp,zir X pins H b)(J:Inv (cxC X N scope C s H fp) pins' σ' H' s'):Inv X pins σ H' s':=
 Inv.call' (ch:=fp) I J.os J.base J.hok J.bare λb hb=>⟨(hf b hb).2.2.2.1,(hf b hb).2.1,(hf b hb).2.2.2.2.1,(hf b hb).2.2.2.2.2⟩
end
section
variable {X:Cx}{N:List Str}{fr:List Nat}{x:Str}{scope:Scope}{iter elt:Expr}{ifs:List Expr}{px pos:Pos}{wi:TI}{te:TE}{tt:TT}
def comp_core(S:CompSc X N fr x scope)(hc:X.calm=true)
  (ht:∀(C:ae) (s₀:ai) (H₀:Hp) (fp:List ae),PTs (cxC X N scope C s₀ H₀ fp) ifs tt) (he:∀(C:ae) (s₀:ai) (H₀:Hp) (fp:List ae),PE (cxC X N scope C s₀ H₀ fp) elt te)
  {pins:List (ae×Obj)} {σ:St} {H3:Hp} {s3:ai} {R:ae->Hp->Prop} {RR:ag->ae->Result->ai->Prop} {it D:ae} {fp:List ae} {tn:Nat->aV->Prop} {J:It} {h₁:aV} {o₁:Obj} {tk:Nat} {W:Nat->Nat->List V->Hp->Prop}
  (I3:Inv X pins σ H3 s3) (T:Turn X.prog X.w X.K (.Name x px) J fp it tn) (st3:tn 0 s3.heap) (hf3:∀b∈fp,zir X pins H3 b) (hns₁:h₁.Ns s3.heap.objs.size λy=>([]:List (Str×ag)).reverse.lookup y) (hsb₁:gj s3.heap.objs.size (s3.heap.push o₁) h₁)
  (w0:∃ m,W 0 m [] H3) (turn:∀ i m ys H,W i m ys H ->
   (J.stop i H/\R D H)\/(J.go i H/\∀x H',J.yld i H x H'->tt (aa x::zeZ fr σ) H' λb H2=>
    if b=true then te (aa x::zeZ fr σ) H2 λy H3=>H3 D=aa (.lst ys)/\ys.length<bj/\∃m',m'<m/\W (i+1) m' (ys++[y]) (upd H3 D (.lst (ys++[y])))
    else ∃m',m'<m/\W (i+1) m' ys H2))
  (hRR:∀(D C:ae) (H':Hp) (s':ai) (m:Str->Option ag),s'.heap.Ns C m->C≠X.env.locals->H' C=ab->X.s₀.heap.objs.size<=C->(∀y c,X.env.cells.lookup y=aa c->c≠C)->(∀p∈X.pn++pins,p.1≠C)->Inv X pins σ H' s'->R D H'->RR (.ref D) C (.ok .next) s') :
  codeAny (model X.prog X.w) X.A (.compStart (.ListComp elt [⟨.Name x px,iter,ifs,0⟩] scope pos) 0 (.ref it) (.ref D) (compEnvC scope (zjf X.env scope.names) s3.heap.objs.size X.env)) (RR (.ref D) s3.heap.objs.size) { s3 with heap:=h₁,toks:=tk}:=by
 obtain⟨m0,w0⟩:=w0;have hfo3:∀b∈fp,b<s3.heap.objs.size:=λb hb=>by
  obtain⟨o,e,_⟩:=T.obj 0 _ st3 b hb;exact aN e
 have old:∀b o,s3.heap.get? b=aa o->h₁.get? b=aa o:=λb o e=>hsb₁.extBut b o (bz (aN e)) (ax _ e);have st1:tn 0 h₁:=T.keep 0 s3.heap h₁ st3 λb hb o e=>old b o e;have stat:∀{pins':List (ae×Obj)} {H':Hp},(∀b∈fp,H' b=ab)->(∀b∈fp,∀p∈pins',p.1≠b)->∀b∈fp,zir (cxC X N scope s3.heap.objs.size s3 H3 fp) pins' H' b:=fun {pins' H'} hn hp b hb=>by
  refine⟨hn b hb,bz (hfo3 b hb),λz=>?_,.inl hb,λy c e=>(hf3 b hb).2.2.2.2.1 y c (zhW scope.names [] (λ_ _ z=>by cases z) y c e),λp hp'=>hp b hb p (by simpa [cxC] using hp')⟩;rcases aE.mp (I3.stkSub b z)with z|z
  ·exact(hf3 b hb).2.1 z
  ·exact(hf3 b hb).2.2.1 z
 have loop:∀s4:ai,Inv (cxC X N scope s3.heap.objs.size s3 H3 fp) [] (ab::zeZ fr σ) H3 s4->tn 0 s4.heap ->
   codeAny (model X.prog X.w) X.A (.compLoop (.ListComp elt [⟨.Name x px,iter,ifs,0⟩] scope pos) 0 (.ref it) (.ref D) (compEnvC scope (zjf X.env scope.names) s3.heap.objs.size X.env)) (RR (.ref D) s3.heap.objs.size) s4:=by
  intro s4 I4 st4;refine codeAny_compLoop_tests (λn s'=>∃i ys H' v0,Inv (cxC X N scope s3.heap.objs.size s3 H3 fp) [] (v0::zeZ fr σ) H' s'/\tn i s'.heap/\(∀b∈fp,H' b=ab)/\W i n ys H') ?_ m0
   ⟨0,[],_,ab,I4,st4,λb hb=>(hf3 b hb).1,w0⟩
  rintro n s5 ⟨i,ys,H5,v0,I5,st5,fr5,w5⟩;rcases turn i n ys H5 w5 with ⟨stop,qn⟩|⟨go,step⟩
  ·refine bX (T.done (cxC X N scope s3.heap.objs.size s3 H3 fp) rfl rfl rfl hc i [] s5 _ H5 (λ_ _=>False) I5 (stat fr5 (by simp)) st5 stop) (λr s6 hr6=>?_) λ_ _ z=>z.elim;obtain⟨hr,I6⟩:=hr6;subst hr;obtain⟨m,hn,_⟩:=id I6.loc;refine hRR _ _ H5 s6 m hn ?_ I6.free ?_ ?_ ?_ (zgx I3 hf3 I6) qn
   ·exact iN I3.lt
   ·exact I3.sz
   ·intro y c e z;obtain⟨v,q⟩:=I3.cell y c e;exact absurd q.lt (by rw[z];exact cA _)
   ·intro p hp z;exact absurd (aN (I3.pin p hp).1) (by rw[z];exact cA _)
  ·refine bX (T.item (cxC X N scope s3.heap.objs.size s3 H3 fp) rfl rfl rfl hc i [] s5 _ H5 (λ_ _=>False) I5 (stat fr5 (by simp)) st5 go) (λr s6 hr6=>?_) λ_ _ z=>z.elim;obtain⟨u,hr,h6⟩:=hr6;subst hr;show aM _ _ (assign (.Name x px) _ u) _ _ s6;have el:∀env:Env,(assign (.Name x px) env u)=(letOwnedTupleGo (.Name x px) (.ref it) u >>= λ_=>assign (.Name x px) env u):=λenv=>by
    rw[show letOwnedTupleGo (.Name x px) (.ref it) u=pure ()from rfl,pure_bind]
   rw[el];refine ay (bX h6 (λ_ s7 h7=>?_) λ_ _ z=>z.elim);obtain⟨y,H7,I7,r7,y7,st7,fr7⟩:=h7;have I7':=I7.pinned (stat fr7 (by simp)) (T.obj _ _ st7);have lx:(relabel scope X.env).names.lookup x=aa .local:=lookup_relabel_local S.tg;have hN0:N[0]? =aa x:=by
    have:=congrArg (λl=>l[0]?) S.nm;simp only[aA,dh]at this;cases q:N[0]? with
    |none=>rw[q]at this;cases this
    |some z=>rw[q]at this;exact aJ this
   refine wpAny_assign_Name (zgB (i:=0) (v:=y) I7' S.nd hN0 (.inl lx) r7 (λs8 I8=>?_) (.inr lx));have I8':Inv (cxC X N scope s3.heap.objs.size s3 H3 fp) ([]++zfN fp s7.heap) (aa y::zeZ fr σ) H7 s8:=I8;refine bX (ht _ _ _ _ _ s8 _ H7 _ I8' (step y H7 y7)) (λok s9 h9=>?_) λ_ _ z=>z.elim;obtain⟨H9,I9,q9⟩:=h9;have again:∀{s':ai} {H':Hp},Inv (cxC X N scope s3.heap.objs.size s3 H3 fp) ([]++zfN fp s7.heap) (aa y::zeZ fr σ) H' s' ->
     Inv (cxC X N scope s3.heap.objs.size s3 H3 fp) [] (aa y::zeZ fr σ) H' s'/\tn (i+1) s'.heap/\∀b∈fp,H' b=ab:=fun {s' H'} I'=>by
    refine⟨I'.unpinned,T.keep _ _ _ st7 λb hb o e=>(I'.pin (b,o) (av _ (av _ (zcY hb e)))).1,λb hb=>?_⟩;obtain⟨o,e,d⟩:=T.obj _ _ st7 b hb;exact(I'.pin (b,o) (av _ (av _ (zcY hb e)))).2.1
   cases ok with
   |false=>
    rw[if_neg aR]at q9 ⊢;obtain⟨m',hm,w9⟩:=q9;obtain⟨a1,a2,a3⟩:=again I9;exact⟨m',hm,i+1,ys,H9,aa y,a1,a2,a3,w9⟩
   |true=>
    rw[if_pos rfl]at q9 ⊢;refine bX (he _ _ _ _ _ s9 _ H9 _ I9 q9) (λzv s10 h10=>?_) λ_ _ z=>z.elim;obtain⟨z,H10,I10,rz,hz,hlt,m',hm,w10⟩:=h10;refine bX (zeD (X:=cxC X N scope s3.heap.objs.size s3 H3 fp) _ s10 _ H10 (.ref D) [z] (.ref D) [zv] (λ_ H'=>H'=upd H10 D (.lst (ys++[z]))) I10 rfl (.cons rz .nil)
     ⟨_,ys,z,rfl,rfl,hz,hlt,rfl⟩) (λ_ s11 h11=>?_) λ_ _ z=>z.elim
    obtain⟨_,H11,I11,_,e11⟩:=h11;subst e11;obtain⟨a1,a2,a3⟩:=again I11;exact⟨m',hm,i+1,ys++[z],_,aa y,a1,a2,a3,w10⟩
 have I4:=comp_inv S (tk:=tk) I3 hf3 hfo3 hns₁ old;exact codeAny_compStart_list (loop _ I4 st1) (T.self _ 0 _ _ _ st1 (loop _ I4 st1))
def zjL(S:CompSc X N fr x scope)(hc:X.calm=true)
  (ht:∀(C:ae) (s₀:ai) (H₀:Hp) (fp:List ae),PTs (cxC X N scope C s₀ H₀ fp) ifs tt) (he:∀(C:ae) (s₀:ai) (H₀:Hp) (fp:List ae),PE (cxC X N scope C s₀ H₀ fp) elt te)
  {pins:List (ae×Obj)} {σ:St} {H:Hp} {s:ai} {R:ae->Hp->Prop} {RR:ag->ae->Result->ai->Prop} {it:ae} {fp:List ae} {tn:Nat->aV->Prop} {J:It} {E:ag->ai->Prop}
  (I:Inv X pins σ H s) (T:Turn X.prog X.w X.K (.Name x px) J fp it tn) (st:tn 0 s.heap) (hf:∀b∈fp,zir X pins H b) (h:lcW fr tt te J σ H R)
  (hRR:∀(D C:ae) (H':Hp) (s':ai) (m:Str->Option ag),s'.heap.Ns C m->C≠X.env.locals->H' C=ab->X.s₀.heap.objs.size<=C->(∀y c,X.env.cells.lookup y=aa c->c≠C)->(∀p∈X.pn++pins,p.1≠C)->Inv X pins σ H' s'->R D H'->RR (.ref D) C (.ok .next) s') :
  aM (model X.prog X.w) X.A (newList []) (λacc s₃=>aM (model X.prog X.w) X.A (newFunctionEnv scope X.env.globals (zjf X.env scope.names) [] X.env.qual ab .none (aa X.env)) (λcenv s₄=>
   codeAny (model X.prog X.w) X.A (.compStart (.ListComp elt [⟨.Name x px,iter,ifs,0⟩] scope pos) 0 (.ref it) acc { cenv with scope:=relabel scope X.env}) (RR acc cenv.locals) s₄) E s₃) E s:=by
 refine wpAny_newObj_type (wpAny_newFunctionEnv S.ncell (by intro y hy;simp at hy) (λh₁ hns₁ hsb₁=>?_) S.kind);have hD:H s.heap.objs.size=ab:=I.hok.fresh (ak _);obtain⟨W,w0,turn⟩:=h _ hD;have I3:Inv X pins σ (upd H s.heap.objs.size (.lst [])) { s with heap:=s.heap.push { cls:=.type "list",dict:=ab,data:=.seq ([]:List ag).toArray}}:=
  I.laid (t':=s.toks) (λb o e=>ax _ e) (ak _) ⟨aL _,[],_,.nil,aT _ rfl⟩
 have hfo:∀b∈fp,b<s.heap.objs.size:=λb hb=>by
  obtain⟨o,e,_⟩:=T.obj 0 _ st b hb;exact aN e
 have hf3:∀b∈fp,zir X pins (upd H s.heap.objs.size (.lst [])) b:=λb hb=>by
  obtain⟨f0,f1⟩:=hf b hb;exact⟨by rw[zai (bz (hfo b hb))];exact f0,f1⟩
 exact comp_core S hc ht he I3 T (T.keep 0 s.heap _ st λb hb o e=>ax _ e) hf3 hns₁ hsb₁ w0 turn hRR
def CompSc.clos(S:CompSc X N fr x scope){pins:List (ae×Obj)}{σ:St}{H:Hp}{s:ai}(I:Inv X pins σ H s):closureFor scope X.env=pure (zjf X.env scope.names):=
 zgq λy hy e=>I.ok.has y.1 (S.free y hy e)
def pe_lc(S:CompSc X N fr x scope)(hc:X.calm=true)(hi:PI X (.Name x px) iter wi)
  (ht:∀(C:ae) (s₀:ai) (H₀:Hp) (fp:List ae),PTs (cxC X N scope C s₀ H₀ fp) ifs tt) (he:∀(C:ae) (s₀:ai) (H₀:Hp) (fp:List ae),PE (cxC X N scope C s₀ H₀ fp) elt te)
  (hs:∀z,ck iter X.env z=pure z:=by intro _;rfl):PE X (.ListComp elt [⟨.Name x px,iter,ifs,0⟩] scope pos) (tLC fr wi tt te):=by
 intro pins s σ H Q I h;rw[eval_ListComp];refine wpAny_comprehension_free (use:=ab) (cl:=zjf X.env scope.names) rfl hs (S.clos I) S.kind S.loc (thn (hi pins s σ H _ I h) λxv s1 h1=>thn h1 λitv s2 h2=>?_);obtain⟨it,fp,tn,J,H2,e,I2,T,st2,f2,q⟩:=h2;subst e;refine zjL (RR:=λacc C=>compPost (model X.prog X.w) X.A X.xe ab (EP X pins σ Q) acc C) S hc ht he I2 T st2 f2 q ?_;intro D C H' s' m hn c1 c2 c3 c4 c5 I' r;refine⟨m,hn,λh' hsb=>⟨.ref D,H',?_,rfl,r⟩⟩;exact I'.turned (t':=s'.toks) (λb o hb e=>(hsb.2 b hb).trans e) c2 c1 (.inr c3) c4 c5
def ps_setlc{i:Nat}{y:Str}{py spos:Pos}(hN:X.N.Nodup)(hi':X.N[i]? =aa y)(hy:Loc X.env.scope y)(S:CompSc X N fr x scope)(hc:X.calm=true)(hi:PI X (.Name x px) iter wi)
  (ht:∀(C:ae) (s₀:ai) (H₀:Hp) (fp:List ae),PTs (cxC X N scope C s₀ H₀ fp) ifs tt) (he:∀(C:ae) (s₀:ai) (H₀:Hp) (fp:List ae),PE (cxC X N scope C s₀ H₀ fp) elt te)
  (hsw:swapsWith (.ListComp elt [⟨.Name x px,iter,ifs,0⟩] scope pos) (aa (.Name y py)) spos.line X.env=pure true:=by rfl)
  (hs:∀z,ck iter X.env z=pure z:=by intro _;rfl)
  (hf:X.fn y=true\/X.env.scope.names.lookup y=aa .local:=by first|exact .inl rfl|exact .inr rfl|assumption) :
  PS X (.Assign [.Name y py] (.ListComp elt [⟨.Name x px,iter,ifs,0⟩] scope pos) spos) (zgZ (tLC fr wi tt te) (zdG i)):=by
 intro pins s σ H D I h;rw[exec_Assign_Name_used _ _ _ _ hsw];refine ay (wpAny_standAt (ay ?_));show aM _ X.A (do let _ <- comprehension (.ListComp elt [⟨.Name x px,iter,ifs,0⟩] scope pos) scope X.env _ (newList []) false (eval iter X.env) (aa (assign (.Name y py) X.env))) _ _ s;refine ay (bX (wpAny_comprehension_free (use:=aa (assign (.Name y py) X.env)) (cl:=zjf X.env scope.names) (Q:=λ_ s'=>SP X pins D .next s') rfl hs (S.clos I) S.kind S.loc
  (thn (hi pins s σ H _ I h) λxv s1 h1=>thn h1 λitv s2 h2=>?_)) (λ_ s' hq=>a8 (a8 hq)) λ_ _ e=>e)
 obtain⟨it,fp,tn,J,H2,e,I2,T,st2,f2,q⟩:=h2;subst e;refine zjL (RR:=λacc C=>compPost (model X.prog X.w) X.A X.xe (aa (assign (.Name y py) X.env)) (λ_ s'=>SP X pins D .next s') acc C) S hc ht he I2 T st2 f2 q ?_;intro D' C H' s' m hn c1 c2 c3 c4 c5 I' r;show aM _ _ (assign (.Name y py) X.env (.ref D')) _ _ s';refine wpAny_assign_Name (zh4 (v:=.ref D') I' hN hi' hy rfl (λs'' I'' hc'=>?_) hf);obtain⟨c,hsb,hcc⟩:=hc';have hne:C≠c:=by
  rcases hcc with z|z
  ·rw[z];exact c1
  ·exact λe=>c4 y c z e.symm
 refine⟨m,hn.sameBut hsb hne,λh' hsb'=>⟨_,H',?_,r⟩⟩;exact I''.turned (t':=s''.toks) (λb o hb e=>(hsb'.2 b hb).trans e) c2 c1 (.inr c3) c4 c5
end
end L2

namespace L2
open PySem PySem.Spec PyProof.Rows
def Same.alloc{H:Hp}{p:ae}{o:HO}(h:H p=ab):Same H (upd H p o):=λb u e=>by rw[zai (zaB e h)];exact e
section
variable {X:Cx}
end
def pe_gl{X:Cx}{x:Str}{v:V}{pos:Pos}(hg:Gl X x)(h:∃u,X.mg x=aa u/\RelV v u)(hd:(x==("__debug__" : Str))=false:=by decide):PE X (.Name x pos) (tC v):=by
 obtain⟨u,hm,r⟩:=h;exact pe_glob hg hm r hd
end L2
namespace HT
open PySem PyProof.Rows
section
variable {prog:aI}{w:aO}{A:aW}{E:ag->ai->Prop}{s:ai}
end
end HT
namespace L2
open PySem PySem.Spec PyProof.Rows
section
variable {X:Cx}
end
end L2
namespace L2
open PySem PySem.Spec PyProof.Rows
section
variable {X:Cx}{pins:List (ae×Obj)}{σ:St}{H:Hp}{s:ai}{pos:Pos}
def Inv.big(I:Inv X pins σ H s):sysModules<s.heap.objs.size:=by
 have h:a9<s.heap.objs.size:=(I.mod.glob.keeps I.bk).lt;exact Nat.lt_trans (by decide) h
def dk_empty{P:aI}{w:aO}{H:Hp}(h:aV)(hb:sysModules<h.objs.size):ObjOk P w H (h.push { cls:=.type "dict",data:=.dict #[]}) h.objs.size (.dK []):=
 ⟨aL _,beq_eq_false_iff_ne.mpr (cP (bz hb)),[],.nil,ly h⟩
def tDNewK:TE:=λ_ H Q=>∀p,H p=ab->Q (.ref p) (upd H p (.dK []))
def zju:PE X (.Dict [] [] pos) tDNewK:=λpins s σ H Q I h=>
 wpAny_Dict_empty ⟨.ref s.heap.objs.size,_,I.laid (a:=s.heap.objs.size) (o:=.dK []) (t':=s.toks) (λ_ _ q=>ax _ q) (ak _) (dk_empty s.heap I.big),rfl,h _ (I.hok.fresh (ak _))⟩
end
end L2

namespace L2
open PySem PySem.Spec PyProof.Rows
def zan:Expr->Bool
 |.Starred _ _=>false
 | _=>true
def zaz{e:Expr}{es:List Expr}{env:Env}(h:zan e=true):br (e::es) env=(false,eval e env)::br es env:=by
 cases e <;> first|rfl|(exact absurd h (by decide))|(cases h)
def zcx{env:Env}{pos:Pos}:∀{es:List Expr},es.all zan=true->(backTo pos (br es env)).any (·.1)=false
 |[],_=>rfl
 |e::es,h=>by
  rw[fW,d9]at h;rw[zaz h.1];show(false || (backTo pos (br es env)).any (·.1))=false;rw[zcx h.2];rfl
def zi4{env:Env}{pos:Pos}:∀{es:List Expr},es.all zan=true->(backTo pos (br es env)).all (λx=>!x.1)=true
 |[],_=>rfl
 |e::es,h=>by
  rw[fW,d9]at h;rw[zaz h.1];show(true&&(backTo pos (br es env)).all (λx=>!x.1))=true;rw[zi4 h.2];rfl
section
variable {X:Cx}{e o:Expr}{es:List Expr}{te to:TE}{t:TA}{x:Str}{p pos:Pos}
structure Def(K:af)(mg:Str->Option ag)(x:Str)(st:Stmt)(ps:List Str)(f:ae)(fd:bx):Prop where
 fn:Fun K x x st f fd
 mg:mg x=aa (.ref f)
 b:Binds K fd ps []
def pbm{T id:String}{name:Str}{apos cpos:Pos}{r:V->List V->Hp->VK->Prop}(pa:PlainAttrs T)(slot:Slot T name id)(hty:typeOf (.builtin id)=pure (.type "method_descriptor"))(hm:MtR X id r)(ho:PE X o to)(ha:PA X (e::es) t)
  (hbase:bT o name X.env (eval o X.env)=eval o X.env:=by rfl) (hl:decide ((e::es).length+0+0<30)=true:=by rfl) (hline:(apos.endLine==cpos.line)=true:=by rfl)
  (h1:zan e=true:=by rfl) (h2:es.all zan=true:=by rfl):PE X (.Call (.Attribute o name apos) (e::es) [] cpos) (tBM X.K T r to t):=by
 refine pe_bm pa slot hty hm ho ha hbase ?_ hline (zaz h1) (zcx h2);rw[zi4 (es:=e::es) (by rw[fW,h1,h2];rfl)];exact hl
end
end L2

namespace L2
open PySem PySem.Spec PyProof.Rows
structure WE(X:Cx)(e:Expr)(t:TE):Prop where
 h:PE X e t
structure WT(X:Cx)(e:Expr)(t:TT):Prop where
 h:PT X e t
structure WW(X:Cx)(e:Expr)(t:TT):Prop where
 h:PW X e t
structure WA(X:Cx)(es:List Expr)(t:TA):Prop where
 h:PA X es t
structure WS(X:Cx)(s:Stmt)(t:TS):Prop where
 h:PS X s t
structure WSs(X:Cx)(s:List Stmt)(t:TS):Prop where
 h:PSs X s t
structure WI(X:Cx)(tg e:Expr)(t:TI):Prop where
 h:PI X tg e t
structure WG(X:Cx)(e:Expr)(t:TG):Prop where
 h:PG X e t
structure WGs(X:Cx)(es:List Expr)(t:TGs):Prop where
 h:PGs X es t
structure WO(X:Cx)(e:Option Expr)(t:TO):Prop where
 h:PO X e t
structure WTs(X:Cx)(es:List Expr)(t:TT):Prop where
 h:PTs X es t
section
variable {X:Cx}{a b c e o:Expr}{es rest:List Expr}{pos pos' p p2:Pos}{ta tb tc te to:TE}{tA tB':TT}{t:TA}{x:Str}{r r':R2}
def wv(i:Nat)(hN:X.N[i]? =aa x:=by rfl)(hv:Vis X.env.scope x:=by first|exact az rfl|exact ba (az rfl)|exact ba (ba rfl))(hd:(x==("__debug__" : Str))=false:=by decide)
  (hcd:(x==("__classdict__" : Str))=false:=by decide):WE X (.Name x pos) (zd1 i):=⟨pe_var hN hv hd hcd⟩
def wint{i:Int}{j:Nat}:WE X (.Constant (.int i) j pos) (tC (.int i)):=⟨pe_int⟩
def wbl{i:Bool}{j:Nat}:WE X (.Constant (.bool i) j pos) (tC (.bl i)):=⟨pe_bl⟩
def wnon{j:Nat}:WE X (.Constant .none j pos) (tC .non):=⟨pe_non⟩
def wstr{i:Str}{j:Nat}:WE X (.Constant (.str i) j pos) (tC (.str i)):=⟨pe_str⟩
def wgl{v:V}(hg:Gl X x)(h:∃u,X.mg x=aa u/\RelV v u)(hd:(x==("__debug__" : Str))=false:=by decide):WE X (.Name x pos) (tC v):=⟨pe_gl hg h hd⟩
def wop{op:Operator}(ho:OpR X (binaryOp op) r)(ha:WE X a ta)(hb:WE X b tb):WE X (.BinOp a op b pos) (tOp r ta tb):=⟨pe_op ho ha.h hb.h⟩
def wun{op:UnaryOp}{q:V->Hp->VK->Prop}(ho:UnR X (unaryOp op) q)(ha:WE X a ta):WE X (.UnaryOp op a pos) (tUn q ta):=⟨pe_un ho ha.h⟩
def wcmp{op:CmpOp}(ho:OpR X (bC op) r)(ha:WE X a ta)(hb:WE X b tb)(hm:behindInMarks op b=false):WE X (.Compare a [op] [b] pos) (tOp r ta tb):=⟨pe_cmpR ho ha.h hb.h hm⟩
def wone{op:BoolOp}(h:WE X a ta):WE X (.BoolOp op [a] pos) ta:=⟨pe_one h.h⟩
def wand(ha:WE X a ta)(hb:WE X (.BoolOp .And (b::rest) pos) tb):WE X (.BoolOp .And (a::b::rest) pos) (tAndV ta tb):=⟨pe_and ha.h hb.h⟩
def wif(hc:WT X c tA)(ha:WE X a ta)(hb:WE X b tb):WE X (.IfExp c a b pos) (tIf tA ta tb):=⟨pe_ifExp hc.h ha.h hb.h⟩
def wtup{x1:Nat}(h:WA X es t):WE X (.Tuple es x1 pos) (tTup t):=⟨pe_tup h.h⟩
def wlst(h:WA X es t):WE X (.List es pos) (tLst t):=⟨pe_lst h.h⟩
def wdnew:WE X (.Dict [] [] pos) tDNewK:=⟨zju⟩
def wix{r:R2}(hr:IxR X r)(ha:WE X a ta)(hb:WE X b tb)(hs:ziG b):WE X (.Subscript a b pos) (tOp r ta tb):=⟨pe_ix hr ha.h hb.h hs⟩
def wslice{lo hi:Option Expr}{tl th:TO}{r:V->Option Int->Option Int->Hp->VK->Prop}(hr:SlR X r)(he:WE X e te)(hl:WO X lo tl)(hu:WO X hi th):WE X (.Subscript e (.Slice lo hi ab p2) pos) (tSl r te tl th):=⟨pe_slice hr he.h hl.h hu.h⟩
def wnil:WA X [] tNil:=⟨pa_nil⟩
def wac(ha:WE X e te)(hr:WA X es t)(h:zan e=true:=by rfl):WA X (e::es) (tCons te t):=⟨pa_cons ha.h hr.h (zaz h)⟩
def won:WO X ab tNoPart:=⟨po_none⟩
def wos(h:WE X e te):WO X (aa e) (tPart te):=⟨po_some h.h⟩
def wcb{id:String}{r:List V->Hp->VK->Prop}(hc:zd7 X (.builtin id) r)(hg:Gl X x)(hm:X.mg x=ab)(hv:bO x=aa (.builtin id))(ha:WA X (e::es) t)(hn:x≠ "__name__" :=by decide)(hdb:(x==("__debug__" : Str))=false:=by decide)
  (h1:zan e=true:=by rfl) (h2:es.all zan=true:=by rfl):WE X (.Call (.Name x p) (e::es) [] pos) (tCB r t):=⟨pe_callB hc hg hm hv ha.h hn hdb (zaz h1) (zcx h2)⟩
def wct{T:String}{r:List V->Hp->VK->Prop}(hc:zd7 X (.type T) r)(hg:Gl X x)(hm:X.mg x=ab)(hv:bO x=aa (.type T))(ha:WA X (e::es) t)(hn:x≠ "__name__" :=by decide)(hdb:(x==("__debug__" : Str))=false:=by decide)
  (h1:zan e=true:=by rfl) (h2:es.all zan=true:=by rfl):WE X (.Call (.Name x p) (e::es) [] pos) (tCB r t):=⟨pe_callTy hc hg hm hv ha.h hn hdb (zaz h1) (zcx h2)⟩
def wcl{CX:CXT}{k j:Nat}{f:ae}{fd:bx}{ps:List Str}{sp:Sp}{st:Stmt}{E:XK}(F:FnOk X.prog X.w X.K X.mg X.base CX k f fd ps sp)(D:Def X.K X.mg x st ps f fd)(hr:Room j X.A)(hg:Gl X x)(hx:zcm CX X E)
  (ha:WA X (e::es) t) (hjk:k<=j:=by decide) (hdb:(x==("__debug__" : Str))=false:=by decide) (h1:zan e=true:=by rfl) (h2:es.all zan=true:=by rfl) :
  WE X (.Call (.Name x p) (e::es) [] pos) (tCall sp [] E t):=⟨ziR F (hr.mono hjk) hg D.mg D.fn.kp D.b .nil hx ha.h hdb (zaz h1) (zcx h2)⟩
def wbm{T id:String}{name:Str}{apos cpos:Pos}{r:V->List V->Hp->VK->Prop}(pa:PlainAttrs T)(slot:Slot T name id)(hty:typeOf (.builtin id)=pure (.type "method_descriptor"))(hm:MtR X id r)(ho:WE X o to)(ha:WA X (e::es) t)
  (hbase:bT o name X.env (eval o X.env)=eval o X.env:=by rfl) (hl:decide ((e::es).length+0+0<30)=true:=by rfl) (hline:(apos.endLine==cpos.line)=true:=by rfl)
  (h1:zan e=true:=by rfl) (h2:es.all zan=true:=by rfl):WE X (.Call (.Attribute o name apos) (e::es) [] cpos) (tBM X.K T r to t):=⟨pbm pa slot hty hm ho.h ha.h hbase hl hline h1 h2⟩
def tcmp{op:CmpOp}(ho:OpR X (bC op) r)(ha:WE X a ta)(hb:WE X b tb)(hm:behindInMarks op b=false):WT X (.Compare a [op] [b] pos) (zf5 (tOp r ta tb)):=⟨pt_cmpR ho ha.h hb.h hm⟩
def tand1(ha:WT X a tA):WW X (.BoolOp .And [a] pos) tA:=⟨pw_and1 ha.h⟩
def tor1(ha:WT X a tA):WW X (.BoolOp .Or [a] pos) tA:=⟨pw_or1 ha.h⟩
def tand(ha:WT X a tA)(hb:WW X (.BoolOp .And (b::rest) pos) tB'):WW X (.BoolOp .And (a::b::rest) pos) (tAnd tA tB'):=⟨pw_and ha.h hb.h⟩
def tor(ha:WT X a tA)(hb:WW X (.BoolOp .Or (b::rest) pos) tB'):WW X (.BoolOp .Or (a::b::rest) pos) (tOr tA tB'):=⟨pw_or ha.h hb.h⟩
def tw(h:WW X a tA):WT X a tA:=⟨h.h.pt⟩
def tnot(ha:WT X a tA):WT X (.UnaryOp .Not a pos) (tNot tA):=⟨pt_not ha.h⟩
def tval(h:WE X e te)(he:∀whole,isTrue e X.env whole=(do let v <- whole;standAt e.pos;holding [v] (truthy v)):=by intro _;rfl):WT X e (tB te):=⟨pt_val h.h he⟩
def ifs0:WTs X [] tNoIf:=⟨pts_nil⟩
def ifs1(h:WT X c tA):WTs X [c] tA:=⟨pts_one h.h⟩
end
section
variable {X:Cx}{e c tg iter:Expr}{es:List Expr}{pos pos' p:Pos}{te:TE}{tc:TT}{ta:TA}{x:Str}{st:Stmt}{sr body els:List Stmt}{t u tb:TS}{wi:TI}{g:TG}{gs:TGs}
def il(h:WE X e te):WI X tg e (iList X.K te):=⟨pi_list h.h⟩
def it(h:WE X e te):WI X tg e (iTup X.K te):=⟨pi_tup h.h⟩
def ir1(hg:Gl X "range")(hm:X.mg "range" =ab)(ha:WA X [e] ta)(h1:zan e=true:=by rfl):WI X tg (.Call (.Name "range" p) [e] [] pos) (iRng1 ta):=⟨pi_range1 hg hm ha.h (zaz h1)⟩
def ir2{b:Expr}(hg:Gl X "range")(hm:X.mg "range" =ab)(ha:WA X [e,b] ta)(h1:zan e=true:=by rfl)(h2:zan b=true:=by rfl):WI X tg (.Call (.Name "range" p) [e,b] [] pos) (iRng2 ta):=⟨pi_range2 hg hm ha.h (by rw[zaz h1,zaz h2];rfl) (by rw[zaz h2];rfl)⟩
def gn{i:Nat}(hN:X.N.Nodup)(hi:X.N[i]? =aa x)(hx:Loc X.env.scope x)(hf:X.fn x=true\/X.env.scope.names.lookup x=aa .local:=by first|exact .inl rfl|exact .inr rfl|assumption):WG X (.Name x pos) (zdG i):=⟨ziT hN hi hx hf⟩
def gs0:WGs X [] gNil:=⟨pgs_nil⟩
def gs1(h1:WG X e g)(h2:WGs X es gs)(hs:(cv (e::es) X.env).map (·.2)=assign e X.env::(cv es X.env).map (·.2):=by rfl):WGs X (e::es) (gCons g gs):=⟨zgA h1.h h2.h hs⟩
def gt{k n:Nat}(hc:X.calm=true)(h:WGs X es gs)(hn:(cv es X.env).length=n:=by rfl)(hst:(cv es X.env).findIdx? (·.1)=ab:=by rfl):WG X (.Tuple es k pos) (gTup X.K n gs):=⟨pg_tup hc h.h hn hst⟩
def s0:WSs X [] tNext:=⟨pss_nil⟩
def sc(h1:WS X st t)(h2:WSs X sr u):WSs X (st::sr) (tSeq t u):=⟨pss_cons h1.h h2.h⟩
def s1(h1:WS X st t):WSs X [st] t:=⟨pss_one h1.h⟩
def sex(he:WE X e te)(hs:swapsWith e ab pos.line X.env=pure false:=by rfl):WS X (.Expr e pos) (tDrop te):=⟨ps_expr he.h hs⟩
def sret(he:WE X e te):WS X (.Return (aa e) pos) (tRet te):=⟨ps_ret he.h⟩
def sif(hc:WT X c tc)(ha:WSs X body t)(hb:WSs X els u):WS X (.If c body els pos) (tIfS tc t u):=⟨ps_if hc.h ha.h hb.h⟩
def sset{i:Nat}(hN:X.N.Nodup)(hi:X.N[i]? =aa x)(hx:Loc X.env.scope x)(he:WE X e te)(hs:swapsWith e (aa (.Name x pos')) pos.line X.env=pure false:=by rfl)(hf:X.fn x=true\/X.env.scope.names.lookup x=aa .local:=by first|exact .inl rfl|exact .inr rfl|assumption) :
  WS X (.Assign [.Name x pos'] e pos) (zgZ te (zdG i)):=⟨ps_set hN hi hx he.h hs hf⟩
def sasg(he:WE X e te)(hg:WG X tg g)(hs:swapsWithSole [tg] e pos.line X.env=pure false:=by rfl)(hw:swappedStores [tg] e X.env=pure ab:=by rfl)(h1:(cv [tg] X.env).map (·.2)=[assign tg X.env]:=by rfl):WS X (.Assign [tg] e pos) (zgZ te g):=⟨ps_asg he.h hg.h hs hw h1⟩
def sfor(hp:PassesOwn (model X.prog X.w) X.A X.env X.xe)(hc:X.calm=true)(hi:WI X tg iter wi)(hg:WG X tg g)(hb:WSs X body tb)(hs:∀z,ck iter X.env z=pure z:=by intro _;rfl):WS X (.For tg iter body [] pos) (tFor wi g tb):=⟨ps_for hp hc hi.h hg.h hb.h hs⟩
def swhile(hp:PassesOwn (model X.prog X.w) X.A X.env X.xe)(hc:WT X c tc)(hb:WSs X body tb):WS X (.While c body [] pos) (zjh tc tb):=⟨ps_while hp hc.h hb.h⟩
end
section
variable {X:Cx}{N:List Str}{fr:List Nat}{x:Str}{scope:Scope}{iter elt:Expr}{ifs:List Expr}{px pos:Pos}{wi:TI}{te:TE}{tt:TT}
def wlc(S:CompSc X N fr x scope)(hc:X.calm=true)(hi:WI X (.Name x px) iter wi)
  (ht:∀(C:ae) (s₀:ai) (H₀:Hp) (fp:List ae),WTs (cxC X N scope C s₀ H₀ fp) ifs tt) (he:∀(C:ae) (s₀:ai) (H₀:Hp) (fp:List ae),WE (cxC X N scope C s₀ H₀ fp) elt te)
  (hs:∀z,ck iter X.env z=pure z:=by intro _;rfl):WE X (.ListComp elt [⟨.Name x px,iter,ifs,0⟩] scope pos) (tLC fr wi tt te):=⟨pe_lc S hc hi.h (λC s₀ H₀ fp=>(ht C s₀ H₀ fp).h) (λC s₀ H₀ fp=>(he C s₀ H₀ fp).h) hs⟩
def ssetlc{i:Nat}{y:Str}{py spos:Pos}(hN:X.N.Nodup)(hi':X.N[i]? =aa y)(hy:Loc X.env.scope y)(S:CompSc X N fr x scope)(hc:X.calm=true)(hi:WI X (.Name x px) iter wi)
  (ht:∀(C:ae) (s₀:ai) (H₀:Hp) (fp:List ae),WTs (cxC X N scope C s₀ H₀ fp) ifs tt) (he:∀(C:ae) (s₀:ai) (H₀:Hp) (fp:List ae),WE (cxC X N scope C s₀ H₀ fp) elt te)
  (hsw:swapsWith (.ListComp elt [⟨.Name x px,iter,ifs,0⟩] scope pos) (aa (.Name y py)) spos.line X.env=pure true:=by rfl)
  (hs:∀z,ck iter X.env z=pure z:=by intro _;rfl)
  (hf:X.fn y=true\/X.env.scope.names.lookup y=aa .local:=by first|exact .inl rfl|exact .inr rfl|assumption) :
  WS X (.Assign [.Name y py] (.ListComp elt [⟨.Name x px,iter,ifs,0⟩] scope pos) spos) (zgZ (tLC fr wi tt te) (zdG i)):=
 ⟨ps_setlc hN hi' hy S hc hi.h (λC s₀ H₀ fp=>(ht C s₀ H₀ fp).h) (λC s₀ H₀ fp=>(he C s₀ H₀ fp).h) hsw hs hf⟩
end
end L2

set_option maxRecDepth 100000
set_option maxHeartbeats 4000000
namespace L2
open PySem PySem.Spec PyProof.Rows
abbrev KN:=Option Int
def kN:KN->V
 |none=>.non
 |some i=>.int i
def nHash:KN->Int
 |none=>reduceHash 0xFCA86420
 |some k=>hashInt k
def dtE(q:List KN×ae×ag):DictEntry:=⟨reduceHash (jX (q.1.map nHash)),.ref q.2.1,q.2.2⟩
def DtP:List (List KN×ae×V)->List (List KN×ae×ag)->Prop:=Paired λp q=>p.1=q.1/\p.2.1=q.2.1/\RelV p.2.2 q.2.2
def DtOk(l:ae)(xs:List (List KN×ae×V))(h:aV):Prop:=
 (l==sysModules)=false/\xs.length<=bj/\∃ys,DtP xs ys/\∃o es ep,h.get? l=aa o/\o.ExactDict/\o.data=.dict es ep/\es.toList=ys.map dtE/\(ys.map (·.1)).Nodup
def dtO(l:ae)(xs:List (List KN×ae×V)):HO:=.ext (DtOk l xs)
def knO(l:ae)(o:Obj):HO:=.ext λh=>h.get? l=aa o
def kBk:ag->Key
 |.int i _=>.inl i
 |.str x _=>.inr x
 | _=>.inl 0
def kBk_is{k:Key}{v:ag}(h:ziO k v=true):kBk v=k:=by
 rcases zaM h with ⟨i,t,rfl,rfl⟩|⟨x,t,rfl,rfl⟩ <;> rfl
def vBk:ag->V
 |.bool b=>.bl b
 |.int i _=>.int i
 |.str x _=>.str x
 |.bytes b _=>.byt b
 |.float b _=>.flt b
 |.ref a=>.ref a
 |.type n=>.ty n
 | _=>.non
def vBk_rel{v:V}{u:ag}(h:RelV v u):vBk u=v:=by
 cases v <;> first|(cases h;rfl)|(obtain⟨_,rfl⟩:=h;rfl)
def DiD(l:ae)(o:Obj)(kvs:List (Key×V)):Prop:=(l==sysModules)=false/\kvs.length<=bj /\
 ∃(P:aI) (w:aO) (es:Array DictEntry) (ep:Nat) (us:List (Key×ag)),o.ExactDict/\o.data=.dict es ep/\PySem.KeysOf (zbo P w) es/\Pairs (zbo P w) es.toList us/\(us.map (·.1)).Nodup/\KV kvs us
def ziK{kvs:List (Key×V)}{us:List (Key×ag)}(r:KV kvs us):kvs=us.map λp=>(p.1,vBk p.2):=by
 unfold KV at r
 induction r with
 |nil=>rfl
 |cons h _ ih=>rw[ar,<- ih,<- h.1,vBk_rel h.2]
def zeU{P:aI}{w:aO}{es:List DictEntry}{us:List (Key×ag)}(r:Pairs (zbo P w) es us):us=es.map λe=>(kBk e.key,e.val):=by
 induction r with
 |nil=>rfl
 |cons h1 h2 _ ih=>rw[ar,<- ih,kBk_is h1,h2]
def DiD.inj{l:ae}{o:Obj}{kvs kvs':List (Key×V)}(h:DiD l o kvs)(h':DiD l o kvs'):kvs=kvs':=by
 obtain⟨_,_,P,w,es,ep,us,_,h1,_,h2,_,h3⟩:=h;obtain⟨_,_,P',w',es',ep',us',_,h1',_,h2',_,h3'⟩:=h';rw[h1]at h1';cases h1';rw[ziK h3,ziK h3',zeU h2,zeU h2']
def knO_inj{l:ae}{o o':Obj}{kvs:List (Key×V)}(h:knO l o=knO l o')(d:DiD l o kvs):o=o':=by
 obtain⟨_,_,_,_,es,ep,_,_,h1,_⟩:=d;have g:=aT ⟨gI l o,{}⟩ (o:=o) (by cases o;cases h1;rfl);rw[show(⟨gI l o,{}⟩:aV).objs.size=l from Array.size_replicate]at g;have z:=congrFun (HO.ext.inj h) ((⟨gI l o,{}⟩:aV).push o);exact aJ (g.symm.trans (z.mp g))
end L2

namespace L3
open PySem PySem.Spec PyProof.Rows L2
inductive D where
 |non|bl (b:Bool)|int (i:Int)|str (x:Str)|tup (l:List D)|lst (l:List D)|dic (ks:List Str) (l:List D)|ins (C:ae) (ns:List Str) (l:List D)|dcI (ks:List Int) (l:List D)|dcS (ks:List Str) (l:List D)
inductive OT where
 |val (d:D)|lst (l:List D)|ins (c:Str) (ns:List Str) (l:List OT)|dic (ks:List Str) (l:List D)|dcT (ks:List (List KN)) (l:List D)|dcI (ks:List Int) (l:List OT)|dcS (ks:List Str) (l:List OT)|los (l:List OT)
inductive Ent where
 |val (d:D)|own (l:List D)|bor (l:List D)|vw (l:List D)|obj (o:OT)|vwt (ks:List (List KN)) (l:List D)|bt (l:List D)
abbrev En:=List (Option Ent)
abbrev Sg:=L2.St
mutual
inductive Rep(F:Hp):V->D->Prop
 |non:Rep F .non .non
 |bl (b:Bool):Rep F (.bl b) (.bl b)
 |int (i:Int):Rep F (.int i) (.int i)
 |str (x:Str):Rep F (.str x) (.str x)
 |tup {a:ae} {vs:List V} {ds:List D}:F a=aa (.tup vs)->Reps F vs ds->Rep F (.ref a) (.tup ds)
 |lst {a:ae} {vs:List V} {ds:List D}:F a=aa (.lst vs)->Reps F vs ds->Rep F (.ref a) (.lst ds)
 |dic {a:ae} {o:Obj} {ks:List Str} {vs:List V} {ds:List D}:F a=aa (.frz o (.dK ((ks.map aY).zip vs)))->ks.length=vs.length->Reps F vs ds->Rep F (.ref a) (.dic ks ds)
 |ins {a C dx:ae} {ns:List Str} {vs:List V} {ds:List D}:F a=aa (.ins C dx (ns.zip vs))->ns.length=vs.length->Reps F vs ds->Rep F (.ref a) (.ins C ns ds)
 |dcI {a:ae} {o:Obj} {ks:List Int} {vs:List V} {ds:List D}:F a=aa (knO a o)->DiD a o ((ks.map bI).zip vs)->ks.length=vs.length->Reps F vs ds->Rep F (.ref a) (.dcI ks ds)
 |dcS {a:ae} {ks:List Str} {vs:List V} {ds:List D}:F a=aa (.dK ((ks.map aY).zip vs))->ks.length=vs.length->Reps F vs ds->Rep F (.ref a) (.dcS ks ds)
inductive Reps(F:Hp):List V->List D->Prop
 |nil:Reps F [] []
 |cons {v:V} {d:D} {vs:List V} {ds:List D}:Rep F v d->Reps F vs ds->Reps F (v::vs) (d::ds)
end
section
variable {F F':Hp}{v:V}{d:D}{vs ws:List V}{ds es:List D}
def Rep.mono(s:Same F F'){v:V}{d:D}(h:Rep F v d):Rep F' v d:=
 Rep.rec (motive_1:=λv d _=>Rep F' v d) (motive_2:=λvs ds _=>Reps F' vs ds) .non .bl .int .str (λe _ ih=>.tup (s _ _ e) ih) (λe _ ih=>.lst (s _ _ e) ih) (λe l _ ih=>.dic (s _ _ e) l ih) (λe l _ ih=>.ins (s _ _ e) l ih) (λe d l _ ih=>.dcI (s _ _ e) d l ih) (λe l _ ih=>.dcS (s _ _ e) l ih) .nil (λ_ _ h t=>.cons h t) h
def Reps.mono(s:Same F F'){vs:List V}{ds:List D}(h:Reps F vs ds):Reps F' vs ds:=
 Reps.rec (motive_1:=λv d _=>Rep F' v d) (motive_2:=λvs ds _=>Reps F' vs ds) .non .bl .int .str (λe _ ih=>.tup (s _ _ e) ih) (λe _ ih=>.lst (s _ _ e) ih) (λe l _ ih=>.dic (s _ _ e) l ih) (λe l _ ih=>.ins (s _ _ e) l ih) (λe d l _ ih=>.dcI (s _ _ e) d l ih) (λe l _ ih=>.dcS (s _ _ e) l ih) .nil (λ_ _ h t=>.cons h t) h
def Reps.ind{P:List V->List D->Prop}(h0:P [] [])(h1:∀{v d vs ds},Rep F v d->Reps F vs ds->P vs ds->P (v::vs) (d::ds)){vs:List V}{ds:List D}(h:Reps F vs ds):P vs ds:=
 Reps.rec (motive_1:=λ_ _ _=>True) (motive_2:=λvs ds _=>P vs ds) trivial (λ_=>trivial) (λ_=>trivial) (λ_=>trivial) (λ_ _ _=>trivial) (λ_ _ _=>trivial) (λ_ _ _ _=>trivial) (λ_ _ _ _=>trivial) (λ_ _ _ _ _=>trivial) (λ_ _ _ _=>trivial) h0 (λa b _ t=>h1 a b t) h
def Reps.length{vs:List V}{ds:List D}(h:Reps F vs ds):vs.length=ds.length:=h.ind (P:=λvs ds=>vs.length=ds.length) rfl λ_ _ t=>congrArg (· + 1) t
def Reps.get{vs:List V}{ds:List D}{i:Nat}{d:D}(h:Reps F vs ds):ds[i]? =aa d->∃v,vs[i]? =aa v/\Rep F v d:=
 h.ind (P:=λvs ds=>∀i,ds[i]? =aa d->∃v,vs[i]? =aa v/\Rep F v d) (λ_ e=>nomatch (show ab=aa _ from e)) (fun {v _ _ _} r _ t i e=>by
  cases i with
  |zero=>cases e;exact⟨v,rfl,r⟩
  |succ i=>exact t i e) i
def Reps.append{vs ws:List V}{ds es:List D}(h:Reps F vs ds)(s:Reps F ws es):Reps F (vs++ws) (ds++es):=h.ind (P:=λvs ds=>Reps F (vs++ws) (ds++es)) s λr _ t=>.cons r t
def Reps.take{vs:List V}{ds:List D}(n:Nat)(h:Reps F vs ds):Reps F (vs.take n) (ds.take n):=
 h.ind (P:=λvs ds=>∀n,Reps F (vs.take n) (ds.take n)) (λn=>by rw[jE,jE];exact .nil) (λr _ t n=>by
  cases n with
  |zero=>exact .nil
  |succ n=>exact .cons r (t n)) n
def Reps.drop{vs:List V}{ds:List D}(n:Nat)(h:Reps F vs ds):Reps F (vs.drop n) (ds.drop n):=
 h.ind (P:=λvs ds=>∀n,Reps F (vs.drop n) (ds.drop n)) (λn=>by rw[jF,jF];exact .nil) (λr h t n=>by
  cases n with
  |zero=>exact .cons r h
  |succ n=>exact t n) n
def Reps.set(r:Rep F v d){vs:List V}{ds:List D}(i:Nat)(h:Reps F vs ds):Reps F (vs.set i v) (ds.set i d):=
 h.ind (P:=λvs ds=>∀i,Reps F (vs.set i v) (ds.set i d)) (λ_=>.nil) (λq h t i=>by
  cases i with
  |zero=>exact .cons r h
  |succ i=>exact .cons q (t i)) i
def Reps.one(h:Rep F v d):Reps F [v] [d]:=.cons h .nil
def Reps.ints(ns:List Int):Reps F (ns.map V.int) (ns.map D.int):=by
 induction ns with
 |nil=>exact .nil
 |cons n r ih=>exact .cons (.int n) ih
def Reps.dropLast(r:Reps F vs ds):Reps F vs.dropLast ds.dropLast:=by
 rw[gZ,gZ,r.length];exact r.take _
end
def isT:HO->Bool
 |.tup _=>true
 | _=>false
def zcl(K:af)(c:Str)(C:ae):Prop:=bF K a9 c=aa (aa (.ref C))
mutual
inductive TR(K:af)(F H:Hp):V->OT->List ae->Prop
 |val {v:V} {d:D}:Rep F v d->TR K F H v (.val d) []
 |lst {l:ae} {vs:List V} {ds:List D}:H l=aa (.lst vs)->Reps F vs ds->TR K F H (.ref l) (.lst ds) [l]
 |ins {a dx C:ae} {c:Str} {ns:List Str} {vs:List V} {os:List OT} {A:List ae}:zcl K c C->H a=aa (.ins C dx (ns.zip vs))->H dx=aa (.own a)->ns.length=vs.length->TRs K F H vs os A->TR K F H (.ref a) (.ins c ns os) (a::dx::A)
 |dic {l:ae} {ks:List Str} {vs:List V} {ds:List D}:H l=aa (.dK ((ks.map aY).zip vs))->ks.length=vs.length->Reps F vs ds->TR K F H (.ref l) (.dic ks ds) [l]
 |dcT {l:ae} {xs:List (List KN×ae×V)} {ks:List (List KN)} {ds:List D}:H l=aa (dtO l xs)->ks=xs.map (·.1)->(∀x∈xs,F x.2.1=aa (.tup (x.1.map kN)))->Reps F (xs.map (·.2.2)) ds->TR K F H (.ref l) (.dcT ks ds) [l]
 |dcI {l:ae} {o:Obj} {ks:List Int} {vs:List V} {os:List OT} {A:List ae}:H l=aa (knO l o)->DiD l o ((ks.map bI).zip vs)->ks.length=vs.length->TRs K F H vs os A->TR K F H (.ref l) (.dcI ks os) (l::A)
 |dcS {l:ae} {ks:List Str} {vs:List V} {os:List OT} {A:List ae}:H l=aa (.dK ((ks.map aY).zip vs))->ks.length=vs.length->TRs K F H vs os A->TR K F H (.ref l) (.dcS ks os) (l::A)
 |los {l:ae} {vs:List V} {os:List OT} {A:List ae}:H l=aa (.lst vs)->TRs K F H vs os A->TR K F H (.ref l) (.los os) (l::A)
inductive TRs(K:af)(F H:Hp):List V->List OT->List ae->Prop
 |nil:TRs K F H [] [] []
 |cons {v:V} {o:OT} {vs:List V} {os:List OT} {A A':List ae}:TR K F H v o A->TRs K F H vs os A'->TRs K F H (v::vs) (o::os) (A++A')
end
section
variable {K:af}{F H F' H':Hp}
def TR.move(s:Same F F'){v:V}{o:OT}{A:List ae}(t:TR K F H v o A):(∀a∈A,H' a=H a)->TR K F' H' v o A:=
 TR.rec (motive_1:=λv o A _=>(∀a∈A,H' a=H a)->TR K F' H' v o A) (motive_2:=λvs os A _=>(∀a∈A,H' a=H a)->TRs K F' H' vs os A) (λr _=>.val (Rep.mono s r)) (λe r h=>.lst ((h _ aj).trans e) (r.mono s))
  (λhc e1 e2 hl _ ih h=>.ins hc ((h _ aj).trans e1) ((h _ (ah _ aj)).trans e2) hl (ih λa ha=>h a (ah _ (ah _ ha)))) (λe l r h=>.dic ((h _ aj).trans e) l (r.mono s))
  (λe l z r h=>.dcT ((h _ aj).trans e) l (λx hx=>s _ _ (z x hx)) (r.mono s)) (λe d l _ ih h=>.dcI ((h _ aj).trans e) d l (ih λa ha=>h a (ah _ ha))) (λe l _ ih h=>.dcS ((h _ aj).trans e) l (ih λa ha=>h a (ah _ ha))) (λe _ ih h=>.los ((h _ aj).trans e) (ih λa ha=>h a (ah _ ha))) (λ_=>.nil)
  (λ_ _ i1 i2 h=>.cons (i1 λa ha=>h a (aX _ ha)) (i2 λa ha=>h a (av _ ha))) t
def TRs.nil_{os:List OT}{A:List ae}(h:TRs K F H [] os A):os=[]/\A=[]:=by cases h;exact⟨rfl,rfl⟩
def TRs.cons_{v:V}{vs:List V}{os:List OT}{A:List ae}(h:TRs K F H (v::vs) os A):∃o os' A1 A2,os=o::os'/\A=A1++A2/\TR K F H v o A1/\TRs K F H vs os' A2:=by cases h with|cons t ts=>exact⟨_,_,_,_,rfl,rfl,t,ts⟩
def TRs.move(s:Same F F'):∀{vs:List V} {os:List OT} {A:List ae},TRs K F H vs os A->(∀a∈A,H' a=H a)->TRs K F' H' vs os A:=by
 intro vs
 induction vs with
 |nil=>intro os A t h;obtain⟨rfl,rfl⟩:=t.nil_;exact .nil
 |cons v vs ih=>
  intro os A t h;obtain⟨o,os',A1,A2,rfl,rfl,t1,t2⟩:=t.cons_;exact .cons (t1.move s λa ha=>h a (aX _ ha)) (ih t2 λa ha=>h a (av _ ha))
def lies1{l:ae}{u:HO}(e:H l=aa u)(hu:isT u=false):∀a∈[l],∃u,H a=aa u/\isT u=false:=λa h=>by
 cases aK.mp h;exact⟨u,e,hu⟩
def liesC{l:ae}{u:HO}{A:List ae}(e:H l=aa u)(hu:isT u=false)(h:∀a∈A,∃u,H a=aa u/\isT u=false):∀a∈l::A,∃u,H a=aa u/\isT u=false:=λa ha=>
 (aE.mp ha).elim (λz=>⟨u,z ▸ e,hu⟩) (h a)
def TR.lies{v:V}{o:OT}{A:List ae}(t:TR K F H v o A):∀a∈A,∃u,H a=aa u/\isT u=false:=
 TR.rec (motive_1:=λ_ _ A _=>∀a∈A,∃u,H a=aa u/\isT u=false) (motive_2:=λ_ _ A _=>∀a∈A,∃u,H a=aa u/\isT u=false) (λ_ a h=>nomatch h) (λe _=>lies1 e rfl) (λ_ e1 e2 _ _ ih=>liesC e1 rfl (liesC e2 rfl ih)) (λe _ _=>lies1 e rfl) (λe _ _ _=>lies1 e rfl) (λe _ _ _ ih=>liesC e rfl ih) (λe _ _ ih=>liesC e rfl ih) (λe _ ih=>liesC e rfl ih) (λa h=>nomatch h)
  (λ_ _ i1 i2 a h=>(aQ.mp h).elim (i1 a) (i2 a)) t
def TRs.lies:∀{vs:List V} {os:List OT} {A:List ae},TRs K F H vs os A->∀a∈A,∃u,H a=aa u/\isT u=false:=by
 intro vs
 induction vs with
 |nil=>intro os A t a h;obtain⟨rfl,rfl⟩:=t.nil_;cases h
 |cons v vs ih=>
  intro os A t a h;obtain⟨o,os',A1,A2,rfl,rfl,t1,t2⟩:=t.cons_;exact(aQ.mp h).elim (t1.lies a) (ih t2 a)
def zgF{α:Type}{ns:List α}:∀{vs ws:List V},ns.length=vs.length->ns.length=ws.length->ns.zip vs=ns.zip ws->vs=ws:=by
 intro vs ws h1 h2 h;have a:=congrArg (λl=>l.map Prod.snd) h;simp only[gk (dC h1.symm),gk (dC h2.symm)]at a;exact a
def TR.det{v:V}{o:OT}{A:List ae}(t:TR K F H v o A):∀{A':List ae},TR K F H v o A'->A=A':=by
 refine TR.rec (motive_1:=λv o A _=>∀{A':List ae},TR K F H v o A'->A=A') (motive_2:=λvs os A _=>∀{A':List ae},TRs K F H vs os A'->A=A') ?_ ?_ ?_ ?_ ?_ ?_ ?_ ?_ ?_ ?_ t
 ·intro _ _ _ _ h;cases h;rfl
 ·intro _ _ _ _ _ _ h;cases h;rfl
 ·intro _ _ _ _ _ _ _ _ _ e1 _ hl _ ih _ h;cases h with
  |ins _ e1' _ hl' t'=>
   have z:=aJ (e1.symm.trans e1');injection z with _ z2 z3;subst z2;cases zgF hl hl' z3;rw[ih t']
 ·intro _ _ _ _ _ _ _ _ h;cases h;rfl
 ·intro _ _ _ _ _ _ _ _ _ h;cases h;rfl
 ·intro _ _ _ _ _ _ e d l _ ih _ h;cases h with
  |dcI e' d' l' t'=>
   cases knO_inj (aJ (e.symm.trans e')) d;cases zgF (by rw[al];exact l) (by rw[al];exact l') (d.inj d');rw[ih t']
 ·intro _ _ _ _ _ e l _ ih _ h;cases h with
  |dcS e' l' t'=>
   cases zgF (by rw[al];exact l) (by rw[al];exact l') (HO.dK.inj (aJ (e.symm.trans e')));rw[ih t']
 ·intro _ _ _ _ e _ ih _ h;cases h with
  |los e' t'=>
   cases HO.lst.inj (aJ (e.symm.trans e'));rw[ih t']
 ·intro _ h;exact h.nil_.2.symm
 ·intro _ _ _ _ _ _ _ _ i1 i2 _ h;obtain⟨_,_,_,_,e,rfl,t1,t2⟩:=h.cons_;cases e;rw[i1 t1,i2 t2]
end
structure Bd where
 hp:Hp
 pin:Option V
instance:Coe Bd Hp:=⟨Bd.hp⟩
structure Ex(F H F' H':Hp):Prop where
 ff:Same F F'
 fh:Same F' H'
 hh:Same H H'
 nw:∀a o,H a=aa o->isT o=false->F' a=F a
section
variable {K:af}{B:Bd}{F H F' H' F2 H2 H0:Hp}{v:V}{p:ae}{o:HO}{e:Ent}{σ:Sg}{δ:En}
def Ex.refl(h:Same F H):Ex F H F H:=⟨Same.refl F,h,Same.refl H,λ_ _ _ _=>rfl⟩
def Ex.trans(a:Ex F H F' H')(b:Ex F' H' F2 H2):Ex F H F2 H2:=⟨a.ff.trans b.ff,b.fh,a.hh.trans b.hh,λx o e t=>(b.nw x o (a.hh x o e) t).trans (a.nw x o e t)⟩
def same_upd2(h:Same F H)(hp:H p=ab):Same (upd F p o) (upd H p o):=λb u e=>by
 by_cases hb:b=p
 ·subst hb;rw[zaj]at e ⊢;exact e
 ·rw[zai hb]at e ⊢;exact h b u e
def Ex.alloc(h:Same F H)(hp:H p=ab):Ex F H (upd F p o) (upd H p o):=
 ⟨Same.alloc (h.free hp),same_upd2 h hp,Same.alloc hp,λa u e _=>zai (zaB e hp)⟩
def Ex.lay(h:Same F H)(hp:H p=ab):Ex F H F (upd H p o):=⟨Same.refl F,h.trans (Same.alloc hp),Same.alloc hp,λ_ _ _ _=>rfl⟩
def Ex.freeze(x:Ex F H F' H')(h0:H p=ab)(h1:H' p=aa o)(h2:F' p=ab):Ex F H (upd F' p o) H':=by
 refine⟨x.ff.trans (Same.alloc h2),λb u e=>?_,x.hh,λa u e t=>?_⟩
 ·by_cases hb:b=p
  ·subst hb;rw[zaj]at e;cases e;exact h1
  ·rw[zai hb]at e;exact x.fh b u e
 ·rw[zai (zaB e h0)];exact x.nw a u e t
inductive ROwn(H0 F H:Hp)(v:V)(ds:List D):Prop
 |mk (l:ae) (vs:List V):v=.ref l->H0 l=ab->H l=aa (.lst vs)->Reps F vs ds->F l=ab->ROwn H0 F H v ds
inductive NOwn(B F H:Hp)(v:V)(ds:List D):Prop
 |mk (l:ae) (vs:List V):v=.ref l->H l=aa (.lst vs)->Reps F vs ds->F l=ab->B l=ab->NOwn B F H v ds
inductive RBor(K:af)(F H:Hp)(v:V)(ds:List D):Prop
 |mk (l:ae) (vs:List V):v=.ref l->SqL K H l vs->Reps F vs ds->RBor K F H v ds
inductive RVw(F H:Hp)(v:V)(ds:List D):Prop
 |mk (l:ae) (vs:List V):v=.ref l->H l=aa (.lst vs)->Reps F vs ds->RVw F H v ds
inductive RBt(K:af)(F H:Hp)(v:V)(ds:List D):Prop
 |mk (l:ae) (vs:List V):v=.ref l->SqT K H l vs->Reps F vs ds->RBt K F H v ds
inductive RObj(K:af)(H0 F H:Hp)(v:V)(o:OT):Prop
 |mk (z:∃l,v=.ref l) (A:List ae):TR K F H v o A->A.Nodup->(∀a∈A,F a=ab/\H0 a=ab)->RObj K H0 F H v o
inductive NObj(K:af)(B F H:Hp)(v:V)(o:OT):Prop
 |mk (A:List ae):TR K F H v o A->A.Nodup->(∀a∈A,F a=ab/\B a=ab)->NObj K B F H v o
def RepR(K:af)(H0 F H:Hp)(v:V):Ent->Prop
 |.val d=>Rep F v d
 |.own ds=>ROwn H0 F H v ds
 |.bor ds=>RBor K F H v ds
 |.vw ds=>RVw F H v ds
 |.obj o=>RObj K H0 F H v o
 |.vwt ks ds=>∃A,TR K F H v (.dcT ks ds) A
 |.bt ds=>RBt K F H v ds
def _root_.L2.Same.seqT{K:af}{H H':Hp}{l:ae}{vs:List V}(s:Same H H')(h:SqT K H l vs):SqT K H' l vs:=by
 rcases h with (h|⟨o,h⟩)|h
 ·exact .inl (.inl (s _ _ h))
 ·exact .inl (.inr ⟨o,s _ _ h⟩)
 ·exact .inr h
def TR.ext{o:OT}{A:List ae}(r:TR K F H v o A)(x:Ex F H F' H'):TR K F' H' v o A/\∀a∈A,F' a=F a:=
 ⟨r.move x.ff λa ha=>let⟨_,h1,_⟩:=r.lies a ha;(x.hh _ _ h1).trans h1.symm,λa ha=>let⟨_,h1,h2⟩:=r.lies a ha;x.nw _ _ h1 h2⟩
def RepR.ext(r:RepR K H0 F H v e)(x:Ex F H F' H'):RepR K H0 F' H' v e:=by
 cases e with
 |val d=>exact Rep.mono x.ff r
 |own ds=>
  obtain⟨l,vs,e,h0,h1,rs,h2⟩:=r;exact⟨l,vs,e,h0,x.hh _ _ h1,rs.mono x.ff,(x.nw _ _ h1 rfl).trans h2⟩
 |bor ds=>obtain⟨l,vs,e,h,rs⟩:=r;exact⟨l,vs,e,x.hh.seq h,rs.mono x.ff⟩
 |vw ds=>obtain⟨l,vs,e,h,rs⟩:=r;exact⟨l,vs,e,x.hh _ _ h,rs.mono x.ff⟩
 |obj o=>obtain⟨z,A,t,n,h⟩:=r;exact⟨z,A,(t.ext x).1,n,λa ha=>⟨((t.ext x).2 a ha).trans (h a ha).1,(h a ha).2⟩⟩
 |vwt ks ds=>obtain⟨A,t⟩:=r;exact⟨A,(t.ext x).1⟩
 |bt ds=>obtain⟨l,vs,e,h,rs⟩:=r;exact⟨l,vs,e,x.hh.seqT h,rs.mono x.ff⟩
def RepR.earlier(r:RepR K H F' H' v e)(s:Same H0 H):RepR K H0 F' H' v e:=by
 cases e with
 |own ds=>obtain⟨l,vs,e,h0,h1,h2,h3⟩:=r;exact⟨l,vs,e,s.free h0,h1,h2,h3⟩
 |obj o=>obtain⟨z,A,t,n,h⟩:=r;exact⟨z,A,t,n,λa ha=>⟨(h a ha).1,s.free (h a ha).2⟩⟩
 | _=>exact r
def RepN(K:af)(B F H:Hp)(v:V):Ent->Prop
 |.val d=>Rep F v d
 |.own ds=>NOwn B F H v ds
 |.bor ds=>RBor K F B v ds
 |.vw ds=>RVw F H v ds
 |.obj o=>NObj K B F H v o
 |.vwt ks ds=>∃A,TR K F H v (.dcT ks ds) A
 |.bt ds=>RBt K F B v ds
def Ent.lk:Ent->Bool
 |.own _=>true
 |.vw _=>true
 | _=>false
def Occ(K:af)(F H:Hp)(v:V):Ent->ae->Prop
 |.own _,a=>v=.ref a
 |.vw _,a=>v=.ref a
 |.obj o,a=>∃A,TR K F H v o A/\a∈A
 |.vwt ks ds,a=>∃A,TR K F H v (.dcT ks ds) A/\a∈A
 | _,_=>False
def Ent.isO:Ent->Bool
 |.obj _=>true
 | _=>false
structure RS(K:af)(B:Bd)(F H:Hp)(σ:Sg)(δ:En):Prop where
 fh:Same F H
 bh:Same B H
 len:σ.length=δ.length
 ent:∀(i:Nat) (e:Ent),δ[i]? =aa (aa e)->∃v,σ[i]? =aa (aa v)/\RepN K B F H v e
 ap:∀(i j:Nat) (l:ae) (ds:List D) (e:Ent),i≠j->δ[i]? =aa (aa (.own ds))->σ[i]? =aa (aa (.ref l))->δ[j]? =aa (aa e)->e.lk=true->σ[j]?≠aa (aa (.ref l))
 ao:∀(i j:Nat) (e e':Ent) (v w:V) (a:ae),i≠j->δ[i]? =aa (aa e)->σ[i]? =aa (aa v)->δ[j]? =aa (aa e')->σ[j]? =aa (aa w)->e.isO=true->Occ K F H v e a->Occ K F H w e' a->False
 pn:∀(v:V) (o:OT),B.pin=aa v->δ[0]? =aa (aa (.obj o))->σ[0]? =aa (aa v)
def RepN.ext(r:RepN K B F H v e)(x:Ex F H F' H'):RepN K B F' H' v e:=by
 cases e with
 |val d=>exact Rep.mono x.ff r
 |own ds=>obtain⟨l,vs,e,h1,rs,h2,h3⟩:=r;exact⟨l,vs,e,x.hh _ _ h1,rs.mono x.ff,(x.nw _ _ h1 rfl).trans h2,h3⟩
 |bor ds=>obtain⟨l,vs,e,h,rs⟩:=r;exact⟨l,vs,e,h,rs.mono x.ff⟩
 |vw ds=>obtain⟨l,vs,e,h,rs⟩:=r;exact⟨l,vs,e,x.hh _ _ h,rs.mono x.ff⟩
 |obj o=>obtain⟨A,t,n,h⟩:=r;exact⟨A,(t.ext x).1,n,λa ha=>⟨((t.ext x).2 a ha).trans (h a ha).1,(h a ha).2⟩⟩
 |vwt ks ds=>obtain⟨A,t⟩:=r;exact⟨A,(t.ext x).1⟩
 |bt ds=>obtain⟨l,vs,e,h,rs⟩:=r;exact⟨l,vs,e,h,rs.mono x.ff⟩
def Occ.back{a:ae}(r:RepN K B F H v e)(m:∀o A,(e=.obj o\/∃ks ds,e=.vwt ks ds/\o=.dcT ks ds)->TR K F H v o A->TR K F' H' v o A)(h:Occ K F' H' v e a):Occ K F H v e a:=by
 cases e with
 |obj o=>
  obtain⟨A,t,_⟩:=r;obtain⟨A',t',h'⟩:=h;rw[t'.det (m o A (.inl rfl) t)]at h';exact⟨A,t,h'⟩
 |vwt ks ds=>
  obtain⟨A,t⟩:=r;obtain⟨A',t',h'⟩:=h;rw[t'.det (m _ A (.inr ⟨ks,ds,rfl,rfl⟩) t)]at h';exact⟨A,t,h'⟩
 | _=>exact h
def Occ.backX{a:ae}(r:RepN K B F H v e)(x:Ex F H F' H')(h:Occ K F' H' v e a):Occ K F H v e a:=h.back r λ_ _ _ t=>(t.ext x).1
def RepN.lies{a:ae}(r:RepN K B F H v e)(h:Occ K F H v e a):∃u,H a=aa u:=by
 cases e with
 |own ds=>obtain⟨l,vs,e,h1,_⟩:=r;cases e;cases (show V.ref l=.ref a from h);exact⟨_,h1⟩
 |vw ds=>obtain⟨l,vs,e,h1,_⟩:=r;cases e;cases (show V.ref l=.ref a from h);exact⟨_,h1⟩
 |obj o=>obtain⟨A,t,h'⟩:=h;obtain⟨u,h1,_⟩:=t.lies a h';exact⟨u,h1⟩
 |vwt ks ds=>obtain⟨A,t,h'⟩:=h;obtain⟨u,h1,_⟩:=t.lies a h';exact⟨u,h1⟩
 | _=>exact h.elim
def RS.occ{i:Nat}{a:ae}(s:RS K B F H σ δ)(h:δ[i]? =aa (aa e))(q:σ[i]? =aa (aa v))(o:Occ K F H v e a):∃u,H a=aa u:=by
 obtain⟨w,h1,h2⟩:=s.ent i e h;rw[q]at h1;cases h1;exact h2.lies o
def RS.at{i:Nat}(s:RS K B F H σ δ)(h:δ[i]? =aa (aa e))(q:σ[i]? =aa (aa v)):RepN K B F H v e:=by
 obtain⟨w,h1,h2⟩:=s.ent i e h;rw[q]at h1;cases h1;exact h2
def RS.ext(s:RS K B F H σ δ)(x:Ex F H F' H'):RS K B F' H' σ δ:=
 ⟨x.fh,s.bh.trans x.hh,s.len,λi e h=>let⟨v,h1,h2⟩:=s.ent i e h;⟨v,h1,h2.ext x⟩,s.ap,
  λi j e e' v w a hij h1 h2 h3 h4 h5 h6 h7=>s.ao i j e e' v w a hij h1 h2 h3 h4 h5 (h6.backX (s.at h1 h2) x) (h7.backX (s.at h3 h4) x),s.pn⟩
def asV:Ent->Option D
 |.val d=>aa d
 |.own ds=>aa (.lst ds)
 | _=>ab
def asL:Ent->Option (List D)
 |.val (.lst ds)=>aa ds
 |.own ds=>aa ds
 |.bor ds=>aa ds
 |.vw ds=>aa ds
 | _=>ab
def RepR.toL{ds:List D}(r:RepR K H0 F H v e)(h:Same F H)(q:asL e=aa ds):RBor K F H v ds:=by
 cases e with
 |val d=>
  cases d with
  |lst es=>
   cases q;cases (show Rep F v (.lst _)from r)with
   |lst e rs=>exact⟨_,_,rfl,SqL.of (h _ _ e),rs⟩
  | _=>cases q
 |own es=>cases q;obtain⟨l,vs,e,_,h1,rs,_⟩:=r;exact⟨l,vs,e,SqL.of h1,rs⟩
 |bor es=>cases q;exact r
 |vw es=>cases q;obtain⟨l,vs,e,h1,rs⟩:=r;exact⟨l,vs,e,SqL.of h1,rs⟩
 |obj o=>cases q
 |vwt ks ds=>cases q
 |bt ds=>cases q
def asLt:Ent->Option (List D)
 |.val (.lst ds)=>aa ds
 |.own ds=>aa ds
 |.vw ds=>aa ds
 | _=>ab
end
end L3

namespace L3
open PySem PySem.Spec PyProof.Rows L2
abbrev FE:=En->Option Ent
abbrev FT:=En->Option Bool
abbrev FA:=En->Option (List Ent)
inductive RepRs(K:af)(H0 F H:Hp):List V->List Ent->Prop
 |nil:RepRs K H0 F H [] []
 |cons {v:V} {e:Ent} {vs:List V} {es:List Ent}:RepR K H0 F H v e->RepRs K H0 F H vs es->RepRs K H0 F H (v::vs) (e::es)
section
variable {K:af}{B:Bd}{F H F' H' F2 H2 H0:Hp}
def RepRs.earlier(s:Same H0 H){vs:List V}{es:List Ent}(h:RepRs K H F' H' vs es):RepRs K H0 F' H' vs es:=h.rec .nil λr _ t=>.cons (r.earlier s) t
def RepRs.length{vs:List V}{es:List Ent}(h:RepRs K H0 F H vs es):vs.length=es.length:=h.rec (motive:=λvs es _=>vs.length=es.length) rfl λ_ _ t=>congrArg (· + 1) t
def zdF:List Ent->Option (List D)
 |[]=>aa []
 |e::es=>(asV e).bind λd=>(zdF es).map λds=>d::ds
def RepR.frz{v:V}{e:Ent}{d:D}(x:Ex F H F' H')(s:Same F2 F')(r:RepR K H F2 H' v e)(q:asV e=aa d):∃F3,Ex F H F3 H'/\Same F' F3/\Rep F3 v d:=by
 cases e with
 |val d'=>cases q;exact⟨F',x,Same.refl _,Rep.mono s r⟩
 |own ds=>
  cases q;obtain⟨l,vs,e,h0,h1,rs,h2⟩:=r;subst e;cases z:F' l with
  |none=>exact⟨upd F' l (.lst vs),x.freeze h0 h1 z,Same.alloc z,.lst zaj (rs.mono (s.trans (Same.alloc z)))⟩
  |some o=>
   have:=x.fh _ _ z;rw[h1]at this;cases this;exact⟨F',x,Same.refl _,.lst z (rs.mono s)⟩
 | _=>cases q
def RepRs.frz{vs:List V}{es:List Ent}{ds:List D}{F':Hp}(x:Ex F H F' H')(s:Same F2 F')(h:RepRs K H F2 H' vs es)(q:zdF es=aa ds):∃F3,Ex F H F3 H'/\Same F' F3/\Reps F3 vs ds:=by
 induction h generalizing ds F' with
 |nil=>cases q;exact⟨F',x,Same.refl _,.nil⟩
 |@cons _ e _ es r t ih=>
  simp only[zdF]at q;cases h1:asV e with
  |none=>rw[h1]at q;cases q
  |some d=>
   cases h2:zdF es with
   |none=>rw[h1,h2]at q;cases q
   |some ds'=>
    rw[h1,h2]at q;cases q;obtain⟨F3,x3,s3,r3⟩:=r.frz x s h1;obtain⟨F4,x4,s4,r4⟩:=ih x3 (s.trans s3) h2;exact⟨F4,x4,s3.trans s4,.cons (Rep.mono s4 r3) r4⟩
end
def SemE(K:af)(t:TE)(f:FE):Prop:=∀(B:Bd) (F H:Hp) (σ:Sg) (δ:En) (r:Ent) (Q:VK),RS K B F H σ δ->f δ=aa r->(∀v F' H',Ex F H F' H'->RepR K H F' H' v r->Q v H')->t σ H Q
def SemT(K:af)(t:TT)(f:FT):Prop:=∀(B:Bd) (F H:Hp) (σ:Sg) (δ:En) (b:Bool) (Q:Bool->Hp->Prop),RS K B F H σ δ->f δ=aa b->(∀F' H',Ex F H F' H'->Q b H')->t σ H Q
def SemA(K:af)(t:TA)(f:FA):Prop:=∀(B:Bd) (F H:Hp) (σ:Sg) (δ:En) (rs:List Ent) (Q:List V->Hp->Prop),RS K B F H σ δ->f δ=aa rs->(∀vs F' H',Ex F H F' H'->RepRs K H F' H' vs rs->Q vs H')->t σ H Q
structure VE(X:Cx)(e:Expr)(f:FE):Prop where
 h:∃t,WE X e t/\SemE X.K t f
structure VT(X:Cx)(e:Expr)(f:FT):Prop where
 h:∃t,WT X e t/\SemT X.K t f
structure VW(X:Cx)(e:Expr)(f:FT):Prop where
 h:∃t,WW X e t/\SemT X.K t f
structure VA(X:Cx)(es:List Expr)(f:FA):Prop where
 h:∃t,WA X es t/\SemA X.K t f
structure VTs(X:Cx)(es:List Expr)(f:FT):Prop where
 h:∃t,WTs X es t/\SemT X.K t f
def zab(i:Nat):FE:=λδ=>match δ[i]? with
 |some (aa (.own ds))=>aa (.vw ds)
 |some (aa (.obj _))=>ab
 |some (aa e)=>aa e
 | _=>ab
def eC(d:D):FE:=λ_=>aa (.val d)
def ex1(g:Ent->Option Ent)(fa:FE):FE:=λδ=>(fa δ).bind g
def ex2(g:Ent->Ent->Option Ent)(fa fb:FE):FE:=λδ=>(fa δ).bind λx=>(fb δ).bind λy=>g x y
def bOf:Ent->Option Bool
 |.val (.bl b)=>aa b
 | _=>ab
def eAnd(fa fb:FE):FE:=λδ=>((fa δ).bind bOf).bind λb=>if b=true then fb δ else aa (.val (.bl false))
def eOr(fa fb:FE):FE:=λδ=>((fa δ).bind bOf).bind λb=>if b=true then aa (.val (.bl true))else fb δ
def gNot:Ent->Option Ent:=λe=>(bOf e).map λb=>.val (.bl (!b))
def tOf(fe:FE):FT:=λδ=>(fe δ).bind bOf
def zhg(ft fu:FT):FT:=λδ=>(ft δ).bind λb=>if b=true then fu δ else aa false
def fOr(ft fu:FT):FT:=λδ=>(ft δ).bind λb=>if b=true then aa true else fu δ
def fNot(ft:FT):FT:=λδ=>(ft δ).map λb=>!b
def zcT:FT:=λ_=>aa true
def eIf(ft:FT)(fa fb:FE):FE:=λδ=>(ft δ).bind λb=>if b=true then fa δ else fb δ
def zad:FA:=λ_=>aa []
def zaa(fe:FE)(fa:FA):FA:=λδ=>(fe δ).bind λx=>(fa δ).map λxs=>x::xs
def zd8(fa:FA):FE:=λδ=>(fa δ).bind λrs=>if rs.length<=1000 then (zdF rs).map λds=>.val (.tup ds)else ab
def zcW(fa:FA):FE:=λδ=>(fa δ).bind λrs=>if rs.length<=1000 then (zdF rs).map λds=>.own ds else ab
def eChain(g g':Ent->Ent->Option Ent)(fa fb fc:FE):FE:=λδ=>(fa δ).bind λx=>(fb δ).bind λy=>((g x y).bind bOf).bind λk=>if k=true then (fc δ).bind λz=>g' y z else aa (.val (.bl false))
def SemR1(K:af)(r:V->Hp->VK->Prop)(g:Ent->Option Ent):Prop:=∀(H0 F H:Hp) (x:V) (e res:Ent) (Q:VK),Same F H->Same H0 H->RepR K H0 F H x e->g e=aa res ->
 (∀v F' H',Ex F H F' H'->RepR K H0 F' H' v res->Q v H')->r x H Q
def zkk(K:af)(r:R2)(g:Ent->Ent->Option Ent):Prop:=∀(H0 F H:Hp) (x y:V) (e e' res:Ent) (Q:VK),Same F H->Same H0 H->RepR K H0 F H x e->RepR K H0 F H y e'->g e e'=aa res ->
 (∀v F' H',Ex F H F' H'->RepR K H0 F' H' v res->Q v H')->r x y H Q
def SemC(K:af)(r:List V->Hp->VK->Prop)(g:List Ent->Option Ent):Prop:=∀(H0 F H:Hp) (vs:List V) (es:List Ent) (res:Ent) (Q:VK),Same F H->Same H0 H->RepRs K H0 F H vs es->g es=aa res ->
 (∀v F' H',Ex F H F' H'->RepR K H0 F' H' v res->Q v H')->r vs H Q
def bind_some{α β:Type}{o:Option α}{f:α->Option β}{b:β}(h:o.bind f=aa b):∃a,o=aa a/\f a=aa b:=by
 cases o with
 |none=>cases h
 |some a=>exact⟨a,rfl,h⟩
def map_some{α β:Type}{o:Option α}{f:α->β}{b:β}(h:o.map f=aa b):∃a,o=aa a/\f a=b:=by
 cases o with
 |none=>cases h
 |some a=>exact⟨a,rfl,aJ h⟩
def zjr{α:Type}{c:Prop}[Decidable c]{o:Option α}{b:α}(h:(if c then o else ab)=aa b):c/\o=aa b:=by
 by_cases hc:c
 ·rw[if_pos hc]at h;exact⟨hc,h⟩
 ·rw[if_neg hc]at h;cases h
noncomputable def gif{α:Type}(c:Prop)(a:Option α):Option α:=@ite _ c (kB c) a ab
def zaf{α:Type}(a:Option α):gif True a=a:=by unfold gif;exact if_pos trivial
def gif_pos{α:Type}{c:Prop}{a:Option α}(h:c):gif c a=a:=by unfold gif;exact if_pos h
def za7{α:Type}{c:Prop}{o:Option α}{b:α}(h:gif c o=aa b):c/\o=aa b:=by
 unfold gif at h;by_cases hc:c
 ·rw[if_pos hc]at h;exact⟨hc,h⟩
 ·rw[if_neg hc]at h;cases h
def sz(n:Nat):Prop:=n<=1000000
def zap{n:Nat}(h:n<=1000000):sz n=True:=eq_true h
def OpD(X:Cx)(f:ag->ag->Sem ag)(g:Ent->Ent->Option Ent):Prop:=∃r,OpR X f r/\zkk X.K r g
def UnD(X:Cx)(f:ag->Sem ag)(g:Ent->Option Ent):Prop:=∃r,UnR X f r/\SemR1 X.K r g
def zeQ(X:Cx)(f:ag)(g:List Ent->Option Ent):Prop:=∃r,zd7 X f r/\SemC X.K r g
def IxD(X:Cx)(g:Ent->Ent->Option Ent):Prop:=∃r,IxR X r/\zkk X.K r g
def zjt{e:Ent}{b:Bool}(h:bOf e=aa b):e=.val (.bl b):=by
 cases e with
 |val d=>cases d <;> first|(cases h;rfl)|(cases h)
 | _=>cases h
def zhM{F:Hp}{v:V}{b:Bool}(h:Rep F v (.bl b)):v=.bl b:=by cases h;rfl
def zaY{F:Hp}{v:V}{i:Int}(h:Rep F v (.int i)):v=.int i:=by cases h;rfl
def zbQ{F:Hp}{v:V}{i:Str}(h:Rep F v (.str i)):v=.str i:=by cases h;rfl
def zit{F:Hp}{v:V}(h:Rep F v .non):v=.non:=by cases h;rfl
section
variable {X:Cx}{a b c e:Expr}{es rest:List Expr}{pos p:Pos}{fa fb fc:FE}{ft fu:FT}{fs:FA}{x:Str}
def vv(i:Nat)(hN:X.N[i]? =aa x:=by rfl)(hv:Vis X.env.scope x:=by first|exact az rfl|exact ba (az rfl)|exact ba (ba rfl))(hd:(x==("__debug__" : Str))=false:=by decide)
  (hcd:(x==("__classdict__" : Str))=false:=by decide):VE X (.Name x pos) (zab i):=by
 refine⟨_,wv i hN hv hd hcd,λB F H σ δ r Q s q k=>?_⟩;unfold zab at q;split at q
 ·rename_i ds e;cases q;obtain⟨v,h1,l,vs,e,h2,h3,_⟩:=s.ent i _ e;exact⟨v,h1,k v F H (Ex.refl s.fh) ⟨l,vs,e,h2,h3⟩⟩
 ·cases q
 ·rename_i ee hne hno e;cases q;obtain⟨v,h1,h2⟩:=s.ent i _ e;refine⟨v,h1,k v F H (Ex.refl s.fh) ?_⟩;cases r with
  |val d=>exact h2
  |own ds=>exact(hne ds rfl).elim
  |bor ds=>obtain⟨l,vs,e,h,rs⟩:=h2;exact⟨l,vs,e,s.bh.seq h,rs⟩
  |vw ds=>exact h2
  |obj o=>exact(hno o rfl).elim
  |vwt ks ds=>exact h2
  |bt ds=>obtain⟨l,vs,e,h,rs⟩:=h2;exact⟨l,vs,e,s.bh.seqT h,rs⟩
 ·cases q
def SemE.cst{K:af}{v:V}{d:D}(h:∀F,Rep F v d):SemE K (tC v) (eC d):=λB F H σ δ r Q s q k=>by
 cases q;exact k v F H (Ex.refl s.fh) (h F)
def zao{i:Int}{j:Nat}:VE X (.Constant (.int i) j pos) (eC (.int i)):=⟨_,wint,.cst λ_=>.int i⟩
def vbl{i:Bool}{j:Nat}:VE X (.Constant (.bool i) j pos) (eC (.bl i)):=⟨_,wbl,.cst λ_=>.bl i⟩
def vnon{j:Nat}:VE X (.Constant .none j pos) (eC .non):=⟨_,wnon,.cst λ_=>.non⟩
def vstr{i:Str}{j:Nat}:VE X (.Constant (.str i) j pos) (eC (.str i)):=⟨_,wstr,.cst λ_=>.str i⟩
def vglI{i:Int}(hg:Gl X x)(h:∃u,X.mg x=aa u/\RelV (.int i) u)(hd:(x==("__debug__" : Str))=false:=by decide):VE X (.Name x pos) (eC (.int i)):=⟨_,wgl hg h hd,.cst λ_=>.int i⟩
def SemE.op{K:af}{r:R2}{ta tb:TE}{g:Ent->Ent->Option Ent}(hr:zkk K r g)(ha:SemE K ta fa)(hb:SemE K tb fb):SemE K (tOp r ta tb) (ex2 g fa fb):=λB F H σ δ res Q s q k=>by
 obtain⟨ex1,q1,q⟩:=bind_some q;obtain⟨ex2,q2,q⟩:=bind_some q;refine ha B F H σ δ ex1 _ s q1 λv F1 H1 x1 r1=>?_;refine hb B F1 H1 σ δ ex2 _ (s.ext x1) q2 λw F2 H2 x2 r2=>?_;exact hr H F2 H2 v w ex1 ex2 res Q x2.fh (x1.trans x2).hh (r1.ext x2) (r2.earlier x1.hh) q λv' F' H' x3 r3=>k v' F' H' ((x1.trans x2).trans x3) r3
def vop{op:Operator}{g:Ent->Ent->Option Ent}(ho:OpD X (binaryOp op) g)(ha:VE X a fa)(hb:VE X b fb):VE X (.BinOp a op b pos) (ex2 g fa fb):=
 let⟨_,wa,sa⟩:=ha.h;let⟨_,wb,sb⟩:=hb.h;let⟨_,h1,h2⟩:=ho;⟨_,wop h1 wa wb,.op h2 sa sb⟩
def vcmp{op:CmpOp}{g:Ent->Ent->Option Ent}(ho:OpD X (bC op) g)(ha:VE X a fa)(hb:VE X b fb)(hm:behindInMarks op b=false):VE X (.Compare a [op] [b] pos) (ex2 g fa fb):=
 let⟨_,wa,sa⟩:=ha.h;let⟨_,wb,sb⟩:=hb.h;let⟨_,h1,h2⟩:=ho;⟨_,wcmp h1 wa wb hm,.op h2 sa sb⟩
def SemE.test{K:af}{ta:TE}(ha:SemE K ta fa):SemT K (tB ta) (tOf fa):=λB F H σ δ b Q s q k=>by
 obtain⟨e,q1,q⟩:=bind_some q;cases zjt q;refine ha B F H σ δ _ _ s q1 λv F1 H1 x1 r1=>?_;exact⟨b,zhM r1,k F1 H1 x1⟩
def tcm{op:CmpOp}{g:Ent->Ent->Option Ent}(ho:OpD X (bC op) g)(ha:VE X a fa)(hb:VE X b fb)(hm:behindInMarks op b=false):VT X (.Compare a [op] [b] pos) (tOf (ex2 g fa fb)):=
 let⟨_,wa,sa⟩:=ha.h;let⟨_,wb,sb⟩:=hb.h;let⟨_,h1,h2⟩:=ho;⟨_,tcmp h1 wa wb hm,SemE.test (.op h2 sa sb)⟩
def tva(h:VE X e fa)(he:∀whole,isTrue e X.env whole=(do let v <- whole;standAt e.pos;holding [v] (truthy v)):=by intro _;rfl):VT X e (tOf fa):=
 let⟨_,wa,sa⟩:=h.h;⟨_,tval wa he,SemE.test sa⟩
def vun{op:UnaryOp}{g:Ent->Option Ent}(ho:UnD X (unaryOp op) g)(ha:VE X a fa):VE X (.UnaryOp op a pos) (ex1 g fa):=by
 obtain⟨ta,wa,sa⟩:=ha.h;obtain⟨rr,ho1,ho2⟩:=ho;refine⟨_,wun ho1 wa,λB F H σ δ res Q s q k=>?_⟩;obtain⟨ex1,q1,q⟩:=bind_some q;exact sa B F H σ δ ex1 _ s q1 λv F1 H1 x1 r1=>ho2 H F1 H1 v ex1 res Q x1.fh x1.hh r1 q λv' F' H' x2 r2=>k v' F' H' (x1.trans x2) r2
def vone{op:BoolOp}(h:VE X a fa):VE X (.BoolOp op [a] pos) fa:=let⟨_,wa,sa⟩:=h.h;⟨_,wone wa,sa⟩
def vand(ha:VE X a fa)(hb:VE X (.BoolOp .And (b::rest) pos) fb):VE X (.BoolOp .And (a::b::rest) pos) (eAnd fa fb):=by
 obtain⟨ta,wa,sa⟩:=ha.h;obtain⟨tb,wb,sb⟩:=hb.h;refine⟨_,wand wa wb,λB F H σ δ res Q s q k=>?_⟩;obtain⟨bb,q1,q⟩:=bind_some q;obtain⟨eb,q1,q2⟩:=bind_some q1;cases zjt q2;refine sa B F H σ δ _ _ s q1 λv F1 H1 x1 r1=>⟨bb,zhM r1,?_⟩
 cases bb with
 |true=>exact zj0 (sb B F1 H1 σ δ res Q (s.ext x1) q λv' F' H' x2 r2=>k v' F' H' (x1.trans x2) (r2.earlier x1.hh))
 |false=>cases q;exact zjx (k _ F1 H1 x1 (.bl false))
def tan1(ha:VT X a ft):VW X (.BoolOp .And [a] pos) ft:=let⟨_,wa,sa⟩:=ha.h;⟨_,tand1 wa,sa⟩
def tor1'(ha:VT X a ft):VW X (.BoolOp .Or [a] pos) ft:=let⟨_,wa,sa⟩:=ha.h;⟨_,tor1 wa,sa⟩
def tan(ha:VT X a ft)(hb:VW X (.BoolOp .And (b::rest) pos) fu):VW X (.BoolOp .And (a::b::rest) pos) (zhg ft fu):=by
 obtain⟨ta,wa,sa⟩:=ha.h;obtain⟨tb,wb,sb⟩:=hb.h;refine⟨_,tand wa wb,λB F H σ δ res Q s q k=>?_⟩;obtain⟨bb,q1,q⟩:=bind_some q;refine sa B F H σ δ bb _ s q1 λF1 H1 x1=>?_;cases bb with
 |true=>exact zj0 (sb B F1 H1 σ δ res Q (s.ext x1) q λF' H' x2=>k F' H' (x1.trans x2))
 |false=>cases q;exact zjx (k F1 H1 x1)
def tor'(ha:VT X a ft)(hb:VW X (.BoolOp .Or (b::rest) pos) fu):VW X (.BoolOp .Or (a::b::rest) pos) (fOr ft fu):=by
 obtain⟨ta,wa,sa⟩:=ha.h;obtain⟨tb,wb,sb⟩:=hb.h;refine⟨_,tor wa wb,λB F H σ δ res Q s q k=>?_⟩;obtain⟨bb,q1,q⟩:=bind_some q;refine sa B F H σ δ bb _ s q1 λF1 H1 x1=>?_;cases bb with
 |false=>exact zjx (sb B F1 H1 σ δ res Q (s.ext x1) q λF' H' x2=>k F' H' (x1.trans x2))
 |true=>cases q;exact zj0 (k F1 H1 x1)
def tww(h:VW X a ft):VT X a ft:=let⟨_,wa,sa⟩:=h.h;⟨_,tw wa,sa⟩
def tnt(ha:VT X a ft):VT X (.UnaryOp .Not a pos) (fNot ft):=by
 obtain⟨ta,wa,sa⟩:=ha.h;refine⟨_,tnot wa,λB F H σ δ res Q s q k=>?_⟩;obtain⟨bb,q1,q⟩:=map_some q;cases q;exact sa B F H σ δ bb _ s q1 λF1 H1 x1=>k F1 H1 x1
def vif(hc:VT X c ft)(ha:VE X a fa)(hb:VE X b fb):VE X (.IfExp c a b pos) (eIf ft fa fb):=by
 obtain⟨tc,wc,sc⟩:=hc.h;obtain⟨ta,wa,sa⟩:=ha.h;obtain⟨tb,wb,sb⟩:=hb.h;refine⟨_,wif wc wa wb,λB F H σ δ res Q s q k=>?_⟩;obtain⟨bb,q1,q⟩:=bind_some q;refine sc B F H σ δ bb _ s q1 λF1 H1 x1=>?_;cases bb with
 |true=>exact zj0 (sa B F1 H1 σ δ res Q (s.ext x1) q λv' F' H' x2 r2=>k v' F' H' (x1.trans x2) (r2.earlier x1.hh))
 |false=>exact zjx (sb B F1 H1 σ δ res Q (s.ext x1) q λv' F' H' x2 r2=>k v' F' H' (x1.trans x2) (r2.earlier x1.hh))
def if0:VTs X [] zcT:=⟨_,ifs0,λB F H σ δ b Q s q k=>by cases q;exact k F H (Ex.refl s.fh)⟩
def if1(h:VT X c ft):VTs X [c] ft:=let⟨_,wc,sc⟩:=h.h;⟨_,ifs1 wc,sc⟩
def zak:VA X [] zad:=⟨_,wnil,λB F H σ δ rs Q s q k=>by cases q;exact k [] F H (Ex.refl s.fh) .nil⟩
def zac(ha:VE X e fa)(hr:VA X es fs)(h:zan e=true:=by rfl):VA X (e::es) (zaa fa fs):=by
 obtain⟨ta,wa,sa⟩:=ha.h;obtain⟨tb,wb,sb⟩:=hr.h;refine⟨_,wac wa wb h,λB F H σ δ rs Q s q k=>?_⟩;obtain⟨ex1,q1,q⟩:=bind_some q;obtain⟨es',q2,q⟩:=map_some q;cases q;refine sa B F H σ δ ex1 _ s q1 λv F1 H1 x1 r1=>?_;exact sb B F1 H1 σ δ es' _ (s.ext x1) q2 λvs F2 H2 x2 r2=>k _ F2 H2 (x1.trans x2) (.cons (r1.ext x2) (r2.earlier x1.hh))
def zi6{n:Nat}(h:n<=1000):n<=bj:=bB (small1000 h)
def zkg{x1:Nat}(h:VA X es fs):VE X (.Tuple es x1 pos) (zd8 fs):=by
 obtain⟨t,w,sm⟩:=h.h;refine⟨_,wtup w,λB F H σ δ res Q s q k=>?_⟩;obtain⟨rs,q1,q⟩:=bind_some q;split at q
 ·rename_i hl;obtain⟨ds,q2,q⟩:=map_some q;cases q;refine sm B F H σ δ rs _ s q1 λvs F1 H1 x1 r1=>⟨by rw[r1.length];exact zi6 hl,λp hp=>?_⟩
  obtain⟨F2,x2,_,r2⟩:=RepRs.frz x1 (Same.refl _) r1 q2;exact k _ _ _ (x2.trans (Ex.alloc x2.fh hp)) (.tup zaj (r2.mono (Same.alloc (x2.fh.free hp))))
 ·cases q
def zgP(h:VA X es fs):VE X (.List es pos) (zcW fs):=by
 obtain⟨t,w,sm⟩:=h.h;refine⟨_,wlst w,λB F H σ δ res Q s q k=>?_⟩;obtain⟨rs,q1,q⟩:=bind_some q;split at q
 ·rename_i hl;obtain⟨ds,q2,q⟩:=map_some q;cases q;refine sm B F H σ δ rs _ s q1 λvs F1 H1 x1 r1=>⟨by rw[r1.length];exact zi6 hl,λp hp=>?_⟩
  obtain⟨F2,x2,_,r2⟩:=RepRs.frz x1 (Same.refl _) r1 q2;exact k _ _ _ (x2.trans (Ex.lay x2.fh hp)) ⟨p,vs,rfl,x2.hh.free hp,zaj,r2,x2.fh.free hp⟩
 ·cases q
def vix{g:Ent->Ent->Option Ent}(hr:IxD X g)(ha:VE X a fa)(hb:VE X b fb)(hs:ziG b):VE X (.Subscript a b pos) (ex2 g fa fb):=
 let⟨_,wa,sa⟩:=ha.h;let⟨_,wb,sb⟩:=hb.h;let⟨_,h1,h2⟩:=hr;⟨_,wix h1 wa wb hs,.op h2 sa sb⟩
def eCB(g:List Ent->Option Ent)(fs:FA):FE:=λδ=>(fs δ).bind g
def SemE.cb{K:af}{t:TA}{q:List V->Hp->VK->Prop}{g:List Ent->Option Ent}(hc:SemC K q g)(ha:SemA K t fs):SemE K (tCB q t) (eCB g fs):=λB F H σ δ res Q s q k=>by
 obtain⟨rs,q1,q⟩:=bind_some q;exact ha B F H σ δ rs _ s q1 λvs F1 H1 x1 r1=>hc H F1 H1 vs rs res Q x1.fh x1.hh r1 q λv' F' H' x2 r2=>k v' F' H' (x1.trans x2) r2
def vcb{id:String}{g:List Ent->Option Ent}(hc:zeQ X (.builtin id) g)(hg:Gl X x)(hm:X.mg x=ab)(hv:bO x=aa (.builtin id))(ha:VA X (e::es) fs)(hn:x≠ "__name__" :=by decide)(hdb:(x==("__debug__" : Str))=false:=by decide)
  (h1:zan e=true:=by rfl) (h2:es.all zan=true:=by rfl):VE X (.Call (.Name x p) (e::es) [] pos) (eCB g fs):=
 let⟨_,wa,sa⟩:=ha.h;let⟨_,h3,h4⟩:=hc;⟨_,wcb h3 hg hm hv wa hn hdb h1 h2,.cb h4 sa⟩
def vct{T:String}{g:List Ent->Option Ent}(hc:zeQ X (.type T) g)(hg:Gl X x)(hm:X.mg x=ab)(hv:bO x=aa (.type T))(ha:VA X (e::es) fs)(hn:x≠ "__name__" :=by decide)(hdb:(x==("__debug__" : Str))=false:=by decide)
  (h1:zan e=true:=by rfl) (h2:es.all zan=true:=by rfl):VE X (.Call (.Name x p) (e::es) [] pos) (eCB g fs):=
 let⟨_,wa,sa⟩:=ha.h;let⟨_,h3,h4⟩:=hc;⟨_,wct h3 hg hm hv wa hn hdb h1 h2,.cb h4 sa⟩
end
end L3

namespace L3
open PySem PySem.Spec PyProof.Rows L2
inductive Out where
 |nx (δ:En)|rt (r:Ent) (δ:En)|bk (δ:En)|ct (δ:En)
abbrev FS:=En->Option Out
structure FX(B F F':Hp):Prop where
 ff:Same F F'
 nw:∀a o,B a=aa o->isT o=false->F' a=F a
section
variable {K:af}{B:Bd}{F H F' H' F2 H2 H0:Hp}{σ:Sg}{δ:En}{v:V}{d:D}{e:Ent}{l:ae}{vs:List V}{ds:List D}{DD:Ends}{out:Out}
def FX.refl:FX B F F:=⟨Same.refl F,λ_ _ _ _=>rfl⟩
def FX.trans(a:FX B F F')(b:FX B F' F2):FX B F F2:=⟨a.ff.trans b.ff,λx o e t=>(b.nw x o e t).trans (a.nw x o e t)⟩
def FX.of(x:Ex F H F' H')(s:Same B H):FX B F F':=⟨x.ff,λa o e t=>x.nw a o (s _ _ e) t⟩
def EndOk(K:af)(B:Bd)(F:Hp)(DD:Ends):Out->Prop
 |.nx δ'=>∀σ' F' H',RS K B F' H' σ' δ'->FX B F F'->DD.nx σ' H'
 |.rt r δ'=>∀v σ' F' H',RS K B F' H' σ' δ'->FX B F F'->RepR K B F' H' v r->DD.rt v H'
 |.bk δ'=>∀σ' F' H',RS K B F' H' σ' δ'->FX B F F'->DD.bk σ' H'
 |.ct δ'=>∀σ' F' H',RS K B F' H' σ' δ'->FX B F F'->DD.ct σ' H'
def EndOk.mono(h:EndOk K B F DD out)(x:FX B F F'):EndOk K B F' DD out:=by
 cases out with
 |nx δ'=>exact λσ' F2 H2 s y=>h σ' F2 H2 s (x.trans y)
 |rt r δ'=>exact λv σ' F2 H2 s y z=>h v σ' F2 H2 s (x.trans y) z
 |bk δ'=>exact λσ' F2 H2 s y=>h σ' F2 H2 s (x.trans y)
 |ct δ'=>exact λσ' F2 H2 s y=>h σ' F2 H2 s (x.trans y)
def RS.put(s:RS K B F H σ δ)(i:Nat)(r:RepN K B F H v e)(hne:e.lk=true->∀j e',j≠i->δ[j]? =aa (aa e')->e'.lk=true->∀l,v=.ref l->σ[j]?≠aa (aa (.ref l)))
  (hpn:e.isO=true->0<i\/(∀p,B.pin≠aa p)\/B.pin=aa v) (hno:∀j e' w a,j≠i->δ[j]? =aa (aa e')->σ[j]? =aa (aa w)->(e.isO=true\/e'.isO=true)->Occ K F H v e a->Occ K F H w e' a->False) :
  RS K B F H (σ.set i (aa v)) (δ.set i (aa e)):=by
 have hl:=s.len;refine⟨s.fh,s.bh,by simp[hl],λj e' h=>?_,λa b l ds e' hab h1 h2 h3 h4 h5=>?_,λa b e1 e2 v1 v2 ad hab h1 h2 h3 h4 h5 h6 h7=>?_,λw o hw ho=>?_⟩
 ·rw[bf]at h ⊢;by_cases hij:i=j
  ·subst hij;rw[if_pos rfl]at h ⊢;by_cases hi:i<δ.length
   ·rw[if_pos hi]at h;cases h;exact⟨v,by rw[if_pos (by lia)],r⟩
   ·rw[if_neg hi]at h;cases h
  ·rw[if_neg hij]at h ⊢;exact s.ent j e' h
 ·rw[bf]at h1 h2 h3 h5;by_cases hia:i=a
  ·subst hia;rw[if_pos rfl]at h1 h2;rw[if_neg hab]at h3 h5;by_cases hi:i<δ.length
   ·rw[if_pos hi]at h1;rw[if_pos (by lia)]at h2;cases h1;cases h2;exact hne rfl b e' (cP hab) h3 h4 l rfl h5
   ·rw[if_neg hi]at h1;cases h1
  ·rw[if_neg hia]at h1 h2;by_cases hib:i=b
   ·subst hib;rw[if_pos rfl]at h3 h5;by_cases hi:i<δ.length
    ·rw[if_pos hi]at h3;rw[if_pos (by lia)]at h5;cases h3;cases h5;exact hne h4 a _ hab h1 rfl l rfl h2
    ·rw[if_neg hi]at h3;cases h3
   ·rw[if_neg hib]at h3 h5;exact s.ap a b l ds e' hab h1 h2 h3 h4 h5
 ·rw[bf]at h1 h2 h3 h4;by_cases hia:i=a
  ·subst hia;rw[if_pos rfl]at h1 h2;rw[if_neg hab]at h3 h4;by_cases hi:i<δ.length
   ·rw[if_pos hi]at h1;rw[if_pos (by lia)]at h2;cases h1;cases h2;exact hno b _ _ ad (cP hab) h3 h4 (.inl h5) h6 h7
   ·rw[if_neg hi]at h1;cases h1
  ·rw[if_neg hia]at h1 h2;by_cases hib:i=b
   ·subst hib;rw[if_pos rfl]at h3 h4;by_cases hi:i<δ.length
    ·rw[if_pos hi]at h3;rw[if_pos (by lia)]at h4;cases h3;cases h4;exact hno a _ _ ad hab h1 h2 (.inr h5) h7 h6
    ·rw[if_neg hi]at h3;cases h3
   ·rw[if_neg hib]at h3 h4;exact s.ao a b e1 e2 v1 v2 ad hab h1 h2 h3 h4 h5 h6 h7
 ·rw[bf]at ho ⊢;by_cases hi:i=0
  ·subst hi;rw[if_pos rfl]at ho ⊢;split at ho
   ·cases ho;rw[if_pos (by lia)];rcases hpn rfl with z|z|z
    ·lia
    ·exact absurd hw (z w)
    ·rw[hw]at z;exact congrArg (λx=>aa x) z.symm
   ·cases ho
  ·rw[if_neg hi]at ho ⊢;exact s.pn w o hw ho
def RS.putV(s:RS K B F H σ δ)(i:Nat)(r:Rep F v d):RS K B F H (σ.set i (aa v)) (δ.set i (aa (.val d))):=s.put i r (λh=>by cases h) (λh=>by cases h) λ_ _ _ _ _ _ _ _ h _=>h
def RS.drop(s:RS K B F H σ δ)(i:Nat):RS K B F H σ (δ.set i ab):=by
 refine⟨s.fh,s.bh,by simp[s.len],λj e h=>?_,λa b l ds e hab h1 h2 h3 h4=>?_,λa b e1 e2 v1 v2 ad hab h1 h2 h3 h4 h5 h6 h7=>?_,λw o hw ho=>?_⟩
 ·rw[bf]at h;split at h
  ·split at h <;> cases h
  ·exact s.ent j e h
 ·rw[bf]at h1 h3;split at h1
  ·split at h1 <;> cases h1
  ·split at h3
   ·split at h3 <;> cases h3
   ·exact s.ap a b l ds e hab h1 h2 h3 h4
 ·rw[bf]at h1 h3;split at h1
  ·split at h1 <;> cases h1
  ·split at h3
   ·split at h3 <;> cases h3
   ·exact s.ao a b e1 e2 v1 v2 ad hab h1 h2 h3 h4 h5 h6 h7
 ·rw[bf]at ho;split at ho
  ·split at ho <;> cases ho
  ·exact s.pn w o hw ho
def RS.lies{i:Nat}(s:RS K B F H σ δ)(h:δ[i]? =aa (aa e))(k:e.lk=true)(q:σ[i]? =aa (aa (.ref l))):∃o,H l=aa o:=by
 obtain⟨v,h1,h2⟩:=s.ent i e h;rw[q]at h1;cases h1;cases e with
 |own ds=>obtain⟨l',vs,e,h3,_⟩:=h2;cases e;exact⟨_,h3⟩
 |vw ds=>obtain⟨l',vs,e,h3,_⟩:=h2;cases e;exact⟨_,h3⟩
 | _=>cases k
def toN:Ent->Option Ent
 |.val d=>aa (.val d)
 |.own ds=>aa (.own ds)
 | _=>ab
def RS.putR{e':Ent}(s:RS K B F H σ δ)(x:Ex F H F' H')(i:Nat)(r:RepR K H F' H' v e)(q:toN e=aa e'):RS K B F' H' (σ.set i (aa v)) (δ.set i (aa e')):=by
 cases e with
 |val d=>cases q;exact(s.ext x).putV i r
 |own ds=>
  cases q;obtain⟨l,vs,e,h0,h1,rs,h2⟩:=r;refine(s.ext x).put i ⟨l,vs,e,h1,rs,h2,s.bh.free h0⟩ (λ_ j e' _ h3 h4 l' ex2 h5=>?_) (λz=>by cases z) λj e' w a _ h3 h4 _ h5 h6=>?_
  ·rw[e]at ex2;cases ex2;obtain⟨o,h6⟩:=s.lies h3 h4 h5;rw[h0]at h6;cases h6
  ·obtain⟨u,h7⟩:=s.occ h3 h4 (h6.backX (s.at h3 h4) x);rw[e]at h5;cases (show V.ref l=.ref a from h5);rw[h0]at h7;cases h7
 | _=>cases q
def RS.putO{o:OT}(s:RS K B F H σ δ)(x:Ex F H F' H')(i:Nat)(h0:0<i)(r:RepR K H F' H' v (.obj o)):RS K B F' H' (σ.set i (aa v)) (δ.set i (aa (.obj o))):=by
 obtain⟨_,A,t,n,h⟩:=r;refine(s.ext x).put i ⟨A,t,n,λa ha=>⟨(h a ha).1,s.bh.free (h a ha).2⟩⟩ (λz=>by cases z) (λ_=>.inl h0) λj e' w a _ h3 h4 _ h5 h6=>?_;obtain⟨u,h7⟩:=s.occ h3 h4 (h6.backX (s.at h3 h4) x);obtain⟨A',t',h5⟩:=h5;rw[t'.det t]at h5;rw[(h a h5).2]at h7;cases h7
def RS.mut{i:Nat}{ds':List D}{vs':List V}(s:RS K B F H σ δ)(hi:δ[i]? =aa (aa (.own ds)))(hs:σ[i]? =aa (aa (.ref l)))(r:Reps F vs' ds'):RS K B F (upd H l (.lst vs')) σ (δ.set i (aa (.own ds'))):=by
 obtain⟨v,h1,l',vs,e,h2,h3,h4,h5⟩:=s.ent i _ hi;rw[hs]at h1;cases h1;cases e;have mv:∀(j:Nat) (w:V) (o:OT) (A:List ae),i≠j->δ[j]? =aa (aa (.obj o))->σ[j]? =aa (aa w)->TR K F H w o A->TR K F (upd H l (.lst vs')) w o A:=λj w o A hij q q' t=>
  t.move (Same.refl F) λa ha=>zai λz=>by subst z;exact s.ao j i _ _ _ _ a (cP hij) q q' hi hs rfl ⟨A,t,ha⟩ rfl
 have mt:∀(w:V) (ks:List (List KN)) (es:List D) (A:List ae),TR K F H w (.dcT ks es) A->TR K F (upd H l (.lst vs')) w (.dcT ks es) A:=λw ks es A t=>t.move (Same.refl F) λa ha=>zai λz=>by
  subst z;cases t with
  |dcT e _ _ _=>
   cases aK.mp ha;rw[h2]at e;cases e
 refine⟨λb o q=>?_,λb o q=>?_,by simp[s.len],λj e q=>?_,λa b l2 es e' hab q1 q2 q3 q4=>?_,λa b e1 e2 v1 v2 ad hab q1 q2 q3 q4 q5 q6 q7=>?_,λw o hw ho=>?_⟩
 ·rw[zai (zaB q h4)];exact s.fh b o q
 ·rw[zai (zaB q h5)];exact s.bh b o q
 ·rw[bf]at q;by_cases hij:i=j
  ·subst hij;rw[if_pos rfl]at q;split at q
   ·cases q;exact⟨_,hs,l,vs',rfl,zaj,r,h4,h5⟩
   ·cases q
  ·rw[if_neg hij]at q;obtain⟨w,p1,p2⟩:=s.ent j e q;refine⟨w,p1,?_⟩;cases e with
   |val d=>exact p2
   |bor ds=>exact p2
   |own es=>
    obtain⟨l2,ws,ex2,p3,p4,p5,p6⟩:=p2;refine⟨l2,ws,ex2,?_,p4,p5,p6⟩;rw[zai (λz=>s.ap i j l ds _ hij hi hs q rfl (by rw[p1,ex2,z]))];exact p3
   |vw es=>
    obtain⟨l2,ws,ex2,p3,p4⟩:=p2;refine⟨l2,ws,ex2,?_,p4⟩;rw[zai (λz=>s.ap i j l ds _ hij hi hs q rfl (by rw[p1,ex2,z]))];exact p3
   |obj o=>
    obtain⟨A,t,n,h⟩:=p2;exact⟨A,mv j w o A hij q p1 t,n,h⟩
   |vwt ks es=>obtain⟨A,t⟩:=p2;exact⟨A,mt w ks es A t⟩
   |bt ds=>exact p2
 ·rw[bf]at q1 q3;by_cases hia:i=a
  ·subst hia;rw[if_neg hab]at q3;exact s.ap i b l2 ds e' hab hi q2 q3 q4
  ·rw[if_neg hia]at q1;by_cases hib:i=b
   ·subst hib;exact s.ap a i l2 es _ hab q1 q2 hi rfl
   ·rw[if_neg hib]at q3;exact s.ap a b l2 es e' hab q1 q2 q3 q4
 ·rw[bf]at q1 q3;have bk:∀(j:Nat) (e:Ent) (w:V),i≠j->δ[j]? =aa (aa e)->σ[j]? =aa (aa w)->Occ K F (upd H l (.lst vs')) w e ad->Occ K F H w e ad:=λj e w hij z1 z2 z3=>z3.back (s.at z1 z2) λo A he t=>by
   rcases he with he|⟨ks,es,he,ho⟩
   ·subst he;exact mv j w o A hij z1 z2 t
   ·subst ho;exact mt w ks es A t
  by_cases hia:i=a
  ·subst hia;rw[if_pos rfl]at q1;split at q1
   ·cases q1;cases q5
   ·cases q1
  ·rw[if_neg hia]at q1;by_cases hib:i=b
   ·subst hib;rw[if_pos rfl]at q3;split at q3
    ·cases q3;rw[hs]at q4;cases q4;exact s.ao a i e1 _ v1 _ ad hab q1 q2 hi hs q5 (bk a e1 v1 hia q1 q2 q6) q7
    ·cases q3
   ·rw[if_neg hib]at q3;exact s.ao a b e1 e2 v1 v2 ad hab q1 q2 q3 q4 q5 (bk a e1 v1 hia q1 q2 q6) (bk b e2 v2 hib q3 q4 q7)
 ·rw[bf]at ho;split at ho
  ·split at ho <;> cases ho
  ·exact s.pn w o hw ho
def RS.frz{i:Nat}(s:RS K B F H σ δ)(hi:δ[i]? =aa (aa (.own ds))):∃F',FX B F F'/\RS K B F' H σ (δ.set i (aa (.val (.lst ds)))):=by
 obtain⟨v,h1,l,vs,e,h2,h3,h4,h5⟩:=s.ent i _ hi;subst e;refine⟨upd F l (.lst vs),⟨Same.alloc h4,λa o e _=>zai (zaB e h5)⟩,?_⟩;have sm:Same F (upd F l (.lst vs)):=Same.alloc h4;refine⟨λb o q=>?_,s.bh,by simp[s.len],λj e q=>?_,λa b l2 es e' hab q1 q2 q3 q4=>?_,λa b e1 e2 v1 v2 ad hab q1 q2 q3 q4 q5 q6 q7=>?_,λw o hw ho=>?_⟩
 ·by_cases hb:b=l
  ·subst hb;rw[zaj]at q;cases q;exact h2
  ·rw[zai hb]at q;exact s.fh b o q
 ·rw[bf]at q;by_cases hij:i=j
  ·subst hij;rw[if_pos rfl]at q;split at q
   ·cases q;exact⟨_,h1,.lst zaj (h3.mono sm)⟩
   ·cases q
  ·rw[if_neg hij]at q;obtain⟨w,p1,p2⟩:=s.ent j e q;refine⟨w,p1,?_⟩;cases e with
   |val d=>exact Rep.mono sm p2
   |bor es=>obtain⟨l2,ws,ex2,p3,p4⟩:=p2;exact⟨l2,ws,ex2,p3,p4.mono sm⟩
   |own es=>
    obtain⟨l2,ws,ex2,p3,p4,p5,p6⟩:=p2;refine⟨l2,ws,ex2,p3,p4.mono sm,?_,p6⟩;rw[zai (λz=>s.ap i j l ds _ hij hi h1 q rfl (by rw[p1,ex2,z]))];exact p5
   |vw es=>obtain⟨l2,ws,ex2,p3,p4⟩:=p2;exact⟨l2,ws,ex2,p3,p4.mono sm⟩
   |obj o=>
    obtain⟨A,t,n,h⟩:=p2;refine⟨A,t.move sm λ_ _=>rfl,n,λa ha=>⟨?_,(h a ha).2⟩⟩;rw[zai (λz=>by subst z;exact s.ao j i _ _ _ _ a (cP hij) q p1 hi h1 rfl ⟨A,t,ha⟩ rfl)];exact(h a ha).1
   |vwt ks es=>obtain⟨A,t⟩:=p2;exact⟨A,t.move sm λ_ _=>rfl⟩
   |bt es=>obtain⟨l2,ws,ex2,p3,p4⟩:=p2;exact⟨l2,ws,ex2,p3,p4.mono sm⟩
 ·rw[bf]at q1 q3;by_cases hia:i=a
  ·subst hia;rw[if_pos rfl]at q1;split at q1 <;> cases q1
  ·rw[if_neg hia]at q1;by_cases hib:i=b
   ·subst hib;rw[if_pos rfl]at q3;split at q3
    ·cases q3;cases q4
    ·cases q3
   ·rw[if_neg hib]at q3;exact s.ap a b l2 es e' hab q1 q2 q3 q4
 ·rw[bf]at q1 q3;by_cases hia:i=a
  ·subst hia;rw[if_pos rfl]at q1;split at q1
   ·cases q1;cases q5
   ·cases q1
  ·rw[if_neg hia]at q1;have b1:=q6.back (s.at q1 q2) λo A _ t=>t.move sm λ_ _=>rfl;by_cases hib:i=b
   ·subst hib;rw[if_pos rfl]at q3;split at q3
    ·cases q3;exact q7
    ·cases q3
   ·rw[if_neg hib]at q3;exact s.ao a b e1 e2 v1 v2 ad hab q1 q2 q3 q4 q5 b1 (q7.back (s.at q3 q4) λo A _ t=>t.move sm λ_ _=>rfl)
 ·rw[bf]at ho;split at ho
  ·split at ho <;> cases ho
  ·exact s.pn w o hw ho
end
def SemS(K:af)(t:TS)(f:FS):Prop:=∀(B:Bd) (F H:Hp) (σ:Sg) (δ:En) (out:Out) (DD:Ends),RS K B F H σ δ->f δ=aa out->EndOk K B F DD out->t DD σ H
structure VS(X:Cx)(s:Stmt)(f:FS):Prop where
 h:∃t,WS X s t/\SemS X.K t f
structure VSs(X:Cx)(s:List Stmt)(f:FS):Prop where
 h:∃t,WSs X s t/\SemS X.K t f
def fNx:FS:=λδ=>aa (.nx δ)
def sqO(g:FS):Out->Option Out
 |.nx δ=>g δ
 |o=>aa o
def zar(f g:FS):FS:=λδ=>(f δ).bind (sqO g)
def za0(i:Nat)(fe:FE):FS:=λδ=>(fe δ).bind λr=>(toN r).map λe=>.nx (δ.set i (aa e))
def fIf(ft:FT)(f g:FS):FS:=λδ=>(ft δ).bind λb=>if b=true then f δ else g δ
def zbt(fe:FE):FS:=λδ=>(fe δ).bind λr=>(toN r).map λe=>.rt e δ
def zet(i:Nat):FS:=λδ=>match δ[i]? with
 |some (aa (.own ds))=>aa (.rt (.own ds) (δ.set i ab))
 |some (aa (.val d))=>aa (.rt (.val d) δ)
 | _=>ab
def fRetN:FS:=λδ=>aa (.rt (.val .non) δ)
def fDrop(fe:FE):FS:=λδ=>(fe δ).map λ_=>.nx δ
def fFrz(i:Nat)(g:FS):FS:=λδ=>match δ[i]? with
 |some (aa (.own ds))=>g (δ.set i (aa (.val (.lst ds))))
 | _=>ab
noncomputable def zf6(i:Nat)(fe:FE):FS:=λδ=>match δ[i]? with
 |some (aa (.own ds))=>((fe δ).bind asV).bind λd=>gif (sz (ds.length+1)) (aa (.nx (δ.set i (aa (.own (ds++[d]))))))
 | _=>ab
def iOf:Ent->Option Int
 |.val (.int i)=>aa i
 | _=>ab
def zaE{e:Ent}{i:Int}(h:iOf e=aa i):e=.val (.int i):=by
 cases e with
 |val d=>cases d <;> first|(cases h;rfl)|(cases h)
 | _=>cases h
def fSIx(i:Nat)(fi fe:FE):FS:=λδ=>match δ[i]? with
 |some (aa (.own ds))=>((fe δ).bind asV).bind λd=>((fi δ).bind iOf).bind λk=>(ixN ds.length k).map λj=>.nx (δ.set i (aa (.own (ds.set j d))))
 | _=>ab
abbrev FG:=D->En->Option En
def lpO(lp:En->Option Out):Out->Option Out
 |.nx δ=>lp δ
 |.ct δ=>lp δ
 |.bk δ=>aa (.nx δ)
 |o=>aa o
def loop(tg:FG)(f:FS):List D->En->Option Out
 |[],δ=>aa (.nx δ)
 |d::ds,δ=>(tg d δ).bind λδ1=>(f δ1).bind (lpO (loop tg f ds))
abbrev FI:=En->Option (List D)
def zdK(fi:FI)(tg:FG)(f:FS):FS:=λδ=>(fi δ).bind λds=>loop tg f ds δ
def whl(c:FT)(f:FS):Nat->En->Option Out
 |0,_=>ab
 |n+1,δ=>(c δ).bind λb=>if b=true then (f δ).bind (lpO (whl c f n))else aa (.nx δ)
def gNm(i:Nat):FG:=λd δ=>aa (δ.set i (aa (.val d)))
abbrev FGs:=List D->En->Option En
def zgb:FGs:=λds δ=>match ds with
 |[]=>aa δ
 | _=>ab
def zcO(g:FG)(gs:FGs):FGs:=λds δ=>match ds with
 |d::r=>(g d δ).bind (gs r)
 |[]=>ab
def gTp(gs:FGs):FG:=λd δ=>match d with
 |.tup ds=>gs ds δ
 | _=>ab
def SemG(K:af)(g:TG)(tg:FG):Prop:=∀(B:Bd) (F H:Hp) (σ:Sg) (δ δ':En) (v:V) (d:D) (Q:L2.St->Hp->Prop),RS K B F H σ δ->Rep F v d->tg d δ=aa δ'->(∀σ',RS K B F H σ' δ'->Q σ' H)->g v σ H Q
def SemGs(K:af)(g:TGs)(tg:FGs):Prop:=∀(B:Bd) (F H:Hp) (σ:Sg) (δ δ':En) (vs:List V) (ds:List D) (Q:L2.St->Hp->Prop),RS K B F H σ δ->Reps F vs ds->tg ds δ=aa δ'->(∀σ',RS K B F H σ' δ'->Q σ' H)->g vs σ H Q
structure VG(X:Cx)(e:Expr)(f:FG):Prop where
 h:∃t,WG X e t/\SemG X.K t f
structure VGs(X:Cx)(es:List Expr)(f:FGs):Prop where
 h:∃t,WGs X es t/\SemGs X.K t f
def ItOk(B F0:Hp)(J:It)(ds:List D):Prop:=∀F H,Same F0 F->Same F H->Same B H->J.stop ds.length H/\∀(i:Nat) (d:D),ds[i]? =aa d->J.go i H/\∀x H',J.yld i H x H'->∃F',Ex F H F' H'/\Rep F' x d
def SemI(K:af)(t:TI)(fi:FI):Prop:=∀(B:Bd) (F H:Hp) (σ:Sg) (δ:En) (ds:List D) (R:It->Hp->Prop),RS K B F H σ δ->fi δ=aa ds->(∀J F' H',Ex F H F' H'->ItOk B F' J ds->R J H')->t σ H R
structure VI(X:Cx)(tg e:Expr)(f:FI):Prop where
 h:∃t,WI X tg e t/\SemI X.K t f
section
variable {X:Cx}{e c tg iter:Expr}{es:List Expr}{pos pos' p:Pos}{fe fa:FE}{ft:FT}{x:Str}{st:Stmt}{sr body els:List Stmt}{f g:FS}{fi:FI}{tgf:FG}{tgs:FGs}
def ss0:VSs X [] fNx:=⟨_,s0,λB F H σ δ out DD s q k=>by cases q;exact k σ F H s FX.refl⟩
def ss1(h:VS X st f):VSs X [st] f:=let⟨_,w,s⟩:=h.h;⟨_,s1 w,s⟩
def ssc(h1:VS X st f)(h2:VSs X sr g):VSs X (st::sr) (zar f g):=by
 obtain⟨t,w1,m1⟩:=h1.h;obtain⟨u,w2,m2⟩:=h2.h;refine⟨_,sc w1 w2,λB F H σ δ out DD s q k=>?_⟩;obtain⟨o,q1,q⟩:=bind_some q;refine m1 B F H σ δ o _ s q1 ?_;cases o with
 |nx δ'=>exact λσ' F' H' s' y=>m2 B F' H' σ' δ' out DD s' q (k.mono y)
 |rt r δ'=>cases q;exact k
 |bk δ'=>cases q;exact k
 |ct δ'=>cases q;exact k
def SemE.ret{K:af}{t:TE}(m:SemE K t fe):SemS K (tRet t) (zbt fe):=λB F H σ δ out DD s q k=>by
 obtain⟨r,q1,q⟩:=bind_some q;obtain⟨e,q2,q⟩:=map_some q;cases q;refine m B F H σ δ r _ s q1 λv F' H' x z=>k v σ F' H' (s.ext x) (.of x s.bh) ?_;cases r with
 |val d=>cases q2;exact z
 |own ds=>cases q2;exact RepR.earlier z s.bh
 | _=>cases q2
def zdC(he:VE X e fe):VS X (.Return (aa e) pos) (zbt fe):=let⟨_,w,m⟩:=he.h;⟨_,sret w,m.ret⟩
def sRetV(i:Nat)(hN:X.N[i]? =aa x:=by rfl)(hv:Vis X.env.scope x:=by first|exact az rfl|exact ba (az rfl)|exact ba (ba rfl))(hd:(x==("__debug__" : Str))=false:=by decide)
  (hcd:(x==("__classdict__" : Str))=false:=by decide):VS X (.Return (aa (.Name x p)) pos) (zet i):=by
 refine⟨_,sret (wv i hN hv hd hcd),λB F H σ δ out DD s q k=>?_⟩;unfold zet at q;split at q
 ·rename_i ds e;cases q;obtain⟨v,h1,h2⟩:=s.ent i _ e;refine⟨v,h1,k v σ F H (s.drop i) .refl ?_⟩;obtain⟨l,vs,e,h3,h4,h5,h6⟩:=h2;exact⟨l,vs,e,h6,h3,h4,h5⟩
 ·rename_i d e;cases q;obtain⟨v,h1,h2⟩:=s.ent i _ e;exact⟨v,h1,k v σ F H s .refl h2⟩
 ·cases q
def sIf(hc:VT X c ft)(ha:VSs X body f)(hb:VSs X els g):VS X (.If c body els pos) (fIf ft f g):=by
 obtain⟨t,w,m⟩:=hc.h;obtain⟨t1,w1,m1⟩:=ha.h;obtain⟨t2,w2,m2⟩:=hb.h;refine⟨_,sif w w1 w2,λB F H σ δ out DD s q k=>?_⟩;obtain⟨b,q1,q⟩:=bind_some q;refine m B F H σ δ b _ s q1 λF' H' x=>?_;cases b with
 |true=>exact zj0 (m1 B F' H' σ δ out DD (s.ext x) q (k.mono (.of x s.bh)))
 |false=>exact zjx (m2 B F' H' σ δ out DD (s.ext x) q (k.mono (.of x s.bh)))
def SemE.set{K:af}{t:TE}(i:Nat)(m:SemE K t fe):SemS K (zgZ t (zdG i)) (za0 i fe):=λB F H σ δ out DD s q k=>by
 obtain⟨r,q1,q⟩:=bind_some q;obtain⟨e,q2,q⟩:=map_some q;cases q;exact m B F H σ δ r _ s q1 λv F' H' x z=>k _ F' H' (s.putR x i z q2) (.of x s.bh)
def zcp{i:Nat}(hN:X.N.Nodup)(hi:X.N[i]? =aa x)(hx:Loc X.env.scope x)(he:VE X e fe)(hs:swapsWith e (aa (.Name x pos')) pos.line X.env=pure false:=by rfl)(hf:X.fn x=true\/X.env.scope.names.lookup x=aa .local:=by first|exact .inl rfl|exact .inr rfl|assumption) :
  VS X (.Assign [.Name x pos'] e pos) (za0 i fe):=let⟨_,w,m⟩:=he.h;⟨_,sset hN hi hx w hs hf,m.set i⟩
def fAsg(tg:FG)(fe:FE):FS:=λδ=>((fe δ).bind asV).bind λd=>(tg d δ).map .nx
def gnm{i:Nat}(hN:X.N.Nodup)(hi:X.N[i]? =aa x)(hx:Loc X.env.scope x)(hf:X.fn x=true\/X.env.scope.names.lookup x=aa .local:=by first|exact .inl rfl|exact .inr rfl|assumption):VG X (.Name x pos) (gNm i):=
 ⟨_,gn hN hi hx hf,λB F H σ δ δ' v d Q s r q k=>by cases q;exact k _ (s.putV i r)⟩
def gns0:VGs X [] zgb:=⟨_,gs0,λB F H σ δ δ' vs ds Q s r q k=>by
 cases r with
 |nil=>cases q;exact⟨rfl,k σ s⟩
 |cons _ _=>cases q⟩
def gns1(h1:VG X e tgf)(h2:VGs X es tgs)(hs:(cv (e::es) X.env).map (·.2)=assign e X.env::(cv es X.env).map (·.2):=by rfl):VGs X (e::es) (zcO tgf tgs):=by
 obtain⟨t,w,m⟩:=h1.h;obtain⟨t1,w1,m1⟩:=h2.h;refine⟨_,gs1 w w1 hs,λB F H σ δ δ' vs ds Q s r q k=>?_⟩;cases r with
 |nil=>cases q
 |cons r1 r2=>
  obtain⟨δ1,q1,q⟩:=bind_some q;exact⟨_,_,rfl,m B F H σ δ δ1 _ _ _ s r1 q1 λσ' s'=>m1 B F H σ' δ1 δ' _ _ _ s' r2 q k⟩
def gtp{k n:Nat}(hc:X.calm=true)(h:VGs X es tgs)(hn:(cv es X.env).length=n:=by rfl)(hst:(cv es X.env).findIdx? (·.1)=ab:=by rfl)(hl:∀ds δ δ',tgs ds δ=aa δ'->ds.length=n:=by intro ds δ δ' h;match ds,h with|[_],_=>rfl|[_,_],_=>rfl|[_,_,_],_=>rfl|[_,_,_,_],_=>rfl):VG X (.Tuple es k pos) (gTp tgs):=by
 obtain⟨t,w,m⟩:=h.h;refine⟨_,gt hc w hn hst,λB F H σ δ δ' v d Q s r q k=>?_⟩;cases d with
 |tup ds=>
  cases r with
  |tup e rs=>exact⟨_,_,rfl,SqT.of (s.fh _ _ e),by rw[rs.length];exact hl _ _ _ q,m B F H σ δ δ' _ ds _ s rs q k⟩
 | _=>cases q
def SemS.for{K:af}{wi:TI}{g:TG}{tb:TS}(mi:SemI K wi fi)(mg:SemG K g tgf)(mb:SemS K tb f):SemS K (tFor wi g tb) (zdK fi tgf f):=λB F H σ δ out DD s q k=>by
 obtain⟨ds,q1,q⟩:=bind_some q;refine mi B F H σ δ ds _ s q1 λJ F1 H1 x1 io=>?_;have k1:EndOk K B F1 DD out:=k.mono (.of x1 s.bh);refine⟨λi m σ' H'=>m=ds.length-i/\i<=ds.length/\∃F' δ',RS K B F' H' σ' δ'/\FX B F1 F'/\loop tgf f (ds.drop i) δ'=aa out,⟨_,rfl,aL _,F1,δ,s.ext x1,.refl,q⟩,?_⟩;rintro i m σ' H' ⟨rfl,hi,F',δ',s',y',q'⟩;obtain⟨hstop,hgo⟩:=io F' H' y'.ff s'.fh s'.bh;by_cases hlt:i<ds.length
 ·right;have hd:ds[i]? =aa ds[i]:=by simp[hlt]
  obtain⟨g1,g2⟩:=hgo i _ hd;rw[bR hlt]at q';obtain⟨δ1,q2,q'⟩:=bind_some q';obtain⟨o,q3,q'⟩:=bind_some q';refine⟨g1,λσ2 H2=>ds.length-(i+1)=ds.length-(i+1)/\i+1<=ds.length/\∃F' δ',RS K B F' H2 σ2 δ'/\FX B F1 F'/\loop tgf f (ds.drop (i+1)) δ'=aa out,λσ2 H2 hN=>⟨_,by lia,hN⟩,λv H2 yl=>?_⟩;obtain⟨F2,x2,r2⟩:=g2 v H2 yl;refine mg B F2 H2 σ' δ' δ1 v _ _ (s'.ext x2) r2 q2 λσ3 s3=>?_;have y2:FX B F1 F2:=y'.trans (.of x2 s'.bh)
  refine mb B F2 H2 σ3 δ1 o _ s3 q3 ?_;cases o with
  |nx δ2=>exact λσ4 F4 H4 s4 y4=>⟨rfl,hlt,F4,δ2,s4,y2.trans y4,q'⟩
  |ct δ2=>exact λσ4 F4 H4 s4 y4=>⟨rfl,hlt,F4,δ2,s4,y2.trans y4,q'⟩
  |bk δ2=>cases q';exact λσ4 F4 H4 s4 y4=>k1 σ4 F4 H4 s4 (y2.trans y4)
  |rt r δ2=>cases q';exact λv σ4 F4 H4 s4 y4 z=>k1 v σ4 F4 H4 s4 (y2.trans y4) z
 ·left;have e:i=ds.length:=by lia
  subst e;rw[eU]at q';cases q';exact⟨hstop,k1 σ' F' H' s' y'⟩
def ziq(hi:VI X tg iter fi)(hg:VG X tg tgf)(hb:VSs X body f)(hp:PassesOwn (model X.prog X.w) X.A X.env X.xe:=by exact gJ)(hc:X.calm=true:=by rfl)(hs:∀z,ck iter X.env z=pure z:=by intro _;rfl):VS X (.For tg iter body [] pos) (zdK fi tgf f):=
 let⟨_,wi,mi⟩:=hi.h;let⟨_,wg,mg⟩:=hg.h;let⟨_,wb,mb⟩:=hb.h;⟨_,sfor hp hc wi wg wb hs,.for mi mg mb⟩
def sWhl(n:Nat)(hc:VT X c ft)(hb:VSs X body f)(hp:PassesOwn (model X.prog X.w) X.A X.env X.xe:=by exact gJ):VS X (.While c body [] pos) (whl ft f n):=by
 obtain⟨tc,wc,mc⟩:=hc.h;obtain⟨tb,wb,mb⟩:=hb.h;refine⟨_,swhile hp wc wb,λB F H σ δ out DD s q k=>?_⟩;refine⟨λm σ' H'=>∃F' δ',RS X.K B F' H' σ' δ'/\FX B F F'/\whl ft f m δ'=aa out,⟨n,F,δ,s,.refl,q⟩,?_⟩;rintro m σ' H' ⟨F',δ',s',y',q'⟩;cases m with
 |zero=>cases q'
 |succ m=>
  obtain⟨b,q1,q'⟩:=bind_some q';refine mc B F' H' σ' δ' b _ s' q1 λF1 H1 x1=>?_;have y1:FX B F F1:=y'.trans (.of x1 s'.bh)
  cases b with
  |false=>cases q';exact zjx (k σ' F1 H1 (s'.ext x1) y1)
  |true=>
   refine zj0 ?_;obtain⟨o,q3,q'⟩:=bind_some q';refine⟨λσ2 H2=>∃F' δ',RS X.K B F' H2 σ2 δ'/\FX B F F'/\whl ft f m δ'=aa out,λσ2 H2 hN=>⟨m,eT m,hN⟩,?_⟩;refine mb B F1 H1 σ' δ' o _ (s'.ext x1) q3 ?_;cases o with
   |nx δ2=>exact λσ4 F4 H4 s4 y4=>⟨F4,δ2,s4,y1.trans y4,q'⟩
   |ct δ2=>exact λσ4 F4 H4 s4 y4=>⟨F4,δ2,s4,y1.trans y4,q'⟩
   |bk δ2=>cases q';exact λσ4 F4 H4 s4 y4=>k σ4 F4 H4 s4 (y1.trans y4)
   |rt r δ2=>cases q';exact λv σ4 F4 H4 s4 y4 z=>k v σ4 F4 H4 s4 (y1.trans y4) z
def sApp(i:Nat){apos cpos:Pos}(he:VE X e fe)(hN:X.N[i]? =aa x:=by rfl)(hv:Vis X.env.scope x:=by first|exact az rfl|exact ba (az rfl)|exact ba (ba rfl))(hd:(x==("__debug__" : Str))=false:=by decide)(hcd:(x==("__classdict__" : Str))=false:=by decide)
  (hbase:bT (.Name x p) "append" X.env (eval (.Name x p) X.env)=eval (.Name x p) X.env:=by rfl) (hline:(apos.endLine==cpos.line)=true:=by rfl) (h1:zan e=true:=by rfl)
  (hs:swapsWith (.Call (.Attribute (.Name x p) "append" apos) [e] [] cpos) ab pos.line X.env=pure false:=by rfl) :
  VS X (.Expr (.Call (.Attribute (.Name x p) "append" apos) [e] [] cpos) pos) (zf6 i fe):=by
 obtain⟨t,w,m⟩:=he.h;refine⟨_,sex (wbm dG gl gp zeD (wv i hN hv hd hcd) (wac w wnil h1) hbase rfl hline h1 rfl) hs,λB F H σ δ out DD s q k=>?_⟩;unfold zf6 at q;split at q
 ·rename_i ds hi;obtain⟨d,q1,q⟩:=bind_some q;obtain⟨r,q2,q3⟩:=bind_some q1;obtain⟨hl,qz⟩:=za7 q;cases qz;obtain⟨v,h1,l,vs,e,h2,h3,h4,h5⟩:=s.ent i _ hi;subst e;refine⟨_,h1,.inl ⟨rfl,vs,SqL.of h2⟩,?_⟩;refine m B F H σ δ r _ s q2 λy F1 H1 x1 z=>?_;obtain⟨F2,x2,sm,r2⟩:=RepR.frz x1 (Same.refl _) z q3;refine⟨l,vs,y,rfl,rfl,x2.hh _ _ h2,?_,?_⟩
  ·rw[h3.length,cn];unfold sz at hl;lia
  ·exact k σ F2 _ ((s.ext x2).mut hi h1 ((h3.mono x2.ff).append (.one r2))) (.of x2 s.bh)
 ·cases q
def sSIx(i:Nat){ix:Expr}{fx:FE}{tpos:Pos}(he:VE X e fe)(hx:VE X ix fx)(hN:X.N[i]? =aa x:=by rfl)(hv:Vis X.env.scope x:=by first|exact az rfl|exact ba (az rfl)|exact ba (ba rfl))(hd:(x==("__debug__" : Str))=false:=by decide)(hcd:(x==("__classdict__" : Str))=false:=by decide)
  (hg:∀{to ti:TE},WE X (.Name x p) to->WE X ix ti->WG X (.Subscript (.Name x p) ix tpos) (gSub to ti rSetL))
  (hs:swapsWithSole [.Subscript (.Name x p) ix tpos] e pos.line X.env=pure false:=by rfl) (hw:swappedStores [.Subscript (.Name x p) ix tpos] e X.env=pure ab:=by rfl) (h1:(cv [.Subscript (.Name x p) ix tpos] X.env).map (·.2)=[assign (.Subscript (.Name x p) ix tpos) X.env]:=by rfl) :
  VS X (.Assign [.Subscript (.Name x p) ix tpos] e pos) (fSIx i fx fe):=by
 obtain⟨t,w,m⟩:=he.h;obtain⟨t2,w2,m2⟩:=hx.h;refine⟨_,sasg w (hg (wv i hN hv hd hcd) w2) hs hw h1,λB F H σ δ out DD s q k=>?_⟩;unfold fSIx at q;split at q
 ·rename_i ds hi;obtain⟨d,q1,q⟩:=bind_some q;obtain⟨r,q2,q3⟩:=bind_some q1;obtain⟨kk,q4,q⟩:=bind_some q;obtain⟨rk,q5,q6⟩:=bind_some q4;obtain⟨j,q7,q⟩:=map_some q;cases q;cases zaE q6;obtain⟨v,h1,l,vs,e,h2,h3,h4,h5⟩:=s.ent i _ hi;subst e;refine m B F H σ δ r _ s q2 λy F1 H1 x1 z=>?_;obtain⟨F2,x2,sm,r2⟩:=RepR.frz x1 (Same.refl _) z q3;refine⟨_,h1,m2 B F2 H1 σ δ _ _ (s.ext x2) q5 λyk F3 H3 x3 z3=>?_⟩;cases zaY z3;refine⟨l,vs,kk,j,rfl,rfl,x3.hh _ _ (x2.hh _ _ h2),by rw[h3.length];exact q7,?_⟩;exact k σ F3 _ (((s.ext x2).ext x3).mut hi h1 (((h3.mono x2.ff).mono x3.ff).set (Rep.mono x3.ff r2) j)) (.of (x2.trans x3) s.bh)
 ·cases q
end
def ziI:Ent->Option Ent
 |.own ds=>aa (.vw ds)
 |.obj (.dcT ks ds)=>aa (.vwt ks ds)
 |.obj _=>ab
 |e=>aa e
def cEn(fr:List Nat)(δ:En)(d:D):En:=aa (.val d)::fr.map λi=>((δ[i]?).join).bind ziI
def zb1(ft:D->Option Bool)(fe:D->Option Ent):List D->Option (List D)
 |[]=>aa []
 |d::ds=>(ft d).bind λb=>if b=true then ((fe d).bind asV).bind λy=>(zb1 ft fe ds).map λys=>y::ys else zb1 ft fe ds
def eLC(fr:List Nat)(fi:FI)(ft:FT)(fe:FE):FE:=λδ=>(fi δ).bind λds=>(zb1 (λd=>ft (cEn fr δ d)) (λd=>fe (cEn fr δ d)) ds).bind λout=>if out.length<=1000000 then aa (.own out)else ab
def RS.cap{K:af}{B:Bd}{F H:Hp}{σ:Sg}{δ:En}{v:V}{d:D}(s:RS K B F H σ δ)(fr:List Nat)(r:Rep F v d):RS K B F H (aa v::zeZ fr σ) (cEn fr δ d):=by
 have key:∀(j:Nat) (e:Ent),(cEn fr δ d)[j+1]? =aa (aa e)->∃i e',fr[j]? =aa i/\δ[i]? =aa (aa e')/\ziI e'=aa e:=λj e h=>by
  unfold cEn at h;rw[bN,aA]at h;cases q:fr[j]? with
  |none=>rw[q]at h;cases h
  |some i=>
   rw[q]at h;have h':((δ[i]?).join).bind ziI=aa e:=aJ h;obtain⟨e',h1,h2⟩:=bind_some h';refine⟨i,e',rfl,?_,h2⟩;cases z:δ[i]? with
   |none=>rw[z]at h1;cases h1
   |some o=>rw[z]at h1;rw[show o=aa e' from h1]
 refine⟨s.fh,s.bh,by simp[cEn,zeZ],λj e h=>?_,λa b l ds e hab h1=>?_,λa b e1 e2 v1 v2 ad hab q1 _ _ _ q5=>?_,λw o _ ho=>by cases ho⟩
 ·cases j with
  |zero=>cases h;exact⟨v,rfl,r⟩
  |succ j=>
   obtain⟨i,e',h1,h2,h0⟩:=key j e h;obtain⟨w,h3,h4⟩:=s.ent i e' h2;refine⟨w,?_,?_⟩
   ·show(zeZ fr σ)[j]? =aa (aa w);unfold zeZ;rw[aA,h1];show aa ((σ[i]?).join)=_;rw[h3];rfl
   ·cases e' with
    |own ds=>cases h0;obtain⟨l,vs,e,h5,h6,_⟩:=h4;exact⟨l,vs,e,h5,h6⟩
    |obj o=>cases o <;> first|(cases h0;obtain⟨A,t,_⟩:=h4;exact⟨A,t⟩)|cases h0
    | _=>cases h0;exact h4
 ·cases a with
  |zero=>cases h1
  |succ a=>
   obtain⟨i,e',_,_,z⟩:=key a _ h1;cases e' with
   |obj o=>cases o <;> cases z
   | _=>cases z
 ·cases a with
  |zero=>cases q1;cases q5
  |succ a=>
   obtain⟨i,e',_,_,z⟩:=key a _ q1;cases e' with
   |obj o=>cases o <;> first|(cases z;cases q5)|cases z
   | _=>cases z <;> cases q5
def SemE.lc{K:af}{fr:List Nat}{wi:TI}{tt:TT}{te:TE}{fi:FI}{ft:FT}{fe:FE}(mi:SemI K wi fi)(mt:SemT K tt ft)(me:SemE K te fe):SemE K (tLC fr wi tt te) (eLC fr fi ft fe):=λB F H σ δ res Q s q k=>by
 obtain⟨ds,q1,q⟩:=bind_some q;obtain⟨out,q2,q⟩:=bind_some q;split at q
 ·rename_i hlen;cases q;refine mi B F H σ δ ds _ s q1 λJ F1 H1 x1 io=>?_;intro a ha;refine⟨λi m ys H'=>m=ds.length-i/\i<=ds.length/\∃F' done rest,Ex F1 H1 F' H'/\F' a=ab/\H' a=aa (.lst ys)/\Reps F' ys done/\zb1 (λd=>ft (cEn fr δ d)) (λd=>fe (cEn fr δ d)) (ds.drop i)=aa rest/\out=done++rest,
   ⟨_,rfl,aL _,F1,[],out,Ex.lay x1.fh ha,x1.fh.free ha,zaj,.nil,q2,rfl⟩,?_⟩
  rintro i m ys H' ⟨rfl,hi,F',dn,rest,x',fa,hH,rs,q',eo⟩;have s':=(s.ext x1).ext x';obtain⟨hstop,hgo⟩:=io F' H' x'.ff x'.fh s'.bh;by_cases hlt:i<ds.length
  ·right;have hd:ds[i]? =aa ds[i]:=by simp[hlt]
   obtain⟨g1,g2⟩:=hgo i _ hd;rw[bR hlt]at q';obtain⟨b,q3,q'⟩:=bind_some q';refine⟨g1,λv H2 yl=>?_⟩;obtain⟨F2,x2,r2⟩:=g2 v H2 yl;have sc:=(s'.ext x2).cap fr r2;refine mt B F2 H2 _ _ b _ sc q3 λF3 H3 x3=>?_;have nn:∀{Fz Hz:Hp},Ex F' H' Fz Hz->Fz a=ab:=λx=>(x.nw _ _ hH rfl).trans fa;cases b with
   |false=>
    refine zjx ⟨ds.length-(i+1),by lia,rfl,hlt,F3,dn,rest,(x'.trans x2).trans x3,nn (x2.trans x3),(x2.trans x3).hh _ _ hH,rs.mono (x2.trans x3).ff,q',eo⟩
   |true=>
    refine zj0 ?_;obtain⟨y,q4,q'⟩:=bind_some q';obtain⟨r,q5,q6⟩:=bind_some q4;obtain⟨rest',q7,q'⟩:=map_some q';cases q';refine me B F3 H3 _ _ r _ (sc.ext x3) q5 λw F4 H4 x4 z4=>?_;obtain⟨F5,x5,_,r5⟩:=RepR.frz x4 (Same.refl _) z4 q6;have xx:Ex F' H' F5 H4:=(x2.trans x3).trans x5;have hy:ys.length<bj:=by
     rw[rs.length,cn];have:out.length=dn.length+(rest'.length+1):=by rw[eo];simp
     lia
    refine⟨xx.hh _ _ hH,hy,ds.length-(i+1),by lia,rfl,hlt,F5,dn++[y],rest',?_,nn xx,zaj,(rs.mono xx.ff).append (.one r5),q7,by rw[eo];simp⟩;have xo:=x'.trans xx;exact⟨xo.ff,λb o e=>by rw[zai (zaB e (nn xx))];exact xo.fh b o e,λb o e=>by rw[zai (zaB e ha)];exact xo.hh b o e,xo.nw⟩
  ·left;have e:i=ds.length:=by lia
   subst e;rw[eU]at q';cases q';rw[aU]at eo;subst eo;refine⟨hstop,k _ F' H' (x1.trans x') ⟨a,ys,rfl,x1.hh.free ha,hH,rs,fa⟩⟩
 ·cases q
def tD(K:af)(f:FE):TE:=λσ H Q=>∃B F δ r,RS K B F H σ δ/\f δ=aa r/\∀v F' H',Ex F H F' H'->RepR K H F' H' v r->Q v H'
def tDT(K:af)(f:FT):TT:=λσ H Q=>∃B F δ b,RS K B F H σ δ/\f δ=aa b/\∀F' H',Ex F H F' H'->Q b H'
def zix{K:af}{f:FE}:SemE K (tD K f) f:=λB F _ _ δ r _ s q k=>⟨B,F,δ,r,s,q,k⟩
def ziL{K:af}{f:FT}:SemT K (tDT K f) f:=λB F _ _ δ r _ s q k=>⟨B,F,δ,r,s,q,k⟩
def VE.uni{X:Cx}{e:Expr}{f:FE}(h:VE X e f):WE X e (tD X.K f):=
 let⟨_,w,m⟩:=h.h;⟨λpins s σ H Q I z=>let⟨B,F,δ,r,s',q,k⟩:=z;w.h pins s σ H Q I (m B F H σ δ r Q s' q k)⟩
def VTs.uni{X:Cx}{es:List Expr}{f:FT}(h:VTs X es f):WTs X es (tDT X.K f):=
 let⟨_,w,m⟩:=h.h;⟨λpins s σ H Q I z=>let⟨B,F,δ,r,s',q,k⟩:=z;w.h pins s σ H Q I (m B F H σ δ r Q s' q k)⟩
section
variable {X:Cx}{N:List Str}{fr:List Nat}{x:Str}{scope:Scope}{iter elt:Expr}{ifs:List Expr}{px pos:Pos}{fi:FI}{fe:FE}{ft:FT}
def vlc(S:CompSc X N fr x scope)(hi:VI X (.Name x px) iter fi)
  (ht:∀(C:ae) (s₀:ai) (H₀:Hp) (fp:List ae),VTs (cxC X N scope C s₀ H₀ fp) ifs ft) (he:∀(C:ae) (s₀:ai) (H₀:Hp) (fp:List ae),VE (cxC X N scope C s₀ H₀ fp) elt fe)
  (hc:X.calm=true:=by rfl) (hs:∀z,ck iter X.env z=pure z:=by intro _;rfl):VE X (.ListComp elt [⟨.Name x px,iter,ifs,0⟩] scope pos) (eLC fr fi ft fe):=
 let⟨_,w1,m1⟩:=hi.h;⟨_,wlc S hc w1 (λC s₀ H₀ fp=>(ht C s₀ H₀ fp).uni) (λC s₀ H₀ fp=>(he C s₀ H₀ fp).uni) hs,.lc m1 ziL zix⟩
def sSetLC{i:Nat}{y:Str}{py spos:Pos}(hN:X.N.Nodup)(hi':X.N[i]? =aa y)(hy:Loc X.env.scope y)(S:CompSc X N fr x scope)(hi:VI X (.Name x px) iter fi)
  (ht:∀(C:ae) (s₀:ai) (H₀:Hp) (fp:List ae),VTs (cxC X N scope C s₀ H₀ fp) ifs ft) (he:∀(C:ae) (s₀:ai) (H₀:Hp) (fp:List ae),VE (cxC X N scope C s₀ H₀ fp) elt fe)
  (hc:X.calm=true:=by rfl) (hsw:swapsWith (.ListComp elt [⟨.Name x px,iter,ifs,0⟩] scope pos) (aa (.Name y py)) spos.line X.env=pure true:=by rfl)
  (hs:∀z,ck iter X.env z=pure z:=by intro _;rfl)
  (hf:X.fn y=true\/X.env.scope.names.lookup y=aa .local:=by first|exact .inl rfl|exact .inr rfl|assumption) :
  VS X (.Assign [.Name y py] (.ListComp elt [⟨.Name x px,iter,ifs,0⟩] scope pos) spos) (za0 i (eLC fr fi ft fe)):=
 let⟨_,w1,m1⟩:=hi.h;⟨_,ssetlc hN hi' hy S hc w1 (λC s₀ H₀ fp=>(ht C s₀ H₀ fp).uni) (λC s₀ H₀ fp=>(he C s₀ H₀ fp).uni) hsw hs hf,SemE.set i (.lc m1 ziL zix)⟩
end
inductive Kd where
 |v|b|t
def ArgOk(K:af)(F H:Hp)(v:V):Kd->D->Prop
 |.v,d=>Rep F v d
 |.b,.lst ds=>RBor K F H v ds
 |.b,_=>False
 |.t,.tup ds=>RBt K F H v ds
 |.t,_=>False
inductive ArgsOk(K:af)(F H:Hp):List Kd->List V->List D->Prop
 |nil:ArgsOk K F H [] [] []
 |cons {k:Kd} {v:V} {d:D} {ks:List Kd} {vs:List V} {ds:List D}:ArgOk K F H v k d->ArgsOk K F H ks vs ds->ArgsOk K F H (k::ks) (v::vs) (d::ds)
inductive SpD(K:af)(ks:List Kd)(g:List D->Option Ent)(vs:List V)(H:Hp)(Q:VK):Prop
 |mk (F:Hp) (ds:List D) (r:Ent):Same F H->ArgsOk K F H ks vs ds->g ds=aa r->(∀v F' H',Ex F H F' H'->RepR K H F' H' v r->Q v H')->SpD K ks g vs H Q
def spD(K:af)(ks:List Kd)(g:List D->Option Ent):Sp:=λvs H Q _=>SpD K ks g vs H Q
def asT:Ent->Option (List D)
 |.val (.tup ds)=>aa ds
 |.bt ds=>aa ds
 | _=>ab
def RepR.toT{K:af}{H0 F H:Hp}{v:V}{e:Ent}{ds:List D}(r:RepR K H0 F H v e)(h:Same F H)(q:asT e=aa ds):RBt K F H v ds:=by
 cases e with
 |val d=>
  cases d with
  |tup es=>
   cases q;cases (show Rep F v (.tup _)from r)with
   |tup e rs=>exact⟨_,_,rfl,SqT.of (h _ _ e),rs⟩
  | _=>cases q
 |bt es=>cases q;exact r
 | _=>cases q
def zbs:Kd->Ent->Option D
 |.v,e=>asV e
 |.b,e=>(asL e).map .lst
 |.t,e=>(asT e).map .tup
def zat:List Kd->List Ent->Option (List D)
 |[],[]=>aa []
 |k::ks,e::es=>(zbs k e).bind λd=>(zat ks es).map λds=>d::ds
 | _,_=>ab
section
variable {K:af}{F H F' H' F2 H2:Hp}
def ArgOk.mono{v:V}{k:Kd}{d:D}(s:Same F F')(h:ArgOk K F H v k d):ArgOk K F' H v k d:=by
 cases k with
 |v=>exact Rep.mono s h
 |b=>cases d <;> first|exact h.elim|(obtain⟨l,vs,e,h1,h2⟩:=h;exact⟨l,vs,e,h1,h2.mono s⟩)
 |t=>cases d <;> first|exact h.elim|(obtain⟨l,vs,e,h1,h2⟩:=h;exact⟨l,vs,e,h1,h2.mono s⟩)
def RepRs.args{ks:List Kd}{vs:List V}{es:List Ent}{ds:List D}{F':Hp}(x:Ex F H F' H')(s:Same F2 F')(h:RepRs K H F2 H' vs es)(q:zat ks es=aa ds):∃F3,Ex F H F3 H'/\Same F' F3/\ArgsOk K F3 H' ks vs ds:=by
  induction h generalizing ks ds F' with
  |nil=>
    cases ks with
    |nil=>cases q;exact⟨F',x,Same.refl _,.nil⟩
    |cons _ _=>cases q
  |@cons _ e _ es r t ih=>
   cases ks with
   |nil=>cases q
   |cons k ks=>
    simp only[zat]at q;obtain⟨d,q1,q⟩:=bind_some q;obtain⟨ds',q2,q⟩:=map_some q;cases q;cases k with
    |v=>
      obtain⟨F3,x3,s3,r3⟩:=r.frz x s q1;obtain⟨F4,x4,s4,r4⟩:=ih x3 (s.trans s3) q2;exact⟨F4,x4,s3.trans s4,.cons (Rep.mono s4 r3) r4⟩
    |b=>
      obtain⟨ls,q3,q4⟩:=map_some q1;cases q4;obtain⟨F4,x4,s4,r4⟩:=ih x s q2;refine⟨F4,x4,s4,.cons (k:=.b) ?_ r4⟩;obtain⟨l,vs,e,h1,h2⟩:=RepR.toL r (s.trans x.fh) q3;exact⟨l,vs,e,h1,h2.mono (s.trans s4)⟩
    |t=>
      obtain⟨ls,q3,q4⟩:=map_some q1;cases q4;obtain⟨F4,x4,s4,r4⟩:=ih x s q2;refine⟨F4,x4,s4,.cons (k:=.t) ?_ r4⟩;obtain⟨l,vs,e,h1,h2⟩:=RepR.toT r (s.trans x.fh) q3;exact⟨l,vs,e,h1,h2.mono (s.trans s4)⟩
end
def zag(ks:List Kd)(g:List D->Option Ent)(fs:FA):FE:=λδ=>((fs δ).bind (zat ks)).bind g
section
variable {X:Cx}{es:List Expr}{e:Expr}{fs:FA}{x:Str}{p pos:Pos}{ks:List Kd}{g:List D->Option Ent}
def SemE.call{K:af}{t:TA}{dvs:List V}{E:XK}(m:SemA K t fs)(hd:dvs=[]):SemE K (tCall (spD K ks g) dvs E t) (zag ks g fs):=λB F H σ δ res Q s q k=>by
 subst hd;obtain⟨ds,q1,q⟩:=bind_some q;obtain⟨rs,q2,q3⟩:=bind_some q1;refine m B F H σ δ rs _ s q2 λvs F1 H1 x1 r1=>?_;obtain⟨F2,x2,_,a2⟩:=RepRs.args x1 (Same.refl _) r1 q3;rw[aU];exact⟨F2,ds,res,x2.fh,a2,q,λv F' H' x3 r3=>k v F' H' (x2.trans x3) (r3.earlier x2.hh)⟩
def vcl{CX:CXT}{k j:Nat}{f:ae}{fd:bx}{ps:List Str}{st:Stmt}{E:XK}(F:FnOk X.prog X.w X.K X.mg X.base CX k f fd ps (spD X.K ks g))(D:Def X.K X.mg x st ps f fd)(hr:Room j X.A)(hg:Gl X x)(hx:zcm CX X E)
  (ha:VA X (e::es) fs) (hjk:k<=j:=by decide) (hdb:(x==("__debug__" : Str))=false:=by decide) (h1:zan e=true:=by rfl) (h2:es.all zan=true:=by rfl) :
  VE X (.Call (.Name x p) (e::es) [] pos) (zag ks g fs):=let⟨_,w,m⟩:=ha.h;⟨_,wcl F D hr hg hx w hjk hdb h1 h2,.call m rfl⟩
end
def stN:Kd->D->Option Ent
 |.v,d=>aa (.val d)
 |.b,.lst ds=>aa (.bor ds)
 |.b,_=>ab
 |.t,.tup ds=>aa (.bt ds)
 |.t,_=>ab
def stE:List Kd->List D->Option En
 |[],[]=>aa []
 |k::ks,d::ds=>(stN k d).bind λe=>(stE ks ds).map λes=>aa e::es
 | _,_=>ab
def zeI:Out->Option Ent
 |.rt r _=>aa r
 |.nx _=>aa (.val .non)
 | _=>ab
def zcr(ks:List Kd)(m:Nat)(f:FS)(ds:List D):Option Ent:=(stE ks ds).bind λes=>(f (es++aG m ab)).bind zeI
def ArgsOk.start{K:af}{F H:Hp}{ks:List Kd}{vs:List V}{ds:List D}{es:En}(h0:ArgsOk K F H ks vs ds)(q:stE ks ds=aa es):vs.length=es.length/\∀(i:Nat) (e:Ent),es[i]? =aa (aa e)->(∃v,vs[i]? =aa v/\RepN K H F H v e)/\e.lk=false/\e.isO=false:=by
 induction h0 generalizing es with
 |nil=>cases q;exact⟨rfl,λi e h=>by simp at h⟩
 |@cons k v d ks vs ds a t ih0=>
  simp only[stE]at q;obtain⟨e0,q1,q⟩:=bind_some q;obtain⟨es',q2,q⟩:=map_some q;cases q;obtain⟨hl,ih⟩:=ih0 q2;refine⟨by simp[hl],λi e h=>?_⟩;cases i with
  |succ i=>simpa using ih i e (by simpa using h)
  |zero=>
   have h':e0=e:=by simpa using h
   subst h';cases k with
   |v=>cases q1;exact⟨⟨v,rfl,a⟩,rfl,rfl⟩
   |b=>
    cases d with
    |lst ls=>
     cases q1;obtain⟨l,ws,e,h1,h2⟩:=a;exact⟨⟨v,rfl,l,ws,e,h1,h2⟩,rfl,rfl⟩
    | _=>cases q1
   |t=>
    cases d with
    |tup ls=>
     cases q1;obtain⟨l,ws,e,h1,h2⟩:=a;exact⟨⟨v,rfl,l,ws,e,h1,h2⟩,rfl,rfl⟩
    | _=>cases q1
def ArgsOk.length{K:af}{F H:Hp}{ks:List Kd}{vs:List V}{ds:List D}(h:ArgsOk K F H ks vs ds):vs.length=ks.length:=h.rec (motive:=λks vs _ _=>vs.length=ks.length) rfl λ_ _ t=>congrArg (· + 1) t
section
variable {P:aI}{w:aO}{K:af}{mg:Str->Option ag}{base:aV}{x qual:Str}{st:Stmt}{f:ae}{fd:bx}{N ps:List Str}{k:Nat}{ks:List Kd}{g:List D->Option Ent}
end
end L3

namespace L3
open PySem PySem.Spec PyProof.Rows L2
def pI0(g:Int->Int->D):Ent->Ent->Option Ent:=λx y=>(iOf x).bind λi=>(iOf y).map λj=>.val (g i j)
noncomputable def pI(c:Int->Int->Prop)(g:Int->Int->D):Ent->Ent->Option Ent:=λx y=>(iOf x).bind λi=>(iOf y).bind λj=>gif (c i j) (aa (.val (g i j)))
def b64(i:Int):Prop:=-18446744073709551616<i/\i<18446744073709551616
def zcP{i:Int}(h:-18446744073709551616<i/\i<18446744073709551616):b64 i=True:=eq_true h
def psI(j:Int):Prop:=0<j
def zaK{j:Int}(h:0<j):psI j=True:=eq_true h
def dvI(j:Int):Prop:=0<j/\j<1073741824
def zck{j:Int}(h:0<j/\j<1073741824):dvI j=True:=eq_true h
def zhD{i:Int}(h:-18446744073709551616<i/\i<18446744073709551616):b64 i:=h
section
variable {K:af}
def zkh{g':Int->Int->V}{g:Int->Int->D}(h:∀i j F,Rep F (g' i j) (g i j)):zkk K (rI0 g') (pI0 g):=λH0 F H x y e e' res Q fh hh rx ry q k=>by
 obtain⟨i,q1,q⟩:=bind_some q;obtain⟨j,q2,q⟩:=map_some q;cases zaE q1;cases zaE q2;cases q;cases zaY rx;cases zaY ry;exact⟨i,j,rfl,rfl,k _ F H (Ex.refl fh) (h i j F)⟩
def semI{C c:Int->Int->Prop}{g':Int->Int->V}{g:Int->Int->D}(hc:∀i j,c i j->C i j)(h:∀i j F,Rep F (g' i j) (g i j)):zkk K (rI C g') (pI c g):=λH0 F H x y e e' res Q fh hh rx ry q k=>by
 obtain⟨i,q1,q⟩:=bind_some q;obtain⟨j,q2,q⟩:=bind_some q;obtain⟨hij,qz⟩:=za7 q;cases zaE q1;cases zaE q2;cases qz;cases zaY rx;cases zaY ry;exact⟨i,j,rfl,rfl,hc i j hij,k _ F H (Ex.refl fh) (h i j F)⟩
end
def zaV:=pI0 λi j=>.int (i+j)
def zee:=pI0 λi j=>.int (i-j)
noncomputable def zeb:=pI (λi j=>b64 i\/b64 j) λi j=>.int (i*j)
noncomputable def zcL:=pI (λ_ j=>psI j) λi j=>.int (i%j)
noncomputable def zdL:=pI (λ_ j=>dvI j) λi j=>.int (i / j)
noncomputable def gPow:=pI (λi j=>(0<=j/\j<=1000000)/\i.natAbs<18446744073709551616) λi j=>.int (i ^ j.toNat)
def gLt:=pI0 λi j=>.bl (decide (i<j))
def gLe:=pI0 λi j=>.bl (decide (i<=j))
def gGt:=pI0 λi j=>.bl (decide (j<i))
def gGe:=pI0 λi j=>.bl (decide (j<=i))
def zeL:Ent->Option Ent:=λx=>(iOf x).map λi=>.val (.int (-i))
section
variable {X:Cx}
def zbb:OpD X (binaryOp .Add) zaV:=⟨_,op_add,zkh λ_ _ _=>.int _⟩
def zdI:OpD X (binaryOp .Sub) zee:=⟨_,op_sub,zkh λ_ _ _=>.int _⟩
def zef:OpD X (binaryOp .Mult) zeb:=⟨_,op_mul,semI (λ_ _ h=>h) λ_ _ _=>.int _⟩
def zdp:OpD X (binaryOp .Mod) zcL:=⟨_,op_mod,semI (λ_ _ h=>h) λ_ _ _=>.int _⟩
def zff:OpD X (binaryOp .FloorDiv) zdL:=⟨_,op_fdiv,semI (λ_ _ h=>h) λ_ _ _=>.int _⟩
def o_lt:OpD X (bC .Lt) gLt:=⟨_,op_lt,zkh λ_ _ _=>.bl _⟩
def o_le:OpD X (bC .LtE) gLe:=⟨_,op_le,zkh λ_ _ _=>.bl _⟩
def o_gt:OpD X (bC .Gt) gGt:=⟨_,op_gt,zkh λ_ _ _=>.bl _⟩
def o_ge:OpD X (bC .GtE) gGe:=⟨_,op_ge,zkh λ_ _ _=>.bl _⟩
def zeV:UnD X (unaryOp .USub) zeL:=⟨_,un_neg,λH0 F H x e res Q fh hh r q k=>by
 obtain⟨i,q1,q⟩:=map_some q;cases zaE q1;cases q;cases zaY r;exact⟨i,rfl,k _ F H (Ex.refl fh) (.int _)⟩⟩
end
def dvD:D->Option V
 |.non=>aa .non
 |.bl b=>aa (.bl b)
 |.int i=>aa (.int i)
 |.str z=>aa (.str z)
 | _=>ab
def zkr(d d':D):Option Bool:=(dvD d).bind λx=>(dvD d').bind λy=>if scal x y=true then aa (decide (x=y))else ab
def zi0{p q:Prop}[Decidable p][Decidable q](h:p ↔ q):aa (decide p)=aa (decide q):=congrArg aa (decide_eq_decide.mpr h)
def zb3(i j:Int):zkr (.int i) (.int j)=aa (decide (i=j)):=zi0 ⟨V.int.inj,congrArg _⟩
def zeM(i j:Str):zkr (.str i) (.str j)=aa (decide (i=j)):=zi0 ⟨V.str.inj,congrArg _⟩
def scEq_bb(i j:Bool):zkr (.bl i) (.bl j)=aa (decide (i=j)):=zi0 ⟨V.bl.inj,congrArg _⟩
def scEq_in(i:Int):zkr (.int i) .non=aa false:=rfl
def scEq_ni(i:Int):zkr .non (.int i)=aa false:=rfl
def scEq_nn:zkr .non .non=aa true:=rfl
def scEq_sn(i:Str):zkr (.str i) .non=aa false:=rfl
def scEq_is(i:Int)(z:Str):zkr (.int i) (.str z)=aa false:=rfl
def scEq_si(i:Int)(z:Str):zkr (.str z) (.int i)=aa false:=rfl
def dvD_ok{F:Hp}{x z:V}{d:D}(r:Rep F x d)(q:dvD d=aa z):x=z:=by
 cases r <;> first|(cases q;rfl)|cases q
def gEq:Ent->Ent->Option Ent
 |.val d,.val d'=>(zkr d d').map λb=>.val (.bl b)
 | _,_=>ab
def gNe:Ent->Ent->Option Ent
 |.val d,.val d'=>(zkr d d').map λb=>.val (.bl (!b))
 | _,_=>ab
def scEq_ok{F:Hp}{x y:V}{d d':D}{b:Bool}(rx:Rep F x d)(ry:Rep F y d')(q:zkr d d'=aa b):scal x y=true/\decide (x=y)=b:=by
 obtain⟨x',q1,q⟩:=bind_some q;obtain⟨y',q2,q⟩:=bind_some q;cases dvD_ok rx q1;cases dvD_ok ry q2;obtain⟨h,q⟩:=zjr q;exact⟨h,aJ q⟩
def isN:Ent->Bool
 |.val .non=>true
 | _=>false
def gIsN:Ent->Ent->Option Ent
 |x,.val .non=>aa (.val (.bl (isN x)))
 | _,_=>ab
def gNoN:Ent->Ent->Option Ent
 |x,.val .non=>aa (.val (.bl (!isN x)))
 | _,_=>ab
def isN_ok{K:af}{H0 F H:Hp}{x:V}{e:Ent}(r:RepR K H0 F H x e):decide (x=.non)=isN e:=by
 cases e with
 |val d=>cases r <;> simp[isN]
 |own ds=>obtain⟨l,vs,e,_⟩:=r;subst e;simp[isN]
 |bor ds=>obtain⟨l,vs,e,_⟩:=r;subst e;simp[isN]
 |vw ds=>obtain⟨l,vs,e,_⟩:=r;subst e;simp[isN]
 |vwt ks ds=>obtain⟨A,t⟩:=r;cases t;simp[isN]
 |bt ds=>obtain⟨l,vs,e,_⟩:=r;subst e;simp[isN]
 |obj o=>obtain⟨⟨l,e⟩,_⟩:=r;subst e;simp[isN]
def sOf:Ent->Option Str
 |.val (.str i)=>aa i
 | _=>ab
def zbc{e:Ent}{i:Str}(h:sOf e=aa i):e=.val (.str i):=by
 cases e with
 |val d=>cases d <;> first|(cases h;rfl)|(cases h)
 | _=>cases h
def inS(i j:Str):Bool:=!(eP j i 0 j.length 1).isEmpty
def gInS:Ent->Ent->Option Ent:=λx y=>(sOf x).bind λi=>(sOf y).map λj=>.val (.bl (inS i j))
def gNiS:Ent->Ent->Option Ent:=λx y=>(sOf x).bind λi=>(sOf y).map λj=>.val (.bl (!inS i j))
noncomputable def zb9:Ent->Ent->Option Ent:=λx y=>(sOf x).bind λi=>(sOf y).bind λj=>gif (sz (i.length+j.length)) (aa (.val (.str (i++j))))
def zeS{n:Nat}(h:n<=1000000):n<=bj:=by rw[cn];lia
section
variable {X:Cx}
def zkq:OpD X (bC .Eq) gEq:=⟨_,op_eq,λH0 F H x y e e' res Q fh hh rx ry q k=>by
 cases e with
 |val d=>
  cases e' with
  |val d'=>
   obtain⟨b,q1,q⟩:=map_some q;cases q;obtain⟨h1,h2⟩:=scEq_ok rx ry q1;exact⟨h1,by rw[h2];exact k _ F H (Ex.refl fh) (.bl _)⟩
  | _=>cases q
 | _=>cases q⟩
def o_ne:OpD X (bC .NotEq) gNe:=⟨_,op_ne,λH0 F H x y e e' res Q fh hh rx ry q k=>by
 cases e with
 |val d=>
  cases e' with
  |val d'=>
   obtain⟨b,q1,q⟩:=map_some q;cases q;obtain⟨h1,h2⟩:=scEq_ok rx ry q1;exact⟨h1,by rw[h2];exact k _ F H (Ex.refl fh) (.bl _)⟩
  | _=>cases q
 | _=>cases q⟩
def o_isN:OpD X (bC .Is) gIsN:=⟨_,op_isN,λH0 F H x y e e' res Q fh hh rx ry q k=>by
 unfold gIsN at q;split at q
 ·cases q;exact⟨zit ry,by rw[isN_ok rx];exact k _ F H (Ex.refl fh) (.bl _)⟩
 ·cases q⟩
def o_noN:OpD X (bC .IsNot) gNoN:=⟨_,op_notN,λH0 F H x y e e' res Q fh hh rx ry q k=>by
 unfold gNoN at q;split at q
 ·cases q;exact⟨zit ry,by rw[isN_ok rx];exact k _ F H (Ex.refl fh) (.bl _)⟩
 ·cases q⟩
def o_inS:OpD X (bC .In) gInS:=⟨_,op_in_str,λH0 F H x y e e' res Q fh hh rx ry q k=>by
 obtain⟨i,q1,q⟩:=bind_some q;obtain⟨j,q2,q⟩:=map_some q;cases zbc q1;cases zbc q2;cases q;exact⟨i,j,zbQ rx,zbQ ry,k _ F H (Ex.refl fh) (.bl _)⟩⟩
def o_niS:OpD X (bC .NotIn) gNiS:=⟨_,zhB,λH0 F H x y e e' res Q fh hh rx ry q k=>by
 obtain⟨i,q1,q⟩:=bind_some q;obtain⟨j,q2,q⟩:=map_some q;cases zbc q1;cases zbc q2;cases q;exact⟨i,j,zbQ rx,zbQ ry,k _ F H (Ex.refl fh) (.bl _)⟩⟩
def zdB:OpD X (binaryOp .Add) zb9:=⟨_,zjS,λH0 F H x y e e' res Q fh hh rx ry q k=>by
 obtain⟨i,q1,q⟩:=bind_some q;obtain⟨j,q2,q⟩:=bind_some q;obtain⟨hl,qz⟩:=za7 q;cases zbc q1;cases zbc q2;cases qz;exact⟨i,j,zbQ rx,zbQ ry,zeS hl,k _ F H (Ex.refl fh) (.str _)⟩⟩
end
def zdJ:Ent->Ent->Option Ent:=λx y=>(asL x).bind λds=>(iOf y).bind λi=>(atI ds i).map .val
def zdY:Ent->Option (List D)
 |.val (.tup ds)=>aa ds
 | _=>ab
def zdR{e:Ent}{ds:List D}(h:zdY e=aa ds):e=.val (.tup ds):=by
 cases e with
 |val d=>cases d <;> first|(cases h;rfl)|(cases h)
 | _=>cases h
def zen:Ent->Ent->Option Ent:=λx y=>(zdY x).bind λds=>(iOf y).bind λi=>(atI ds i).map .val
def btOf:Ent->Option (List D)
 |.bt ds=>aa ds
 | _=>ab
def btOf_some{e:Ent}{ds:List D}(h:btOf e=aa ds):e=.bt ds:=by
 cases e with
 |bt d=>cases h;rfl
 | _=>cases h
def ziY:Ent->Ent->Option Ent:=λx y=>(btOf x).bind λds=>(iOf y).bind λi=>(atI ds i).map .val
def mkS(l:List Nat):Str:=⟨l.toArray⟩
noncomputable def zjb:Ent->Ent->Option Ent:=λx y=>(sOf x).bind λz=>(iOf y).bind λi=>gif (sz z.length) ((atI z.cps.toList i).map λc=>.val (.str (mkS [c])))
def ziQ{F:Hp}{vs:List V}{ds:List D}{i:Int}{d:D}(r:Reps F vs ds)(q:atI ds i=aa d):∃v,atI vs i=aa v/\Rep F v d:=by
 unfold atI at q ⊢;obtain⟨j,q1,q⟩:=bind_some q;obtain⟨v,h1,h2⟩:=r.get q;exact⟨v,by rw[r.length,q1];exact h1,h2⟩
section
variable {X:Cx}
def zc4:IxD X zdJ:=⟨_,ix_list,λH0 F H x y e e' res Q fh hh rx ry q k=>by
 obtain⟨ds,q1,q⟩:=bind_some q;obtain⟨i,q2,q⟩:=bind_some q;obtain⟨d,q3,q⟩:=map_some q;cases q;cases zaE q2;obtain⟨l,vs,e,h1,h2⟩:=RepR.toL rx fh q1;obtain⟨v,h3,h4⟩:=ziQ h2 q3;exact⟨l,vs,i,v,e,zaY ry,h1,h3,k v F H (Ex.refl fh) h4⟩⟩
def zds:IxD X zen:=⟨_,ix_tup,λH0 F H x y e e' res Q fh hh rx ry q k=>by
 obtain⟨ds,q1,q⟩:=bind_some q;obtain⟨i,q2,q⟩:=bind_some q;obtain⟨d,q3,q⟩:=map_some q;cases q;cases zaE q2;cases zdR q1;cases (show Rep F x (.tup ds)from rx)with
 |tup e rs=>
  obtain⟨v,h3,h4⟩:=ziQ rs q3;exact⟨_,_,i,v,rfl,zaY ry,SqT.of (fh _ _ e),h3,k v F H (Ex.refl fh) h4⟩⟩
def x_bt:IxD X ziY:=⟨_,ix_tup,λH0 F H x y e e' res Q fh hh rx ry q k=>by
 obtain⟨ds,q1,q⟩:=bind_some q;obtain⟨i,q2,q⟩:=bind_some q;obtain⟨d,q3,q⟩:=map_some q;cases q;cases zaE q2;cases btOf_some q1;obtain⟨l,vs,e,h1,h2⟩:=rx;obtain⟨v,h3,h4⟩:=ziQ h2 q3;exact⟨l,vs,i,v,e,zaY ry,h1,h3,k v F H (Ex.refl fh) h4⟩⟩
def zkl:IxD X zjb:=⟨_,ix_str,λH0 F H x y e e' res Q fh hh rx ry q k=>by
 obtain⟨z,q1,q⟩:=bind_some q;obtain⟨i,q2,q⟩:=bind_some q;obtain⟨hl,qz⟩:=za7 q;obtain⟨c,q3,qz⟩:=map_some qz;cases qz;cases zaE q2;cases zbc q1;exact⟨z,i,c,zbQ rx,zaY ry,zeS hl,q3,k _ F H (Ex.refl fh) (.str _)⟩⟩
end
noncomputable def gCat:Ent->Ent->Option Ent:=λx y=>(asLt x).bind λds=>(asLt y).bind λes=>gif (sz (ds.length+es.length)) (aa (.own (ds++es)))
noncomputable def gCatT:Ent->Ent->Option Ent:=λx y=>(zdY x).bind λds=>(zdY y).bind λes=>gif (sz (ds.length+es.length)) (aa (.val (.tup (ds++es))))
section
variable {X:Cx}
end
abbrev FO:=En->Option (Option Int)
def oNo:FO:=λ_=>aa ab
def oSo(fe:FE):FO:=λδ=>((fe δ).bind iOf).map aa
def SemO(K:af)(t:TO)(f:FO):Prop:=∀(B:Bd) (F H:Hp) (σ:Sg) (δ:En) (o:Option Int) (Q:Option Int->Hp->Prop),RS K B F H σ δ->f δ=aa o->(∀F' H',Ex F H F' H'->Q o H')->t σ H Q
structure VO(X:Cx)(e:Option Expr)(f:FO):Prop where
 h:∃t,WO X e t/\SemO X.K t f
def SemL(K:af)(r:V->Option Int->Option Int->Hp->VK->Prop)(g:Ent->Option Int->Option Int->Option Ent):Prop:=∀(H0 F H:Hp) (x:V) (lo hi:Option Int) (e res:Ent) (Q:VK),Same F H->Same H0 H->RepR K H0 F H x e->g e lo hi=aa res ->
 (∀v F' H',Ex F H F' H'->RepR K H0 F' H' v res->Q v H')->r x lo hi H Q
def SlD(X:Cx)(g:Ent->Option Int->Option Int->Option Ent):Prop:=∃r,SlR X r/\SemL X.K r g
def eSl(g:Ent->Option Int->Option Int->Option Ent)(fe:FE)(fl fu:FO):FE:=λδ=>(fe δ).bind λx=>(fl δ).bind λl=>(fu δ).bind λu=>g x l u
def zbJ{α:Type}(xs:List α)(lo hi:Option Int):List α:=(xs.drop (HT.sIx xs.length 0 lo)).take (HT.sIx xs.length xs.length hi-HT.sIx xs.length 0 lo)
def gSlL:Ent->Option Int->Option Int->Option Ent:=λx lo hi=>(asL x).map λds=>.own (zbJ ds lo hi)
def gSlT:Ent->Option Int->Option Int->Option Ent:=λx lo hi=>(zdY x).map λds=>.val (.tup (zbJ ds lo hi))
def Reps.cut{F:Hp}{vs:List V}{ds:List D}(r:Reps F vs ds)(lo hi:Option Int):Reps F (cutV vs lo hi) (zbJ ds lo hi):=by
 unfold cutV zbJ;rw[r.length];exact(r.drop _).take _
section
variable {X:Cx}{e:Expr}{lo hi:Option Expr}{fe:FE}{fl fu:FO}{pos p2:Pos}
def von:VO X ab oNo:=⟨_,won,λB F H σ δ o Q s q k=>by cases q;exact k F H (Ex.refl s.fh)⟩
def vos(h:VE X e fe):VO X (aa e) (oSo fe):=by
 obtain⟨t,w,m⟩:=h.h;refine⟨_,wos w,λB F H σ δ o Q s q k=>?_⟩;obtain⟨i,q1,q⟩:=map_some q;cases q;obtain⟨r,q2,q3⟩:=bind_some q1;cases zaE q3;exact m B F H σ δ _ _ s q2 λv F1 H1 x1 r1=>⟨i,zaY r1,k F1 H1 x1⟩
def vsl{g:Ent->Option Int->Option Int->Option Ent}(hr:SlD X g)(he:VE X e fe)(hl:VO X lo fl)(hu:VO X hi fu):VE X (.Subscript e (.Slice lo hi ab p2) pos) (eSl g fe fl fu):=by
 obtain⟨t,w,m⟩:=he.h;obtain⟨t1,w1,m1⟩:=hl.h;obtain⟨t2,w2,m2⟩:=hu.h;obtain⟨rr,hr1,hr2⟩:=hr;refine⟨_,wslice hr1 w w1 w2,λB F H σ δ res Q s q k=>?_⟩;obtain⟨x,q1,q⟩:=bind_some q;obtain⟨l,q2,q⟩:=bind_some q;obtain⟨u,q3,q⟩:=bind_some q;refine m B F H σ δ x _ s q1 λv F1 H1 x1 r1=>?_;refine m1 B F1 H1 σ δ l _ (s.ext x1) q2 λF2 H2 x2=>?_;refine m2 B F2 H2 σ δ u _ ((s.ext x1).ext x2) q3 λF3 H3 x3=>?_;have xx:=(x1.trans x2).trans x3;exact hr2 H F3 H3 v l u x res Q xx.fh xx.hh ((r1.ext x2).ext x3) q λv' F' H' x4 r4=>k v' F' H' (xx.trans x4) r4
def l_list:SlD X gSlL:=⟨_,sl_list,λH0 F H x lo hi e res Q fh hh rx q k=>by
 obtain⟨ds,q1,q⟩:=map_some q;cases q;obtain⟨l,vs,e,h1,h2⟩:=RepR.toL rx fh q1;exact⟨l,vs,e,h1,λp hp=>k _ _ _ (Ex.lay fh hp) ⟨p,_,rfl,hh.free hp,zaj,h2.cut lo hi,fh.free hp⟩⟩⟩
end
def zbP:List Ent->Option Ent
 |[x]=>match zdY x with
  |some ds=>aa (.val (.int ds.length))
  |none=>(asL x).map λds=>.val (.int ds.length)
 | _=>ab
noncomputable def zaA:List Ent->Option Ent
 |[x]=>(sOf x).bind λz=>gif (sz z.length) (aa (.val (.int z.length)))
 | _=>ab
def gListQ:List Ent->Option Ent
 |[x]=>match zdY x with
  |some ds=>aa (.own ds)
  |none=>(asL x).map λds=>.own ds
 | _=>ab
def zdr:List Ent->Option Ent
 |[x]=>(asL x).map λds=>.val (.tup ds)
 | _=>ab
def zg4:List Ent->Option Ent
 |[.val (.int i)]=>aa (.val (.int i))
 |[.val (.bl b)]=>aa (.val (.int (if b then 1 else 0)))
 | _=>ab
def zdq{K:af}{H0 F H:Hp}{vs:List V}{x:Ent}(r:RepRs K H0 F H vs [x]):∃v,vs=[v]/\RepR K H0 F H v x:=by
 cases r with
 |cons h t=>cases t;exact⟨_,rfl,h⟩
def zfO{g:List Ent->Option Ent}{es:List Ent}{res:Ent}(h0:g []=ab)(h2:∀a b r,g (a::b::r)=ab)(q:g es=aa res):∃x,es=[x]:=by
 match es,q with
 |[],q=>rw[h0]at q;cases q
 |[x],_=>exact⟨x,rfl⟩
 |a::b::r,q=>rw[h2]at q;cases q
def RepR.seq{K:af}{H0 F H:Hp}{v:V}{x:Ent}{ds:List D}(r:RepR K H0 F H v x)(fh:Same F H)(q:zdY x=aa ds\/asL x=aa ds):∃l vs,v=.ref l/\(SqL K H l vs\/SqT K H l vs)/\Reps F vs ds:=by
 rcases q with q|q
 ·cases zdR q;cases (show Rep F v (.tup ds)from r)with
  |tup e rs=>exact⟨_,_,rfl,.inr (SqT.of (fh _ _ e)),rs⟩
 ·obtain⟨l,vs,e,h1,h2⟩:=RepR.toL r fh q;exact⟨l,vs,e,.inl h1,h2⟩
section
variable {X:Cx}
def zer:zeQ X (.builtin "len") zbP:=⟨_,zhm,λH0 F H vs es res Q fh hh r q k=>by
 obtain⟨x,rfl⟩:=zfO rfl (λ_ _ _=>rfl) q;obtain⟨v,rfl,rz⟩:=zdq r;have go:∀ds,(zdY x=aa ds\/asL x=aa ds)->res=.val (.int ds.length)->∃p ys,[v]=[V.ref p]/\(SqL X.K H p ys\/SqT X.K H p ys)/\Q (.int ys.length) H:=λds h e=>by
  obtain⟨l,ws,e',h1,h2⟩:=RepR.seq rz fh h;subst e e';exact⟨l,ws,rfl,h1,by rw[h2.length];exact k _ F H (Ex.refl fh) (.int _)⟩
 simp only[zbP]at q;split at q
 ·rename_i ds h;exact go ds (.inl h) (aJ q).symm
 ·obtain⟨ds,h,q⟩:=map_some q;exact go ds (.inr h) q.symm⟩
def zb6:zeQ X (.builtin "len") zaA:=⟨_,zik,λH0 F H vs es res Q fh hh r q k=>by
 obtain⟨x,rfl⟩:=zfO rfl (λ_ _ _=>rfl) q;obtain⟨v,rfl,rz⟩:=zdq r;obtain⟨z,q1,q⟩:=bind_some q;obtain⟨hl,qz⟩:=za7 q;cases qz;cases zbc q1;cases zbQ rz;exact⟨z,rfl,zeS hl,k _ F H (Ex.refl fh) (.int _)⟩⟩
def zfa:zeQ X (.type "tuple") zdr:=⟨_,zgK,λH0 F H vs es res Q fh hh r q k=>by
 obtain⟨x,rfl⟩:=zfO rfl (λ_ _ _=>rfl) q;obtain⟨v,rfl,rz⟩:=zdq r;obtain⟨ds,q1,q⟩:=map_some q;cases q;obtain⟨l,ws,e',h1,h2⟩:=RepR.toL rz fh q1;subst e';exact⟨l,ws,rfl,.inl ⟨h1,λp hp=>k _ _ _ (Ex.alloc fh hp) (.tup zaj (h2.mono (Same.alloc (fh.free hp))))⟩⟩⟩
def c_int1:zeQ X (.type "int") zg4:=⟨_,call_int1,λH0 F H vs es res Q fh hh r q k=>by
 unfold zg4 at q;split at q
 ·cases q;obtain⟨v,rfl,rz⟩:=zdq r;cases zaY rz;exact .inl ⟨_,rfl,k _ F H (Ex.refl fh) (.int _)⟩
 ·cases q;obtain⟨v,rfl,rz⟩:=zdq r;cases zhM rz;exact .inr ⟨_,rfl,k _ F H (Ex.refl fh) (.int _)⟩
 ·cases q⟩
end
def tyN:D->String
 |.non=> "NoneType"|.bl _=> "bool"|.int _=> "int"|.str _=> "str"|.tup _=> "tuple"|.lst _=> "list"|.dic _ _=> "dict"|.ins _ _ _=> ""|.dcI _ _=> ""|.dcS _ _=> ""
def obD:D->Bool
 |.ins _ _ _=>true|.dcI _ _=>true|.dcS _ _=>true|.non=>false|.bl _=>false|.int _=>false|.str _=>false|.tup _=>false|.lst _=>false|.dic _ _=>false
def isiD(T:String)(d:D):Bool:=tyN d==T || (T == "int" && tyN d == "bool")
def gIsi(T:String):Ent->Option Ent
 |.val d=>if obD d=true then ab else aa (.val (.bl (isiD T d)))
 | _=>ab
section
variable {X:Cx}{a:Expr}{fa:FE}{x:Str}{p p1 pos:Pos}{T:String}{Tn:Str}
end
def iL(fe:FE):FI:=λδ=>(fe δ).bind λx=>match x with
 |.val (.lst ds)=>aa ds
 |.own ds=>aa ds
 | _=>ab
def iB(i:Nat):FI:=λδ=>match δ[i]? with
 |some (aa (.bor ds))=>aa ds
 | _=>ab
def iT(fe:FE):FI:=λδ=>(fe δ).bind zdY
def b62(j:Int):Prop:=-(2 ^ 62)<=j/\j<2 ^ 62
def zdj{j:Int}(h:-1000000000<j/\j<1000000000):b62 j:=by unfold b62;lia
def zcz{j:Int}(h:-1000000000<j/\j<1000000000):b62 j=True:=eq_true (zdj h)
noncomputable def iR1(fa:FA):FI:=λδ=>(fa δ).bind λes=>match es with
 |[e]=>(iOf e).bind λj=>gif (b62 j) (aa ((aq j.toNat).map λ(i:Nat)=>D.int (0+i)))
 | _=>ab
noncomputable def iR2(fa:FA):FI:=λδ=>(fa δ).bind λes=>match es with
 |[e,e']=>(iOf e).bind λi=>(iOf e').bind λj=>gif (b62 i/\b62 j) (aa ((aq (j-i).toNat).map λ(k:Nat)=>D.int (i+k)))
 | _=>ab
def zeq{K:af}{B F0:Hp}{a:ae}{vs:List V}{ds:List D}(h:∀F H,Same F0 F->Same F H->Same B H->SqL K H a vs)(r:Reps F0 vs ds):ItOk B F0 (Itl K a) ds:=λF H s1 s2 s3=>by
 have hq:=h F H s1 s2 s3;refine⟨⟨vs,hq,by rw[r.length];exact ak _⟩,λi d e=>?_⟩;obtain⟨v,h1,h2⟩:=r.get e;refine⟨⟨vs,v,hq,h1⟩,λx H' y=>?_⟩;obtain⟨e',y⟩:=y;subst e';have:=y vs hq;rw[h1]at this;cases this;exact⟨F,Ex.refl s2,Rep.mono s1 h2⟩
def itOk_tup{K:af}{B F0:Hp}{a:ae}{vs:List V}{ds:List D}(h:F0 a=aa (.tup vs))(r:Reps F0 vs ds):ItOk B F0 (Itt K a) ds:=λF H s1 s2 s3=>by
 have hq:SqT K H a vs:=SqT.of (s2 _ _ (s1 _ _ h));refine⟨⟨vs,hq,by rw[r.length];exact ak _⟩,λi d e=>?_⟩;obtain⟨v,h1,h2⟩:=r.get e;refine⟨⟨vs,v,hq,h1⟩,λx H' y=>?_⟩;obtain⟨e',y⟩:=y;subst e';have:=y vs hq;rw[h1]at this;cases this;exact⟨F,Ex.refl s2,Rep.mono s1 h2⟩
def zjv{B F0:Hp}{lo:Int}{n:Nat}:ItOk B F0 (Itr lo n) ((aq n).map λ(i:Nat)=>D.int (lo+i)):=λF H s1 s2 s3=>by
 refine⟨by simp[Itr],λi d e=>?_⟩;rw[aA]at e;by_cases hi:i<n
 ·rw[bH hi]at e;cases e;refine⟨hi,λx H' y=>?_⟩;obtain⟨e',y⟩:=y;subst e' y;exact⟨F,Ex.refl s2,.int _⟩
 ·rw[dr (by simp;lia)]at e;cases e
section
variable {X:Cx}{tg e b:Expr}{es:List Expr}{fe:FE}{fa:FA}{p pos:Pos}{x:Str}
def iil(h:VE X e fe):VI X tg e (iL fe):=by
 obtain⟨t,w,m⟩:=h.h;refine⟨_,il w,λB F H σ δ ds R s q k=>?_⟩;obtain⟨r,q1,q⟩:=bind_some q;refine m B F H σ δ r _ s q1 λv F1 H1 x1 r1=>?_;split at q
 ·cases q;cases (show Rep F1 v (.lst ds)from r1)with
  |lst e rs=>exact⟨_,rfl,⟨_,SqL.of (x1.fh _ _ e)⟩,k _ F1 H1 x1 (zeq (λF H s1 s2 _=>SqL.of (s2 _ _ (s1 _ _ e))) rs)⟩
 ·cases q;obtain⟨F2,x2,_,r2⟩:=RepR.frz x1 (Same.refl _) r1 rfl;cases r2 with
  |lst e rs=>exact⟨_,rfl,⟨_,SqL.of (x2.fh _ _ e)⟩,k _ F2 H1 x2 (zeq (λF H s1 s2 _=>SqL.of (s2 _ _ (s1 _ _ e))) rs)⟩
 ·cases q
def iib(i:Nat)(hN:X.N[i]? =aa x:=by rfl)(hv:Vis X.env.scope x:=by first|exact az rfl|exact ba (az rfl)|exact ba (ba rfl))(hd:(x==("__debug__" : Str))=false:=by decide)
  (hcd:(x==("__classdict__" : Str))=false:=by decide):VI X tg (.Name x pos) (iB i):=by
 refine⟨_,il (wv i hN hv hd hcd),λB F H σ δ ds R s q k=>?_⟩;unfold iB at q;split at q
 ·rename_i es e;cases q;obtain⟨v,h1,l,vs,e,h2,h3⟩:=s.ent i _ e;exact⟨v,h1,l,e,⟨vs,s.bh.seq h2⟩,k _ F H (Ex.refl s.fh) (zeq (λF H _ _ s3=>s3.seq h2) h3)⟩
 ·cases q
def iit(h:VE X e fe):VI X tg e (iT fe):=by
 obtain⟨t,w,m⟩:=h.h;refine⟨_,it w,λB F H σ δ ds R s q k=>?_⟩;obtain⟨r,q1,q⟩:=bind_some q;refine m B F H σ δ r _ s q1 λv F1 H1 x1 r1=>?_;cases zdR q;cases (show Rep F1 v (.tup ds)from r1)with
 |tup e rs=>exact⟨_,rfl,⟨_,SqT.of (x1.fh _ _ e)⟩,k _ F1 H1 x1 (itOk_tup e rs)⟩
def iir1(hg:Gl X "range")(hm:X.mg "range" =ab)(ha:VA X [e] fa)(h1:zan e=true:=by rfl):VI X tg (.Call (.Name "range" p) [e] [] pos) (iR1 fa):=by
 obtain⟨t,w,m⟩:=ha.h;refine⟨_,ir1 hg hm w h1,λB F H σ δ ds R s q k=>?_⟩;obtain⟨es,q1,q⟩:=bind_some q;refine m B F H σ δ es _ s q1 λvs F1 H1 x1 r1=>?_;split at q
 ·obtain⟨j,q2,q⟩:=bind_some q;obtain⟨hj,qz⟩:=za7 q;cases qz;cases zaE q2;obtain⟨v,rfl,rz⟩:=zdq r1;cases zaY rz;exact⟨j,rfl,hj.1,hj.2,k _ F1 H1 x1 zjv⟩
 ·cases q
def iir2(hg:Gl X "range")(hm:X.mg "range" =ab)(ha:VA X [e,b] fa)(h1:zan e=true:=by rfl)(h2:zan b=true:=by rfl):VI X tg (.Call (.Name "range" p) [e,b] [] pos) (iR2 fa):=by
 obtain⟨t,w,m⟩:=ha.h;refine⟨_,ir2 hg hm w h1 h2,λB F H σ δ ds R s q k=>?_⟩;obtain⟨es,q1,q⟩:=bind_some q;refine m B F H σ δ es _ s q1 λvs F1 H1 x1 r1=>?_;split at q
 ·obtain⟨i,q2,q⟩:=bind_some q;obtain⟨j,q3,q⟩:=bind_some q;obtain⟨hj,qz⟩:=za7 q;cases qz;cases zaE q2;cases zaE q3;cases r1 with
  |cons ra rt=>
   obtain⟨w',rfl,rb⟩:=zdq rt;cases zaY ra;cases zaY rb;exact⟨i,j,rfl,⟨hj.1.1,hj.1.2,hj.2.1,hj.2.2⟩,k _ F1 H1 x1 zjv⟩
 ·cases q
end
end L3

namespace L3
open PySem PySem.Spec PyProof.Rows L2
section
variable {prog:aI}{w:aO}{A:aW}{R:Result->ai->Prop}{I:ae}{fp wr:List ae}{n:Nat}{P:Nat->ag->Prop}{St:Nat->aV->Prop}{kw:List (Str×ag)}
def mloop(W:Walks prog w A.in1 I fp wr n P St)(bt:Nat->Nat->Bool)(hc:CmpOf prog w A.in1 .Lt P bt)(S:ae)(hSf:S∉fp) :
  ∀(k j:Nat) (s:ai) (vb:ag) (c:Nat),n-(j+1)=k->j+1<=n->St (j+1) s.heap->P (argBest bt j) vb ->
  s.heap.get? S=aa { cls:=.type "list",dict:=ab,data:=.seq #[vb,vb] c,slots:=#[]} ->
  (∀v h' tk,P (argBest bt (n-1)) v->(∀b o,b∉wr->b≠S->s.heap.get? b=aa o->h'.get? b=aa o)->R (.ok (.ret v)) { s with heap:=h',toks:=tk}) ->
  codeAny (model prog w) A (.builtin "min.loop" ⟨[.ref I,.none,.ref S],kw⟩) R s:=by
 have hSw:S∉wr:=λh=>hSf (W.sub _ h);have hnm:(toString "min" ++ toString ".loop" : String) = "min.loop" :=by decide
 intro k
 induction k with
 |zero=>
  intro j s vb c hk hj hst hPb hS hR;have hin:j+1=n:=by lia
  refine codeAny_builtin dS ?_;rw[ef bY _];show aM _ A.in1 (seqItems? (.ref S) >>= _) _ _ s;refine ay (wpAny_seqItems hS rfl ?_);show aM _ A.in1 (tryCatch (pyNext (.ref I)) _ >>= _) _ _ s;refine ay (wpAny_tryCatch (W.done s _ _ (hin ▸ hst) λh' tk hk'=>?_));have hS':=hk' S _ hSw hS;show aM _ A.in1 (updateSeq S (λ_=>#[]) >>= _) _ _ _;refine ay ?_;refine wpAny_updateSeq hS' rfl (ay (wpAny_letGo (a8 ?_)));exact hR vb _ tk (by rw[<- hin];exact hPb) λb o hbw hbS e=>(cE _ _ (cP hbS)).trans (hk' b o hbw e)
 |succ k ih=>
  intro j s vb c hk hj hst hPb hS hR;have hlt:j+1<n:=by lia
  refine codeAny_builtin dS ?_;rw[ef bY _];show aM _ A.in1 (seqItems? (.ref S) >>= _) _ _ s;refine ay (wpAny_seqItems hS rfl ?_);show aM _ A.in1 (tryCatch (pyNext (.ref I)) _ >>= _) _ _ s;refine ay (wpAny_tryCatch (W.item (j+1) s _ _ hlt hst λv h' tk hP hst' hk'=>?_));have hS':=hk' S _ hSw hS;show aM _ A.in1 (tryCatch (holding [v,v] (richCompare .Lt v vb >>= _)) _ >>= _) _ _ _;refine ay (wpAny_tryCatch (dI (ay (hc (j+1) (argBest bt j) v vb _ _ _ hP hPb ?_))));refine ay (dI (wpAny_truthy_bool ?_));refine ay (wpAny_letGo (a8 ?_));cases hb:bt (j+1) (argBest bt j)with
  |true=>
   simp only[if_true];refine ay ?_;refine wpAny_updateSeq hS' rfl (ay (wpAny_letGo ?_));rw[hnm];refine a8 ⟨plainId_quiet bY _,ih (j+1) _ v _ (by lia) hlt (W.frame _ _ _ hst' λb hbf o e=>?_) (by simp only[argBest,hb,if_true];exact hP) (fg _ hS' rfl) λv' h'' tk'' hP' hk''=>?_⟩
   ·exact(cE _ _ (λh:S=b=>hSf (by rw[h];exact hbf))).trans e
   ·exact hR v' h'' tk'' hP' λb o hbw hbS e=>hk'' b o hbw hbS ((cE _ _ (cP hbS)).trans (hk' b o hbw e))
  |false=>
   simp only[cY,if_false];refine ay (wpAny_letGo ?_);rw[hnm];refine a8 ⟨plainId_quiet bY _,ih (j+1) _ vb c (by lia) hlt hst' (by simp only[argBest,hb,cY,if_false];exact hPb) hS' λv' h'' tk'' hP' hk''=>?_⟩;exact hR v' h'' tk'' hP' λb o hbw hbS e=>hk'' b o hbw hbS (hk' b o hbw e)
def mloop1(W:Walks prog w A.in1 I fp wr n P St)(bt:Nat->Nat->Bool)(hc:CmpOf prog w A.in1 .Lt P bt)(S:ae)(hSf:S∉fp)(hn:0<n){s:ai}{c:Nat}(hst:St 0 s.heap)
  (hS:s.heap.get? S=aa { cls:=.type "list",dict:=ab,data:=.seq #[] c,slots:=#[]})
  (hR:∀v h' tk,P (argBest bt (n-1)) v->(∀b o,b∉wr->b≠S->s.heap.get? b=aa o->h'.get? b=aa o)->R (.ok (.ret v)) { s with heap:=h',toks:=tk}) :
  codeAny (model prog w) A (.builtin "min.loop" ⟨[.ref I,.none,.ref S],kw⟩) R s:=by
 have hSw:S∉wr:=λh=>hSf (W.sub _ h);have hnm:(toString "min" ++ toString ".loop" : String) = "min.loop" :=by decide
 refine codeAny_builtin dS ?_;rw[ef bY _];show aM _ A.in1 (seqItems? (.ref S) >>= _) _ _ s;refine ay (wpAny_seqItems hS rfl ?_);show aM _ A.in1 (tryCatch (pyNext (.ref I)) _ >>= _) _ _ s;refine ay (wpAny_tryCatch (W.item 0 s _ _ hn hst λv h' tk hP hst' hk'=>?_));have hS':=hk' S _ hSw hS;show aM _ A.in1 (updateSeq S (λ_=>#[v,v]) >>= _) _ _ _;refine ay ?_;refine wpAny_updateSeq hS' rfl ?_;rw[hnm];refine a8 ⟨plainId_quiet bY _,mloop W bt hc S hSf _ 0 _ v _ rfl hn (W.frame _ _ _ hst' λb hbf o e=>?_) hP (fg _ hS' rfl) λv' h'' tk'' hP' hk''=>?_⟩
 ·exact(cE _ _ (λh:S=b=>hSf (by rw[h];exact hbf))).trans e
 ·exact hR v' h'' tk'' hP' λb o hbw hbS e=>hk'' b o hbw hbS ((cE _ _ (cP hbS)).trans (hk' b o hbw e))
def mloop0{d:ag}{kn:Str}(W:Walks prog w A.in1 I fp wr n P St)(S:ae)(hSf:S∉fp)(hn:n=0){s:ai}{c:Nat}(hst:St 0 s.heap)
  (hS:s.heap.get? S=aa { cls:=.type "list",dict:=ab,data:=.seq #[] c,slots:=#[]})
  (hR:∀h' tk,(∀b o,b∉wr->b≠S->s.heap.get? b=aa o->h'.get? b=aa o)->R (.ok (.ret d)) { s with heap:=h',toks:=tk}) :
  codeAny (model prog w) A (.builtin "min.loop" ⟨[.ref I,.none,.ref S],[(kn,d)]⟩) R s:=by
 refine codeAny_builtin dS ?_;rw[ef bY _];show aM _ A.in1 (seqItems? (.ref S) >>= _) _ _ s;refine ay (wpAny_seqItems hS rfl ?_);show aM _ A.in1 (tryCatch (pyNext (.ref I)) _ >>= _) _ _ s;refine ay (wpAny_tryCatch (W.done s _ _ (hn ▸ hst) λh' tk hk'=>?_));show aM _ A.in1 (rule _ >>= _) _ _ _;refine ay (wpAny_rule ?_);exact a8 (hR h' tk λb o hbw _ e=>hk' b o hbw e)
end
section
variable {prog:aI}{w:aO}{A:aW}{E:ag->ai->Prop}{s:ai}{l:ae}{xs:Array (Int×Tok)}{d:ag}
def argsMinD(a d:ag):argsOk "min" ⟨[a],[(eJ "default",d)]⟩:=by unfold argsOk;kernel_rfl
def call_minD{Q:ag->ai->Prop}(hh:A.handled=ab)(hl:s.heap.IsList l (intItems xs))
  (h1:∀v h' tk,0<xs.size->(intItems xs)[argBest (λi j=>decide (numAt xs i<numAt xs j)) (xs.size-1)]? =aa v->(∀b o,s.heap.get? b=aa o->h'.get? b=aa o)->Q v { s with heap:=h',toks:=tk})
  (h2:∀h' tk,xs.size=0->(∀b o,s.heap.get? b=aa o->h'.get? b=aa o)->Q d { s with heap:=h',toks:=tk}) :
  aM (model prog w) A (call (.builtin "min") [.ref l] [(eJ "default",d)]) Q E s:=by
 have hnm:(toString "min" ++ toString ".loop" : String) = "min.loop" :=by decide
 refine kmb_tree PySem.F.kind_min PySem.F.plain_min PySem.F.entry_min (argsMinD _ _) ?_;show aM _ A.in1 (fP "min" ["key","default"] 0 ⟨[],[(eJ "default",d)]⟩ >>= _) _ _ s;refine ay (wpAny_of_eq (show fP "min" ["key","default"] 0 ⟨[],[(eJ "default",d)]⟩=pure [ab,aa d]from rfl) ?_);refine ay (a8 ?_);refine ay (iter_intList hl λs₂ e st hfp hlI=>?_);subst e;refine ay (wpAny_newObj_type ?_);rw[hnm];have W:=Walks.list (prog:=prog) (w:=w) (A:=A.in1) hh s.heap.objs.size l hlI (intItems xs);have hsz:(intItems xs).size=xs.size:=by simp[intItems]
 have hSf:(s.heap.push { cls:=.type "list_iterator",data:=.fields #[.ref l,.int 0 0]}).objs.size∉[s.heap.objs.size,l]:=λhm=>cA _ (hfp _ hm);have keep:∀h':aV,(∀b o,b∉[s.heap.objs.size]->b≠(s.heap.push { cls:=.type "list_iterator",data:=.fields #[.ref l,.int 0 0]}).objs.size->((s.heap.push { cls:=.type "list_iterator",data:=.fields #[.ref l,.int 0 0]}).push { cls:=.type "list",data:=.seq ([]:List ag).toArray}).get? b=aa o->h'.get? b=aa o)->∀b o,s.heap.get? b=aa o->h'.get? b=aa o:=λh' hk b o e=>by
  refine hk b o (λhm=>?_) (λhb=>?_) (ax _ (ax _ e))
  ·exact absurd (aN e) (by rw[aK.mp hm];exact cA _)
  ·have h1:=aN e;rw[gW]at hb;exact absurd h1 (by rw[hb];exact jm.mpr (dR _))
 by_cases hx:xs.size=0
 ·refine a8 ⟨plainId_quiet bY _,mloop0 W _ hSf (by rw[hsz];exact hx) (W.frame _ _ _ st λb _ o e=>ax _ e) (aT _ rfl) λh' tk hk=>?_⟩;exact h2 h' tk hx (keep h' hk)
 ·refine a8 ⟨plainId_quiet bY _,mloop1 W _ (CmpOf.ints_lt (numAt xs) (λ_ _=>intItems_at)) _ hSf (by lia) (W.frame _ _ _ st λb _ o e=>ax _ e) (aT _ rfl) λv h' tk hP hk=>?_⟩;exact h1 v h' tk (by lia) (by simpa [intItems] using hP) (keep h' hk)
end
def isI:D->Option Int
 |.int i=>aa i
 | _=>ab
def zf8:List D->Option (List Int)
 |[]=>aa []
 |d::ds=>(isI d).bind λi=>(zf8 ds).map λis=>i::is
def minI:List Int->Option Int
 |[]=>ab
 |i::is=>aa (is.foldl (λa b=>if b<a then b else a) i)
def zhe{F:Hp}{vs:List V}{ds:List D}{ns:List Int}(h:Reps F vs ds)(q:zf8 ds=aa ns):vs=ns.map V.int:=by
 refine h.ind (P:=λvs ds=>∀ns,zf8 ds=aa ns->vs=ns.map V.int) (λns q=>?_) (fun {v d vs ds} r t ih ns q=>?_) ns q
 ·cases q;rfl
 ·simp only[zf8]at q;obtain⟨i,q1,q⟩:=bind_some q;obtain⟨is,q2,q⟩:=map_some q;cases q;cases d <;> cases q1;cases r;rw[ar,ih _ q2]
def zeu:∀{ns:List Int} {us:List ag},Vals (ns.map V.int) us->∃l:List (Int×Tok),us=l.map (λp=>dJ p.1 p.2)/\l.map (·.1)=ns
 |[],us,r=>by
  rw[bu]at r;cases r;exact⟨[],rfl,rfl⟩
 |n::ns,us,r=>by
  rw[ar]at r;cases r with
  |cons h t=>
   obtain⟨tk,e⟩:=h;subst e;obtain⟨l,ex1,ex2⟩:=zeu t;exact⟨(n,tk)::l,by rw[ex1];rfl,by rw[ar,ex2]⟩
def zgn(val:Nat->Int):∀k,val (argBest (λi j=>decide (val i<val j)) k)=((aq k).map λi=>val (i+1)).foldl (λa b=>if b<a then b else a) (val 0)
 |0=>rfl
 |k+1=>by
  rw[cB,bn,i3,<- zgn val k];have e:argBest (λi j=>decide (val i<val j)) (k+1)=if decide (val (k+1)<val (argBest (λi j=>decide (val i<val j)) k))=true then k+1 else argBest (λi j=>decide (val i<val j)) k:=rfl
  rw[e];generalize argBest (λi j=>decide (val i<val j)) k=z;simp only[decide_eq_true_eq,ar,bu,db,List.foldl_nil];split <;> rfl
def minI_best{l:List (Int×Tok)}(hn:0<l.length):minI (l.map (·.1))=aa (numAt l.toArray (argBest (λi j=>decide (numAt l.toArray i<numAt l.toArray j)) (l.length-1))):=by
 cases l with
 |nil=>simp at hn
 |cons p l=>
  rw[zgn (numAt (p::l).toArray)];show aa _=aa _;congr 1;rw[show(p::l).length-1=l.length by simp];have e0:numAt (p::l).toArray 0=p.1:=by simp[numAt]
  have ex1:(aq l.length).map (λi=>numAt (p::l).toArray (i+1))=l.map (·.1):=by
   apply gq
   ·simp
   ·intro i h1 h2;simp at h1;simp[numAt,h1]
  rw[e0,ex1]
section
variable {X:Cx}
def ziC{pins:List (ae×Obj)}{σ:L2.St}{H:Hp}{s:ai}{p:ae}{ns:List Int}(I:Inv X pins σ H s)(h:SqL X.K H p (ns.map V.int)):∃l:List (Int×Tok),s.heap.IsList p (intItems l.toArray)/\l.map (·.1)=ns:=by
 obtain⟨its,r,pl,_⟩:=I.list h;obtain⟨l,ex1,ex2⟩:=zeu r;refine⟨l,?_,ex2⟩;have:=pl.isList;rw[ex1]at this;simpa [intItems] using this
def gMin:List Ent->Option Ent
 |[x]=>(asL x).bind λds=>(zf8 ds).bind λns=>(minI ns).map λm=>.val (.int m)
 | _=>ab
def gMinD:Ent->Ent->Option Ent:=λx y=>(asL x).bind λds=>(zf8 ds).bind λns=>match minI ns with
 |some m=>aa (.val (.int m))
 |none=>match y with
  |.val d=>aa (.val d)
  | _=>ab
def rMinD(K:af):R2:=λx y H Q=>∃(q:ae) (ns:List Int),x=.ref q/\SqL K H q (ns.map V.int)/\Q (match minI ns with|some m=>.int m|none=>y) H
def vminD{a d:Expr}{fa fd:FE}{p pos kpos:Pos}(ha:VE X a fa)(hd:VE X d fd)(hg:Gl X "min")(hm:X.mg "min" =ab)(hb:bO "min" =aa (.builtin "min"))(hc:X.calm=true:=by rfl)(hs:zan a=true:=by rfl) :
  VE X (.Call (.Name "min" p) [a] [⟨aa "default",d,kpos⟩] pos) (ex2 gMinD fa fd):=by
 obtain⟨ta,wa,ma⟩:=ha.h;obtain⟨td,wd,md⟩:=hd.h;refine⟨tOp (rMinD X.K) ta td,⟨?_⟩,.op ?_ ma md⟩
 ·intro pins s σ H Q I h;refine dk (zhQ I hg hm hb ?_ (by decide) (by decide));have hA:=(wac wa wnil hs).h pos pins s σ H (λxs H1=>match xs with|[x]=>td σ H1 λy H2=>rMinD X.K x y H2 Q | _=>False) I h;refine km (thn hA λus s1 h1=>?_) (by rw[zaz hs];rfl) (by rw[zaz hs];rfl);obtain⟨vs,H1,I1,r1,q1⟩:=h1;cases r1 with
  |nil=>exact cg q1
  |cons rx rt=>
   cases rt with
   |cons _ _=>exact cg q1
   |nil=>
    have hK:=pk_cons (nm:=aa (eJ "default")) (kpos:=kpos) wd.h pk_nil pos pins s1 σ H1 (λys H2=>match ys with|[y]=>rMinD X.K _ y H2 Q | _=>False) I1 q1;refine thn hK λws s2 h2=>?_;obtain⟨zs,H2,I2,r2,q2⟩:=h2;cases r2 with
    |nil=>exact cg q2
    |cons ry rt2=>
     cases rt2 with
     |cons _ _=>exact cg q2
     |nil=>
      obtain⟨q,ns,rfl,hq,q2⟩:=q2;cases rx;obtain⟨l,hl,e⟩:=ziC I2 hq;subst e;refine call_minD (I2.ok.hd hc) hl (λv h' tk hn hv kp=>?_) λh' tk hn kp=>?_
      ·obtain⟨t,e⟩:=intItems_at hv;subst e;rw[minI_best (by simpa using hn)]at q2;exact⟨.int _,H2,I2.kept (t':=tk) kp,⟨t,by simp⟩,q2⟩
      ·have e:l=[]:=de (by simpa using hn);subst e;exact⟨_,H2,I2.kept (t':=tk) kp,ry,q2⟩
 ·intro H0 F H x y e e' res Q fh hh rx ry q k;obtain⟨ds,q1,q⟩:=bind_some q;obtain⟨ns,q2,q⟩:=bind_some q;obtain⟨l,ws,el,h1,h2⟩:=RepR.toL rx fh q1;rw[zhe h2 q2]at h1;refine⟨l,ns,el,h1,?_⟩;cases hm:minI ns with
  |some m=>simp only[hm]at q ⊢;cases q;exact k _ F H (Ex.refl fh) (.int _)
  |none=>
   simp only[hm]at q ⊢;cases e' with
   |val d=>cases q;exact k _ F H (Ex.refl fh) ry
   | _=>cases q
end
end L3

namespace L3
open PySem PySem.Spec PyProof.Rows L2
def sgn(z:Str):List Str:=z.cps.toList.map λc=>⟨#[c]⟩
def zcf(l:List Nat):(mkS l).cps.toList=l:=by simp[mkS]
def mkS_cps(z:Str):mkS z.cps.toList=z:=by cases z;simp[mkS]
def zaq(l:List Nat):(mkS l).length=l.length:=by simp[mkS,ik]
def clp(n:Int)(v:Option Int)(d:Int):Int:=match v with
 |none=>d
 |some i=>max 0 (min (if i<0 then i+n else i) n)
def clp_ok(n:Nat)(v:Option Int)(d:Nat):clp n v d=((HT.sIx n d v:Nat):Int):=by
 cases v with
 |none=>rfl
 |some i=>
  show max 0 (min (if i<0 then i+(n:Int)else i) n)=(((if i<0 then (i+(n:Int)).toNat else min i.toNat n:Nat)):Int)
  by_cases h:i<0
  ·rw[if_pos h,if_pos h];lia
  ·rw[if_neg h,if_neg h];lia
def strIx(lo hi:Option Int)(n:Nat):cN lo hi 1 n=cN (aa ((HT.sIx n 0 lo:Nat):Int)) (aa ((HT.sIx n n hi:Nat):Int)) 1 n:=by
 have ex1:∀a:Nat,a<=n->max (0:Int) (min (if (a:Int)<0 then (a:Int)+n else a) n)=a:=λa h=>by
  rw[if_neg (by lia)];lia
 unfold cN;simp only[show((1:Int) > 0)=True from by simp,if_true];rw[ex1 _ (HT.sIx_le n 0 (aL n) lo),ex1 _ (HT.sIx_le n n (ak n) hi)];show sliceRange (clp n lo ((0:Nat):Int)) (clp n hi (n:Int)) 1=_;rw[clp_ok,clp_ok]
def slice_cut(x:Str)(lo hi:Option Int):jB x lo hi=mkS (zbJ x.cps.toList lo hi):=by
 have hl:x.cps.toList.length=x.length:=by simp[ik]
 unfold jB zbJ;rw[strIx,hl];have h1:=HT.sIx_le x.length 0 (aL _) lo;have h2:=HT.sIx_le x.length x.length (ak _) hi;generalize HT.sIx x.length 0 lo=a at h1;generalize HT.sIx x.length x.length hi=b at h2;by_cases hab:a<=b
 ·rw[fJ hab h2];split
  ·rename_i h;have hz:b-a=x.length:=by simpa using h
   have ha:a=0:=by lia
   subst ha;rw[g7,hz,<- hl,eV,mkS_cps]
  ·rw[<- fJ hab h2,StrLaws.sliced_plain x hab h2];rfl
 ·have e:cN (aa (a:Int)) (aa (b:Int)) 1 x.length=[]:=by
   have n1:¬ ((a:Int)<0):=by lia
   have n2:¬ ((b:Int)<0):=by lia
   have ex1:max (0:Int) (min (a:Int) (x.length:Int))=a:=by lia
   have ex2:max (0:Int) (min (b:Int) (x.length:Int))=b:=by lia
   simp only[cN,n1,n2,if_false,ex1,ex2,show((1:Int) > 0)=True from by simp,if_true,sliceRange];rw[if_neg (by lia)];simp
  rw[e];split
  ·rename_i h;have hz:0=x.length:=by simpa using h
   lia
  ·rw[show b-a=0 by lia,jv];rfl
section
variable {X:Cx}
def sl_str:SlR X (λx lo hi H Q=>∃z,x=.str z/\z.length<=bj/\Q (.str (mkS (zbJ z.cps.toList lo hi))) H):=by
 intro pins s σ H x v vl vu lo hi sl Q I rx hs pl pu h;obtain⟨z,rfl,hz,q⟩:=h;obtain⟨t,rfl⟩:=rx;obtain⟨o,ho,hc,hd⟩:=hs;refine⟨"str",_,PySem.F.slot_str_getitem.lookup,typeIs_str _ _ _,?_⟩;have fin:∀t' k,EP X pins σ Q (.str (jB z lo hi) t') { s with toks:=k}:=λt' k=>⟨.str _,H,I.tok k,⟨t',rfl⟩,by rw[slice_cut];exact q⟩
 cases pl with
 |none=>
  cases pu with
  |none=>exact wpAny_getItem_str_slice (l:=ab) (u:=ab) (st:=ab) ⟨o,ho,hc,hd⟩ rfl (post_val_or_str ⟨aH (gr z _ _) hz,fin⟩)
  |int j u=>exact wpAny_getItem_str_slice (l:=ab) (u:=aa (j,u)) (st:=ab) ⟨o,ho,hc,hd⟩ rfl (post_val_or_str ⟨aH (gr z _ _) hz,fin⟩)
 |int i u=>
  cases pu with
  |none=>exact wpAny_getItem_str_slice (l:=aa (i,u)) (u:=ab) (st:=ab) ⟨o,ho,hc,hd⟩ rfl (post_val_or_str ⟨aH (gr z _ _) hz,fin⟩)
  |int j u'=>exact wpAny_getItem_str_slice (l:=aa (i,u)) (u:=aa (j,u')) (st:=ab) ⟨o,ho,hc,hd⟩ rfl (post_val_or_str ⟨aH (gr z _ _) hz,fin⟩)
noncomputable def zcV:Ent->Option Int->Option Int->Option Ent:=λx lo hi=>(sOf x).bind λz=>gif (sz z.length) (aa (.val (.str (mkS (zbJ z.cps.toList lo hi)))))
def zdH:SlD X zcV:=⟨_,sl_str,λH0 F H x lo hi e res Q fh hh rx q k=>by
 obtain⟨z,q1,q⟩:=bind_some q;obtain⟨hl,qz⟩:=za7 q;cases qz;cases zbc q1;exact⟨z,zbQ rx,zeS hl,k _ F H (Ex.refl fh) (.str _)⟩⟩
def zgs{z:Str}:∀{acc:List ag} {k:Nat},(∀j v,acc[j]? =aa v->SignAt z (k+j) v)->Vals (((z.cps.toList.drop k).take acc.length).map λc=>V.str ⟨#[c]⟩) acc
 |[],k,_=>by simp;exact .nil
 |v::r,k,h=>by
  obtain⟨c,u,hc,rfl⟩:=h 0 v rfl;have hk:k<z.cps.toList.length:=by
   have:=(fY.mp hc).1;simpa using this
  rw[bR hk,au,List.take_succ_cons,ar];have e:z.cps.toList[k]=c:=by
   have:=fY.mp hc;simpa using this.2
  rw[e];refine .cons ⟨u,rfl⟩ (zgs (k:=k+1) λj v hv=>?_);have:=h (j+1) v (by simpa using hv);rwa [show k+(j+1)=k+1+j by lia]at this
def vals_all{z:Str}{acc:Array ag}(h:ItemsOf (SignAt z) acc z.cps.size):Vals ((sgn z).map V.str) acc.toList:=by
 obtain⟨h1,h2⟩:=h;have:=zgs (z:=z) (acc:=acc.toList) (k:=0) (λj v e=>by rw[bi];exact h2 j v (by simpa using e));rw[g7,show acc.toList.length=z.cps.toList.length by simpa using h1,eV]at this;unfold sgn;rw[b9];exact this
def call_tupS(hc:X.calm=true):zd7 X (.type "tuple") (λxs H Q=>∃z,xs=[.str z]/\z.length<=1000000/\∀p,H p=ab->Q (.ref p) (upd H p (.tup ((sgn z).map V.str)))):=by
 intro pins s σ H xs us Q I r h;obtain⟨z,rfl,hz,q⟩:=h;obtain⟨u,rfl,t,rfl⟩:=zfD r;refine call_tuple_str (I.ok.hd hc) z t (λh' tk acc kp ha=>?_) (zeS hz);have I1:=I.kept (t':=tk) kp;refine⟨.ref h'.objs.size,_,I1.laid (t':=tk) (o:=.tup ((sgn z).map V.str)) (λb o e=>ax _ e) (ak _) ⟨?_,acc.toList,vals_all ha,⟨_,aT _ rfl,rfl,0,by simp⟩⟩,rfl,q _ (I1.hok.fresh (ak _))⟩;rw[al];unfold sgn;rw[al];exact zeS hz
def zhV{F:Hp}:∀(zs:List Str),Reps F (zs.map V.str) (zs.map D.str)
 |[]=>.nil
 |z::zs=>.cons (.str z) (zhV zs)
noncomputable def zkn:List Ent->Option Ent
 |[x]=>(sOf x).bind λz=>gif (sz z.length) (aa (.val (.tup ((sgn z).map .str))))
 | _=>ab
noncomputable def gListS:List Ent->Option Ent
 |[x]=>(sOf x).bind λz=>gif (sz z.length) (aa (.own ((sgn z).map .str)))
 | _=>ab
def c_tupS(hc:X.calm=true:=by rfl):zeQ X (.type "tuple") zkn:=⟨_,call_tupS hc,λH0 F H vs es res Q fh hh r q k=>by
 obtain⟨x,rfl⟩:=zfO rfl (λ_ _ _=>rfl) q;obtain⟨v,rfl,rz⟩:=zdq r;obtain⟨z,q1,q⟩:=bind_some q;obtain⟨hl,qz⟩:=za7 q;cases qz;cases zbc q1;cases zbQ rz;exact⟨z,rfl,hl,λp hp=>k _ _ _ (Ex.alloc fh hp) (.tup zaj (zhV _))⟩⟩
end
def eBM(g:Ent->List Ent->Option Ent)(fo:FE)(fs:FA):FE:=λδ=>(fo δ).bind λx=>(fs δ).bind λes=>g x es
structure MtD(X:Cx)(T:String)(name:Str)(g:Ent->List Ent->Option Ent):Prop where
 h:∃id r,PlainAttrs T/\Slot T name id/\typeOf (.builtin id)=pure (.type "method_descriptor")/\MtR X id r /\
  (∀(H0 F H:Hp) (x:V) (e:Ent) (es:List Ent) (res:Ent),Same F H->RepR X.K H0 F H x e->g e es=aa res->tyV X.K T x H) /\
  ∀(H0 F H:Hp) (x:V) (vs:List V) (e:Ent) (es:List Ent) (res:Ent) (Q:VK),Same F H->Same H0 H->RepR X.K H0 F H x e->RepRs X.K H0 F H vs es->g e es=aa res->(∀v F' H',Ex F H F' H'->RepR X.K H0 F' H' v res->Q v H')->r x vs H Q
section
variable {X:Cx}{T:String}{name:Str}{g:Ent->List Ent->Option Ent}{o e:Expr}{es:List Expr}{fo:FE}{fs:FA}{apos cpos:Pos}
def vbm(M:MtD X T name g)(ho:VE X o fo)(ha:VA X (e::es) fs)(hbase:bT o name X.env (eval o X.env)=eval o X.env:=by rfl)(hl:decide ((e::es).length+0+0<30)=true:=by rfl)(hline:(apos.endLine==cpos.line)=true:=by rfl)
  (h1:zan e=true:=by rfl) (h2:es.all zan=true:=by rfl):VE X (.Call (.Attribute o name apos) (e::es) [] cpos) (eBM g fo fs):=by
 obtain⟨t,wo,mo⟩:=ho.h;obtain⟨ta,wa,ma⟩:=ha.h;obtain⟨id,r,pa,sl,ht,hm,hty,hsem⟩:=M.h;refine⟨_,wbm pa sl ht hm wo wa hbase hl hline h1 h2,λB F H σ δ res Q s q k=>?_⟩;obtain⟨x,q1,q⟩:=bind_some q;obtain⟨rs,q2,q⟩:=bind_some q;refine mo B F H σ δ x _ s q1 λv F1 H1 x1 r1=>⟨hty H F1 H1 v x rs res x1.fh r1 q,?_⟩
 refine ma B F1 H1 σ δ rs _ (s.ext x1) q2 λvs F2 H2 x2 r2=>?_;exact hsem H F2 H2 v vs x rs res Q x2.fh (x1.trans x2).hh (r1.ext x2) (r2.earlier x1.hh) q λv' F' H' x3 r3=>k v' F' H' ((x1.trans x2).trans x3) r3
end
def isS:D->Option Str
 |.str i=>aa i
 | _=>ab
def zg7:List D->Option (List Str)
 |[]=>aa []
 |d::ds=>(isS d).bind λi=>(zg7 ds).map λis=>i::is
def strsD_ok{F:Hp}{vs:List V}{ds:List D}{ns:List Str}(h:Reps F vs ds)(q:zg7 ds=aa ns):vs=ns.map V.str:=by
 refine h.ind (P:=λvs ds=>∀ns,zg7 ds=aa ns->vs=ns.map V.str) (λns q=>?_) (fun {v d vs ds} r t ih ns q=>?_) ns q
 ·cases q;rfl
 ·simp only[zg7]at q;obtain⟨i,q1,q⟩:=bind_some q;obtain⟨is,q2,q⟩:=map_some q;cases q;cases d <;> cases q1;cases r;rw[ar,ih _ q2]
def zeE:∀{ns:List Str} {us:List ag},Vals (ns.map V.str) us->StrsAre us ns
 |[],us,r=>by rw[bu]at r;cases r;exact .nil
 |n::ns,us,r=>by
  rw[ar]at r;cases r with
  |cons h t=>
   obtain⟨tk,e⟩:=h;subst e;exact .cons n tk (zeE t)
section
variable {X:Cx}
def mt_join:MtR X "str.join" (λx xs H Q=>∃(z:Str) (p:ae) (zs:List Str),x=.str z/\xs=[.ref p]/\SqL X.K H p (zs.map V.str)/\(zs.map (·.length)).sum+zs.length*z.length<=16777216/\Q (.str (iq z zs)) H):=by
 intro pins s σ H x xs v us Q I rx r h;obtain⟨z,p,zs,rfl,rfl,hq,hl,q⟩:=h;obtain⟨t,rfl⟩:=rx;obtain⟨u,rfl,ru⟩:=zfD r;cases ru;obtain⟨its,r',pl,_⟩:=I.list hq;exact join_list pl.isList (by simpa using zeE r') hl λt' k=>⟨.str _,H,I.tok k,⟨t',rfl⟩,q⟩
noncomputable def ziW:Ent->List Ent->Option Ent
 |x,[y]=>(sOf x).bind λz=>(asL y).bind λds=>(zg7 ds).bind λzs=>gif (sz ((zs.map (·.length)).sum+zs.length*z.length)) (aa (.val (.str (iq z zs))))
 | _,_=>ab
def m_join:MtD X "str" "join" ziW:=by
 refine⟨_,_,PySem.F.plainAttrs_str,PySem.F.slot_str_join,PySem.F.type_str_join,mt_join,?_,?_⟩
 ·intro H0 F H x e es res fh r q;unfold ziW at q;split at q
  ·obtain⟨z,q1,q⟩:=bind_some q;cases zbc q1;cases zbQ r;rfl
  ·cases q
 ·intro H0 F H x vs e es res Q fh hh r rs q k;unfold ziW at q;split at q
  ·obtain⟨z,q1,q⟩:=bind_some q;obtain⟨ds,q2,q⟩:=bind_some q;obtain⟨zs,q3,q⟩:=bind_some q;obtain⟨hl,qz⟩:=za7 q;cases qz;cases zbc q1;cases zbQ r;obtain⟨w',rfl,rz⟩:=zdq rs;obtain⟨l,ws,e',h1,h2⟩:=RepR.toL rz fh q2;subst e';rw[strsD_ok h2 q3]at h1;exact⟨z,l,zs,rfl,rfl,h1,by unfold sz at hl;lia,k _ F H (Ex.refl fh) (.str _)⟩
  ·cases q
end
end L3

namespace L3
open PySem PySem.Spec PyProof.Rows L2
def lenS{α:Type}{us:List α}{n:Nat}(h:us.length=n+1):∃a t,us=a::t/\t.length=n:=by
 cases us with
 |nil=>cases h
 |cons a t=>exact⟨a,t,rfl,ko h⟩
def len1{α:Type}{us:List α}(h:us.length=1):∃a0,us=[a0]:=by
 obtain⟨a,t,rfl,h2⟩:=lenS h;cases de h2;exact⟨a,rfl⟩
def len2{α:Type}{us:List α}(h:us.length=2):∃a0 a1,us=[a0,a1]:=by
 obtain⟨a0,t,rfl,h2⟩:=lenS h;obtain⟨a1,rfl⟩:=len1 h2;exact⟨a0,a1,rfl⟩
def len3{α:Type}{us:List α}(h:us.length=3):∃a0 a1 a2,us=[a0,a1,a2]:=by
 obtain⟨a0,t,rfl,h2⟩:=lenS h;obtain⟨a1,a2,rfl⟩:=len2 h2;exact⟨a0,a1,a2,rfl⟩
def len4{α:Type}{us:List α}(h:us.length=4):∃a0 a1 a2 a3,us=[a0,a1,a2,a3]:=by
 obtain⟨a0,t,rfl,h2⟩:=lenS h;obtain⟨a1,a2,a3,rfl⟩:=len3 h2;exact⟨a0,a1,a2,a3,rfl⟩
def len5{α:Type}{us:List α}(h:us.length=5):∃a0 a1 a2 a3 a4,us=[a0,a1,a2,a3,a4]:=by
 obtain⟨a0,t,rfl,h2⟩:=lenS h;obtain⟨a1,a2,a3,a4,rfl⟩:=len4 h2;exact⟨a0,a1,a2,a3,a4,rfl⟩
inductive FunE(K:af)(x qual:Str)(st:Stmt)(f:ae)(fd:bx):Prop
 |mk (oc:ag) (od:Option ae) (dV kV doc pm:ag) (an:Option ae) (cdv ct:ag) (osl:Array (Option ag)):fd=bP x qual (zbx st) (zbe st) (zae st) dV kV doc pm an cdv ct->K.lookup f=aa ⟨oc,od,.func fd,osl⟩->b8 K cdv qual=true->FunE K x qual st f fd
structure FunA(K:af)(x qual:Str)(st:Stmt)(f:ae)(fd:bx):Prop where
 ex:FunE K x qual st f fd
 kp:bA K (.ref f)=true
def FunA.of{K:af}{x qual:Str}{st:Stmt}{f:ae}{fd:bx}(F:Fun K x qual st f fd):FunA K x qual st f fd:=by
 obtain⟨oc,od,kV,doc,pm,an,cdv,ct,osl,e,l,c⟩:=F.ex;exact⟨⟨oc,od,.none,kV,doc,pm,an,cdv,ct,osl,e,l,c⟩,F.kp⟩
section
variable {P:aI}{w:aO}{K:af}{mg:Str->Option ag}{base:aV}{x qual:Str}{st:Stmt}{f:ae}{fd:bx}{N ps:List Str}{k:Nat}{ks:List Kd}{g:List D->Option Ent}
def zaQ(F:FunA K x qual st f fd)(S:FnScope N ps (zae st))(fb:FS)(hk:ks.length=ps.length)(hg:∀ds r,g ds=aa r->zcr ks (N.length-ps.length) fb ds=aa r)
  (hbody:∀(cdv:ag) (A:aW) (outer:List Env) (s:ai) (H:Hp) (E:XK),Room k (A.deeper (envOfC qual (zae st) s.heap.objs.size f cdv))->VSs (cxOf CX0 P w K mg base N qual (zae st) f cdv A outer s H E).nox (zbe st) fb) :
  FnOk P w K mg base CX0 (k+1) f fd ps (spD K ks g):=by
 obtain⟨oc,od,dV,kV,doc,pm,an,cdv,ct,osl,rfl,lk,hcd⟩:=F.ex;refine fn_of lk hcd S (λvs H Q E h=>?_) λA outer s H vs Q E hr h=>?_
 ·obtain⟨F,ds,r,_,a,_⟩:=h;rw[a.length,hk]
 ·obtain⟨F,ds,r,fh,a,q,kk⟩:=h;obtain⟨t,wt,m⟩:=(hbody cdv A outer s H E hr).h;refine⟨t,wt.h.nox,?_⟩;obtain⟨es,q1,q2⟩:=bind_some (hg ds r q);obtain⟨out,q3,q4⟩:=bind_some q2;obtain⟨hl,he⟩:=a.start q1;have hvs:=a.length;have hap:∀(i:Nat) (e:Ent),(es++aG (N.length-ps.length) ab)[i]? =aa (aa e)->es[i]? =aa (aa e):=λi e h=>by
   by_cases hi:i<es.length
   ·rwa [bg hi]at h
   ·rw[bL (by lia),dg]at h;split at h <;> cases h
  have s0:RS K ⟨H,ab⟩ F H (L2.start N vs) (es++aG (N.length-ps.length) ab):=by
   refine⟨fh,Same.refl H,?_,λi e h=>?_,λa b l ds e hab h1=>?_,λa b e1 e2 v1 v2 ad hab q1 _ _ _ q5 _ _=>?_,λw o hw _=>by cases hw⟩
   ·unfold L2.start;simp only[am,al,cH];lia
   ·obtain⟨⟨v,h1,h2⟩,_⟩:=he i e (hap i e h);refine⟨v,?_,h2⟩;unfold L2.start;rw[bg (by rw[al];exact(bo.mp h1).1),aA,h1];rfl
   ·have:=(he a _ (hap a _ h1)).2.1;cases this
   ·obtain⟨_,_,ho⟩:=he a _ (hap a _ q1);rw[ho]at q5;cases q5
  refine m ⟨H,ab⟩ F H (L2.start N vs) _ out _ s0 q3 ?_;cases out with
  |nx δ'=>cases q4;exact λσ' F' H' s' y=>kk .non F' H' ⟨y.ff,s'.fh,s'.bh,y.nw⟩ .non
  |rt r' δ'=>cases q4;exact λv σ' F' H' s' y z=>kk v F' H' ⟨y.ff,s'.fh,s'.bh,y.nw⟩ z
  |bk δ'=>cases q4
  |ct δ'=>cases q4
end
def gK{α:Type}(n:Nat)(us ws:List α):List α:=if us.length=n/\ws.length=1 then us++ws else []
def gK_shape{α:Type}{n m:Nat}{us ws:List α}(h:(gK n us ws).length=m+1):us.length=n/\ws.length=1/\gK n us ws=us++ws:=by
 unfold gK at h ⊢;split at h
 ·rename_i hc;rw[if_pos hc];exact⟨hc.1,hc.2,rfl⟩
 ·cases h
def gK_rel{n:Nat}{vs:List V}{us:List ag}{zs:List V}{ws:List ag}(r:Vals vs us)(rz:Vals zs ws):Vals (gK n vs zs) (gK n us ws):=by
 unfold gK;rw[r.length,rz.length];split
 ·exact r.append rz
 ·exact .nil
structure DefD(K:af)(mg:Str->Option ag)(x:Str)(st:Stmt)(ps:List Str)(f:ae)(fd:bx):Prop where
 fn:FunA K x x st f fd
 mg:mg x=aa (.ref f)
 b:Binds K fd ps []
 b1:Binds K fd ps [.bool false]
 kb:KBinds K fd ps [ps.getLastD ""] (gK (ps.length-1)) (gK (ps.length-1))
def DfOk(K:af)(df:ag):Prop:=∃(T:ae) (o:Obj) (n:Nat),df=.ref T/\K.lookup T=aa o/\o.data=.seq #[.bool false] n
section
variable {X:Cx}{es:List Expr}{e d:Expr}{fs:FA}{fk:FE}{x:Str}{p pos kpos:Pos}{ks:List Kd}{g:List D->Option Ent}
def zio(ks:List Kd)(g:List D->Option Ent)(fs:FA)(d:D):FE:=λδ=>((fs δ).bind λrs=>zat ks (rs++[.val d])).bind g
def eCallK(n:Nat)(ks:List Kd)(g:List D->Option Ent)(fs:FA)(fk:FE):FE:=λδ=>((fs δ).bind λrs=>(fk δ).bind λr=>if rs.length=n then zat ks (rs++[r])else ab).bind g
def RepRs.snoc{K:af}{H0 F H:Hp}{v:V}{e:Ent}(r:RepR K H0 F H v e):∀{vs:List V} {es:List Ent},RepRs K H0 F H vs es->RepRs K H0 F H (vs++[v]) (es++[e])
 | _,_,.nil=>.cons r .nil
 | _,_,.cons h t=>.cons h (RepRs.snoc r t)
def vclF{CX:CXT}{k j:Nat}{f:ae}{fd:bx}{ps:List Str}{st:Stmt}{E:XK}(F:FnOk X.prog X.w X.K X.mg X.base CX k f fd ps (spD X.K ks g))(D:DefD X.K X.mg x st ps f fd)(hr:Room j X.A)(hg:Gl X x)(hx:zcm CX X E)
  (ha:VA X (e::es) fs) (hjk:k<=j:=by decide) (hdb:(x==("__debug__" : Str))=false:=by decide) (h1:zan e=true:=by rfl) (h2:es.all zan=true:=by rfl) :
  VE X (.Call (.Name x p) (e::es) [] pos) (zag ks g fs):=let⟨_,w,m⟩:=ha.h;⟨_,⟨ziR F (hr.mono hjk) hg D.mg D.fn.kp D.b .nil hx w.h hdb (zaz h1) (zcx h2)⟩,.call m rfl⟩
def vclD{CX:CXT}{k j:Nat}{f:ae}{fd:bx}{ps:List Str}{st:Stmt}{E:XK}(F:FnOk X.prog X.w X.K X.mg X.base CX k f fd ps (spD X.K ks g))(D:DefD X.K X.mg x st ps f fd)(hr:Room j X.A)(hg:Gl X x)(hx:zcm CX X E)
  (ha:VA X (e::es) fs) (hjk:k<=j:=by decide) (hdb:(x==("__debug__" : Str))=false:=by decide) (h1:zan e=true:=by rfl) (h2:es.all zan=true:=by rfl) :
  VE X (.Call (.Name x p) (e::es) [] pos) (zio ks g fs (.bl false)):=by
 obtain⟨t,w,m⟩:=ha.h;refine⟨_,⟨ziR F (hr.mono hjk) hg D.mg D.fn.kp D.b1 (dvs:=[.bl false]) (.cons rfl .nil) hx w.h hdb (zaz h1) (zcx h2)⟩,λB F H σ δ res Q s q k=>?_⟩;obtain⟨ds,q1,q⟩:=bind_some q;obtain⟨rs,q2,q3⟩:=bind_some q1;refine m B F H σ δ rs _ s q2 λvs F1 H1 x1 r1=>?_;have r2:=RepRs.snoc (K:=X.K) (H0:=H) (F:=F1) (H:=H1) (v:=.bl false) (e:=.val (.bl false)) (.bl false) r1;obtain⟨F2,x2,_,a2⟩:=RepRs.args x1 (Same.refl _) r2 q3;exact⟨F2,ds,res,x2.fh,a2,q,λv F' H' x3 r3=>k v F' H' (x2.trans x3) (r3.earlier x2.hh)⟩
end
end L3

namespace L3
open PySem L2
def zbD{f g:FS}{δ δ':En}(h:f δ=aa (.nx δ')):zar f g δ=g δ':=by
 unfold zar;rw[h];rfl
def fIfT{ft:FT}{f g:FS}{δ:En}(h:ft δ=aa true):fIf ft f g δ=f δ:=by unfold fIf;rw[h];rfl
def fIfF{ft:FT}{f g:FS}{δ:En}(h:ft δ=aa false):fIf ft f g δ=g δ:=by unfold fIf;rw[h];rfl
def zby{tg:FG}{f:FS}{d:D}{ds:List D}{δ δ1 δ2:En}(h1:tg d δ=aa δ1)(h2:f δ1=aa (.nx δ2)):loop tg f (d::ds) δ=loop tg f ds δ2:=by
 show((tg d δ).bind λδ1=>(f δ1).bind (lpO (loop tg f ds)))=_;rw[h1];show(f δ1).bind (lpO (loop tg f ds))=_;rw[h2];rfl
def zc3(I:Nat->En->Prop){tg:FG}{f:FS}:∀(ds:List D) (k:Nat) (δ:En),
  (∀i d δ,ds[i]? =aa d->I (k+i) δ->∃δ1 δ2,tg d δ=aa δ1/\(f δ1=aa (.nx δ2)\/f δ1=aa (.ct δ2))/\I (k+i+1) δ2)->I k δ ->
  ∃δ',loop tg f ds δ=aa (.nx δ')/\I (k+ds.length) δ'
 |[],k,δ,_,h0=>⟨δ,rfl,h0⟩
 |d::ds,k,δ,h,h0=>by
  obtain⟨δ1,δ2,h1,h2,h3⟩:=h 0 d δ rfl h0;obtain⟨s',h4,h5⟩:=zc3 I ds (k+1) δ2 (λi d' s hd hi=>by
   have:=h (i+1) d' s (by simpa using hd) (by rw[show k+(i+1)=k+1+i by lia];exact hi);rwa [show k+(i+1)=k+1+i by lia]at this) h3
  refine⟨s',?_,by rw[au,show k+(ds.length+1)=k+1+ds.length by lia];exact h5⟩;show((tg d δ).bind λδ1=>(f δ1).bind (lpO (loop tg f ds)))=_;rw[h1];show(f δ1).bind (lpO (loop tg f ds))=_;rcases h2 with h2|h2
  ·rw[h2];exact h4
  ·rw[h2];exact h4
def zhJ{ft:D->Option Bool}{fe:D->Option Ent}(ds out:List D)(hl:out.length=ds.length)(h1:∀d∈ds,ft d=aa true)(h2:∀(i:Nat) (d:D),ds[i]? =aa d->∃y,(fe d).bind asV=aa y/\out[i]? =aa y):zb1 ft fe ds=aa out:=by
 induction ds generalizing out with
 |nil=>cases out with
  |nil=>rfl
  |cons _ _=>simp at hl
 |cons d ds ih=>
  cases out with
  |nil=>simp at hl
  |cons y out=>
   obtain⟨y',ex1,ex2⟩:=h2 0 d rfl;cases ex2;simp only[zb1];rw[h1 d aj,ex1,ih out (by simpa using hl) (λx hx=>h1 x (ah _ hx)) λi x hx=>by simpa using h2 (i+1) x (by simpa using hx)];rfl
def zdO{fr:List Nat}{fi:FI}{ft:FT}{fe:FE}{δ:En}{ds out:List D}(hi:fi δ=aa ds)(hc:zb1 (λd=>ft (cEn fr δ d)) (λd=>fe (cEn fr δ d)) ds=aa out)(hl:out.length<=1000000):eLC fr fi ft fe δ=aa (.own out):=by
 unfold eLC;rw[hi];show(zb1 _ _ ds).bind _=_;rw[hc];show(if out.length<=1000000 then aa (Ent.own out)else ab)=_;rw[if_pos hl]
def ixN_nat{n i:Nat}(h:i<n):ixN n (i:Int)=aa i:=by
 unfold ixN;rw[if_pos (by lia),if_pos (by lia)];simp
def atI_of{α:Type}{xs:List α}{i:Nat}{x:α}(h:xs[i]? =aa x):atI xs (i:Int)=aa x:=by
 unfold atI;rw[ixN_nat (bo.mp h).1];exact h
def zdT{α:Type}{xs:List α}{i:Int}{x:α}(h0:0<=i)(h:xs[i.toNat]? =aa x):atI xs i=aa x:=by
 obtain⟨n,rfl⟩:=bp h0;exact atI_of (by simpa using h)
def ziV{α β:Type}(f:α->β)(d:α){xs:List α}{i:Int}(h0:0<=i)(h:i.toNat<xs.length):atI (xs.map f) i=aa (f (xs.getD i.toNat d)):=by
 refine zdT h0 ?_;rw[aA,aC h];simp[h]
def zjJ{α:Type}{xs:List α}{x:α}(h:xs.getLast? =aa x):atI xs (-1)=aa x:=by
 have hne:xs≠[]:=by rintro rfl;simp at h
 have hl:0<xs.length:=List.length_pos_iff.mpr hne;unfold atI ixN;rw[if_neg (by lia),if_pos (by lia)];show xs[(-1+(xs.length:Int)).toNat]? =_;rw[show(-1+(xs.length:Int)).toNat=xs.length-1 by lia,<- gd];exact h
def zgS{α:Type}(xs:List α)(j:Nat):zbJ xs ab (aa (j:Int))=xs.take j:=by
 unfold zbJ;rw[HT.sIx_none,HT.sIx_nat,g7,iR];by_cases h:j<=xs.length
 ·rw[dL h]
 ·rw[gu (by lia),eV,cR (by lia)]
def zfZ{α:Type}(xs:List α)(j:Nat):zbJ xs (aa (j:Int)) ab=xs.drop j:=by
 unfold zbJ;rw[HT.sIx_none,HT.sIx_nat];by_cases h:j<=xs.length
 ·rw[dL h,cR (by rw[bS];lia)]
 ·rw[gu (by lia),eU,eS (by lia)];simp
def zja{α:Type}(xs:List α){j:Int}(h:0<=j):zbJ xs ab (aa j)=xs.take j.toNat:=by
 obtain⟨n,rfl⟩:=bp h;rw[zgS];simp
def zgm{α:Type}(xs:List α){j:Int}(h:0<=j):zbJ xs (aa j) ab=xs.drop j.toNat:=by
 obtain⟨n,rfl⟩:=bp h;rw[zfZ];simp
def zg2{α:Type}(xs:List α)(lo hi:Option Int):(zbJ xs lo hi).length<=xs.length:=by
 unfold zbJ;rw[bw,bS];lia
def zdN(a b:List Nat):mkS a++mkS b=mkS (a++b):=by
 show(⟨a.toArray++b.toArray⟩:Str)=⟨(a++b).toArray⟩
 simp
def mkS_inj{a b:List Nat}(h:mkS a=mkS b):a=b:=by
 have:=congrArg (λz:Str=>z.cps.toList) h;simpa [mkS] using this
def sgn_mkS(l:List Nat):sgn (mkS l)=l.map λc=>mkS [c]:=by simp[sgn,mkS]
def strsD_map(zs:List Str):zg7 (zs.map .str)=aa zs:=by
 induction zs with
 |nil=>rfl
 |cons z zs ih=>simp[zg7,isS,ih]
def zhK(zs:List Int):zf8 (zs.map .int)=aa zs:=by
 induction zs with
 |nil=>rfl
 |cons z zs ih=>simp[zf8,isI,ih]
def join_mkS(ls:List (List Nat)):iq (mkS []) (ls.map mkS)=mkS ls.flatten:=by
 have e:∀zs:List Str,iq (mkS []) zs=kq (mkS []) zs:=λzs=>StrLaws.glued_eq_join (mkS []) zs;rw[e]
 induction ls with
 |nil=>rfl
 |cons a r ih=>
  cases r with
  |nil=>simp[kq]
  |cons b r=>
   rw[ar]at ih ⊢;show mkS a++mkS []++kq (mkS []) (mkS b::r.map mkS)=_;rw[ih,zdN,zdN];simp
def zjT(w:List Nat):iq (mkS []) (w.map λc=>mkS [c])=mkS w:=by
 have:=join_mkS (w.map λc=>[c]);rw[b9]at this;rw[show(w.map λc=>mkS [c])=w.map (mkS ∘ λc=>[c])from rfl,this];congr 1;clear this
 induction w with
 |nil=>rfl
 |cons c w ih=>simp[ih]
end L3

namespace L3
open PySem PySem.Spec PyProof.Rows L2
def flD:D->Bool
 |.non=>true
 |.bl _=>true
 |.int _=>true
 |.str _=>true
 | _=>false
def eqF:D->D->Bool
 |.non,.non=>true
 |.bl a,.bl b=>a==b
 |.bl a,.int b=>(if a then 1 else 0)==b
 |.int a,.bl b=>a==(if b then 1 else 0)
 |.int a,.int b=>a==b
 |.str a,.str b=>a==b
 | _,_=>false
def zis(f:D->D->Option Bool):List D->List D->Option Bool
 |[],[]=>aa true
 |d::ds,e::es=>(f d e).bind λb=>(zis f ds es).map λc=>b&&c
 | _,_=>aa false
def eqD:Nat->D->D->Option Bool
 |n+1,.tup a,.tup b=>zis (eqD n) a b
 |n+1,.lst a,.lst b=>zis (eqD n) a b
 | _,d,d'=>if (flD d&&flD d')=true then aa (eqF d d')else ab
def ziS{F:Hp}{x y:V}{d d':D}(rx:Rep F x d)(ry:Rep F y d')(h:(flD d&&flD d')=true):flatV x=true/\flatV y=true/\eqV x y=eqF d d':=by
 rw[d9]at h;obtain⟨h1,h2⟩:=h;cases rx <;> first|(cases h1;done)|(cases ry <;> first|(cases h2;done)|exact⟨rfl,rfl,rfl⟩)
def zfu{f:D->D->Option Bool}:∀{ds es:List D} {b:Bool},zis f ds es=aa b->∀j (h1:j<ds.length) (h2:j<es.length),∃c,f ds[j] es[j]=aa c
 |[],_,_,_,j,h1,_=>by simp at h1
 | _::_,[],_,_,j,_,h2=>by simp at h2
 |d::ds,e::es,b,q,j,h1,h2=>by
  simp only[zis]at q;obtain⟨c,q1,q⟩:=bind_some q;obtain⟨c',q2,q⟩:=map_some q;cases j with
  |zero=>exact⟨c,q1⟩
  |succ j=>
   simp only[au]at h1 h2;exact zfu q2 j (by lia) (by lia)
def eAt(f:D->D->Option Bool)(ds es:List D)(j:Nat):Bool:=(f (ds.getD j .non) (es.getD j .non)).getD false
def zfw{f:D->D->Option Bool}:∀{ds es:List D} {b:Bool},zis f ds es=aa b->b=((aq (min ds.length es.length)).all (eAt f ds es)&&ds.length==es.length)
 |[],[],b,q=>by cases q;rfl
 |[],_::_,b,q=>by cases q;simp
 | _::_,[],b,q=>by cases q;simp
 |d::ds,e::es,b,q=>by
  simp only[zis]at q;obtain⟨c,q1,q⟩:=bind_some q;obtain⟨c',q2,q⟩:=map_some q;subst q;have ih:=zfw q2;have e1:min (d::ds).length (e::es).length=min ds.length es.length+1:=by simp only[au];lia
  have e2:((d::ds).length==(e::es).length)=(ds.length==es.length):=by simp
  have e3:eAt f (d::ds) (e::es) 0=c:=by unfold eAt;simp[q1]
  have e4:(eAt f (d::ds) (e::es)) ∘ Nat.succ=eAt f ds es:=by funext j;unfold eAt;simp
  rw[e1,e2,List.range_succ_eq_map,fW,List.all_map,e3,e4,ih,Bool.and_assoc]
def Reps.getE{F:Hp}{vs:List V}{ds:List D}(h:Reps F vs ds)(j:Nat)(h1:j<vs.length)(h2:j<ds.length):Rep F vs[j] ds[j]:=by
 obtain⟨v,e,r⟩:=h.get (aC h2);rw[aC h1]at e;cases e;exact r
def Vals.getE{vs:List V}{us:List ag}(h:Vals vs us):∀j (h1:j<vs.length) (h2:j<us.length),RelV vs[j] us[j]:=by
 induction h with
 |nil=>intro j h;cases h
 |cons r t ih=>
  intro j h1 h2;cases j with
  |zero=>exact r
  |succ j=>exact ih j (gR h1) (gR h2)
def Reps.nil_{F:Hp}{ds:List D}(h:Reps F [] ds):ds=[]:=by cases h;rfl
def Reps.cons_{F:Hp}{v:V}{vs:List V}{ds:List D}(h:Reps F (v::vs) ds):∃d ds',ds=d::ds'/\Rep F v d/\Reps F vs ds':=by cases h with|cons r t=>exact⟨_,_,rfl,r,t⟩
def zeJ{F:Hp}{v:V}{d d':D}{b:Bool}(rx:Rep F v d)(ry:Rep F v d')(q:(if (flD d&&flD d')=true then aa (eqF d d')else ab)=aa b):b=true:=by
 obtain⟨h,q⟩:=zjr q;cases q;obtain⟨h1,_,h3⟩:=ziS rx ry h;rw[<- h3];cases v <;> first|(cases h1;done)|simp[eqV]
def zjy{f:D->D->Option Bool}{F:Hp}(ih:∀{v:V} {d d':D} {b:Bool},Rep F v d->Rep F v d'->f d d'=aa b->b=true){vs:List V}{ds es:List D}{b:Bool}(h:Reps F vs ds)(h':Reps F vs es)(q:zis f ds es=aa b):b=true:=by
 refine h.ind (P:=λvs ds=>∀es b,Reps F vs es->zis f ds es=aa b->b=true) (λes b h' q=>?_) (fun {v d vs ds} r _ t es b h' q=>?_) es b h' q
 ·cases h'.nil_;cases q;rfl
 ·obtain⟨d',es',rfl,r',t'⟩:=h'.cons_;simp only[zis]at q;obtain⟨c,q1,q⟩:=bind_some q;obtain⟨c',q2,q⟩:=map_some q;subst q;rw[ih r r' q1,t es' c' t' q2];rfl
def eqD_rep{F:Hp}(n:Nat):∀{v:V} {d d':D} {b:Bool},Rep F v d->Rep F v d'->eqD n d d'=aa b->b=true:=by
 induction n with
 |zero=>intro v d d' b rx ry q;exact zeJ rx ry q
 |succ n ih=>
  intro v d d' b rx ry q;cases d with
  |tup a=>
   cases d' with
   |tup a'=>
    cases rx with
    |tup e r=>
     cases ry with
     |tup e' r'=>
      cases HO.tup.inj (aJ (e.symm.trans e'));exact zjy ih r r' q
   | _=>exact zeJ rx ry q
  |lst a=>
   cases d' with
   |lst a'=>
    cases rx with
    |lst e r=>
     cases ry with
     |lst e' r'=>
      cases HO.lst.inj (aJ (e.symm.trans e'));exact zjy ih r r' q
   | _=>exact zeJ rx ry q
  | _=>exact zeJ rx ry q
section
variable {X:Cx}{pins:List (ae×Obj)}{s:ai}{σ:L2.St}{H F:Hp}
def eqAt_D(I:Inv X pins σ H s)(fh:Same F H):∀(n:Nat) (A:aW),A.units+n<cLine->∀{x y:V} {u v:ag} {d d':D} {b:Bool},Rep F x d->Rep F y d'->RelV x u->RelV y v->eqD n d d'=aa b->im A s u v b
 |0,A,hu,x,y,u,v,d,d',b,rx,ry,ru,rv,q=>by
  have q':(if (flD d&&flD d')=true then aa (eqF d d')else ab)=aa b:=q;split at q'
  ·rename_i h;cases q';obtain⟨h1,h2,h3⟩:=ziS rx ry h;rw[<- h3];exact eqAt_V ru rv h1 h2
  ·cases q'
 |n+1,A,hu,x,y,u,v,d,d',b,rx,ry,ru,rv,q=>by
  have hin:A.in1.units+n<cLine:=by show A.units+1+n<cLine;lia
  have hA:A.units<cLine:=by lia
  have flat:(if (flD d&&flD d')=true then aa (eqF d d')else ab)=aa b->im A s u v b:=λq'=>by
   split at q'
   ·rename_i h;cases q';obtain⟨h1,h2,h3⟩:=ziS rx ry h;rw[<- h3];exact eqAt_V ru rv h1 h2
   ·cases q'
  cases rx with
  |@tup a xs ds e r=>
   cases ry with
   |@tup a' ys es e' r'=>
    cases ru;cases rv;by_cases hne:a=a'
    ·subst hne;rw[eqD_rep (n+1) (.tup e r) (.tup e' r') q];exact gG _
    ·obtain⟨its,rr,ht,_⟩:=I.tuple (SqT.of (fh _ _ e));obtain⟨its',rr',ht',_⟩:=I.tuple (SqT.of (fh _ _ e'));have q':zis (eqD n) ds es=aa b:=q;have l1:=r.length;have l2:=r'.length;have l3:=rr.length;have l4:=rr'.length;have:=lf (A:=A) (e:=eAt (eqD n) ds es) ht ht' hA λj h1 h2=>by
      have g1:j<its.length:=by simpa using h1
      have g2:j<its'.length:=by simpa using h2
      obtain⟨c,hc⟩:=zfu q' j (by lia) (by lia);have:eAt (eqD n) ds es j=c:=by unfold eAt;simp[show j<ds.length by lia,show j<es.length by lia,hc]
      rw[this];exact eqAt_D I fh n A.in1 hin (r.getE j (by lia) (by lia)) (r'.getE j (by lia) (by lia)) (Vals.getE rr j (by lia) g1) (Vals.getE rr' j (by lia) g2) hc
     rw[zfw q'];have e1:its.toArray.size=ds.length:=by simp;lia
     have e2:its'.toArray.size=es.length:=by simp;lia
     rw[e1,e2]at this;exact fQ hne this
   | _=>exact flat q
  |@lst a xs ds e r=>
   cases ry with
   |@lst a' ys es e' r'=>
    cases ru;cases rv;by_cases hne:a=a'
    ·subst hne;rw[eqD_rep (n+1) (.lst e r) (.lst e' r') q];exact gG _
    ·obtain⟨its,rr,ht,_⟩:=I.list (SqL.of (fh _ _ e));obtain⟨its',rr',ht',_⟩:=I.list (SqL.of (fh _ _ e'));have q':zis (eqD n) ds es=aa b:=q;have l1:=r.length;have l2:=r'.length;have l3:=rr.length;have l4:=rr'.length;have e1:its.toArray.size=ds.length:=by simp;lia
     have e2:its'.toArray.size=es.length:=by simp;lia
     rw[zfw q'];by_cases hs:ds.length=es.length
     ·have:=lq (A:=A) (e:=eAt (eqD n) ds es) ht.isList ht'.isList (by rw[e1,e2,hs]) hA λj h1 h2=>by
       have g1:j<its.length:=by simpa using h1
       have g2:j<its'.length:=by simpa using h2
       obtain⟨c,hc⟩:=zfu q' j (by lia) (by lia);have:eAt (eqD n) ds es j=c:=by unfold eAt;simp[show j<ds.length by lia,show j<es.length by lia,hc]
       rw[this];exact eqAt_D I fh n A.in1 hin (r.getE j (by lia) (by lia)) (r'.getE j (by lia) (by lia)) (Vals.getE rr j (by lia) g1) (Vals.getE rr' j (by lia) g2) hc
      rw[e1]at this;rw[<- hs,kr,beq_self_eq_true,jG];exact fQ hne this
     ·rw[beq_eq_false_iff_ne.mpr hs,gY];exact fQ hne (kt ht.isList ht'.isList (by rw[e1,e2];simpa using hs) hA)
   | _=>exact flat q
  | _=>cases ry <;> exact flat q
def rEqD(K:af)(neg:Bool):R2:=λx y H Q=>∃(F:Hp) (a a':ae) (xs ys:List V) (ds es:List D) (b:Bool),Same F H/\x=.ref a/\y=.ref a'/\((SqL K H a xs/\SqL K H a' ys)\/(SqT K H a xs/\SqT K H a' ys)) /\
 Reps F xs ds/\Reps F ys es/\zis (eqD 8) ds es=aa b/\Q (.bl (if neg=true then !b else b)) H
def op_neD{k:Nat}(hr:Room k X.A):OpR X (bC .NotEq) (rEqD X.K true):=by
 intro pins s σ H x y v u Q I rx ry h;obtain⟨F,a,a',xs,ys,ds,es,b,fh,rfl,rfl,hq,r,r',q,k⟩:=h;cases rx;cases ry;have hA:X.A.units+9<cLine:=by have:=hr.un;lia
 have hin:X.A.in1.units+8<cLine:=by show X.A.units+1+8<cLine;lia
 have l1:=r.length;have l2:=r'.length;have he:∀{its its':List ag},Vals xs its->Vals ys its'->∀j (h1:j<its.toArray.size) (h2:j<its'.toArray.size),im X.A.in1 s its.toArray[j] its'.toArray[j] (eAt (eqD 8) ds es j):=fun {its its'} rr rr' j h1 h2=>by
  have l3:=rr.length;have l4:=rr'.length;have g1:j<its.length:=by simpa using h1
  have g2:j<its'.length:=by simpa using h2
  obtain⟨c,hc⟩:=zfu q j (by lia) (by lia);have:eAt (eqD 8) ds es j=c:=by unfold eAt;simp[show j<ds.length by lia,show j<es.length by lia,hc]
  rw[this];exact eqAt_D I fh 8 X.A.in1 hin (r.getE j (by lia) (by lia)) (r'.getE j (by lia) (by lia)) (Vals.getE rr j (by lia) g1) (Vals.getE rr' j (by lia) g2) hc
 rw[zfw q]at k;rcases hq with ⟨h1,h2⟩|⟨h1,h2⟩
 ·obtain⟨its,rr,ht,_⟩:=I.list h1;obtain⟨its',rr',ht',_⟩:=I.list h2;have l3:=rr.length;have l4:=rr'.length;have e1:its.toArray.size=ds.length:=by simp;lia
  have e2:its'.toArray.size=es.length:=by simp;lia
  by_cases hs:ds.length=es.length
  ·refine k8 (e:=eAt (eqD 8) ds es) ht.isList ht'.isList (by rw[e1,e2,hs]) (by lia) (he rr rr') _ _ _ _ ⟨.bl _,H,I,rfl,?_⟩;rw[e1];rw[<- hs,kr,beq_self_eq_true,jG]at k;exact k
  ·refine jH ht.isList ht'.isList (by rw[e1,e2];simpa using hs) (by lia) _ _ _ _ ⟨.bl _,H,I,rfl,?_⟩;rw[beq_eq_false_iff_ne.mpr hs,gY]at k;exact k
 ·obtain⟨its,rr,ht,_⟩:=I.tuple h1;obtain⟨its',rr',ht',_⟩:=I.tuple h2;have l3:=rr.length;have l4:=rr'.length;have e1:its.toArray.size=ds.length:=by simp;lia
  have e2:its'.toArray.size=es.length:=by simp;lia
  refine kX (e:=eAt (eqD 8) ds es) ht ht' (by lia) (he rr rr') _ _ _ _ ⟨.bl _,H,I,rfl,?_⟩;rw[e1,e2];exact k
def sqOf(x y:Ent):Option (List D×List D):=match asL x,asL y with
 |some ds,aa es=>aa (ds,es)
 | _,_=>match zdY x,zdY y with
  |some ds,aa es=>aa (ds,es)
  | _,_=>ab
def gEqD:Ent->Ent->Option Ent:=λx y=>(sqOf x y).bind λp=>(zis (eqD 8) p.1 p.2).map λb=>.val (.bl b)
def gNeD:Ent->Ent->Option Ent:=λx y=>(sqOf x y).bind λp=>(zis (eqD 8) p.1 p.2).map λb=>.val (.bl (!b))
def sqOf_ok{K:af}{H0 F H:Hp}{x y:V}{e e':Ent}{p:List D×List D}(fh:Same F H)(rx:RepR K H0 F H x e)(ry:RepR K H0 F H y e')(q:sqOf e e'=aa p) :
  ∃(a a':ae) (xs ys:List V),x=.ref a/\y=.ref a'/\((SqL K H a xs/\SqL K H a' ys)\/(SqT K H a xs/\SqT K H a' ys))/\Reps F xs p.1/\Reps F ys p.2:=by
 unfold sqOf at q;split at q
 ·rename_i ds es h1 h2;cases q;obtain⟨l,vs,e1,s1,r1⟩:=rx.toL fh h1;obtain⟨l',vs',e2,s2,r2⟩:=ry.toL fh h2;exact⟨l,l',vs,vs',e1,e2,.inl ⟨s1,s2⟩,r1,r2⟩
 ·split at q
  ·rename_i ds es h1 h2;cases q;cases zdR h1;cases zdR h2;cases (show Rep F x (.tup _)from rx)with
   |tup e r=>
    cases (show Rep F y (.tup _)from ry)with
    |tup e' r'=>exact⟨_,_,_,_,rfl,rfl,.inr ⟨SqT.of (fh _ _ e),SqT.of (fh _ _ e')⟩,r,r'⟩
  ·cases q
def o_neD{k:Nat}(hr:Room k X.A):OpD X (bC .NotEq) gNeD:=⟨_,op_neD hr,λH0 F H x y e e' res Q fh hh rx ry q k=>by
 obtain⟨p,q1,q⟩:=bind_some q;obtain⟨b,q2,q⟩:=map_some q;cases q;obtain⟨a,a',xs,ys,e1,e2,h,r,r'⟩:=sqOf_ok fh rx ry q1;exact⟨F,a,a',xs,ys,_,_,b,fh,e1,e2,h,r,r',q2,k _ F H (Ex.refl fh) (.bl _)⟩⟩
end
end L3

namespace L2
open PySem PySem.Spec PyProof.Rows
end L2
namespace L3
open PySem PySem.Spec PyProof.Rows L2
def iS(fe:FE):FI:=λδ=>(fe δ).bind λx=>(sOf x).map λz=>z.cps.toList.map λc=>D.str (mkS [c])
end L3
namespace L2
open PySem PySem.Spec PyProof.Rows
section
variable {prog:aI}{w:aO}{A:aW}{E:ag->ai->Prop}
end
end L2
namespace L3
open PySem PySem.Spec PyProof.Rows L2
def gLs(gs:FGs):FG:=λd δ=>match d with
 |.lst ds=>gs ds δ
 | _=>ab
def gl0:∀(ds:List D) (δ δ':En),zgb ds δ=aa δ'->ds.length=0:=λds δ δ' h=>by
 match ds,h with
 |[],_=>rfl
def gl1{g:FG}{gs:FGs}{n:Nat}(hn:∀(ds:List D) (δ δ':En),gs ds δ=aa δ'->ds.length=n):∀(ds:List D) (δ δ':En),zcO g gs ds δ=aa δ'->ds.length=n+1:=λds δ δ' h=>by
 match ds,h with
 |d::ds,h=>
  obtain⟨δ1,_,q⟩:=bind_some (show(g d δ).bind (gs ds)=aa δ' from h);rw[au,hn ds δ1 δ' q]
end L3

namespace TS
open PySem
end TS
namespace TS
open PySem
def bt(w:aO):Bool:=w.params.followText "set-order"
def txt:ag->Str
 |.str z _=>z
 | _=> ""
structure IsS(w:aO)(h:aV)(a:ae)(zs:List Str):Prop where
 ex:∃(o:Obj) (es:Array (Int×ag)) (ep:Nat) (t:SetTable),h.get? a=aa o/\o.ExactSet/\o.data=.set es ep t/\(∀e∈es.toList,∃z u,e=(hashStr w z,fN z u))/\t.fits es.size=true/\t.led=!bt w/\(es.size≠0->t.plain=false)/\(es.toList.map λe=>txt e.2).Perm zs
 nd:zs.Nodup
variable {prog:aI}{w:aO}{A:aW}{E:ag->ai->Prop}{s:ai}{a:ae}{zs:List Str}
def IsS.mono{h h':aV}(i:IsS w h a zs)(k:∀o,h.get? a=aa o->h'.get? a=aa o):IsS w h' a zs:=
 let⟨o,es,ep,t,go,r⟩:=i.ex;⟨⟨o,es,ep,t,k o go,r⟩,i.nd⟩
def put(zs:List Str)(z:Str):List Str:=if z∈zs then zs else zs++[z]
end TS
namespace TS
open PySem PyProof.Rows
section
variable {prog:aI}{w:aO}{A:aW}{R:Result->ai->Prop}{I:ae}{fp wr:List ae}{G:Array GenState->Array GenState->Prop}{n:Nat}{P:Nat->ag->Prop}{St:Nat->ai->Prop}
end
end TS
namespace TS
open PySem PyProof.Rows
section
variable {prog:aI}{w:aO}{A:aW}{E:ag->ai->Prop}{s:ai}
def new(w:aO):Obj:={ cls:=.type "set",dict:=ab,data:=.set #[] 0 (.fresh 0 0 (!bt w))}
end
end TS
namespace TS
open PySem PyProof.Rows
namespace Fx
end Fx
section
variable {prog:aI}{w:aO}{A:aW}{E:ag->ai->Prop}{s:ai}
structure LeftS(w:aO)(s:ai)(zs:List Str)(s2:ai):Prop where
 is:IsS w s2.heap s.heap.objs.size zs
 old:∀b o,b<s.heap.objs.size->s.heap.get? b=aa o->s2.heap.get? b=aa o
 sh:∃h' tk,s2={ s with heap:=h',toks:=tk}
end
end TS
namespace TS
open PySem PyProof.Rows
section
variable {prog:aI}{w:aO}{A:aW}{E:ag->ai->Prop}
def ch{src:Source}{n:Nat}{s:ai}{Q:Nat->ai->Prop}(hn:n≠0)(k:∀i d,i<n->Q i { s with drawn:=d}):aM (model prog w) A (choose src n) Q E s:=λΓ p _=>by
 unfold choose;rw[Sem.wp_choose];exact⟨hn,by rw[Sem.wp_pure];exact k _ _ (Nat.mod_lt _ (Nat.pos_of_ne_zero hn))⟩
end
namespace Fx
def next_slot:Slot "set_iterator" "__next__" "set_iterator.__next__" :=.of (owner:= "set_iterator") (n:= "__next__") (by rw[typeLookup_type,builtinLookup_eq_fast];kernel_rfl) (by decide +kernel) (by decide +kernel) (by decide +kernel) (by first|exact .inl (by decide +kernel)|exact .inr (by decide +kernel)) (by rw[isSubtype_type];kernel_rfl)
end Fx
end TS
namespace TS
open PySem PyProof.Rows
def itO(f0:ag)(i:Nat)(a:ae)(n ep:Nat):Obj:={ cls:=.type "set_iterator",data:=.fields #[f0,rawInt i,.ref a,rawInt n,rawInt ep]}
section
variable {prog:aI}{w:aO}{A:aW}{E:ag->ai->Prop}{s:ai}{I a:ae}{o:Obj}{es:Array (Int×ag)}{ep:Nat}{t:SetTable}
def stop{B:aW}{α:Type}(hh:B.handled=ab){R:α->ai->Prop}{E':ag->ai->Prop}(k:∀e h',(∀b o,s.heap.get? b=aa o->h'.get? b=aa o)->Shared.TypeIs { s with heap:=h'} e "StopIteration" -> E' e { s with heap:=h'}) :
  aM (model prog w) B (newExc (.type "StopIteration") [] >>= λe=>raiseNew e) R E' s:=by
 refine ay ?_;simp only[newExc,newTuple];refine ay (wpAny_newObj_type ?_ (by size_fits));refine ay (m:=firstArgMember _ _) (wpAny_of_eq (a:=ig) (by first|rfl|(simp only[firstArgMember];rfl)) (wpAny_newObj_type ?_ (by size_fits)));simp only[raiseNew];refine ay (wpAny_handled ?_);rw[hh];refine ay (a8 (wpAny_throw ?_));exact k _ _ (λb o e=>ax _ (ax _ e)) ⟨_,aT _ rfl,rfl⟩
end
end TS
namespace TS
open PySem PyProof.Rows
namespace Fx
def self_slot:Slot "set_iterator" "__iter__" "set_iterator.__iter__" :=.of (owner:= "set_iterator") (n:= "__iter__") (by rw[typeLookup_type,builtinLookup_eq_fast];kernel_rfl) (by decide +kernel) (by decide +kernel) (by decide +kernel) (by first|exact .inl (by decide +kernel)|exact .inr (by decide +kernel)) (by rw[isSubtype_type];kernel_rfl)
def self_of:entryFor table "set_iterator.__iter__" =aa Builtin.«dict_keyiterator.__iter__» :=entryFor_alias (id':= "dict_keyiterator.__iter__") (by kernel_rfl) rfl (by decide +kernel) (by kernel_rfl)
def self_args(v:ag):argsOk "set_iterator.__iter__" ⟨[v],[]⟩:=by unfold argsOk;kernel_rfl
end Fx
section
variable {prog:aI}{w:aO}{A:aW}{E:ag->ai->Prop}{s:ai}{I a:ae}{o:Obj}{es:Array (Int×ag)}{ep:Nat}{t:SetTable}
def self{f0:ag}{i n:Nat}{Q:ag->ai->Prop}(hI:s.heap.get? I=aa (itO f0 i a n ep))(k:Q (.ref I) s):aM (model prog w) A (pyIter (.ref I)) Q E s:=by
 have ty:s.TypeIs (.ref I) "set_iterator" :=⟨_,hI,rfl⟩
 refine wpAny_pyIter_slot ty Fx.self_slot (wpAny_call_entry Fx.self_slot ty Fx.self_of ?_ (Fx.self_args _));show aM _ _ (ret (.ref I)) _ _ s;exact a8 ⟨_,rfl,"set_iterator",_,ty,Fx.next_slot.lookup,k⟩
end
end TS
namespace TS
open PySem PyProof.Rows
section
variable {prog:aI}{w:aO}{A:aW}{E:ag->ai->Prop}{s:ai}{a:ae}{o:Obj}{es:Array (Int×ag)}{ep:Nat}{t:SetTable}
end
end TS
namespace TS
open PySem PyProof.Rows
section
variable {prog:aI}{w:aO}{A:aW}{E:ag->ai->Prop}{s:ai}{a:ae}{o:Obj}{es:Array (Int×ag)}{ep:Nat}{t:SetTable}
def _root_.PySem.Walks.weak{I:ae}{fp wr:List ae}{n:Nat}{P P':Nat->ag->Prop}{St:Nat->aV->Prop}(W:Walks prog w A I fp wr n P St)(h:∀i v,i<n->P i v->P' i v):Walks prog w A I fp wr n P' St:=
 ⟨W.sub,W.frame,λi s Q E hi st k=>W.item i s Q E hi st λv h' tk p=>k v h' tk (h i v hi p),W.done,W.self⟩
structure WkS(prog:aI)(w:aO)(a n0:Nat)(zs:List Str)(I:ae)(h:aV):Prop where
 ex:∃(ys:List Str) (fp:List ae) (St:Nat->aV->Prop),ys.Perm zs/\I∈fp/\(∀b∈fp,b<h.objs.size/\(b=a\/n0<=b))/\St 0 h/\∀B:aW,B.handled=ab->Walks prog w B I fp [I] ys.length (λi v=>∃u,v=fN (ys.getD i "") u) St
def WkS.of{n0:Nat}{zs:List Str}{I:ae}{h:aV}{ord:Array (Int×ag)}{fp:List ae}{St:Nat->aV->Prop}(hp:ord.toList.Perm es.toList)(ge:∀e∈es.toList,∃z u,e=(hashStr w z,fN z u))(gm:(es.toList.map λe=>txt e.2).Perm zs)
  (hI:I∈fp) (hb:∀b∈fp,b<h.objs.size/\(b=a\/n0<=b)) (st:St 0 h) (W:∀B:aW,B.handled=ab->Walks prog w B I fp [I] es.size (λi v=>v=(ord.getD i (0,.none)).2) St):WkS prog w a n0 zs I h:=by
 have hl:ord.size=es.size:=by simpa using hp.length_eq
 refine⟨ord.toList.map λe=>txt e.2,fp,St,(hp.map _).trans gm,hI,hb,st,λB hB=>?_⟩;rw[al,aF,hl];refine(W B hB).weak λi v hi e=>?_;have hi':i<ord.size:=by lia
 obtain⟨z,u,hz⟩:=ge ord[i] (hp.mem_iff.mp (by simp));subst e;refine⟨u,?_⟩;simp[hi',hz,txt]
end
end TS
namespace TS
open PySem PyProof.Rows
namespace Fx
end Fx
section
variable {prog:aI}{w:aO}{A:aW}{E:ag->ai->Prop}{s:ai}{a:ae}{zs:List Str}
end
end TS
namespace TS
open PySem PyProof.Rows
section
variable {prog:aI}{w:aO}{A:aW}{E:ag->ai->Prop}{s:ai}{a:ae}{zs:List Str}
end
end TS
namespace TS
open PySem PySem.Spec PyProof.Rows
def lt_trans:∀(a b c:List Nat),ltCps b a=false->ltCps c b=false->ltCps c a=false
 |[],_,[],_,_=>rfl
 |[],[],_::_,_,_=>by simp[ltCps]
 |[],_::_,_::_,_,_=>by simp[ltCps]
 | _::_,[],_,h,_=>by cases h
 | _::_,_::_,[],_,h=>by cases h
 |a::r,b::t,c::u,h1,h2=>by
  simp only[ltCps,Bool.or_eq_false_iff,decide_eq_false_iff_not,Bool.and_eq_false_imp,beq_iff_eq]at h1 h2 ⊢;refine⟨by lia,λe=>?_⟩;have e1:b=a:=by lia
  have e2:c=b:=by lia
  exact lt_trans r t u (h1.2 e1) (h2.2 e2)
def le(a b:Str):Prop:=ltCps b.cps.toList a.cps.toList=false
open Classical in
noncomputable def srt(zs:List Str):List Str:=if h:∃ss:List Str,ss.Pairwise le/\ss.Perm zs then h.choose else []
def ddp(zs:List Str):List Str:=zs.foldl put []
end TS
namespace L2
open PySem PySem.Spec PyProof.Rows TS
def Inv.drawn{X:Cx}{pins:List (ae×Obj)}{σ:List (Option V)}{H:Hp}{s s1:ai}(I:Inv X pins σ H s)(eh:∀b o,s.heap.get? b=aa o->s1.heap.get? b=aa o)(eg:s1.gens=s.gens)(eo:s1.os=s.os):Inv X pins σ H s1:=by
 obtain⟨h,g,d,tk,os⟩:=s1;have eg':g=s.gens:=eg;have eo':os=s.os:=eo;subst eg' eo';have J:Inv X pins σ H { s with heap:=h,toks:=tk}:=I.kept (t':=tk) eh;exact⟨J.ok,J.os,J.bare,J.base,J.loc,J.cell,J.free,J.freeC,J.pin,J.hok,J.len⟩
end L2
namespace L2
open PySem PySem.Spec PyProof.Rows TS
section
variable {X:Cx}{e:Expr}{t:TE}{p p1 pos pos1:Pos}
def one(R:V->Hp->Prop):List V->Hp->Prop:=λxs H=>match xs with
 |[x]=>R x H
 | _=>False
def zeE:∀{out:List ag} {ss:List Str},StrsAre out ss->Vals (ss.map V.str) out
 | _,_,.nil=>.nil
 | _,_,.cons _ _ h=>.cons ⟨_,rfl⟩ (zeE h)
end
end L2
namespace L3
open PySem PySem.Spec PyProof.Rows L2 TS
noncomputable def ssO(zs:List Str):Option Ent:=gif (zs.length<4000/\(ddp zs).length<64) (aa (.own ((srt (ddp zs)).map D.str)))
noncomputable def zij:Ent->Option Ent:=λx=>(asL x).bind λds=>(zg7 ds).bind ssO
noncomputable def zil:Ent->Option Ent:=λx=>(sOf x).bind λz=>ssO (z.cps.toList.map λc=>(⟨#[c]⟩:Str))
section
variable {X:Cx}{e:Expr}{fe:FE}{p p1 pos pos1:Pos}
end
end L3

namespace L2
open PySem PySem.Spec PyProof.Rows
def SqQ(K:af):Bool->Hp->ae->List V->Prop
 |true=>SqT K
 |false=>SqL K
def SIt:Bool->aV->ae->ae->Nat->Prop
 |true,h,it,a,i=>h.IsTupleIter it a i
 |false,h,it,a,i=>h.IsListIter it a i
def QAt:Bool->aV->ae->Array ag->Prop
 |true,h,a,xs=>h.IsTuple a xs
 |false,h,a,xs=>h.IsList a xs
def itN:Bool->String
 |true=> "tuple_iterator"
 |false=> "list_iterator"
def SIt.out{k:Bool}{h:aV}{it a:ae}{i:Nat}(st:SIt k h it a i):∃o,h.get? it=aa o/\o.cls=.type (itN k)/\o.data=.fields #[.ref a,.int i 0]:=by cases k <;> exact st
def SIt.mk{k:Bool}{h:aV}{it a:ae}{i:Nat}(st:∃o,h.get? it=aa o/\o.cls=.type (itN k)/\o.data=.fields #[.ref a,.int i 0]):SIt k h it a i:=by cases k <;> exact st
def SIt.at{k:Bool}{h h':aV}{it a:ae}{i:Nat}(st:SIt k h it a i)(e:∀o,h.get? it=aa o->h'.get? it=aa o):SIt k h' it a i:=by
 obtain⟨o,h1,h2⟩:=st.out;exact .mk ⟨o,e o h1,h2⟩
def Inv.seqQ{X:Cx}{pins:List (ae×Obj)}{σ:St}{H:Hp}{s:ai}{k:Bool}{a:ae}{xs:List V}(I:Inv X pins σ H s)(h:SqQ X.K k H a xs):∃its:List ag,Vals xs its/\QAt k s.heap a its.toArray:=by
 cases k with
 |true=>obtain⟨its,r,p,_⟩:=I.tuple h;exact⟨its,r,p⟩
 |false=>obtain⟨its,r,p,_⟩:=I.list h;exact⟨its,r,p.isList⟩
section
variable {prog:aI}{w:aO}{A:aW}{E:ag->ai->Prop}{s:ai}
end
section
variable {X:Cx}{A:aW}{pins:List (ae×Obj)}{σ:St}{H:Hp}{s:ai}{E:ag->ai->Prop}{k k1 k2:Bool}{it a b z TI TO i1 i2:ae}{i:Nat}{xs ys:List V}{x y:V}
structure ZSt(k1 k2:Bool)(z TI TO i1 i2 a b:ae)(i:Nat)(f0:ag)(h:aV):Prop where
 hz:IsZip h z TI TO f0
 hi:IsPair h TI (.ref i1) (.ref i2)
 ho:∃x y,IsPair h TO x y
 s1:SIt k1 h i1 a i
 s2:SIt k2 h i2 b i
structure ZNe(z TI TO i1 i2:ae):Prop where
 n1:TI≠z
 n2:TO≠z
 n3:i1≠z
 n4:i2≠z
 n5:TI≠TO
 n6:TI≠i1
 n7:TI≠i2
 n8:TO≠i1
 n9:TO≠i2
 n10:i1≠i2
def ZSt.keep{f0:ag}{h h':aV}(st:ZSt k1 k2 z TI TO i1 i2 a b i f0 h)(kk:∀c∈[z,TI,TO,i1,i2],∀o,h.get? c=aa o->h'.get? c=aa o):ZSt k1 k2 z TI TO i1 i2 a b i f0 h':=
 ⟨kk z (by simp) _ st.hz,kk TI (by simp) _ st.hi,let⟨x,y,e⟩:=st.ho;⟨x,y,kk TO (by simp) _ e⟩,st.s1.at λo e=>kk i1 (by simp) o e,st.s2.at λo e=>kk i2 (by simp) o e⟩
end
def QAt.push{k:Bool}{h:aV}{a:ae}{xs:Array ag}(p:QAt k h a xs)(o:Obj):QAt k (h.push o) a xs:=by
 cases k with
 |true=>exact lg p o
 |false=>exact lr p o
end L2
namespace L3
open PySem PySem.Spec PyProof.Rows L2
def qOf:Ent->Option (List D)
 |.val (.lst ds)=>aa ds
 |.val (.tup ds)=>aa ds
 |.own ds=>aa ds
 | _=>ab
def qV(fe:FE):FI:=λδ=>(fe δ).bind qOf
def iZip(fa fb:FI):FI:=λδ=>(fa δ).bind λxs=>(fb δ).bind λys=>aa ((xs.zip ys).map λp=>D.tup [p.1,p.2])
def Stays(K:af)(B F:Hp)(v:V)(ds:List D):Prop:=∃k a vs,v=.ref a/\(∀F2 H2,Same F F2->Same F2 H2->Same B H2->SqQ K k H2 a vs)/\Reps F vs ds
def SemQ(K:af)(t:TE)(f:FI):Prop:=∀(B:Bd) (F H:Hp) (σ:Sg) (δ:En) (ds:List D) (Q:VK),RS K B F H σ δ->f δ=aa ds->(∀v F' H',Ex F H F' H'->Stays K B F' v ds->Q v H')->t σ H Q
structure VQ(X:Cx)(e:Expr)(f:FI):Prop where
 h:∃t,WE X e t/\SemQ X.K t f
section
variable {X:Cx}{e e':Expr}{fe:FE}{fa fb:FI}{p pos tpos:Pos}{x:Str}{es:List Expr}{n:Nat}
def zqv(h:VE X e fe):VQ X e (qV fe):=by
 obtain⟨t,w,m⟩:=h.h;refine⟨_,w,λB F H σ δ ds Q s q k=>?_⟩;obtain⟨r,q1,q⟩:=bind_some q;refine m B F H σ δ r _ s q1 λv F1 H1 x1 r1=>?_;unfold qOf at q;split at q
 ·cases q;cases (show Rep F1 v (.lst ds)from r1)with
  |lst e rs=>exact k _ F1 H1 x1 ⟨false,_,_,rfl,λF2 H2 a b _=>SqL.of (b _ _ (a _ _ e)),rs⟩
 ·cases q;cases (show Rep F1 v (.tup ds)from r1)with
  |tup e rs=>exact k _ F1 H1 x1 ⟨true,_,_,rfl,λF2 H2 a b _=>SqT.of (b _ _ (a _ _ e)),rs⟩
 ·cases q;obtain⟨F2,x2,_,r2⟩:=RepR.frz x1 (Same.refl _) r1 rfl;cases r2 with
  |lst e rs=>exact k _ F2 H1 x2 ⟨false,_,_,rfl,λF3 H3 a b _=>SqL.of (b _ _ (a _ _ e)),rs⟩
 ·cases q
end
end L3

namespace L2
open PySem PySem.Spec PyProof.Rows
def Itq(K:af):Bool->ae->It
 |true=>Itt K
 |false=>Itl K
def iSq(K:af)(tl:TE):TI:=λσ H R=>tl σ H λx H1=>∃k a,x=.ref a/\(∃xs,SqQ K k H1 a xs)/\R (Itq K k a) H1
def pi_seq{X:Cx}{tg l:Expr}{tl:TE}(hl:PE X l tl):PI X tg l (iSq X.K tl):=by
 intro pins s σ H R I h;refine thn (hl pins s σ H _ I h) ?_;rintro v s1 ⟨x,H1,I1,r1,q1⟩;obtain⟨k,a,e,⟨xs,hq⟩,q⟩:=q1;subst e;cases r1;have fp:∀b∈[s1.heap.objs.size],zir X pins H1 b:=λb hb=>by
  cases aK.mp hb;exact I1.fpOk (ak _) (I1.hok.fresh (ak _))
 obtain⟨its,rv,p⟩:=I1.seqQ hq;cases k with
 |true=>exact wpAny_pyIter_tuple p ⟨s1.heap.objs.size,[s1.heap.objs.size],_,_,H1,rfl,I1.kept (t':=s1.toks) λb o e=>ax _ e,zgr a _,⟨_,aT _ rfl,rfl,rfl⟩,fp,q⟩
 |false=>exact wpAny_pyIter_list p ⟨s1.heap.objs.size,[s1.heap.objs.size],_,_,H1,rfl,I1.kept (t':=s1.toks) λb o e=>ax _ e,zh7 a _,⟨_,aT _ rfl,rfl,rfl⟩,fp,q⟩
end L2
namespace L3
open PySem PySem.Spec PyProof.Rows L2
def itOk_seq{K:af}{B F0:Hp}{k:Bool}{a:ae}{vs:List V}{ds:List D}(h:∀F H,Same F0 F->Same F H->Same B H->SqQ K k H a vs)(r:Reps F0 vs ds):ItOk B F0 (Itq K k a) ds:=by
 cases k with
 |false=>exact zeq h r
 |true=>
  intro F H s1 s2 s3;have hq:SqT K H a vs:=h F H s1 s2 s3;refine⟨⟨vs,hq,by rw[r.length];exact ak _⟩,λi d e=>?_⟩;obtain⟨v,h1,h2⟩:=r.get e;refine⟨⟨vs,v,hq,h1⟩,λx H' y=>?_⟩;obtain⟨e',y⟩:=y;subst e';have z:=y vs hq;rw[h1]at z;cases z;exact⟨F,Ex.refl s2,Rep.mono s1 h2⟩
def iiq{X:Cx}{tg e:Expr}{fe:FE}(h:VE X e fe):VI X tg e (qV fe):=by
 obtain⟨t,w,m⟩:=(zqv h).h;exact⟨_,⟨pi_seq w.h⟩,λB F H σ δ ds R s q k=>m B F H σ δ ds _ s q λv F1 H1 x1 ⟨kk,a,vs,e,p,r⟩=>⟨kk,a,e,⟨vs,p F1 H1 (Same.refl _) x1.fh (s.bh.trans x1.hh)⟩,k _ F1 H1 x1 (itOk_seq p r)⟩⟩
end L3
namespace L2
open PySem PySem.Spec PyProof.Rows
section
variable {X:Cx}
end
end L2
namespace L3
open PySem PySem.Spec PyProof.Rows L2
def idxD(ds:List D)(d:D):Option Ent:=if (flD d&&ds.all flD)=true then (ds.findIdx? λe=>eqF e d).map λ(j:Nat)=>Ent.val (.int (j:Int))else ab
def vOf:Ent->Option D
 |.val d=>aa d
 | _=>ab
def gIdxL:Ent->List Ent->Option Ent
 |x,[y]=>(asL x).bind λds=>(vOf y).bind λd=>idxD ds d
 | _,_=>ab
def gIdxT:Ent->List Ent->Option Ent
 |x,[y]=>(zdY x).bind λds=>(vOf y).bind λd=>idxD ds d
 | _,_=>ab
end L3
namespace L2
open PySem PySem.Spec PyProof.Rows
open PySem.AutoSeq1 (wpAny_loadPart')
open PySem.MeetsSeq PySem.MeetsSeq2 PySem.MeetsSeq3
section
variable {X:Cx}
end
end L2
namespace L3
open PySem PySem.Spec PyProof.Rows L2
section
variable {X:Cx}
end
structure MtT(X:Cx)(name:Str)(g:Ent->List Ent->Option Ent):Prop where
 h:∃id r,Slot "tuple" name id/\typeOf (.builtin id)=pure (.type "method_descriptor")/\MtR X id r /\
  (∀(F:Hp) (v:V) (e:Ent) (es:List Ent) (res:Ent),g e es=aa res->∃ds,e=.val (.tup ds)) /\
  ∀(H0 F H:Hp) (x:V) (vs:List V) (e:Ent) (es:List Ent) (res:Ent) (Q:VK),Same F H->Same H0 H->RepR X.K H0 F H x e->RepRs X.K H0 F H vs es->g e es=aa res->(∀v F' H',Ex F H F' H'->RepR X.K H0 F' H' v res->Q v H')->r x vs H Q
section
variable {X:Cx}{name:Str}{g:Ent->List Ent->Option Ent}{o e:Expr}{es:List Expr}{fo:FE}{fs:FA}{apos cpos:Pos}
end
end L3

namespace L2
open PySem PySem.Spec PyProof.Rows PyProof.Rows.KTD
def tabI(D:List (Str×Int)):List (Str×Dat):=D.map λp=>(p.1,Dat.flat (.int p.2))
def zjW(z:Str):List (Str×Int)->Option Int
 |[]=>ab
 |(x,i)::D=>if z=x then aa i else zjW z D
def RowsK(K:af)(es:Array DictEntry)(D:List (Str×Int)):Prop:=rowsLook (datLooks λb=>K.lookup b) es.toList (tabI D)=true
section
variable {X:Cx}{a:ae}{D:List (Str×Int)}
end
def kisS{P:aI}{w:aO}{z:Str}{u:ag}(r:RelV (.str z) u):(zbo P w).is (aY z) u=true:=by
 obtain⟨t,rfl⟩:=r;show iA z (.str z t)=true;simp[iA]
def atK(kvs:List (Key×V))(k:Key):Option V:=(kvs.find? λp=>decide (p.1=k)).map (·.2)
def zgC{kvs:List (Key×V)}{vs:List (Key×ag)}(r:KV kvs vs)(k:Key):(∃v w,atK kvs k=aa v/\valueAt vs k=aa w/\RelV v w)\/(atK kvs k=ab/\valueAt vs k=ab):=by
 unfold KV at r
 induction r with
 |nil=>exact .inr ⟨rfl,rfl⟩
 |@cons p q ps qs h t ih=>
  obtain⟨h1,h2⟩:=h;unfold atK valueAt at ih ⊢;by_cases e:p.1=k
  ·refine .inl ⟨p.2,q.2,?_,?_,h2⟩
   ·rw[dU (by simpa using e)];rfl
   ·rw[dU (by simpa using (h1 ▸ e:q.1=k))];rfl
  ·rw[dW (by simpa using e),dW (by simpa using (λz=>e (h1.trans z):¬ q.1=k))];exact ih
section
variable {X:Cx}
def ix_dic:IxR X (λx y H Q=>∃a kvs z v,x=.ref a/\y=.str z/\Rd H a (.dK kvs)/\atK kvs (aY z)=aa v/\Q v H):=by
 intro value slice pins s σ H x y v u Q I rx ry h hs;obtain⟨a,kvs,z,v',rfl,rfl,e,hv,q⟩:=h;cases rx;obtain⟨_,hd,vs,rel,dd⟩:=e.ok I.hok;rcases zgC rel (aY z)with ⟨v2,w,e1,e2,e3⟩|⟨e1,_⟩
 ·rw[hv]at e1;cases e1;exact subscriptTail_builtinR (x:=w) dd.typeIs slot_dict_getitem.lookup (wpAny_getItem_of (kisS ry) dd.mapOf e2 ⟨rfl,v',H,I.tok _,e3,q⟩) hs
 ·rw[hv]at e1;cases e1
end
inductive PrsOf:List Str->List V->List (ag×ag)->Prop
 |nil:PrsOf [] [] []
 |cons {z:Str} {t:Tok} {v:V} {u:ag} {ks:List Str} {vs:List V} {ws:List (ag×ag)}:RelV v u->PrsOf ks vs ws->PrsOf (z::ks) (v::vs) ((.str z t,u)::ws)
def PrsOf.len{ks:List Str}{vs:List V}{ws:List (ag×ag)}(h:PrsOf ks vs ws):ks.length=vs.length:=by
 induction h with
 |nil=>rfl
 |cons _ _ ih=>rw[au,au,ih]
def PDs(X:Cx)(pos:Pos)(keys:List (Option Expr))(values:List Expr)(ks:List Str)(t:TA):Prop:=
 ∀(pins:List (ae×Obj)) (s:ai) (σ:St) (H:Hp) (Q:List V->Hp->Prop),Inv X pins σ H s->t σ H Q ->
  aM (model X.prog X.w) X.A (evalPairs (pairTrees keys values X.env pos)) (λws s'=>∃vs H',Inv X pins σ H' s'/\PrsOf ks vs ws/\Q vs H') X.xe s
end L2
namespace L3
open PySem PySem.Spec PyProof.Rows L2
def lkD:List Str->List D->Str->Option D
 |k::ks,d::ds,z=>if k=z then aa d else lkD ks ds z
 | _,_,_=>ab
def lkD_ok{F:Hp}(z:Str){ks:List Str}{vs:List V}{ds:List D}(hl:ks.length=vs.length)(h:Reps F vs ds) :
  (∃d v,lkD ks ds z=aa d/\atK ((ks.map aY).zip vs) (aY z)=aa v/\Rep F v d)\/(lkD ks ds z=ab/\atK ((ks.map aY).zip vs) (aY z)=ab):=by
 refine h.ind (P:=λvs ds=>∀ks:List Str,ks.length=vs.length->(∃d v,lkD ks ds z=aa d/\atK ((ks.map aY).zip vs) (aY z)=aa v/\Rep F v d)\/(lkD ks ds z=ab/\atK ((ks.map aY).zip vs) (aY z)=ab)) (λks hl=>?_) (fun {v d vs ds} r rs ih ks hl=>?_) ks hl
 ·rw[de hl];exact .inr ⟨rfl,rfl⟩
 ·obtain⟨k,ks,rfl,hl2⟩:=lenS hl;simp only[lkD];unfold atK;rw[ar,bG];by_cases e:k=z
  ·rw[if_pos e,dU (by simpa using e)];exact .inl ⟨d,v,rfl,rfl,r⟩
  ·rw[if_neg e,dW (by simpa using e)];exact ih ks hl2
def dOf:Ent->Option (List Str×List D)
 |.val (.dic ks ds)=>aa (ks,ds)
 | _=>ab
def zfs{e:Ent}{p:List Str×List D}(h:dOf e=aa p):e=.val (.dic p.1 p.2):=by
 cases e with
 |val d=>cases d <;> first|(cases h;rfl)|(cases h)
 | _=>cases h
def gDx:Ent->Ent->Option Ent:=λx y=>(dOf x).bind λp=>(sOf y).bind λz=>(lkD p.1 p.2 z).map .val
def gInD:Ent->Ent->Option Ent:=λx y=>(sOf x).bind λz=>(dOf y).map λp=>.val (.bl (lkD p.1 p.2 z).isSome)
def gNiD:Ent->Ent->Option Ent:=λx y=>(sOf x).bind λz=>(dOf y).map λp=>.val (.bl (!(lkD p.1 p.2 z).isSome))
def gTab(T:List (Str×Int)):Ent->Option Ent:=λy=>(sOf y).bind λz=>(zjW z T).map λi=>.val (.int i)
def gInT(T:List (Str×Int)):Ent->Option Ent:=λy=>(sOf y).map λz=>.val (.bl (zjW z T).isSome)
def gNiT(T:List (Str×Int)):Ent->Option Ent:=λy=>(sOf y).map λz=>.val (.bl (!(zjW z T).isSome))
def eDic(ks:List Str)(fs:FA):FE:=λδ=>(fs δ).bind λrs=>(zdF rs).map λds=>.val (.dic ks ds)
section
variable {X:Cx}
def x_dic:IxD X gDx:=⟨_,ix_dic,λH0 F H x y e e' res Q fh hh rx ry q k=>by
 obtain⟨p,q1,q⟩:=bind_some q;obtain⟨z,q2,q⟩:=bind_some q;obtain⟨d,q3,q⟩:=map_some q;cases q;cases zfs q1;cases zbc q2;cases zbQ ry;cases (show Rep F x (.dic p.1 p.2)from rx)with
 |dic e l rs=>
  rcases lkD_ok z l rs with ⟨d',v,e1,e2,e3⟩|⟨e1,_⟩
  ·rw[q3]at e1;cases e1;exact⟨_,_,z,v,rfl,rfl,.inr ⟨_,fh _ _ e⟩,e2,k _ F H (Ex.refl fh) e3⟩
  ·rw[q3]at e1;cases e1⟩
structure VD(X:Cx)(pos:Pos)(keys:List (Option Expr))(values:List Expr)(ks:List Str)(fs:FA):Prop where
 h:∃t,PDs X pos keys values ks t/\SemA X.K t fs
variable {pos kp p:Pos}{z x:Str}{j:Nat}{v sl:Expr}{keys:List (Option Expr)}{values:List Expr}{ks:List Str}{fv fe:FE}{fs:FA}
end
end L3

namespace L2
open PySem PySem.Spec PyProof.Rows
def valsI:∀{ns:List Int} {us:List ag},Vals (ns.map V.int) us->IntsAre us ns
 |[],us,r=>by rw[bu]at r;cases r;exact .nil
 |n::ns,us,r=>by
  rw[ar]at r;cases r with
  |cons h t=>
   obtain⟨tk,e⟩:=h;subst e;exact .cons n tk (valsI t)
def call_sumI{X:Cx}(hc:X.calm=true):zd7 X (.builtin "sum") (λxs H Q=>∃(p:ae) (ns:List Int),xs=[.ref p]/\SqL X.K H p (ns.map V.int)/\Q (.int ns.sum) H):=by
 intro pins s σ H xs us Q I r h;obtain⟨p,ns,rfl,hq,q⟩:=h;obtain⟨u,rfl,rx⟩:=zfD r;cases rx;obtain⟨its,r',pl,hz⟩:=I.list hq;have hi:=valsI r';obtain⟨zs,hx⟩:=hi.allInts.items;have hn:=hi.numsOf;have e1:its=(intItems zs).toList:=by rw[<- hx]
 rw[e1,nums_intItems]at hn;refine sum_intListG (I.ok.hd hc) (by rw[<- hx];exact pl.isList) λh' tk t' hk=>⟨.int ns.sum,H,I.kept (t':=tk) hk,⟨t',?_⟩,q⟩
 rw[preSum_eq,cR (by simp),hn]
end L2
namespace L3
open PySem PySem.Spec PyProof.Rows L2
def gSum:List Ent->Option Ent
 |[x]=>(asL x).bind λds=>(zf8 ds).map λns=>.val (.int ns.sum)
 | _=>ab
noncomputable def fExt(i:Nat)(fe:FE):FS:=λδ=>match δ[i]? with
 |some (aa (.own ds))=>(fe δ).bind λr=>match r with
  |.own es=>gif (sz (ds.length+es.length)) (aa (.nx (δ.set i (aa (.own (ds++es))))))
  | _=>ab
 | _=>ab
section
variable {X:Cx}{e:Expr}{fe:FE}{x:Str}{p pos:Pos}
def c_sum(hc:X.calm=true:=by rfl):zeQ X (.builtin "sum") gSum:=⟨_,call_sumI hc,λH0 F H vs es res Q fh hh r q k=>by
 obtain⟨x,rfl⟩:=zfO rfl (λ_ _ _=>rfl) q;obtain⟨v,rfl,rz⟩:=zdq r;obtain⟨ds,q1,q⟩:=bind_some q;obtain⟨ns,q2,qz⟩:=map_some q;cases qz;obtain⟨l,ws,e',h1,h2⟩:=RepR.toL rz fh q1;subst e';rw[zhe h2 q2]at h1;exact⟨l,ns,rfl,h1,k _ F H (Ex.refl fh) (.int _)⟩⟩
def sExt(i:Nat){apos cpos:Pos}(he:VE X e fe)(hN:X.N[i]? =aa x:=by rfl)(hv:Vis X.env.scope x:=by first|exact az rfl|exact ba (az rfl)|exact ba (ba rfl))(hd:(x==("__debug__" : Str))=false:=by decide)
  (hcd:(x==("__classdict__" : Str))=false:=by decide)
  (hbase:bT (.Name x p) "extend" X.env (eval (.Name x p) X.env)=eval (.Name x p) X.env:=by rfl) (hline:(apos.endLine==cpos.line)=true:=by rfl) (h1:zan e=true:=by rfl)
  (hs:swapsWith (.Call (.Attribute (.Name x p) "extend" apos) [e] [] cpos) ab pos.line X.env=pure false:=by rfl) :
  VS X (.Expr (.Call (.Attribute (.Name x p) "extend" apos) [e] [] cpos) pos) (fExt i fe):=by
 obtain⟨t,w,m⟩:=he.h;refine⟨_,sex (wbm dG PySem.F.slot_list_extend PySem.F.type_list_extend mt_extend (wv i hN hv hd hcd) (wac w wnil h1) hbase rfl hline h1 rfl) hs,λB F H σ δ out DD s q k=>?_⟩;unfold fExt at q;split at q
 ·rename_i ds hi;obtain⟨r,q2,q⟩:=bind_some q;cases r with
  |own es=>
   obtain⟨hl,qz⟩:=za7 q;cases qz;obtain⟨v,h1,l,vs,e,h2,h3,h4,h5⟩:=s.ent i _ hi;subst e;refine⟨_,h1,.inl ⟨rfl,vs,SqL.of h2⟩,?_⟩;refine m B F H σ δ _ _ s q2 λy F1 H1 x1 z=>?_;obtain⟨l2,ws,ey,z0,z1,z2,z3⟩:=z;subst ey;refine⟨l,l2,vs,ws,rfl,rfl,x1.hh _ _ h2,z1,?_,?_⟩
   ·rw[h3.length,z2.length,cn];unfold sz at hl;lia
   ·exact k σ F1 _ ((s.ext x1).mut hi h1 ((h3.mono x1.ff).append z2)) (.of x1 s.bh)
  | _=>cases q
 ·cases q
end
end L3

namespace L2
open PySem PySem.Spec PyProof.Rows
namespace RV
end RV
section
variable {prog:aI}{w:aO}{A:aW}{E:ag->ai->Prop}{s:ai}
set_option maxRecDepth 100000
end
end L2
namespace L2
open PySem PySem.Spec PyProof.Rows
section
variable {X:Cx}{e:Expr}{t:TE}{p p1 pos pos1:Pos}
end
end L2
namespace L3
open PySem PySem.Spec PyProof.Rows L2
def gTupRev:Ent->Option Ent:=λx=>(asL x).bind λds=>aa (.val (.tup ds.reverse))
section
variable {X:Cx}{e:Expr}{fe:FE}{p p1 pos pos1:Pos}
end
end L3

namespace L3
open PySem PySem.Spec PyProof.Rows L2
def zh0:List Ent->Option Ent
 |[x,y]=>(iOf x).bind λi=>(iOf y).map λj=>.val (.int (if j<i then j else i))
 | _=>ab
section
variable {X:Cx}
def c_min2(hc:X.calm=true:=by rfl):zeQ X (.builtin "min") zh0:=⟨_,call_min2 hc,λH0 F H vs es res Q fh hh r q k=>by
 match es,q with
 |[x,y],q=>
  obtain⟨i,q1,q⟩:=bind_some q;obtain⟨j,q2,q⟩:=map_some q;cases zaE q1;cases zaE q2;cases q;cases r with
  |cons r1 r=>
   cases r with
   |cons r2 r=>
    cases r;cases zaY r1;cases zaY r2;exact⟨i,j,rfl,k _ F H (Ex.refl fh) (.int _)⟩⟩
end
end L3

namespace L3
open PySem PySem.Spec PyProof.Rows L2
def zfR(H:Hp)(A:List ae):Hp:=λa=>if a∈A then ab else H a
section
variable {K:af}{B:Bd}{F H F' H' H0:Hp}{σ:Sg}{δ:En}{v:V}{A A':List ae}{a:ae}{u:HO}{i:Nat}{o o':OT}
def zcn(h:a∈A):zfR H A a=ab:=if_pos h
def zex(h:a∉A):zfR H A a=H a:=if_neg h
def zaP(h:zfR H A a=aa u):a∉A/\H a=aa u:=by
 by_cases q:a∈A
 ·rw[zcn q]at h;cases h
 ·rw[zex q]at h;exact⟨q,h⟩
def zcd(h:a∉A)(e:H a=aa u):zfR H A a=aa u:=(zex h).trans e
structure Chg(H F F' H':Hp)(A:List ae):Prop where
 ff:Same F F'
 fh:Same F' H'
 st:Same (zfR H A) H'
 nw:∀a u,zfR H A a=aa u->isT u=false->F' a=F a
def TR.far{Aj:List ae}{w:V}{p:OT}(t:TR K F H w p Aj)(c:Chg H F F' H' A)(h:∀a∈Aj,a∉A):TR K F' H' w p Aj/\∀a∈Aj,F' a=F a:=
 ⟨t.move c.ff λa ha=>let⟨_,h1,_⟩:=t.lies a ha;(c.st _ _ (zcd (h a ha) h1)).trans h1.symm,λa ha=>let⟨_,h1,h2⟩:=t.lies a ha;c.nw _ _ (zcd (h a ha) h1) h2⟩
def RS.chg(s:RS K B F H σ δ)(hi:δ[i]? =aa (aa (.obj o)))(hs:σ[i]? =aa (aa v))(t:TR K F H v o A)(c:Chg H F F' H' A)(t':TR K F' H' v o' A')(n':A'.Nodup)(f':∀a∈A',F' a=ab/\zfR H A a=ab) :
  RS K B F' H' σ (δ.set i (aa (.obj o')))/\FX B F F':=by
 obtain⟨A0,t0,n0,f0⟩:=s.at hi hs;cases t0.det t;have hB:∀a u,(B:Hp) a=aa u->zfR H A a=aa u:=λa u h=>zcd (λha=>by rw[(f0 a ha).2]at h;cases h) (s.bh _ _ h);have far:∀(j:Nat) (e:Ent) (w:V) (a:ae),i≠j->δ[j]? =aa (aa e)->σ[j]? =aa (aa w)->Occ K F H w e a->a∉A:=λj e w a hij h1 h2 h3 ha=>s.ao i j _ e v w a hij hi hs h1 h2 rfl ⟨A,t,ha⟩ h3;have mv:∀(j:Nat) (w:V) (p:OT) (Aj:List ae),i≠j->(δ[j]? =aa (aa (.obj p))\/∃ks es,δ[j]? =aa (aa (.vwt ks es))/\p=.dcT ks es)->σ[j]? =aa (aa w)->TR K F H w p Aj->TR K F' H' w p Aj/\∀a∈Aj,F' a=F a:=λj w p Aj hij h1 h2 tj=>
  tj.far c λa ha=>h1.elim (λh1=>far j _ w a hij h1 h2 ⟨Aj,tj,ha⟩) λ⟨ks,es,h1,hp⟩=>far j _ w a hij h1 h2 ⟨Aj,hp ▸ tj,ha⟩
 have bk:∀(j:Nat) (e:Ent) (w:V) (a:ae),i≠j->δ[j]? =aa (aa e)->σ[j]? =aa (aa w)->Occ K F' H' w e a->Occ K F H w e a:=λj e w a hij z1 z2 z3=>z3.back (s.at z1 z2) λp Aj he tj=>by
  rcases he with he|⟨ks,es,he,ho⟩
  ·subst he;exact(mv j w p Aj hij (.inl z1) z2 tj).1
  ·subst he;exact(mv j w p Aj hij (.inr ⟨ks,es,z1,ho⟩) z2 tj).1
 refine⟨⟨c.fh,λa u h=>c.st a u (hB a u h),by simp[s.len],λj e q=>?_,λa b l2 es e' hab q1 q2 q3 q4=>?_,λa b e1 e2 v1 v2 ad hab q1 q2 q3 q4 q5 q6 q7=>?_,λw p hw hp=>?_⟩,⟨c.ff,λa u h ht=>c.nw a u (hB a u h) ht⟩⟩
 ·rw[bf]at q;by_cases hij:i=j
  ·subst hij;rw[if_pos rfl]at q;split at q
   ·cases q;exact⟨v,hs,A',t',n',λa ha=>⟨(f' a ha).1,by
     cases z:(B:Hp) a with
     |none=>rfl
     |some u=>have:=hB a u z;rw[(f' a ha).2]at this;cases this⟩⟩
   ·cases q
  ·rw[if_neg hij]at q;obtain⟨w,p1,p2⟩:=s.ent j e q;refine⟨w,p1,?_⟩;cases e with
   |val d=>exact Rep.mono c.ff p2
   |bor ds=>obtain⟨l,vs,e,p3,p4⟩:=p2;exact⟨l,vs,e,p3,p4.mono c.ff⟩
   |own es=>
    obtain⟨l,vs,e,p3,p4,p5,p6⟩:=p2;have hl:=far j _ w l hij q p1 e;exact⟨l,vs,e,c.st _ _ (zcd hl p3),p4.mono c.ff,(c.nw _ _ (zcd hl p3) rfl).trans p5,p6⟩
   |vw es=>
    obtain⟨l,vs,e,p3,p4⟩:=p2;have hl:=far j _ w l hij q p1 e;exact⟨l,vs,e,c.st _ _ (zcd hl p3),p4.mono c.ff⟩
   |obj p=>
    obtain⟨Aj,tj,nj,fj⟩:=p2;obtain⟨m1,m2⟩:=mv j w p Aj hij (.inl q) p1 tj;exact⟨Aj,m1,nj,λa ha=>⟨(m2 a ha).trans (fj a ha).1,(fj a ha).2⟩⟩
   |vwt ks es=>obtain⟨Aj,tj⟩:=p2;exact⟨Aj,(mv j w _ Aj hij (.inr ⟨ks,es,q,rfl⟩) p1 tj).1⟩
   |bt ds=>obtain⟨l,vs,e,p3,p4⟩:=p2;exact⟨l,vs,e,p3,p4.mono c.ff⟩
 ·rw[bf]at q1 q3;by_cases hia:i=a
  ·subst hia;rw[if_pos rfl]at q1;split at q1 <;> cases q1
  ·rw[if_neg hia]at q1;by_cases hib:i=b
   ·subst hib;rw[if_pos rfl]at q3;split at q3
    ·cases q3;cases q4
    ·cases q3
   ·rw[if_neg hib]at q3;exact s.ap a b l2 es e' hab q1 q2 q3 q4
 ·have key:∀(j:Nat) (e:Ent) (w:V),i≠j->δ[j]? =aa (aa e)->σ[j]? =aa (aa w)->Occ K F' H' w e ad->Occ K F' H' v (.obj o') ad->False:=λj e w hij z1 z2 z3 z4=>by
   have z5:=bk j e w ad hij z1 z2 z3;obtain⟨u,hu⟩:=s.occ z1 z2 z5;obtain⟨A2,t2,h2⟩:=z4;rw[t2.det t']at h2;have:=(f' ad h2).2;rw[zcd (far j e w ad hij z1 z2 z5) hu]at this;cases this
  rw[bf]at q1 q3;by_cases hia:i=a
  ·subst hia;rw[if_pos rfl]at q1;rw[if_neg hab]at q3;split at q1
   ·cases q1;rw[hs]at q2;cases q2;exact key b e2 v2 hab q3 q4 q7 q6
   ·cases q1
  ·rw[if_neg hia]at q1;by_cases hib:i=b
   ·subst hib;rw[if_pos rfl]at q3;split at q3
    ·cases q3;rw[hs]at q4;cases q4;exact key a e1 v1 hia q1 q2 q6 q7
    ·cases q3
   ·rw[if_neg hib]at q3;exact s.ao a b e1 e2 v1 v2 ad hab q1 q2 q3 q4 q5 (bk a e1 v1 ad hia q1 q2 q6) (bk b e2 v2 ad hib q3 q4 q7)
 ·rw[bf]at hp;by_cases hi0:i=0
  ·subst hi0;exact s.pn w o hw hi
  ·rw[if_neg hi0]at hp;exact s.pn w p hw hp
def TRs.focus:∀{vs:List V} {os:List OT} {A:List ae} {k:Nat} {x:OT},TRs K F H vs os A->os[k]? =aa x->∃v A1,vs[k]? =aa v/\TR K F H v x A1/\(∀a∈A1,a∈A)/\(A.Nodup->A1.Nodup) /\
  ∀(F' H':Hp) (x':OT) (A1':List ae),A.Nodup->Same F F'->(∀a∈A,a∉A1->H' a=H a)->TR K F' H' v x' A1'->A1'.Nodup->(∀a∈A1',a∈A1\/a∉A)->∃A',TRs K F' H' vs (os.set k x') A'/\A'.Nodup/\∀a∈A',(a∈A/\a∉A1)\/a∈A1'
 | _,_,_,k,x,.nil,h=>by simp at h
 | _,_,_,0,x,.cons (A:=A0) (A':=A2) t ts,h=>by
  simp at h;subst h;refine⟨_,A0,rfl,t,λa ha=>aX _ ha,λn=>(bJ.mp n).1,λF' H' x' A1' n sf hh t' n' hd=>?_⟩;obtain⟨n0,n2,nd⟩:=bJ.mp n;refine⟨A1'++A2,.cons t' (ts.move sf λa ha=>hh a (av _ ha) λh0=>nd a h0 a ha rfl),bJ.mpr ⟨n',n2,λa ha b hb e=>?_⟩,λa ha=>?_⟩
  ·subst e;rcases hd a ha with h|h
   ·exact nd a h a hb rfl
   ·exact h (av _ hb)
  ·rcases aQ.mp ha with h|h
   ·exact .inr h
   ·exact .inl ⟨av _ h,λh0=>nd a h0 a h rfl⟩
 | _,_,_,k+1,x,.cons (A:=A0) (A':=A2) t ts,h=>by
  obtain⟨v,A1,h1,h2,h3,h3n,h4⟩:=TRs.focus (k:=k) (x:=x) ts (by simpa using h)
  refine⟨v,A1,by simpa using h1,h2,λa ha=>av _ (h3 a ha),λn=>h3n (bJ.mp n).2.1,λF' H' x' A1' n sf hh t' n' hd=>?_⟩;obtain⟨n0,n2,nd⟩:=bJ.mp n;obtain⟨A',m1,m2,m3⟩:=h4 F' H' x' A1' n2 sf (λa ha hn=>hh a (av _ ha) hn) t' n' λa ha=>(hd a ha).imp id λz q=>z (av _ q);refine⟨A0++A',.cons (t.move sf λa ha=>hh a (aX _ ha) λz=>nd a ha a (h3 a z) rfl) m1,bJ.mpr ⟨n0,m2,λa ha b hb e=>?_⟩,λa ha=>?_⟩
  ·subst e;rcases m3 a hb with h|h
   ·exact nd a ha a h.1 rfl
   ·rcases hd a h with h|h
    ·exact nd a ha a (h3 a h) rfl
    ·exact h (aX _ ha)
  ·rcases aQ.mp ha with h|h
   ·exact .inl ⟨aX _ h,λz=>nd a h a (h3 a z) rfl⟩
   ·exact(m3 a h).imp (λz=>⟨av _ z.1,z.2⟩) id
def TRs.put{y:V}{x:OT}{A1:List ae}(ty:TR K F H y x A1):∀{vs:List V} {os:List OT} {A:List ae} {k:Nat},TRs K F H vs os A->k<os.length->A.Nodup->A1.Nodup->(∀a∈A1,a∉A)->∃A',TRs K F H (vs.set k y) (os.set k x) A'/\A'.Nodup/\∀a∈A',a∈A\/a∈A1
 | _,_,_,k,.nil,h,_,_,_=>by simp at h
 | _,_,_,0,.cons (A:=A0) (A':=A2) t ts,_,n,n1,hd=>by
  obtain⟨n0,n2,nd⟩:=bJ.mp n;refine⟨A1++A2,.cons ty ts,bJ.mpr ⟨n1,n2,λa ha b hb e=>?_⟩,λa ha=>?_⟩
  ·subst e;exact hd a ha (av _ hb)
  ·exact(aQ.mp ha).elim .inr λz=>.inl (av _ z)
 | _,_,_,k+1,.cons (A:=A0) (A':=A2) t ts,h,n,n1,hd=>by
  obtain⟨n0,n2,nd⟩:=bJ.mp n;obtain⟨A',m1,m2,m3⟩:=TRs.put ty (k:=k) ts (by simpa using h) n2 n1 λa ha z=>hd a ha (av _ z);refine⟨A0++A',.cons t m1,bJ.mpr ⟨n0,m2,λa ha b hb e=>?_⟩,λa ha=>?_⟩
  ·subst e;rcases m3 a hb with z|z
   ·exact nd a ha a z rfl
   ·exact hd a z (aX _ ha)
  ·rcases aQ.mp ha with z|z
   ·exact .inl (aX _ z)
   ·exact(m3 a z).imp (av _) id
def TRs.add{y:V}{x:OT}{A1:List ae}(ty:TR K F H y x A1):∀{vs:List V} {os:List OT} {A:List ae},TRs K F H vs os A->∃A',TRs K F H (vs++[y]) (os++[x]) A'/\A'=A++A1
 | _,_,_,.nil=>⟨A1,by simpa using TRs.cons ty .nil,by simp⟩
 | _,_,_,.cons (A:=A0) t ts=>by
  obtain⟨A',m1,m2⟩:=TRs.add ty ts;exact⟨A0++A',.cons t m1,by rw[m2,a7]⟩
def zco:∀{ns:List Str} {vs:List V} {k:Nat} {f:Str} {v:V},ns.Nodup->ns[k]? =aa f->vs[k]? =aa v->(ns.zip vs).lookup f=aa v
 |[],_,_,_,_,_,h,_=>by simp at h
 | _::_,[],_,_,_,_,_,h=>by simp at h
 |n::ns,w::vs,0,f,v,_,h1,h2=>by
  simp at h1 h2;subst h1;subst h2;simp[cr]
 |n::ns,w::vs,k+1,f,v,nd,h1,h2=>by
  have h1':ns[k]? =aa f:=by simpa using h1
  have hne:(f==n)=false:=by
   rw[beq_eq_false_iff_ne];intro e;subst e;exact(aB.mp nd).1 (cL h1')
  rw[bG,cr,hne];exact zco (aB.mp nd).2 h1' (by simpa using h2)
def zes:∀{ns:List Str} {vs:List V} {f:Str},f∉ns->(ns.zip vs).lookup f=ab
 |[],_,_,_=>rfl
 | _::_,[],_,_=>rfl
 |n::ns,w::vs,f,h=>by
  have hne:(f==n)=false:=by
   rw[beq_eq_false_iff_ne];intro e;exact h (by simp[e])
  rw[bG,cr,hne];exact zes λz=>h (ah _ z)
def zjl:∀{ns:List Str} {vs:List V} {k:Nat} {f:Str} {y:V},ns.Nodup->ns[k]? =aa f->ns.length=vs.length->zgd f y (ns.zip vs)=ns.zip (vs.set k y)
 |[],_,_,_,_,_,h,_=>by simp at h
 | _::_,[],_,_,_,_,_,h=>by simp at h
 |n::ns,w::vs,0,f,y,_,h,_=>by
  simp at h;subst h;simp[zgd]
 |n::ns,w::vs,k+1,f,y,nd,h,hl=>by
  have h':ns[k]? =aa f:=by simpa using h
  have hne:¬ n=f:=λe=>by subst e;exact(aB.mp nd).1 (cL h')
  rw[bG,zgd,if_neg hne,zjl (aB.mp nd).2 h' (by simpa using hl)];rfl
def putF_new{ns:List Str}{vs:List V}{f:Str}{y:V}(h:f∉ns)(hl:ns.length=vs.length):zgd f y (ns.zip vs)=(ns++[f]).zip (vs++[y]):=by
 induction ns generalizing vs with
 |nil=>
  cases vs with
  |nil=>rfl
  |cons w vs=>simp at hl
 |cons n ns ih=>
  cases vs with
  |nil=>simp at hl
  |cons w vs=>
   have hne:¬ n=f:=λe=>h (by simp[e]);rw[bG,zgd,if_neg hne,ih (λz=>h (ah _ z)) (by simpa using hl)];rfl
def toO:Ent->Option OT
 |.val d=>aa (.val d)
 |.own ds=>aa (.lst ds)
 |.obj o=>aa o
 | _=>ab
def RepR.toO{e:Ent}{x:OT}(r:RepR K H0 F H v e)(q:toO e=aa x):NObj K H0 F H v x:=by
 cases e with
 |val d=>cases q;exact⟨[],.val r,.nil,λa h=>by cases h⟩
 |own ds=>cases q;obtain⟨l,vs,e,h0,h1,rs,h2⟩:=r;subst e;exact⟨[l],.lst h1 rs,by simp,λa h=>by simp at h;subst h;exact⟨h2,h0⟩⟩
 |obj o=>cases q;obtain⟨_,A,t,n,h⟩:=r;exact⟨A,t,n,h⟩
 | _=>cases q
end
noncomputable def isC(c:Str)(ns:List Str):OT->Option (List OT)
 |.ins c' ns' l=>gif (c'=c/\ns'=ns) (aa l)
 | _=>ab
def zbS{c:Str}{ns:List Str}{l:List OT}:isC c ns (.ins c ns l)=aa l:=gif_pos ⟨rfl,rfl⟩
def zcD{c:Str}{ns:List Str}{o:OT}{l:List OT}(h:isC c ns o=aa l):o=.ins c ns l:=by
 cases o with
 |ins c' ns' l'=>
  obtain⟨⟨h1,h2⟩,h3⟩:=za7 h;cases h3;rw[h1,h2]
 | _=>cases h
def oAt(i:Nat):En->Option OT:=λδ=>match δ[i]? with
 |some (aa (.obj o))=>aa o
 | _=>ab
def zaH{i:Nat}{δ:En}{o:OT}(h:oAt i δ=aa o):δ[i]? =aa (aa (.obj o)):=by
 unfold oAt at h;split at h
 ·rename_i o' e;cases h;exact e
 ·cases h
def fE:OT->Option Ent
 |.val d=>aa (.val d)
 |.lst ds=>aa (.vw ds)
 | _=>ab
noncomputable def eFld(i:Nat)(c:Str)(ns:List Str)(k:Nat):FE:=λδ=>((oAt i δ).bind (isC c ns)).bind λl=>(l[k]?).bind fE
structure ClsF(K:af)(c:Str)(ns:List Str):Prop where
 h:∀C,zcl K c C->Cls K C/\∀f∈ns,NoAttr K C f
def zbi{K:af}{c:Str}{C C':ae}(h:zcl K c C)(h':zcl K c C'):C=C':=by
 have:=h.symm.trans h';simp at this;exact this
section
variable {X:Cx}{e:Expr}{pos pos' p:Pos}{fe:FE}{x f c:Str}{i k:Nat}{ns nsF:List Str}
def vFld(i k:Nat)(hc:ClsF X.K c nsF)(hf:f∈nsF:=by decide +kernel)(hk:ns[k]? =aa f:=by rfl)(hn:ns.Nodup:=by decide +kernel)(hN:X.N[i]? =aa x:=by rfl)(hv:Vis X.env.scope x:=by first|exact az rfl|exact ba (az rfl)|exact ba (ba rfl))(hd:(x==("__debug__" : Str))=false:=by decide)
  (hcd:(x==("__classdict__" : Str))=false:=by decide) (hb:bT (.Name x p) f X.env (eval (.Name x p) X.env)=eval (.Name x p) X.env:=by rfl):VE X (.Attribute (.Name x p) f pos) (eFld i c ns k):=by
 refine⟨_,⟨zed (wv i hN hv hd hcd).h hb⟩,λB F H σ δ r Q s q kk=>?_⟩;obtain⟨l,q1,q⟩:=bind_some q;obtain⟨o,q0,q1⟩:=bind_some q1;obtain⟨x1,q2,q⟩:=bind_some q;cases zcD q1;obtain⟨v,h1,A,t,_,_⟩:=s.ent i _ (zaH q0);cases t with
 |ins hcl e1 e2 hl ts=>
  obtain⟨w,A1,h2,h3,_⟩:=ts.focus q2
  obtain⟨g1,g2⟩:=hc.h _ hcl;refine⟨_,h1,_,_,_,_,w,rfl,e1,g1,g2 f hf,zco hn hk h2,?_⟩;cases x1 with
  |val d=>cases q;cases h3 with|val h3=>exact kk w F H (Ex.refl s.fh) h3
  |lst ds=>cases q;cases h3 with|lst h3 h4=>exact kk _ F H (Ex.refl s.fh) ⟨_,_,rfl,h3,h4⟩
  |ins _ _ _=>cases q
  |dic _ _=>cases q
  |dcT _ _=>cases q
  |dcI _ _=>cases q
  |dcS _ _=>cases q
  |los _=>cases q
end
section
variable {K:af}{B:Bd}{F H F1 H1 F' H' H0:Hp}{σ:Sg}{δ:En}{v w:V}{A A' A1 A1':List ae}{a dx C:ae}{i k:Nat}{o x' x1:OT}{c:Str}{ns ns':List Str}{vs vs':List V}{l l':List OT}
def RS.fld(s:RS K B F H σ δ)(x:Ex F H F1 H1)(hi:δ[i]? =aa (aa (.obj (.ins c ns l))))(hs:σ[i]? =aa (aa (.ref a)))(hcl:zcl K c C)(e1:H a=aa (.ins C dx (ns.zip vs)))(e2:H dx=aa (.own a))(hl:ns.length=vs.length)(ts:TRs K F H vs l A)(n:(a::dx::A).Nodup)
  (hl':ns'.length=vs'.length) (ts':TRs K F1 H1 vs' l' A') (n':A'.Nodup) (hA:∀b∈A',b∈A\/(F1 b=ab/\H b=ab)) :
  RS K B F1 (upd H1 a (.ins C dx (ns'.zip vs'))) σ (δ.set i (aa (.obj (.ins c ns' l'))))/\FX B F F1:=by
 have t:TR K F H (.ref a) (.ins c ns l) (a::dx::A):=.ins hcl e1 e2 hl ts;obtain⟨A0,t0,n0,f0⟩:=s.at hi hs;cases t0.det t;have fA:∀b∈a::dx::A,F1 b=ab:=λb hb=>((t.ext x).2 b hb).trans (f0 b hb).1;have hadx:a≠dx:=λe=>(aB.mp n).1 (by rw[e];exact aj);have haA:a∉A:=λe=>(aB.mp n).1 (ah _ e);have hdA:dx∉A:=(aB.mp (aB.mp n).2).1;have ha':a∉A':=λe=>(hA a e).elim haA λz=>by rw[e1]at z;cases z.2
 have hd':dx∉A':=λe=>(hA dx e).elim hdA λz=>by rw[e2]at z;cases z.2
 refine s.chg hi hs t ⟨x.ff,λb u h=>?_,λb u h=>?_,λb u h ht=>?_⟩ (.ins hcl zaj (by rw[zai (cP hadx)];exact x.hh _ _ e2) hl' (ts'.move (Same.refl _) λb hb=>zai λe=>ha' (e ▸ hb))) ?_ λb hb=>?_
 ·rw[zai λe=>by subst e;rw[fA b aj]at h;cases h];exact x.fh _ _ h
 ·obtain⟨h1,h2⟩:=zaP h;rw[zai λe=>h1 (by rw[e];exact aj)];exact x.hh _ _ h2
 ·exact x.nw _ _ (zaP h).2 ht
 ·refine aB.mpr ⟨λh=>?_,aB.mpr ⟨hd',n'⟩⟩;rcases aE.mp h with e|e
  ·exact hadx e
  ·exact ha' e
 ·rcases aE.mp hb with e|hb
  ·subst e;exact⟨fA b aj,zcn aj⟩
  ·rcases aE.mp hb with e|hb
   ·subst e;exact⟨fA b (ah _ aj),zcn (ah _ aj)⟩
   ·rcases hA b hb with z|z
    ·exact⟨fA b (ah _ (ah _ z)),zcn (ah _ (ah _ z))⟩
    ·refine⟨z.1,?_⟩;unfold zfR;split
     ·rfl
     ·exact z.2
def RS.sub(s:RS K B F H σ δ)(hi:δ[i]? =aa (aa (.obj (.ins c ns l))))(hs:σ[i]? =aa (aa (.ref a)))(hcl:zcl K c C)(e1:H a=aa (.ins C dx (ns.zip vs)))(e2:H dx=aa (.own a))(hl:ns.length=vs.length)(ts:TRs K F H vs l A)
  (hk:l[k]? =aa x1) (hv:vs[k]? =aa w) (t1:TR K F H w x1 A1) (ch:Chg H F F' H' A1) (t':TR K F' H' w x' A1') (n':A1'.Nodup) (f':∀b∈A1',F' b=ab/\zfR H A1 b=ab) :
  RS K B F' H' σ (δ.set i (aa (.obj (.ins c ns (l.set k x')))))/\FX B F F':=by
 have t:TR K F H (.ref a) (.ins c ns l) (a::dx::A):=.ins hcl e1 e2 hl ts;obtain⟨A0,t0,n,f0⟩:=s.at hi hs;cases t0.det t;obtain⟨w',B1,hw,tb,sb,_,go⟩:=ts.focus hk
 rw[hv]at hw;cases hw;cases tb.det t1;have haA:a∉A:=λe=>(aB.mp n).1 (ah _ e);have hadx:a≠dx:=λe=>(aB.mp n).1 (by rw[e];exact aj);have hdA:dx∉A:=(aB.mp (aB.mp n).2).1;have nA:A.Nodup:=(aB.mp (aB.mp n).2).2;have stay:∀b u,b∉A1->H b=aa u->H' b=aa u:=λb u hb hu=>ch.st _ _ (zcd hb hu);have new:∀b∈A1',∀u,b∉A1->H b≠aa u:=λb hb u h1 h2=>by have:=(f' b hb).2;rw[zcd h1 h2]at this;cases this
 obtain⟨A2,m1,m2,m3⟩:=go F' H' x' A1' nA ch.ff (λb hb hn=>by
  obtain⟨u,hu,_⟩:=ts.lies b hb;rw[stay b u hn hu,hu]) t' n' λb hb=>by
   by_cases h1:b∈A1
   ·exact .inl h1
   ·exact .inr λh2=>by obtain⟨u,hu,_⟩:=ts.lies b h2;exact new b hb u h1 hu
 have ha1:a∉A1:=λe=>haA (sb a e);have hd1:dx∉A1:=λe=>hdA (sb dx e);have ha2:a∉A2:=λe=>(m3 a e).elim (λz=>haA z.1) λz=>new a z _ ha1 e1;have hd2:dx∉A2:=λe=>(m3 dx e).elim (λz=>hdA z.1) λz=>new dx z _ hd1 e2;refine s.chg hi hs t ⟨ch.ff,ch.fh,λb u h=>?_,λb u h ht=>?_⟩ (.ins hcl (stay _ _ ha1 e1) (stay _ _ hd1 e2) hl m1) ?_ λb hb=>?_
 ·obtain⟨h1,h2⟩:=zaP h;exact stay b u (λe=>h1 (ah _ (ah _ (sb b e)))) h2
 ·obtain⟨h1,h2⟩:=zaP h;exact ch.nw b u (zcd (λe=>h1 (ah _ (ah _ (sb b e)))) h2) ht
 ·refine aB.mpr ⟨λh=>?_,aB.mpr ⟨hd2,m2⟩⟩;rcases aE.mp h with e|e
  ·exact hadx e
  ·exact ha2 e
 ·have old:∀b u,b∈a::dx::A->b∉A1->H b=aa u->isT u=false->F' b=ab/\zfR H (a::dx::A) b=ab:=λb u h1 h2 h3 h4=>⟨(ch.nw b u (zcd h2 h3) h4).trans (f0 b h1).1,zcn h1⟩
  rcases aE.mp hb with e|hb
  ·subst e;exact old b _ aj ha1 e1 rfl
  ·rcases aE.mp hb with e|hb
   ·subst e;exact old b _ (ah _ aj) hd1 e2 rfl
   ·rcases m3 b hb with z|z
    ·obtain⟨u,hu,hu'⟩:=ts.lies b z.1;exact old b u (ah _ (ah _ z.1)) z.2 hu hu'
    ·refine⟨(f' b z).1,?_⟩;by_cases h1:b∈A1
     ·exact zcn (ah _ (ah _ (sb b h1)))
     ·have:=(f' b z).2;rw[zex h1]at this;unfold zfR;split
      ·rfl
      ·exact this
end
noncomputable def zge(i:Nat)(c:Str)(ns:List Str)(k:Nat)(fe:FE):FS:=λδ=>((fe δ).bind toO).bind λy=>((oAt i δ).bind (isC c ns)).bind λl=>if k<l.length then aa (.nx (δ.set i (aa (.obj (.ins c ns (l.set k y))))))else ab
noncomputable def zf4(i:Nat)(c:Str)(ns:List Str)(f:Str)(fe:FE):FS:=λδ=>((fe δ).bind toO).bind λy=>((oAt i δ).bind (isC c ns)).bind λl=>aa (.nx (δ.set i (aa (.obj (.ins c (ns++[f]) (l++[y]))))))
def lOf:OT->Option (List D)
 |.lst ds=>aa ds
 | _=>ab
noncomputable def fFApp(i:Nat)(c:Str)(ns:List Str)(k:Nat)(fe:FE):FS:=λδ=>((oAt i δ).bind (isC c ns)).bind λl=>((l[k]?).bind lOf).bind λds=>((fe δ).bind asV).bind λd=>gif (sz (ds.length+1)) (aa (.nx (δ.set i (aa (.obj (.ins c ns (l.set k (.lst (ds++[d])))))))))
section
variable {X:Cx}{e:Expr}{pos pos' p:Pos}{fe:FE}{x f c:Str}{i k:Nat}{ns nsF:List Str}
def sFSet(i k:Nat)(hc:ClsF X.K c nsF)(he:VE X e fe)(hf:f∈nsF:=by decide +kernel)(hk:ns[k]? =aa f:=by rfl)(hn:ns.Nodup:=by decide +kernel)(hfew:ns.length<1000:=by decide)(hN:X.N[i]? =aa x:=by rfl)(hv:Vis X.env.scope x:=by first|exact az rfl|exact ba (az rfl)|exact ba (ba rfl))(hd:(x==("__debug__" : Str))=false:=by decide)
  (hcd:(x==("__classdict__" : Str))=false:=by decide) (hs:swapsWith e (aa (.Attribute (.Name x p) f pos')) pos.line X.env=pure false:=by rfl):VS X (.Assign [.Attribute (.Name x p) f pos'] e pos) (zge i c ns k fe):=by
 obtain⟨t,w,m⟩:=he.h;refine⟨_,⟨ps_fld (wv i hN hv hd hcd).h w.h hs⟩,λB F H σ δ out DD s q kk=>?_⟩;obtain⟨y,q1,q⟩:=bind_some q;obtain⟨r,q1,q2⟩:=bind_some q1;obtain⟨l,q3,q⟩:=bind_some q;obtain⟨o,q3,q4⟩:=bind_some q3;split at q
 ·rename_i hlt;cases q;cases zcD q4;refine m B F H σ δ r _ s q1 λyv F1 H1 x1 z=>?_;obtain⟨v,h1,A,t,n,h⟩:=s.ent i _ (zaH q3);cases t with
  |ins hcl e1 e2 hl ts=>
   obtain⟨g1,g2⟩:=hc.h _ hcl;obtain⟨A1,ty,n1,f1⟩:=z.toO q2;have nA:=(aB.mp (aB.mp n).2).2;obtain⟨A',m1,m2,m3⟩:=TRs.put ty (ts.move x1.ff λb hb=>let⟨u,hu,_⟩:=ts.lies b hb;(x1.hh _ _ hu).trans hu.symm) hlt nA n1 λb hb hb'=>by
    obtain⟨u,hu,_⟩:=ts.lies b hb';rw[(f1 b hb).2]at hu;cases hu
   obtain⟨r1,r2⟩:=s.fld (ns':=ns) x1 (zaH q3) h1 hcl e1 e2 hl ts n (by rw[eI];exact hl) m1 m2 λb hb=>(m3 b hb).imp id λz=>f1 b z;refine⟨_,h1,_,_,_,_,rfl,x1.hh _ _ e1,g1,g2 f hf,?_,?_⟩
   ·rw[fD];lia
   ·rw[zjl hn hk hl];exact kk σ F1 _ r1 r2
 ·cases q
def zko(i:Nat)(hc:ClsF X.K c nsF)(he:VE X e fe)(hf:f∈nsF:=by decide +kernel)(hn:f∉ns:=by decide +kernel)(hfew:ns.length<1000:=by decide)(hN:X.N[i]? =aa x:=by rfl)(hv:Vis X.env.scope x:=by first|exact az rfl|exact ba (az rfl)|exact ba (ba rfl))(hd:(x==("__debug__" : Str))=false:=by decide)
  (hcd:(x==("__classdict__" : Str))=false:=by decide) (hs:swapsWith e (aa (.Attribute (.Name x p) f pos')) pos.line X.env=pure false:=by rfl):VS X (.Assign [.Attribute (.Name x p) f pos'] e pos) (zf4 i c ns f fe):=by
 obtain⟨t,w,m⟩:=he.h;refine⟨_,⟨ps_fld (wv i hN hv hd hcd).h w.h hs⟩,λB F H σ δ out DD s q kk=>?_⟩;obtain⟨y,q1,q⟩:=bind_some q;obtain⟨r,q1,q2⟩:=bind_some q1;obtain⟨l,q3,q⟩:=bind_some q;obtain⟨o,q3,q4⟩:=bind_some q3;cases q;cases zcD q4;refine m B F H σ δ r _ s q1 λyv F1 H1 x1 z=>?_;obtain⟨v,h1,A,t,n,h⟩:=s.ent i _ (zaH q3);cases t with
 |ins hcl e1 e2 hl ts=>
  obtain⟨g1,g2⟩:=hc.h _ hcl;obtain⟨A1,ty,n1,f1⟩:=z.toO q2;have nA:=(aB.mp (aB.mp n).2).2;obtain⟨A',m1,m2⟩:=TRs.add ty (ts.move x1.ff λb hb=>let⟨u,hu,_⟩:=ts.lies b hb;(x1.hh _ _ hu).trans hu.symm);subst m2;obtain⟨r1,r2⟩:=s.fld (ns':=ns++[f]) x1 (zaH q3) h1 hcl e1 e2 hl ts n (by simp[hl]) m1 (bJ.mpr ⟨nA,n1,λb hb b' hb' e=>by
   subst e;obtain⟨u,hu,_⟩:=ts.lies b hb;rw[(f1 b hb').2]at hu;cases hu⟩) λb hb=>(aQ.mp hb).imp id λz=>f1 b z
  refine⟨_,h1,_,_,_,_,rfl,x1.hh _ _ e1,g1,g2 f hf,?_,?_⟩
  ·rw[fD];lia
  ·rw[putF_new hn hl];exact kk σ F1 _ r1 r2
def sFApp(i k:Nat){apos cpos:Pos}(hc:ClsF X.K c nsF)(he:VE X e fe)(hf:f∈nsF:=by decide +kernel)(hk:ns[k]? =aa f:=by rfl)(hn:ns.Nodup:=by decide +kernel)(hN:X.N[i]? =aa x:=by rfl)(hv:Vis X.env.scope x:=by first|exact az rfl|exact ba (az rfl)|exact ba (ba rfl))(hd:(x==("__debug__" : Str))=false:=by decide)
  (hcd:(x==("__classdict__" : Str))=false:=by decide) (hb:bT (.Name x p) f X.env (eval (.Name x p) X.env)=eval (.Name x p) X.env:=by rfl)
  (hbase:bT (.Attribute (.Name x p) f pos') "append" X.env (eval (.Attribute (.Name x p) f pos') X.env)=eval (.Attribute (.Name x p) f pos') X.env:=by rfl) (hline:(apos.endLine==cpos.line)=true:=by rfl) (h1:zan e=true:=by rfl)
  (hs:swapsWith (.Call (.Attribute (.Attribute (.Name x p) f pos') "append" apos) [e] [] cpos) ab pos.line X.env=pure false:=by rfl) :
  VS X (.Expr (.Call (.Attribute (.Attribute (.Name x p) f pos') "append" apos) [e] [] cpos) pos) (fFApp i c ns k fe):=by
 obtain⟨t,w,m⟩:=he.h;refine⟨_,sex (wbm dG gl gp zeD ⟨zed (wv i hN hv hd hcd).h hb⟩ (wac w wnil h1) hbase rfl hline h1 rfl) hs,λB F H σ δ out DD s q kk=>?_⟩;obtain⟨l,q3,q⟩:=bind_some q;obtain⟨o,q3,q4⟩:=bind_some q3;obtain⟨ds,q5,q⟩:=bind_some q;obtain⟨x1,q5,q6⟩:=bind_some q5;obtain⟨d,q1,q⟩:=bind_some q;obtain⟨r,q1,q2⟩:=bind_some q1;obtain⟨hlen,qz⟩:=za7 q;cases qz;cases zcD q4;obtain⟨v,h1,A,t,n,h⟩:=s.ent i _ (zaH q3);cases t with
 |ins hcl e1 e2 hl ts=>
  obtain⟨g1,g2⟩:=hc.h _ hcl;obtain⟨w,A1,h2,h3,h4,_⟩:=ts.focus q5
  refine⟨_,h1,_,_,_,_,w,rfl,e1,g1,g2 f hf,zco hn hk h2,?_⟩;cases x1 with
  |val _=>cases q6
  |ins _ _ _=>cases q6
  |dic _ _=>cases q6
  |dcT _ _=>cases q6
  |dcI _ _=>cases q6
  |dcS _ _=>cases q6
  |los _=>cases q6
  |lst _=>
   cases q6;cases h3 with
   |@lst ad vs _ h5 h6=>
    refine⟨.inl ⟨rfl,_,SqL.of h5⟩,?_⟩;refine m B F H σ δ r _ s q1 λy F1 H1 x1 z=>?_;obtain⟨F2,x2,sm,r2⟩:=RepR.frz x1 (Same.refl _) z q2;refine⟨ad,vs,y,rfl,rfl,x2.hh _ _ h5,?_,?_⟩
    ·rw[h6.length,cn];unfold sz at hlen;lia
    ·have fl:F2 ad=ab:=(x2.nw _ _ h5 rfl).trans (h ad (ah _ (ah _ (h4 ad (by simp))))).1;obtain⟨z1,z2⟩:=s.sub (A1:=[ad]) (H':=upd H1 ad (.lst (vs++[y]))) (x':=.lst (ds++[d])) (zaH q3) h1 hcl e1 e2 hl ts q5 h2 (.lst h5 h6) ⟨x2.ff,λb u hb=>by
       rw[zai λe=>by subst e;rw[fl]at hb;cases hb];exact x2.fh _ _ hb,λb u hb=>by
       obtain⟨z1,z2⟩:=zaP hb;rw[zai λe=>z1 (by simp[e])];exact x2.hh _ _ z2,λb u hb ht=>x2.nw _ _ (zaP hb).2 ht⟩
      (.lst zaj ((h6.mono x2.ff).append (.one r2))) (by simp) λb hb=>by
       simp at hb;subst hb;exact⟨fl,zcn (by simp)⟩
     exact kk σ F2 _ z1 z2
end
end L3

namespace L3
open PySem PySem.Spec PyProof.Rows L2
abbrev FXE:=En->Option (D×En)
abbrev FXT:=En->Option (Bool×En)
abbrev FXA:=En->Option (List D×En)
abbrev GM:=OT->List D->Option (D×OT)
def SemX(K:af)(t:TE)(f:FXE):Prop:=∀(B:Bd) (F H:Hp) (σ:Sg) (δ:En) (d:D) (δ':En) (Q:VK),RS K B F H σ δ->f δ=aa (d,δ')->(∀v F' H',RS K B F' H' σ δ'->FX B F F'->Rep F' v d->Q v H')->t σ H Q
def SemXT(K:af)(t:TT)(f:FXT):Prop:=∀(B:Bd) (F H:Hp) (σ:Sg) (δ:En) (b:Bool) (δ':En) (Q:Bool->Hp->Prop),RS K B F H σ δ->f δ=aa (b,δ')->(∀F' H',RS K B F' H' σ δ'->FX B F F'->Q b H')->t σ H Q
def SemXA(K:af)(t:TA)(f:FXA):Prop:=∀(B:Bd) (F H:Hp) (σ:Sg) (δ:En) (ds:List D) (δ':En) (Q:List V->Hp->Prop),RS K B F H σ δ->f δ=aa (ds,δ')->(∀vs F' H',RS K B F' H' σ δ'->FX B F F'->Reps F' vs ds->Q vs H')->t σ H Q
structure VX(X:Cx)(e:Expr)(f:FXE):Prop where
 h:∃t,WE X e t/\SemX X.K t f
structure VXT(X:Cx)(e:Expr)(f:FXT):Prop where
 h:∃t,WT X e t/\SemXT X.K t f
structure VXA(X:Cx)(es:List Expr)(f:FXA):Prop where
 h:∃t,WA X es t/\SemXA X.K t f
def x2(g:Ent->Ent->Option Ent)(fa fb:FXE):FXE:=λδ=>(fa δ).bind λp=>(fb p.2).bind λq=>((g (.val p.1) (.val q.1)).bind asV).map λd=>(d,q.2)
def bOfD:D->Option Bool
 |.bl b=>aa b
 | _=>ab
def xT(fe:FXE):FXT:=λδ=>(fe δ).bind λp=>(bOfD p.1).map λb=>(b,p.2)
def xN(ft:FXT):FXT:=λδ=>(ft δ).map λp=>(!p.1,p.2)
section
variable {X:Cx}{a b c e:Expr}{es rest:List Expr}{pos p:Pos}{fa fb:FXE}{fs:FXA}{ft:FXT}{fe:FE}{x:Str}
def bOfD_some{d:D}{b:Bool}(h:bOfD d=aa b):d=.bl b:=by cases d <;> first|(cases h;rfl)|cases h
def SemX.op{K:af}{r:R2}{ta tb:TE}{g:Ent->Ent->Option Ent}(hr:zkk K r g)(ha:SemX K ta fa)(hb:SemX K tb fb):SemX K (tOp r ta tb) (x2 g fa fb):=λB F H σ δ d δ' Q s q k=>by
 obtain⟨p1,q1,q⟩:=bind_some q;obtain⟨p2,q2,q⟩:=bind_some q;obtain⟨d',q3,q⟩:=map_some q;cases q;obtain⟨res,q3,q4⟩:=bind_some q3;refine ha B F H σ δ p1.1 p1.2 _ s q1 λv F1 H1 s1 y1 r1=>?_;refine hb B F1 H1 σ p1.2 p2.1 p2.2 _ s1 q2 λw F2 H2 s2 y2 r2=>?_;refine hr H2 F2 H2 v w (.val p1.1) (.val p2.1) res Q s2.fh (Same.refl _) (Rep.mono y2.ff r1) r2 q3 λv' F' H' x3 r3=>?_;obtain⟨F4,x4,_,r4⟩:=RepR.frz x3 (Same.refl _) r3 q4;exact k v' F4 H' (s2.ext x4) ((y1.trans y2).trans (.of x4 s2.bh)) r4
def txv(h:VX X e fa)(he:∀whole,isTrue e X.env whole=(do let v <- whole;standAt e.pos;holding [v] (truthy v)):=by intro _;rfl):VXT X e (xT fa):=by
 obtain⟨t,w,m⟩:=h.h;refine⟨_,tval w he,λB F H σ δ b δ' Q s q k=>?_⟩;obtain⟨p1,q1,q⟩:=bind_some q;obtain⟨bb,q2,q⟩:=map_some q;cases q;exact m B F H σ δ p1.1 p1.2 _ s q1 λv F1 H1 s1 y1 r1=>⟨_,zhM (bOfD_some q2 ▸ r1),k F1 H1 s1 y1⟩
def txn(ha:VXT X a ft):VXT X (.UnaryOp .Not a pos) (xN ft):=by
 obtain⟨t,w,m⟩:=ha.h;refine⟨_,tnot w,λB F H σ δ b δ' Q s q k=>?_⟩;obtain⟨p1,q1,q⟩:=map_some q;cases q;exact m B F H σ δ p1.1 p1.2 _ s q1 λF1 H1 s1 y1=>k F1 H1 s1 y1
end
def fX(fx:FXE):FS:=λδ=>(fx δ).map λp=>.nx p.2
def zj4(fx:FXE):FS:=λδ=>(fx δ).map λp=>.rt (.val p.1) p.2
def fXIf(ft:FXT)(f g:FS):FS:=λδ=>(ft δ).bind λp=>if p.1=true then f p.2 else g p.2
def ziN(i:Nat)(fe:FE):FS:=λδ=>(fe δ).bind λr=>match r with
 |.obj o=>aa (.nx (δ.set i (aa (.obj o))))
 | _=>ab
section
variable {X:Cx}{e c:Expr}{pos pos' p:Pos}{fx:FXE}{ft:FXT}{fe:FE}{x:Str}{body els:List Stmt}{f g:FS}
def sX(h:VX X e fx)(hs:swapsWith e ab pos.line X.env=pure false:=by rfl):VS X (.Expr e pos) (fX fx):=by
 obtain⟨t,w,m⟩:=h.h;refine⟨_,sex w hs,λB F H σ δ out DD s q k=>?_⟩;obtain⟨p1,q1,q⟩:=map_some q;cases q;exact m B F H σ δ p1.1 p1.2 _ s q1 λv F1 H1 s1 y1 _=>k σ F1 H1 s1 y1
def sXRet(h:VX X e fx):VS X (.Return (aa e) pos) (zj4 fx):=by
 obtain⟨t,w,m⟩:=h.h;refine⟨_,sret w,λB F H σ δ out DD s q k=>?_⟩;obtain⟨p1,q1,q⟩:=map_some q;cases q;exact m B F H σ δ p1.1 p1.2 _ s q1 λv F1 H1 s1 y1 r1=>k v σ F1 H1 s1 y1 r1
def sXIf(hc:VXT X c ft)(ha:VSs X body f)(hb:VSs X els g):VS X (.If c body els pos) (fXIf ft f g):=by
 obtain⟨t,w,m⟩:=hc.h;obtain⟨t1,w1,m1⟩:=ha.h;obtain⟨t2,w2,m2⟩:=hb.h;refine⟨_,sif w w1 w2,λB F H σ δ out DD s q k=>?_⟩;obtain⟨⟨bb,δ1⟩,q1,q⟩:=bind_some q;refine m B F H σ δ bb δ1 _ s q1 λF' H' s' y=>?_;cases bb with
 |true=>exact zj0 (m1 B F' H' σ δ1 out DD s' q (k.mono y))
 |false=>exact zjx (m2 B F' H' σ δ1 out DD s' q (k.mono y))
def sSetO{i:Nat}(h0:0<i)(hN:X.N.Nodup)(hi:X.N[i]? =aa x)(hx:Loc X.env.scope x)(he:VE X e fe)(hs:swapsWith e (aa (.Name x pos')) pos.line X.env=pure false:=by rfl)(hf:X.fn x=true\/X.env.scope.names.lookup x=aa .local:=by first|exact .inl rfl|exact .inr rfl|assumption) :
  VS X (.Assign [.Name x pos'] e pos) (ziN i fe):=by
 obtain⟨t,w,m⟩:=he.h;refine⟨_,sset hN hi hx w hs hf,λB F H σ δ out DD s q k=>?_⟩;obtain⟨r,q1,q⟩:=bind_some q;cases r with
 |obj o=>cases q;exact m B F H σ δ _ _ s q1 λv F' H' x z=>k _ F' H' (s.putO x i h0 z) (.of x s.bh)
 | _=>cases q
end
inductive SpM(K:af)(g:GM)(vs:List V)(H:Hp)(Q:VK):Prop
 |mk (v:V) (ws:List V) (F:Hp) (o:OT) (A:List ae) (ds:List D) (d:D) (o':OT):vs=v::ws->Same F H->TR K F H v o A->A.Nodup->(∀a∈A,F a=ab)->Reps F ws ds->g o ds=aa (d,o') ->
 (∀x F' H' A',Chg H F F' H' A->TR K F' H' v o' A'->A'.Nodup->(∀a∈A',F' a=ab/\zfR H A a=ab)->Rep F' x d->Q x H')->SpM K g vs H Q
def spM(K:af)(g:GM):Sp:=λvs H Q _=>SpM K g vs H Q
def endM:Out->Option (D×OT)
 |.rt (.val d) δ=>(oAt 0 δ).map λo=>(d,o)
 |.nx δ=>(oAt 0 δ).map λo=>(.non,o)
 | _=>ab
def zhc(n m:Nat)(f:FS)(o:OT)(ds:List D):Option (D×OT):=if ds.length=n then (f (aa (.obj o)::(ds.map λd=>aa (.val d))++aG m ab)).bind endM else ab
section
variable {P:aI}{w:aO}{K:af}{mg:Str->Option ag}{base:aV}{x qual:Str}{st:Stmt}{f:ae}{fd:bx}{N ps:List Str}{k n:Nat}{g:GM}
def zfI(F:FunA K x qual st f fd)(S:FnScope N ps (zae st))(fb:FS)(hk:ps.length=n+1)(hg:∀o ds r,g o ds=aa r->zhc n (N.length-ps.length) fb o ds=aa r)
  (hbody:∀(cdv:ag) (A:aW) (outer:List Env) (s:ai) (H:Hp) (E:XK),Room k (A.deeper (envOfC qual (zae st) s.heap.objs.size f cdv))->VSs (cxOf CX0 P w K mg base N qual (zae st) f cdv A outer s H E).nox (zbe st) fb) :
  FnOk P w K mg base CX0 (k+1) f fd ps (spM K g):=by
 obtain⟨oc,od,dV,kV,doc,pm,an,cdv,ct,osl,rfl,lk,hcd⟩:=F.ex;refine fn_of lk hcd S (λvs H Q E h=>?_) λA outer s H vs Q E hr h=>?_
 ·obtain⟨v,ws,F,o,A,ds,d,o',rfl,_,_,_,_,rs,q,_⟩:=h;have:=hg _ _ _ q;unfold zhc at this;split at this
  ·rename_i hl;rw[au,rs.length,hl,hk]
  ·cases this
 ·obtain⟨v,ws,F,o,A,ds,d,o',rfl,fh,t,nd,fA,rs,q,kk⟩:=h;obtain⟨tt,wt,m⟩:=(hbody cdv _ outer s H E hr).h;refine⟨tt,wt.h.nox,?_⟩;have q2:=hg _ _ _ q;unfold zhc at q2;split at q2
  ·rename_i hl;obtain⟨out,q3,q4⟩:=bind_some q2;have hws:=rs.length;have ent:∀(i:Nat) (e:Ent),(aa (Ent.obj o)::(ds.map λd=>aa (Ent.val d))++aG (N.length-ps.length) ab)[i]? =aa (aa e)->(i=0/\e=.obj o)\/∃j d,i=j+1/\ds[j]? =aa d/\e=.val d:=λi e h=>by
    cases i with
    |zero=>simp at h;exact .inl ⟨rfl,h.symm⟩
    |succ j=>
     rw[ej,bN]at h;by_cases hj:j<(ds.map λd=>aa (Ent.val d)).length
     ·rw[bg hj,aA]at h;cases z:ds[j]? with
      |none=>rw[z]at h;cases h
      |some d=>rw[z]at h;cases h;exact .inr ⟨j,d,rfl,z,rfl⟩
     ·rw[bL (by lia),dg]at h;split at h <;> cases h
   have sv:∀(i:Nat) (y:V),(v::ws)[i]? =aa y->(L2.start N (v::ws))[i]? =aa (aa y):=λi y h=>by
    unfold L2.start;rw[bg (by rw[al];exact(bo.mp h).1),aA,h];rfl
   have s0:RS K ⟨zfR H A,aa v⟩ F H (L2.start N (v::ws)) (aa (.obj o)::(ds.map λd=>aa (.val d))++aG (N.length-ps.length) ab):=by
    refine⟨fh,λa u h=>(zaP h).2,?_,λi e h=>?_,λa b l es e hab h1=>?_,λa b e1 e2 v1 v2 ad hab q1 q2 q3 q4 q5 q6 q7=>?_,λw p hw _=>?_⟩
    ·unfold L2.start;simp only[am,al,cH,au];lia
    ·rcases ent i e h with ⟨rfl,rfl⟩|⟨j,d,rfl,hd,rfl⟩
     ·exact⟨v,sv 0 v rfl,A,t,nd,λa ha=>⟨fA a ha,zcn ha⟩⟩
     ·obtain⟨y,hy,ry⟩:=rs.get hd;exact⟨y,sv (j+1) y (by simpa using hy),ry⟩
    ·rcases ent a _ h1 with ⟨_,z⟩|⟨j,d,_,_,z⟩ <;> cases z
    ·rcases ent a _ q1 with ⟨rfl,rfl⟩|⟨j,d,_,_,rfl⟩
     ·rcases ent b _ q3 with ⟨rfl,_⟩|⟨j,d,_,_,rfl⟩
      ·exact hab rfl
      ·exact q7
     ·cases q5
    ·cases hw;exact sv 0 v rfl
   have fin:∀(δ':En) (σ':Sg) (F' H':Hp) (y:V),RS K ⟨zfR H A,aa v⟩ F' H' σ' δ'->FX (zfR H A) F F'->oAt 0 δ'=aa o'->Rep F' y d->Q y H':=λδ' σ' F' H' y s' y' ho ry=>by
    have h0:=s'.pn v o' rfl (zaH ho);obtain⟨A',t',n',f'⟩:=s'.at (zaH ho) h0;exact kk y F' H' A' ⟨y'.ff,s'.fh,s'.bh,y'.nw⟩ t' n' f' ry
   refine m ⟨zfR H A,aa v⟩ F H (L2.start N (v::ws)) _ out _ s0 q3 ?_;cases out with
   |nx δ'=>
    obtain⟨o2,h1,h2⟩:=map_some q4;cases h2;exact λσ' F' H' s' y=>fin δ' σ' F' H' .non s' y h1 .non
   |rt r' δ'=>
    cases r' with
    |val d'=>
     obtain⟨o2,h1,h2⟩:=map_some q4;cases h2;exact λy σ' F' H' s' yy z=>fin δ' σ' F' H' y s' yy h1 z
    | _=>cases q4
   |bk δ'=>cases q4
   |ct δ'=>cases q4
  ·cases q2
end
structure MethD(K:af)(c:Str)(m:Str)(st:Stmt)(qual:Str)(ps:List Str)(f:ae)(fd:bx):Prop where
 fn:FunA K m qual st f fd
 at_:∀C,zcl K c C->Meth K C m f
 b:Binds K fd ps []
noncomputable def xM(i:Nat)(c:Str)(ns:List Str)(g:GM)(fa:FA):FXE:=λδ=>(oAt i δ).bind λo=>(isC c ns o).bind λ_=>((fa δ).bind zdF).bind λds=>(g o ds).map λp=>(p.1,δ.set i (aa (.obj p.2)))
noncomputable def xMF(i:Nat)(c:Str)(ns:List Str)(k:Nat)(c2:Str)(ns2:List Str)(g:GM)(fa:FA):FXE:=λδ=>((oAt i δ).bind (isC c ns)).bind λl=>(l[k]?).bind λo=>(isC c2 ns2 o).bind λ_=>((fa δ).bind zdF).bind λds=>(g o ds).map λp=>(p.1,δ.set i (aa (.obj (.ins c ns (l.set k p.2)))))
section
variable {X:Cx}{e:Expr}{es:List Expr}{pos pos' p apos:Pos}{fa:FA}{x f m c c2 qual:Str}{ns nsF ns2 nsF2 ps:List Str}{g:GM}{fd:bx}{fm:ae}{st:Stmt}{kk j:Nat}{pl:Sem Bool}
def SemM.at{K:af}{C:ae}{t:TA}{E:XK}{i:Nat}(sm:SemA K t fa)(hcl:zcl K c C)(hm:m∉ns):SemX K (tMeth C m (spM K g) [] E (zd1 i) t) (xM i c ns g fa):=λB F H σ δ d δ' Q s q k=>by
 obtain⟨o,q0,q⟩:=bind_some q;obtain⟨l,q1,q⟩:=bind_some q;obtain⟨ds,q2,q⟩:=bind_some q;obtain⟨rs,q2,q3⟩:=bind_some q2;obtain⟨p1,q4,q⟩:=map_some q;cases q;cases zcD q1;obtain⟨v,h1,A,t0,n0,f0⟩:=s.ent i _ (zaH q0);cases t0 with
 |ins hcl' e1 e2 hl ts=>
  cases zbi hcl hcl';refine⟨_,h1,_,_,_,rfl,e1,zes hm,?_⟩;refine sm B F H σ δ rs _ s q2 λvs F1 H1 x1 r1=>?_;obtain⟨F2,x2,_,r2⟩:=RepRs.frz x1 (Same.refl _) r1 q3;have s2:=s.ext x2;have tt:=((TR.ins hcl' e1 e2 hl ts).ext x2)
  rw[aU];refine⟨_,vs,F2,_,_,ds,p1.1,p1.2,rfl,s2.fh,tt.1,n0,λa ha=>(tt.2 a ha).trans (f0 a ha).1,r2,q4,λy F' H' A' ch t' n' f' ry=>?_⟩;obtain⟨z1,z2⟩:=s2.chg (zaH q0) h1 tt.1 ch t' n' f';exact k y F' H' z1 ((FX.of x2 s.bh).trans z2) ry
def SemM.sub{K:af}{C2:ae}{t:TA}{E:XK}{i k:Nat}(sm:SemA K t fa)(hc:ClsF K c nsF)(hcl2:zcl K c2 C2)(hm:m∉ns2)(hf:f∈nsF)(hk:ns[k]? =aa f)(hn:ns.Nodup):SemX K (tMeth C2 m (spM K g) [] E (zi3 K (zd1 i) f) t) (xMF i c ns k c2 ns2 g fa):=λB F H σ δ d δ' Q s q kk=>by
 obtain⟨l,q0,q⟩:=bind_some q;obtain⟨o,q0,q1⟩:=bind_some q0;obtain⟨o1,q5,q⟩:=bind_some q;obtain⟨l2,q6,q⟩:=bind_some q;obtain⟨ds,q2,q⟩:=bind_some q;obtain⟨rs,q2,q3⟩:=bind_some q2;obtain⟨p1,q4,q⟩:=map_some q;cases q;cases zcD q1;cases zcD q6;obtain⟨v,h1,A,t0,n0,f0⟩:=s.ent i _ (zaH q0);cases t0 with
 |ins hcl e1 e2 hl ts=>
  obtain⟨g1,g2⟩:=hc.h _ hcl;obtain⟨w,A1,h2,h3,h4,h4n,_⟩:=ts.focus q5
  have nA:=(aB.mp (aB.mp n0).2).2;refine⟨_,h1,_,_,_,_,w,rfl,e1,g1,g2 f hf,zco hn hk h2,?_⟩;cases h3 with
  |ins hcl' d1 d2 dl us=>
   cases zbi hcl2 hcl';refine⟨_,_,_,rfl,d1,zes hm,?_⟩;refine sm B F H σ δ rs _ s q2 λvs F1 H1 x1 r1=>?_;obtain⟨F2,x2,_,r2⟩:=RepRs.frz x1 (Same.refl _) r1 q3;have s2:=s.ext x2;have tt:=((TR.ins hcl' d1 d2 dl us).ext x2)
   have ts2:=ts.move (H':=H1) x2.ff λb hb=>let⟨u,hu,_⟩:=ts.lies b hb;(x2.hh _ _ hu).trans hu.symm;rw[aU];refine⟨_,vs,F2,_,_,ds,p1.1,p1.2,rfl,s2.fh,tt.1,h4n nA,λa ha=>(tt.2 a ha).trans (f0 a (ah _ (ah _ (h4 a ha)))).1,r2,q4,λy F' H' A' ch t' n' f' ry=>?_⟩;obtain⟨z1,z2⟩:=s2.sub (zaH q0) h1 hcl (x2.hh _ _ e1) (x2.hh _ _ e2) hl ts2 q5 h2 tt.1 ch t' n' f';exact kk y F' H' z1 ((FX.of x2 s.bh).trans z2) ry
def semNil{K:af}:SemA K tNil zad:=λB F H σ δ rs Q s q k=>by cases q;exact k [] F H (Ex.refl s.fh) .nil
variable {CX:CXT}{E:XK}
structure ClsD(K:af)(mg:Str->Option ag)(c:Str)(nsF:List Str)(C:ae):Prop where
 at_:zcl K c C
 mg:mg c=aa (.ref C)
 cl:Cls K C
 no:∀f∈nsF,NoAttr K C f
def ClsD.toF{K:af}{mg:Str->Option ag}{C:ae}(D:ClsD K mg c nsF C):ClsF K c nsF:=⟨λC' h=>by cases zbi D.at_ h;exact⟨D.cl,D.no⟩⟩
def xmeth{C:ae}(i:Nat)(DC:ClsD X.K X.mg c nsF C)(D:MethD X.K c m st qual ps fm fd)(F:FnOk X.prog X.w X.K X.mg X.base CX kk fm fd ps (spM X.K g))(hr:Room j X.A)(hx:zcm CX X E)(ha:VA X (e::es) fa)(hm:m∉ns:=by decide +kernel)(hjk:kk<=j:=by decide)
  (hN:X.N[i]? =aa x:=by rfl) (hv:Vis X.env.scope x:=by first|exact az rfl|exact ba (az rfl)|exact ba (ba rfl)) (hd:(x==("__debug__" : Str))=false:=by decide) (hcd:(x==("__classdict__" : Str))=false:=by decide)
  (h1:zan e=true:=by rfl) (h2:es.all zan=true:=by rfl)
  (ht:eval (.Call (.Attribute (.Name x p) m apos) (e :: es) [] pos) X.env=(do
   let ov <- eval (.Name x p) X.env
   standAt apos.atName
   let (f,first) <- holding [ov] (getMethod ov m pl)
   callWith pos f first (backTo pos (br (e::es) X.env)) (backToKw pos (keywordEach [] X.env))):=by rfl) :
  VX X (.Call (.Attribute (.Name x p) m apos) (e::es) [] pos) (xM i c ns g fa):=
 let⟨_,w,sm⟩:=ha.h;⟨_,⟨pe_meth (wv i hN hv hd hcd).h DC.cl (D.at_ _ DC.at_) F (hr.mono hjk) D.b .nil hx w.h (zaz h1) (zcx h2) ht⟩,SemM.at sm DC.at_ hm⟩
def xmeth0{C:ae}(i:Nat)(DC:ClsD X.K X.mg c nsF C)(D:MethD X.K c m st qual ps fm fd)(F:FnOk X.prog X.w X.K X.mg X.base CX kk fm fd ps (spM X.K g))(hr:Room j X.A)(hx:zcm CX X E)(hm:m∉ns:=by decide +kernel)(hjk:kk<=j:=by decide)
  (hN:X.N[i]? =aa x:=by rfl) (hv:Vis X.env.scope x:=by first|exact az rfl|exact ba (az rfl)|exact ba (ba rfl)) (hd:(x==("__debug__" : Str))=false:=by decide) (hcd:(x==("__classdict__" : Str))=false:=by decide)
  (ht:eval (.Call (.Attribute (.Name x p) m apos) [] [] pos) X.env=(do
   let ov <- eval (.Name x p) X.env
   standAt apos.atName
   let (f,first) <- holding [ov] (getMethod ov m pl)
   callWith pos f first (backTo pos (br [] X.env)) (backToKw pos (keywordEach [] X.env))):=by rfl) :
  VX X (.Call (.Attribute (.Name x p) m apos) [] [] pos) (xM i c ns g zad):=
 ⟨_,⟨pe_meth0 (wv i hN hv hd hcd).h DC.cl (D.at_ _ DC.at_) F (hr.mono hjk) D.b .nil hx ht⟩,SemM.at semNil DC.at_ hm⟩
end
def zeP(c:Str)(g:GM)(fa:FA):FE:=λδ=>((fa δ).bind zdF).bind λds=>(g (.ins c [] []) ds).bind λp=>match p.1 with
 |.non=>aa (.obj p.2)
 | _=>ab
structure MakeD(K:af)(c:Str)(st:Stmt)(qual:Str)(ps:List Str)(f:ae)(fd:bx):Prop where
 fn:FunA K "__init__" qual st f fd
 at_:∀C,zcl K c C->Mk K C f
 b:Binds K fd ps []
section
variable {X:Cx}{e:Expr}{es:List Expr}{pos p:Pos}{fa:FA}{c qual:Str}{nsF ps:List Str}{g:GM}{fd:bx}{fm:ae}{st:Stmt}{kk j:Nat}{CX:CXT}{E:XK}
def SemE.make{K:af}{C:ae}{t:TA}{E:XK}(sm:SemA K t fa)(hcl:zcl K c C):SemE K (tMake C (spM K g) [] E t) (zeP c g fa):=λB F H σ δ res Q s q k=>by
 obtain⟨ds,q1,q⟩:=bind_some q;obtain⟨rs,q1,q2⟩:=bind_some q1;obtain⟨p1,q3,q⟩:=bind_some q;refine sm B F H σ δ rs _ s q1 λvs F1 H1 x1 r1=>?_;obtain⟨F2,x2,_,r2⟩:=RepRs.frz x1 (Same.refl _) r1 q2;intro a dx ha hdx hne;have fa0:F2 a=ab:=x2.fh.free ha;have fd0:F2 dx=ab:=x2.fh.free hdx;have sH:Same H1 (upd (upd H1 dx (.own a)) a (.ins C dx [])):=(Same.alloc hdx).trans (Same.alloc (by rw[zai (cP hne)];exact ha))
 rw[aU];refine⟨_,vs,F2,.ins c [] [],[a,dx],ds,p1.1,p1.2,rfl,x2.fh.trans sH,?_,by simp[cP hne],λb hb=>?_,r2,q3,λy F' H' A' ch t' n' f' ry=>?_⟩
 ·exact .ins (vs:=[]) (A:=[]) hcl zaj (by rw[zai hne];exact zaj) rfl .nil
 ·simp at hb;rcases hb with rfl|rfl
  ·exact fa0
  ·exact fd0
 ·obtain⟨d0,o0⟩:=p1;cases d0 with
  |non=>
   cases q;have st:∀b u,H1 b=aa u->zfR (upd (upd H1 dx (.own a)) a (.ins C dx [])) [a,dx] b=aa u:=λb u hb=>zcd (λz=>by
    simp at z;rcases z with rfl|rfl
    ·rw[ha]at hb;cases hb
    ·rw[hdx]at hb;cases hb) (sH _ _ hb)
   refine⟨zit ry,k _ F' H' ⟨x2.ff.trans ch.ff,ch.fh,λb u hb=>ch.st _ _ (st b u (x2.hh _ _ hb)),λb u hb ht=>(ch.nw b u (st b u (x2.hh _ _ hb)) ht).trans (x2.nw b u hb ht)⟩ ⟨⟨a,rfl⟩,A',t',n',λb hb=>⟨(f' b hb).1,?_⟩⟩⟩;cases z:H b with
   |none=>rfl
   |some u=>have:=st b u (x2.hh _ _ z);rw[(f' b hb).2]at this;cases this
  | _=>cases q
def vmake{C:ae}(DC:ClsD X.K X.mg c nsF C)(D:MakeD X.K c st qual ps fm fd)(F:FnOk X.prog X.w X.K X.mg X.base CX kk fm fd ps (spM X.K g))(hr:Room j X.A)(hg:Gl X c)(hx:zcm CX X E)(ha:VA X (e::es) fa)(hjk:kk+1<=j:=by decide)(hdb:(c==("__debug__" : Str))=false:=by decide)
  (h1:zan e=true:=by rfl) (h2:es.all zan=true:=by rfl):VE X (.Call (.Name c p) (e::es) [] pos) (zeP c g fa):=
 let⟨_,w,sm⟩:=ha.h;⟨_,⟨pe_make (D.at_ _ DC.at_) F (hr.mono hjk) hg DC.mg D.b .nil hx w.h hdb (zaz h1) (zcx h2)⟩,.make sm DC.at_⟩
end
end L3

namespace L2
open PySem PySem.Spec PyProof.Rows
def pkD(ks:List Str)(k:Str):List Str:=if k∈ks then ks else ks++[k]
def pvG{α:Type}(ks:List Str)(vs:List α)(k:Str)(v:α):List α:=if k∈ks then d3 (λx y=>if x=k then v else y) ks vs else vs++[v]
def zgR{α:Type}{ks:List Str}{vs:List α}{k:Str}{v:α}(h:ks.length=vs.length):(pkD ks k).length=(pvG ks vs k v).length/\(pkD ks k).length<=ks.length+1:=by
 unfold pkD pvG;split
 ·rw[List.length_zipWith];lia
 ·simp[h]
def kv_any{k:Str}:∀{ks:List Str} {vs:List V} {us:List (Key×ag)},ks.length=vs.length->KV ((ks.map aY).zip vs) us->(us.any λkv=>decide (kv.1=aY k))=decide (k∈ks)
 |[],[],us,_,r=>by
  unfold KV at r;cases r;rfl
 |x::ks,v::vs,us,hl,r=>by
  unfold KV at r;rw[ar,bG]at r;cases r with
  |@cons _ q _ qs h t=>
   rw[List.any_cons,kv_any (by simpa using hl) t,<- h.1];by_cases e:x=k
   ·subst e;simp
   ·have e':¬ k=x:=λz=>e z.symm;simp[e,e']
def kv_repl{k:Str}{v:V}{u:ag}(ry:RelV v u):∀{ks:List Str} {vs:List V} {us:List (Key×ag)},ks.length=vs.length->KV ((ks.map aY).zip vs) us ->
  KV ((ks.map aY).zip (d3 (λx y=>if x=k then v else y) ks vs)) (us.map λkv=>if kv.1=aY k then (kv.1,u)else kv)
 |[],[],us,_,r=>by
  unfold KV at r;cases r;exact .nil
 |x::ks,w::vs,us,hl,r=>by
  unfold KV at r;rw[ar,bG]at r;cases r with
  |@cons _ q _ qs h t=>
   obtain⟨h1,h2⟩:=h;have h1':aY x=q.1:=h1;rw[ar,ar,cS,bG];refine .cons ?_ (kv_repl ry (by simpa using hl) t);by_cases e:x=k
   ·rw[if_pos e,if_pos (by rw[<- h1',e])];exact⟨h1',ry⟩
   ·rw[if_neg e,if_neg (λz=>e (kE (h1'.trans z)))];exact⟨h1',h2⟩
def kv_snoc{k:Str}{v:V}{u:ag}(ry:RelV v u):∀{ks:List Str} {vs:List V} {us:List (Key×ag)},ks.length=vs.length->KV ((ks.map aY).zip vs) us ->
  KV (((ks++[k]).map aY).zip (vs++[v])) (us++[(aY k,u)])
 |[],[],us,_,r=>by
  unfold KV at r;cases r;exact .cons ⟨rfl,ry⟩ .nil
 |x::ks,w::vs,us,hl,r=>by
  unfold KV at r;rw[ar,bG]at r;cases r with
  |cons h t=>exact .cons h (kv_snoc ry (by simpa using hl) t)
def kv_put{k:Str}{v:V}{u:ag}{ks:List Str}{vs:List V}{us:List (Key×ag)}(ry:RelV v u)(hl:ks.length=vs.length)(r:KV ((ks.map aY).zip vs) us) :
  KV (((pkD ks k).map aY).zip (pvG ks vs k v)) (stored us (aY k) u):=by
 unfold stored pkD pvG;rw[kv_any hl r];by_cases e:k∈ks
 ·rw[if_pos e,if_pos e,if_pos (decide_eq_true e)];exact kv_repl ry hl r
 ·rw[if_neg e,if_neg e,if_neg (by simpa using e)];exact kv_snoc ry hl r
section
variable {X:Cx}
def rSetD:V->V->V->Hp->(Hp->Prop)->Prop:=λo i v H Q=>∃p ks vs k,o=.ref p/\i=.str k/\H p=aa (.dK ((ks.map aY).zip vs))/\ks.length=vs.length/\ks.length<1000000/\Q (upd H p (.dK (((pkD ks k).map aY).zip (pvG ks vs k v))))
def set_dic:PSet X rSetD:=by
 intro pins s σ H o i v ov iv u Q I ro ri rv h;obtain⟨p,ks,vs,k,rfl,rfl,hp,hl,hz,q⟩:=h;cases ro;obtain⟨z,hd,us,rel,dd⟩:=I.hok p _ hp;have hu:us.length<=bj:=by rw[<- jC rel];exact z
 refine wpAny_setItem_pairs (hsz:=hu) (kisS ri) dd λh' dd' hs=>⟨_,?_,q⟩
 have he:∃q,h'.get? p=aa q:=let⟨q,_,_,hq,_⟩:=dd';⟨q,hq⟩;have hn:((((pkD ks k).map aY).zip (pvG ks vs k v)):List (Key×V)).length<=bj:=by
  have:=(zgR (k:=k) (v:=v) hl).2;rw[fD,al,cn];lia
 exact I.write (x:=p) (e:=p) (by rw[hp];exact fB) (.inl rfl) (λb q hb z=>(hs.2 b hb).trans z) he ⟨hn,hd,_,kv_put rv hl rel,dd'⟩
def rGet:V->List V->Hp->VK->Prop:=λx xs H Q=>∃a kvs z d,x=.ref a/\xs=[.str z,d]/\Rd H a (.dK kvs)/\Q ((atK kvs (aY z)).getD d) H
def mt_get:MtR X "dict.get" rGet:=by
 intro pins s σ H x xs v us Q I rx rxs h;obtain⟨a,kvs,z,d,rfl,rfl,e,q⟩:=h;cases rx;cases rxs with
 |cons r1 r=>
  cases r with
  |cons r2 r=>
   cases r;obtain⟨_,hd,vs,rel,dd⟩:=e.ok I.hok;refine call_meetsIn fq dd.typeIs PySem.F.entry_dict_get (PySem.F.args_dict_get_3 _ _ _) (meets_dict_get_default (zbo X.prog X.w) a (kisS r1) hd _) ⟨_,dd.mapOf,_,H,I.tok _,?_,q⟩;rcases zgC rel (aY z)with ⟨v2,w,e1,e2,e3⟩|⟨e1,e2⟩
   ·rw[e1,e2];exact e3
   ·rw[e1,e2];exact r2
end
end L2
namespace L3
open PySem PySem.Spec PyProof.Rows L2
def reps_pv{F:Hp}{k:Str}{v:V}{d:D}(r:Rep F v d):∀{ks:List Str} {vs:List V} {ds:List D},Reps F vs ds->Reps F (pvG ks vs k v) (pvG ks ds k d):=by
 have key:∀(ks:List Str) {vs:List V} {ds:List D},Reps F vs ds->Reps F (d3 (λx y=>if x=k then v else y) ks vs) (d3 (λx y=>if x=k then d else y) ks ds):=by
  intro ks
  induction ks with
  |nil=>intro vs ds _;exact .nil
  |cons x ks ih=>
   intro vs ds h;cases h with
   |nil=>exact .nil
   |cons h t=>
    rw[cS,cS];refine .cons ?_ (ih t);by_cases e:x=k
    ·rw[if_pos e,if_pos e];exact r
    ·rw[if_neg e,if_neg e];exact h
 intro ks vs ds h;unfold pvG;split
 ·exact key ks h
 ·exact h.append (.one r)
def oDic:OT->Option (List Str×List D)
 |.dic ks ds=>aa (ks,ds)
 | _=>ab
def oDic_some{o:OT}{p:List Str×List D}(h:oDic o=aa p):o=.dic p.1 p.2:=by
 cases o <;> first|(cases h;rfl)|(cases h)
def dAt(i:Nat):En->Option (List Str×List D):=λδ=>(oAt i δ).bind oDic
def zfy{i:Nat}{δ:En}{p:List Str×List D}(h:dAt i δ=aa p):δ[i]? =aa (aa (.obj (.dic p.1 p.2))):=by
 obtain⟨o,h1,h2⟩:=bind_some h;cases oDic_some h2;exact zaH h1
def eD0:FE:=λ_=>aa (.obj (.dic [] []))
def gDg(p:List Str×List D):List Ent->Option Ent
 |[a,b]=>(sOf a).map λz=>(lkD p.1 p.2 z).elim b .val
 | _=>ab
def gGet:Ent->List Ent->Option Ent:=λx es=>(dOf x).bind λp=>gDg p es
def eDget(i:Nat)(fs:FA):FE:=λδ=>(dAt i δ).bind λp=>(fs δ).bind (gDg p)
noncomputable def fDput(i:Nat)(fk fe:FE):FS:=λδ=>((fe δ).bind asV).bind λd=>((fk δ).bind sOf).bind λk=>(dAt i δ).bind λp=>gif (sz (p.1.length+1)) (aa (.nx (δ.set i (aa (.obj (.dic (pkD p.1 k) (pvG p.1 p.2 k d)))))))
def fFrzD(i:Nat)(g:FS):FS:=λδ=>(dAt i δ).bind λp=>g (δ.set i (aa (.val (.dic p.1 p.2))))
section
variable {K:af}{B:Bd}{F H F' H' H0:Hp}{σ:Sg}{δ:En}{v:V}{i:Nat}{ks:List Str}{ds:List D}
def gDg_ok{a:ae}{vs ws:List V}{es:List Ent}{res:Ent}{Q:VK}(e:Rd H a (.dK ((ks.map aY).zip vs)))(hl:ks.length=vs.length)(rs:Reps F vs ds)(rw':RepRs K H0 F H ws es)(q:gDg (ks,ds) es=aa res)(k:∀v,RepR K H0 F H v res->Q v H):rGet (.ref a) ws H Q:=by
 match es,q with
 |[x,y],q=>
  obtain⟨z,q1,q2⟩:=map_some q;cases zbc q1;have q3:(lkD ks ds z).elim y .val=res:=q2;subst q3;cases rw' with
  |cons r1 r=>
   cases r with
   |cons r2 r=>
    cases r;cases zbQ r1;refine⟨a,_,z,_,rfl,rfl,e,?_⟩;rcases lkD_ok z hl rs with ⟨d',v,e1,e2,e3⟩|⟨e1,e2⟩
    ·rw[e2];rw[e1]at k;exact k _ e3
    ·rw[e2];rw[e1]at k;exact k _ r2
def RS.frzD(s:RS K B F H σ δ)(hi:δ[i]? =aa (aa (.obj (.dic ks ds)))):∃a kvs,σ[i]? =aa (aa (.ref a))/\H a=aa (.dK kvs)/\∀ob,∃F',FX B F F'/\RS K B F' (upd H a (.frz ob (.dK kvs))) σ (δ.set i (aa (.val (.dic ks ds)))):=by
 obtain⟨v,h1,A,t,n,h⟩:=s.ent i _ hi;cases t with
 |@dic a _ vs _ e l rs=>
  refine⟨a,_,h1,e,λob=>?_⟩;have fl:=(h a (by simp)).1;have sm:Same F (upd F a (.frz ob (.dK ((ks.map aY).zip vs)))):=Same.alloc fl;have rp:Rep (upd F a (.frz ob (.dK ((ks.map aY).zip vs)))) (.ref a) (.dic ks ds):=.dic zaj l (rs.mono sm);obtain⟨z1,z2⟩:=s.chg (o':=.val (.dic ks ds)) (H':=upd H a (.frz ob (.dK ((ks.map aY).zip vs)))) hi h1 (.dic e l rs) ⟨sm,λb u hb=>by
    by_cases hb':b=a
    ·subst hb';rw[zaj]at hb ⊢;exact hb
    ·rw[zai hb']at hb ⊢;exact s.fh b u hb,λb u hb=>by
    rw[zai λz=>(zaP hb).1 (by simp[z])];exact(zaP hb).2,λb u hb _=>zai λz=>(zaP hb).1 (by simp[z])⟩
   (.val rp) .nil λb hb=>by cases hb
  have z3:=z1.putV i rp;rw[iU]at z3;obtain⟨hlt,he⟩:=bo.mp h1;rw[<- he,List.set_getElem_self]at z3;exact⟨_,z2,z3⟩
end
section
variable {X:Cx}{e ix o:Expr}{es:List Expr}{pos p tpos apos cpos:Pos}{fe fx fo:FE}{fs:FA}{x:Str}{sr:List Stmt}{g:FS}
def vD0:VE X (.Dict [] [] pos) eD0:=⟨_,wdnew,λB F H σ δ res Q s q k p hp=>by
 cases q;exact k _ F _ (Ex.lay s.fh hp) ⟨⟨p,rfl⟩,[p],.dic (vs:=[]) zaj rfl .nil,by simp,λa ha=>by
  simp at ha;subst ha;exact⟨s.fh.free hp,hp⟩⟩⟩
def m_get:MtD X "dict" "get" gGet:=⟨_,_,gA,fq,g8,mt_get,λH0 F H x e es res fh r q=>by
  obtain⟨p,q1,q⟩:=bind_some q;cases zfs q1;cases (show Rep F x (.dic p.1 p.2)from r)with
  |dic e l rs=>exact .inr (.inr (.inl ⟨rfl,.inl ⟨_,.inr ⟨_,fh _ _ e⟩⟩⟩)),λH0 F H x vs e es res Q fh hh r rs q k=>by
  obtain⟨p,q1,q⟩:=bind_some q;cases zfs q1;cases (show Rep F x (.dic p.1 p.2)from r)with
  |dic e l rd=>exact gDg_ok (K:=X.K) (H0:=H0) (.inr ⟨_,fh _ _ e⟩) l rd rs q λv rv=>k v F H (Ex.refl fh) rv⟩
def vDget(i:Nat)(ha:VA X (e::es) fs)(hN:X.N[i]? =aa x:=by rfl)(hv:Vis X.env.scope x:=by first|exact az rfl|exact ba (az rfl)|exact ba (ba rfl))(hd:(x==("__debug__" : Str))=false:=by decide)(hcd:(x==("__classdict__" : Str))=false:=by decide)
  (hbase:bT (.Name x p) "get" X.env (eval (.Name x p) X.env)=eval (.Name x p) X.env:=by rfl) (hl:decide ((e::es).length+0+0<30)=true:=by rfl) (hline:(apos.endLine==cpos.line)=true:=by rfl)
  (h1:zan e=true:=by rfl) (h2:es.all zan=true:=by rfl):VE X (.Call (.Attribute (.Name x p) "get" apos) (e::es) [] cpos) (eDget i fs):=by
 obtain⟨ta,wa,ma⟩:=ha.h;refine⟨_,wbm gA fq g8 mt_get (wv i hN hv hd hcd) wa hbase hl hline h1 h2,λB F H σ δ res Q s q k=>?_⟩;obtain⟨p,q1,q⟩:=bind_some q;obtain⟨rs,q2,q⟩:=bind_some q;obtain⟨v,h1,A,t,n,h⟩:=s.ent i _ (zfy q1);cases t with
 |dic e1 hl rd=>
  refine⟨_,h1,.inr (.inr (.inl ⟨rfl,.inl ⟨_,.inl e1⟩⟩)),?_⟩;refine ma B F H σ δ rs _ s q2 λvs F2 H2 x2 r2=>?_;exact gDg_ok (K:=X.K) (H0:=H) (.inl (x2.hh _ _ e1)) hl (rd.mono x2.ff) r2 q λv rv=>k v F2 H2 x2 rv
def sDput(i:Nat)(he:VE X e fe)(hx:VE X ix fx)(hN:X.N[i]? =aa x:=by rfl)(hv:Vis X.env.scope x:=by first|exact az rfl|exact ba (az rfl)|exact ba (ba rfl))(hd:(x==("__debug__" : Str))=false:=by decide)(hcd:(x==("__classdict__" : Str))=false:=by decide)
  (hg:∀{to ti:TE},WE X (.Name x p) to->WE X ix ti->WG X (.Subscript (.Name x p) ix tpos) (gSub to ti rSetD))
  (hs:swapsWithSole [.Subscript (.Name x p) ix tpos] e pos.line X.env=pure false:=by rfl) (hw:swappedStores [.Subscript (.Name x p) ix tpos] e X.env=pure ab:=by rfl) (h1:(cv [.Subscript (.Name x p) ix tpos] X.env).map (·.2)=[assign (.Subscript (.Name x p) ix tpos) X.env]:=by rfl) :
  VS X (.Assign [.Subscript (.Name x p) ix tpos] e pos) (fDput i fx fe):=by
 obtain⟨t,w,m⟩:=he.h;obtain⟨t2,w2,m2⟩:=hx.h;refine⟨_,sasg w (hg (wv i hN hv hd hcd) w2) hs hw h1,λB F H σ δ out DD s q k=>?_⟩;obtain⟨d,q1,q⟩:=bind_some q;obtain⟨r,q2,q3⟩:=bind_some q1;obtain⟨kk,q4,q⟩:=bind_some q;obtain⟨rk,q5,q6⟩:=bind_some q4;obtain⟨p,q7,q⟩:=bind_some q;obtain⟨hlen,qz⟩:=za7 q;cases qz;cases zbc q6;refine m B F H σ δ r _ s q2 λy F1 H1 x1 z=>?_;obtain⟨F2,x2,sm,r2⟩:=RepR.frz x1 (Same.refl _) z q3;have s2:=s.ext x2;obtain⟨v,h1,A,t,n,h⟩:=s.ent i _ (zfy q7);refine⟨_,h1,m2 B F2 H1 σ δ _ _ s2 q5 λyk F3 H3 x3 z3=>?_⟩;cases zbQ z3;have s3:=s2.ext x3;have x23:=x2.trans x3;cases t with
 |@dic a _ vs _ e1 hl rd=>
  have tt:=(TR.dic (K:=X.K) e1 hl rd).ext x23;have fl:F3 a=ab:=(tt.2 a (by simp)).trans (h a (by simp)).1;have r3:=Rep.mono x3.ff r2;refine⟨a,p.1,vs,kk,rfl,rfl,x23.hh _ _ e1,hl,by unfold sz at hlen;lia,?_⟩;obtain⟨z1,z2⟩:=s3.chg (o':=.dic (pkD p.1 kk) (pvG p.1 p.2 kk d)) (H':=upd H3 a (.dK (((pkD p.1 kk).map aY).zip (pvG p.1 vs kk y)))) (F':=F3) (zfy q7) h1 tt.1 ⟨Same.refl _,λb u hb=>by
    rw[zai λz=>by subst z;rw[fl]at hb;cases hb];exact x23.fh _ _ hb,λb u hb=>by
    obtain⟨z1,z2⟩:=zaP hb;rw[zai λz=>z1 (by simp[z])];exact z2,λ_ _ _ _=>rfl⟩
   (.dic zaj (zgR hl).1 (reps_pv r3 (rd.mono x23.ff))) (by simp) λb hb=>by
    simp at hb;subst hb;exact⟨fl,zcn (by simp)⟩
  exact k σ F3 _ z1 ((FX.of x23 s.bh).trans z2)
def pss_frzD{i:Nat}{u:TS}(h:PSs X sr u):PSs X sr (λDD σ H=>∃a kvs,σ[i]? =aa (aa (.ref a))/\H a=aa (.dK kvs)/\∀ob,u DD σ (upd H a (.frz ob (.dK kvs)))):=by
 intro pins s σ H DD I q;obtain⟨a,kvs,_,e,q⟩:=q;have z:=I.hok a _ e;obtain⟨_,_,_,_,ob,_,_,ho,_⟩:=id z;refine h pins s σ _ DD (I.write (x:=a) (e:=a) (h':=s.heap) (t':=s.toks) (o:=.frz ob (.dK kvs)) (by rw[e];exact fB) (.inl rfl) (λ_ _ _ z=>z) ⟨_,ho⟩ ⟨ho,?_⟩) (q ob);exact z
def sFrzD(i:Nat)(h:VSs X sr g):VSs X sr (fFrzD i g):=by
 obtain⟨u,w2,m2⟩:=h.h;refine⟨_,⟨pss_frzD (i:=i) w2.h⟩,λB F H σ δ out DD s q k=>?_⟩;obtain⟨p,q1,q⟩:=bind_some q;obtain⟨a,kvs,h1,h2,h3⟩:=s.frzD (zfy q1);refine⟨a,kvs,h1,h2,λob=>?_⟩;obtain⟨F',x,s'⟩:=h3 ob;exact m2 B F' _ σ _ out DD s' q (k.mono x)
end
end L3

namespace L2
open PySem PySem.Spec PyProof.Rows
section
variable {prog:aI}{w:aO}{A:aW}{E:ag->ai->Prop}{s:ai}
structure Rises(st:SortSt):Prop where
 k:kindOf st=oneType'
 r:∀i,1<=i->i<(arrOf st).size->∃a t p b u q,(arrOf st)[i]? =aa (.int a t,p)/\(arrOf st)[i-1]? =aa (.int b u,q)/\b<=a
end
end L2

namespace L2
open PySem PySem.Spec PyProof.Rows
end L2
namespace L3
open PySem PySem.Spec PyProof.Rows L2
section
variable {X:Cx}
end
end L3

namespace L2
open PySem PySem.Spec PyProof.Rows
def gal:Bool->Keyed->Array Keyed->Nat->Nat->Nat->StateT SortSt Sem (Option Nat):=sortPriv% PySem.Builtin.gallop
def mgLo:Array Keyed->Array Keyed->StateT SortSt Sem (Array Keyed):=sortPriv% PySem.Builtin.mergeLo
def mgHi:Array Keyed->Array Keyed->StateT SortSt Sem (Array Keyed):=sortPriv% PySem.Builtin.mergeHi
def setMG:Nat->StateT SortSt Sem Unit:=sortPriv% PySem.Builtin.setMinGallop
abbrev zcG(st:SortSt)(g:Nat):SortSt:=eO (kindOf st) (arrOf st) (be st) g (failedOf st)
structure Rk(prog:aI)(w:aO)(A:aW)(s:ai)(kd:SortKind)(D:Keyed->Prop)(rk:Keyed->Nat):Prop where
 lt:∀x y,D x->D y->∀(E:ag->ai->Prop) (Q:Bool->ai->Prop),Q (decide (rk x<rk y)) s->aM (model prog w) A (keyLt' kd x.1 y.1) Q E s
section
variable {prog:aI}{w:aO}{A:aW}{E:ag->ai->Prop}{s:ai}{kd:SortKind}{D:Keyed->Prop}{rk:Keyed->Nat}{st:SortSt}
def wpS_set{σ:Type}{M:Model}{x:σ}{Q:PUnit->σ->Prop}{st:σ}(h:Q ⟨⟩ x):wpS M A E s (set x:StateT σ Sem PUnit) Q st:=by
 unfold wpS;rw[StateT.run_set];exact a8 ⟨rfl,h⟩
def wpS_q(R:Rk prog w A s kd D rk){x y:Keyed}{Q:Option Bool->SortSt->Prop}(hk:kindOf st=kd)(hx:D x)(hy:D y)(h:Q (aa (decide (rk x<rk y))) st):wpS (model prog w) A E s (lt' x y) Q st:=by
 rw[lt'_eq];refine aw (wpS_get ?_);rw[hk];refine aw (wpS_lift (wpAny_attempt (R.lt x y hx hy _ _ ⟨rfl,?_⟩)));exact aD h
def zbv{arr:Array Keyed}{i:Nat}{Q:Keyed->SortSt->Prop}(hi:i<arr.size)(h:Q arr[i] st):wpS (model prog w) A E s (elem' arr i) Q st:=by
 rw[elem'_eq,getElem?_pos arr i hi];exact aD h
def zdZ{r:String}{Q:Unit->SortSt->Prop}(h:Q () st):wpS (model prog w) A E s (liftM (rule r):StateT SortSt Sem Unit) Q st:=wpS_lift (wpAny_rule ⟨rfl,h⟩)
def zgH{g:Nat}{Q:Unit->SortSt->Prop}(h:Q () (zcG st g)):wpS (model prog w) A E s (setMG g) Q st:=wpS_modify h
def beyB(rk:Keyed->Nat)(left:Bool)(key:Keyed)(arr:Array Keyed)(base i:Nat):Bool:=if left then decide ((arr[base+i]?.map rk).getD 0<rk key)else !decide (rk key<(arr[base+i]?.map rk).getD 0)
def wpS_bey(R:Rk prog w A s kd D rk){left:Bool}{key:Keyed}{arr:Array Keyed}{base i:Nat}{Q:Option Bool->SortSt->Prop}(hk:kindOf st=kd)(hD:∀x∈arr,D x)(hy:D key)(hi:base+i<arr.size)(h:Q (aa (beyB rk left key arr base i)) st) :
  wpS (model prog w) A E s (elem' arr (base+i) >>= λx=>if left=true then lt' x key else lt' key x >>= λq=>pure (iu (λb=>!b) q)) Q st:=by
 have e:arr[base+i]? =aa arr[base+i]:=getElem?_pos arr _ hi;unfold beyB at h;rw[e]at h;refine aw (zbv hi ?_);cases left with
 |true=>exact wpS_q R hk (hD _ (bv hi)) hy h
 |false=>exact aw (wpS_q R hk hy (hD _ (bv hi)) (aD h))
def gal_bs{n:Nat}{f:Nat->Option (Option Nat)×Nat×Nat->StateT SortSt Sem (ForInStep (Option (Option Nat)×Nat×Nat))}{g:Option (Option Nat)×Nat×Nat->StateT SortSt Sem (Option Nat)}{B:Nat->Bool}{Q:Option Nat->SortSt->Prop}{lo hi:Nat}
  (mono:∀i j,i<=j->j<n->B j=true->B i=true)
  (stop:∀x lo hi (P:ForInStep (Option (Option Nat)×Nat×Nat)->SortSt->Prop),lo ≥ hi->P (.done (ab,lo,hi)) st->wpS (model prog w) A E s (f x (ab,lo,hi)) P st)
  (go:∀x lo hi (P:ForInStep (Option (Option Nat)×Nat×Nat)->SortSt->Prop),¬ lo ≥ hi->hi<=n->(B (lo+(hi-lo) / 2)=true->P (.yield (ab,lo+(hi-lo) / 2+1,hi)) st)->(B (lo+(hi-lo) / 2)=false->P (.yield (ab,lo,lo+(hi-lo) / 2)) st)->wpS (model prog w) A E s (f x (ab,lo,hi)) P st)
  (out:∀k,Q (aa k) st->wpS (model prog w) A E s (g (ab,k,k)) Q st)
  (h1:lo<=hi) (h2:hi<=n) (h3:∀i,i<lo->B i=true) (h4:∀i,hi<=i->i<n->B i=false)
  (h:∀k,k<=n->(∀i,i<k->B i=true)->(∀i,k<=i->i<n->B i=false)->Q (aa k) st):wpS (model prog w) A E s (forIn [0:n] (ab,lo,hi) f >>= g) Q st:=by
 refine aw (wpS_mono (cf (I:=λx c st'=>st'=st/\∃lo hi,c=(ab,lo,hi)/\lo<=hi/\hi<=n/\hi-lo<=n-x/\(∀i,i<lo->B i=true)/\(∀i,hi<=i->i<n->B i=false))
  (Q:=λc st'=>st'=st/\∃k,c=(ab,k,k)/\k<=n/\(∀i,i<k->B i=true)/\(∀i,k<=i->i<n->B i=false)) ?step ?fin ⟨rfl,lo,hi,rfl,h1,h2,by lia,h3,h4⟩) ?post)
 case post=>
  rintro c st' ⟨rfl,k,rfl,k1,k2,k3⟩;exact out k (h k k1 k2 k3)
 case fin=>
  rintro c st' ⟨rfl,lo,hi,rfl,h1,h2,h3,h4,h5⟩;have:lo=hi:=by lia
  subst this;exact⟨rfl,lo,rfl,h2,h4,h5⟩
 case step=>
  rintro x c st' _ hx ⟨rfl,lo,hi,rfl,h1,h2,h3,h4,h5⟩;by_cases hge:lo ≥ hi
  ·have:lo=hi:=by lia
   subst this;exact stop x lo lo _ hge ⟨rfl,lo,rfl,h2,h4,h5⟩
  ·refine go x lo hi _ hge h2 (λhm=>?_) λhm=>?_
   ·exact⟨rfl,_,_,rfl,by lia,h2,by lia,λi hi'=>mono i (lo+(hi-lo) / 2) (by lia) (by lia) hm,h5⟩
   ·refine⟨rfl,_,_,rfl,by lia,by lia,by lia,h4,λi hi1 hi2=>?_⟩;cases hb:B i with
    |false=>rfl
    |true=>rw[mono _ i hi1 hi2 hb]at hm;cases hm
def wpS_gal(R:Rk prog w A s kd D rk){left:Bool}{key:Keyed}{arr:Array Keyed}{base n hint:Nat}{Q:Option Nat->SortSt->Prop}(hk:kindOf st=kd)(hD:∀x∈arr,D x)(hy:D key)(hn:base+n<=arr.size)(hh:hint<n)
  (mono:∀i j,i<=j->j<n->beyB rk left key arr base j=true->beyB rk left key arr base i=true)
  (h:∀k,k<=n->(∀i,i<k->beyB rk left key arr base i=true)->(∀i,k<=i->i<n->beyB rk left key arr base i=false)->Q (aa k) st) :
  wpS (model prog w) A E s (gal left key arr base n hint) Q st:=by
 generalize hB:beyB rk left key arr base=B at mono h;have ask:∀(i:Nat) (Q:Option Bool->SortSt->Prop),i<n->Q (aa (B i)) st->wpS (model prog w) A E s (elem' arr (base+i) >>= λx=>if left=true then lt' x key else lt' key x >>= λq=>pure (iu (λb=>!b) q)) Q st:=λi Q hi hq=>
  wpS_bey R hk hD hy (by lia) (by rw[hB];exact hq)
 refine aw (ask hint _ hh ?_);dsimp only;cases hr:B hint with
 |true=>
  rw[if_pos rfl];refine aw (wpS_mono (cf (I:=λx c st'=>st'=st/\∃la ofs,c=(ab,la,ofs)/\la<ofs/\x<ofs/\la<n-hint/\B (hint+la)=true)
   (Q:=λc st'=>st'=st/\∃la ofs,c=(ab,la,ofs)/\la<ofs/\la<n-hint/\B (hint+la)=true/\(ofs<n-hint->B (hint+ofs)=false)) ?step1 ?fin1 ⟨rfl,0,1,rfl,by lia,by lia,by lia,hr⟩) ?post1)
  case fin1=>
   rintro c st' ⟨rfl,la,ofs,rfl,h1,h2,h3,h4⟩;exact⟨rfl,la,ofs,rfl,h1,h3,h4,λh=>by lia⟩
  case step1=>
   rintro x c st' _ hx ⟨rfl,la,ofs,rfl,h1,h2,h3,h4⟩;dsimp only;by_cases hge:ofs ≥ n-hint
   ·rw[if_pos hge];exact aD ⟨rfl,la,ofs,rfl,h1,h3,h4,λh=>by lia⟩
   ·rw[if_neg hge];refine aw (ask _ _ (by lia) ?_);dsimp only;cases hm:B (hint+ofs)with
    |true=>
     simp only[Bool.not_true,cY,if_false];exact aD ⟨rfl,_,_,rfl,by lia,by lia,by lia,hm⟩
    |false=>
     simp only[Bool.not_false,if_true];exact aD ⟨rfl,la,ofs,rfl,h1,h3,h4,λ_=>hm⟩
  case post1=>
   rintro c st' ⟨rfl,la,ofs,rfl,h1,h3,h4,h5⟩;dsimp only;refine gal_bs (lo:=hint+la+1) (hi:=hint+min ofs (n-hint)) mono (λx lo hi P hge hP=>by
    dsimp only;rw[if_pos hge];exact aD hP) (λx lo hi P hge h2 ht hf=>by
    dsimp only;rw[if_neg hge];refine aw (ask _ _ (by lia) ?_);dsimp only;cases hm:B (lo+(hi-lo) / 2)with
    |true=>rw[if_pos rfl];exact aD (ht hm)
    |false=>rw[if_neg (by simp)];exact aD (hf hm)) (λk hQ=>aD hQ) (by lia) (by lia) (λi hi=>mono i (hint+la) (by lia) (by lia) h4) (λi hi1 hi2=>?_) h
   have ho:ofs<n-hint:=by lia
   cases hb:B i with
   |false=>rfl
   |true=>have:=mono (hint+ofs) i (by lia) hi2 hb;rw[h5 ho]at this;cases this
 |false=>
  rw[if_neg (by simp)];refine aw (wpS_mono (cf (I:=λx c st'=>st'=st/\∃la ofs,c=(ab,la,ofs)/\la<ofs/\x<ofs/\la<hint+1/\B (hint-la)=false)
   (Q:=λc st'=>st'=st/\∃la ofs,c=(ab,la,ofs)/\la<ofs/\la<hint+1/\B (hint-la)=false/\(ofs<hint+1->B (hint-ofs)=true)) ?step2 ?fin2 ⟨rfl,0,1,rfl,by lia,by lia,by lia,hr⟩) ?post2)
  case fin2=>
   rintro c st' ⟨rfl,la,ofs,rfl,h1,h2,h3,h4⟩;exact⟨rfl,la,ofs,rfl,h1,h3,h4,λh=>by lia⟩
  case step2=>
   rintro x c st' _ hx ⟨rfl,la,ofs,rfl,h1,h2,h3,h4⟩;dsimp only;by_cases hge:ofs ≥ hint+1
   ·rw[if_pos hge];exact aD ⟨rfl,la,ofs,rfl,h1,h3,h4,λh=>by lia⟩
   ·rw[if_neg hge];refine aw (ask _ _ (by lia) ?_);dsimp only;cases hm:B (hint-ofs)with
    |true=>
     rw[if_pos rfl];exact aD ⟨rfl,la,ofs,rfl,h1,h3,h4,λ_=>hm⟩
    |false=>
     rw[if_neg (by simp)];exact aD ⟨rfl,_,_,rfl,by lia,by lia,by lia,hm⟩
  case post2=>
   rintro c st' ⟨rfl,la,ofs,rfl,h1,h3,h4,h5⟩;dsimp only;refine gal_bs (lo:=hint+1-min ofs (hint+1)) (hi:=hint-la) mono (λx lo hi P hge hP=>by
    dsimp only;rw[if_pos hge];exact aD hP) (λx lo hi P hge h2 ht hf=>by
    dsimp only;rw[if_neg hge];refine aw (ask _ _ (by lia) ?_);dsimp only;cases hm:B (lo+(hi-lo) / 2)with
    |true=>rw[if_pos rfl];exact aD (ht hm)
    |false=>rw[if_neg (by simp)];exact aD (hf hm)) (λk hQ=>aD hQ) (by lia) (by lia) (λi hi=>?_) (λi hi1 hi2=>?_) h
   ·exact mono i (hint-ofs) (by lia) (by lia) (h5 (by lia))
   ·cases hb:B i with
    |false=>rfl
    |true=>have:=mono (hint-la) i hi1 hi2 hb;rw[h4]at this;cases this
end
end L2

namespace L2
open PySem PySem.Spec PyProof.Rows
section
variable {prog:aI}{w:aO}{A:aW}{E:ag->ai->Prop}{s:ai}{kd:SortKind}{D:Keyed->Prop}{rk:Keyed->Nat}{st:SortSt}
def kA(rk:Keyed->Nat)(xs:Array Keyed)(i:Nat):Nat:=(xs[i]?.map rk).getD 0
def zc9{xs:Array Keyed}{i:Nat}(h:i<xs.size):kA rk xs i=rk xs[i]:=by
 unfold kA;rw[getElem?_pos xs i h];rfl
def Up(rk:Keyed->Nat)(xs:Array Keyed)(lo hi:Nat):Prop:=∀i j,lo<=i->i<=j->j<hi->kA rk xs i<=kA rk xs j
def zdu{xs:Array Keyed}{lo hi:Nat}(h:hi<=xs.size):(xs.extract lo hi).size=hi-lo:=by rw[fR,dL h]
structure MgR(r:Keyed->Keyed->Prop)(all:List Keyed)(out:Array Keyed)(rest:List Keyed):Prop where
 perm:(out.toList++rest).Perm all
 srt:out.toList.Pairwise r
 low:∀x∈out.toList,∀y∈rest,r x y
abbrev Mg(rk:Keyed->Nat):=MgR λx y=>rk x<=rk y
def MgR.take{r:Keyed->Keyed->Prop}{all rest rest':List Keyed}{out c:Array Keyed}(M:MgR r all out rest)(p:rest.Perm (c.toList++rest'))(hs:c.toList.Pairwise r)(hl:∀x∈c.toList,∀y∈rest',r x y):MgR r all (out++c) rest':=by
 refine⟨?_,?_,?_⟩
 ·rw[dF,a7];exact(p.symm.append_left _).trans M.perm
 ·rw[dF,ek];exact⟨M.srt,hs,λx hx y hy=>M.low x hx y (p.mem_iff.mpr (aX _ hy))⟩
 ·intro x hx y hy;rw[dF]at hx;rcases aQ.mp hx with hx|hx
  ·exact M.low x hx y (p.mem_iff.mpr (av _ hy))
  ·exact hl x hx y hy
def MgR.swap{r:Keyed->Keyed->Prop}{all ra rb:List Keyed}{out:Array Keyed}(M:MgR r all out (ra++rb)):MgR r all out (rb++ra):=by
 have h:=M.take (c:=#[]) (rest':=rb++ra) d4 .nil (λx hx=>by cases hx);rwa [dM]at h
def Mg.swap{all ra rb:List Keyed}{out:Array Keyed}(M:Mg rk all out (ra++rb)):Mg rk all out (rb++ra):=MgR.swap M
def zjH{xs:Array Keyed}{i:Nat}{x:Keyed}(h:x∈xs.toList.drop i):∃j,i<=j/\j<xs.size/\kA rk xs j=rk x:=by
 obtain⟨j,hj,rfl⟩:=em.mp h;rw[bS]at hj;have hj':i+j<xs.size:=by have:xs.toList.length=xs.size:=aF;lia
 refine⟨i+j,by lia,hj',?_⟩;rw[zc9 hj',i4];rfl
def zfQ{xs:Array Keyed}{i k:Nat}{x:Keyed}(h:x∈(xs.extract i k).toList):∃j,i<=j/\j<k/\j<xs.size/\kA rk xs j=rk x:=by
 obtain⟨j,hj,rfl⟩:=em.mp h;have hj2:j<(xs.extract i k).size:=by rw[aF]at hj;exact hj
 have hj3:=hj2;rw[fR]at hj3;have hj4:i+j<min k xs.size:=d5 i j ▸ dy hj3;have hj':i+j<xs.size:=aP hj4 (d8 _ _);refine⟨i+j,dD _ _,aP hj4 (jn _ _),hj',?_⟩;rw[zc9 hj',dz,dt]
def ext_up{xs:Array Keyed}{i k:Nat}(h:Up rk xs i k):(xs.extract i k).toList.Pairwise λx y=>rk x<=rk y:=by
 rw[dA];intro a b ha hb hab;have h1:a<(xs.extract i k).size:=by rw[aF]at ha;exact ha
 have h2:b<(xs.extract i k).size:=by rw[aF]at hb;exact hb
 have h3:=h1;have h4:=h2;rw[fR]at h3 h4;have h5:i+a<min k xs.size:=d5 i a ▸ dy h3;have h6:i+b<min k xs.size:=d5 i b ▸ dy h4;have z:=h (i+a) (i+b) (dD _ _) (di (bB hab) _) (aP h6 (jn _ _));rw[zc9 (aP h5 (d8 _ _)),zc9 (aP h6 (d8 _ _))]at z;rw[dz,dz,dt,dt];exact z
def zez{xs:Array Keyed}{i k:Nat}(h:i<=k):xs.toList.drop i=(xs.extract i k).toList++xs.toList.drop k:=by
 rw[dc,cG];have:xs.toList.drop k=(xs.toList.drop i).drop (k-i):=by rw[jw];congr 1;lia
 rw[this,du]
def Up.mono{xs:Array Keyed}{lo hi lo' hi':Nat}(h:Up rk xs lo hi)(h1:lo<=lo')(h2:hi'<=hi):Up rk xs lo' hi':=λi j a b c=>h i j (by lia) b (by lia)
def Mg.runA{all:List Keyed}{out a b:Array Keyed}{i j k:Nat}(M:Mg rk all out (a.toList.drop i++b.toList.drop j))(h:i<=k)(hk:k<=a.size)(sa:Up rk a 0 a.size)(hb:∀x y,i<=x->x<k->j<=y->y<b.size->kA rk a x<=kA rk b y):Mg rk all (out++a.extract i k) (a.toList.drop k++b.toList.drop j):=by
 refine M.take ?_ (ext_up (sa.mono (aL _) hk)) ?_
 ·rw[zez h,a7]
 ·intro x hx y hy;obtain⟨p,p1,p2,p3,p4⟩:=zfQ (rk:=rk) hx;rw[<- p4];rcases aQ.mp hy with hy|hy
  ·obtain⟨q,q1,q2,q3⟩:=zjH (rk:=rk) hy;rw[<- q3];exact sa p q (aL _) (by lia) q2
  ·obtain⟨q,q1,q2,q3⟩:=zjH (rk:=rk) hy;rw[<- q3];exact hb p q p1 p2 q1 q2
def Mg.oneA{all:List Keyed}{out a b:Array Keyed}{i j:Nat}(M:Mg rk all out (a.toList.drop i++b.toList.drop j))(hk:i<a.size)(sa:Up rk a 0 a.size)(hb:∀y,j<=y->y<b.size->kA rk a i<=kA rk b y):Mg rk all (out.push a[i]) (a.toList.drop (i+1)++b.toList.drop j):=by
 have h:=M.runA (k:=i+1) (by lia) hk sa (λx y h1 h2 h3 h4=>(show i=x by lia) ▸ hb y h3 h4);have e:out++a.extract i (i+1)=out.push a[i]:=by
  apply iw;rw[dF,f9,dc,cG,show i+1-i=1 by lia,bR (by simpa using hk)];simp
 rwa [e]at h
def Mg.end_{all:List Keyed}{out:Array Keyed}(M:Mg rk all out []):out.toList.Perm all/\out.toList.Pairwise λx y=>rk x<=rk y:=⟨by simpa using M.perm,M.srt⟩
def zgV(R:Rk prog w A s kd D rk){key:Keyed}{arr:Array Keyed}{base n hint:Nat}{Q:Option Nat->SortSt->Prop}(hk:kindOf st=kd)(hD:∀x∈arr,D x)(hy:D key)(hn:base+n<=arr.size)(hh:hint<n)(hu:Up rk arr base (base+n))
  (h:∀k,k<=n->(∀i,base<=i->i<base+k->kA rk arr i<=rk key)->(∀i,base+k<=i->i<base+n->rk key<kA rk arr i)->Q (aa k) st):wpS (model prog w) A E s (gal false key arr base n hint) Q st:=by
 have hb:∀i,beyB rk false key arr base i=!decide (rk key<kA rk arr (base+i)):=λi=>rfl;refine wpS_gal R hk hD hy hn hh (λi j hij hj hB=>?_) λk h1 h2 h3=>h k h1 (λi i1 i2=>?_) λi i1 i2=>?_
 ·rw[hb]at hB ⊢;have:=hu (base+i) (base+j) (by lia) (by lia) (by lia);simp only[i5,decide_eq_false_iff_not]at hB ⊢;lia
 ·have:=h2 (i-base) (by lia);rw[hb,show base+(i-base)=i by lia]at this;simp only[i5,decide_eq_false_iff_not]at this;lia
 ·have:=h3 (i-base) (by lia) (by lia);rw[hb,show base+(i-base)=i by lia]at this;simpa using this
def zgI(R:Rk prog w A s kd D rk){key:Keyed}{arr:Array Keyed}{base n hint:Nat}{Q:Option Nat->SortSt->Prop}(hk:kindOf st=kd)(hD:∀x∈arr,D x)(hy:D key)(hn:base+n<=arr.size)(hh:hint<n)(hu:Up rk arr base (base+n))
  (h:∀k,k<=n->(∀i,base<=i->i<base+k->kA rk arr i<rk key)->(∀i,base+k<=i->i<base+n->rk key<=kA rk arr i)->Q (aa k) st):wpS (model prog w) A E s (gal true key arr base n hint) Q st:=by
 have hb:∀i,beyB rk true key arr base i=decide (kA rk arr (base+i)<rk key):=λi=>rfl;refine wpS_gal R hk hD hy hn hh (λi j hij hj hB=>?_) λk h1 h2 h3=>h k h1 (λi i1 i2=>?_) λi i1 i2=>?_
 ·rw[hb]at hB ⊢;have:=hu (base+i) (base+j) (by lia) (by lia) (by lia);simp only[decide_eq_true_eq]at hB ⊢;lia
 ·have:=h2 (i-base) (by lia);rw[hb,show base+(i-base)=i by lia]at this;simpa using this
 ·have:=h3 (i-base) (by lia) (by lia);rw[hb,show base+(i-base)=i by lia]at this;simp only[decide_eq_false_iff_not]at this;lia
def zeY(rk:Keyed->Nat)(a b out:Array Keyed):Prop:=out.toList.Perm (a.toList++b.toList)/\out.toList.Pairwise λx y=>rk x<=rk y
def zey{xs:Array Keyed}{k:Nat}(h:xs.size<=k):xs.toList.drop k=[]:=eS (by simpa using h)
def Mg.finB{a b out:Array Keyed}{i j:Nat}(M:Mg rk (a.toList++b.toList) out (a.toList.drop i++b.toList.drop j))(sa:Up rk a 0 a.size)(sb:Up rk b 0 b.size)(hi:i<=a.size)(hj:j=b.size):zeY rk a b (out++a.extract i a.size++b.extract j b.size):=by
 have M1:=(M.runA (k:=a.size) hi (ak _) sa (λx y _ _ h3 h4=>by lia)).swap.runA (k:=b.size) (by lia) (ak _) sb (λx y h1 h2 _ _=>by lia);rw[zey (ak _),zey (ak _)]at M1;exact M1.end_
def Mg.finA{a b out:Array Keyed}{i j:Nat}(M:Mg rk (a.toList++b.toList) out (a.toList.drop i++b.toList.drop j))(sa:Up rk a 0 a.size)(sb:Up rk b 0 b.size)(hi:i+1=a.size)(hj:j<=b.size)(hl:∀y,y<b.size->kA rk b y<kA rk a (a.size-1)):zeY rk a b (out++b.extract j b.size++a.extract i a.size):=by
 have M1:=(M.swap.runA (k:=b.size) hj (ak _) sb (λx y h1 h2 h3 h4=>by
  have:y=a.size-1:=by lia
  subst this;exact bB (hl x h2))).swap.runA (k:=a.size) (by lia) (ak _) sa (λx y h1 h2 h3 h4=>by lia)
 rw[zey (ak _),zey (ak _)]at M1;exact M1.end_
def zeC{xs:Array Keyed}{i:Nat}:xs.extract i i=#[]:=by
 apply iw;rw[dc,cG,fF,jv]
section
variable {M:Model}{α σ β γ:Type}{Q:α->σ->Prop}{st:σ}{c:Prop}{_:Decidable c}{c1 c2:γ->Prop}{_:∀x,Decidable (c1 x)}{_:∀x,Decidable (c2 x)}{p2:γ->Prop}{p1:γ->β->Prop}{r r2 f:β->γ->StateT σ Sem α}{y1:β}{y2:γ}
def zjO{b:β}{f:β->StateT σ Sem α}(h:∀g,wpS M A E s (f g) Q st):∀a,wpS M A E s (if c then f a else f b) Q st:=by
 intro a;split <;> exact h _
def zjs(h1:∀x1 x2,p2 x2->p1 x2 x1->c->c1 x2->wpS M A E s (r x1 x2) Q st)(h:∀z1 z2,(c/\p2 z2/\p1 z2 z1/\¬ c1 z2)\/(¬ c/\z1=y1/\z2=y2)->wpS M A E s (f z1 z2) Q st) :
  ∀x2,p2 x2->∀x1,p1 x2 x1->wpS M A E s (if c then if c1 x2 then r x1 x2 else f x1 x2 else f y1 y2) Q st:=by
 intro x2 q2 x1 q1;split
 ·rename_i e;split
  ·rename_i e1;exact h1 _ _ q2 q1 e e1
  ·rename_i e1;exact h _ _ (.inl ⟨e,q2,q1,e1⟩)
 ·rename_i e;exact h _ _ (.inr ⟨e,rfl,rfl⟩)
def zhP(h2:∀x2,p2 x2->c->¬ c2 x2)(h1:∀x1 x2,p2 x2->p1 x2 x1->c->c1 x2->wpS M A E s (r x1 x2) Q st)(h:∀z1 z2,(c/\p2 z2/\p1 z2 z1/\¬ c1 z2)\/(¬ c/\z1=y1/\z2=y2)->wpS M A E s (f z1 z2) Q st) :
  ∀x2,p2 x2->∀x1,p1 x2 x1->wpS M A E s (if c then if c1 x2 then r x1 x2 else if c2 x2 then r2 x1 x2 else f x1 x2 else f y1 y2) Q st:=by
 intro x2 q2 x1 q1;split
 ·rename_i e;rw[if_neg (h2 _ q2 e)];split
  ·rename_i e1;exact h1 _ _ q2 q1 e e1
  ·rename_i e1;exact h _ _ (.inl ⟨e,q2,q1,e1⟩)
 ·rename_i e;exact h _ _ (.inr ⟨e,rfl,rfl⟩)
end
def wpS_mgLo(R:Rk prog w A s kd D rk){a b:Array Keyed}{Q:Array Keyed->SortSt->Prop}(hk:kindOf st=kd)(hDa:∀x∈a,D x)(hDb:∀x∈b,D x)(sa:Up rk a 0 a.size)(sb:Up rk b 0 b.size)(ha:1<=a.size)(hb:1<=b.size)
  (h0:kA rk b 0<=kA rk a 0) (hl:∀y,y<b.size->kA rk b y<kA rk a (a.size-1))
  (h:∀out g,out.toList.Perm (a.toList++b.toList)->(out.toList.Pairwise λx y=>rk x<=rk y)->Q out (zcG st g)):wpS (model prog w) A E s (mgLo a b) Q st:=by
 refine aw (zdZ ?_);refine aw (zbv hb ?_);have M0:Mg rk (a.toList++b.toList) #[b[0]] (a.toList.drop 0++b.toList.drop 1):=by
  have h1:Mg rk (a.toList++b.toList) #[] (b.toList.drop 0++a.toList.drop 0):=⟨by simpa using d4,.nil,λx hx=>by cases hx⟩
  exact(h1.oneA hb sb (λy _ hy=>aH h0 (sa 0 y (ak _) (aL _) hy))).swap
 have good:∀{out:Array Keyed} {g:Nat},zeY rk a b out->Q out (zcG st g):=λhW=>h _ _ hW.1 hW.2;dsimp only;by_cases hb1:1=b.size
 ·rw[if_pos (by simpa using hb1)];exact aD (good (g:=gallopOf st) (M0.finB sa sb (aL _) hb1))
 rw[if_neg (by simpa using hb1)];by_cases ha1:0+1=a.size
 ·rw[if_pos (by simpa using ha1)];exact aD (good (g:=gallopOf st) (M0.finA sa sb ha1 hb hl))
 rw[if_neg (by simpa using ha1)];refine aw (wpS_get ?_);refine aw (wpS_mono (cf (I:=λx c st'=>(∃g,st'=zcG st g)/\∃out ia ib mg,c=(ab,out,ia,ib,mg)/\x+1<=ia+ib/\ia+1<a.size/\ib<b.size/\Mg rk (a.toList++b.toList) out (a.toList.drop ia++b.toList.drop ib))
  (Q:=λc st'=>(∃g,st'=zcG st g)/\∃r z,c=(aa r,z)/\zeY rk a b r) ?step ?fin ⟨⟨gallopOf st,rfl⟩,_,_,_,_,rfl,by lia,by lia,by lia,M0⟩) ?post)
 case post=>
  rintro c st' ⟨⟨g,rfl⟩,r,z,rfl,hW⟩;exact aD (good hW)
 case fin=>
  rintro c st' ⟨_,out,ia,ib,mg,rfl,h1,h2,h3,_⟩;exfalso;lia
 case step=>
  rintro x c st' _ hx ⟨⟨g,rfl⟩,out,ia,ib,mg,rfl,h1,h2,h3,M⟩;dsimp only;refine aw (wpS_mono (cf (I:=λy c st'=>st'=zcG st g/\∃out ia' ib' ac bc,c=(ab,out,ia',ib',ac,bc)/\ia+ib+y<=ia'+ib'/\ia'+1<a.size/\ib'<b.size/\Mg rk (a.toList++b.toList) out (a.toList.drop ia'++b.toList.drop ib'))
   (Q:=λc st'=>st'=zcG st g/\((∃out ia' ib' ac bc,c=(ab,out,ia',ib',ac,bc)/\ia+ib+1<=ia'+ib'/\ia'+1<a.size/\ib'<b.size/\Mg rk (a.toList++b.toList) out (a.toList.drop ia'++b.toList.drop ib'))\/∃r z,c=(aa r,z)/\zeY rk a b r)) ?step1 ?fin1 ⟨rfl,_,_,_,_,_,rfl,by lia,h2,h3,M⟩) ?post1)
  case fin1=>
   rintro c st' ⟨rfl,out,ia',ib',ac,bc,rfl,h1,h2,h3,M⟩;exact⟨rfl,.inl ⟨_,_,_,_,_,rfl,by lia,h2,h3,M⟩⟩
  case step1=>
   rintro y c st' _ hy ⟨rfl,out,ia',ib',ac,bc,rfl,h1,h2,h3,M⟩;dsimp only;have h2':ia'<a.size:=by lia
   refine aw (zbv h3 ?_);refine aw (zbv h2' ?_);refine aw (wpS_q R hk (hDb _ (bv h3)) (hDa _ (bv h2')) ?_);dsimp only;rw[<- zc9 (rk:=rk) h3,<- zc9 (rk:=rk) h2'];by_cases hw:kA rk b ib'<kA rk a ia'
   ·rw[decide_eq_true hw,if_pos rfl];refine aw (zbv h3 ?_);have M1:=(M.swap.oneA h3 sb (λy h1 h2=>aH (bB hw) (sa ia' y (aL _) h1 h2))).swap;by_cases he:ib'+1=b.size
    ·rw[if_pos (by simpa using he)];exact aD ⟨rfl,.inr ⟨_,_,rfl,M1.finB sa sb (by lia) he⟩⟩
    ·rw[if_neg (by simpa using he)];split
     ·exact aD ⟨rfl,.inl ⟨_,_,_,_,_,rfl,by lia,h2,by lia,M1⟩⟩
     ·exact aD ⟨rfl,_,_,_,_,_,rfl,by lia,h2,by lia,M1⟩
   ·rw[decide_eq_false hw,if_neg (by simp)];refine aw (zbv h2' ?_);have M1:=M.oneA h2' sa (λy h1 h2=>aH (by lia) (sb ib' y (aL _) h1 h2));by_cases he:ia'+1+1=a.size
    ·rw[if_pos (by simpa using he)];exact aD ⟨rfl,.inr ⟨_,_,rfl,M1.finA sa sb he (by lia) hl⟩⟩
    ·rw[if_neg (by simpa using he)];split
     ·exact aD ⟨rfl,.inl ⟨_,_,_,_,_,rfl,by lia,by lia,h3,M1⟩⟩
     ·exact aD ⟨rfl,_,_,_,_,_,rfl,by lia,by lia,h3,M1⟩
  case post1=>
   rintro c st' ⟨rfl,⟨out,ia',ib',ac,bc,rfl,h1,h2,h3,M⟩|⟨r,z,rfl,hW⟩⟩
   ·dsimp only;refine aw (zdZ ?_);refine aw (wpS_mono (cf (I:=λy c st'=>(∃g,st'=zcG st g)/\∃out ia2 ib2 mg ac bc,c=(ab,out,ia2,ib2,mg,ac,bc)/\ia+ib+1<=ia2+ib2/\ia2+1<a.size/\ib2<b.size/\Mg rk (a.toList++b.toList) out (a.toList.drop ia2++b.toList.drop ib2))
     (Q:=λc st'=>(∃g,st'=zcG st g)/\((∃out ia2 ib2 mg ac bc,c=(ab,out,ia2,ib2,mg,ac,bc)/\ia+ib+1<=ia2+ib2/\ia2+1<a.size/\ib2<b.size/\Mg rk (a.toList++b.toList) out (a.toList.drop ia2++b.toList.drop ib2))\/∃r z,c=(aa r,z)/\zeY rk a b r)) ?step2 ?fin2 ⟨⟨g,rfl⟩,_,_,_,_,_,_,rfl,h1,h2,h3,M⟩) ?post2)
    case fin2=>
     rintro c st' ⟨hg,z⟩;exact⟨hg,.inl z⟩
    case post2=>
     rintro c st' ⟨⟨g,rfl⟩,⟨out,ia2,ib2,mg,ac,bc,rfl,h1,h2,h3,M⟩|⟨r,z,rfl,hW⟩⟩
     ·dsimp only;exact aw (zgH (aD ⟨⟨_,rfl⟩,_,_,_,_,rfl,by lia,h2,h3,M⟩))
     ·exact aD ⟨⟨_,rfl⟩,_,_,rfl,hW⟩
    case step2=>
     clear h1 h2 h3 M;rintro y c st' _ hy ⟨⟨g,rfl⟩,out,ia',ib',mg,ac,bc,rfl,h1,h2,h3,M⟩;dsimp only;have h2':ia'<a.size:=by lia
     generalize mg-1=mg';revert mg';refine zjO ?_;intro g';refine aw (zgH ?_);refine aw (zbv h3 ?_);refine aw (zgV R hk hDa (hDb _ (bv h3)) (by lia) (by lia) (sa.mono (aL _) (by lia)) λk k1 k2 k3=>?_);rw[<- zc9 (rk:=rk) h3]at k2 k3;have hkk:ia'+k<a.size:=by
      refine eW λhc=>?_;have e1:=k2 (a.size-1) (by lia) (by lia);have e2:=hl ib' h3;lia
     have M1:=M.runA (k:=ia'+k) (by lia) (by lia) sa (λx y x1 x2 y1 y2=>aH (k2 x x1 x2) (sb ib' y (aL _) y1 y2));have k4:∀y,ia'+k<=y->y<a.size->kA rk b ib'<=kA rk a y:=λy y1 y2=>bB (k3 y y1 (by lia));have z0:k=0->out++a.extract ia' (ia'+k)=out/\ia'+k=ia':=λe=>by
      subst e;rw[gv,zeC,dM];exact⟨rfl,rfl⟩
     clear k1 k2 k3;dsimp only;generalize hj1:ia'+k=j1;generalize ho1:out++a.extract ia' j1=o1;revert o1 j1;refine zhP (λj1 e1 _=>by subst e1;simp;lia) (λo1 j1 e1 e2 _ he=>?_) λo2 j2 hz=>?_
     ·subst e1;subst e2;exact aD ⟨⟨_,rfl⟩,.inr ⟨_,_,rfl,M1.finA sa sb (by simpa using he) (by lia) hl⟩⟩
     have hz':o2=out++a.extract ia' (ia'+k)/\j2=ia'+k/\¬ j2+1=a.size:=by
      rcases hz with ⟨_,e1,e2,he⟩|⟨he,e1,e2⟩
      ·subst e1;exact⟨e2.symm,rfl,by simpa using he⟩
      ·obtain⟨q1,q2⟩:=z0 (by lia);rw[q1,q2];exact⟨e1,e2,by lia⟩
     clear hz z0;obtain⟨e1,e2,he⟩:=hz';rw[<- e1,<- e2]at M1;rw[<- e2]at hkk k4;have hj2:ia'<=j2:=by lia
     clear e1 e2;refine aw (zbv h3 ?_);have M2:=(M1.swap.oneA h3 sb k4).swap;by_cases he2:ib'+1=b.size
     ·rw[if_pos (by simpa using he2)];exact aD ⟨⟨_,rfl⟩,.inr ⟨_,_,rfl,M2.finB sa sb (by lia) he2⟩⟩
     rw[if_neg (by simpa using he2)];refine aw (zbv hkk ?_);refine aw (zgI R hk hDb (hDa _ (bv hkk)) (by lia) (by lia) (sb.mono (aL _) (by lia)) λl l1 l2 l3=>?_);rw[<- zc9 (rk:=rk) hkk]at l2 l3;have M3:=(M2.swap.runA (k:=ib'+1+l) (by lia) (by lia) sb (λx y x1 x2 y1 y2=>aH (bB (l2 x x1 x2)) (sa _ y (aL _) y1 y2))).swap;have l4:∀y,ib'+1+l<=y->y<b.size->kA rk a j2<=kA rk b y:=λy y1 y2=>l3 y y1 (by lia);have hll:ib'+1+l<=b.size:=by lia
     generalize o2.push b[ib']=o3 at M3 ⊢;have z0:l=0->o3++b.extract (ib'+1) (ib'+1+l)=o3/\ib'+1+l=ib'+1:=λe=>by
      subst e;rw[gv,zeC,dM];exact⟨rfl,rfl⟩
     clear l1 l2 l3 M2 M1;dsimp only;generalize hj3:ib'+1+l=j3;generalize ho4:o3++b.extract (ib'+1) j3=o4;revert o4 j3;refine zjs (λo4 j3 e1 e2 _ he=>?_) λo5 j5 hz=>?_
     ·subst e1;subst e2;exact aD ⟨⟨_,rfl⟩,.inr ⟨_,_,rfl,M3.finB sa sb (by lia) (by simpa using he)⟩⟩
     have hz':o5=o3++b.extract (ib'+1) (ib'+1+l)/\j5=ib'+1+l/\¬ j5=b.size:=by
      rcases hz with ⟨_,e1,e2,he⟩|⟨he,e1,e2⟩
      ·subst e1;exact⟨e2.symm,rfl,by simpa using he⟩
      ·obtain⟨q1,q2⟩:=z0 (by lia);rw[q1,q2];exact⟨e1,e2,by lia⟩
     clear hz z0;obtain⟨e1,e2,he3⟩:=hz';rw[<- e1,<- e2]at M3;rw[<- e2]at hll l4;have hj5:ib'+1<=j5:=by lia
     clear e1 e2;refine aw (zbv hkk ?_);have M4:=M3.oneA hkk sa l4;split
     ·rename_i he4;exact aD ⟨⟨_,rfl⟩,.inr ⟨_,_,rfl,M4.finA sa sb (by simpa using he4) (by lia) hl⟩⟩
     ·rename_i he4;have he5:¬ _=a.size:=λe=>he4 (beq_iff_eq.mpr e);have b1:ia+ib+1<=j2+1+j5:=by lia
      have b2:j2+1+1<a.size:=by lia
      have b3:j5<b.size:=by lia
      split
      ·exact aD ⟨⟨_,rfl⟩,.inl ⟨_,_,_,_,_,_,rfl,b1,b2,b3,M4⟩⟩
      ·exact aD ⟨⟨_,rfl⟩,_,_,_,_,_,_,rfl,b1,b2,b3,M4⟩
   ·exact aD ⟨⟨_,rfl⟩,_,_,rfl,hW⟩
end
end L2

namespace L2
open PySem PySem.Spec PyProof.Rows
section
variable {prog:aI}{w:aO}{A:aW}{E:ag->ai->Prop}{s:ai}{kd:SortKind}{D:Keyed->Prop}{rk:Keyed->Nat}{st:SortSt}
abbrev Mh(rk:Keyed->Nat):=MgR λx y=>rk y<=rk x
def Mh.swap{all ra rb:List Keyed}{out:Array Keyed}(M:Mh rk all out (ra++rb)):Mh rk all out (rb++ra):=MgR.swap M
def zjz{xs:Array Keyed}{n:Nat}{x:Keyed}(h:x∈xs.toList.take n):∃j,j<n/\j<xs.size/\kA rk xs j=rk x:=by
 have e:xs.toList.take n=(xs.extract 0 n).toList:=by rw[dc,cG];rfl
 rw[e]at h;obtain⟨j,_,h2,h3,h4⟩:=zfQ (rk:=rk) h;exact⟨j,h2,h3,h4⟩
def take_ext{xs:Array Keyed}{k n:Nat}(h:k<=n):xs.toList.take n=xs.toList.take k++(xs.extract k n).toList:=by
 rw[dc,cG,<- List.take_add,show k+(n-k)=n by lia]
def Mh.runA{all:List Keyed}{out a b:Array Keyed}{na nb k:Nat}(M:Mh rk all out (a.toList.take na++b.toList.take nb))(h:k<=na)(hk:na<=a.size)(sa:Up rk a 0 a.size)(hb:∀x y,k<=x->x<na->y<nb->y<b.size->kA rk b y<=kA rk a x):Mh rk all (out++(a.extract k na).reverse) (a.toList.take k++b.toList.take nb):=by
 refine M.take ?_ ?_ ?_
 ·rw[take_ext h,en];refine(d4.append_right _).trans ?_;rw[a7];exact(i6 _).symm.append_right _
 ·rw[en,g9];exact ext_up (sa.mono (aL _) hk)
 ·intro x hx y hy;rw[en,List.mem_reverse]at hx;obtain⟨p,p1,p2,p3,p4⟩:=zfQ (rk:=rk) hx;rw[<- p4];rcases aQ.mp hy with hy|hy
  ·obtain⟨q,q1,q2,q3⟩:=zjz (rk:=rk) hy;rw[<- q3];exact sa q p (aL _) (by lia) p3
  ·obtain⟨q,q1,q2,q3⟩:=zjz (rk:=rk) hy;rw[<- q3];exact hb p q p1 p2 q1 q2
def Mh.oneA{all:List Keyed}{out a b:Array Keyed}{na nb k:Nat}(M:Mh rk all out (a.toList.take na++b.toList.take nb))(hn:k+1=na)(hk:k<a.size)(sa:Up rk a 0 a.size)(hb:∀y,y<nb->y<b.size->kA rk b y<=kA rk a k):Mh rk all (out.push a[k]) (a.toList.take k++b.toList.take nb):=by
 subst hn;have h:=M.runA (k:=k) (by lia) hk sa (λx y h1 h2 h3 h4=>(show k=x by lia) ▸ hb y h3 h4);have e:out++(a.extract k (k+1)).reverse=out.push a[k]:=by
  apply iw;rw[dF,f9,en,dc,cG,show k+1-k=1 by lia,bR (by simpa using hk)];simp
 rwa [e]at h
def Mh.end_{a b out r:Array Keyed}(M:Mh rk (a.toList++b.toList) out [])(e:r.toList=out.toList.reverse):zeY rk a b r:=by
 refine⟨?_,?_⟩
 ·rw[e];exact(i6 _).trans (by simpa using M.perm)
 ·rw[e,g9];exact M.srt
def Mh.finA{a b out:Array Keyed}{na nb:Nat}(M:Mh rk (a.toList++b.toList) out (a.toList.take na++b.toList.take nb))(sa:Up rk a 0 a.size)(sb:Up rk b 0 b.size)(hn:na=0)(hb:nb<=b.size):zeY rk a b (a.extract 0 na++b.extract 0 nb++out.reverse):=by
 subst hn;have M1:=M.swap.runA (k:=0) (aL _) hb sb (λx y _ _ h _=>by lia);refine Mh.end_ M1 ?_;simp[zeC]
def Mh.finB{a b out:Array Keyed}{na nb:Nat}(M:Mh rk (a.toList++b.toList) out (a.toList.take na++b.toList.take nb))(sa:Up rk a 0 a.size)(sb:Up rk b 0 b.size)(hn:nb=1)(hb:1<=b.size)(ha:na<=a.size)(h0:kA rk b 0<kA rk a 0):zeY rk a b (b.extract 0 nb++a.extract 0 na++out.reverse):=by
 subst hn;have M1:=(M.runA (k:=0) (aL _) ha sa (λx y _ h2 h3 _=>by
  have:y=0:=by lia
  subst this;exact bB (aP h0 (sa 0 x (ak _) (aL _) (by lia))))).swap.runA (k:=0) (aL _) hb sb (λx y _ _ h _=>by lia)
 refine Mh.end_ M1 ?_;simp
def wpS_mgHi(R:Rk prog w A s kd D rk){a b:Array Keyed}{Q:Array Keyed->SortSt->Prop}(hk:kindOf st=kd)(hDa:∀x∈a,D x)(hDb:∀x∈b,D x)(sa:Up rk a 0 a.size)(sb:Up rk b 0 b.size)(ha:1<=a.size)(hb:1<=b.size)
  (h0:kA rk b 0<kA rk a 0) (hl:∀y,y<b.size->kA rk b y<kA rk a (a.size-1))
  (h:∀out g,out.toList.Perm (a.toList++b.toList)->(out.toList.Pairwise λx y=>rk x<=rk y)->Q out (zcG st g)):wpS (model prog w) A E s (mgHi a b) Q st:=by
 refine aw (zdZ ?_);have hz:a.size-1<a.size:=by lia
 refine aw (zbv hz ?_);have M0:Mh rk (a.toList++b.toList) #[a[a.size-1]] (a.toList.take (a.size-1)++b.toList.take b.size):=by
  have h1:Mh rk (a.toList++b.toList) #[] (a.toList.take a.size++b.toList.take b.size):=by
   rw[cR (by simp),cR (by simp)];exact⟨by simp,.nil,λx hx=>by cases hx⟩
  exact h1.oneA (by lia) hz sa (λy _ hy=>bB (hl y hy))
 have good:∀{out:Array Keyed} {g:Nat},zeY rk a b out->Q out (zcG st g):=λhW=>h _ _ hW.1 hW.2;dsimp only;by_cases ha1:a.size-1=0
 ·rw[if_pos (by simpa using ha1)];exact aD (good (g:=gallopOf st) (M0.finA sa sb ha1 (ak _)))
 rw[if_neg (by simpa using ha1)];by_cases hb1:b.size=1
 ·rw[if_pos (by simpa using hb1)];exact aD (good (g:=gallopOf st) (M0.finB sa sb hb1 hb (by lia) h0))
 rw[if_neg (by simpa using hb1)];refine aw (wpS_get ?_);refine aw (wpS_mono (cf (I:=λx c st'=>(∃g,st'=zcG st g)/\∃na nb out mg,c=(ab,na,nb,out,mg)/\x+1+na+nb<=a.size+b.size/\1<=na/\na<a.size/\2<=nb/\nb<=b.size/\Mh rk (a.toList++b.toList) out (a.toList.take na++b.toList.take nb))
  (Q:=λc st'=>(∃g,st'=zcG st g)/\∃r z,c=(aa r,z)/\zeY rk a b r) ?step ?fin ⟨⟨gallopOf st,rfl⟩,_,_,_,_,rfl,by lia,by lia,by lia,by lia,by lia,M0⟩) ?post)
 case post=>
  rintro c st' ⟨⟨g,rfl⟩,r,z,rfl,hW⟩;exact aD (good hW)
 case fin=>
  rintro c st' ⟨_,na,nb,out,mg,rfl,h1,h2,h3,_⟩;exfalso;lia
 case step=>
  rintro x c st' _ hx ⟨⟨g,rfl⟩,na,nb,out,mg,rfl,h1,h2,h3,h4,h5,M⟩;dsimp only;refine aw (wpS_mono (cf (I:=λy c st'=>st'=zcG st g/\∃na' nb' out ac bc,c=(ab,na',nb',out,ac,bc)/\na'+nb'+y<=na+nb/\1<=na'/\na'<a.size/\2<=nb'/\nb'<=b.size/\Mh rk (a.toList++b.toList) out (a.toList.take na'++b.toList.take nb'))
   (Q:=λc st'=>st'=zcG st g/\((∃na' nb' out ac bc,c=(ab,na',nb',out,ac,bc)/\na'+nb'+1<=na+nb/\1<=na'/\na'<a.size/\2<=nb'/\nb'<=b.size/\Mh rk (a.toList++b.toList) out (a.toList.take na'++b.toList.take nb'))\/∃r z,c=(aa r,z)/\zeY rk a b r)) ?step1 ?fin1 ⟨rfl,_,_,_,_,_,rfl,by lia,h2,h3,h4,h5,M⟩) ?post1)
  case fin1=>
   rintro c st' ⟨rfl,na',nb',out,ac,bc,rfl,h1,h2,h3,h4,h5,M⟩;exact⟨rfl,.inl ⟨_,_,_,_,_,rfl,by lia,h2,h3,h4,h5,M⟩⟩
  case step1=>
   rintro y c st' _ hy ⟨rfl,na',nb',out,ac,bc,rfl,h1,h2,h3,h4,h5,M⟩;dsimp only;have ka:na'-1<a.size:=by lia
   have kb:nb'-1<b.size:=by lia
   refine aw (zbv kb ?_);refine aw (zbv ka ?_);refine aw (wpS_q R hk (hDb _ (bv kb)) (hDa _ (bv ka)) ?_);dsimp only;rw[<- zc9 (rk:=rk) kb,<- zc9 (rk:=rk) ka];by_cases hw:kA rk b (nb'-1)<kA rk a (na'-1)
   ·rw[decide_eq_true hw,if_pos rfl];refine aw (zbv ka ?_);have M1:=M.oneA (by lia) ka sa (λy h1 h2=>aH (sb y (nb'-1) (aL _) (by lia) kb) (bB hw));by_cases he:na'-1=0
    ·rw[if_pos (by simpa using he)];exact aD ⟨rfl,.inr ⟨_,_,rfl,M1.finA sa sb he h5⟩⟩
    ·rw[if_neg (by simpa using he)];split
     ·exact aD ⟨rfl,.inl ⟨_,_,_,_,_,rfl,by lia,by lia,by lia,h4,h5,M1⟩⟩
     ·exact aD ⟨rfl,_,_,_,_,_,rfl,by lia,by lia,by lia,h4,h5,M1⟩
   ·rw[decide_eq_false hw,if_neg (by simp)];refine aw (zbv kb ?_);have M1:=(M.swap.oneA (by lia) kb sb (λy h1 h2=>aH (sa y (na'-1) (aL _) (by lia) ka) (by lia))).swap;by_cases he:nb'-1=1
    ·rw[if_pos (by simpa using he)];exact aD ⟨rfl,.inr ⟨_,_,rfl,M1.finB sa sb he hb (by lia) h0⟩⟩
    ·rw[if_neg (by simpa using he)];split
     ·exact aD ⟨rfl,.inl ⟨_,_,_,_,_,rfl,by lia,h2,h3,by lia,by lia,M1⟩⟩
     ·exact aD ⟨rfl,_,_,_,_,_,rfl,by lia,h2,h3,by lia,by lia,M1⟩
  case post1=>
   rintro c st' ⟨rfl,⟨na',nb',out,ac,bc,rfl,h1,h2,h3,h4,h5,M⟩|⟨r,z,rfl,hW⟩⟩
   ·dsimp only;refine aw (zdZ ?_);refine aw (wpS_mono (cf (I:=λy c st'=>(∃g,st'=zcG st g)/\∃na' nb' out mg ac bc,c=(ab,na',nb',out,mg,ac,bc)/\na'+nb'+1<=na+nb/\1<=na'/\na'<a.size/\2<=nb'/\nb'<=b.size/\Mh rk (a.toList++b.toList) out (a.toList.take na'++b.toList.take nb'))
     (Q:=λc st'=>(∃g,st'=zcG st g)/\((∃na' nb' out mg ac bc,c=(ab,na',nb',out,mg,ac,bc)/\na'+nb'+1<=na+nb/\1<=na'/\na'<a.size/\2<=nb'/\nb'<=b.size/\Mh rk (a.toList++b.toList) out (a.toList.take na'++b.toList.take nb'))\/∃r z,c=(aa r,z)/\zeY rk a b r)) ?step2 ?fin2 ⟨⟨g,rfl⟩,_,_,_,_,_,_,rfl,h1,h2,h3,h4,h5,M⟩) ?post2)
    case fin2=>
     rintro c st' ⟨hg,z⟩;exact⟨hg,.inl z⟩
    case post2=>
     rintro c st' ⟨⟨g,rfl⟩,⟨na',nb',out,mg,ac,bc,rfl,h1,h2,h3,h4,h5,M⟩|⟨r,z,rfl,hW⟩⟩
     ·dsimp only;exact aw (zgH (aD ⟨⟨_,rfl⟩,_,_,_,_,rfl,by lia,h2,h3,h4,h5,M⟩))
     ·exact aD ⟨⟨_,rfl⟩,_,_,rfl,hW⟩
    case step2=>
     clear h1 h2 h3 h4 h5 M;rintro y c st' _ hy ⟨⟨g,rfl⟩,na',nb',out,mg,ac,bc,rfl,h1,h2,h3,h4,h5,M⟩;dsimp only;have kb:nb'-1<b.size:=by lia
     generalize mg-1=mg';revert mg';refine zjO ?_;intro g';refine aw (zgH ?_);refine aw (zbv kb ?_);refine aw (zgV R hk hDa (hDb _ (bv kb)) (by lia) (by lia) (sa.mono (aL _) (by lia)) λk k1 k2 k3=>?_);rw[<- zc9 (rk:=rk) kb]at k2 k3;simp only[bi]at k2 k3;have M1:=M.runA (k:=k) k1 (by lia) sa (λx y x1 x2 y1 y2=>aH (sb y (nb'-1) (aL _) (by lia) kb) (bB (k3 x x1 x2)));have k4:∀y,y<k->y<a.size->kA rk a y<=kA rk b (nb'-1):=λy y1 y2=>k2 y (aL _) y1;have z0:¬ na'-k > 0->k=na'/\out++(a.extract k na').reverse=out:=λe=>by
      have:k=na':=by lia
      subst this;rw[zeC,iF,dM];exact⟨rfl,rfl⟩
     clear k2 k3;dsimp only;generalize na'-k=ac1 at z0 ⊢;generalize hx2:k=x2;generalize ho1:out++(a.extract x2 na').reverse=o1;revert o1 x2;refine zjs (λo1 x2 e1 e2 _ he=>?_) λo2 j2 hz=>?_
     ·subst e1;subst e2;exact aD ⟨⟨_,rfl⟩,.inr ⟨_,_,rfl,M1.finA sa sb (by simpa using he) h5⟩⟩
     have hz':o2=out++(a.extract k na').reverse/\j2=k/\¬ j2=0:=by
      rcases hz with ⟨_,e1,e2,he⟩|⟨he,e1,e2⟩
      ·subst e1;exact⟨e2.symm,rfl,by simpa using he⟩
      ·obtain⟨q1,q2⟩:=z0 he;rw[q2];exact⟨e1,by lia,by lia⟩
     clear hz z0;obtain⟨e1,e2,he⟩:=hz';subst e2;rw[<- e1]at M1;have ka:j2-1<a.size:=by lia
     have hj2:j2<=na':=k1;clear e1 k1;refine aw (zbv kb ?_);have M2:=(M1.swap.oneA (by lia) kb sb k4).swap;by_cases he2:nb'-1=1
     ·rw[if_pos (by simpa using he2)];exact aD ⟨⟨_,rfl⟩,.inr ⟨_,_,rfl,M2.finB sa sb he2 hb (by lia) h0⟩⟩
     rw[if_neg (by simpa using he2)];refine aw (zbv ka ?_);refine aw (zgI R hk hDb (hDa _ (bv ka)) (by lia) (by lia) (sb.mono (aL _) (by lia)) λl l1 l2 l3=>?_);rw[<- zc9 (rk:=rk) ka]at l2 l3;simp only[bi]at l2 l3;have hl1:1<=l:=by
      refine eW λhc=>?_;have e1:=l3 0 (by lia) (by lia);have e2:=sa 0 (j2-1) (ak _) (aL _) ka;lia
     have M3:=(M2.swap.runA (k:=l) l1 (by lia) sb (λx y x1 x2 y1 y2=>aH (sa y (j2-1) (aL _) (by lia) ka) (l3 x x1 x2))).swap;have l4:∀y,y<l->y<b.size->kA rk b y<=kA rk a (j2-1):=λy y1 y2=>bB (l2 y (aL _) y1);generalize o2.push b[nb'-1]=o3 at M3 ⊢;have z0:¬ nb'-1-l > 0->l=nb'-1/\o3++(b.extract l (nb'-1)).reverse=o3:=λe=>by
      have:l=nb'-1:=by lia
      subst this;rw[zeC,iF,dM];exact⟨rfl,rfl⟩
     clear l2 l3 M2 M1;dsimp only;generalize nb'-1-l=bc1 at z0 ⊢;generalize hx4:l=x4;generalize ho4:o3++(b.extract x4 (nb'-1)).reverse=o4;revert o4 x4;refine zhP (λx4 e1 _=>by subst e1;simp;lia) (λo4 x4 e1 e2 _ he=>?_) λo5 j5 hz=>?_
     ·subst e1;subst e2;exact aD ⟨⟨_,rfl⟩,.inr ⟨_,_,rfl,M3.finB sa sb (by simpa using he) hb (by lia) h0⟩⟩
     have hz':o5=o3++(b.extract l (nb'-1)).reverse/\j5=l/\¬ j5=1:=by
      rcases hz with ⟨_,e1,e2,he⟩|⟨he,e1,e2⟩
      ·subst e1;exact⟨e2.symm,rfl,by simpa using he⟩
      ·obtain⟨q1,q2⟩:=z0 he;rw[q2];exact⟨e1,by lia,by lia⟩
     clear hz z0;obtain⟨e1,e2,he3⟩:=hz';subst e2;rw[<- e1]at M3;refine aw (zbv ka ?_);have M4:=M3.oneA (by lia) ka sa l4;split
     ·rename_i he4;exact aD ⟨⟨_,rfl⟩,.inr ⟨_,_,rfl,M4.finA sa sb (by simpa using he4) (by lia)⟩⟩
     ·rename_i he4;have he5:¬ j2-1=0:=λe=>he4 (beq_iff_eq.mpr e);have b1:j2-1+j5+1<=na+nb:=by lia
      have b2:1<=j2-1:=by lia
      have b3:2<=j5:=by lia
      have b4:j5<=b.size:=by lia
      split
      ·exact aD ⟨⟨_,rfl⟩,.inl ⟨_,_,_,_,_,_,rfl,b1,b2,ka,b3,b4,M4⟩⟩
      ·exact aD ⟨⟨_,rfl⟩,_,_,_,_,_,_,rfl,b1,b2,ka,b3,b4,M4⟩
   ·exact aD ⟨⟨_,rfl⟩,_,_,rfl,hW⟩
end
end L2

namespace L2
open PySem PySem.Spec PyProof.Rows
section
variable {prog:aI}{w:aO}{A:aW}{E:ag->ai->Prop}{s:ai}{kd:SortKind}{D:Keyed->Prop}{rk:Keyed->Nat}{st:SortSt}{a₀:Array Keyed}
structure Sb(kd:SortKind)(a₀:Array Keyed)(st:SortSt):Prop where
 perm:(arrOf st).toList.Perm a₀.toList
 kind:kindOf st=kd
 failed:failedOf st=ab
def Sb.size(h:Sb kd a₀ st):(arrOf st).size=a₀.size:=by have:=h.perm.length_eq;simpa using this
def Sb.all(h:Sb kd a₀ st)(hD:∀x∈a₀,D x):∀x∈arrOf st,D x:=λx hx=>hD x (cK.mp (h.perm.mem_iff.mp (cK.mpr hx)))
abbrev Run:=Nat×Nat×Nat
def Runs(rk:Keyed->Nat)(arr:Array Keyed):List Run->Nat->Nat->Prop
 |[],lo,hi=>lo=hi
 |(s,n,_)::ps,lo,hi=>s=lo/\1<=n/\Up rk arr lo (lo+n)/\Runs rk arr ps (lo+n) hi
def Runs.le{arr:Array Keyed}:∀{ps:List Run} {lo hi:Nat},Runs rk arr ps lo hi->lo+ps.length<=hi
 |[],_,_,h=>by cases h;exact ak _
 |(_,n,_)::ps,lo,hi,⟨_,h1,_,h⟩=>by have:=h.le;rw[au];lia
def Up.congr{arr arr':Array Keyed}{lo hi:Nat}(h:Up rk arr lo hi)(e:∀i,lo<=i->i<hi->kA rk arr' i=kA rk arr i):Up rk arr' lo hi:=λi j h1 h2 h3=>by
 rw[e i h1 (by lia),e j (by lia) h3];exact h i j h1 h2 h3
def Runs.congr{arr arr':Array Keyed}:∀{ps:List Run} {lo hi:Nat},Runs rk arr ps lo hi->(∀i,lo<=i->i<hi->kA rk arr' i=kA rk arr i)->Runs rk arr' ps lo hi
 |[],_,_,h,_=>h
 |(_,n,_)::ps,lo,hi,⟨h0,h1,h2,h⟩,e=>by
  have l:=h.le;exact⟨h0,h1,h2.congr λi a b=>e i a (by lia),h.congr λi a b=>e i (by lia) b⟩
def Runs.split{arr:Array Keyed}:∀{ps qs:List Run} {lo hi:Nat},Runs rk arr (ps++qs) lo hi->∃m,Runs rk arr ps lo m/\Runs rk arr qs m hi
 |[],_,lo,_,h=>⟨lo,rfl,h⟩
 |(_,_,_)::ps,qs,_,_,⟨h0,h1,h2,h⟩=>by
  obtain⟨m,e1,e2⟩:=Runs.split (ps:=ps) h;exact⟨m,⟨h0,h1,h2,e1⟩,e2⟩
def Runs.join{arr:Array Keyed}:∀{ps qs:List Run} {lo m hi:Nat},Runs rk arr ps lo m->Runs rk arr qs m hi->Runs rk arr (ps++qs) lo hi
 |[],_,_,_,_,h,h'=>by cases h;exact h'
 |(_,_,_)::_,_,_,_,_,⟨h0,h1,h2,h⟩,h'=>⟨h0,h1,h2,h.join h'⟩
def zgj{xs:Array Keyed}{lo k i:Nat}(hk:k<=xs.size)(hi:lo+i<k):kA rk (xs.extract lo k) i=kA rk xs (lo+i):=by
 have h1:i<(xs.extract lo k).size:=by rw[zdu hk];exact Nat.lt_sub_of_add_lt (d5 lo i ▸ hi)
 rw[zc9 h1,zc9 (aP hi hk),dt]
def zjp{lo:Nat}:∀(l:List Keyed) (n:Nat) (xs:Array Keyed),lo+n+l.length<=xs.size ->
  ((l.zipIdx n).foldl (λa (p:Keyed×Nat)=>a.setIfInBounds (lo+p.2) p.1) xs).toList=xs.toList.take (lo+n)++l++xs.toList.drop (lo+n+l.length)
 |[],n,xs,_=>by simp
 |p::l,n,xs,h=>by
  rw[au]at h;rw[List.zipIdx_cons,db,zjp l (n+1) _ (by rw[Array.size_setIfInBounds];lia)];have hl:lo+n<xs.toList.length:=by rw[aF];lia
  have ht:(xs.toList.take (lo+n)).length=lo+n:=by rw[bw];lia
  have e0:xs.toList.drop (lo+n+(l.length+1))=(xs.toList.drop (lo+n+1)).drop l.length:=by rw[jw];congr 1;lia
  dsimp only;rw[fZ,au,List.set_eq_take_append_cons_drop,if_pos hl,e0];generalize xs.toList.take (lo+n)=T at ht ⊢;generalize xs.toList.drop (lo+n+1)=r;have e1:T++p::r=(T++[p])++r:=by simp
  have e2:lo+(n+1)=(T++[p]).length:=by simp;lia
  rw[e1,e2,List.take_left' rfl,List.drop_append,eS (by lia),show(T++[p]).length+l.length-(T++[p]).length=l.length by lia];simp
def set_at{xs m:Array Keyed}{lo:Nat}(h:lo+m.size<=xs.size)(r:Array Keyed)(hr:r.toList=xs.toList.take lo++m.toList++xs.toList.drop (lo+m.size))(j:Nat):kA rk r j=if lo<=j/\j<lo+m.size then kA rk m (j-lo)else kA rk xs j:=by
 have ht:(xs.toList.take lo).length=lo:=by rw[bw,aF];lia
 unfold kA;rw[<- cX,hr,<- cX (xs:=m),<- cX (xs:=xs)];by_cases h1:j<lo
 ·rw[if_neg (by lia),a7,bg (by lia),c9 h1]
 ·rw[a7,bL (by lia),ht];by_cases h2:j<lo+m.size
  ·rw[if_pos ⟨by lia,h2⟩,bg (by rw[aF];lia)]
  ·rw[if_neg (by lia),bL (by rw[aF];lia),fS,aF];congr 3;lia
def set_perm{xs m:Array Keyed}{lo hi:Nat}(h:lo<=hi)(hm:m.toList.Perm (xs.extract lo hi).toList)(hs:hi<=xs.size)(r:Array Keyed)(hr:r.toList=xs.toList.take lo++m.toList++xs.toList.drop (lo+m.size)):r.toList.Perm xs.toList:=by
 have e:m.size=hi-lo:=by
  have:=hm.length_eq;rw[aF,aF,zdu hs]at this;exact this
 have e2:xs.toList=xs.toList.take lo++(xs.extract lo hi).toList++xs.toList.drop (lo+m.size):=by
  rw[a7,e,show lo+(hi-lo)=hi by lia,<- zez h,du]
 rw[hr]
 conv=>rhs;rw[e2]
 exact(hm.append_left _).append_right _
def up_merged{arr r m:Array Keyed}{sa mid k nb l:Nat}(hs:mid+nb<=arr.size)(hk:sa+k<mid)(hl:l<=nb)(h0:1<=l)(ua:Up rk arr sa mid)(ub:Up rk arr mid (mid+nb))
  (k2:∀i,sa<=i->i<sa+k->kA rk arr i<=kA rk arr mid) (k3:∀i,sa+k<=i->i<mid->kA rk arr mid<kA rk arr i)
  (l2:∀i,mid<=i->i<mid+l->kA rk arr i<kA rk arr (mid-1)) (l3:∀i,mid+l<=i->i<mid+nb->kA rk arr (mid-1)<=kA rk arr i)
  (hm:m.toList.Perm ((arr.extract (sa+k) mid).toList++(arr.extract mid (mid+l)).toList)) (hu:m.toList.Pairwise λx y=>rk x<=rk y)
  (hr:∀j,kA rk r j=if sa+k<=j/\j<mid+l then kA rk m (j-(sa+k))else kA rk arr j):Up rk r sa (mid+nb):=by
 have hz:m.size=mid+l-(sa+k):=by
  have:=hm.length_eq;rw[am,aF,aF,aF,zdu (by lia),zdu (by lia)]at this;lia
 have bd:∀j,j<m.size->kA rk arr mid<=kA rk m j/\kA rk m j<=kA rk arr (mid-1):=by
  intro j hj;rw[zc9 hj];have hx:m[j]∈(arr.extract (sa+k) mid).toList++(arr.extract mid (mid+l)).toList:=hm.mem_iff.mp (cK.mpr (bv hj));rcases aQ.mp hx with hx|hx
  ·obtain⟨p,p1,p2,p3,p4⟩:=zfQ (rk:=rk) hx;rw[<- p4];exact⟨bB (k3 p p1 p2),ua p (mid-1) (by lia) (by lia) (by lia)⟩
  ·obtain⟨p,p1,p2,p3,p4⟩:=zfQ (rk:=rk) hx;rw[<- p4];exact⟨ub mid p (ak _) p1 (by lia),bB (l2 p p1 p2)⟩
 intro i j h1 h2 h3;rw[hr i,hr j];by_cases c1:i<sa+k
 ·rw[if_neg (by lia)];by_cases c2:j<sa+k
  ·rw[if_neg (by lia)];exact ua i j h1 h2 (by lia)
  ·by_cases c3:j<mid+l
   ·rw[if_pos ⟨by lia,c3⟩];exact aH (k2 i h1 c1) (bd _ (by lia)).1
   ·rw[if_neg (by lia)];exact aH (k2 i h1 c1) (ub mid j (ak _) (by lia) h3)
 ·by_cases c2:i<mid+l
  ·rw[if_pos ⟨by lia,c2⟩];by_cases c3:j<mid+l
   ·rw[if_pos ⟨by lia,c3⟩,zc9 (by lia),zc9 (by lia)];by_cases e:i=j
    ·subst e;exact ak _
    ·exact dA.mp hu _ _ (by rw[aF];lia) (by rw[aF];lia) (by lia)
   ·rw[if_neg (by lia)];exact aH (bd _ (by lia)).2 (l3 j (by lia) h3)
  ·rw[if_neg (by lia),if_neg (by lia)];exact ub i j (by lia) h2 h3
def wpS_mgAt(R:Rk prog w A s kd D rk){Q:Bool->SortSt->Prop}{hi:Nat}{pre post:List Run}{sa na pw sb nb pw':Nat}(B:Sb kd a₀ st)(hD:∀x∈a₀,D x)(hp:(be st).toList=pre++(sa,na,pw)::(sb,nb,pw')::post)(hr:Runs rk (arrOf st) (be st).toList 0 hi)(hh:hi<=a₀.size)
  (h:∀st',Sb kd a₀ st'->(be st').toList=pre++(sa,na+nb,pw)::post->Runs rk (arrOf st') (be st').toList 0 hi->(∀j,hi<=j->kA rk (arrOf st') j=kA rk (arrOf st) j)->Q true st'):wpS (model prog w) A E s (mergeAt' pre.length) Q st:=by
 have g1:(be st)[pre.length]? =aa (sa,na,pw):=by
  rw[<- cX,hp];simp
 have g2:(be st)[pre.length+1]? =aa (sb,nb,pw'):=by
  rw[<- cX,hp];simp
 have hp1:(((be st).setIfInBounds pre.length (sa,na+nb,pw)).eraseIdxIfInBounds (pre.length+1)).toList=pre++(sa,na+nb,pw)::post:=by
  rw[Array.toList_eraseIdxIfInBounds,fZ,hp,hG _ _ (ak _),List.eraseIdx_append_of_length_le (dR _),fF,show pre.length+1-pre.length=1 by lia];rfl
 have hr0:=hr;rw[hp]at hr0;obtain⟨m,r1,rfl,n1,u1,rfl,n2,u2,r2⟩:=hr0.split;have hz:=B.size;have l1:=r2.le;have hd:=B.all hD;have fin:∀(arr':Array Keyed) (g:Nat),arr'.toList.Perm (arrOf st).toList->Up rk arr' sa (sa+(na+nb))->(∀j,¬ (sa<=j/\j<sa+(na+nb))->kA rk arr' j=kA rk (arrOf st) j) ->
   Q true (eO (kindOf st) arr' (((be st).setIfInBounds pre.length (sa,na+nb,pw)).eraseIdxIfInBounds (pre.length+1)) g (failedOf st)):=by
  intro arr' g e1 e2 e3;refine h _ ⟨e1.trans B.perm,B.kind,B.failed⟩ hp1 ?_ (λj hj=>e3 j (by lia));show Runs rk arr' (((be st).setIfInBounds pre.length (sa,na+nb,pw)).eraseIdxIfInBounds (pre.length+1)).toList 0 hi;rw[hp1];refine(r1.congr λi _ hi=>e3 i (by lia)).join ⟨rfl,by lia,e2,?_⟩;rw[show sa+(na+nb)=sa+na+nb by lia];exact r2.congr λi hi _=>e3 i (by lia)
 refine aw (wpS_get ?_);dsimp only;rw[g1,g2];dsimp only;refine aw (wpS_set ?_);have hsb:sa+na<(arrOf st).size:=by lia
 refine aw (zbv hsb ?_);refine aw (zgV (arr:=arrOf st) R B.kind hd (hd _ (bv hsb)) (by lia) (by lia) u1 λk k1 k2 k3=>?_);rw[<- zc9 (rk:=rk) hsb]at k2 k3;dsimp only;by_cases hk0:na-k=0
 ·rw[if_pos (by simpa using hk0)];have hk0':k=na:=by lia
  subst hk0';refine aD (fin _ _ (.refl _) (λi j h1 h2 h3=>?_) λ_ _=>rfl);by_cases c1:j<sa+k
  ·exact u1 i j h1 h2 c1
  ·by_cases c2:i<sa+k
   ·exact aH (k2 i h1 c2) (u2 _ j (ak _) (by lia) (by lia))
   ·exact u2 i j (by lia) h2 (by lia)
 rw[if_neg (by simpa using hk0)];have hsl:sa+k+(na-k)-1<(arrOf st).size:=by lia
 refine aw (zbv hsl ?_);refine aw (zgI (arr:=arrOf st) R B.kind hd (hd _ (bv hsl)) (by lia) (by lia) u2 λl l1 l2 l3=>?_);rw[<- zc9 (rk:=rk) hsl]at l2 l3;rw[show sa+k+(na-k)-1=sa+na-1 by lia]at l2 l3;have hl0:1<=l:=by
  refine eW λhc=>?_;have e1:=l3 (sa+na) (by lia) (by lia);have e2:=k3 (sa+na-1) (by lia) (by lia);lia
 dsimp only;rw[if_neg (by simp;lia)];have q1:sa+na<=(arrOf st).size:=bB hsb;have q2:sa+na+l<=(arrOf st).size:=by lia
 have zx:=zdu (lo:=sa+k) q1;have zy:=zdu (lo:=sa+na) q2;have q3:sa+k<sa+na:=by lia
 have wr:∀(m:Array Keyed) (g:Nat),m.toList.Perm (((arrOf st).extract (sa+k) (sa+na)).toList++((arrOf st).extract (sa+na) (sa+na+l)).toList)->(m.toList.Pairwise λx y=>rk x<=rk y) ->
   Q true (eO (kindOf st) (m.toList.zipIdx.foldl (λa (p:Keyed×Nat)=>a.setIfInBounds (sa+k+p.2) p.1) (arrOf st)) (((be st).setIfInBounds pre.length (sa,na+nb,pw)).eraseIdxIfInBounds (pre.length+1)) g (failedOf st)):=by
  intro m g hm hu;have hz:m.size=na+l-k:=by
   have:=hm.length_eq;rw[am,aF,aF,aF,zx,zy]at this;lia
  have hf:=zjp (lo:=sa+k) m.toList 0 (arrOf st) (by rw[aF];lia);rw[gv,aF]at hf;have hj:=λj=>set_at (rk:=rk) (xs:=arrOf st) (m:=m) (by lia) _ hf j;have hm2:m.toList.Perm ((arrOf st).extract (sa+k) (sa+na+l)).toList:=by
   refine hm.trans (.of_eq ?_)
   have e1:=zez (xs:=arrOf st) (i:=sa+k) (k:=sa+na) (by lia);have e2:=zez (xs:=arrOf st) (i:=sa+na) (k:=sa+na+l) (by lia);have e3:=zez (xs:=arrOf st) (i:=sa+k) (k:=sa+na+l) (by lia);rw[e1,e2,<- a7]at e3;exact List.append_cancel_right e3
  refine fin _ g (set_perm (by lia) hm2 (by lia) _ hf) ?_ (λj hj'=>?_)
  ·rw[show sa+(na+nb)=sa+na+nb by lia];refine up_merged (k:=k) (l:=l) (by lia) (by lia) l1 hl0 u1 u2 k2 k3 l2 l3 hm hu λj=>?_;rw[hj j,hz,show sa+k+(na+l-k)=sa+na+l by lia]
  ·rw[hj j,if_neg (by lia)]
 have ud:∀{lo hi:Nat},hi<=(arrOf st).size->Up rk (arrOf st) lo hi->Up rk ((arrOf st).extract lo hi) 0 ((arrOf st).extract lo hi).size:=fun {lo hi} hh u i j _ h2 h3=>by
  rw[zdu hh]at h3;have h4:lo+j<hi:=d5 lo j ▸ dy h3;rw[zgj hh (eN (di h2 _) h4),zgj hh h4];exact u _ _ (dD _ _) (di h2 _) h4
 have ux:=ud q1 (u1.mono (dD sa k) (ak _));have uy:=ud q2 (u2.mono (ak _) (di l1 _));have x0:kA rk ((arrOf st).extract (sa+na) (sa+na+l)) 0<kA rk ((arrOf st).extract (sa+k) (sa+na)) 0:=by
  rw[zgj (lo:=sa+na) (i:=0) q2 (Nat.lt_add_of_pos_right hl0),zgj (lo:=sa+k) (i:=0) q1 q3];exact k3 _ (ak _) q3
 have xl:∀y,y<((arrOf st).extract (sa+na) (sa+na+l)).size->kA rk ((arrOf st).extract (sa+na) (sa+na+l)) y<kA rk ((arrOf st).extract (sa+k) (sa+na)) (((arrOf st).extract (sa+k) (sa+na)).size-1):=λy hy=>by
  rw[zy]at hy;have hy':sa+na+y<sa+na+l:=d5 (sa+na) y ▸ dy hy;have e:sa+k+(sa+na-(sa+k)-1)=sa+na-1:=by lia
  rw[zx,zgj q2 hy',zgj q1 (by lia),e];exact l2 _ (dD _ _) hy'
 have dx:∀{lo hi:Nat},∀x∈(arrOf st).extract lo hi,D x:=λx hx=>by
  obtain⟨i,hi,rfl⟩:=Array.mem_iff_getElem.mp hx;rw[dt];exact hd _ (bv _)
 have sx:1<=((arrOf st).extract (sa+k) (sa+na)).size:=by rw[zx];exact Nat.sub_pos_of_lt q3
 have sy:1<=((arrOf st).extract (sa+na) (sa+na+l)).size:=by rw[zy,dH];exact hl0
 have done:∀(m:Array Keyed) (g:Nat),m.toList.Perm (((arrOf st).extract (sa+k) (sa+na)).toList++((arrOf st).extract (sa+na) (sa+na+l)).toList)->(m.toList.Pairwise λx y=>rk x<=rk y) ->
   Q (failedOf st).isNone (eO (kindOf st) (m.toList.zipIdx.foldl (λa (p:Keyed×Nat)=>a.setIfInBounds (sa+k+p.2) p.1) (arrOf st)) (((be st).setIfInBounds pre.length (sa,na+nb,pw)).eraseIdxIfInBounds (pre.length+1)) g (failedOf st)):=by
  rw[B.failed];have:=wr;rw[B.failed]at this;exact this
 split
 ·refine aw (wpS_mgLo R B.kind dx dx ux uy sx sy (bB x0) xl λout g hp hu=>?_);refine aw (wpS_modify ?_);refine aw (wpS_get ?_);exact aD (done out g hp hu)
 ·refine aw (wpS_mgHi R B.kind dx dx ux uy sx sy x0 xl λout g hp hu=>?_);refine aw (wpS_modify ?_);refine aw (wpS_get ?_);exact aD (done out g hp hu)
end
end L2

namespace L2
open PySem PySem.Spec PyProof.Rows
section
variable {prog:aI}{w:aO}{A:aW}{E:ag->ai->Prop}{s:ai}{kd:SortKind}{D:Keyed->Prop}{rk:Keyed->Nat}{st:SortSt}{a₀:Array Keyed}
def ze4(R:Rk prog w A s kd D rk){i j:Nat}{Q:Option Bool->SortSt->Prop}(B:Sb kd a₀ st)(hD:∀x∈a₀,D x)(hi:i<a₀.size)(hj:j<a₀.size)(h:Q (aa (decide (kA rk (arrOf st) i<kA rk (arrOf st) j))) st):wpS (model prog w) A E s (ltAt' i j) Q st:=by
 rw[<- B.size]at hi hj;have hd:=B.all hD;refine aw (wpS_get ?_);refine aw (zbv hi ?_);refine aw (zbv hj ?_);refine wpS_q R B.kind (hd _ (bv hi)) (hd _ (bv hj)) ?_;rw[<- zc9 (rk:=rk) hi,<- zc9 (rk:=rk) hj];exact h
structure Kp(rk:Keyed->Nat)(kd:SortKind)(a₀:Array Keyed)(lo:Nat)(st st':SortSt):Prop where
 sb:Sb kd a₀ st'
 pend:be st'=be st
 left:∀j,j<lo->kA rk (arrOf st') j=kA rk (arrOf st) j
def kA_of{xs ys:Array Keyed}{i j:Nat}(h:xs[i]? =ys[j]?):kA rk xs i=kA rk ys j:=by unfold kA;rw[h]
def zjB{xs:Array Keyed}{i j:Nat}(hj:j<=xs.size)(k:Nat):kA rk (mirror xs i j ((j-i) / 2)) k=if i<=k/\k<j then kA rk xs (i+j-1-k)else kA rk xs k:=by
 have e:=getElem?_mirror_all (i:=i) hj k;split at e
 ·rename_i c;rw[if_pos c];exact kA_of e
 ·rename_i c;rw[if_neg c];exact kA_of e
def kA_bub{xs:Array Keyed}{src d:Nat}(hs:src<xs.size)(hd:d<=src)(k:Nat):kA rk (bubble xs src d) k=if k=src-d then kA rk xs src else if src-d<k/\k<=src then kA rk xs (k-1)else kA rk xs k:=by
 have e:=getElem?_bubble hs d hd k;split at e
 ·rename_i c;rw[if_pos c];exact kA_of e
 ·rename_i c;rw[if_neg c];split at e
  ·rename_i c;rw[if_pos c];exact kA_of e
  ·rename_i c;rw[if_neg c];exact kA_of e
def Kp.set{lo:Nat}{st':SortSt}(K:Kp rk kd a₀ lo st st'){xs:Array Keyed}(hp:xs.toList.Perm (arrOf st').toList)(hl:∀j,j<lo->kA rk xs j=kA rk (arrOf st') j):Kp rk kd a₀ lo st (setArr st' xs):=
 ⟨⟨hp.trans K.sb.perm,K.sb.kind,K.sb.failed⟩,K.pend,λj hj=>(hl j hj).trans (K.left j hj)⟩
def Kp.mir{lo i j:Nat}{st':SortSt}(K:Kp rk kd a₀ lo st st')(hi:lo<=i)(hj:j<=a₀.size):Kp rk kd a₀ lo st (setArr st' (mirror (arrOf st') i j ((j-i) / 2))):=
 K.set (f6.mp (mirror_perm _ _ _ _)) λk hk=>by rw[zjB (by rw[K.sb.size];exact hj),if_neg (by lia)]
def Up.more{arr:Array Keyed}{lo n:Nat}(h:Up rk arr lo (lo+n))(hn:1<=n)(hx:kA rk arr (lo+n-1)<=kA rk arr (lo+n)):Up rk arr lo (lo+(n+1)):=λi j h1 h2 h3=>by
 by_cases c:j<lo+n
 ·exact h i j h1 h2 c
 ·have:j=lo+n:=by lia
  subst this;by_cases e:i=lo+n
  ·subst e;exact ak _
  ·exact aH (h i (lo+n-1) h1 (by lia) (by lia)) hx
def wpS_asc{lo a nrem:Nat}{f:Nat->Option (Option Nat)×Nat->StateT SortSt Sem (ForInStep (Option (Option Nat)×Nat))}{Q:Option (Option Nat)×Nat->SortSt->Prop}(ha:1<=a)(han:a<=nrem)(hu:Up rk (arrOf st) lo (lo+a))
  (hf:∀x n (P:ForInStep (Option (Option Nat)×Nat)->SortSt->Prop),1<=n->n<nrem->(kA rk (arrOf st) (lo+n)<kA rk (arrOf st) (lo+n-1)->P (.done (ab,n)) st)->(¬ kA rk (arrOf st) (lo+n)<kA rk (arrOf st) (lo+n-1)->P (.yield (ab,n+1)) st)->wpS (model prog w) A E s (f x (ab,n)) P st)
  (h:∀n,a<=n->n<=nrem->Up rk (arrOf st) lo (lo+n)->(n=nrem\/kA rk (arrOf st) (lo+n)<kA rk (arrOf st) (lo+n-1))->Q (ab,n) st):wpS (model prog w) A E s (forIn [a:nrem] (ab,a) f) Q st:=by
 refine cf (I:=λx c st'=>st'=st/\c=(ab,x)/\Up rk (arrOf st) lo (lo+x)) ?_ ?_ ⟨rfl,rfl,hu⟩
 ·rintro x c st' x1 x2 ⟨rfl,rfl,u⟩;exact hf x x _ (by lia) x2 (λhl=>h x x1 (by lia) u (.inr hl)) λhl=>⟨rfl,rfl,u.more (by lia) (by lia)⟩
 ·rintro c st' ⟨rfl,rfl,u⟩;rw[show max a nrem=nrem by lia]at u ⊢;exact h nrem han (ak _) u (.inl rfl)
def Dn(rk:Keyed->Nat)(xs:Array Keyed)(lo hi:Nat):Prop:=∀i j,lo<=i->i<=j->j<hi->kA rk xs j<=kA rk xs i
def Dn.more{arr:Array Keyed}{lo n:Nat}(h:Dn rk arr lo (lo+n))(hn:1<=n)(hx:kA rk arr (lo+n)<=kA rk arr (lo+n-1)):Dn rk arr lo (lo+(n+1)):=λi j h1 h2 h3=>by
 by_cases c:j<lo+n
 ·exact h i j h1 h2 c
 ·have:j=lo+n:=by lia
  subst this;by_cases e:i=lo+n
  ·subst e;exact ak _
  ·exact aH hx (h i (lo+n-1) h1 (by lia) (by lia))
def zd0{xs:Array Keyed}{i j:Nat}(hj:j<=xs.size)(he:∀k,i<=k->k<j->kA rk xs k=kA rk xs (j-1))(k:Nat):kA rk (mirror xs i j ((j-i) / 2)) k=kA rk xs k:=by
 rw[zjB hj];split
 ·rw[he _ (by lia) (by lia),he k (by lia) (by lia)]
 ·rfl
def Dn.turn{xs:Array Keyed}{lo m:Nat}(d:Dn rk xs lo (lo+m))(hz:lo+m<=xs.size):Up rk (mirror xs lo (lo+m) ((lo+m-lo) / 2)) lo (lo+m):=λi j a b c=>by
 rw[zjB hz i,zjB hz j,if_pos ⟨a,by lia⟩,if_pos ⟨by lia,c⟩];exact d _ _ (by lia) (by lia) (by lia)
def zha{i j:Nat}{Q:Unit->SortSt->Prop}(h:Q () (setArr st (mirror (arrOf st) i j ((j-i) / 2)))):wpS (model prog w) A E s (reverseSlice' i j) Q st:=wpS_modify h
def zjg{M:Model}{α:Type}{f:StateT SortSt Sem α}{Q:α->SortSt->Prop}{P:SortSt->Prop}{G:Prop}(main:(∀st1,P st1->wpS M A E s f Q st1)->G)(tail:∀st1,P st1->wpS M A E s f Q st1):G:=main tail
def wpS_run(R:Rk prog w A s kd D rk){lo nrem:Nat}{Q:Option Nat->SortSt->Prop}(B:Sb kd a₀ st)(hD:∀x∈a₀,D x)(hn:lo+nrem<=a₀.size)(h1:1<=nrem)
  (h:∀m st',Kp rk kd a₀ lo st st'->1<=m->m<=nrem->Up rk (arrOf st') lo (lo+m)->Q (aa m) st'):wpS (model prog w) A E s (countRun' lo nrem) Q st:=by
 have hK:Kp rk kd a₀ lo st st:=⟨B,rfl,λ_ _=>rfl⟩
 refine aw (wpS_asc (rk:=rk) (lo:=lo) (ak 1) h1 (λi j a b c=>(show i=j by lia) ▸ ak _) ?_ λn n1 n2 u hor=>?_)
 ·intro x n P n1 n2 p1 p2;refine aw (ze4 R B hD (by lia) (by lia) ?_);dsimp only;split
  ·rename_i hl;exact aD (p1 (by simpa using hl))
  ·rename_i hl;exact aD (p2 (by simpa using hl))
 dsimp only;by_cases hnn:n=nrem
 ·rw[if_pos (by simpa using hnn)];exact aD (h n st hK n1 n2 u)
 rw[if_neg (by simpa using hnn)];have hlt:=hor.resolve_left hnn;have up1:∀m,Dn rk (arrOf st) lo (lo+n)->m=n+1->Dn rk (arrOf st) lo (lo+m):=λm d e=>by
  subst e;exact d.more n1 (bB hlt)
 refine' zjg (M:=model prog w) (A:=A) (E:=E) (s:=s) (Q:=Q) (P:=λst1=>Kp rk kd a₀ lo st st1/\Dn rk (arrOf st1) lo (lo+(n+1))) (λtail=>?_) ?_;rotate_left;by_cases hgt:n > 1;rw[if_pos hgt];refine aw (ze4 R B hD (by lia) (by lia) ?_);dsimp only;by_cases hro:kA rk (arrOf st) lo<kA rk (arrOf st) (lo+n-1);rw[decide_eq_true hro,if_pos rfl];exact aD (h n st hK n1 n2 u);rw[decide_eq_false hro,if_neg (by simp)];have hall:∀k,lo<=k->k<lo+n->kA rk (arrOf st) k=kA rk (arrOf st) (lo+n-1):=λk k1 k2=>by
  have e1:=u lo k (ak _) k1 k2;have e2:=u k (lo+n-1) k1 (by lia) (by lia);lia
 refine aw (zha ?_);have hz:lo+n<=(arrOf st).size:=by rw[B.size];lia
 have K1:=hK.mir (i:=lo) (j:=lo+n) (ak _) (by lia);have d1:Dn rk (mirror (arrOf st) lo (lo+n) ((lo+n-lo) / 2)) lo (lo+(n+1)):=by
  have:=up1 (n+1) (λi j a b c=>by rw[hall i a (by lia),hall j (by lia) c];exact ak _) rfl;intro i j a b c;rw[zd0 hz hall,zd0 hz hall];exact this i j a b c
 exact tail _ ⟨K1,d1⟩;rw[if_neg hgt];exact tail _ ⟨hK,up1 (n+1) (λi j a b c=>by
  have:i=j:=by lia
  subst this;exact ak _) rfl⟩
 rintro st1 ⟨K1,d1⟩
 ·skip
  refine aw (zdZ ?_);refine aw (wpS_mono (cf (I:=λx c st'=>∃q,c=(ab,x,q)/\Kp rk kd a₀ lo st st'/\Dn rk (arrOf st') lo (lo+x)/\q+1<=x/\∀i,lo+x-(q+1)<=i->i<lo+x->kA rk (arrOf st') i=kA rk (arrOf st') (lo+x-1))
   (Q:=λc st'=>∃m q,c=(ab,m,q)/\n+1<=m/\m<=nrem/\Kp rk kd a₀ lo st st'/\Dn rk (arrOf st') lo (lo+m)/\q+1<=m/\∀i,lo+m-(q+1)<=i->i<lo+m->kA rk (arrOf st') i=kA rk (arrOf st') (lo+m-1)) ?step ?fin ⟨0,rfl,K1,d1,by lia,λi i1 i2=>by congr 1;lia⟩) ?post)
  case fin=>
   rintro c st' ⟨q,rfl,K,d,q1,e⟩;rw[show max (n+1) nrem=nrem by lia]at d q1 e ⊢;exact⟨nrem,q,rfl,by lia,ak _,K,d,q1,e⟩
  case step=>
   rintro x c st' x1 x2 ⟨q,rfl,K,d,q1,e⟩;dsimp only;have hz':lo+x<=(arrOf st').size:=by rw[K.sb.size];lia
   refine aw (ze4 R K.sb hD (by lia) (by lia) ?_);dsimp only;by_cases hs:kA rk (arrOf st') (lo+x)<kA rk (arrOf st') (lo+x-1)
   ·rw[decide_eq_true hs,if_pos rfl];have d2:=d.more (by lia) (bB hs);by_cases hq:q > 0
    ·rw[if_pos hq];refine aw (zha (aD ⟨0,rfl,K.mir (by lia) (by lia),λi j a b c=>?_,by lia,λi i1 i2=>by congr 1;lia⟩));show kA rk (mirror (arrOf st') _ _ _) j<=kA rk (mirror (arrOf st') _ _ _) i;rw[zd0 hz' e,zd0 hz' e];exact d2 i j a b c
    ·rw[if_neg hq];exact aD ⟨0,rfl,K,d2,by lia,λi i1 i2=>by congr 1;lia⟩
   ·rw[decide_eq_false hs,if_neg (by simp)];refine aw (ze4 R K.sb hD (by lia) (by lia) ?_);dsimp only;by_cases hl:kA rk (arrOf st') (lo+x-1)<kA rk (arrOf st') (lo+x)
    ·rw[decide_eq_true hl,if_pos rfl];exact aD ⟨x,q,rfl,x1,by lia,K,d,q1,e⟩
    ·rw[decide_eq_false hl,if_neg (by simp)];refine aD ⟨q+1,rfl,K,d.more (by lia) (by lia),by lia,λi i1 i2=>?_⟩;rw[show lo+(x+1)-1=lo+x by lia];by_cases hi:i=lo+x
     ·subst hi;rfl
     ·rw[e i (by lia) (by lia)];lia
  case post=>
   rintro c st' ⟨m,q,rfl,m1,m2,K,d,q1,e⟩;dsimp only;have hz':lo+m<=(arrOf st').size:=by rw[K.sb.size];lia
   refine' zjg (M:=model prog w) (A:=A) (E:=E) (s:=s) (Q:=Q) (P:=λst2=>Kp rk kd a₀ lo st st2/\Dn rk (arrOf st2) lo (lo+m)) (λtail=>?_) ?_;rotate_left;by_cases hq:q > 0;rw[if_pos hq];refine aw (zha ?_);have K2:=K.mir (i:=lo+m-(q+1)) (j:=lo+m) (by lia) (by lia);have d2:Dn rk (mirror (arrOf st') (lo+m-(q+1)) (lo+m) ((lo+m-(lo+m-(q+1))) / 2)) lo (lo+m):=λi j a b c=>by
    rw[zd0 hz' e,zd0 hz' e];exact d i j a b c
   exact tail _ ⟨K2,d2⟩;rw[if_neg hq];exact tail _ ⟨K,d⟩;rintro st2 ⟨K2,d2⟩
   ·skip
    refine aw (zha ?_);have K3:=K2.mir (i:=lo) (j:=lo+m) (ak _) (by lia);refine aw (wpS_asc (rk:=rk) (lo:=lo) (by lia) m2 (d2.turn (aH (by lia) (dC K2.sb.size.symm))) ?_ λm' m3 m4 u' _=>?_)
    ·intro x n P n1 n2 p1 p2;refine aw (ze4 R K3.sb hD (by lia) (by lia) ?_);dsimp only;split
     ·rename_i hl;exact aD (p1 (by simpa using hl))
     ·rename_i hl;exact aD (p2 (by simpa using hl))
    ·exact aD (h m' _ K3 (by lia) m4 u')
def wpS_ins(R:Rk prog w A s kd D rk){lo n ok:Nat}{Q:Bool->SortSt->Prop}{st₀:SortSt}(K:Kp rk kd a₀ lo st₀ st)(hD:∀x∈a₀,D x)(hn:lo+n<=a₀.size)(h1:1<=ok)(hok:ok<=n)(hu:Up rk (arrOf st) lo (lo+ok))
  (h:∀st',Kp rk kd a₀ lo st₀ st'->Up rk (arrOf st') lo (lo+n)->Q true st'):wpS (model prog w) A E s (binarySort' lo n ok) Q st:=by
 refine aw (wpS_mono (cf (I:=λk c st'=>c=(ab,())/\Kp rk kd a₀ lo st₀ st'/\Up rk (arrOf st') lo (lo+k))
  (Q:=λc st'=>c=(ab,())/\Kp rk kd a₀ lo st₀ st'/\Up rk (arrOf st') lo (lo+n)) ?step ?fin ⟨rfl,K,by rwa [show max ok 1=ok by lia]⟩) ?post)
 case post=>
  rintro c st' ⟨rfl,K,u⟩;exact aD (h st' K u)
 case fin=>
  rintro c st' ⟨rfl,K,u⟩;rw[show max (max ok 1) n=n by lia]at u;exact⟨rfl,K,u⟩
 case step=>
  rintro k c st' k1 k2 ⟨rfl,K,u⟩;refine aw (wpS_mono (cf (I:=λx c st''=>st''=st'/\∃l r,c=(ab,l,r)/\l<=r/\r<=k/\r-l<=k-x/\(∀i,lo<=i->i<lo+l->kA rk (arrOf st') i<=kA rk (arrOf st') (lo+k))/\∀i,lo+r<=i->i<lo+k->kA rk (arrOf st') (lo+k)<kA rk (arrOf st') i)
   (Q:=λc st''=>st''=st'/\∃l r,c=(ab,l,r)/\l<=k/\(∀i,lo<=i->i<lo+l->kA rk (arrOf st') i<=kA rk (arrOf st') (lo+k))/\∀i,lo+l<=i->i<lo+k->kA rk (arrOf st') (lo+k)<kA rk (arrOf st') i) ?s2 ?f2 ⟨rfl,0,k,rfl,by lia,by lia,by lia,λi _ _=>by lia,λi _ _=>by lia⟩) ?p2)
  case f2=>
   rintro c st'' ⟨rfl,l,r,rfl,a1,a2,a3,a4,a5⟩;have:l=r:=by lia
   subst this;exact⟨rfl,l,l,rfl,a2,a4,a5⟩
  case s2=>
   rintro x c st'' _ hx ⟨rfl,l,r,rfl,a1,a2,a3,a4,a5⟩;dsimp only;by_cases hge:l ≥ r
   ·rw[if_pos hge];have:l=r:=by lia
    subst this;exact aD ⟨rfl,l,l,rfl,a2,a4,a5⟩
   ·rw[if_neg hge];have m1:l<=(l+r) / 2:=by lia
    have m2:(l+r) / 2<r:=by lia
    have m4:(l+r) / 2-l<=k-(x+1):=by lia
    have m5:r-((l+r) / 2+1)<=k-(x+1):=by lia
    clear a1 a3;generalize (l+r) / 2=m at *;refine aw (ze4 R K.sb hD (by lia) (by lia) ?_);dsimp only;by_cases hl:kA rk (arrOf st'') (lo+k)<kA rk (arrOf st'') (lo+m)
    ·rw[decide_eq_true hl,if_pos rfl];exact aD ⟨rfl,l,_,rfl,m1,aH (bB m2) a2,m4,a4,λi i1 i2=>aP hl (u _ i (dD _ _) i1 i2)⟩
    ·rw[decide_eq_false hl,if_neg (by simp)];exact aD ⟨rfl,_,r,rfl,m2,a2,m5,λi i1 i2=>aH (u i (lo+m) i1 (Nat.le_of_lt_succ i2) (Nat.add_lt_add_left (aP m2 a2) _)) (jm.mp hl),a5⟩
  case p2=>
   rintro c st'' ⟨rfl,l,r,rfl,a2,a4,a5⟩;have hz:=K.sb.size;have kb:=λj=>kA_bub (rk:=rk) (xs:=arrOf st'') (src:=lo+k) (d:=lo+k-(lo+l)) (by lia) (by lia) j;rw[show lo+k-(lo+k-(lo+l))=lo+l by lia]at kb;refine aw (wpS_modify (aD ⟨rfl,K.set (f6.mp (bubble_perm _ _ _)) λj hj=>?_,λi j a b c=>?_⟩))
   ·refine(kb j).trans ?_;rw[if_neg (by lia),if_neg (by lia)]
   ·refine aH (dC (kb i)) (aH ?_ (dC (kb j).symm))
    repeat' split
    all_goals first
     |lia
     |exact ak _
     |exact a4 _ (by lia) (by lia)
     |exact bB (a5 _ (by lia) (by lia))
     |exact u _ _ (by lia) (by lia) (by lia)
end
end L2

namespace L2
open PySem PySem.Spec PyProof.Rows
section
variable {prog:aI}{w:aO}{A:aW}{E:ag->ai->Prop}{s:ai}{kd:SortKind}{D:Keyed->Prop}{rk:Keyed->Nat}{st:SortSt}{a₀:Array Keyed}
def Runs.pow{arr:Array Keyed}:∀{ps qs:List Run} {lo hi:Nat},ps.map (λr=>(r.1,r.2.1))=qs.map (λr=>(r.1,r.2.1))->Runs rk arr ps lo hi->Runs rk arr qs lo hi
 |[],[],_,_,_,h=>h
 |[],_::_,_,_,e,_=>by cases e
 | _::_,[],_,_,e,_=>by cases e
 |(a,b,c)::ps,(a',b',c')::qs,lo,hi,e,⟨h0,h1,h2,h⟩=>by
  rw[ar,ar]at e;obtain⟨e1,e2⟩:=jI e;cases e1;exact⟨h0,h1,h2,h.pow e2⟩
def map_mod{l:List Run}{i:Nat}{f:Run->Run}(hf:∀r,((f r).1,(f r).2.1)=(r.1,r.2.1)):(l.modify i f).map (λr=>(r.1,r.2.1))=l.map (λr=>(r.1,r.2.1)):=by
 apply List.ext_getElem?;intro j;rw[aA,aA,List.getElem?_modify];cases l[j]? with
 |none=>rfl
 |some r=>
  show aa _=aa _;congr 1;dsimp only;split
  ·exact hf r
  ·rfl
def two_at{ps:List Run}{i:Nat}(h:i+1<ps.length):∃pre a b post,ps=pre++a::b::post/\pre.length=i:=by
 refine⟨ps.take i,ps[i],ps[i+1],ps.drop (i+2),?_,by rw[bw];lia⟩;rw[<- bR,<- bR,du]
def wpS_mgI(R:Rk prog w A s kd D rk){Q:Bool->SortSt->Prop}{hi i:Nat}(B:Sb kd a₀ st)(hD:∀x∈a₀,D x)(hi2:i+1<(be st).size)(hr:Runs rk (arrOf st) (be st).toList 0 hi)(hh:hi<=a₀.size)
  (h:∀st',Sb kd a₀ st'->(be st').size+1=(be st).size->Runs rk (arrOf st') (be st').toList 0 hi->(∀j,hi<=j->kA rk (arrOf st') j=kA rk (arrOf st) j)->Q true st'):wpS (model prog w) A E s (mergeAt' i) Q st:=by
 obtain⟨pre,⟨sa,na,pa⟩,⟨sb,nb,pb⟩,post,e,rfl⟩:=two_at (ps:=(be st).toList) (i:=i) (by rw[aF];exact hi2);refine wpS_mgAt R B hD e hr hh λst' B' e' r' k'=>h st' B' ?_ r' k';rw[<- aF,<- aF,e,e'];simp only[am,au];lia
def zi1(R:Rk prog w A s kd D rk){Q:Unit->SortSt->Prop}(B:Sb kd a₀ st)(hD:∀x∈a₀,D x)(h2:1<=a₀.size)(hp:be st=#[])
  (h:∀st',Sb kd a₀ st'->Up rk (arrOf st') 0 a₀.size->Q () st'):wpS (model prog w) A E s sortRuns' Q st:=by
 rw[sortRuns'_eq];refine aw (wpS_get ?_);dsimp only;rw[B.size];refine aw (wpS_mono (cf (I:=λx c st'=>∃lo,c=(ab,lo)/\x<=lo/\lo<=a₀.size/\Sb kd a₀ st'/\Runs rk (arrOf st') (be st').toList 0 lo)
  (Q:=λc st'=>c=(ab,a₀.size)/\Sb kd a₀ st'/\Runs rk (arrOf st') (be st').toList 0 a₀.size) ?step ?fin ⟨0,rfl,ak _,aL _,B,by rw[hp];rfl⟩) ?post)
 case fin=>
  rintro c st' ⟨lo,rfl,h1,h2,B',r'⟩;have:lo=a₀.size:=by lia
  subst this;exact⟨rfl,B',r'⟩
 case post=>
  rintro c st' ⟨rfl,B',r'⟩;dsimp only;have hl:=r'.le;rw[aF]at hl;refine aw (wpS_mono (cf (I:=λx c st'=>c=(ab,())/\(be st').size+x<=a₀.size/\Sb kd a₀ st'/\Runs rk (arrOf st') (be st').toList 0 a₀.size)
   (Q:=λc st'=>c=(ab,())/\(be st').size<=1/\Sb kd a₀ st'/\Runs rk (arrOf st') (be st').toList 0 a₀.size) ?s2 ?f2 ⟨rfl,by lia,B',r'⟩) ?p2)
  case f2=>
   rintro c st' ⟨rfl,h1,B',r'⟩;exact⟨rfl,by lia,B',r'⟩
  case p2=>
   rintro c st' ⟨rfl,h1,B',r'⟩;refine aD (h st' B' ?_);rw[<- aF]at h1;cases e:(be st').toList with
   |nil=>
    rw[e]at r';have:0=a₀.size:=r';lia
   |cons p ps=>
    obtain⟨a,b,c⟩:=p;rw[e]at r' h1;rw[au]at h1;have:ps=[]:=de (by lia);subst this;obtain⟨_,_,u,z⟩:=r';have z':0+b=a₀.size:=z;rw[z']at u;exact u
  case s2=>
   rintro x c st' _ hx ⟨rfl,h1,B',r'⟩;refine aw (wpS_get ?_);by_cases hz:(be st').size<=1
   ·rw[if_pos hz];exact aD ⟨rfl,hz,B',r'⟩
   ·rw[if_neg hz];have go:∀i,i+1<(be st').size->wpS (model prog w) A E s (mergeAt' i) (λa st''=>a=true/\(be st'').size+(x+1)<=a₀.size/\Sb kd a₀ st''/\Runs rk (arrOf st'') (be st'').toList 0 a₀.size) st':=λi hi=>
     wpS_mgI R B' hD hi r' (ak _) λst'' B'' e'' r'' _=>⟨rfl,by lia,B'',r''⟩
    refine aw (wpS_mono (go _ ?_) ?_)
    ·(repeat' split) <;> lia
    ·rintro _ st'' ⟨rfl,e1,e2,e3⟩;rw[if_neg (by simp)];exact aD ⟨rfl,e1,e2,e3⟩
 case step=>
  rintro x c st' _ hx ⟨lo,rfl,h1,h2,B',r'⟩;dsimp only;by_cases hge:lo ≥ a₀.size
  ·rw[if_pos hge];have:lo=a₀.size:=by lia
   subst this;exact aD ⟨rfl,B',r'⟩
  rw[if_neg hge];refine aw (wpS_run R B' hD (by lia) (by lia) λn st1 K1 n1 n2 u1=>?_);dsimp only;have put:∀(N:Nat) (st2:SortSt),1<=N->lo+N<=a₀.size->Sb kd a₀ st2->Runs rk (arrOf st2) (be st2).toList 0 lo->Up rk (arrOf st2) lo (lo+N) ->
    Runs rk (arrOf st2) ((be st2).push (lo,N,0)).toList 0 (lo+N):=λN st2 e1 e2 e3 e4 e5=>by
   rw[f9];exact e4.join ⟨rfl,e1,e5,rfl⟩
  by_cases hm:n<minRun' a₀.size a₀.size 0;rw[if_pos hm];refine aw (zdZ ?_);refine aw (wpS_ins R K1 hD (by lia) n1 (by lia) u1 λst2 K2 u2=>?_);rw[if_neg (by simp)];have b1:1<=min (a₀.size-lo) (minRun' a₀.size a₀.size 0):=by lia
  have b2:lo+min (a₀.size-lo) (minRun' a₀.size a₀.size 0)<=a₀.size:=by lia
  generalize min (a₀.size-lo) (minRun' a₀.size a₀.size 0)=N at u2 b1 b2 ⊢;rotate_left;rw[if_neg hm];have K2:=K1;have u2:=u1;have b1:=n1;have b2:lo+n<=a₀.size:=by lia
  generalize n=N at u2 b1 b2 ⊢
  all_goals
   have r2:=r'.congr (arr':=_) (λi _ hi=>K2.left i hi);rw[<- K2.pend]at r2;refine aw (wpS_get ?_);split
   ·rename_i s1 m1 q1 _;generalize power' a₀.size (2*s1+m1) _ a₀.size=pw;refine aw (wpS_mono (cf (I:=λy c st3=>c=(ab,())/\Sb kd a₀ st3/\Runs rk (arrOf st3) (be st3).toList 0 lo/\Up rk (arrOf st3) lo (lo+N))
     (Q:=λc st3=>c=(ab,())/\Sb kd a₀ st3/\Runs rk (arrOf st3) (be st3).toList 0 lo/\Up rk (arrOf st3) lo (lo+N)) ?_ ?_ ⟨rfl,K2.sb,r2,u2⟩) ?_)
    ·rintro y c st3 _ hy ⟨rfl,B3,r3,u3⟩;refine aw (wpS_get ?_);split
     ·rename_i hsome;split
      ·exact aD ⟨rfl,B3,r3,u3⟩
      ·have hz:(be st3).size > 1:=by
        refine eW λhc=>?_;rw[if_neg (by lia)]at hsome;cases hsome
       refine aw (wpS_mgI R B3 hD (by lia) r3 (by lia) λst4 B4 _ r4 k4=>?_);rw[if_neg (by simp)];exact aD ⟨rfl,B4,r4,u3.congr λi i1 _=>k4 i i1⟩
     ·exact aD ⟨rfl,B3,r3,u3⟩
    ·exact λc st3 z=>z
    ·rintro c st3 ⟨rfl,B3,r3,u3⟩;dsimp only;refine aw (wpS_modify ?_);refine aw (wpS_modify (aD ⟨_,rfl,by lia,b2,⟨B3.perm,B3.kind,B3.failed⟩,?_⟩));exact put N (setPending st3 ((be st3).modify ((be st3).size-1) λx=>(x.1,x.2.1,pw))) b1 b2 ⟨B3.perm,B3.kind,B3.failed⟩ (by
      show Runs rk (arrOf st3) ((be st3).modify _ _).toList 0 lo;rw[Array.toList_modify];exact r3.pow (map_mod (f:=λx=>(x.1,x.2.1,pw)) λr=>rfl).symm) u3
   ·exact aw (wpS_modify (aD ⟨_,rfl,by lia,b2,⟨K2.sb.perm,K2.sb.kind,K2.sb.failed⟩,put _ _ b1 b2 K2.sb r2 u2⟩))
end
end L2

namespace L2
open PySem PySem.Spec PyProof.Rows
abbrev RwI:=List Int
def rkR(rows:List RwI)(r:RwI):Nat:=rows.countP λq=>decide (q<r)
def zfJ{α:Type}{p q:α->Bool}:∀{l:List α},(∀x,p x=true->q x=true)->(∃x∈l,p x=false/\q x=true)->l.countP p<l.countP q
 |[],_,h=>by obtain⟨x,hx,_⟩:=h;cases hx
 |a::l,h,⟨x,hx,hp,hq⟩=>by
  rw[jd,jd];have m:l.countP p<=l.countP q:=hJ λx _ hx=>h x hx;rcases aE.mp hx with e|hx
  ·subst e;rw[if_neg (by simp[hp]),if_pos hq];lia
  ·have:=zfJ (l:=l) h ⟨x,hx,hp,hq⟩;by_cases ha:p a=true
   ·rw[if_pos ha,if_pos (h a ha)];lia
   ·rw[if_neg ha];lia
def rkR_lt{rows:List RwI}{r r':RwI}(hr:r∈rows):decide (rkR rows r<rkR rows r')=decide (r<r'):=by
 by_cases h:r<r'
 ·rw[decide_eq_true h];refine decide_eq_true (zfJ (λq hq=>?_) ⟨r,hr,?_,decide_eq_true h⟩)
  ·exact decide_eq_true (List.lt_trans (of_decide_eq_true hq) h)
  ·exact decide_eq_false (jx r)
 ·rw[decide_eq_false h];refine decide_eq_false (jm.mpr (hJ λq _ hq=>?_));refine decide_eq_true (dB λhc=>h ?_);exact List.lt_of_le_of_lt (ja.mp hc) (of_decide_eq_true hq)
section
variable {prog:aI}{w:aO}{A:aW}{E:ag->ai->Prop}{s:ai}
structure SrtH(prog:aI)(w:aO)(HP:aV->Prop)(vs:List ag)(kd:SortKind)(row:ag->RwI):Prop where
 keep:∀{h h':aV},HP h->(∀b o,h.get? b=aa o->o.cls=.type "tuple" -> h'.get? b=aa o)->HP h'
 kind:∀(A:aW) (s:ai) (E:ag->ai->Prop) (Q:SortKind->ai->Prop),HP s.heap->2<=vs.length->Q kd s->aM (model prog w) A (keyKind' vs.toArray) Q E s
 lt:∀(A:aW) (s:ai),HP s.heap->∀x∈vs,∀y∈vs,∀(E:ag->ai->Prop) (Q:Bool->ai->Prop),Q (decide (row x<row y)) s->aM (model prog w) A (keyLt' kd x y) Q E s
variable {HP:aV->Prop}{vs:List ag}{kd:SortKind}{row:ag->RwI}
def SrtH.rk(H:SrtH prog w HP vs kd row)(h:HP s.heap):Rk prog w A s kd (λx=>x.1∈vs) (λx=>rkR (vs.map row) (row x.1)):=
 ⟨λx y hx hy E Q q=>H.lt A s h _ hx _ hy E Q (by rw[rkR_lt (bU.mpr ⟨_,hx,rfl⟩)]at q;exact q)⟩
def zip_all{xs:Array Keyed}(hp:xs.toList.Perm (vs.toArray.zip vs.toArray).toList):∃out:List ag,(xs.map (·.2)).toList=out/\out.Perm vs/\out=xs.toList.map (·.1):=by
 rw[eX]at hp;have h2:∀p∈xs.toList,p.1=p.2:=λp hx=>(mem_zip_self (hp.mem_iff.mp hx)).1;refine⟨xs.toList.map (·.2),Array.toList_map,?_,bQ λp hx=>(h2 p hx).symm⟩;have:=hp.map (·.2);rwa [gk (ak _)]at this
def zgD{a:ae}{n:Nat}{P:Fin->ai->Prop}(H:SrtH prog w HP vs kd row)(ho:s.heap.get? a=aa (seqObj "list" vs.toArray n))(hI:HP s.heap)(hl:vs.length<=10000000)
  (h:∀out:List ag,out.Perm vs->(out.map row).Pairwise (·<=·)->P (.done (.ret .none)) { s with heap:=sortedHeap s.heap a vs out.toArray}):aM (model prog w) A (Builtin.«list.sort» ⟨[.ref a],[]⟩) P E s:=by
 rw[list_sort_plain];have ha:a<s.heap.objs.size:=aN ho;refine ay (listItems_at ho rfl ?_);refine ay (listUpdate_at ho rfl ?_ (by rw[cn];simp;lia) (by simp));obtain⟨e1,ho1⟩:∃e1,(s.heap.update a (cj λ_=>#[])).get? a=aa (seqObj "list" #[] e1):=⟨_,get?_update_seq ho (λ_=>#[])⟩;refine ay (seqEpoch_at ho1 rfl ?_);refine ay (wpAny_newTuple ?_ (by show vs.length<=_;rw[cn];lia));refine ay (wpAny_newList ?_);refine dI ?_;have ho6:(((s.heap.update a (cj λ_=>#[])).push (seqObj "tuple" vs.toArray 0)).push (seqObj "list" #[] 0)).get? a=aa (seqObj "list" #[] e1):=by
  rw[i7 _ _ _ (by rw[size_push',eD];exact bz (Nat.lt_succ_of_lt ha)),i7 _ _ _ (by rw[eD];exact bz ha)];exact ho1
 show aM (model prog w) A _ P E { s with heap:=((s.heap.update a (cj λ_=>#[])).push (seqObj "tuple" vs.toArray 0)).push (seqObj "list" #[] 0)};dsimp only;have hI6:HP (((s.heap.update a (cj λ_=>#[])).push (seqObj "tuple" vs.toArray 0)).push (seqObj "list" #[] 0)):=H.keep hI λb o hb hc=>by
  have hne:b≠a:=λe=>by subst e;rw[ho]at hb;cases hb;exact absurd (show ij "list" =ij "tuple" from hc) (λz=>by injection z with z;exact absurd z (by decide))
  refine ax _ (ax _ ?_);rw[iG _ _ _ _ hne];exact hb
 have fin:∀st':SortSt,(arrOf st').toList.Perm (vs.toArray.zip vs.toArray).toList->((arrOf st').toList.map λp=>row p.1).Pairwise (·<=·)->P (.done (.ret .none)) { s with heap:=sortedHeap s.heap a vs ((arrOf st').map (·.2))}:=λst' hp hs=>by
  obtain⟨out,e1,e2,e3⟩:=zip_all hp;have e4:(arrOf st').map (·.2)=out.toArray:=by apply iw;rw[e1]
  rw[e4];refine h out e2 ?_;rw[e3,b9];exact hs
 have sz2:∀st':SortSt,(arrOf st').toList.Perm (vs.toArray.zip vs.toArray).toList->((arrOf st').map (·.2)).size<=bj+1:=λst' hp=>by
  have:=hp.length_eq;rw[aF]at this;rw[Array.size_map,this,cn];simp;lia
 by_cases h2:vs.toArray.size<2
 ·rw[if_pos h2,if_pos h2];refine ay (a8 ?_);rw[StateT.run_pure];refine ay (a8 ?_);dsimp only;refine ay (seqEpoch_at ho6 rfl ?_);refine ay (listUpdate_at ho6 rfl ?_ (by simp) (sz2 (eO _ (vs.toArray.zip vs.toArray) #[] 7 ab) (.refl _)));simp only[bne_self_eq_false,cY,if_false];refine a8 (fin (eO _ (vs.toArray.zip vs.toArray) #[] 7 ab) (.refl _) ?_);have hz:((vs.toArray.zip vs.toArray).toList.map λp:Keyed=>row p.1).length<2:=by
   rw[al,eX];simpa using h2
  show((vs.toArray.zip vs.toArray).toList.map λp:Keyed=>row p.1).Pairwise (·<=·)
  match hq:((vs.toArray.zip vs.toArray).toList.map λp:Keyed=>row p.1)with
  |[]=>exact .nil
  |[x]=>exact eQ _ _
  | _::_::_=>rw[hq]at hz;simp at hz;lia
 ·rw[if_neg h2,if_neg h2];refine ay (H.kind _ { s with heap:=((s.heap.update a (cj λ_=>#[])).push (seqObj "tuple" vs.toArray 0)).push (seqObj "list" #[] 0)} _ _ hI6 (by simpa using h2) ?_);refine ay (bX (zi1 (a₀:=vs.toArray.zip vs.toArray) (st:=eO kd (vs.toArray.zip vs.toArray) #[] 7 ab) (Q:=λ_ st'=>Sb kd (vs.toArray.zip vs.toArray) st'/\((arrOf st').toList.map λp=>row p.1).Pairwise (·<=·))
   (H.rk (s:={ s with heap:=((s.heap.update a (cj λ_=>#[])).push (seqObj "tuple" vs.toArray 0)).push (seqObj "list" #[] 0)}) hI6) ⟨.refl _,rfl,rfl⟩ (λx hx=>?_) (by simp at h2 ⊢;lia) rfl λst' B u=>⟨B,?_⟩) ?_ λ_ _ e=>e)
  ·have hx':x∈vs.zip vs:=by rw[<- cK,eX]at hx;exact hx
   exact(mem_zip_self hx').2
  ·rw[ga,dA];intro i j hi hj hij;have hz:=B.size;rw[aF]at hi hj;have:=u i j (aL _) (by lia) (by lia);rw[zc9 hi,zc9 hj]at this;rw[dz,dz];have hm:(arrOf st')[j]∈(vs.toArray.zip vs.toArray).toList:=B.perm.mem_iff.mp (cK.mpr (bv hj));rw[eX]at hm;refine ja.mp λhc=>?_;have h3:=rkR_lt (rows:=vs.map row) (r':=row (arrOf st')[i].1) (bU.mpr ⟨_,(mem_zip_self hm).2,rfl⟩);rw[decide_eq_true hc]at h3;have:=of_decide_eq_true h3;lia
  ·rintro⟨⟨⟩,st'⟩ s' ⟨rfl,B,hs⟩;dsimp only at B hs ⊢;refine ay (seqEpoch_at ho6 rfl ?_);refine ay (listUpdate_at ho6 rfl ?_ (by simp) (sz2 st' B.perm));have hf:=B.failed;simp only[bne_self_eq_false,cY,if_false];rw[hf];exact a8 (fin st' B.perm hs)
def zgy{l:ae}{Q:ag->ai->Prop}(H:SrtH prog w HP vs kd row)(hl:s.heap.IsList l vs.toArray)(hI:HP s.heap)(hz:vs.length<=10000000)
  (h:∀out:List ag,out.Perm vs->(out.map row).Pairwise (·<=·)->Q (.ref (s.heap.objs.size+1)) { s with heap:=sortedAll s.heap vs out.toArray}):aM (model prog w) A (call (.builtin "sorted") [.ref l]) Q E s:=by
 refine Calls.call_function_entry kind_sorted plain_sorted entry_sorted (args_sorted1 _) ?_;unfold Builtin.«sorted»;have hz':vs.length<=bj:=by rw[cn];lia
 refine ay (m:=checkCount "sorted" 1 1 _) (a8 ?_);refine ay (collect_list hl ?_ hz');refine ay (wpAny_newList ?_ hz');have hsz:((s.heap.push (seqObj "list" #[] 0)).update s.heap.objs.size (cj (· ++ vs.toArray))).objs.size=s.heap.objs.size+1:=by
  rw[eD,size_push']
 have hoL:(((s.heap.push (seqObj "list" #[] 0)).update s.heap.objs.size (cj (· ++ vs.toArray))).push (seqObj "list" vs.toArray 0)).get? (s.heap.objs.size+1)=aa (seqObj "list" vs.toArray 0):=by
  rw[<- hsz];exact aT _ rfl
 have hI2:HP (((s.heap.push (seqObj "list" #[] 0)).update s.heap.objs.size (cj (· ++ vs.toArray))).push (seqObj "list" vs.toArray 0)):=H.keep hI λb o hb _=>by
  refine ax _ ?_;rw[iG _ _ _ _ (bz (aN hb))];exact ax _ hb
 show aM _ _ _ _ _ { s with heap:=((s.heap.push (seqObj "list" #[] 0)).update s.heap.objs.size (cj (· ++ vs.toArray))).push (seqObj "list" vs.toArray 0)};rw[hsz];refine ay (dI (wpAny_call_entry slot_list_sort ⟨_,hoL,rfl⟩ entry_list_sort (zgD H hoL hI2 hz λout p1 p2=>⟨_,rfl,?_⟩) (args_list_sort _)));exact a8 ⟨_,rfl,h out p1 p2⟩
end
end L2

namespace L2
open PySem PySem.Spec PyProof.Rows
section
variable {prog:aI}{w:aO}{A:aW}{s:ai}
def zjP{Q:Bool->ai->Prop}:∀{xs ys:List ag} {is js:List Int} (i:Nat),IntsAre xs is->IntsAre ys js->Q (decide (is<js)) s->jy prog w A true (decide (xs.length<ys.length)) Q (xs.zip ys) i s
 | _,_,_,_,i,.nil,.nil,h=>h
 | _,_,_,_,i,.nil,.cons n t r,h=>by
  refine gL ?_;rw[decide_eq_true (by simp)];rwa [decide_eq_true (by simp)]at h
 | _,_,_,_,i,.cons n t r,.nil,h=>by
  refine gL ?_;rw[decide_eq_false (by simp)];rwa [decide_eq_false (by simp)]at h
 | _,_,_,_,i,.cons (vs:=xs) (ns:=is) a t r,.cons (vs:=ys) (ns:=js) b u r',h=>by
  rw[bG];refine gw (wpAny_eqBool_int ?_);by_cases e:a=b
  ·subst e;rw[beq_self_eq_true];refine gM ?_;have e1:decide ((dJ a t::xs).length<(dJ a u::ys).length)=decide (xs.length<ys.length):=by simp
   have e2:decide (a::is<a::js)=decide (is<js):=by
    by_cases c:is<js
    ·rw[decide_eq_true c,decide_eq_true (bM.mpr (.inr ⟨rfl,c⟩))]
    ·rw[decide_eq_false c,decide_eq_false λz=>(bM.mp z).elim (λz=>by lia) λz=>c z.2]
   rw[e2]at h;rw[e1];exact zjP (i+1) r r' h
  ·rw[beq_eq_false_iff_ne.mpr e];refine hU ?_;have e2:decide (a::is<b::js)=decide (a<b):=by
    by_cases c:a<b
    ·rw[decide_eq_true c,decide_eq_true (bM.mpr (.inl c))]
    ·rw[decide_eq_false c,decide_eq_false λz=>(bM.mp z).elim c λz=>e z.1]
   rw[e2]at h;cases hb:(true&&i==0)with
   |true=>exact oneLt_int h
   |false=>exact jo _ _ (lt_int h)
def ziD(h:aV)(row:ag->RwI)(vs:List ag):Prop:=∀v∈vs,∃a o xs n,v=.ref a/\h.get? a=aa o/\o.cls=.type "tuple" /\ o.data=.seq xs n/\IntsAre xs.toList (row v)/\row v≠[]
def zfH{h:aV}{row:ag->RwI}:∀{vs:List ag},ziD h row vs->∃fs,jp h vs fs/\fs.length=vs.length/\∀v∈fs,∃i t,v=.int i t
 |[],_=>⟨[],trivial,rfl,λv hv=>by cases hv⟩
 |v::vs,t=>by
  obtain⟨fs,k1,k2,k3⟩:=zfH (vs:=vs) λv hv=>t v (ah _ hv);obtain⟨a,o,xs,n,rfl,e1,e2,e3,e4,e5⟩:=t v aj;obtain⟨xs⟩:=xs;generalize row (.ref a)=r at e4 e5;cases e4 with
  |nil=>exact absurd rfl e5
  |cons i t _=>
   refine⟨.int i t::fs,⟨⟨a,o,_,n,rfl,e1,e2,e3,rfl⟩,k1⟩,by rw[au,au,k2],λv hv=>?_⟩;rcases aE.mp hv with e|hv
   ·exact⟨i,t,e⟩
   ·exact k3 v hv
def srtH_tups{row:ag->RwI}{vs:List ag}:SrtH prog w (λh=>ziD h row vs) vs (tuples' true) row:=by
 refine⟨λt k v hv=>?_,λA s E Q t h2 q=>?_,λA s t x hx y hy E Q q=>?_⟩
 ·obtain⟨a,o,xs,n,e0,e1,e2,e3,e4⟩:=t v hv;exact⟨a,o,xs,n,e0,k a o e1 e2,e2,e3,e4⟩
 ·obtain⟨fs,k1,k2,k3⟩:=zfH t;refine je (T:=.type "int") k1 (by lia) (λv hv=>?_) rfl q;obtain⟨i,t,rfl⟩:=k3 v hv;exact .now
 ·obtain⟨a,oa,xs,n,rfl,a1,_,a3,a4,_⟩:=t x hx;obtain⟨b,ob,ys,m,rfl,b1,_,b3,b4,_⟩:=t y hy;refine jz a1 a3 b1 b3 ?_;rw[<- aF,<- aF];exact zjP 0 a4 b4 q
end
def vI:V->Int
 |.int i=>i
 | _=>0
def ziy(H:Hp)(a:ae):RwI:=match H a with
 |some (.tup vs)=>vs.map vI
 | _=>[]
def rowV(H:Hp):ag->RwI
 |.ref a=>ziy H a
 | _=>[]
def ziP(r:RwI):(r.map V.int).map vI=r:=by
 rw[b9];exact(bQ λ_ _=>rfl).trans (gS r)
def ze7:∀{r:RwI} {us:List ag},Vals (r.map V.int) us->IntsAre us r
 |[],_,.nil=>.nil
 |i::r,_,.cons h t=>by
  obtain⟨k,rfl⟩:=h;exact .cons i k (ze7 t)
def zfV:∀{as:List ae} {us:List ag},Vals (as.map V.ref) us->us=as.map bq
 |[],_,.nil=>rfl
 |a::as,_,.cons h t=>by
  cases h;rw[ar,zfV t]
def zfY:∀as:List ae,Vals (as.map V.ref) (as.map bq)
 |[]=>.nil
 |a::as=>.cons rfl (zfY as)
def unR:ag->ae
 |.ref a=>a
 | _=>default
def zif{as:List ae}{out:List ag}(h:out.Perm (as.map bq)):∃as':List ae,as'.Perm as/\out=as'.map bq:=by
 refine⟨out.map unR,?_,?_⟩
 ·have:=h.map unR;rwa [b9,show(unR ∘ bq)=id from rfl,gS]at this
 ·rw[b9];refine(gS out).symm.trans (bQ λv hv=>?_)
  obtain⟨a,_,rfl⟩:=bU.mp (h.mem_iff.mp hv);rfl
def zhx(H:Hp)(as:List ae):Prop:=∀a∈as,∃r:RwI,r≠[]/\H a=aa (.tup (r.map V.int))
def Inv.tups{X:Cx}{pins:List (ae×Obj)}{σ:St}{H:Hp}{s:ai}(I:Inv X pins σ H s){as:List ae}(h:zhx H as):ziD s.heap (rowV H) (as.map bq):=by
 intro v hv;obtain⟨a,ha,rfl⟩:=bU.mp hv;obtain⟨r,hr,hH⟩:=h a ha;obtain⟨_,its,ri,o,e,hcl,n,hd⟩:=I.hok a _ hH;have er:rowV H (.ref a)=r:=by
  show ziy H a=r;unfold ziy;rw[hH];exact ziP r
 rw[er];exact⟨a,o,_,n,rfl,e,hcl,congrArg ku hd,ze7 ri,hr⟩
def call_srtG{X:Cx}:zd7 X (.builtin "sorted") (λxs H Q=>∃(p:ae) (as:List ae),xs=[.ref p]/\SqL X.K H p (as.map V.ref)/\zhx H as/\as.length<=1000000/\∀(as':List ae) (l:ae),as'.Perm as->(as'.map (ziy H)).Pairwise (·<=·)->H l=ab->Q (.ref l) (upd H l (.lst (as'.map V.ref)))):=by
 intro pins s σ H xs us Q I r h;obtain⟨p,as,rfl,hq,hpr,hl,q⟩:=h;obtain⟨u,rfl,rx⟩:=zfD r;cases rx;obtain⟨its,r',pl,hz⟩:=I.list hq;cases zfV r';refine zgy srtH_tups pl.isList (I.tups hpr) (by rw[al];lia) λout p1 p2=>?_;obtain⟨as',p3,rfl⟩:=zif p1;rw[b9]at p2;have sz:((s.heap.push (seqObj "list" #[] 0)).update s.heap.objs.size (cj (· ++ (as.map bq).toArray))).objs.size=s.heap.objs.size+1:=by rw[eD,size_push']
 have g0:(((s.heap.push (seqObj "list" #[] 0)).update s.heap.objs.size (cj (· ++ (as.map bq).toArray))).push (seqObj "list" (as.map bq).toArray 0)).get? (s.heap.objs.size+1)=aa (seqObj "list" (as.map bq).toArray 0):=by
  rw[<- sz];exact aT _ rfl
 obtain⟨e,he⟩:=sortedHeap_at (out:=(as'.map bq).toArray) g0;refine⟨.ref (s.heap.objs.size+1),_,I.laid (a:=s.heap.objs.size+1) (o:=.lst (as'.map V.ref)) (h':=sortedAll s.heap (as.map bq) (as'.map bq).toArray) (t':=s.toks) (λb o eb=>?_) (dR _) ⟨?_,as'.map bq,e,zfY as',he⟩,rfl,q as' _ p3 p2 (I.hok.fresh (dR _))⟩
 ·exact sortedAll_old eb
 ·rw[al,p3.length_eq,cn];lia
end L2
namespace L3
open PySem PySem.Spec PyProof.Rows L2
def rowD(r:RwI):D:=.tup (r.map .int)
def zgc:D->Option RwI
 |.tup ds=>zf8 ds
 | _=>ab
def zhE:List D->Option (List RwI)
 |[]=>aa []
 |d::ds=>(zgc d).bind λp=>(zhE ds).map λps=>p::ps
def srtR(rows:List RwI):List RwI:=rows.mergeSort λa b=>decide (a<=b)
def zdU(rows:List RwI):(srtR rows).Perm rows:=iH _ _
def srtR_up(rows:List RwI):(srtR rows).Pairwise (·<=·):=by
 have:=gB (le:=λa b:RwI=>decide (a<=b)) (λa b c h1 h2=>decide_eq_true (jJ (of_decide_eq_true h1) (of_decide_eq_true h2))) (λa b=>by
  rcases jK a b with h|h
  ·rw[decide_eq_true h];rfl
  ·rw[decide_eq_true h,kx]) rows
 exact this.imp λh=>of_decide_eq_true h
def srtR_only{rows rows':List RwI}(h:rows'.Perm rows)(hs:rows'.Pairwise (·<=·)):rows'=srtR rows:=
 gx (λa b _ _ h1 h2=>gy h1 h2) hs (srtR_up rows) (h.trans (zdU rows).symm)
def zhj{F:Hp}:∀{vs:List V} {ds:List D} {rows:List RwI},Reps F vs ds->zhE ds=aa rows->(∀r∈rows,r≠[])->∃as:List ae,vs=as.map V.ref/\zhx F as/\rows=as.map (ziy F)
 | _,_,_,.nil,q,_=>by cases q;exact⟨[],rfl,(λa ha=>by cases ha),rfl⟩
 | _,_,_,.cons r t,q,hn=>by
  obtain⟨p,q1,q⟩:=bind_some q;obtain⟨ps,q2,q⟩:=map_some q;subst q;obtain⟨as,e1,e2,e3⟩:=zhj t q2 λr hr=>hn r (ah _ hr);cases r with
  |tup e rs=>
   have ei:=zhe rs q1;rw[ei]at e;rename_i a _ _;refine⟨a::as,by rw[e1];rfl,λb hb=>?_,?_⟩
   ·rcases aE.mp hb with h|h
    ·subst h;exact⟨p,hn p aj,e⟩
    ·exact e2 b h
   ·rw[ar,<- e3];congr 1;unfold ziy;rw[e];exact(ziP p).symm
  |non=>cases q1
  |bl=>cases q1
  |int=>cases q1
  |str=>cases q1
  |lst=>cases q1
  |dic=>cases q1
  |ins=>cases q1
  |dcI=>cases q1
  |dcS=>cases q1
def zhO{F:Hp}:∀{as:List ae},zhx F as->Reps F (as.map V.ref) ((as.map (ziy F)).map rowD)
 |[],_=>.nil
 |a::as,h=>by
  obtain⟨r,hr,e⟩:=h a aj;have er:ziy F a=r:=by unfold ziy;rw[e];exact ziP r
  refine .cons ?_ (zhO λb hb=>h b (ah _ hb));rw[er];exact .tup e (.ints r)
noncomputable def gSrtG:List Ent->Option Ent
 |[x]=>(asL x).bind λds=>(zhE ds).bind λrows=>gif ((∀r∈rows,r≠[])/\rows.length<=1000000) (aa (.own ((srtR rows).map rowD)))
 | _=>ab
def c_srtG{X:Cx}:zeQ X (.builtin "sorted") gSrtG:=⟨_,call_srtG,λH0 F H vs es res Q fh hh r q k=>by
 obtain⟨x,rfl⟩:=zfO rfl (λ_ _ _=>rfl) q;obtain⟨v,rfl,rz⟩:=zdq r;obtain⟨ds,q1,q⟩:=bind_some q;obtain⟨rows,q2,q⟩:=bind_some q;obtain⟨⟨hs,hl⟩,qz⟩:=za7 q;cases qz;obtain⟨l,ws,e',h1,h2⟩:=RepR.toL rz fh q1;subst e';obtain⟨as,e1,e2,e3⟩:=zhj h2 q2 hs;rw[e1]at h1;have hA:zhx H as:=λa ha=>by obtain⟨r,x1,x2⟩:=e2 a ha;exact⟨r,x1,fh _ _ x2⟩
 have hrow:∀a∈as,ziy H a=ziy F a:=λa ha=>by
  obtain⟨r,x1,x2⟩:=e2 a ha;unfold ziy;rw[x2,fh _ _ x2]
 refine⟨l,as,rfl,h1,hA,by rw[e3,al]at hl;exact hl,λas' p p1 p2 hp=>?_⟩;have e4:as'.map (ziy H)=as'.map (ziy F):=bQ λa ha=>hrow a (p1.mem_iff.mp ha);rw[e4]at p2;have e5:as'.map (ziy F)=srtR rows:=srtR_only (by rw[e3];exact p1.map _) p2;have e6:=zhO (F:=F) (as:=as') λa ha=>e2 a (p1.mem_iff.mp ha);rw[e5]at e6;exact k _ _ _ (Ex.lay fh hp) ⟨p,_,rfl,hh.free hp,zaj,e6,fh.free hp⟩⟩
end L3

namespace L3
open PySem PySem.Spec PyProof.Rows L2
section
variable {X:Cx}{e:Expr}{es:List Expr}{pos pos' p p0 apos cpos:Pos}{fa fb fx:FXE}{fs:FXA}{fe:FE}{x y:Str}{tg:Expr}{tgf:FG}
end
abbrev FXO:=En->Option (Option Int×En)
def SemXO(K:af)(t:TO)(f:FXO):Prop:=∀(B:Bd) (F H:Hp) (σ:Sg) (δ:En) (o:Option Int) (δ':En) (Q:Option Int->Hp->Prop),RS K B F H σ δ->f δ=aa (o,δ')->(∀F' H',RS K B F' H' σ δ'->FX B F F'->Q o H')->t σ H Q
structure VXO(X:Cx)(e:Option Expr)(f:FXO):Prop where
 h:∃t,WO X e t/\SemXO X.K t f
section
variable {X:Cx}{e tg iter:Expr}{lo hi:Option Expr}{fx:FXE}{fl fu:FXO}{pos p2:Pos}{tgf:FG}{f:FS}{body:List Stmt}
end
end L3

namespace L2
open PySem PySem.Spec PyProof.Rows
section
variable {prog:aI}{w:aO}{A:aW}{E:ag->ai->Prop}{s:ai}
set_option maxRecDepth 100000
end
section
variable {X:Cx}{e tg:Expr}{t:TE}{p p1 pos pos1:Pos}
def Itd(a:ae)(o:Obj)(ks:List Str)(vs:List V):It:=⟨λi H=>H a=aa (.frz o (.dK ((ks.map aY).zip vs)))/\i<ks.length,λi H x H'=>H'=H/\∃z,ks[i]? =aa z/\x=.str z,λi H=>H a=aa (.frz o (.dK ((ks.map aY).zip vs)))/\ks.length<=i⟩
def kv_keys:∀{ks:List Str} {vs:List V} {us:List (Key×ag)},ks.length=vs.length->KV ((ks.map aY).zip vs) us->us.map (·.1)=ks.map aY
 |[],[],us,_,r=>by
  unfold KV at r;cases r;rfl
 |x::ks,v::vs,us,hl,r=>by
  unfold KV at r;rw[ar,bG]at r;cases r with
  |cons h t=>rw[ar,ar,kv_keys (by simpa using hl) t,<- h.1]
def Inv.frzD{pins:List (ae×Obj)}{σ:St}{H:Hp}{s:ai}{a:ae}{o:Obj}{ks:List Str}{vs:List V}(I:Inv X pins σ H s)(e:H a=aa (.frz o (.dK ((ks.map aY).zip vs))))(hl:ks.length=vs.length) :
  (a==sysModules)=false/\∃(us:List (Key×ag)) (es:Array DictEntry) (ep:Nat),o.data=.dict es ep/\us.map (·.1)=ks.map aY/\s.heap.DictAt (zbo X.prog X.w) a us ep:=by
 obtain⟨h1,_,hd,us,r,o',es,ep,h2,h3,h4,h5⟩:=I.hok a _ e;rw[h1]at h2;cases h2;exact⟨hd,us,es,ep,h4,kv_keys hl r,_,es,h1,h3,h4,h5⟩
def turn_dic{P:aI}{w:aO}{K:af}{a it:ae}{o:Obj}{ks:List Str}{vs:List V}{es:Array DictEntry}{ep:Nat}(hl:ks.length=vs.length)(ho:o.data=.dict es ep) :
  Turn P w K tg (Itd a o ks vs) [it] it (λi h=>h.IsKeyIter it a i ks.length ep) where
 mem:=by simp
 obj:=λi h st b hb=>by
  have e:b=it:=by simpa using hb
  subst e;obtain⟨o,e,c,d⟩:=st;exact⟨o,e,λv z=>by rw[d]at z;cases z⟩
 keep:=λi h h' st k=>st.at λo e=>k it (by simp) o e
 item:=by
  intro X hP hw hK hc i pins s σ H E I hf st hg;subst hP hw hK;obtain⟨f0,f1,f2,f3,f4,f5⟩:=hf it (by simp);obtain⟨hg1,hg2⟩:=(show _/\_ from hg);obtain⟨_,us,es',ep',h4,hk,hd⟩:=I.frzD hg1 hl;rw[ho]at h4;cases h4;have hu:us.length=ks.length:=by have:=congrArg cZ hk;simpa using this
  have hlt:i<us.length:=by lia
  rw[<- hu]at st;refine wpAny_pyNext_dict_item (knd:=zbo X.prog X.w) (k:=us[i].1) (v:=us[i].2) st hd (by rw[aC hlt]) λkey h' hk' st' sb=>?_;have hz:us[i].1=aY ks[i]:=by
   have:=congrArg (λl=>l[i]?) hk;simp only[aA,aC hlt,aC hg2,cx,i8]at this;exact this
  rw[hz]at hk';have hk2:ziO (aY ks[i]) key=true:=hk';rcases zaM hk2 with ⟨_,_,z,_⟩|⟨z,t,e1,e2⟩
  ·cases z
  ·cases e1;subst e2;have I1:Inv X pins σ H { s with heap:=h'}:=I.turned (t':=s.toks) (λb o hb e=>(sb.2 b hb).trans e) f0 f1 f3 f4 f5;rw[hu]at st';exact⟨_,rfl,letGo_keyiter (s':={ s with heap:=h'}) st' ⟨.str ks[i],H,I1,⟨t,rfl⟩,⟨rfl,_,aC hg2,rfl⟩,st',λb hb=>(hf b hb).1⟩⟩
 done:=by
  intro X hP hw hK hc i pins s σ H E I hf st hg;subst hP hw hK;obtain⟨f0,f1,f2,f3,f4,f5⟩:=hf it (by simp);obtain⟨hg1,hg2⟩:=(show _/\_ from hg);obtain⟨_,us,es',ep',h4,hk,hd⟩:=I.frzD hg1 hl;rw[ho]at h4;cases h4;have hu:us.length=ks.length:=by have:=congrArg cZ hk;simpa using this
  rw[<- hu]at st;exact wpAny_pyNext_dict_end (knd:=zbo X.prog X.w) (I.ok.hd hc) st hd (dr (by lia)) λh' eb=>⟨rfl,I.turned (t':=s.toks) (λb o hb e=>eb b o hb e) f0 f1 f3 f4 f5⟩
 self:=λ_ _ _ _ _ st h=>wpAny_pyIter_keyiter st h
def iDk(tl:TE):TI:=λσ H R=>tl σ H λx H1=>∃a o ks vs,x=.ref a/\ks.length=vs.length/\H1 a=aa (.frz o (.dK ((ks.map aY).zip vs)))/\R (Itd a o ks vs) H1
def pi_dic{l:Expr}{tl:TE}(hl:PE X l tl):PI X tg l (iDk tl):=by
 intro pins s σ H R I h;refine thn (hl pins s σ H _ I h) ?_;rintro v s1 ⟨x,H1,I1,r1,q1⟩;obtain⟨a,o,ks,vs,e,hl',ha,q⟩:=q1;subst e;cases r1;obtain⟨hs,us,es,ep,h4,hk,hd⟩:=I1.frzD ha hl';have hu:us.length=ks.length:=by have:=congrArg cZ hk;simpa using this
 refine wpAny_pyIter_dict (knd:=zbo X.prog X.w) hs hd ?_;refine⟨s1.heap.objs.size,[s1.heap.objs.size],_,_,H1,rfl,I1.kept (t':=s1.toks) λb o e=>ax _ e,turn_dic hl' h4,⟨_,aT _ rfl,rfl,by rw[hu];rfl⟩,λb hb=>?_,q⟩;have e:b=s1.heap.objs.size:=by simpa using hb
 subst e;exact I1.fpOk (ak _) (I1.hok.fresh (ak _))
end
end L2
namespace L3
open PySem PySem.Spec PyProof.Rows L2
def zh9:List Ent->Option Ent
 |[x,y]=>(iOf x).bind λi=>(iOf y).map λj=>.val (.int (if j > i then j else i))
 | _=>ab
def iD(fe:FE):FI:=λδ=>(fe δ).bind λx=>(dOf x).map λp=>p.1.map D.str
section
variable {X:Cx}{e tg:Expr}{fe:FE}{p p1 pos pos1:Pos}
def zjn(hc:X.calm=true:=by rfl):zeQ X (.builtin "max") zh9:=⟨_,call_max2 hc,λH0 F H vs es res Q fh hh r q k=>by
 match es,q with
 |[x,y],q=>
  obtain⟨i,q1,q⟩:=bind_some q;obtain⟨j,q2,q⟩:=map_some q;cases zaE q1;cases zaE q2;cases q;cases r with
  |cons r1 r=>
   cases r with
   |cons r2 r=>
    cases r;cases zaY r1;cases zaY r2;exact⟨i,j,rfl,k _ F H (Ex.refl fh) (.int _)⟩⟩
def itOk_dic{B F0:Hp}{a:ae}{o:Obj}{ks:List Str}{vs:List V}(h:F0 a=aa (.frz o (.dK ((ks.map aY).zip vs)))):ItOk B F0 (Itd a o ks vs) (ks.map D.str):=λF H s1 s2 s3=>by
 have h':=s2 _ _ (s1 _ _ h);refine⟨⟨h',by simp⟩,λi d e=>?_⟩;rw[aA]at e;by_cases hi:i<ks.length
 ·rw[aC hi]at e;cases e;refine⟨⟨h',hi⟩,λx H' y=>?_⟩;obtain⟨e',z,hz,y⟩:=y;rw[aC hi]at hz;cases hz;subst e' y;exact⟨F,Ex.refl s2,.str _⟩
 ·rw[dr (by lia)]at e;cases e
def iid(he:VE X e fe):VI X tg e (iD fe):=by
 obtain⟨t,w,m⟩:=he.h;refine⟨_,⟨pi_dic w.h⟩,λB F H σ δ ds R s q k=>?_⟩;obtain⟨x,q1,q⟩:=bind_some q;obtain⟨p,q2,q⟩:=map_some q;cases q;cases zfs q2;refine m B F H σ δ _ _ s q1 λv F1 H1 x1 r1=>?_;cases (show Rep F1 v (.dic p.1 p.2)from r1)with
 |@dic a o ks vs ds e1 hl rs=>exact⟨a,o,p.1,vs,rfl,hl,x1.fh _ _ e1,k _ F1 H1 x1 (itOk_dic e1)⟩
end
end L3

namespace L3
open PySem PySem.Spec PyProof.Rows L2
def fPop(i:Nat)(tg:FG):FS:=λδ=>match δ[i]? with
 |some (aa (.own ds))=>(ds[ds.length-1]?).bind λd=>(tg d (δ.set i (aa (.own ds.dropLast)))).map .nx
 | _=>ab
section
variable {X:Cx}{tg:Expr}{pos p:Pos}{x:Str}{tgf:FG}
def sPop(i:Nat){apos cpos:Pos}(hg:VG X tg tgf)(hN:X.N[i]? =aa x:=by rfl)(hv:Vis X.env.scope x:=by first|exact az rfl|exact ba (az rfl)|exact ba (ba rfl))(hd:(x==("__debug__" : Str))=false:=by decide)(hcd:(x==("__classdict__" : Str))=false:=by decide)
  (hbase:bT (.Name x p) "pop" X.env (eval (.Name x p) X.env)=eval (.Name x p) X.env:=by rfl) (hline:(apos.endLine==cpos.line)=true:=by rfl)
  (hs:swapsWithSole [tg] (.Call (.Attribute (.Name x p) "pop" apos) [] [] cpos) pos.line X.env=pure false:=by rfl) (hw:swappedStores [tg] (.Call (.Attribute (.Name x p) "pop" apos) [] [] cpos) X.env=pure ab:=by rfl) (h1:(cv [tg] X.env).map (·.2)=[assign tg X.env]:=by rfl) :
  VS X (.Assign [tg] (.Call (.Attribute (.Name x p) "pop" apos) [] [] cpos) pos) (fPop i tgf):=by
 obtain⟨t1,w1,m1⟩:=hg.h;refine⟨_,sasg ⟨pe_bm0 dG PySem.F.slot_list_pop PySem.F.type_list_pop mt_pop (wv i hN hv hd hcd).h hbase hline⟩ w1 hs hw h1,λB F H σ δ out DD s q k=>?_⟩;unfold fPop at q;split at q
 ·rename_i ds hi;obtain⟨d,q1,q⟩:=bind_some q;obtain⟨δ',q2,q⟩:=map_some q;cases q;obtain⟨v,h1,l,vs,e,h2,h3,h4,h5⟩:=s.ent i _ hi;subst e;obtain⟨y,hy,ry⟩:=h3.get q1;refine⟨_,h1,.inl ⟨rfl,vs,SqL.of h2⟩,l,vs,y,rfl,rfl,h2,?_,?_⟩
  ·rw[h3.length];exact hy
  ·exact m1 B F _ σ _ δ' y d _ (s.mut hi h1 h3.dropLast) ry q2 λσ' s'=>k σ' F _ s' FX.refl
 ·cases q
end
end L3

namespace L3
open PySem PySem.Spec PyProof.Rows L2
def TupK(K:af)(a:ae)(is:List Int):Prop:=∃(o:Obj) (its:Array ag) (n:Nat),K.lookup a=aa o/\o.cls=.type "tuple" /\ o.data=.seq its n/\its.size<=bj/\Vals (is.map V.int) its.toList
def eB(ds:List D):FE:=λ_=>aa (.bt ds)
def vglB{X:Cx}{x:Str}{pos:Pos}{is:List Int}(hg:Gl X x)(h:∃a,X.mg x=aa (.ref a)/\TupK X.K a is)(hd:(x==("__debug__" : Str))=false:=by decide):VE X (.Name x pos) (eB (is.map .int)):=by
 obtain⟨a,hm,o,its,n,h1,h2,h3,h4,h5⟩:=h;refine⟨_,wgl (v:=.ref a) hg ⟨_,hm,rfl⟩ hd,λB F H σ δ r Q s q k=>?_⟩;cases q;exact k _ F H (Ex.refl s.fh) ⟨a,is.map V.int,rfl,.inr ⟨o,its,n,h1,h2,h3,h4,h5⟩,Reps.ints is⟩
end L3

namespace L2
open PySem PySem.Spec PyProof.Rows
def pairs_any{P P':aI}{w w':aO}{es:List DictEntry}{us:List (Key×ag)}(r:Pairs (zbo P w) es us):Pairs (zbo P' w') es us:=by
 induction r with
 |nil=>exact .nil
 |cons h1 h2 _ ih=>exact .cons h1 h2 ih
def DiD.at{P:aI}{w:aO}{l:ae}{o:Obj}{ks:List Int}{vs:List V}{h:aV}(d:DiD l o ((ks.map bI).zip vs))(hl:ks.length=vs.length)(e:h.get? l=aa o) :
  ∃us es ep,KV ((ks.map bI).zip vs) us/\o.data=.dict es ep/\us.map (·.1)=ks.map bI/\h.DictAt (zbo P w) l us ep:=by
 obtain⟨_,_,P0,w0,es,ep,us,h1,h2,h3,h4,h5,h6⟩:=d;have hk:us.map (·.1)=ks.map bI:=by
  have z:=congrArg (List.map ku) (ziK h6);rw[List.map_fst_zip (by rw[al];exact dC hl),b9]at z;exact z.symm
 refine⟨us,es,ep,h6,h2,hk,o,es,e,h1,h2,λx hx=>?_,pairs_any h4,h5⟩;obtain⟨k,a,b⟩:=h3 x hx;refine⟨k,a,b.trans ?_⟩;have:k∈us.map (·.1):=by
  rw[zeU h4,b9];exact bU.mpr ⟨x,cK.mpr hx,kBk_is a⟩
 rw[hk]at this;obtain⟨i,_,rfl⟩:=bU.mp this;rfl
def kisI{P:aI}{w:aO}{i:Int}{u:ag}(r:RelV (.int i) u):(zbo P w).is (bI i) u=true:=by
 obtain⟨t,rfl⟩:=r;exact keyIs_int i t
section
variable {X:Cx}{pins:List (ae×Obj)}{σ:St}{H:Hp}{s:ai}{l:ae}{o:Obj}
def Inv.kn(I:Inv X pins σ H s)(e:H l=aa (knO l o)):s.heap.get? l=aa o:=(show ObjOk X.prog X.w H s.heap l (knO l o)from I.hok l _ e).1
def Inv.toK{kvs:List (Key×V)}(I:Inv X pins σ H s)(e:H l=aa (.dK kvs)):∃o,DiD l o kvs/\Inv X pins σ (upd H l (knO l o)) s:=by
 obtain⟨h1,h2,us,h3,o,es,ep,h4,h5,h6,h7,h8,h9⟩:=(show ObjOk X.prog X.w H s.heap l (.dK kvs)from I.hok l _ e);exact⟨o,⟨h2,h1,X.prog,X.w,es,ep,us,h5,h6,h7,h8,h9,h3⟩,I.write (x:=l) (e:=l) (h':=s.heap) (t':=s.toks) (o:=knO l o) (by rw[e];exact fB) (.inl rfl) (λ_ _ _ z=>z) ⟨_,h4⟩ ⟨h4,⟨_,h4⟩,λ_ _ a b=>b _ a⟩⟩
def tDI0:TE:=λ_ H Q=>∀p,H p=ab->∀o,DiD p o []->Q (.ref p) (upd H p (knO p o))
def pe_di0{pos:Pos}:PE X (.Dict [] [] pos) tDI0:=by
 intro pins s σ H Q I h;refine thn ((zju (X:=X) (pos:=pos)) pins s σ H (λv H1=>∃p,v=.ref p/\H p=ab/\H1=upd H p (.dK [])) I λp hp=>⟨p,rfl,hp,rfl⟩) ?_;rintro u s1 ⟨v,H1,I1,r,p,e1,hp,e2⟩;subst e1 e2;obtain⟨o,d,I2⟩:=I1.toK (l:=p) zaj;rw[upd_upd]at I2;exact⟨_,_,I2,r,h p hp o d⟩
def ixI:List Int->Int->Option Nat
 |[],_=>ab
 |k::ks,i=>if k=i then aa 0 else (ixI ks i).map (· + 1)
def zgU(i:Int):∀{ks:List Int} {vs:List V},ks.length=vs.length->atK ((ks.map bI).zip vs) (bI i)=(ixI ks i).bind λj=>vs[j]?
 |[],[],_=>rfl
 |k::ks,v::vs,h=>by
  have ih:=zgU i (ks:=ks) (vs:=vs) (by simpa using h);unfold atK at ih ⊢;rw[ar,bG];unfold ixI;by_cases e:k=i
  ·rw[if_pos e,dU (by simpa using e)];rfl
  ·rw[if_neg e,dW (by simpa using e),ih];cases ixI ks i <;> rfl
def zjE{i:Int}:∀{ks:List Int} {j:Nat},ixI ks i=aa j->ks[j]? =aa i
 |[],_,h=>by cases h
 |k::ks,j,h=>by
  unfold ixI at h;split at h
  ·rename_i e;cases h;rw[e];rfl
  ·cases q:ixI ks i with
   |none=>rw[q]at h;cases h
   |some j'=>rw[q]at h;cases h;rw[bN];exact zjE q
def zgJ{i:Int}:∀{ks:List Int},ixI ks i=ab->i∉ks
 |[],_=>by simp
 |k::ks,h=>by
  unfold ixI at h;split at h
  ·cases h
  ·rename_i e;cases q:ixI ks i with
   |none=>exact λz=>(aE.mp z).elim (λz=>e z.symm) (zgJ q)
   |some j'=>rw[q]at h;cases h
def rIxI:R2:=λx y H Q=>∃(a:ae) (o:Obj) (ks:List Int) (vs:List V) (i:Int) (v:V),x=.ref a/\y=.int i/\H a=aa (knO a o)/\DiD a o ((ks.map bI).zip vs)/\ks.length=vs.length/\atK ((ks.map bI).zip vs) (bI i)=aa v/\Q v H
def ix_di:IxR X rIxI:=by
 intro value slice pins s σ H x y v u Q I rx ry h hs;obtain⟨a,o,ks,vs,i,v',rfl,rfl,e,d,hl,hv,q⟩:=h;cases rx;obtain⟨us,es,ep,rel,h1,h2,da⟩:=d.at (P:=X.prog) (w:=X.w) hl (I.kn e);have dd:=da.dictOf;rcases zgC rel (bI i)with ⟨v2,w,e1,e2,e3⟩|⟨e1,_⟩
 ·rw[hv]at e1;cases e1;exact subscriptTail_builtinR (x:=w) dd.typeIs slot_dict_getitem.lookup (wpAny_getItem_of (kisI ry) dd.mapOf e2 ⟨rfl,v',H,I.tok _,e3,q⟩) hs
 ·rw[hv]at e1;cases e1
def rInI:R2:=λx y H Q=>∃(a:ae) (o:Obj) (ks:List Int) (vs:List V) (i:Int),x=.int i/\y=.ref a/\H a=aa (knO a o)/\DiD a o ((ks.map bI).zip vs)/\ks.length=vs.length/\Q (.bl (atK ((ks.map bI).zip vs) (bI i)).isSome) H
def op_inI:OpR X (bC .In) rInI:=by
 intro pins s σ H x y v u Q I rx ry h;obtain⟨a,o,ks,vs,i,rfl,rfl,e,d,hl,q⟩:=h;cases ry;obtain⟨us,es,ep,rel,h1,h2,da⟩:=d.at (P:=X.prog) (w:=X.w) hl (I.kn e);refine wpAny_in_of (kisI rx) d.1 da.dictOf.mapOf ⟨.bl _,H,I.tok _,?_,q⟩;rcases zgC rel (bI i)with ⟨v2,w,e1,e2,e3⟩|⟨e1,e2⟩ <;> (rw[e1,e2];rfl)
def rSetI:V->V->V->Hp->(Hp->Prop)->Prop:=λo i v H Q=>∃(p:ae) (ob:Obj) (ks:List Int) (vs:List V) (k:Int),o=.ref p/\i=.int k/\H p=aa (knO p ob)/\DiD p ob ((ks.map bI).zip vs)/\ks.length=vs.length/\ks.length<1000000/\k∉ks /\
 ∀ob',DiD p ob' (((ks++[k]).map bI).zip (vs++[v]))->Q (upd H p (knO p ob'))
def set_di:PSet X rSetI:=by
 intro pins s σ H o i v ov iv u Q I ro ri rv h;obtain⟨p,ob,ks,vs,k,rfl,rfl,hp,d,hl,hz,hk,q⟩:=h;cases ro;obtain⟨us,es,ep,rel,h1,h2,da⟩:=d.at (P:=X.prog) (w:=X.w) hl (I.kn hp);have hu:us.length<=bj:=by
  have:=congrArg cZ h2;simp only[al]at this;rw[this,cn];lia
 have hst:stored us (bI k) u=us++[(bI k,u)]:=by
  unfold stored;rw[if_neg];intro z;obtain⟨x,hx,e⟩:=List.any_eq_true.mp z;have:x.1∈us.map (·.1):=bU.mpr ⟨x,hx,rfl⟩;rw[h2,of_decide_eq_true e]at this;obtain⟨i,hi,e'⟩:=bU.mp this;cases e';exact hk hi
 refine wpAny_setItem_pairs (hsz:=hu) (kisI ri) da.dictOf λh' dd' hs=>?_;rw[hst]at dd';obtain⟨o',es',ep',g1,g2,g3,g4,g5,g6⟩:=dd';refine⟨_,I.write (x:=p) (e:=p) (o:=knO p o') (by rw[hp];exact fB) (.inl rfl) (λb q hb z=>(hs.2 b hb).trans z) ⟨_,g1⟩ ⟨g1,⟨_,g1⟩,λ_ _ a b=>b _ a⟩,q o' ⟨d.1,?_,X.prog,X.w,es',ep',_,g2,g3,g4,g5,g6,?_⟩⟩
 ·rw[fD,al,am,am,cn,<- hl];simp only[au,cO];lia
 ·rw[bn,List.zip_append (by rw[al];exact hl)];exact Paired.snoc rel ⟨rfl,rv⟩
def Iti(a:ae)(o:Obj)(ks:List Int):It:=⟨λi H=>H a=aa (knO a o)/\i<ks.length,λi H x H'=>H'=H/\∃z,ks[i]? =aa z/\x=.int z,λi H=>H a=aa (knO a o)/\ks.length<=i⟩
def turn_di{tg:Expr}{P:aI}{w:aO}{K:af}{a it:ae}{o:Obj}{ks:List Int}{vs:List V}{es:Array DictEntry}{ep:Nat}(d:DiD a o ((ks.map bI).zip vs))(hl:ks.length=vs.length)(ho:o.data=.dict es ep) :
  Turn P w K tg (Iti a o ks) [it] it (λi h=>h.IsKeyIter it a i ks.length ep) where
 mem:=by simp
 obj:=λi h st b hb=>by
  have e:b=it:=by simpa using hb
  subst e;obtain⟨o,e,c,d⟩:=st;exact⟨o,e,λv z=>by rw[d]at z;cases z⟩
 keep:=λi h h' st k=>st.at λo e=>k it (by simp) o e
 item:=by
  intro X hP hw hK hc i pins s σ H E I hf st hg;subst hP hw hK;obtain⟨f0,f1,f2,f3,f4,f5⟩:=hf it (by simp);obtain⟨hg1,hg2⟩:=(show _/\_ from hg);obtain⟨us,es',ep',_,h4,hk,hd⟩:=d.at (P:=X.prog) (w:=X.w) hl (I.kn hg1);rw[ho]at h4;cases h4;have hu:us.length=ks.length:=by have:=congrArg cZ hk;simpa using this
  have hlt:i<us.length:=by lia
  rw[<- hu]at st;refine wpAny_pyNext_dict_item (knd:=zbo X.prog X.w) (k:=us[i].1) (v:=us[i].2) st hd (by rw[aC hlt]) λkey h' hk' st' sb=>?_;have hz:us[i].1=bI ks[i]:=by
   have:=congrArg (λl=>l[i]?) hk;simp only[aA,aC hlt,aC hg2,cx,i8]at this;exact this
  rw[hz]at hk';have hk2:ziO (bI ks[i]) key=true:=hk';rcases zaM hk2 with ⟨z,t,e1,e2⟩|⟨_,_,z,_⟩
  ·cases e1;subst e2;have I1:Inv X pins σ H { s with heap:=h'}:=I.turned (t':=s.toks) (λb o hb e=>(sb.2 b hb).trans e) f0 f1 f3 f4 f5;rw[hu]at st';exact⟨_,rfl,letGo_keyiter (s':={ s with heap:=h'}) st' ⟨.int ks[i],H,I1,⟨t,rfl⟩,⟨rfl,_,aC hg2,rfl⟩,st',λb hb=>(hf b hb).1⟩⟩
  ·cases z
 done:=by
  intro X hP hw hK hc i pins s σ H E I hf st hg;subst hP hw hK;obtain⟨f0,f1,f2,f3,f4,f5⟩:=hf it (by simp);obtain⟨hg1,hg2⟩:=(show _/\_ from hg);obtain⟨us,es',ep',_,h4,hk,hd⟩:=d.at (P:=X.prog) (w:=X.w) hl (I.kn hg1);rw[ho]at h4;cases h4;have hu:us.length=ks.length:=by have:=congrArg cZ hk;simpa using this
  rw[<- hu]at st;exact wpAny_pyNext_dict_end (knd:=zbo X.prog X.w) (I.ok.hd hc) st hd (dr (by lia)) λh' eb=>⟨rfl,I.turned (t':=s.toks) (λb o hb e=>eb b o hb e) f0 f1 f3 f4 f5⟩
 self:=λ_ _ _ _ _ st h=>wpAny_pyIter_keyiter st h
def iDiT(tl:TE):TI:=λσ H R=>tl σ H λx H1=>∃(a:ae) (o:Obj) (ks:List Int) (vs:List V),x=.ref a/\DiD a o ((ks.map bI).zip vs)/\ks.length=vs.length/\H1 a=aa (knO a o)/\R (Iti a o ks) H1
def pi_di{tg l:Expr}{tl:TE}(hl:PE X l tl):PI X tg l (iDiT tl):=by
 intro pins s σ H R I h;refine thn (hl pins s σ H _ I h) ?_;rintro v s1 ⟨x,H1,I1,r1,q1⟩;obtain⟨a,o,ks,vs,e,d,hl',ha,q⟩:=q1;subst e;cases r1;obtain⟨us,es,ep,_,h4,hk,hd⟩:=d.at (P:=X.prog) (w:=X.w) hl' (I1.kn ha);have hu:us.length=ks.length:=by have:=congrArg cZ hk;simpa using this
 refine wpAny_pyIter_dict (knd:=zbo X.prog X.w) d.1 hd ?_;refine⟨s1.heap.objs.size,[s1.heap.objs.size],_,_,H1,rfl,I1.kept (t':=s1.toks) λb o e=>ax _ e,turn_di d hl' h4,⟨_,aT _ rfl,rfl,by rw[hu];rfl⟩,λb hb=>?_,q⟩;have e:b=s1.heap.objs.size:=by simpa using hb
 subst e;exact I1.fpOk (ak _) (I1.hok.fresh (ak _))
end
end L2
namespace L3
open PySem PySem.Spec PyProof.Rows L2
def gAbs:List Ent->Option Ent
 |[x]=>(iOf x).map λi=>.val (.int (if i<0 then -i else i))
 | _=>ab
def asDi:Ent->Option (List Int×List D)
 |.val (.dcI ks l)=>aa (ks,l)
 | _=>ab
def zh5{e:Ent}{p:List Int×List D}(h:asDi e=aa p):e=.val (.dcI p.1 p.2):=by
 cases e with
 |val d=>cases d <;> first|(cases h;rfl)|(cases h)
 | _=>cases h
def gDxI:Ent->Ent->Option Ent:=λx y=>(asDi x).bind λp=>(iOf y).bind λi=>(ixI p.1 i).bind λj=>(p.2[j]?).map .val
def iDi(fe:FE):FI:=λδ=>(fe δ).bind λx=>(asDi x).map λp=>p.1.map D.int
def asIn(C:ae)(ns:List Str):Ent->Option (List D)
 |.val (.ins C' ns' l)=>if C'=C/\ns'=ns then aa l else ab
 | _=>ab
def asIn_some{C:ae}{ns:List Str}{e:Ent}{l:List D}(h:asIn C ns e=aa l):e=.val (.ins C ns l):=by
 cases e with
 |val d=>
  cases d with
  |ins C' ns' l'=>
   have h':(if C'=C/\ns'=ns then aa l' else ab)=aa l:=h;split at h'
   ·rename_i z;cases h';rw[z.1,z.2]
   ·cases h'
  | _=>cases h
 | _=>cases h
def zeo(C:ae)(ns:List Str)(k:Nat):Ent->Option Ent:=λx=>(asIn C ns x).bind λl=>(l[k]?).map .val
def eDI0:FE:=λ_=>aa (.obj (.dcI [] []))
section
variable {X:Cx}{e tg:Expr}{fe:FE}{pos:Pos}{f c:Str}{ns nsF:List Str}
def c_abs:zeQ X (.builtin "abs") gAbs:=⟨_,call_abs,λH0 F H vs es res Q fh hh r q k=>by
 match es,q with
 |[x],q=>
  obtain⟨i,q1,q⟩:=map_some q;cases zaE q1;cases q;obtain⟨v,rfl,r1⟩:=zdq r;cases zaY r1;exact⟨i,rfl,k _ F H (Ex.refl fh) (.int _)⟩⟩
def x_di:IxD X gDxI:=⟨_,ix_di,λH0 F H x y e e' res Q fh hh rx ry q k=>by
 obtain⟨p,q1,q⟩:=bind_some q;obtain⟨z,q2,q⟩:=bind_some q;obtain⟨j,q3,q⟩:=bind_some q;obtain⟨d,q4,q⟩:=map_some q;cases q;cases zh5 q1;cases zaE q2;cases zaY ry;cases (show Rep F x (.dcI p.1 p.2)from rx)with
 |dcI e d l rs=>
  obtain⟨v,hv,rv⟩:=rs.get q4;exact⟨_,_,_,_,z,v,rfl,rfl,fh _ _ e,d,l,by rw[zgU z l,q3];exact hv,k v F H (Ex.refl fh) rv⟩⟩
def itOk_di{B F0:Hp}{a:ae}{o:Obj}{ks:List Int}(h:F0 a=aa (knO a o)):ItOk B F0 (Iti a o ks) (ks.map D.int):=λF H s1 s2 s3=>by
 have h':=s2 _ _ (s1 _ _ h);refine⟨⟨h',by simp⟩,λi d e=>?_⟩;rw[aA]at e;by_cases hi:i<ks.length
 ·rw[aC hi]at e;cases e;refine⟨⟨h',hi⟩,λx H' y=>?_⟩;obtain⟨e',z,hz,y⟩:=y;rw[aC hi]at hz;cases hz;subst e' y;exact⟨F,Ex.refl s2,.int _⟩
 ·rw[dr (by lia)]at e;cases e
def iidi(he:VE X e fe):VI X tg e (iDi fe):=by
 obtain⟨t,w,m⟩:=he.h;refine⟨_,⟨pi_di w.h⟩,λB F H σ δ ds R s q k=>?_⟩;obtain⟨x,q1,q⟩:=bind_some q;obtain⟨p,q2,q⟩:=map_some q;cases q;cases zh5 q2;refine m B F H σ δ _ _ s q1 λv F1 H1 x1 r1=>?_;cases (show Rep F1 v (.dcI p.1 p.2)from r1)with
 |@dcI a o ks vs ds e1 d hl rs=>exact⟨a,o,p.1,vs,rfl,d,hl,x1.fh _ _ e1,k _ F1 H1 x1 (itOk_di e1)⟩
def zkd{C:ae}{kC:Str->ae}(k:Nat)(DC:ClsD X.K X.mg c nsF C)(hC:C=kC c)(he:VE X e fe)(hf:f∈nsF:=by decide +kernel)(hk:ns[k]? =aa f:=by rfl)(hn:ns.Nodup:=by decide +kernel)
  (hb:bT e f X.env (eval e X.env)=eval e X.env:=by rfl):VE X (.Attribute e f pos) (ex1 (zeo (kC c) ns k) fe):=by
 obtain⟨t,w,m⟩:=he.h;refine⟨_,⟨zed w.h hb⟩,λB F H σ δ res Q s q kk=>?_⟩;obtain⟨x,q1,q⟩:=bind_some q;obtain⟨l,q2,q⟩:=bind_some q;obtain⟨d,q3,q⟩:=map_some q;cases q;cases asIn_some q2;refine m B F H σ δ _ _ s q1 λv F1 H1 x1 r1=>?_;cases (show Rep F1 v (.ins (kC c) ns l)from r1)with
 |ins e hl rs=>
  obtain⟨w,hw,rw'⟩:=rs.get q3;refine⟨_,_,_,_,w,rfl,x1.fh _ _ e,hC ▸ DC.cl,hC ▸ DC.no f hf,zco hn hk hw,kk w F1 H1 x1 rw'⟩
def vDI0:VE X (.Dict [] [] pos) eDI0:=⟨_,⟨pe_di0⟩,λB F H σ δ res Q s q k p hp o d=>by
 cases q;exact k _ F _ (Ex.lay s.fh hp) ⟨⟨p,rfl⟩,[p],.dcI (vs:=[]) (ks:=[]) zaj d rfl .nil,by simp,λa ha=>by
  simp at ha;subst ha;exact⟨s.fh.free hp,hp⟩⟩⟩
end
end L3

namespace L2
open PySem PySem.Spec PyProof.Rows
def ofNat_lt:∀(a b:List Nat),(a.map iV<b.map iV) ↔ a<b
 |[],[]=>by simp
 |[],b::bs=>by simp
 |a::as,[]=>by simp
 |a::as,b::bs=>by
  rw[ar,ar,bM,bM,ofNat_lt as bs];exact⟨λh=>h.imp ky.mp λz=>⟨jL z.1,z.2⟩,λh=>h.imp ky.mpr λz=>⟨congrArg iV z.1,z.2⟩⟩
def prW(i:Int)(x:Str):RwI:=i::x.cps.toList.map iV
def zgX{i j:Int}{x y:Str}(h:prW i x=prW j y):i=j/\x=y:=by
 obtain⟨h1,h2⟩:=jI h;have h3:x.cps.toList=y.cps.toList:=(iW (λ_ _ h=>jL h)).mp h2;cases x;cases y;exact⟨h1,congrArg Str.mk (Array.toList_inj.mp h3)⟩
section
variable {prog:aI}{w:aO}{A:aW}{s:ai}
def lex_pair{i j:Int}{x y:Str}{t u t' u':Tok}{Q:Bool->ai->Prop}(h:Q (decide (prW i x<prW j y)) s):jy prog w A true (decide ([dJ i t,.str x t'].length<[dJ j u,.str y u'].length)) Q ([dJ i t,.str x t'].zip [dJ j u,.str y u']) 0 s:=by
 rw[bG];refine gw (wpAny_eqBool_int ?_);by_cases e:i=j
 ·subst e;rw[beq_self_eq_true];refine gM ?_;rw[bG];have e2:decide (prW i x<prW i y)=decide (x.cps.toList<y.cps.toList):=by
   unfold prW;by_cases c:x.cps.toList<y.cps.toList
   ·rw[decide_eq_true c,decide_eq_true (bM.mpr (.inr ⟨rfl,(ofNat_lt _ _).mpr c⟩))]
   ·rw[decide_eq_false c,decide_eq_false λz=>(bM.mp z).elim (λz=>by lia) λz=>c ((ofNat_lt _ _).mp z.2)]
  rw[e2]at h;refine gw (wpAny_eqBool_str ?_);by_cases e:x=y
  ·subst e;rw[decide_eq_true rfl];refine gM (gL ?_);rw[decide_eq_false (jx _)]at h;exact h
  ·rw[decide_eq_false e];exact hU (jo _ _ (lt_str h))
 ·rw[beq_eq_false_iff_ne.mpr e];have e2:decide (prW i x<prW j y)=decide (i<j):=by
   unfold prW;by_cases c:i<j
   ·rw[decide_eq_true c,decide_eq_true (bM.mpr (.inl c))]
   ·rw[decide_eq_false c,decide_eq_false λz=>(bM.mp z).elim c λz=>e z.1]
  rw[e2]at h;exact hU (oneLt_int h)
def PrsH(h:aV)(row:ag->RwI)(vs:List ag):Prop:=∀v∈vs,∃a o i x t t' n,v=.ref a/\h.get? a=aa o/\o.cls=.type "tuple" /\ o.data=.seq #[.int i t,.str x t'] n/\row v=prW i x
def zgh{h:aV}{row:ag->RwI}:∀{vs:List ag},PrsH h row vs->∃fs,jp h vs fs/\fs.length=vs.length/\∀v∈fs,∃i t,v=.int i t
 |[],_=>⟨[],trivial,rfl,λv hv=>by cases hv⟩
 |v::vs,t=>by
  obtain⟨fs,k1,k2,k3⟩:=zgh (vs:=vs) λv hv=>t v (ah _ hv);obtain⟨a,o,i,x,t1,t2,n,rfl,e1,e2,e3,_⟩:=t v aj;refine⟨.int i t1::fs,⟨⟨a,o,_,n,rfl,e1,e2,e3,rfl⟩,k1⟩,by rw[au,au,k2],λv hv=>?_⟩;rcases aE.mp hv with e|hv
  ·exact⟨i,t1,e⟩
  ·exact k3 v hv
def srtH_prs{row:ag->RwI}{vs:List ag}:SrtH prog w (λh=>PrsH h row vs) vs (tuples' true) row:=by
 refine⟨λt k v hv=>?_,λA s E Q t h2 q=>?_,λA s t x hx y hy E Q q=>?_⟩
 ·obtain⟨a,o,i,x,t1,t2,n,e0,e1,e2,e3⟩:=t v hv;exact⟨a,o,i,x,t1,t2,n,e0,k a o e1 e2,e2,e3⟩
 ·obtain⟨fs,k1,k2,k3⟩:=zgh t;refine je (T:=.type "int") k1 (by lia) (λv hv=>?_) rfl q;obtain⟨i,t,rfl⟩:=k3 v hv;exact .now
 ·obtain⟨a,oa,i,x,t1,t2,n,rfl,a1,_,a3,a4⟩:=t _ hx;obtain⟨b,ob,j,y,u1,u2,m,rfl,b1,_,b3,b4⟩:=t _ hy;rw[a4,b4]at q;refine jz a1 a3 b1 b3 ?_;exact lex_pair q
end
def zht(H:Hp)(a:ae):RwI:=match H a with
 |some (.tup [.int i,.str x])=>prW i x
 | _=>[]
def rowPv(H:Hp):ag->RwI
 |.ref a=>zht H a
 | _=>[]
def PrsAt(H:Hp)(as:List ae):Prop:=∀a∈as,∃i x,H a=aa (.tup [.int i,.str x])
def zeA{H:Hp}{a:ae}{i:Int}{x:Str}(h:H a=aa (.tup [.int i,.str x])):zht H a=prW i x:=by
 unfold zht;rw[h]
def Inv.prs{X:Cx}{pins:List (ae×Obj)}{σ:St}{H:Hp}{s:ai}(I:Inv X pins σ H s){as:List ae}(h:PrsAt H as):PrsH s.heap (rowPv H) (as.map bq):=by
 intro v hv;obtain⟨a,ha,rfl⟩:=bU.mp hv;obtain⟨i,x,hH⟩:=h a ha;obtain⟨_,its,ri,o,e,hcl,n,hd⟩:=I.hok a _ hH;obtain⟨u,w',rfl,⟨t1,rfl⟩,⟨t2,rfl⟩⟩:=vals2 ri;exact⟨a,o,i,x,t1,t2,n,rfl,e,hcl,congrArg ku hd,zeA hH⟩
def call_srtP{X:Cx}:zd7 X (.builtin "sorted") (λxs H Q=>∃(p:ae) (as:List ae),xs=[.ref p]/\SqL X.K H p (as.map V.ref)/\PrsAt H as/\as.length<=1000000/\∀(as':List ae) (l:ae),as'.Perm as->(as'.map (zht H)).Pairwise (·<=·)->H l=ab->Q (.ref l) (upd H l (.lst (as'.map V.ref)))):=by
 intro pins s σ H xs us Q I r h;obtain⟨p,as,rfl,hq,hpr,hl,q⟩:=h;obtain⟨u,rfl,rx⟩:=zfD r;cases rx;obtain⟨its,r',pl,hz⟩:=I.list hq;cases zfV r';refine zgy srtH_prs pl.isList (I.prs hpr) (by rw[al];lia) λout p1 p2=>?_;obtain⟨as',p3,rfl⟩:=zif p1;rw[b9]at p2;have sz:((s.heap.push (seqObj "list" #[] 0)).update s.heap.objs.size (cj (· ++ (as.map bq).toArray))).objs.size=s.heap.objs.size+1:=by rw[eD,size_push']
 have g0:(((s.heap.push (seqObj "list" #[] 0)).update s.heap.objs.size (cj (· ++ (as.map bq).toArray))).push (seqObj "list" (as.map bq).toArray 0)).get? (s.heap.objs.size+1)=aa (seqObj "list" (as.map bq).toArray 0):=by
  rw[<- sz];exact aT _ rfl
 obtain⟨e,he⟩:=sortedHeap_at (out:=(as'.map bq).toArray) g0;refine⟨.ref (s.heap.objs.size+1),_,I.laid (a:=s.heap.objs.size+1) (o:=.lst (as'.map V.ref)) (h':=sortedAll s.heap (as.map bq) (as'.map bq).toArray) (t':=s.toks) (λb o eb=>?_) (dR _) ⟨?_,as'.map bq,e,zfY as',he⟩,rfl,q as' _ p3 p2 (I.hok.fresh (dR _))⟩
 ·exact sortedAll_old eb
 ·rw[al,p3.length_eq,cn];lia
end L2
namespace L3
open PySem PySem.Spec PyProof.Rows L2
def prD(p:Int×Str):D:=.tup [.int p.1,.str p.2]
def prOf:D->Option (Int×Str)
 |.tup [.int i,.str x]=>aa (i,x)
 | _=>ab
def prOf_some{d:D}{p:Int×Str}(h:prOf d=aa p):d=prD p:=by
 unfold prOf at h;split at h
 ·cases h;rfl
 ·cases h
def prsO:List D->Option (List (Int×Str))
 |[]=>aa []
 |d::ds=>(prOf d).bind λp=>(prsO ds).map λps=>p::ps
def zjI:∀ps:List (Int×Str),prsO (ps.map prD)=aa ps
 |[]=>rfl
 |p::ps=>by rw[ar,prsO,zjI ps];rfl
def rwP(p:Int×Str):RwI:=prW p.1 p.2
def srtP(ps:List (Int×Str)):List (Int×Str):=ps.mergeSort λa b=>decide (rwP a<=rwP b)
def srtP_perm(ps:List (Int×Str)):(srtP ps).Perm ps:=iH _ _
def zhf(ps:List (Int×Str)):(srtP ps).Pairwise λa b=>rwP a<=rwP b:=by
 have:=gB (le:=λa b:Int×Str=>decide (rwP a<=rwP b)) (λa b c h1 h2=>decide_eq_true (jJ (of_decide_eq_true h1) (of_decide_eq_true h2))) (λa b=>by
  rcases jK (rwP a) (rwP b)with h|h
  ·rw[decide_eq_true h];rfl
  ·rw[decide_eq_true h,kx]) ps
 exact this.imp λh=>of_decide_eq_true h
def zhI{ps qs:List (Int×Str)}(h:qs.Perm ps)(hs:qs.Pairwise λa b=>rwP a<=rwP b):qs=srtP ps:=
 gx (λa b _ _ h1 h2=>lu (zgX (gy h1 h2)).1 (zgX (gy h1 h2)).2) hs (zhf ps) (h.trans (srtP_perm ps).symm)
def prsO_ok{F:Hp}:∀{vs:List V} {ds:List D} {ps:List (Int×Str)},Reps F vs ds->prsO ds=aa ps->∃as:List ae,vs=as.map V.ref/\(∀a∈as,∃p:Int×Str,F a=aa (.tup [.int p.1,.str p.2]))/\ps.length=as.length/\ps.map rwP=as.map (zht F)
 | _,_,_,.nil,q=>by cases q;exact⟨[],rfl,(λa ha=>by cases ha),rfl,rfl⟩
 | _,_,_,.cons r t,q=>by
  obtain⟨p,q1,q⟩:=bind_some q;obtain⟨ps,q2,q⟩:=map_some q;subst q;obtain⟨as,e1,e2,e3,e4⟩:=prsO_ok t q2;cases prOf_some q1;cases r with
  |@tup a _ _ e rs=>
   cases rs with
   |cons r1 rs=>
    cases rs with
    |cons r2 rs=>
     cases rs;cases r1;cases r2;refine⟨a::as,by rw[e1];rfl,λb hb=>?_,by rw[au,au,e3],?_⟩
     ·rcases aE.mp hb with h|h
      ·subst h;exact⟨p,e⟩
      ·exact e2 b h
     ·rw[ar,ar,e4,zeA e];rfl
def unP(F:Hp)(a:ae):Int×Str:=match F a with
 |some (.tup [.int i,.str x])=>(i,x)
 | _=>(0,"")
def zgW{F:Hp}:∀{as:List ae},(∀a∈as,∃p:Int×Str,F a=aa (.tup [.int p.1,.str p.2]))->Reps F (as.map V.ref) ((as.map (unP F)).map prD)/\(as.map (unP F)).map rwP=as.map (zht F)
 |[],_=>⟨.nil,rfl⟩
 |a::as,h=>by
  obtain⟨p,e⟩:=h a aj;obtain⟨h1,h2⟩:=zgW λb hb=>h b (ah _ hb);have eu:unP F a=p:=by unfold unP;rw[e]
  refine⟨.cons ?_ h1,?_⟩
  ·rw[eu];exact .tup e (.cons (.int _) (.cons (.str _) .nil))
  ·rw[ar,ar,ar,h2,eu,zeA e];rfl
noncomputable def gSrtP:List Ent->Option Ent
 |[x]=>(asL x).bind λds=>(prsO ds).bind λps=>gif (ps.length<=1000000) (aa (.own ((srtP ps).map prD)))
 | _=>ab
def rwP_inj{a b:Int×Str}(h:rwP a=rwP b):a=b:=lu (zgX h).1 (zgX h).2
def c_srtP{X:Cx}:zeQ X (.builtin "sorted") gSrtP:=⟨_,call_srtP,λH0 F H vs es res Q fh hh r q k=>by
 obtain⟨x,rfl⟩:=zfO rfl (λ_ _ _=>rfl) q;obtain⟨v,rfl,rz⟩:=zdq r;obtain⟨ds,q1,q⟩:=bind_some q;obtain⟨ps,q2,q⟩:=bind_some q;obtain⟨hl,qz⟩:=za7 q;cases qz;obtain⟨l,ws,e',h1,h2⟩:=RepR.toL rz fh q1;subst e';obtain⟨as,e1,e2,e3,e4⟩:=prsO_ok h2 q2;rw[e1]at h1;refine⟨l,as,rfl,h1,λa ha=>let⟨p,z⟩:=e2 a ha;⟨p.1,p.2,fh _ _ z⟩,by rw[<- e3];exact hl,λas' p p1 p2 hp=>?_⟩;have e5:as'.map (zht H)=as'.map (zht F):=bQ λa ha=>by
  obtain⟨p,z⟩:=e2 a (p1.mem_iff.mp ha);rw[zeA z,zeA (fh _ _ z)]
 obtain⟨e6,e7⟩:=zgW (F:=F) (as:=as') λa ha=>e2 a (p1.mem_iff.mp ha);have e8:as.map (unP F)=ps:=(iW (λ_ _ h=>rwP_inj h)).mp ((zgW e2).2.trans e4.symm);have e9:as'.map (unP F)=srtP ps:=zhI (by rw[<- e8];exact p1.map _) (by
  rw[e5,<- e7,ga]at p2;exact p2)
 rw[e9]at e6;exact k _ _ _ (Ex.lay fh hp) ⟨p,_,rfl,hh.free hp,zaj,e6,fh.free hp⟩⟩
end L3

namespace L2
open PySem PySem.Spec PyProof.Rows
structure CompSk(X:Cx)(N:List Str)(k:Nat)(fr:List Nat)(scope:Scope):Prop where
 kind:scope.kind=.function
 chk:(scope.names.all λy=>match y.2 with
  |.cell=>false
  |.local=>scope.names.lookup y.1==aa .local
  |.free=>X.env.scope.names.lookup y.1==aa .cell || X.env.scope.names.lookup y.1==aa .free
  | _=>true)=true
 len:N.length=k+fr.length
 nm:(N.drop k).map aa=fr.map (λi=>X.N[i]?)
 nf:((N.drop k).all λy=>scope.names.lookup y==aa .free)=true
section
variable {prog:aI}{w:aO}{A:aW}{R:Result->ai->Prop}{s:ai}
def ziu{elt tg iter:Expr}{ifs:List Expr}{scope:Scope}{pos:Pos}{it acc:ag}{env:Env}(J:Nat->ai->Prop)
  (one:∀k z,J k z->aM (model prog w) A (pyNext it) (λgot z1=>match got with
   |none=>R (.ok .next) z1
   |some u=>aM (model prog w) A (letOwnedTupleGo tg it u) (λ_ z2=>aM (model prog w) A (assign tg env u) (λ_ z3=>
     aM (model prog w) A (forIn ifs true λc r=>if r=true then do let ok <- isTrue c env (eval c env);pure (fC ok)else pure (fC r)) (λyes z4=>
      if yes=true then aM (model prog w) A (eval elt env) (λy z5=>aM (model prog w) A (call (.builtin "list.append") [acc,y]) (λ_ z6=>∃j,j<k/\J j z6) (notedBy (model prog w) A env λx z'=>R (.error x) z') z5) (notedBy (model prog w) A env λx z'=>R (.error x) z') z4
      else ∃j,j<k/\J j z4) (notedBy (model prog w) A env λx z'=>R (.error x) z') z3) (notedBy (model prog w) A env λx z'=>R (.error x) z') z2) (notedBy (model prog w) A env λx z'=>R (.error x) z') z1) (notedBy (model prog w) A env λx z'=>R (.error x) z') z)
  (k:Nat) (h:J k s):codeAny (model prog w) A (.compLoop (.ListComp elt [⟨tg,iter,ifs,0⟩] scope pos) 0 it acc env) R s:=by
 refine codeAny_loop rfl J (λk z hz=>?_) k h;show aM _ A ((compTurn (.ListComp elt [⟨tg,iter,ifs,0⟩] scope pos) 0 it acc env).onRaise _) _ _ z;refine wpAny_noted ?_;rw[compTurn_list];refine ay (wpAny_standAt (ay (thn (one k z hz) λgot z1 h1=>?_)));cases got with
 |none=>exact a8 h1
 |some u=>
  refine ay (thn h1 λ_ z2 h2=>ay (thn h2 λ_ z3 h3=>ay (thn h3 λyes z4 h4=>?_)));cases yes with
  |false=>exact a8 ⟨rfl,h4⟩
  |true=>exact ay (ay (thn h4 λy z5 h5=>ay (thn h5 λ_ z6 h6=>a8 (a8 ⟨rfl,h6⟩))))
end
section
variable {X:Cx}{N:List Str}{k:Nat}{fr:List Nat}{scope:Scope}
def CompSk.ncell(S:CompSk X N k fr scope):∀y∈scope.names,y.2≠.cell:=λy hy e=>by
 have h:=cV.mp S.chk y hy;obtain⟨n,q⟩:=y;cases (show q=.cell from e);exact absurd h (by simp)
def CompSk.loc(S:CompSk X N k fr scope):∀y∈scope.names,y.2=.local->scope.names.lookup y.1=aa .local:=λy hy e=>by
 have h:=cV.mp S.chk y hy;obtain⟨n,q⟩:=y;cases (show q=.local from e);exact za1 h
def CompSk.free(S:CompSk X N k fr scope):∀y∈scope.names,y.2=.free->X.env.kindOf y.1=aa .cell\/X.env.kindOf y.1=aa .free:=λy hy e=>by
 have h:=cV.mp S.chk y hy;obtain⟨n,q⟩:=y;cases (show q=.free from e);exact(iE.mp (show(X.env.scope.names.lookup n==aa .cell || X.env.scope.names.lookup n==aa .free)=true from h)).imp za1 za1
variable {pins:List (ae×Obj)}{σ:St}{H:Hp}{s:ai}
def comp_invK(S:CompSk X N k fr scope){fp:List ae}{h₁:aV}{tk:Nat}(I:Inv X pins σ H s)(hf:∀b∈fp,zir X pins H b)(hfo:∀b∈fp,b<s.heap.objs.size)
  (hns:h₁.Ns s.heap.objs.size λy=>([]:List (Str×ag)).reverse.lookup y) (old:∀b o,s.heap.get? b=aa o->h₁.get? b=aa o) :
  Inv (cxC X N scope s.heap.objs.size s H fp) [] (aG k ab++zeZ fr σ) H { s with heap:=h₁,toks:=tk}:=by
 have sub:∀y c,(zjf X.env scope.names).lookup y=aa c->X.env.cells.lookup y=aa c:=zhW scope.names [] (λ_ _ z=>by cases z);have has:∀y,(y,bD)∈scope.names->∃c,(zjf X.env scope.names).lookup y=aa c:=λy hy=>cl_has scope.names [] y (I.ok.has y (S.free _ hy rfl)) (.inr hy);have celK:∀c v,s.heap.IsCell c v->h₁.IsCell c v:=λc v ⟨o,ho,hd⟩=>⟨o,old c o ho,hd⟩
 refine⟨⟨I.ok.mod,S.kind,I.ok.glob,I.ok.blt,ak _,λy z c h1 h2=>I.ok.inj y z c (sub y c h1) (sub z c h2),λy hy=>has y (bV (zdS S.ncell hy)),λy c hy _=>(by cases hy),I.ok.hd,I.ok.frames,.inl rfl,λb hb=>⟨bz (hfo b hb),λy c e=>(hf b hb).2.2.2.2.1 y c (sub y c e)⟩,
  I.bs,aH I.ok.bsz I.sz,λb o e hb=>?_,λb hb hfs=>?_,I.stack,I.stkFree⟩,rfl,I.bare,Un.kept old,⟨_,hns,λi y v e1 e2 e3=>?_⟩,λy c e=>?_,I.hok.fresh (ak _),λy c e=>I.freeC y c (sub y c e),λp hp=>absurd (show p∈([]:List (ae×Obj))from hp) (by simp),I.hok.kept old,?_⟩
 ·rcases (hf b hb).2.2.2.1 with z|z
  ·exact I.ok.noex b o e z
  ·exact absurd (aP (aN e) (aH I.ok.bsz z)) (cA _)
 ·exact(aE.mp (I.stkSub b hfs)).elim (hf b hb).2.1 (hf b hb).2.2.1
 ·by_cases hi:i<k
  ·rw[bg (by rw[cH];exact hi),dg,if_pos hi]at e2;cases e2
  ·rw[bL (by rw[cH];lia),cH]at e2;have e1':N[i]? =aa y:=e1;have d1:(N.drop k)[i-k]? =aa y:=by rw[fS,show k+(i-k)=i by lia];exact e1'
   have q1:((N.drop k).map aa)[i-k]? =aa (aa y):=by rw[aA,d1];rfl
   rw[S.nm,aA]at q1;unfold zeZ at e2;rw[aA]at e2;cases q:fr[i-k]? with
   |none=>rw[q]at q1;cases q1
   |some i'=>
    rw[q]at q1 e2;have n1:X.N[i']? =aa y:=aJ q1;have n2:(σ[i']?).join=aa v:=aJ e2;have n3:σ[i']? =aa (aa v):=by
     cases q':σ[i']? with
     |none=>rw[q']at n2;cases n2
     |some o=>rw[q']at n2;rw[show o=aa v from n2]
    have hfree:scope.names.lookup y=aa .free:=za1 (cV.mp S.nf y (cL d1));have hk:=S.free _ (bV hfree) rfl;obtain⟨m,hn,hl⟩:=I.loc;obtain⟨u,r,l⟩:=hl i' y v n1 n3 (hk.elim (λz=>.inr (.inl z)) λz=>.inr (.inr z));refine⟨u,r,.inr ⟨zdM hfree,?_⟩⟩;rcases l with ⟨kd,_⟩|⟨_,c,ec,hc⟩
    ·rcases hk with z|z <;> (rw[show X.env.kindOf y=aa .local from kd]at z;cases z)
    ·obtain⟨c',ec'⟩:=has y (bV hfree);cases (aJ ((sub y c' ec').symm.trans ec));exact⟨_,ec',celK _ _ hc⟩
 ·obtain⟨v,z⟩:=I.cell y c (sub y c e);exact⟨v,celK c v z⟩
 ·show(aG k ab++zeZ fr σ).length=N.length;rw[S.len];simp[zeZ]
end
def lcG(k:Nat)(fr:List Nat)(g:TG)(tt:TT)(te:TE)(J:It)(σ:St)(H1:Hp)(R:ae->Hp->Prop):Prop:=
 ∀a,H1 a=ab->∃W:Nat->Nat->List V->St->Hp->Prop,(∃m,W 0 m [] (aG k ab++zeZ fr σ) (upd H1 a (.lst [])))/\∀i m ys τ H,W i m ys τ H ->
  (J.stop i H/\R a H)\/(J.go i H/\∀x H',J.yld i H x H'->g x τ H' λτ' H2=>tt τ' H2 λb H3=>
   if b=true then te τ' H3 λy H4=>H4 a=aa (.lst ys)/\ys.length<bj/\∃m',m'<m/\W (i+1) m' (ys++[y]) τ' (upd H4 a (.lst (ys++[y])))
   else ∃m',m'<m/\W (i+1) m' ys τ' H3)
def tLG(k:Nat)(fr:List Nat)(wi:TI)(g:TG)(tt:TT)(te:TE):TE:=λσ H Q=>wi σ H λJ H1=>lcG k fr g tt te J σ H1 λa H2=>Q (.ref a) H2
section
variable {X:Cx}{N:List Str}{k:Nat}{fr:List Nat}{scope:Scope}{iter elt tg:Expr}{ifs:List Expr}{pos:Pos}{wi:TI}{g:TG}{te:TE}{tt:TT}
def pe_lg(S:CompSk X N k fr scope)(hc:X.calm=true)(hi:PI X tg iter wi)
  (hg:∀(C:ae) (s₀:ai) (H₀:Hp) (fp:List ae),PG (cxC X N scope C s₀ H₀ fp) tg g)
  (ht:∀(C:ae) (s₀:ai) (H₀:Hp) (fp:List ae),PTs (cxC X N scope C s₀ H₀ fp) ifs tt) (he:∀(C:ae) (s₀:ai) (H₀:Hp) (fp:List ae),PE (cxC X N scope C s₀ H₀ fp) elt te)
  (hs:∀z,ck iter X.env z=pure z:=by intro _;rfl):PE X (.ListComp elt [⟨tg,iter,ifs,0⟩] scope pos) (tLG k fr wi g tt te):=by
 intro pins s σ H Q I h;rw[eval_ListComp];refine wpAny_comprehension_free (use:=ab) (cl:=zjf X.env scope.names) rfl hs (zgq λy hy e=>I.ok.has y.1 (S.free y hy e)) S.kind S.loc (thn (hi pins s σ H _ I h) λxv s1 h1=>thn h1 λitv s2 h2=>?_);obtain⟨it,fp,tn,J,H2,e,I2,T,st2,f2,q⟩:=h2;subst e;refine wpAny_newObj_type (wpAny_newFunctionEnv S.ncell (by intro y hy;simp at hy) (λh₁ hns₁ hsb₁=>?_) S.kind);obtain⟨W,⟨m0,w0⟩,turn⟩:=q _ (I2.hok.fresh (ak _));have hfo:∀b∈fp,b<s2.heap.objs.size:=λb hb=>let⟨_,e,_⟩:=T.obj 0 _ st2 b hb;aN e;have I3:Inv X pins σ (upd H2 s2.heap.objs.size (.lst [])) { s2 with heap:=s2.heap.push { cls:=.type "list",dict:=ab,data:=.seq ([]:List ag).toArray}}:=
  I2.laid (t':=s2.toks) (λb o e=>ax _ e) (ak _) ⟨aL _,[],_,.nil,aT _ rfl⟩
 have f3:∀b∈fp,zir X pins (upd H2 s2.heap.objs.size (.lst [])) b:=λb hb=>⟨by rw[zai (bz (hfo b hb))];exact(f2 b hb).1,(f2 b hb).2⟩
 have st3:tn 0 (s2.heap.push { cls:=.type "list",dict:=ab,data:=.seq ([]:List ag).toArray}):=T.keep 0 s2.heap _ st2 λb hb o e=>ax _ e;generalize hs3:({ s2 with heap:=s2.heap.push { cls:=.type "list",dict:=ab,data:=.seq ([]:List ag).toArray}}:ai)=s3 at *;replace st3:tn 0 s3.heap:=by rw[<- hs3];exact st3
 generalize hHD:upd H2 s2.heap.objs.size (.lst [])=H3 at *;generalize hD:s2.heap.objs.size=D at *;have hfo3:∀b∈fp,b<s3.heap.objs.size:=λb hb=>let⟨_,e,_⟩:=T.obj 0 _ st3 b hb;aN e;have old:∀b o,s3.heap.get? b=aa o->h₁.get? b=aa o:=λb o e=>hsb₁.extBut b o (bz (aN e)) (ax _ e);have st1:tn 0 h₁:=T.keep 0 s3.heap h₁ st3 λb hb o e=>old b o e;have stat:∀{pins':List (ae×Obj)} {H':Hp},(∀b∈fp,H' b=ab)->(∀b∈fp,∀p∈pins',p.1≠b)->∀b∈fp,zir (cxC X N scope s3.heap.objs.size s3 H3 fp) pins' H' b:=fun {pins' H'} hn hp b hb=>by
  refine⟨hn b hb,bz (hfo3 b hb),λz=>?_,.inl hb,λy c e=>(f3 b hb).2.2.2.2.1 y c (zhW scope.names [] (λ_ _ z=>by cases z) y c e),λp hp'=>hp b hb p (by simpa [cxC] using hp')⟩;exact(aE.mp (I3.stkSub b z)).elim (f3 b hb).2.1 (f3 b hb).2.2.1
 have loop:∀s4:ai,Inv (cxC X N scope s3.heap.objs.size s3 H3 fp) [] (aG k ab++zeZ fr σ) H3 s4->tn 0 s4.heap ->
   codeAny (model X.prog X.w) X.A (.compLoop (.ListComp elt [⟨tg,iter,ifs,0⟩] scope pos) 0 (.ref it) (.ref D) (compEnvC scope (zjf X.env scope.names) s3.heap.objs.size X.env)) (compPost (model X.prog X.w) X.A X.xe ab (EP X pins σ Q) (.ref D) s3.heap.objs.size) s4:=by
  intro s4 I4 st4;refine ziu (λn s'=>∃i ys τ H',Inv (cxC X N scope s3.heap.objs.size s3 H3 fp) [] τ H' s'/\tn i s'.heap/\(∀b∈fp,H' b=ab)/\W i n ys τ H') ?_ m0
   ⟨0,[],_,_,I4,st4,λb hb=>(f3 b hb).1,w0⟩
  rintro n s5 ⟨i,ys,τ,H5,I5,st5,fr5,w5⟩;rcases turn i n ys τ H5 w5 with ⟨stop,qn⟩|⟨go,step⟩
  ·refine bX (T.done (cxC X N scope s3.heap.objs.size s3 H3 fp) rfl rfl rfl hc i [] s5 _ H5 (λ_ _=>False) I5 (stat fr5 (by simp)) st5 stop) (λr s6 hr6=>?_) λ_ _ z=>z.elim;obtain⟨hr,I6⟩:=hr6;subst hr;obtain⟨m,hn,_⟩:=id I6.loc;refine⟨m,hn,λh' hsb=>⟨.ref D,H5,?_,rfl,qn⟩⟩;refine(zgx I3 f3 I6).turned (t':=s6.toks) (λb o hb e=>(hsb.2 b hb).trans e) I6.free (iN I3.lt) (.inr I3.sz) ?_ ?_
   ·intro y c e z;obtain⟨v,qc⟩:=I3.cell y c e;exact absurd qc.lt (by rw[z];exact cA _)
   ·intro p hp z;exact absurd (aN (I3.pin p hp).1) (by rw[z];exact cA _)
  ·refine bX (T.item (cxC X N scope s3.heap.objs.size s3 H3 fp) rfl rfl rfl hc i [] s5 _ H5 (λ_ _=>False) I5 (stat fr5 (by simp)) st5 go) (λr s6 hr6=>?_) λ_ _ z=>z.elim;obtain⟨u,hr,h6⟩:=hr6;subst hr;refine bX h6 (λ_ s7 h7=>?_) λ_ _ z=>z.elim;obtain⟨y,H7,I7,r7,y7,st7,fr7⟩:=h7;have I7':=I7.pinned (stat fr7 (by simp)) (T.obj _ _ st7);refine bX (hg _ _ _ _ _ s7 _ H7 y u _ I7' r7 (step y H7 y7)) (λ_ s8 h8=>?_) λ_ _ z=>z.elim;obtain⟨τ8,H8,I8,q8⟩:=h8;refine bX (ht _ _ _ _ _ s8 _ H8 _ I8 q8) (λok s9 h9=>?_) λ_ _ z=>z.elim;obtain⟨H9,I9,q9⟩:=h9;have again:∀{s':ai} {H':Hp},Inv (cxC X N scope s3.heap.objs.size s3 H3 fp) ([]++zfN fp s7.heap) τ8 H' s' ->
     Inv (cxC X N scope s3.heap.objs.size s3 H3 fp) [] τ8 H' s'/\tn (i+1) s'.heap/\∀b∈fp,H' b=ab:=fun {s' H'} I'=>by
    refine⟨I'.unpinned,T.keep _ _ _ st7 λb hb o e=>(I'.pin (b,o) (av _ (av _ (zcY hb e)))).1,λb hb=>?_⟩;obtain⟨o,e,d⟩:=T.obj _ _ st7 b hb;exact(I'.pin (b,o) (av _ (av _ (zcY hb e)))).2.1
   cases ok with
   |false=>
    rw[if_neg aR]at q9 ⊢;obtain⟨m',hm,w9⟩:=q9;obtain⟨a1,a2,a3⟩:=again I9;exact⟨m',hm,i+1,ys,τ8,H9,a1,a2,a3,w9⟩
   |true=>
    rw[if_pos rfl]at q9 ⊢;refine bX (he _ _ _ _ _ s9 _ H9 _ I9 q9) (λzv s10 h10=>?_) λ_ _ z=>z.elim;obtain⟨z,H10,I10,rz,hz,hlt,m',hm,w10⟩:=h10;refine bX (zeD (X:=cxC X N scope s3.heap.objs.size s3 H3 fp) _ s10 _ H10 (.ref D) [z] (.ref D) [zv] (λ_ H'=>H'=upd H10 D (.lst (ys++[z]))) I10 rfl (.cons rz .nil)
     ⟨_,ys,z,rfl,rfl,hz,hlt,rfl⟩) (λ_ s11 h11=>?_) λ_ _ z=>z.elim
    obtain⟨_,H11,I11,_,e11⟩:=h11;subst e11;obtain⟨a1,a2,a3⟩:=again I11;exact⟨m',hm,i+1,ys++[z],τ8,_,a1,a2,a3,w10⟩
 have I4:=comp_invK S (tk:=s3.toks) I3 f3 hfo3 hns₁ old;exact codeAny_compStart_list (loop _ I4 st1) (T.self _ 0 _ _ _ st1 (loop _ I4 st1))
end
end L2
namespace L3
open PySem PySem.Spec PyProof.Rows L2
def two:D->Option (D×D)
 |.tup [a,b]=>aa (a,b)
 | _=>ab
def two_some{d:D}{p:D×D}(h:two d=aa p):d=.tup [p.1,p.2]:=by
 unfold two at h;split at h
 ·cases h;rfl
 ·cases h
def zkf(fr:List Nat)(δ:En)(d d':D):En:=aa (.val d)::aa (.val d')::fr.map λi=>((δ[i]?).join).bind ziI
def eL2(fr:List Nat)(fi:FI)(ft:FT)(fe:FE):FE:=λδ=>(fi δ).bind λds=>(zb1 (λd=>(two d).bind λp=>ft (zkf fr δ p.1 p.2)) (λd=>(two d).bind λp=>fe (zkf fr δ p.1 p.2)) ds).bind λout=>if out.length<=1000000 then aa (.own out)else ab
def RS.cap2{K:af}{B:Bd}{F H:Hp}{σ:Sg}{δ:En}{v v':V}{d d':D}(s:RS K B F H σ δ)(fr:List Nat)(r:Rep F v d)(r':Rep F v' d'):RS K B F H (aa v::aa v'::zeZ fr σ) (zkf fr δ d d'):=by
 have c:=s.cap fr r';refine⟨c.fh,c.bh,by simp[zkf,zeZ],λj e h=>?_,λa b l ds e hab h1 h2 h3 h4=>?_,λa b e1 e2 v1 v2 ad hab q1 q2 q3 q4 q5=>?_,λw o _ ho=>by cases ho⟩
 ·cases j with
  |zero=>cases h;exact⟨v,rfl,r⟩
  |succ j=>exact c.ent j e h
 ·cases a with
  |zero=>cases h1
  |succ a=>
   cases b with
   |zero=>cases h3;cases h4
   |succ b=>exact c.ap a b l ds e (λz=>hab (by rw[z])) h1 h2 h3 h4
 ·cases a with
  |zero=>cases q1;cases q5
  |succ a=>
   cases b with
   |zero=>cases q3;exact λ_ z=>z
   |succ b=>exact c.ao a b e1 e2 v1 v2 ad (λz=>hab (by rw[z])) q1 q2 q3 q4 q5
def SemE.l2{K:af}{fr:List Nat}{wi:TI}{tt:TT}{te:TE}{fi:FI}{ft:FT}{fe:FE}(mi:SemI K wi fi)(mt:SemT K tt ft)(me:SemE K te fe):SemE K (tLG 2 fr wi (gTup K 2 (gCons (zdG 0) (gCons (zdG 1) gNil))) tt te) (eL2 fr fi ft fe):=λB F H σ δ res Q s q k=>by
 obtain⟨ds,q1,q⟩:=bind_some q;obtain⟨out,q2,q⟩:=bind_some q;split at q
 ·rename_i hlen;cases q;refine mi B F H σ δ ds _ s q1 λJ F1 H1 x1 io=>?_;intro a ha;refine⟨λi m ys τ H'=>m=ds.length-i/\i<=ds.length/\(∃o1 o2,τ=o1::o2::zeZ fr σ)/\∃F' done rest,Ex F1 H1 F' H'/\F' a=ab/\H' a=aa (.lst ys)/\Reps F' ys done/\zb1 (λd=>(two d).bind λp=>ft (zkf fr δ p.1 p.2)) (λd=>(two d).bind λp=>fe (zkf fr δ p.1 p.2)) (ds.drop i)=aa rest/\out=done++rest,
   ⟨_,rfl,aL _,⟨ab,ab,rfl⟩,F1,[],out,Ex.lay x1.fh ha,x1.fh.free ha,zaj,.nil,q2,rfl⟩,?_⟩
  rintro i m ys τ H' ⟨rfl,hi,⟨o1,o2,rfl⟩,F',dn,rest,x',fa,hH,rs,q',eo⟩;have s':=(s.ext x1).ext x';obtain⟨hstop,hgo⟩:=io F' H' x'.ff x'.fh s'.bh;by_cases hlt:i<ds.length
  ·right;have hd:ds[i]? =aa ds[i]:=by simp[hlt]
   obtain⟨g1,g2⟩:=hgo i _ hd;rw[bR hlt]at q';obtain⟨b,q3,q'⟩:=bind_some q';obtain⟨p,qt,q3⟩:=bind_some q3;have et:=two_some qt;refine⟨g1,λv H2 yl=>?_⟩;obtain⟨F2,x2,r2⟩:=g2 v H2 yl;rw[et]at r2;cases r2 with
   |tup e2 rs2=>
    cases rs2 with
    |cons ra rs3=>
     cases rs3 with
     |cons rb rs4=>
      cases rs4;refine⟨_,_,rfl,SqT.of (x2.fh _ _ e2),rfl,_,_,rfl,_,_,rfl,rfl,?_⟩;have sc:=(s'.ext x2).cap2 fr ra rb;refine mt B F2 H2 _ _ b _ sc q3 λF3 H3 x3=>?_;have nn:∀{Fz Hz:Hp},Ex F' H' Fz Hz->Fz a=ab:=λx=>(x.nw _ _ hH rfl).trans fa;cases b with
      |false=>
       refine zjx ⟨ds.length-(i+1),by lia,rfl,hlt,⟨_,_,rfl⟩,F3,dn,rest,(x'.trans x2).trans x3,nn (x2.trans x3),(x2.trans x3).hh _ _ hH,rs.mono (x2.trans x3).ff,q',eo⟩
      |true=>
       refine zj0 ?_;obtain⟨y,q4,q'⟩:=bind_some q';obtain⟨r,q5,q6⟩:=bind_some q4;replace q5:(two ds[i]).bind (λp=>fe (zkf fr δ p.1 p.2))=aa r:=q5;rw[qt]at q5;obtain⟨rest',q7,q'⟩:=map_some q';cases q';refine me B F3 H3 _ _ r _ (sc.ext x3) q5 λw F4 H4 x4 z4=>?_;obtain⟨F5,x5,_,r5⟩:=RepR.frz x4 (Same.refl _) z4 q6;have xx:Ex F' H' F5 H4:=(x2.trans x3).trans x5;have hy:ys.length<bj:=by
        rw[rs.length,cn];have:out.length=dn.length+(rest'.length+1):=by rw[eo];simp
        lia
       refine⟨xx.hh _ _ hH,hy,ds.length-(i+1),by lia,rfl,hlt,⟨_,_,rfl⟩,F5,dn++[y],rest',?_,nn xx,zaj,(rs.mono xx.ff).append (.one r5),q7,by rw[eo];simp⟩;have xo:=x'.trans xx;exact⟨xo.ff,λb o e=>by rw[zai (zaB e (nn xx))];exact xo.fh b o e,λb o e=>by rw[zai (zaB e ha)];exact xo.hh b o e,xo.nw⟩
  ·left;have e:i=ds.length:=by lia
   subst e;rw[eU]at q';cases q';rw[aU]at eo;subst eo;refine⟨hstop,k _ F' H' (x1.trans x') ⟨a,ys,rfl,x1.hh.free ha,hH,rs,fa⟩⟩
 ·cases q
section
variable {X:Cx}{N:List Str}{fr:List Nat}{x x':Str}{scope:Scope}{iter elt:Expr}{ifs:List Expr}{px px' tpos pos:Pos}{fi:FI}{fe:FE}{ft:FT}{tn:Nat}
def vl2(S:CompSk X N 2 fr scope)(n0:N[0]? =aa x)(n1:N[1]? =aa x')(nd:N.Nodup)(t0:scope.names.lookup x=aa .local)(t1:scope.names.lookup x'=aa .local)(hi:VI X (.Tuple [.Name x px,.Name x' px'] tn tpos) iter fi)
  (ht:∀(C:ae) (s₀:ai) (H₀:Hp) (fp:List ae),VTs (cxC X N scope C s₀ H₀ fp) ifs ft) (he:∀(C:ae) (s₀:ai) (H₀:Hp) (fp:List ae),VE (cxC X N scope C s₀ H₀ fp) elt fe)
  (hc:X.calm=true:=by rfl) (hs:∀z,ck iter X.env z=pure z:=by intro _;rfl):VE X (.ListComp elt [⟨.Tuple [.Name x px,.Name x' px'] tn tpos,iter,ifs,0⟩] scope pos) (eL2 fr fi ft fe):=by
 obtain⟨_,w1,m1⟩:=hi.h;have l0:(relabel scope X.env).names.lookup x=aa .local:=lookup_relabel_local t0;have l1:(relabel scope X.env).names.lookup x'=aa .local:=lookup_relabel_local t1;refine⟨_,⟨pe_lg S hc w1.h (λC s₀ H₀ fp=>?_) (λC s₀ H₀ fp=>((ht C s₀ H₀ fp).uni).h) (λC s₀ H₀ fp=>((he C s₀ H₀ fp).uni).h) hs⟩,.l2 m1 ziL zix⟩;exact pg_tup (X:=cxC X N scope C s₀ H₀ fp) hc (zgA (ziT nd n0 (.inl l0) (.inr l0)) (zgA (ziT nd n1 (.inl l1) (.inr l1)) pgs_nil))
end
end L3

namespace L3
open PySem PySem.Spec PyProof.Rows L2
mutual
def toD(kC:Str->ae):OT->Option D
 |.val d=>aa d
 |.ins c ns l=>(toDs kC l).map (.ins (kC c) ns)
 |.dcI ks l=>(toDs kC l).map (.dcI ks)
 |.dcS ks l=>(toDs kC l).map (.dcS ks)
 |.los l=>(toDs kC l).map .lst
 | _=>ab
def toDs(kC:Str->ae):List OT->Option (List D)
 |[]=>aa []
 |o::os=>(toD kC o).bind λd=>(toDs kC os).map λds=>d::ds
end
mutual
def plD:D->Bool
 |.non=>true
 |.bl _=>true
 |.int _=>true
 |.str _=>true
 |.tup l=>plDs l
 | _=>false
def plDs:List D->Bool
 |[]=>true
 |d::ds=>plD d&&plDs ds
end
section
variable {K:af}{kC:Str->ae}{F H F1:Hp}{A:List ae}
def TR.frz(hK:∀c C,zcl K c C->C=kC c)(sf:Same F F1){v:V}{o:OT}{A:List ae}(t:TR K F H v o A):(∀a∈A,F1 a=H a)->∀{d:D},toD kC o=aa d->Rep F1 v d:=by
 refine TR.rec (motive_1:=λv o A _=>(∀a∈A,F1 a=H a)->∀{d:D},toD kC o=aa d->Rep F1 v d) (motive_2:=λvs os A _=>(∀a∈A,F1 a=H a)->∀{ds:List D},toDs kC os=aa ds->Reps F1 vs ds) ?_ ?_ ?_ ?_ ?_ ?_ ?_ ?_ ?_ ?_ t
 ·intro _ _ r _ d q;simp only[toD]at q;cases q;exact Rep.mono sf r
 ·intro _ _ _ _ _ _ d q;simp only[toD]at q;cases q
 ·intro _ _ _ _ _ _ _ _ hc e1 _ hl _ ih h d q;simp only[toD]at q;obtain⟨ds,q1,q⟩:=map_some q;subst q;rw[<- hK _ _ hc];exact .ins ((h _ aj).trans e1) hl (ih (λa ha=>h a (ah _ (ah _ ha))) q1)
 ·intro _ _ _ _ _ _ _ _ d q;simp only[toD]at q;cases q
 ·intro _ _ _ _ _ _ _ _ _ d q;simp only[toD]at q;cases q
 ·intro _ _ _ _ _ _ e1 d1 hl _ ih h d q;simp only[toD]at q;obtain⟨ds,q1,q⟩:=map_some q;subst q;exact .dcI ((h _ aj).trans e1) d1 hl (ih (λa ha=>h a (ah _ ha)) q1)
 ·intro _ _ _ _ _ e1 hl _ ih h d q;simp only[toD]at q;obtain⟨ds,q1,q⟩:=map_some q;subst q;exact .dcS ((h _ aj).trans e1) hl (ih (λa ha=>h a (ah _ ha)) q1)
 ·intro _ _ _ _ e1 _ ih h d q;simp only[toD]at q;obtain⟨ds,q1,q⟩:=map_some q;subst q;exact .lst ((h _ aj).trans e1) (ih (λa ha=>h a (ah _ ha)) q1)
 ·intro _ d q;simp only[toDs]at q;cases q;exact .nil
 ·intro _ _ _ _ _ _ _ _ i1 i2 h d q;simp only[toDs]at q;obtain⟨d1,q1,q⟩:=bind_some q;obtain⟨ds,q2,q⟩:=map_some q;subst q;exact .cons (i1 (λa ha=>h a (aX _ ha)) q1) (i2 (λa ha=>h a (av _ ha)) q2)
def Rep.off(hA:∀a∈A,∃u,F a=aa u/\isT u=false){v:V}{d:D}(r:Rep F v d):plD d=true->Rep (zfR F A) v d:=by
 refine Rep.rec (motive_1:=λv d _=>plD d=true->Rep (zfR F A) v d) (motive_2:=λvs ds _=>plDs ds=true->Reps (zfR F A) vs ds) (λ_=>.non) (λb _=>.bl b) (λi _=>.int i) (λx _=>.str x) ?_ ?_ ?_ ?_ ?_ ?_ (λ_=>.nil) ?_ r
 ·intro _ _ _ e _ ih h;simp only[plD]at h;refine .tup (zcd (λz=>?_) e) (ih h);obtain⟨u,h1,h2⟩:=hA _ z;rw[e]at h1;cases h1;cases h2
 ·intro _ _ _ _ _ _ h;simp only[plD]at h;cases h
 ·intro _ _ _ _ _ _ _ _ _ h;simp only[plD]at h;cases h
 ·intro _ _ _ _ _ _ _ _ _ _ h;simp only[plD]at h;cases h
 ·intro _ _ _ _ _ _ _ _ _ _ h;simp only[plD]at h;cases h
 ·intro _ _ _ _ _ _ _ _ h;simp only[plD]at h;cases h
 ·intro _ _ _ _ _ _ i1 i2 h;simp only[plDs,d9]at h;exact .cons (i1 h.1) (i2 h.2)
end
def kC_ex(K:af):∃kC:Str->ae,∀c C,zcl K c C->C=kC c:=by
 classical
 refine⟨λc=>if h:∃C,zcl K c C then h.choose else 0,λc C h=>?_⟩;have hx:∃C,zcl K c C:=⟨C,h⟩
 show C=if h:∃C,zcl K c C then h.choose else 0
 rw[dif_pos hx];exact zbi h hx.choose_spec
section
variable {P:aI}{w:aO}{K:af}{mg:Str->Option ag}{base:aV}{x qual:Str}{st:Stmt}{f:ae}{fd:bx}{N ps:List Str}{k n:Nat}{g:GM}
end
def fNon:OT->Option Bool
 |.val d=>aa (isN (.val d))
 |.ins _ _ _=>aa false
 | _=>ab
noncomputable def eFIs(i:Nat)(c:Str)(ns:List Str)(k:Nat):FE:=λδ=>((oAt i δ).bind (isC c ns)).bind λl=>((l[k]?).bind fNon).map λb=>.val (.bl b)
noncomputable def xCOF(i:Nat)(c:Str)(ns:List Str)(k:Nat)(g:GM)(fa:FA):FXE:=λδ=>((oAt i δ).bind (isC c ns)).bind λl=>(l[k]?).bind λo=>((fa δ).bind zdF).bind λds=>(g o ds).map λp=>(p.1,δ.set i (aa (.obj (.ins c ns (l.set k p.2)))))
section
variable {X:Cx}{e:Expr}{es:List Expr}{pos pos' p p2:Pos}{fa:FA}{x y f c qual:Str}{ns nsF ps:List Str}{g:GM}{fd:bx}{fm:ae}{st:Stmt}{kk j:Nat}{CX:CXT}{E:XK}
def vFIs(i k:Nat){n:Nat}(hc:ClsF X.K c nsF)(hf:f∈nsF:=by decide +kernel)(hk:ns[k]? =aa f:=by rfl)(hn:ns.Nodup:=by decide +kernel)(hN:X.N[i]? =aa x:=by rfl)(hv:Vis X.env.scope x:=by first|exact az rfl|exact ba (az rfl)|exact ba (ba rfl))(hd:(x==("__debug__" : Str))=false:=by decide)
  (hcd:(x==("__classdict__" : Str))=false:=by decide) (hb:bT (.Name x p) f X.env (eval (.Name x p) X.env)=eval (.Name x p) X.env:=by rfl) (hm:behindInMarks .Is (.Constant .none n p2)=false:=by rfl) :
  VT X (.Compare (.Attribute (.Name x p) f pos') [.Is] [.Constant .none n p2] pos) (tOf (eFIs i c ns k)):=by
 refine⟨_,tcmp op_isN ⟨zed (wv i hN hv hd hcd).h hb⟩ wnon hm,λB F H σ δ b Q s q kk=>?_⟩;obtain⟨res,q,q9⟩:=bind_some q;obtain⟨l,q0,q⟩:=bind_some q;obtain⟨o,q0,q1⟩:=bind_some q0;obtain⟨b',q2,q⟩:=map_some q;subst q;cases q9;obtain⟨x1,q2,q3⟩:=bind_some q2;cases zcD q1;obtain⟨v,h1,A,t,n,h⟩:=s.ent i _ (zaH q0);cases t with
 |ins hcl e1 e2 hl ts=>
  obtain⟨w,A1,h2,h3,_⟩:=ts.focus q2
  obtain⟨g1,g2⟩:=hc.h _ hcl;refine⟨_,h1,_,_,_,_,w,rfl,e1,g1,g2 f hf,zco hn hk h2,rfl,_,rfl,?_⟩;have e:decide (w=.non)=b:=by
   cases x1 with
   |val d=>cases q3;cases h3 with|val h3=>exact isN_ok (K:=X.K) (H0:=H) (H:=H) (e:=.val d) h3
   |ins _ _ _=>cases q3;cases h3;rfl
   | _=>cases q3
  rw[e];exact kk F H (Ex.refl s.fh)
def xcof(i k:Nat)(hc:ClsF X.K c nsF)(F:FnOk X.prog X.w X.K X.mg X.base CX kk fm fd ps (spM X.K g))(D:Def X.K X.mg y st ps fm fd)(hr:Room j X.A)(hg:Gl X y)(hx:zcm CX X E)(ha:VA X es fa)(hf:f∈nsF:=by decide +kernel)(hk:ns[k]? =aa f:=by rfl)(hn:ns.Nodup:=by decide +kernel)(hjk:kk<=j:=by decide)
  (hdb:(y==("__debug__" : Str))=false:=by decide) (h2:es.all zan=true:=by rfl) (hN:X.N[i]? =aa x:=by rfl) (hv:Vis X.env.scope x:=by first|exact az rfl|exact ba (az rfl)|exact ba (ba rfl)) (hd:(x==("__debug__" : Str))=false:=by decide) (hcd:(x==("__classdict__" : Str))=false:=by decide)
  (hb:bT (.Name x p) f X.env (eval (.Name x p) X.env)=eval (.Name x p) X.env:=by rfl) :
  VX X (.Call (.Name y p2) (.Attribute (.Name x p) f pos'::es) [] pos) (xCOF i c ns k g fa):=by
 obtain⟨t,w,m⟩:=ha.h;refine⟨_,wcl F D hr hg hx (wac ⟨zed (wv i hN hv hd hcd).h hb⟩ w rfl) hjk hdb rfl h2,λB F H σ δ d δ' Q s q kk=>?_⟩;obtain⟨l,q0,q⟩:=bind_some q;obtain⟨o,q0,q1⟩:=bind_some q0;obtain⟨o1,q5,q⟩:=bind_some q;obtain⟨ds,q2,q⟩:=bind_some q;obtain⟨rs,q2,q3⟩:=bind_some q2;obtain⟨p1,q4,q⟩:=map_some q;cases q;cases zcD q1;obtain⟨v,h1,A,t0,n0,f0⟩:=s.ent i _ (zaH q0);cases t0 with
 |ins hcl e1 e2 hl ts=>
  obtain⟨g1,g2⟩:=hc.h _ hcl;obtain⟨w,A1,h2,h3,h4,h4n,_⟩:=ts.focus q5
  have nA:=(aB.mp (aB.mp n0).2).2;refine⟨_,h1,_,_,_,_,w,rfl,e1,g1,g2 f hf,zco hn hk h2,?_⟩;refine m B F H σ δ rs _ s q2 λvs F1 H1 x1 r1=>?_;obtain⟨F2,x2,_,r2⟩:=RepRs.frz x1 (Same.refl _) r1 q3;have s2:=s.ext x2;have tt:=h3.ext x2;have ts2:=ts.move (H':=H1) x2.ff λb hb=>let⟨u,hu,_⟩:=ts.lies b hb;(x2.hh _ _ hu).trans hu.symm;rw[aU];refine⟨w,vs,F2,_,_,ds,p1.1,p1.2,rfl,s2.fh,tt.1,h4n nA,λa ha=>(tt.2 a ha).trans (f0 a (ah _ (ah _ (h4 a ha)))).1,r2,q4,λy F' H' A' ch t' n' f' ry=>?_⟩;obtain⟨z1,z2⟩:=s2.sub (zaH q0) h1 hcl (x2.hh _ _ e1) (x2.hh _ _ e2) hl ts2 q5 h2 tt.1 ch t' n' f';exact kk y F' H' z1 ((FX.of x2 s.bh).trans z2) ry
def vmake0{C:ae}(DC:ClsD X.K X.mg c nsF C)(D:MakeD X.K c st qual ps fm fd)(F:FnOk X.prog X.w X.K X.mg X.base CX kk fm fd ps (spM X.K g))(hr:Room j X.A)(hg:Gl X c)(hx:zcm CX X E)(hjk:kk+1<=j:=by decide)(hdb:(c==("__debug__" : Str))=false:=by decide) :
  VE X (.Call (.Name c p) [] [] pos) (zeP c g zad):=⟨_,⟨pe_make0 (D.at_ _ DC.at_) F (hr.mono hjk) hg DC.mg D.b .nil hx hdb⟩,.make semNil DC.at_⟩
end
end L3

namespace L3
open PySem PySem.Spec PyProof.Rows L2
def mkK(w:Str)(ks:List Int)(os:List OT):OT:=.ins "Knot" ["word","branches"] [.val (.str w),.dcI ks os]
def knOf:OT->Option (Str×List Int×List OT)
 |.ins c ns [.val (.str w),.dcI ks os]=>if c = "Knot" /\ ns=(["word","branches"]:List Str)then aa (w,ks,os)else ab
 | _=>ab
def knOf_some{o:OT}{p:Str×List Int×List OT}(h:knOf o=aa p):o=mkK p.1 p.2.1 p.2.2:=by
 unfold knOf at h;split at h
 ·split at h
  ·rename_i z;cases h;rw[z.1,z.2];rfl
  ·cases h
 ·cases h
def knOf_mk(w:Str)(ks:List Int)(os:List OT):knOf (mkK w ks os)=aa (w,ks,os):=by
 unfold knOf mkK;exact if_pos ⟨rfl,rfl⟩
def zf7(rc:OT->Option (Bool×OT))(w w':Str)(ks:List Int)(os:List OT)(p:Int):Option (Bool×OT):=
 if 0<p then (match ixI ks p with
  |some j=>(os[j]?).bind λy=>(rc y).map λq=>(q.1,mkK w' ks (os.set j q.2))
  |none=>if ks.length<1000000 then aa (true,mkK w' (ks++[p]) (os++[mkK w [] []]))else ab)
 else if p=0 then aa (false,mkK w' ks os)else ab
def zej(gs:List D->Option Ent)(w:Str):Nat->OT->Option (Bool×OT)
 |0,_=>ab
 |n+1,x=>(knOf x).bind λk=>((gs [.str k.1,.str w]).bind iOf).bind λp=>zf7 (zej gs w n) w k.1 k.2.1 k.2.2 p
def sAt(i:Nat):En->Option Str:=λδ=>match δ[i]? with
 |some (aa (.val (.str z)))=>aa z
 | _=>ab
def sAt_some{i:Nat}{δ:En}{z:Str}(h:sAt i δ=aa z):δ[i]? =aa (aa (.val (.str z))):=by
 unfold sAt at h;split at h
 ·rename_i e;cases h;exact e
 ·cases h
def fHang(gs:List D->Option Ent):FS:=λδ=>(oAt 0 δ).bind λo=>(sAt 1 δ).bind λw=>if 3<δ.length then (zej gs w 1000 o).map λp=>.rt (.val (.bl p.1)) (δ.set 0 (aa (.obj p.2)))else ab
def tSl(K:af)(gs:List D->Option Ent):TE:=tCall (spD K [.v,.v] gs) [] E0 (tCons (zi3 K (zd1 2) "word") (tCons (zd1 1) tNil))
def tHang(K:af)(gs:List D->Option Ent)(tK:TE):TS:=tSeq (zgZ (zd1 0) (zdG 2)) (tSeq (zgZ (tSl K gs) (zdG 3)) (tSeq (zjh (tAnd (zf5 (tOp (rI0 λi j=>.bl (decide (j<i))) (zd1 3) (tC (.int 0)))) (zf5 (tOp rInI (zd1 3) (zi3 K (zd1 2) "branches"))))
  (tSeq (zgZ (tOp rIxI (zi3 K (zd1 2) "branches") (zd1 3)) (zdG 2)) (zgZ (tSl K gs) (zdG 3))))
 (tSeq (tIfS (zf5 (tOp rEq (zd1 3) (tC (.int 0)))) (tRet (tC (.bl false))) tNext) (tSeq (zgZ tK (gSub (zi3 K (zd1 2) "branches") (zd1 3) rSetI)) (tRet (tC (.bl true)))))))
section
variable {K:af}{F H:Hp}{v v1:V}{w w':Str}{ks:List Int}{os:List OT}{A A1 A4:List ae}{a dx l C:ae}{o:Obj}{vs:List V}{up:OT->OT}{gs:List D->Option Ent}
def zfv(t:TR K F H v (mkK w ks os) A):∃a dx C l o vs A4,v=.ref a/\A=a::dx::l::A4/\zcl K "Knot" C/\H a=aa (.ins C dx [("word",.str w),("branches",.ref l)])/\H dx=aa (.own a)/\H l=aa (knO l o)/\DiD l o ((ks.map bI).zip vs)/\ks.length=vs.length/\TRs K F H vs os A4:=by
 cases t with
 |ins hc e1 e2 hl ts=>
  cases ts with
  |cons t1 ts=>
   cases t1 with
   |val r=>
    cases r;cases ts with
    |cons t2 ts=>
     cases ts;cases t2 with
     |dcI e d hl2 ts2=>exact⟨_,_,_,_,_,_,_,rfl,by simp,hc,e1,e2,e,d,hl2,ts2⟩
def kn_mk(hc:zcl K "Knot" C)(e1:H a=aa (.ins C dx [("word",.str w),("branches",.ref l)]))(e2:H dx=aa (.own a))(e:H l=aa (knO l o))(d:DiD l o ((ks.map bI).zip vs))(hl:ks.length=vs.length)(ts:TRs K F H vs os A4):TR K F H (.ref a) (mkK w ks os) (a::dx::l::A4):=by
 unfold mkK;have:=TR.ins (ns:=["word","branches"]) (vs:=[.str w,.ref l]) hc e1 e2 rfl (.cons (.val (.str w)) (.cons (.dcI e d hl ts) .nil));simpa using this
def Plug(K:af)(F H:Hp)(v:V)(A:List ae)(v1:V)(A1:List ae)(up:OT->OT):Prop:=(∀b∈A1,b∈A) /\
 ∀(F2 H2:Hp) (x':OT) (A1':List ae),Same F F2->(∀b∈A,b∉A1->H2 b=H b)->TR K F2 H2 v1 x' A1'->A1'.Nodup->(∀b∈A1',b∈A1\/b∉A)->∃A',TR K F2 H2 v (up x') A'/\A'.Nodup/\∀b∈A',(b∈A/\b∉A1)\/b∈A1'
def Plug.refl:Plug K F H v A v A id:=⟨λ_ h=>h,λ_ _ _ A1' _ _ t n _=>⟨A1',t,n,λ_ hb=>.inr hb⟩⟩
def Plug.down{j:Nat}{y:OT}(P:Plug K F H v A (.ref a) (a::dx::l::A4) up)(hc:zcl K "Knot" C)(e1:H a=aa (.ins C dx [("word",.str w),("branches",.ref l)]))(e2:H dx=aa (.own a))(e:H l=aa (knO l o))(d:DiD l o ((ks.map bI).zip vs))(hl:ks.length=vs.length)(ts:TRs K F H vs os A4)
  (n:(a::dx::l::A4).Nodup) (hj:os[j]? =aa y):∃v2 A2,vs[j]? =aa v2/\TR K F H v2 y A2/\A2.Nodup/\Plug K F H v A v2 A2 λy'=>up (mkK w ks (os.set j y')):=by
 obtain⟨v2,A2,h1,h2,h3,h4,go⟩:=ts.focus hj
 obtain⟨na,n⟩:=aB.mp n;obtain⟨nd,n⟩:=aB.mp n;obtain⟨nl,n4⟩:=aB.mp n;have up4:∀b∈A4,b∈a::dx::l::A4:=λb hb=>ah _ (ah _ (ah _ hb));have na4:a∉A4:=λz=>na (ah _ (ah _ z));have nd4:dx∉A4:=λz=>nd (ah _ z);have top:∀b,b=a\/b=dx\/b=l->b∈A/\b∉A4:=λb hb=>by
  rcases hb with rfl|rfl|rfl
  ·exact⟨P.1 _ aj,na4⟩
  ·exact⟨P.1 _ (ah _ aj),nd4⟩
  ·exact⟨P.1 _ (ah _ (ah _ aj)),nl⟩
 refine⟨v2,A2,h1,h2,h4 n4,λb hb=>P.1 b (up4 b (h3 b hb)),λF2 H2 y' A2' sf hh ty ny hy=>?_⟩;obtain⟨A4',m1,m2,m3⟩:=go F2 H2 y' A2' n4 sf (λb hb hn=>hh b (P.1 b (up4 b hb)) hn) ty ny λb hb=>(hy b hb).imp id λz q=>z (P.1 b (up4 b q));have st:∀b,b=a\/b=dx\/b=l->H2 b=H b:=λb hb=>hh b (top b hb).1 λz=>(top b hb).2 (h3 b z);have T:=kn_mk (w:=w) (ks:=ks) (os:=os.set j y') hc ((st a (.inl rfl)).trans e1) ((st dx (.inr (.inl rfl))).trans e2) ((st l (.inr (.inr rfl))).trans e) d hl m1;have no:∀b,b=a\/b=dx\/b=l->b∉A4':=λb hb z=>by
  rcases m3 b z with z|z
  ·exact(top b hb).2 z.1
  ·rcases hy b z with z|z
   ·exact(top b hb).2 (h3 b z)
   ·exact z (top b hb).1
 have T':(a::dx::l::A4').Nodup:=by
  refine aB.mpr ⟨λz=>?_,aB.mpr ⟨λz=>?_,aB.mpr ⟨no l (.inr (.inr rfl)),m2⟩⟩⟩
  ·rcases aE.mp z with z|z
   ·exact na (by rw[z];exact aj)
   ·rcases aE.mp z with z|z
    ·exact na (by rw[z];exact ah _ aj)
    ·exact no a (.inl rfl) z
  ·rcases aE.mp z with z|z
   ·exact nd (by rw[z];exact aj)
   ·exact no dx (.inr (.inl rfl)) z
 have cs:∀b∈a::dx::l::A4',(b=a\/b=dx\/b=l)\/b∈A4':=λb hb=>by
  rcases aE.mp hb with z|hb
  ·exact .inl (.inl z)
  ·rcases aE.mp hb with z|hb
   ·exact .inl (.inr (.inl z))
   ·rcases aE.mp hb with z|hb
    ·exact .inl (.inr (.inr z))
    ·exact .inr hb
 have tp:∀b,b=a\/b=dx\/b=l->b∈a::dx::l::A4:=λb hb=>by
  rcases hb with rfl|rfl|rfl
  ·exact aj
  ·exact ah _ aj
  ·exact ah _ (ah _ aj)
 obtain⟨A',p1,p2,p3⟩:=P.2 F2 H2 _ _ sf (λb hb hn=>hh b hb λz=>hn (up4 b (h3 b z))) T T' λb hb=>by
  rcases cs b hb with z|z
  ·exact .inl (tp b z)
  ·rcases m3 b z with z|z
   ·exact .inl (up4 b z.1)
   ·exact(hy b z).imp (λz=>up4 b (h3 b z)) id
 refine⟨A',p1,p2,λb hb=>?_⟩;rcases p3 b hb with z|z
 ·exact .inl ⟨z.1,λq=>z.2 (up4 b (h3 b q))⟩
 ·rcases cs b z with z|z
  ·exact .inl ⟨(top b z).1,λq=>(top b z).2 (h3 b q)⟩
  ·exact(m3 b z).imp (λz=>⟨P.1 b (up4 b z.1),z.2⟩) id
def sl_ok{σ:Sg}{p:Int}{Q:VK}(hc:ClsF K "Knot" ["word","branches"])(fh:Same F H)(h2:σ[2]? =aa (aa (.ref a)))(h1:σ[1]? =aa (aa (.str w)))(t:TR K F H (.ref a) (mkK w' ks os) A)(hg:gs [.str w',.str w]=aa (.val (.int p)))
  (k:∀F' H',Ex F H F' H'->Q (.int p) H'):tSl K gs σ H Q:=by
 obtain⟨a',dx,C,l,o,vs,A4,e,_,hcl,e1,e2,_⟩:=zfv t;cases e;obtain⟨g1,g2⟩:=hc.h _ hcl;refine⟨_,h2,_,_,_,_,_,rfl,e1,g1,g2 "word" (by decide +kernel),rfl,_,h1,?_⟩;refine⟨F,[.str w',.str w],.val (.int p),fh,.cons (k:=.v) (.str w') (.cons (k:=.v) (.str w) .nil),hg,λv F' H' x r=>?_⟩;cases zaY r;exact k F' H' x
def br_ok{σ:Sg}{Q:VK}(hc:ClsF K "Knot" ["word","branches"])(h2:σ[2]? =aa (aa (.ref a)))(hcl:zcl K "Knot" C)(e1:H a=aa (.ins C dx [("word",.str w),("branches",.ref l)]))(k:Q (.ref l) H):zi3 K (zd1 2) "branches" σ H Q:=by
 obtain⟨g1,g2⟩:=hc.h _ hcl;exact⟨_,h2,_,_,_,_,_,rfl,e1,g1,g2 "branches" (by decide +kernel),rfl,k⟩
def zgv{n:Nat}{x:OT}{r:Bool×OT}(h:zej gs w n x=aa r):∃m w' ks os p,n=m+1/\x=mkK w' ks os/\gs [.str w',.str w]=aa (.val (.int p))/\zf7 (zej gs w m) w w' ks os p=aa r:=by
 cases n with
 |zero=>cases h
 |succ m=>
  obtain⟨k,q1,q⟩:=bind_some h;obtain⟨p,q2,q⟩:=bind_some q;obtain⟨e,q2,q3⟩:=bind_some q2;cases zaE q3;exact⟨m,k.1,k.2.1,k.2.2,p,rfl,knOf_some q1,q2,q⟩
def rs_one{σ:Sg}(fh:Same F H)(h:σ[1]? =aa (aa (.str w))):RS K ⟨λ_=>ab,ab⟩ F H σ ((aG σ.length ab).set 1 (aa (.val (.str w)))):=by
 have key:∀{i:Nat} {e:Ent},((aG σ.length ab).set 1 (aa (.val (.str w))))[i]? =aa (aa e)->i=1/\e=.val (.str w):=fun {i e} q=>by
  rw[bf]at q;split at q
  ·rename_i z;split at q
   ·cases q;exact⟨z.symm,rfl⟩
   ·cases q
  ·rw[dg]at q;split at q <;> cases q
 refine⟨fh,(λ_ _ e=>by cases e),by simp,λi e q=>?_,λa b l ds e hab h1=>?_,λa b e1 e2 v1 v2 ad hab h1 h2 h3 h4 h5=>?_,λw o hw _=>by cases hw⟩
 ·obtain⟨rfl,rfl⟩:=key q;exact⟨_,h,.str w⟩
 ·obtain⟨_,z⟩:=key h1;cases z
 ·obtain⟨_,z⟩:=key h1;subst z;cases h5
def set32{σ:Sg}{x y z:Option V}:((σ.set 2 x).set 3 y).set 2 z=(σ.set 2 z).set 3 y:=by
 rw[List.set_comm _ _ (by decide),iU]
def get1{σ:Sg}{x y:Option V}:((σ.set 2 x).set 3 y)[1]? =σ[1]?:=by
 rw[c7 (by decide),c7 (by decide)]
def get2{σ:Sg}{x y:Option V}(h:3<σ.length):((σ.set 2 x).set 3 y)[2]? =aa x:=by
 rw[c7 (by decide),cQ (by lia)]
def get3{σ:Sg}{x y:Option V}(h:3<σ.length):((σ.set 2 x).set 3 y)[3]? =aa y:=by
 rw[cQ (by rw[eI];exact h)]
def semHang{gi:GM}{tK:TE}(hc:ClsF K "Knot" ["word","branches"])(mk:SemE K tK (zeP "Knot" gi (zaa (zab 1) zad)))(hgi:∀w,gi (.ins "Knot" [] []) [.str w]=aa (.non,mkK w [] [])):SemS K (tHang K gs tK) (fHang gs):=λB F H σ δ out DD s q k=>by
 obtain⟨o,q0,q⟩:=bind_some q;obtain⟨w,q1,q⟩:=bind_some q;have hlen:3<δ.length:=by
  by_cases z:3<δ.length
  ·exact z
  ·rw[if_neg z]at q;cases q
 rw[if_pos hlen]at q;obtain⟨res,q2,q⟩:=map_some q;subst q;rw[<- s.len]at hlen;obtain⟨v,h0,A,t,n,f0⟩:=s.ent 0 _ (zaH q0);obtain⟨v1,h1,r1⟩:=s.ent 1 _ (sAt_some q1);cases zbQ r1;have fin:∀(F2 H2:Hp) (A':List ae),Chg H F F2 H2 A->TR K F2 H2 v res.2 A'->A'.Nodup->(∀b∈A',F2 b=ab/\zfR H A b=ab)->DD.rt (.bl res.1) H2:=λF2 H2 A' ch t' n' f'=>by
  obtain⟨s3,y3⟩:=s.chg (zaH q0) h0 t ch t' n' f';exact k (.bl res.1) _ F2 H2 s3 y3 (.bl res.1)
 obtain⟨m0,w0,ks0,os0,p0,hm0,rfl,g0,st0⟩:=zgv q2;obtain⟨a0,_,_,_,_,_,_,rfl,_⟩:=zfv t;refine⟨_,h0,?_⟩;refine sl_ok hc s.fh (cQ (by lia)) (by rw[c7 (by decide)];exact h1) t g0 λF' H' x0=>?_;refine⟨λm σ' H'=>∃F' a A1 up w' ks os p r,σ'=(σ.set 2 (aa (.ref a))).set 3 (aa (.int p))/\Ex F H F' H'/\TR K F H (.ref a) (mkK w' ks os) A1/\A1.Nodup/\Plug K F H (.ref a0) A (.ref a) A1 up/\zf7 (zej gs w m) w w' ks os p=aa r/\res=(r.1,up r.2),
  ⟨m0,F',a0,A,id,w0,ks0,os0,p0,res,rfl,x0,t,n,.refl,st0,rfl⟩,?_⟩
 rintro m σ' H' ⟨F',a,A1,up,w',ks,os,p,r,rfl,x,t1,n1,P,st,er⟩;obtain⟨a',dx,C,l,o',vs,A4,e,eA,hcl,e1,e2,e3,d,hl,ts⟩:=zfv t1;cases e;subst eA;have gk2:=get2 (σ:=σ) (x:=aa (.ref a)) (y:=aa (.int p)) hlen;have gk3:=get3 (σ:=σ) (x:=aa (.ref a)) (y:=aa (.int p)) hlen;have e1':=x.hh _ _ e1;have e3':=x.hh _ _ e3;have far:∀b∈A,H' b=H b/\F' b=ab:=λb hb=>by
  obtain⟨u,hu,ht⟩:=t.lies b hb;exact⟨(x.hh _ _ hu).trans hu.symm,(x.nw _ _ hu ht).trans (f0 b hb).1⟩
 have rest:(¬ 0<p\/ixI ks p=ab)->(tSeq (tIfS (zf5 (tOp rEq (zd1 3) (tC (.int 0)))) (tRet (tC (.bl false))) tNext) (tSeq (zgZ tK (gSub (zi3 K (zd1 2) "branches") (zd1 3) rSetI)) (tRet (tC (.bl true))))) DD ((σ.set 2 (aa (.ref a))).set 3 (aa (.int p))) H':=λhp=>by
  refine⟨_,gk3,rfl,_,rfl,?_⟩;unfold zf7 at st;by_cases hpos:0<p
  ·rw[if_pos hpos]at st;have hno:=hp.resolve_left (λz=>z hpos);rw[hno]at st;have st':(if ks.length<1000000 then aa (true,mkK w' (ks++[p]) (os++[mkK w [] []]))else ab)=aa r:=st;have hks:ks.length<1000000:=by
    by_cases z:ks.length<1000000
    ·exact z
    ·rw[if_neg z]at st';cases st'
   rw[if_pos hks]at st';cases st';rw[show decide (V.int p=V.int 0)=false from decide_eq_false λz=>by cases z;lia];refine zjx ?_;refine mk _ F' H' _ _ (.obj (mkK w [] [])) _ (rs_one (w:=w) x.fh (get1.trans h1)) ?_ λv3 F3 H3 x3 r3=>?_
   ·have e:zab 1 ((aG ((σ.set 2 (aa (V.ref a))).set 3 (aa (.int p))).length (ab:Option Ent)).set 1 (aa (.val (.str w))))=aa (.val (.str w)):=by
     unfold zab;rw[cQ (by rw[cH,eI,eI];lia)]
    unfold zeP zaa zad;rw[e];show(gi (.ins "Knot" [] []) [.str w]).bind _=_;rw[hgi];rfl
   ·obtain⟨_,An,tn,nn,hn⟩:=r3;have xx:=x.trans x3;refine br_ok hc gk2 hcl (x3.hh _ _ e1') ?_;refine⟨_,gk3,l,o',ks,vs,p,rfl,rfl,x3.hh _ _ e3',d,hl,hks,zgJ hno,λob' d'=>?_⟩;show DD.rt (.bl true) _;obtain⟨na,nz⟩:=aB.mp n1;obtain⟨nd,nz⟩:=aB.mp nz;obtain⟨nl,n4⟩:=aB.mp nz;have hal:a≠l:=λz=>na (by rw[z];exact ah _ aj);have hdl:dx≠l:=λz=>nd (by rw[z];exact aj);have inA:∀b∈a::dx::l::A4,b∈A:=P.1;have hlA:l∈A:=inA l (ah _ (ah _ aj));have old3:∀b∈A,H3 b=H b/\F3 b=ab:=λb hb=>by
     obtain⟨u,hu,ht⟩:=t.lies b hb;exact⟨(xx.hh _ _ hu).trans hu.symm,(xx.nw _ _ hu ht).trans (f0 b hb).1⟩
    have new:∀b∈An,b∉A/\H b=ab/\F3 b=ab:=λb hb=>by
     have hb0:=x.hh.free (hn b hb).2;exact⟨(λz=>by obtain⟨u,hu,_⟩:=t.lies b z;rw[hb0]at hu;cases hu),hb0,(hn b hb).1⟩
    have ln:∀b∈An,b≠l:=λb hb z=>(new b hb).1 (by rw[z];exact hlA);have ts4:TRs K F3 (upd H3 l (knO l ob')) vs os A4:=ts.move xx.ff λb hb=>by
     rw[zai (show b≠l from λz=>nl (by rw[<- z];exact hb))];exact(old3 b (inA b (ah _ (ah _ (ah _ hb))))).1
    have tn4:TR K F3 (upd H3 l (knO l ob')) v3 (mkK w [] []) An:=tn.move (Same.refl _) λb hb=>zai (ln b hb);obtain⟨A5,ts5,rfl⟩:=TRs.add tn4 ts4;have T:=kn_mk (w:=w') (ks:=ks++[p]) (os:=os++[mkK w [] []]) (H:=upd H3 l (knO l ob')) hcl (by rw[zai hal];exact xx.hh _ _ e1) (by rw[zai hdl];exact xx.hh _ _ e2) zaj d' (by rw[am,am,hl];rfl) ts5;have ndis:∀b,b∈An->b∉a::dx::l::A4:=λb hb z=>(new b hb).1 (inA b z);have T':(a::dx::l::(A4++An)).Nodup:=by
     have:((a::dx::l::A4)++An).Nodup:=bJ.mpr ⟨n1,nn,λb hb c hc' z=>ndis c hc' (z ▸ hb)⟩;simpa using this
    have mem:∀b∈a::dx::l::(A4++An),b∈a::dx::l::A4\/b∈An:=λb hb=>by
     have:b∈(a::dx::l::A4)++An:=by simpa using hb
     exact aQ.mp this
    obtain⟨A',p1,p2,p3⟩:=P.2 F3 (upd H3 l (knO l ob')) _ _ xx.ff (λb hb hn'=>by
     rw[zai (show b≠l from λz=>hn' (by rw[z];exact ah _ (ah _ aj)))];exact(old3 b hb).1) T T' λb hb=>(mem b hb).imp id λz=>(new b z).1
    rw[er]at fin;refine fin F3 _ A' ⟨xx.ff,λb u hb=>?_,λb u hb=>?_,λb u hb ht=>xx.nw _ _ (zaP hb).2 ht⟩ p1 p2 λb hb=>?_
    ·rw[zai (show b≠l from λz=>by rw[z,(old3 l hlA).2]at hb;cases hb)];exact xx.fh _ _ hb
    ·obtain⟨z1,z2⟩:=zaP hb;rw[zai (show b≠l from λz=>z1 (by rw[z];exact hlA))];exact xx.hh _ _ z2
    ·rcases p3 b hb with z|z
     ·exact⟨(old3 b z.1).2,zcn z.1⟩
     ·rcases mem b z with z|z
      ·exact⟨(old3 b (inA b z)).2,zcn (inA b z)⟩
      ·exact⟨(new b z).2.2,(zex (new b z).1).trans (new b z).2.1⟩
  ·rw[if_neg hpos]at st;have hz:p=0:=by
    by_cases z:p=0
    ·exact z
    ·rw[if_neg z]at st;cases st
   rw[if_pos hz]at st;subst hz;cases st;refine zj0 ?_;show DD.rt (.bl false) _;obtain⟨A',p1,p2,p3⟩:=P.2 F' H' _ _ x.ff (λb hb _=>(far b hb).1) (t1.ext x).1 n1 λb hb=>.inl hb;rw[er]at fin;refine fin F' H' A' ⟨x.ff,x.fh,λb u hb=>x.hh _ _ (zaP hb).2,λb u hb ht=>x.nw _ _ (zaP hb).2 ht⟩ p1 p2 λb hb=>?_;have:b∈A:=(p3 b hb).elim (·.1) (P.1 b);exact⟨(far b this).2,zcn this⟩
 refine⟨_,gk3,_,_,rfl,rfl,_,rfl,?_⟩;by_cases hpos:0<p
 ·rw[decide_eq_true hpos];refine zj0 ?_;refine⟨_,gk3,br_ok hc gk2 hcl e1' ?_⟩;refine⟨l,o',ks,vs,p,rfl,rfl,e3',d,hl,_,rfl,?_⟩;rw[zgU p hl];cases hix:ixI ks p with
  |none=>exact zjx (rest (.inr hix))
  |some j=>
   have hst:=st;unfold zf7 at hst;rw[if_pos hpos,hix]at hst;obtain⟨y,qy,hst⟩:=bind_some hst;obtain⟨r',qr,hst⟩:=map_some hst;subst hst;obtain⟨v2,A2,hv2,t2,n2,P2⟩:=P.down hcl e1 e2 e3 d hl ts n1 qy;obtain⟨m',w2,ks2,os2,p2,rfl,rfl,g2,st2⟩:=zgv qr;obtain⟨a2,_,_,_,_,_,_,rfl,_⟩:=zfv t2;show if (vs[j]?).isSome=true then _ else _
   rw[hv2];refine zj0 ⟨_,λσ2 H2 z=>⟨m',eT m',z⟩,?_⟩;show zgZ (tOp rIxI (zi3 K (zd1 2) "branches") (zd1 3)) (zdG 2) _ _ H';show tOp rIxI (zi3 K (zd1 2) "branches") (zd1 3) _ H' _;show zi3 K (zd1 2) "branches" _ H' _;refine br_ok hc gk2 hcl e1' ?_;refine⟨_,gk3,l,o',ks,vs,p,.ref a2,rfl,rfl,e3',d,hl,by rw[zgU p hl,hix];exact hv2,?_⟩;show tSl K gs _ H' _;rw[set32];refine sl_ok hc x.fh (get2 hlen) (get1.trans h1) (t2.ext x).1 g2 λF4 H4 x4=>?_;exact⟨F4,a2,A2,_,w2,ks2,os2,p2,r',by rw[iU],x.trans x4,t2,n2,P2,st2,er⟩
 ·rw[decide_eq_false hpos];exact zjx (zjx (rest (.inl hpos)))
def sHang{X:Cx}{y1 y2 y3 y4 y5 y6:Stmt}{eK:Expr}{gi:GM}(hc:ClsF X.K "Knot" ["word","branches"])(hgi:∀w,gi (.ins "Knot" [] []) [.str w]=aa (.non,mkK w [] []))(w1:WS X y1 (zgZ (zd1 0) (zdG 2)))(w2:WS X y2 (zgZ (tSl X.K gs) (zdG 3)))
  (w3:WS X y3 (zjh (tAnd (zf5 (tOp (rI0 λi j=>.bl (decide (j<i))) (zd1 3) (tC (.int 0)))) (zf5 (tOp rInI (zd1 3) (zi3 X.K (zd1 2) "branches")))) (tSeq (zgZ (tOp rIxI (zi3 X.K (zd1 2) "branches") (zd1 3)) (zdG 2)) (zgZ (tSl X.K gs) (zdG 3)))))
  (w4:WS X y4 (tIfS (zf5 (tOp rEq (zd1 3) (tC (.int 0)))) (tRet (tC (.bl false))) tNext)) (w5:∀tK,WE X eK tK->WS X y5 (zgZ tK (gSub (zi3 X.K (zd1 2) "branches") (zd1 3) rSetI))) (w6:WS X y6 (tRet (tC (.bl true)))) (hm:VE X eK (zeP "Knot" gi (zaa (zab 1) zad))) :
  VSs X [y1,y2,y3,y4,y5,y6] (fHang gs):=by
 obtain⟨tK,wK,mK⟩:=hm.h;exact⟨_,sc w1 (sc w2 (sc w3 (sc w4 (sc (w5 tK wK) (s1 w6))))),semHang hc mK hgi⟩
end
end L3

namespace L2
open PySem PySem.Spec PyProof.Rows
section
variable {X:Cx}
end
end L2
namespace L3
open PySem PySem.Spec PyProof.Rows L2
abbrev FK:=En->Option En
def SemN(K:af)(t:TS)(f:FK):Prop:=∀(B:Bd) (F H:Hp) (σ:Sg) (δ δ':En) (DD:Ends),RS K B F H σ δ->f δ=aa δ'->(∀F' H',RS K B F' H' σ δ'->FX B F F'->DD.nx σ H')->t DD σ H
structure VN(X:Cx)(s:Stmt)(f:FK):Prop where
 h:∃t,WS X s t/\SemN X.K t f
structure VB(X:Cx)(e:Expr)(f:FE):Prop where
 h:∃t,WE X e t/\WT X e (zf5 t)/\SemE X.K t f
def VB.v{X:Cx}{e:Expr}{f:FE}(h:VB X e f):VE X e f:=let⟨t,a,_,m⟩:=h.h;⟨t,a,m⟩
def VB.t{X:Cx}{e:Expr}{f:FE}(h:VB X e f):VT X e (tOf f):=let⟨_,_,a,m⟩:=h.h;⟨_,a,SemE.test m⟩
section
variable {K:af}{B:Bd}{F H F1 H1 F' H' H0:Hp}{σ:Sg}{δ:En}{v w:V}{A A' A1 A1':List ae}{a l:ae}{u:HO}{i k:Nat}{x' x1:OT}{vs:List V}{os:List OT}{up:List OT->OT}
end
section
variable {X:Cx}{e ex ep:Expr}{fx fp fe:FE}{fk:FK}{ft:FT}{x:Str}{pos p p2 p3 tpos tpos2:Pos}{body:List Stmt}
end
section
variable {X:Cx}{e:Expr}{fe:FE}{pos p2:Pos}
end
end L3

namespace L3
open PySem PySem.Spec PyProof.Rows L2
section
variable {K:af}{kC:Str->ae}{B:Bd}{F H F' H' F1:Hp}{σ:Sg}{δ:En}{v:V}{o:OT}{A:List ae}{d0 d:D}{g:List D->Option Ent}{Q:VK}{E:XK}
def frzF(fh:Same F H)(fA:∀a∈A,F a=ab):∃F1:Hp,Same F F1/\Same F1 H/\(∀a∈A,F1 a=H a)/\∀a,a∉A->F1 a=F a:=by
 refine⟨λa=>if a∈A then H a else F a,λa u e=>?_,λa u e=>?_,λa ha=>if_pos ha,λa ha=>if_neg ha⟩
 ·show(if a∈A then H a else F a)=aa u;rw[if_neg λha=>by rw[fA a ha]at e;cases e];exact e
 ·have e':(if a∈A then H a else F a)=aa u:=e;split at e'
  ·exact e'
  ·exact fh a u e'
end
section
variable {X:Cx}{e:Expr}{pos apos:Pos}{fe:FE}{m c qual:Str}{ns nsF ps:List Str}{g:List D->Option Ent}{fd:bx}{fm:ae}{st:Stmt}{kk j:Nat}{pl:Sem Bool}{CX:CXT}{E:XK}
end
def Bd.plus(B:Bd)(A:List ae)(H:Hp):Bd:=⟨λa=>if a∈A then H a else B.hp a,B.pin⟩
abbrev FOb:=En->Option (OT×En)
abbrev FObs:=En->Option (List OT×En)
def SemOb(K:af)(t:TE)(f:FOb):Prop:=∀(B:Bd) (F H:Hp) (σ:Sg) (δ:En) (o:OT) (δ':En) (Q:VK),RS K B F H σ δ->f δ=aa (o,δ') ->
 (∀v F' H' A,RS K (B.plus A H') F' H' σ δ'->FX B F F'->TR K F' H' v o A->A.Nodup->(∀a∈A,F' a=ab/\(B:Hp) a=ab)->Q v H')->t σ H Q
def SemObs(K:af)(t:TA)(f:FObs):Prop:=∀(B:Bd) (F H:Hp) (σ:Sg) (δ:En) (os:List OT) (δ':En) (Q:List V->Hp->Prop),RS K B F H σ δ->f δ=aa (os,δ') ->
 (∀vs F' H' A,RS K (B.plus A H') F' H' σ δ'->FX B F F'->TRs K F' H' vs os A->A.Nodup->(∀a∈A,F' a=ab/\(B:Hp) a=ab)->Q vs H')->t σ H Q
structure VOb(X:Cx)(e:Expr)(f:FOb):Prop where
 h:∃t,WE X e t/\SemOb X.K t f
structure VObs(X:Cx)(es:List Expr)(f:FObs):Prop where
 h:∃t,WA X es t/\SemObs X.K t f
section
variable {K:af}{B:Bd}{F H F' H' H0:Hp}{σ:Sg}{δ:En}{v:V}{o:OT}{A A1 A2:List ae}{i:Nat}
def Bd.plus_in{a:ae}(h:a∈A):(B.plus A H).hp a=H a:=if_pos h
def Bd.plus_out{a:ae}(h:a∉A):(B.plus A H).hp a=B.hp a:=if_neg h
def Bd.plus_of(hA:∀a∈A,(B:Hp) a=ab):Same B (B.plus A H):=λa u h=>by
 rw[Bd.plus_out λz=>by rw[hA a z]at h;cases h];exact h
def RS.plus(s:RS K B F H σ δ)(hA:∀a∈A,(B:Hp) a=ab)(hd:∀(i:Nat) (e:Ent) (v:V) (a:ae),δ[i]? =aa (aa e)->σ[i]? =aa (aa v)->Occ K F H v e a->a∉A):RS K (B.plus A H) F H σ δ:=by
 refine⟨s.fh,λa u h=>?_,s.len,λi e h=>?_,s.ap,s.ao,s.pn⟩
 ·by_cases ha:a∈A
  ·rw[Bd.plus_in ha]at h;exact h
  ·rw[Bd.plus_out ha]at h;exact s.bh a u h
 ·obtain⟨v,h1,r⟩:=s.ent i e h;refine⟨v,h1,?_⟩;cases e with
  |own ds=>obtain⟨l,vs,e,p3,p4,p5,p6⟩:=r;exact⟨l,vs,e,p3,p4,p5,(Bd.plus_out (hd i _ v l h h1 e)).trans p6⟩
  |bor ds=>obtain⟨l,vs,e,p3,p4⟩:=r;exact⟨l,vs,e,(Bd.plus_of hA).seq p3,p4⟩
  |bt ds=>obtain⟨l,vs,e,p3,p4⟩:=r;exact⟨l,vs,e,(Bd.plus_of hA).seqT p3,p4⟩
  |obj p=>obtain⟨A',t,n,f⟩:=r;exact⟨A',t,n,λa ha=>⟨(f a ha).1,(Bd.plus_out (hd i _ v a h h1 ⟨A',t,ha⟩)).trans (f a ha).2⟩⟩
  | _=>exact r
end
section
variable {X:Cx}{e:Expr}{es:List Expr}{fe:FE}{fx:FXE}{fo:FOb}{fs:FObs}{pos pos':Pos}{x:Str}
end
end L3

namespace L3
open PySem PySem.Spec PyProof.Rows L2
abbrev GKC:=(Str->ae)->List D->Option Ent
abbrev FL:=En->Option (List (D ⊕ OT))
inductive LA(K:af)(F H:Hp):List Kd->List V->List (D ⊕ OT)->List ae->Prop
 |nil:LA K F H [] [] [] []
 |arg {k:Kd} {v:V} {d:D} {ks:List Kd} {vs:List V} {rs:List (D ⊕ OT)} {A:List ae}:ArgOk K F H v k d->LA K F H ks vs rs A->LA K F H (k::ks) (v::vs) (.inl d::rs) A
 |obj {v:V} {o:OT} {ks:List Kd} {vs:List V} {rs:List (D ⊕ OT)} {A1 A:List ae}:TR K F H v o A1->(∀a∈A1,F a=ab)->LA K F H ks vs rs A->LA K F H (.v::ks) (v::vs) (.inr o::rs) (A1++A)
def toDL(kC:Str->ae):List (D ⊕ OT)->Option (List D)
 |[]=>aa []
 |.inl d::rs=>(toDL kC rs).map λds=>d::ds
 |.inr o::rs=>(toD kC o).bind λd=>(toDL kC rs).map λds=>d::ds
def SemLA(K:af)(ks:List Kd)(t:TA)(f:FL):Prop:=∀(B:Bd) (F H:Hp) (σ:Sg) (δ:En) (rs:List (D ⊕ OT)) (Q:List V->Hp->Prop),RS K B F H σ δ->f δ=aa rs->(∀vs F' H' A,Ex F H F' H'->LA K F' H' ks vs rs A->Q vs H')->t σ H Q
structure VLA(X:Cx)(ks:List Kd)(es:List Expr)(f:FL):Prop where
 h:∃t,WA X es t/\SemLA X.K ks t f
def lNil:FL:=λ_=>aa []
def lVal(fe:FE)(fl:FL):FL:=λδ=>((fe δ).bind asV).bind λd=>(fl δ).map λrs=>.inl d::rs
def LdIs(g:GKC)(rs:List (D ⊕ OT))(d:D):Prop:=plD d=true/\∀kC,∃ds,toDL kC rs=aa ds/\g kC ds=aa (.val d)
open Classical in
noncomputable def ldV(g:GKC)(rs:List (D ⊕ OT)):Option Ent:=if h:∃d,LdIs g rs d then aa (.val h.choose)else ab
noncomputable def eLdM(i:Nat)(c:Str)(ns:List Str)(g:GKC)(fl:FL):FE:=λδ=>((oAt i δ).bind (isC c ns)).bind λl=>(fl δ).bind λrs=>ldV g (.inr (.ins c ns l)::rs)
def ldV_eq{g:GKC}{rs:List (D ⊕ OT)}{d:D}(h:LdIs g rs d):ldV g rs=aa (.val d):=by
 have hx:∃d,LdIs g rs d:=⟨d,h⟩
 unfold ldV;rw[dif_pos hx];obtain⟨ds,q1,q2⟩:=hx.choose_spec.2 λ_=>0;obtain⟨ds',q3,q4⟩:=h.2 λ_=>0;rw[q1]at q3;cases q3;exact q2.symm.trans q4
def ldV_some{g:GKC}{rs:List (D ⊕ OT)}{e:Ent}(h:ldV g rs=aa e):∃d,e=.val d/\LdIs g rs d:=by
 unfold ldV at h;split at h
 ·rename_i hx;cases h;exact⟨_,rfl,hx.choose_spec⟩
 ·cases h
section
variable {K:af}{kC:Str->ae}{F H F' H' F1:Hp}{vs:List V}{rs:List (D ⊕ OT)}{A:List ae}{d:D}{g:GKC}{Q:VK}{E:XK}{ks:List Kd}
def Rd.hh{a:ae}{u:HO}(s:Same H H')(r:Rd H a u):Rd H' a u:=r.imp (s _ _) λ⟨o,e⟩=>⟨o,s _ _ e⟩
def ArgOk.ext{v:V}{k:Kd}(x:Ex F H F' H')(h:ArgOk K F H v k d):ArgOk K F' H' v k d:=by
 cases k with
 |v=>exact Rep.mono x.ff h
 |b=>cases d <;> first|exact h.elim|(obtain⟨l,vs,e,h1,h2⟩:=h;exact⟨l,vs,e,h1.imp (Rd.hh x.hh) id,h2.mono x.ff⟩)
 |t=>cases d <;> first|exact h.elim|(obtain⟨l,vs,e,h1,h2⟩:=h;exact⟨l,vs,e,h1.imp (Rd.hh x.hh) id,h2.mono x.ff⟩)
def LA.ext(l:LA K F H ks vs rs A)(x:Ex F H F' H'):LA K F' H' ks vs rs A:=by
 induction l with
 |nil=>exact .nil
 |arg r _ ih=>exact .arg (r.ext x) ih
 |obj t f _ ih=>exact .obj (t.ext x).1 (λa ha=>((t.ext x).2 a ha).trans (f a ha)) ih
def LA.lies(l:LA K F H ks vs rs A):∀a∈A,F a=ab/\∃u,H a=aa u/\isT u=false:=by
 induction l with
 |nil=>intro a ha;cases ha
 |arg _ _ ih=>exact ih
 |obj t f _ ih=>intro a ha;exact(aQ.mp ha).elim (λh=>⟨f a h,t.lies a h⟩) (ih a)
def LA.frz(hK:∀c C,zcl K c C->C=kC c)(s1:Same F F1)(l:LA K F H ks vs rs A):∀{ds:List D},(∀a∈A,F1 a=H a)->toDL kC rs=aa ds->ArgsOk K F1 H ks vs ds:=by
 induction l with
 |nil=>intro ds _ q;cases q;exact .nil
 |arg r _ ih=>
  intro ds h q;obtain⟨ds',q1,rfl⟩:=map_some q;exact .cons (r.mono s1) (ih h q1)
 |obj t _ _ ih=>
  intro ds h q;obtain⟨d,q1,q⟩:=bind_some q;obtain⟨ds',q2,rfl⟩:=map_some q;exact .cons (k:=.v) (t.frz hK s1 (λa ha=>h a (aX _ ha)) q1) (ih (λa ha=>h a (av _ ha)) q2)
def LA.call(hK:∀c C,zcl K c C->C=kC c)(fh:Same F H)(l:LA K F H ks vs rs A)(q:LdIs g rs d)(k:∀x F' H',Ex F H F' H'->Rep F' x d->Q x H'):spD K ks (g kC) vs H Q E:=by
 obtain⟨F1,s1,s2,s3,s4⟩:=frzF fh λa ha=>(l.lies a ha).1;obtain⟨ds,q1,q2⟩:=q.2 kC;refine⟨F1,ds,.val d,s2,l.frz hK s1 s3 q1,q2,λx F' H' xx rx=>?_⟩;have hF:∀a∈A,∃u,F' a=aa u/\isT u=false:=λa ha=>by
  obtain⟨_,u,h1,h2⟩:=l.lies a ha;exact⟨u,((xx.nw a u h1 h2).trans (s3 a ha)).trans h1,h2⟩
 refine k x (zfR F' A) H' ⟨λa u e=>zcd (λha=>by rw[(l.lies a ha).1]at e;cases e) (xx.ff a u (s1 a u e)),λa u e=>xx.fh a u (zaP e).2,xx.hh,λa u e ht=>?_⟩ ((show Rep F' x d from rx).off hF q.1);by_cases ha:a∈A
 ·rw[zcn ha,(l.lies a ha).1]
 ·rw[zex ha,xx.nw a u e ht,s4 a ha]
end
section
variable {X:Cx}{e:Expr}{es:List Expr}{fe:FE}{fl:FL}{x y m c qual:Str}{p p2 pos apos:Pos}{ns nsF ps:List Str}{g:GKC}{fd:bx}{fm:ae}{st:Stmt}{kk j:Nat}{CX:CXT}{E:XK}{ks:List Kd}{pl:Sem Bool}
def vln:VLA X [] [] lNil:=⟨_,wnil,λB F H σ δ rs Q s q k=>by cases q;exact k [] F H [] (Ex.refl s.fh) .nil⟩
def vlv(he:VE X e fe)(hl:VLA X ks es fl)(h:zan e=true:=by rfl):VLA X (.v::ks) (e::es) (lVal fe fl):=by
 obtain⟨t,w,m⟩:=he.h;obtain⟨t2,w2,m2⟩:=hl.h;refine⟨_,wac w w2 h,λB F H σ δ rs Q s q k=>?_⟩;obtain⟨d,q1,q⟩:=bind_some q;obtain⟨r,q1,q2⟩:=bind_some q1;obtain⟨rs',q3,q⟩:=map_some q;subst q;refine m B F H σ δ r _ s q1 λv F1 H1 x1 r1=>?_;obtain⟨F2,x2,_,r2⟩:=RepR.frz x1 (Same.refl _) r1 q2;exact m2 B F2 H1 σ δ rs' _ (s.ext x2) q3 λvs F3 H3 A x3 l=>k _ F3 H3 A (x2.trans x3) (.arg (k:=.v) (Rep.mono x3.ff r2) l)
def LA.meth{C:ae}{kC:Str->ae}{i:Nat}{t:TA}(hK:∀c C,zcl X.K c C->C=kC c)(hcl:zcl X.K c C)(sm:SemLA X.K ks t fl)(hm:m∉ns):SemE X.K (tMeth C m (spD X.K (.v::ks) (g kC)) [] E (zd1 i) t) (eLdM i c ns g fl):=λB F H σ δ res Q s q k=>by
 obtain⟨l,q0,q⟩:=bind_some q;obtain⟨o,q0,q1⟩:=bind_some q0;obtain⟨rs,q2,q⟩:=bind_some q;obtain⟨d,rfl,q3⟩:=ldV_some q;have e0:=zcD q1;subst e0;obtain⟨v,h1,A,t0,n0,f0⟩:=s.ent i _ (zaH q0);have t00:=t0;cases t0 with
 |ins hcl' e1 e2 hl ts=>
  cases zbi hcl hcl';refine⟨_,h1,_,_,_,rfl,e1,zes hm,sm B F H σ δ rs _ s q2 λvs F1 H1 A' x1 la=>?_⟩;rw[aU];have l2:=LA.obj (t00.ext x1).1 (λa ha=>((t00.ext x1).2 a ha).trans (f0 a ha).1) la;exact l2.call (E:=E) hK x1.fh q3 λv F2 H2 x2 r=>k v F2 H2 (x1.trans x2) r
def vldM{C:ae}{kC:Str->ae}(i:Nat)(hK:∀c C,zcl X.K c C->C=kC c)(DC:ClsD X.K X.mg c nsF C)(D:MethD X.K c m st qual ps fm fd)(F:FnOk X.prog X.w X.K X.mg X.base CX kk fm fd ps (spD X.K (.v::ks) (g kC)))(hr:Room j X.A)(hx:zcm CX X E)(hl:VLA X ks (e::es) fl)
  (hm:m∉ns:=by decide +kernel) (hjk:kk<=j:=by decide) (hN:X.N[i]? =aa x:=by rfl) (hv:Vis X.env.scope x:=by first|exact az rfl|exact ba (az rfl)|exact ba (ba rfl)) (hd:(x==("__debug__" : Str))=false:=by decide) (hcd:(x==("__classdict__" : Str))=false:=by decide) (h1:zan e=true:=by rfl) (h2:es.all zan=true:=by rfl)
  (ht:eval (.Call (.Attribute (.Name x p) m apos) (e :: es) [] pos) X.env=(do
   let ov <- eval (.Name x p) X.env
   standAt apos.atName
   let (f,first) <- holding [ov] (getMethod ov m pl)
   callWith pos f first (backTo pos (br (e::es) X.env)) (backToKw pos (keywordEach [] X.env))):=by rfl) :
  VE X (.Call (.Attribute (.Name x p) m apos) (e::es) [] pos) (eLdM i c ns g fl):=
 let⟨_,w,sm⟩:=hl.h;⟨_,⟨pe_meth (wv i hN hv hd hcd).h DC.cl (D.at_ _ DC.at_) F (hr.mono hjk) D.b .nil hx w.h (zaz h1) (zcx h2) ht⟩,LA.meth hK DC.at_ sm hm⟩
end
end L3
namespace L3
open PySem PySem.Spec PyProof.Rows L2
section
variable {X:Cx}{e a:Expr}{es:List Expr}{pos apos:Pos}{fe:FE}{fa:FA}{m c qual:Str}{ns nsF ps:List Str}{ks:List Kd}{g:List D->Option Ent}{fd:bx}{fm:ae}{st:Stmt}{kk j:Nat}{pl:Sem Bool}{CX:CXT}{E:XK}
end
end L3

namespace L3
open PySem L2 PyProof.Rows
structure VXW(X:Cx)(e:Expr)(f:FXT):Prop where
 h:∃t,WW X e t/\SemXT X.K t f
def xTAnd(ft fu:FXT):FXT:=λδ=>(ft δ).bind λp=>if p.1=true then fu p.2 else aa (false,p.2)
def xPT(ft:FT):FXT:=λδ=>(ft δ).map λb=>(b,δ)
section
variable {X:Cx}{a b:Expr}{rest:List Expr}{pos:Pos}{ft fu:FXT}
def txa1(ha:VXT X a ft):VXW X (.BoolOp .And [a] pos) ft:=let⟨_,wa,sa⟩:=ha.h;⟨_,tand1 wa,sa⟩
def txa(ha:VXT X a ft)(hb:VXW X (.BoolOp .And (b::rest) pos) fu):VXW X (.BoolOp .And (a::b::rest) pos) (xTAnd ft fu):=by
 obtain⟨ta,wa,sa⟩:=ha.h;obtain⟨tb,wb,sb⟩:=hb.h;refine⟨_,tand wa wb,λB F H σ δ b δ' Q s q k=>?_⟩;obtain⟨⟨bb,δ1⟩,q1,q⟩:=bind_some q;refine sa B F H σ δ bb δ1 _ s q1 λF1 H1 s1 x1=>?_;cases bb with
 |true=>exact zj0 (sb B F1 H1 σ δ1 b δ' Q s1 q λF' H' s2 x2=>k F' H' s2 (x1.trans x2))
 |false=>cases q;exact zjx (k F1 H1 s1 x1)
def txp{ft:FT}(h:VT X a ft):VXT X a (xPT ft):=by
 obtain⟨t,w,m⟩:=h.h;refine⟨_,w,λB F H σ δ b δ' Q s q k=>?_⟩;obtain⟨bb,q1,q⟩:=map_some q;cases q;exact m B F H σ δ _ _ s q1 λF1 H1 x1=>k F1 H1 (s.ext x1) (.of x1 s.bh)
def txw(h:VXW X a ft):VXT X a ft:=let⟨_,wa,sa⟩:=h.h;⟨_,tw wa,sa⟩
end
end L3

namespace L3
def jqa{α β:Type}(a:α)(f:α->Option β):(aa a).bind f=f a:=rfl
def jqb{α β:Type}(f:α->Option β):(ab:Option α).bind f=ab:=rfl
def jqc{α β:Type}(a:α)(f:α->β):(aa a).map f=aa (f a):=rfl
def jqd{α β:Type}(f:α->β):(ab:Option α).map f=ab:=rfl
def jqe{α:Type}{a:α}{l:List α}:(a::l)[0]? =aa a:=rfl
def jqf{α:Type}{a:α}{l:List α}{i:Nat}:(a::l)[i+1]? =l[i]?:=rfl
def jqg{α:Type}{a b:α}{l:List α}:(a::l).set 0 b=b::l:=rfl
def jqh{α:Type}{a b:α}{l:List α}{i:Nat}:(a::l).set (i+1) b=a::l.set i b:=rfl
def jqi{α:Type}{a:α}{l m:List α}:(a::l)++m=a::(l++m):=rfl
def jqj{α:Type}(l:List α):[]++l=l:=rfl
def jqk{α:Type}(l:List α):l++[]=l:=aU l
def jql{α:Type}{a:α}{n:Nat}:aG (n+1) a=a::aG n a:=rfl
def jqm{α:Type}{a:α}:aG 0 a=[]:=rfl
def jqn{α β:Type}{f:α->β}{a:α}{l:List α}:(a::l).map f=f a::l.map f:=rfl
def jqo{α β:Type}{f:α->β}:([]:List α).map f=[]:=rfl
def jqp{α:Type}{a:α}{l:List α}:(a::l).length=l.length+1:=rfl
def jqq{α:Type}:([]:List α).length=0:=rfl
def jqr:(false=true)=False:=cY
def jqs{p:Prop}{_:Decidable p}:(decide p=true)=p:=decide_eq_true_eq
def jqt:(!true)=false:=rfl
def jqu:(!false)=true:=rfl
def jqv:(true=false)=False:=Bool.true_eq_false
def jqw:(¬ False)=True:=not_false_eq_true
def jqx{α:Type}(a:Option α):(aa a).join=a:=rfl
def jqy{h:Decidable True}:decide True=true:=decide_true h
def jqz{h:Decidable False}:decide False=false:=decide_false h
def jra{α:Type}{_:Decidable True}(a b:α):(if True then a else b)=a:=if_true a b
def jrb{α:Type}{_:Decidable False}(a b:α):(if False then a else b)=b:=if_false a b
def jrc(p:Prop):(p\/True)=True:=or_true p
def jrd(p:Prop):(True\/p)=True:=true_or p
def jre(p:Prop):(p/\True)=p:=and_true p
end L3

namespace CE
open PySem L2 L3
def oD:Option Int->D
 |none=>.non
 |some i=>.int i
def oD_s(i:Int):oD (aa i)=.int i:=rfl
def oD_n:oD ab=.non:=rfl
def stp(c:Option Int)(p:Int):Option Int:=if p=0 then ab else c.map (· + p)
def lw(cs:List (Option Int)):Option Int:=minI (cs.filterMap id)
def tc(fit:Nat->Nat->Bool)(c:Nat->Nat->Option Int)(i j:Nat):Option Int:=if 0<i/\0<j then (if (fit i (j-1)&&fit (i-1) j)=true then c (i-1) (j-1)else ab)else ab
structure Pr where
 put:Int
 left:Int
 exch:Int
 turn:Int
def Pr.d(p:Pr):D:=.tup [.int p.put,.int p.left,.int p.exch,.int p.turn]
variable (fit:Nat->Nat->Bool)(p:Pr)(fr:Bool)
def cel:Nat->Nat->Option Int
 |0,0=>aa 0
 |0,j+1=>if fr=true then aa 0 else stp (cel 0 j) p.put
 |i+1,0=>stp (cel i 0) p.left
 | i+1,j+1=>lw [if fit i j=true then cel i j else stp (cel i j) p.exch,stp (cel (i+1) j) p.put,stp (cel i (j+1)) p.left,
   stp (if 0<i/\0<j then (if (fit i (j-1)&&fit (i-1) j)=true then cel (i-1) (j-1)else ab)else ab) p.turn]
termination_by i j=>(i,j)
def zgo:cel fit p fr 0 0=aa 0:=by rw[cel]
def zie(j:Nat):cel fit p fr 0 (j+1)=if fr=true then aa 0 else stp (cel fit p fr 0 j) p.put:=by rw[cel]
def zi8(i:Nat):cel fit p fr (i+1) 0=stp (cel fit p fr i 0) p.left:=by rw[cel]
def ze9(i j:Nat):cel fit p fr (i+1) (j+1)=lw [if fit i j=true then cel fit p fr i j else stp (cel fit p fr i j) p.exch,stp (cel fit p fr (i+1) j) p.put,stp (cel fit p fr i (j+1)) p.left,stp (tc fit (cel fit p fr) i j) p.turn]:=by
 rw[cel];rfl
end CE
namespace L3
open PySem L2
def zbO(P:List Str)(T:List Nat)(i j:Nat):Bool:=inS (mkS [T.getD j 0]) (P.getD i (mkS []))
end L3
namespace CE
open PySem L2 L3
def minI_mem:∀{ns:List Int} {m:Int},minI ns=aa m->m∈ns
 |[],m,h=>by cases h
 |n::ns,m,h=>by
  have h':ns.foldl (λa b=>if b<a then b else a) n=m:=aJ h;have key:∀(ns:List Int) (n:Int),ns.foldl (λa b=>if b<a then b else a) n=n\/ns.foldl (λa b=>if b<a then b else a) n∈ns:=by
   intro ns
   induction ns with
   |nil=>intro n;left;rfl
   |cons b ns ih=>
    intro n;rw[db];rcases ih (if b<n then b else n)with q|q
    ·rw[q];split
     ·right;exact aj
     ·left;rfl
    ·right;exact ah _ q
  rcases key ns n with q|q
  ·rw[<- h',q];exact aj
  ·rw[<- h'];exact ah _ q
def minI_le:∀{ns:List Int} {c:Int},c∈ns->∃m,minI ns=aa m/\m<=c
 |[],c,h=>by cases h
 |n::ns,c,h=>by
  refine⟨_,rfl,?_⟩;have key:∀(ns:List Int) (n:Int),ns.foldl (λa b=>if b<a then b else a) n<=n/\∀c∈ns,ns.foldl (λa b=>if b<a then b else a) n<=c:=by
   intro ns
   induction ns with
   |nil=>intro n;exact⟨dX _,by simp⟩
   |cons b ns ih=>
    intro n;rw[db];obtain⟨h1,h2⟩:=ih (if b<n then b else n);have h3:(if b<n then b else n)<=n/\(if b<n then b else n)<=b:=by split <;> lia
    refine⟨by lia,λc hc=>?_⟩;rcases aE.mp hc with rfl|hc
    ·lia
    ·exact h2 c hc
  rcases aE.mp h with rfl|h
  ·exact(key ns _).1
  ·exact(key ns n).2 c h
def lw_mem{cs:List (Option Int)}{m:Int}(h:lw cs=aa m):aa m∈cs:=by
 have:=minI_mem h;obtain⟨x,h1,h2⟩:=eL.mp this;have:x=aa m:=h2;rw[<- this];exact h1
def zkp{cs:List (Option Int)}{c:Int}(h:aa c∈cs):∃m,lw cs=aa m/\m<=c:=minI_le (eL.mpr ⟨aa c,h,rfl⟩)
def zd4{c:Option Int}{q m:Int}(h:stp c q=aa m):q≠0/\∃a,c=aa a/\m=a+q:=by
 unfold stp at h;split at h
 ·cases h
 ·rename_i hq;cases c with
  |none=>cases h
  |some a=>exact⟨hq,a,rfl,(aJ h).symm⟩
def zgk{a q:Int}(hq:q≠0):stp (aa a) q=aa (a+q):=by unfold stp;rw[if_neg hq];rfl
inductive Ld(fit:Nat->Nat->Bool)(p:Pr)(fr:Bool):Nat->Nat->Int->Prop
 |nil:Ld fit p fr 0 0 0
 |free {j:Nat}:fr=true->Ld fit p fr 0 j 0
 |same {i j:Nat} {c:Int}:Ld fit p fr i j c->fit i j=true->Ld fit p fr (i+1) (j+1) c
 |exch {i j:Nat} {c:Int}:Ld fit p fr i j c->fit i j=false->p.exch≠0->Ld fit p fr (i+1) (j+1) (c+p.exch)
 |put {i j:Nat} {c:Int}:Ld fit p fr i j c->p.put≠0->Ld fit p fr i (j+1) (c+p.put)
 |left {i j:Nat} {c:Int}:Ld fit p fr i j c->p.left≠0->Ld fit p fr (i+1) j (c+p.left)
 |turn {i j:Nat} {c:Int}:Ld fit p fr i j c->fit (i+1) j=true->fit i (j+1)=true->p.turn≠0->Ld fit p fr (i+2) (j+2) (c+p.turn)
structure Pr.Ok(p:Pr):Prop where
 put:0<=p.put
 left:0<=p.left
 exch:0<=p.exch
 turn:0<=p.turn
variable {fit:Nat->Nat->Bool}{p:Pr}{fr:Bool}
def Ld.nonneg(hp:p.Ok){i j:Nat}{c:Int}(h:Ld fit p fr i j c):0<=c:=by
 have:=hp.put;have:=hp.left;have:=hp.exch;have:=hp.turn
 induction h <;> lia
def cel_ld:∀(n i j:Nat),i+j=n->∀m,cel fit p fr i j=aa m->Ld fit p fr i j m:=by
 intro n
 induction n using jq with
 | _ n ih=>
  intro i j hn m h;cases i with
  |zero=>
   cases j with
   |zero=>rw[zgo]at h;cases h;exact .nil
   |succ j=>
    rw[zie]at h;split at h
    ·rename_i hf;cases h;exact .free hf
    ·obtain⟨hq,a,e1,rfl⟩:=zd4 h;exact .put (ih j (by lia) 0 j (by lia) a e1) hq
  |succ i=>
   cases j with
   |zero=>
    rw[zi8]at h;obtain⟨hq,a,e1,rfl⟩:=zd4 h;exact .left (ih i (by lia) i 0 (by lia) a e1) hq
   |succ j=>
    rw[ze9]at h;have hm:=lw_mem h;simp only[aE,dE,or_false]at hm;rcases hm with hm|hm|hm|hm
    ·by_cases hf:fit i j=true
     ·rw[if_pos hf]at hm;exact .same (ih (i+j) (by lia) i j rfl m hm.symm) hf
     ·rw[if_neg hf]at hm;obtain⟨hq,a,e1,rfl⟩:=zd4 hm.symm;exact .exch (ih (i+j) (by lia) i j rfl a e1) (by simpa using hf) hq
    ·obtain⟨hq,a,e1,rfl⟩:=zd4 hm.symm;exact .put (ih (i+1+j) (by lia) (i+1) j rfl a e1) hq
    ·obtain⟨hq,a,e1,rfl⟩:=zd4 hm.symm;exact .left (ih (i+(j+1)) (by lia) i (j+1) rfl a e1) hq
    ·obtain⟨hq,a,e1,rfl⟩:=zd4 hm.symm;unfold tc at e1;split at e1
     ·rename_i hij;split at e1
      ·rename_i hf;rw[d9]at hf;obtain⟨i',rfl⟩:∃i',i=i'+1:=⟨i-1,by lia⟩;obtain⟨j',rfl⟩:∃j',j=j'+1:=⟨j-1,by lia⟩;simp only[dN]at e1 hf;exact .turn (ih (i'+j') (by lia) i' j' rfl a e1) hf.1 hf.2 hq
      ·cases e1
     ·cases e1
def zeK(hp:p.Ok){i j:Nat}{c:Int}(h:Ld fit p fr i j c):∃m,cel fit p fr i j=aa m/\m<=c:=by
 have q1:=hp.put;have q2:=hp.left;have q3:=hp.exch;have q4:=hp.turn
 induction h with
 |nil=>exact⟨0,zgo ..,dX _⟩
 |@free j hf=>
  cases j with
  |zero=>exact⟨0,zgo ..,dX _⟩
  |succ j=>exact⟨0,by rw[zie,if_pos hf],dX _⟩
 |@same i j c h hf ih=>
  obtain⟨m,e,hm⟩:=ih;obtain⟨m',e',hm'⟩:=zkp (cs:=[if fit i j=true then cel fit p fr i j else stp (cel fit p fr i j) p.exch,stp (cel fit p fr (i+1) j) p.put,stp (cel fit p fr i (j+1)) p.left,stp (tc fit (cel fit p fr) i j) p.turn]) (c:=m) (by rw[if_pos hf,e];simp);exact⟨m',by rw[ze9];exact e',by lia⟩
 |@exch i j c h hf hq ih=>
  obtain⟨m,e,hm⟩:=ih;obtain⟨m',e',hm'⟩:=zkp (cs:=[if fit i j=true then cel fit p fr i j else stp (cel fit p fr i j) p.exch,stp (cel fit p fr (i+1) j) p.put,stp (cel fit p fr i (j+1)) p.left,stp (tc fit (cel fit p fr) i j) p.turn]) (c:=m+p.exch) (by rw[if_neg (by rw[hf];decide),e,zgk hq];simp);exact⟨m',by rw[ze9];exact e',by lia⟩
 |@put i j c h hq ih=>
  obtain⟨m,e,hm⟩:=ih;cases i with
  |zero=>
   rw[zie];cases fr with
   |true=>
    have:=Ld.nonneg hp h;exact⟨0,rfl,by lia⟩
   |false=>exact⟨m+p.put,by rw[if_neg (by decide),e,zgk hq],by lia⟩
  |succ i=>
   obtain⟨m',e',hm'⟩:=zkp (cs:=[if fit i j=true then cel fit p fr i j else stp (cel fit p fr i j) p.exch,stp (cel fit p fr (i+1) j) p.put,stp (cel fit p fr i (j+1)) p.left,stp (tc fit (cel fit p fr) i j) p.turn]) (c:=m+p.put) (by rw[e,zgk hq];simp);exact⟨m',by rw[ze9];exact e',by lia⟩
 |@left i j c h hq ih=>
  obtain⟨m,e,hm⟩:=ih;cases j with
  |zero=>exact⟨m+p.left,by rw[zi8,e,zgk hq],by lia⟩
  |succ j=>
   obtain⟨m',e',hm'⟩:=zkp (cs:=[if fit i j=true then cel fit p fr i j else stp (cel fit p fr i j) p.exch,stp (cel fit p fr (i+1) j) p.put,stp (cel fit p fr i (j+1)) p.left,stp (tc fit (cel fit p fr) i j) p.turn]) (c:=m+p.left) (by rw[e,zgk hq];simp);exact⟨m',by rw[ze9];exact e',by lia⟩
 |@turn i j c h hf1 hf2 hq ih=>
  obtain⟨m,e,hm⟩:=ih;have ht:tc fit (cel fit p fr) (i+1) (j+1)=aa m:=by
   unfold tc;rw[if_pos ⟨by lia,by lia⟩,dN,dN,hf1,hf2];exact e
  obtain⟨m',e',hm'⟩:=zkp (cs:=[if fit (i+1) (j+1)=true then cel fit p fr (i+1) (j+1)else stp (cel fit p fr (i+1) (j+1)) p.exch,stp (cel fit p fr (i+1+1) (j+1)) p.put,stp (cel fit p fr (i+1) (j+1+1)) p.left,stp (tc fit (cel fit p fr) (i+1) (j+1)) p.turn]) (c:=m+p.turn) (by rw[ht,zgk hq];simp);exact⟨m',by rw[ze9];exact e',by lia⟩
def zdm(hp:p.Ok){i j:Nat}{m:Int}(h:cel fit p fr i j=aa m):Ld fit p fr i j m/\∀c,Ld fit p fr i j c->m<=c:=
 ⟨cel_ld _ i j rfl m h,λc hc=>by obtain⟨m',e,hm⟩:=zeK hp hc;rw[h]at e;cases e;exact hm⟩
def Ld.swap{fit':Nat->Nat->Bool}{n m:Nat}(hf:∀i j,i<n->j<m->fit' j i=fit i j)(hpl:p.put=p.left){i j:Nat}{c:Int}(h:Ld fit p false i j c):i<=n->j<=m->Ld fit' p false j i c:=by
 induction h with
 |nil=>intro _ _;exact .nil
 |free h=>cases h
 |same h hs ih=>intro h1 h2;exact .same (ih (by lia) (by lia)) (by rw[hf _ _ (by lia) (by lia)];exact hs)
 |exch h hs hq ih=>intro h1 h2;exact .exch (ih (by lia) (by lia)) (by rw[hf _ _ (by lia) (by lia)];exact hs) hq
 |put h hq ih=>intro h1 h2;have:=Ld.left (ih (by lia) (by lia)) (by rw[<- hpl];exact hq);rwa [<- hpl]at this
 |left h hq ih=>intro h1 h2;have:=Ld.put (ih (by lia) (by lia)) (by rw[hpl];exact hq);rwa [hpl]at this
 |turn h hs1 hs2 hq ih=>intro h1 h2;exact .turn (ih (by lia) (by lia)) (by rw[hf _ _ (by lia) (by lia)];exact hs2) (by rw[hf _ _ (by lia) (by lia)];exact hs1) hq
def Ld.zero(hp:p.Ok){i j:Nat}{c:Int}(h:Ld fit p false i j c):c=0->i=j/\∀a,a<i->fit a a=true:=by
 have q1:=hp.put;have q2:=hp.left;have q3:=hp.exch;have q4:=hp.turn
 induction h with
 |nil=>intro _;exact⟨rfl,λa h=>by lia⟩
 |free h=>cases h
 |@same i j c h hs ih=>
  intro e;obtain⟨e1,e2⟩:=ih e;subst e1;refine⟨rfl,λa ha=>?_⟩;by_cases ha':a<i
  ·exact e2 a ha'
  ·rw[show a=i by lia];exact hs
 |exch h hs hq ih=>intro e;have:=Ld.nonneg hp h;lia
 |put h hq ih=>intro e;have:=Ld.nonneg hp h;lia
 |left h hq ih=>intro e;have:=Ld.nonneg hp h;lia
 |turn h _ _ hq ih=>intro e;have:=Ld.nonneg hp h;lia
def Ld.diag:∀(n:Nat),(∀a,a<n->fit a a=true)->Ld fit p fr n n 0
 |0,_=>.nil
 |n+1,h=>.same (Ld.diag n λa ha=>h a (by lia)) (h n (by lia))
end CE
namespace CE
open PySem L2 L3
def inS_one(c:Nat)(z:Str):inS (mkS [c]) z=decide (c∈z.cps.toList):=StrLaws.found_one z c
def wP(w:List Nat):List Str:=w.map λc=>mkS [c]
def zec(w:List Nat):(wP w).length=w.length:=by simp[wP]
def zga{w t:List Nat}{i j:Nat}(hi:i<w.length)(hj:j<t.length):zbO (wP w) t i j=decide (t[j]=w[i]):=by
 unfold zbO wP;have e1:(w.map λc=>mkS [c]).getD i (mkS [])=mkS [w[i]]:=by simp[hi]
 have e2:t.getD j 0=t[j]:=by simp[hj]
 rw[e1,e2,inS_one,zcf];simp
def fit_swap(w t:List Nat):∀i j,i<w.length->j<t.length->zbO (wP t) w j i=zbO (wP w) t i j:=λi j hi hj=>by
 rw[zga hi hj,zga hj hi];simp[eq_comm]
def diag_eq{w t:List Nat}(h:w.length=t.length)(hf:∀a,a<w.length->zbO (wP w) t a a=true):w=t:=by
 apply gq h;intro i h1 h2;have:=hf i h1;rw[zga h1 h2]at this;exact(of_decide_eq_true this).symm
def diag_self(w:List Nat):∀a,a<w.length->zbO (wP w) w a a=true:=λa ha=>by
 rw[zga ha ha];simp
def wd(p:Pr)(w t:List Nat):Option Int:=cel (zbO (wP w) t) p false w.length t.length
def wd_self{p:Pr}(hp:p.Ok)(w:List Nat):wd p w w=aa 0:=by
 obtain⟨m,e,hm⟩:=zeK hp (Ld.diag (fit:=zbO (wP w) w) (p:=p) (fr:=false) w.length (diag_self w));have:=Ld.nonneg hp (zdm hp e).1;unfold wd;rw[e,show m=0 by lia]
def wd_swap{p:Pr}(hp:p.Ok)(hpl:p.put=p.left)(w t:List Nat):wd p t w=wd p w t:=by
 have key:∀(w t:List Nat) (m:Int),wd p w t=aa m->∃m',wd p t w=aa m'/\m'<=m:=λw t m h=>by
  have h1:=(zdm hp h).1;exact zeK hp (h1.swap (fit':=zbO (wP t) w) (n:=w.length) (m:=t.length) (fit_swap w t) hpl (ak _) (ak _))
 cases h1:wd p w t with
 |none=>
  cases h2:wd p t w with
  |none=>rfl
  |some m=>obtain⟨m',e,_⟩:=key t w m h2;rw[h1]at e;cases e
 |some m=>
  obtain⟨m',e,hm⟩:=key w t m h1;obtain⟨m'',e',hm'⟩:=key t w m' e;rw[h1]at e';cases e';rw[e,show m'=m by lia]
def wd_zero{p:Pr}(hp:p.Ok){w t:List Nat}(h:wd p w t=aa 0):w=t:=by
 obtain⟨e,hf⟩:=((zdm hp h).1).zero hp rfl;exact diag_eq e hf
def wd_nonneg{p:Pr}(hp:p.Ok){w t:List Nat}{m:Int}(h:wd p w t=aa m):0<=m:=Ld.nonneg hp (zdm hp h).1
end CE
namespace CE
open PySem L2 L3
def Ld.comp{f1 f2 f3:Nat->Nat->Bool}{p:Pr}{n m l:Nat}(hp:p.Ok)(h0:p.turn=0)(hf:∀i j k,i<n->j<m->k<l->f1 i j=true->f2 j k=true->f3 i k=true) :
  ∀(s i j k:Nat) (c1 c2:Int),i+j+k=s->i<=n->j<=m->k<=l->Ld f1 p false i j c1->Ld f2 p false j k c2->∃c,Ld f3 p false i k c/\c<=c1+c2:=by
 have q1:=hp.put;have q2:=hp.left;have q3:=hp.exch;intro s
 induction s using jq with
 | _ s ih=>
  intro i j k c1 c2 hs hi hj hk h1 h2;have step:∀{i j k:Nat} {c1 c2:Int},i+1<=n->j+1<=m->k+1<=l->i+1+(j+1)+(k+1)=s->Ld f1 p false i j c1->Ld f2 p false j k c2->p.exch≠0->∃c,Ld f3 p false (i+1) (k+1) c/\c<=c1+c2+p.exch:=fun {i j k c1 c2} hi hj hk hs h1 h2 hq=>by
   obtain⟨c,h,hc⟩:=ih (i+j+k) (by lia) i j k c1 c2 rfl (by lia) (by lia) (by lia) h1 h2;cases hx:f3 i k with
   |true=>exact⟨c,.same h hx,by lia⟩
   |false=>exact⟨_,.exch h hx hq,by lia⟩
  cases h1 with
  |@left i j c h hq=>
   obtain⟨c3,h3,hc⟩:=ih (i+j+k) (by lia) i j k c c2 rfl (by lia) hj hk h h2;exact⟨_,.left h3 hq,by lia⟩
  |turn h _ _ hq=>exact absurd h0 hq
  |free h=>cases h
  |nil=>
   cases h2 with
   |nil=>exact⟨0,.nil,by lia⟩
   |free h=>cases h
   |@put _ k c h hq=>
    obtain⟨c3,h3,hc⟩:=ih (0+0+k) (by lia) 0 0 k 0 c rfl hi hj (by lia) .nil h;exact⟨_,.put h3 hq,by lia⟩
  |@same i j _ h hx=>
   cases h2 with
   |@same _ k c2 h2 hy=>
    obtain⟨c3,h3,hc⟩:=ih (i+j+k) (by lia) i j k c1 c2 rfl (by lia) (by lia) (by lia) h h2;exact⟨c3,.same h3 (hf i j k (by lia) (by lia) (by lia) hx hy),by lia⟩
   |@exch _ k c2 h2 hy hq=>
    obtain⟨c3,h3,hc⟩:=step (by lia) (by lia) (by lia) (by lia) h h2 hq;exact⟨c3,h3,by lia⟩
   |@put _ k c2 h2 hq=>
    obtain⟨c3,h3,hc⟩:=ih (i+1+(j+1)+k) (by lia) (i+1) (j+1) k c1 c2 rfl (by lia) (by lia) (by lia) (.same h hx) h2;exact⟨_,.put h3 hq,by lia⟩
   |@left _ _ c2 h2 hq=>
    obtain⟨c3,h3,hc⟩:=ih (i+j+k) (by lia) i j k c1 c2 rfl (by lia) (by lia) (by lia) h h2;exact⟨_,.left h3 hq,by lia⟩
   |turn h _ _ hq=>exact absurd h0 hq
  |@exch i j c h hx hq1=>
   cases h2 with
   |@same _ k c2 h2 hy=>
    obtain⟨c3,h3,hc⟩:=step (by lia) (by lia) (by lia) (by lia) h h2 hq1;exact⟨c3,h3,by lia⟩
   |@exch _ k c2 h2 hy hq=>
    obtain⟨c3,h3,hc⟩:=step (by lia) (by lia) (by lia) (by lia) h h2 hq;exact⟨c3,h3,by lia⟩
   |@put _ k c2 h2 hq=>
    obtain⟨c3,h3,hc⟩:=ih (i+1+(j+1)+k) (by lia) (i+1) (j+1) k (c+p.exch) c2 rfl (by lia) (by lia) (by lia) (.exch h hx hq1) h2;exact⟨_,.put h3 hq,by lia⟩
   |@left _ _ c2 h2 hq=>
    obtain⟨c3,h3,hc⟩:=ih (i+j+k) (by lia) i j k c c2 rfl (by lia) (by lia) (by lia) h h2;exact⟨_,.left h3 hq,by lia⟩
   |turn h _ _ hq=>exact absurd h0 hq
  |@put i j c h hq1=>
   cases h2 with
   |@same _ k c2 h2 hy=>
    obtain⟨c3,h3,hc⟩:=ih (i+j+k) (by lia) i j k c c2 rfl (by lia) (by lia) (by lia) h h2;exact⟨_,.put h3 hq1,by lia⟩
   |@exch _ k c2 h2 hy hq=>
    obtain⟨c3,h3,hc⟩:=ih (i+j+k) (by lia) i j k c c2 rfl (by lia) (by lia) (by lia) h h2;exact⟨_,.put h3 hq1,by lia⟩
   |@put _ k c2 h2 hq=>
    obtain⟨c3,h3,hc⟩:=ih (i+(j+1)+k) (by lia) i (j+1) k (c+p.put) c2 rfl (by lia) (by lia) (by lia) (.put h hq1) h2;exact⟨_,.put h3 hq,by lia⟩
   |@left _ _ c2 h2 hq=>
    obtain⟨c3,h3,hc⟩:=ih (i+j+k) (by lia) i j k c c2 rfl (by lia) (by lia) (by lia) h h2;exact⟨c3,h3,by lia⟩
   |turn h _ _ hq=>exact absurd h0 hq
def wd_tri{p:Pr}(hp:p.Ok)(h0:p.turn=0){u v w:List Nat}{a b:Int}(h1:wd p u v=aa a)(h2:wd p v w=aa b):∃c,wd p u w=aa c/\c<=a+b:=by
 obtain⟨c,h,hc⟩:=Ld.comp (f3:=zbO (wP u) w) (n:=u.length) (m:=v.length) (l:=w.length) hp h0 (λi j k hi hj hk h1 h2=>by
  rw[zga hi hj]at h1;rw[zga hj hk]at h2;rw[zga hi hk,of_decide_eq_true h2,of_decide_eq_true h1];simp) _ _ _ _ a b rfl (ak _) (ak _) (ak _) (zdm hp h1).1 (zdm hp h2).1
 obtain⟨m,e,hm⟩:=zeK hp h;exact⟨m,e,by lia⟩
end CE
namespace CE
open PySem L2 L3
section
variable (fit:Nat->Nat->Bool)(p:Pr)
inductive St1:Nat->Nat->Nat->Nat->Int->Prop
 |same {i j:Nat}:fit i j=true->St1 i j (i+1) (j+1) 0
 |exch {i j:Nat}:fit i j=false->p.exch≠0->St1 i j (i+1) (j+1) p.exch
 |put {i j:Nat}:p.put≠0->St1 i j i (j+1) p.put
 |left {i j:Nat}:p.left≠0->St1 i j (i+1) j p.left
 |turn {i j:Nat}:fit (i+1) j=true->fit i (j+1)=true->p.turn≠0->St1 i j (i+2) (j+2) p.turn
inductive Sg(a b:Nat):Nat->Nat->Int->Prop
 |nil:Sg a b a b 0
 |snoc {i j i' j':Nat} {c q:Int}:Sg a b i j c->St1 fit p i j i' j' q->Sg a b i' j' (c+q)
end
variable {fit fit':Nat->Nat->Bool}{p:Pr}
def St1.le{i j i' j':Nat}{q:Int}(h:St1 fit p i j i' j' q):i<=i'/\j<=j':=by cases h <;> lia
def Sg.le{a b i j:Nat}{c:Int}(h:Sg fit p a b i j c):a<=i/\b<=j:=by
 induction h with
 |nil=>lia
 |snoc _ s ih=>have:=s.le;lia
def Sg.cons{a b a' b' i j:Nat}{q c:Int}(s:St1 fit p a b a' b' q)(h:Sg fit p a' b' i j c):Sg fit p a b i j (c+q):=by
 induction h with
 |nil=>have:=Sg.snoc (.nil (a:=a) (b:=b)) s;rwa [d6]at this ⊢
 |snoc _ s' ih=>have:=Sg.snoc ih s';rwa [Int.add_right_comm]at this
def Ld.sg{i j:Nat}{c:Int}(h:Ld fit p false i j c):Sg fit p 0 0 i j c:=by
 induction h with
 |nil=>exact .nil
 |free h=>cases h
 |same _ h ih=>have:=Sg.snoc ih (.same h);rwa [fG]at this
 |exch _ h q ih=>exact .snoc ih (.exch h q)
 |put _ q ih=>exact .snoc ih (.put q)
 |left _ q ih=>exact .snoc ih (.left q)
 |turn _ h1 h2 q ih=>exact .snoc ih (.turn h1 h2 q)
def Ld.step{fr:Bool}{i j i' j':Nat}{c q:Int}(h:Ld fit p fr i j c)(s:St1 fit p i j i' j' q):Ld fit p fr i' j' (c+q):=by
 cases s with
 |same e=>rw[fG];exact .same h e
 |exch e q=>exact .exch h e q
 |put q=>exact .put h q
 |left q=>exact .left h q
 |turn e1 e2 q=>exact .turn h e1 e2 q
def Sg.ld{i j:Nat}{c:Int}(h:Sg fit p 0 0 i j c):Ld fit p false i j c:=by
 induction h with
 |nil=>exact .nil
 |snoc _ s ih=>exact ih.step s
def Sg.ldF{b i j:Nat}{c:Int}(h:Sg fit p 0 b i j c):Ld fit p true i j c:=by
 induction h with
 |nil=>exact .free rfl
 |snoc _ s ih=>exact ih.step s
def Ld.sgF{i j:Nat}{c:Int}(h:Ld fit p true i j c):∃b,b<=j/\Sg fit p 0 b i j c:=by
 induction h with
 |nil=>exact⟨0,ak _,.nil⟩
 |@free j _=>exact⟨j,ak _,.nil⟩
 |same _ h ih=>
  obtain⟨b,hb,s⟩:=ih;have:=Sg.snoc s (.same h);rw[fG]at this;exact⟨b,by lia,this⟩
 |exch _ h q ih=>obtain⟨b,hb,s⟩:=ih;exact⟨b,by lia,.snoc s (.exch h q)⟩
 |put _ q ih=>obtain⟨b,hb,s⟩:=ih;exact⟨b,by lia,.snoc s (.put q)⟩
 |left _ q ih=>obtain⟨b,hb,s⟩:=ih;exact⟨b,by lia,.snoc s (.left q)⟩
 |turn _ h1 h2 q ih=>obtain⟨b,hb,s⟩:=ih;exact⟨b,by lia,.snoc s (.turn h1 h2 q)⟩
def St1.shift{b0 m l i j i' j':Nat}{q:Int}(hf:∀x y,x<m->y<l->fit' x y=fit x (b0+y))(hm:i'<=m)(he:j'<=b0+l)(hb:b0<=j)(h:St1 fit p i j i' j' q):St1 fit' p i (j-b0) i' (j'-b0) q:=by
 cases h with
 |same h=>
  rw[show j+1-b0=j-b0+1 by lia];exact .same (by rw[hf _ _ (by lia) (by lia),show b0+(j-b0)=j by lia];exact h)
 |exch h q=>
  rw[show j+1-b0=j-b0+1 by lia];exact .exch (by rw[hf _ _ (by lia) (by lia),show b0+(j-b0)=j by lia];exact h) q
 |put q=>rw[show j+1-b0=j-b0+1 by lia];exact .put q
 |left q=>exact .left q
 |turn h1 h2 q=>
  rw[show j+2-b0=j-b0+2 by lia];refine .turn ?_ ?_ q
  ·rw[hf _ _ (by lia) (by lia),show b0+(j-b0)=j by lia];exact h1
  ·rw[hf _ _ (by lia) (by lia),show b0+(j-b0+1)=j+1 by lia];exact h2
def Sg.shift{b0 m l a b i j:Nat}{c:Int}(hf:∀x y,x<m->y<l->fit' x y=fit x (b0+y))(h:Sg fit p a b i j c):i<=m->j<=b0+l->b0<=b->Sg fit' p a (b-b0) i (j-b0) c:=by
 induction h with
 |nil=>intro _ _ _;exact .nil
 |snoc g s ih=>
  intro hm he hb;have:=s.le;have:=g.le;exact .snoc (ih (by lia) (by lia) hb) (s.shift hf hm he (by lia))
def St1.back{b0 m l i j i' j':Nat}{q:Int}(hf:∀x y,x<m->y<l->fit' x y=fit x (b0+y))(hm:i'<=m)(he:j'<=l)(h:St1 fit' p i j i' j' q):St1 fit p i (b0+j) i' (b0+j') q:=by
 cases h with
 |same h=>exact .same (by rw[<- hf _ _ (by lia) (by lia)];exact h)
 |exch h q=>exact .exch (by rw[<- hf _ _ (by lia) (by lia)];exact h) q
 |put q=>exact .put q
 |left q=>exact .left q
 |turn h1 h2 q=>exact .turn (by rw[<- hf _ _ (by lia) (by lia)];exact h1) (by rw[jM,<- hf _ _ (by lia) (by lia)];exact h2) q
def Sg.back{b0 m l a b i j:Nat}{c:Int}(hf:∀x y,x<m->y<l->fit' x y=fit x (b0+y))(h:Sg fit' p a b i j c):i<=m->j<=l->Sg fit p a (b0+b) i (b0+j) c:=by
 induction h with
 |nil=>intro _ _;exact .nil
 |snoc _ s ih=>
  intro hm he;have:=s.le;exact .snoc (ih (by lia) (by lia)) (s.back hf hm he)
end CE
namespace CE
open PySem L2 L3
def pl:Pr:=⟨1,1,1,0⟩
def ziX:pl.Ok:=⟨by decide,by decide,by decide,by decide⟩
section
variable {fit:Nat->Nat->Bool}
def St1.pl{i j i' j':Nat}{q:Int}(h:St1 fit pl i j i' j' q):(i'=i+1/\j'=j+1/\q=0/\fit i j=true)\/(q=1/\((i'=i+1/\j'=j+1)\/(i'=i/\j'=j+1)\/(i'=i+1/\j'=j))):=by
 cases h with
 |same h=>exact .inl ⟨rfl,rfl,rfl,h⟩
 |exch _ _=>exact .inr ⟨rfl,.inl ⟨rfl,rfl⟩⟩
 |put _=>exact .inr ⟨rfl,.inr (.inl ⟨rfl,rfl⟩)⟩
 |left _=>exact .inr ⟨rfl,.inr (.inr ⟨rfl,rfl⟩)⟩
 |turn _ _ h=>exact absurd rfl h
def Sg.dist{a b i j:Nat}{c:Int}(h:Sg fit pl a b i j c):0<=c/\((j:Int)-b)-((i:Int)-a)<=c/\((i:Int)-a)-((j:Int)-b)<=c:=by
 induction h with
 |nil=>lia
 |snoc _ s ih=>rcases s.pl with ⟨rfl,rfl,rfl,_⟩|⟨rfl,⟨rfl,rfl⟩|⟨rfl,rfl⟩|⟨rfl,rfl⟩⟩ <;> lia
def Sg.cut{a b i j:Nat}{c:Int}(h:Sg fit pl a b i j c):∀k,a<=k->k<=i->∃y c1 c2,Sg fit pl a b k y c1/\Sg fit pl k y i j c2/\c=c1+c2:=by
 induction h with
 |nil=>
  intro k h1 h2;have:k=a:=by lia
  subst this;exact⟨b,0,0,.nil,.nil,rfl⟩
 |@snoc i j i' j' c q h s ih=>
  intro k h1 h2;by_cases hk:k<=i
  ·obtain⟨y,c1,c2,e1,e2,e3⟩:=ih k h1 hk;exact⟨y,c1,c2+q,e1,.snoc e2 s,by lia⟩
  ·have hk':k=i':=by rcases s.pl with ⟨rfl,rfl,rfl,_⟩|⟨rfl,⟨rfl,rfl⟩|⟨rfl,rfl⟩|⟨rfl,rfl⟩⟩ <;> lia
   subst hk';exact⟨j',c+q,0,.snoc h s,.nil,by lia⟩
def Sg.whole{a b i j:Nat}{c:Int}(h:Sg fit pl a b i j c):c=0->i-a=j-b/\∀x,a+x<i->fit (a+x) (b+x)=true:=by
 induction h with
 |nil=>intro _;exact⟨by lia,λx hx=>by lia⟩
 |@snoc i j i' j' c q h s ih=>
  intro hc;have hd:=h.dist;have hl:=h.le;rcases s.pl with ⟨rfl,rfl,rfl,hf⟩|⟨rfl,_⟩
  ·obtain⟨e1,e2⟩:=ih (by lia);refine⟨by lia,λx hx=>?_⟩;by_cases hx':a+x<i
   ·exact e2 x hx'
   ·have:x=i-a:=by lia
    subst this;rw[show a+(i-a)=i by lia,show b+(i-a)=j by lia];exact hf
  ·lia
def Sg.part{i j:Nat}{pt:Nat->Nat}(hm:∀r,pt r<=pt (r+1)):∀(n:Nat) {b:Nat} {c:Int} (r0:Nat),Sg fit pl (pt r0) b i j c->c<n->pt (r0+n)=i ->
  ∃r y,r0<=r/\r<r0+n/\(∃c1 c2,Sg fit pl (pt r0) b (pt r) y c1/\Sg fit pl (pt r) y i j c2/\c=c1+c2)/\∀x,pt r+x<pt (r+1)->fit (pt r+x) (y+x)=true/\y+x<j
 |0,b,c,r0,h,hc,_=>by have:=h.dist;lia
 |n+1,b,c,r0,h,hc,he=>by
  have up:∀k s,pt s<=pt (s+k):=λk=>by
   induction k with
   |zero=>intro s;exact ak _
   |succ k ih=>intro s;exact aH (ih s) (hm _)
  have u1:pt (r0+1)<=i:=by have:=up n (r0+1);rw[show r0+1+n=r0+(n+1) by lia,he]at this;exact this
  obtain⟨y,c1,c2,e1,e2,e3⟩:=h.cut (pt (r0+1)) (hm r0) u1;by_cases hz:c1=0
  ·obtain⟨w1,w2⟩:=e1.whole hz;have l1:=e1.le;have l2:=e2.le;refine⟨r0,b,ak _,by lia,⟨0,c,.nil,h,by lia⟩,λx hx=>⟨w2 x hx,by lia⟩⟩
  ·have d1:=e1.dist;obtain⟨r,z,h1,h2,⟨d1,d2,g1,g2,g3⟩,h4⟩:=Sg.part hm n (r0+1) e2 (by lia) (by rw[show r0+1+n=r0+(n+1) by lia];exact he);refine⟨r,z,by lia,by lia,⟨c1+d1,d2,?_,g2,by lia⟩,h4⟩;clear h4 g2 h1 h2 e2 h;have app:∀{a b i j i' j':Nat} {c d:Int},Sg fit pl a b i j c->Sg fit pl i j i' j' d->Sg fit pl a b i' j' (c+d):=by
    intro a b i j i' j' c d p q
    induction q with
    |nil=>rw[fG];exact p
    |snoc _ s ih=>rw[<- Int.add_assoc];exact .snoc ih s
   exact app e1 g1
end
def pcsL(q:Nat)(t:Nat->Nat)(lo hi:Nat):List (List Nat):=(aq (hi-lo+1-q)).map λp=>(aq q).map λx=>t (lo+p+x)
def zf0{q:Nat}{t:Nat->Nat}{lo hi:Nat}(h:lo+q<=hi+1)(hl:lo<=hi):pcsL q t lo (hi+1)=pcsL q t lo hi++[(aq q).map λx=>t (hi+1-q+x)]:=by
 unfold pcsL;rw[show hi+1-lo+1-q=(hi-lo+1-q)+1 by lia,cB,bn];congr 1;rw[iX];congr 1;refine bQ λx _=>?_;rw[show lo+(hi-lo+1-q)=hi+1-q by lia]
def zd5{q:Nat}{t:Nat->Nat}{lo hi:Nat}(hl:lo<=hi)(hq:1<=q):(pcsL q t lo hi).Sublist (pcsL q t lo (hi+1)):=by
 by_cases h:lo+q<=hi+1
 ·rw[zf0 h hl];exact List.sublist_append_left _ _
 ·unfold pcsL;rw[show hi+1-lo+1-q=0 by lia,show hi-lo+1-q=0 by lia];exact .refl _
def Sg.pieces{q lo:Nat}{w t:Nat->Nat}(hq:1<=q){b i j:Nat}{c:Int}(h:Sg (λi j=>decide (t j=w i)) pl 0 b i j c)(hb:lo<=b) :
  ∃(G:List (List Nat)) (r:Nat),G.Sublist (pcsL q w 0 i)/\G.Sublist (pcsL q t lo j)/\r<=i/\b+r<=j/\(∀x,x<r->t (j-1-x)=w (i-1-x))/\(i:Int)-c*q-(min r (q-1):Nat)<=(G.length:Int):=by
 induction h with
 |nil=>exact⟨[],0,jf _,jf _,ak _,ak _,λx hx=>by lia,by simp⟩
 |@snoc i j i' j' c q' h s ih=>
  obtain⟨G,r,g1,g2,r1,r2,r3,g3⟩:=ih;have hl:=h.le;rcases s.pl with ⟨rfl,rfl,rfl,hf⟩|⟨rfl,hs⟩
  ·have hf':t j=w i:=of_decide_eq_true hf;have run:∀x,x<r+1->t (j+1-1-x)=w (i+1-1-x):=λx hx=>by
    cases x with
    |zero=>exact hf'
    |succ x=>rw[show j+1-1-(x+1)=j-1-x by lia,show i+1-1-(x+1)=i-1-x by lia];exact r3 x (by lia)
   rw[fG];by_cases hr:q<=r+1
   ·refine⟨G++[(aq q).map λx=>w (i+1-q+x)],r+1,?_,?_,by lia,by lia,run,?_⟩
    ·rw[zf0 (by lia) (aL _)];exact g1.append (.refl _)
    ·rw[zf0 (by lia) (by lia)];refine g2.append ?_;have:((aq q).map λx=>w (i+1-q+x))=(aq q).map λx=>t (j+1-q+x):=bQ λx hx=>by
      have hx':=bZ.mp hx;have:=run (q-1-x) (by lia);rw[show j+1-1-(q-1-x)=j+1-q+x by lia,show i+1-1-(q-1-x)=i+1-q+x by lia]at this;exact this.symm
     rw[this];exact .refl _
    ·rw[am,cI];have e1:min r (q-1)=q-1:=by lia
     have e2:min (r+1) (q-1)=q-1:=by lia
     rw[e1]at g3;rw[e2];lia
   ·refine⟨G,r+1,g1.trans (zd5 (aL _) hq),g2.trans (zd5 (by lia) hq),by lia,by lia,run,?_⟩;have e1:min r (q-1)=r:=by lia
    have e2:min (r+1) (q-1)=r+1:=by lia
    rw[e1]at g3;rw[e2];lia
  ·have hc:(c+1)*(q:Int)=c*q+q:=by rw[Int.add_mul,Int.one_mul]
   have e0:min 0 (q-1)=0:=by lia
   have e1:min r (q-1)<=q-1:=by lia
   rcases hs with ⟨rfl,rfl⟩|⟨rfl,rfl⟩|⟨rfl,rfl⟩
   ·exact⟨G,0,g1.trans (zd5 (aL _) hq),g2.trans (zd5 (by lia) hq),by lia,by lia,λx hx=>by lia,by rw[hc,e0];lia⟩
   ·exact⟨G,0,g1,g2.trans (zd5 (by lia) hq),by lia,by lia,λx hx=>by lia,by rw[hc,e0];lia⟩
   ·exact⟨G,0,g1.trans (zd5 (aL _) hq),g2,by lia,by lia,λx hx=>by lia,by rw[hc,e0];lia⟩
end CE
namespace L3
open PySem L2
def fSeqR{f g:FS}{δ δ':En}{e:Ent}(h:f δ=aa (.rt e δ')):zar f g δ=aa (.rt e δ'):=by unfold zar;rw[h];rfl
def zfW{fe:FE}{δ:En}{d:D}(h:fe δ=aa (.val d)):zbt fe δ=aa (.rt (.val d) δ):=by unfold zbt;rw[h];rfl
def zaJ{i:Nat}{e:FE}{r:FS}{δ:En}{v:D}(h:e δ=aa (.val v)):zar (za0 i e) r δ=r (δ.set i (aa (.val v))):=by
 simp only[zar,za0,h,aS,sqO,stE,toN,cx]
def fSetI{i:Nat}{e:FE}{δ:En}{v:D}(h:e δ=aa (.val v)):za0 i e δ=aa (.nx (δ.set i (aa (.val v)))):=by unfold za0;rw[h];rfl
def zje{E F:FE}{δ:En}{a b:Int}(h1:E δ=aa (.val (.int a)))(h2:F δ=aa (.val (.int b))):ex2 zaV E F δ=aa (.val (.int (a+b))):=by simp only[ex2,h1,h2,zaV,pI0,iOf,jqa,jqc]
def zj1{E:FE}{δ:En}{z:Str}{n:Nat}(h:E δ=aa (.val (.str z)))(hn:z.length=n)(hl:n<=1000000):eCB zaA (zaa E zad) δ=aa (.val (.int (n:Int))):=by subst hn;simp only[eCB,zaa,h,zad,jqc,jqa,zaA,sOf,hl,zap,zaf]
def forN{it:FI}{tg:FG}{f r:FS}{δ δ':En}{ds:List D}(h:it δ=aa ds)(hl:loop tg f ds δ=aa (.nx δ')):zar (zdK it tg f) r δ=r δ':=zbD (by unfold zdK;rw[h];exact hl)
def zj3{E F:FE}{δ:En}{a b:Int}(h1:E δ=aa (.val (.int a)))(h2:F δ=aa (.val (.int b))):ex2 zee E F δ=aa (.val (.int (a-b))):=by simp only[ex2,h1,h2,zee,pI0,iOf,jqa,jqc]
def fAppI{i:Nat}{e:FE}{δ:En}{ds:List D}{v:D}(h0:δ[i]? =aa (aa (.own ds)))(h:e δ=aa (.val v))(hl:ds.length<1000000):zf6 i e δ=aa (.nx (δ.set i (aa (.own (ds++[v]))))):=by
 unfold zf6;rw[h0,h];simp (disch:=omega) only[jqa,asV,zap,zaf]
def modI{E F:FE}{δ:En}{a b:Int}(h1:E δ=aa (.val (.int a)))(h2:F δ=aa (.val (.int b)))(hb:0<b):ex2 zcL E F δ=aa (.val (.int (a%b))):=by simp (disch:=omega) only[ex2,h1,h2,zcL,pI,iOf,jqa,zaK,zaf]
def divI{E F:FE}{δ:En}{a b:Int}(h1:E δ=aa (.val (.int a)))(h2:F δ=aa (.val (.int b)))(hb:0<b/\b<1000000):ex2 zdL E F δ=aa (.val (.int (a / b))):=by simp (disch:=omega) only[ex2,h1,h2,zdL,pI,iOf,jqa,zck,zaf]
def eqTT{E F:FE}{δ:En}{a b:Int}(h1:E δ=aa (.val (.int a)))(h2:F δ=aa (.val (.int b))):tOf (ex2 gEq E F) δ=aa (decide (a=b)):=by by_cases e:a=b <;> simp only[tOf,ex2,h1,e,h2,gEq,jqa,zb3,jqy,jqc,bOf,jqz]
def ixLB{E F:FE}{δ:En}{ds:List D}{a:Int}{v:D}(h1:E δ=aa (.bor ds))(h2:F δ=aa (.val (.int a)))(h:atI ds a=aa v):ex2 zdJ E F δ=aa (.val v):=by simp only[ex2,h1,h2,zdJ,asL,iOf,jqa,h,jqc]
def orLt{X Y:FE}{δ:En}{a b c:Int}(hX:X δ=aa (.val (.int a)))(hY:Y δ=aa (.val (.int b))):fOr (tOf (ex2 gLt X (eC (.int c)))) (tOf (ex2 gLt Y (eC (.int c)))) δ=aa (decide (a<c\/b<c)):=by
 by_cases c1:a<c
 ·simp only[fOr,tOf,ex2,hX,eC,gLt,pI0,iOf,jqa,jqc,c1,jqy,bOf,jra,jrd]
 ·by_cases c2:b<c <;> simp only[fOr,tOf,ex2,hX,eC,gLt,pI0,iOf,jqa,jqc,c1,jqz,bOf,hY,c2,jqy,jqr,jrb,jrc,or_self]
def orB{X Y:FE}{δ:En}{a b:Bool}(hX:X δ=aa (.val (.bl a)))(hY:Y δ=aa (.val (.bl b))):fOr (tOf X) (tOf Y) δ=aa (a || b):=by
 cases a <;> simp only[fOr,tOf,hX,jqa,bOf,hY,jqr,jrb,Bool.false_or,jra,Bool.true_or]
def zjZ{E F:FE}{δ:En}{ds:List D}{a:Int}{v:D}(h1:E δ=aa (.val (.tup ds)))(h2:F δ=aa (.val (.int a)))(h:atI ds a=aa v):ex2 zen E F δ=aa (.val v):=by simp only[ex2,h1,h2,zen,zdY,iOf,jqa,h,jqc]
def ixSS{E F:FE}{δ:En}{tx:List Nat}{a:Int}{t:Nat}(h1:E δ=aa (.val (.str (mkS tx))))(hl:tx.length<=1000000)(h2:F δ=aa (.val (.int a)))(h:atI tx a=aa t):ex2 zjb E F δ=aa (.val (.str (mkS [t]))):=by simp only[ex2,h1,h2,zjb,sOf,iOf,jqa,zaq,hl,zap,zcf,h,jqc,zaf]
def inSS{E F:FE}{δ:En}{z w:Str}(h1:E δ=aa (.val (.str z)))(h2:F δ=aa (.val (.str w))):ex2 gInS E F δ=aa (.val (.bl (inS z w))):=by simp only[ex2,h1,h2,gInS,sOf,jqa,jqc]
def niSS{E F:FE}{δ:En}{z w:Str}(h1:E δ=aa (.val (.str z)))(h2:F δ=aa (.val (.str w))):ex2 gNiS E F δ=aa (.val (.bl (!inS z w))):=by simp only[ex2,h1,h2,gNiS,sOf,jqa,jqc]
def low4{A B C E:FE}{δ:En}{a b c d:D}{g:List D->Option Ent}(hA:A δ=aa (.val a))(hB:B δ=aa (.val b))(hC:C δ=aa (.val c))(hE:E δ=aa (.val d)):zag [.v] g (zaa (zcW (zaa A (zaa B (zaa C (zaa E zad))))) zad) δ=g [.lst [a,b,c,d]]:=by simp only[zag,zaa,zcW,hA,hB,hC,hE,zad,jqc,jqa,jqp,jqq,Nat.reduceLeDiff,zdF,asV,jra,zat,zbs]
def zf9{X Y:FE}{δ:En}{a b:D}{g:List D->Option Ent}(hX:X δ=aa (.val a))(hY:Y δ=aa (.val b)):zag [.v,.v] g (zaa X (zaa Y zad)) δ=g [a,b]:=by
 unfold zag zaa zad;rw[hX];simp only[aS];rw[hY];rfl
def eIfI{A B C:FE}{δ:En}{q:Bool}{a b:D}(hA:A δ=aa (.val (.bl q)))(hB:B δ=aa (.val a))(hC:C δ=aa (.val b)):eIf (tOf A) B C δ=aa (.val (if q=true then a else b)):=by
 cases q <;> simp only[eIf,tOf,hA,jqa,bOf,hB,hC,jqr,jrb,jra]
def zgg{i:Nat}{e:FE}{δ:En}{ds:List D}(h:e δ=aa (.own ds)):za0 i e δ=aa (.nx (δ.set i (aa (.own ds)))):=by unfold za0;rw[h];rfl
def ixLW{E F:FE}{δ:En}{ds:List D}{a:Int}{v:D}(h1:E δ=aa (.vw ds))(h2:F δ=aa (.val (.int a)))(h:atI ds a=aa v):ex2 zdJ E F δ=aa (.val v):=by simp only[ex2,h1,h2,zdJ,asL,iOf,jqa,h,jqc]
def eLst1{E:FE}{δ:En}{v:D}(h:E δ=aa (.val v)):zcW (zaa E zad) δ=aa (.own [v]):=by unfold zcW zaa zad;rw[h];rfl
end L3

namespace N62
open PySem L2 L3 PyProof.Rows
noncomputable section
def zc8:FE:=
  (ex2 zen (zab 0) (zab 1))
def zdX:FS:=
  (zbt (eCB zdr (zaa (eLC [1] (iB 0) zcT zc8) zad)))
def zdd:List D->Option Ent:=zcr [.b,.v] 0 zdX
def zaO:FS:=
  (zar (fIf (fOr (tOf (ex2 gLt (zab 3) (eC (.int 2)))) (tOf (ex2 gLt (eCB zaA (zaa (zab 2) zad)) (eC (.int 2))))) (zbt (eC .non)) fNx)
   (zar (fIf (fOr (tOf (ex2 gNiS (ex2 zjb (zab 2) (ex1 zeL (eC (.int 2)))) (ex2 zen (zab 1) (ex2 zee (zab 3) (eC (.int 1)))))) (tOf (ex2 gNiS (ex2 zjb (zab 2) (ex1 zeL (eC (.int 1)))) (ex2 zen (zab 1) (ex2 zee (zab 3) (eC (.int 2))))))) (zbt (eC .non)) fNx)
   (zbt (ex2 zen (ex2 zdJ (zab 0) (ex1 zeL (eC (.int 2)))) (ex2 zee (zab 3) (eC (.int 2)))))))
def za5:List D->Option Ent:=zcr [.b,.v,.v,.v] 0 zaO
def zdQ:FS:=
  (zar (fIf (fOr (tOf (ex2 gIsN (zab 0) (eC .non))) (tOf (ex2 gEq (zab 1) (eC (.int 0))))) (zbt (eC .non)) fNx)
   (zbt (ex2 zaV (zab 0) (zab 1))))
def zbw:List D->Option Ent:=zcr [.v,.v] 0 zdQ
def zek:FE:=
  (zab 0)
def zel:FT:=
  (tOf (ex2 gNoN (zab 0) (eC .non)))
def zgT:FS:=
  (zbt (ex2 gMinD (eLC [] (qV (zab 0)) zel zek) (eC .non)))
def zev:List D->Option Ent:=zcr [.v] 0 zgT
def zdc:FS:=
  (zbt (eCB zkn (zaa (zab 0) zad)))
def zaw:List D->Option Ent:=zcr [.v] 0 zdc
def zaU(kC:Str->ae):FE:=
  (ex2 gDxI (ex1 (zeo (kC "Knot") ["word","branches"] 1) (zab 1)) (zab 0))
def zaT(kC:Str->ae):FT:=
  (tOf (ex2 gLe (eCB gAbs (zaa (ex2 zee (zab 0) (zab 3)) zad)) (zab 2)))
def zcN(kC:Str->ae):FS:=
  (zbt (eLC [0,2,1] (iDi (ex1 (zeo (kC "Knot") ["word","branches"] 1) (zab 0))) (zaT kC) (zaU kC)))
def zbh(kC:Str->ae):List D->Option Ent:=zcr [.v,.v,.v] 0 (zcN kC)
def zdn:FE:=
  (zab 0)
def zcu:FT:=
  (tOf (ex2 gEq (eSl zcV (zab 2) (oSo (zab 0)) (oSo (ex2 zaV (zab 0) (eCB zaA (zaa (zab 1) zad))))) (zab 1)))
def zeg:FS:=
  (zbt (eLC [0,1] (iR1 (zaa (ex2 zaV (ex2 zee (eCB zaA (zaa (zab 1) zad)) (eCB zaA (zaa (zab 0) zad))) (eC (.int 1))) zad)) zcu zdn))
def zc7:List D->Option Ent:=zcr [.v,.v] 0 zeg
def zdk:FE:=
  (zd8 (zaa (eCB zh9 (zaa (ex2 zee (ex2 zee (zab 0) (eCB zaA (zaa (zab 2) zad))) (zab 1)) (zaa (eC (.int 0)) zad))) (zaa (zab 0) zad)))
def zfC:FS:=
  (zbt (eLC [1,0] (iR1 (zaa (ex2 zaV (eCB zaA (zaa (zab 2) zad)) (eC (.int 1))) zad)) zcT zdk))
def zfS:List D->Option Ent:=zcr [.v,.v,.v] 0 zfC
def za6:FS:=
  (zar (za0 4 (eSl zcV (zab 0) (oSo (zab 3)) (oSo (ex2 zaV (zab 3) (zab 1)))))
   (fDput 2 (zab 4) (ex2 zaV (eDget 2 (zaa (zab 4) (zaa (eC (.int 0)) zad))) (eC (.int 1)))))
def zbN:FS:=
  (zar (ziN 2 eD0)
   (zar (zdK (iR1 (zaa (ex2 zaV (ex2 zee (eCB zaA (zaa (zab 0) zad)) (zab 1)) (eC (.int 1))) zad)) (gNm 3) za6)
   (fFrzD 2 (zet 2))))
def zaS:List D->Option Ent:=zcr [.v,.v] 3 zbN
def zav:FE:=
  (eCB zh0 (zaa (ex2 gDx (zab 1) (zab 0)) (zaa (eBM gGet (zab 2) (zaa (zab 0) (zaa (eC (.int 0)) zad))) zad)))
def zcZ:FS:=
  (zbt (eCB gSum (zaa (eLC [0,1] (iD (zab 0)) zcT zav) zad)))
def zcc:List D->Option Ent:=zcr [.v,.v] 0 zcZ
def zf1:FS:=
  (fIf (zhg (tOf (ex2 gGt (eCB zbP (zaa (zab 1) zad)) (eC (.int 0)))) (tOf (ex2 gLe (zab 2) (ex2 zen (ex2 zdJ (zab 1) (ex1 zeL (eC (.int 1)))) (eC (.int 1)))))) (fSIx 1 (ex1 zeL (eC (.int 1))) (zd8 (zaa (ex2 zen (ex2 zdJ (zab 1) (ex1 zeL (eC (.int 1)))) (eC (.int 0))) (zaa (eCB zh9 (zaa (ex2 zen (ex2 zdJ (zab 1) (ex1 zeL (eC (.int 1)))) (eC (.int 1))) (zaa (zab 3) zad))) zad)))) (zf6 1 (zd8 (zaa (zab 2) (zaa (zab 3) zad)))))
def zfx:FS:=
  (zar (za0 1 (zcW zad))
   (zar (zdK (iL (eCB gSrtG (zaa (zab 0) zad))) (gTp (zcO (gNm 2) (zcO (gNm 3) zgb))) zf1)
   (zbt (eCB zdr (zaa (zab 1) zad)))))
def zfl:List D->Option Ent:=zcr [.b] 3 zfx
def zcB:FS:=
  (za0 2 (ex2 zcL (ex2 zaV (ex2 zeb (zab 2) (eC (.int 613))) (zab 3)) (eC (.int 2147483629))))
def zdz:FS:=
  (zar (fIf (tOf (ex2 gLt (zab 1) (eCB zbP (zaa (zab 0) zad)))) (zbt (ex2 zdJ (zab 0) (zab 1))) fNx)
   (zar (za0 2 (ex2 zaV (eC (.int 104729)) (ex2 zeb (ex2 zeb (eC (.int 7919)) (zab 1)) (zab 1))))
   (zar (zdK (iL (eSl gSlL (zab 0) oNo (oSo (eC (.int 63))))) (gNm 3) zcB)
   (zar (za0 2 (ex2 zcL (ex2 zaV (ex2 zeb (zab 2) (eC (.int 48271))) (ex2 zeb (eC (.int 16807)) (zab 1))) (eC (.int 2147483647))))
   (zbt (ex2 zcL (ex2 zeb (zab 2) (zab 2)) (eC (.int 2147483629))))))))
def zam:List D->Option Ent:=zcr [.b,.v] 2 zdz
def zbj:FS:=
  (zar (zf6 3 (ex2 zcL (zab 4) (zab 1)))
   (za0 4 (ex2 zdL (zab 4) (zab 1))))
def zaZ:FS:=
  (zar (za0 4 (ex2 zcL (ex2 zaV (ex2 zaV (ex2 zeb (zab 4) (eC (.int 69621))) (ex2 zeb (ex2 zeb (eC (.int 16807)) (zab 5)) (zab 5))) (eC (.int 7))) (eC (.int 2147483629))))
   (zf6 3 (ex2 zcL (ex2 zdL (ex2 zcL (ex2 zeb (zab 4) (zab 4)) (eC (.int 2147483647))) (eC (.int 3))) (zab 1))))
def zcS:FS:=
  (zar (za0 3 (zcW zad))
   (zar (za0 4 (zab 0))
   (zar (zdK (iR1 (zaa (zab 2) zad)) (gNm 5) zbj)
   (zar (fIf (zhg (tOf (ex2 gGt (zab 2) (eC (.int 0)))) (zhg (tOf (ex2 gEq (zab 4) (eC (.int 0)))) (tOf (ex2 gEq (ex2 zdJ (zab 3) (ex1 zeL (eC (.int 1)))) (eC (.int 0)))))) (zar (za0 4 (ex2 zcL (ex2 zaV (ex2 zeb (zab 0) (eC (.int 48271))) (ex2 zeb (eC (.int 104729)) (zab 2))) (eC (.int 2147483647))))
   (zar (za0 3 (zcW zad))
   (zdK (iR1 (zaa (zab 2) zad)) (gNm 5) zaZ))) fNx)
   (zet 3)))))
def zbd:List D->Option Ent:=zcr [.v,.v,.v] 3 zcS
def zbm:FE:=
  (ex2 zjb (zab 1) (ex2 zcL (ex2 zaV (ex2 zdL (zab 2) (eC (.int 4))) (zab 0)) (eC (.int 26))))
def zei:FS:=
  (zar (za0 1 (eC (.str "abcdefghijklmnopqrstuvwxyz")))
   (zar (za0 2 (ex2 zdJ (zcW (zaa (eC (.int 26)) (zaa (eC (.int 2)) (zaa (eC (.int 3)) (zaa (eC (.int 4)) zad))))) (ex2 zcL (zab 0) (eC (.int 4)))))
   (zbt (eLC [1,0] (iR1 (zaa (zab 2) zad)) zcT zbm))))
def zc0:List D->Option Ent:=zcr [.v] 2 zei
def zaC:FS:=
  (zar (za0 5 (ex2 zcL (ex2 zdL (zab 4) (eC (.int 3))) (ex2 zaV (eCB zaA (zaa (zab 3) zad)) (eC (.int 1)))))
   (zar (za0 6 (ex2 zdJ (zab 0) (ex2 zcL (ex2 zdL (zab 4) (eC (.int 63))) (eCB zbP (zaa (zab 0) zad)))))
   (fIf (tOf (ex2 gEq (ex2 zcL (zab 4) (eC (.int 3))) (eC (.int 0)))) (za0 3 (ex2 zb9 (ex2 zb9 (eSl zcV (zab 3) oNo (oSo (zab 5))) (zab 6)) (eSl zcV (zab 3) (oSo (zab 5)) oNo))) (fIf (tOf (ex2 gEq (ex2 zcL (zab 4) (eC (.int 3))) (eC (.int 1)))) (za0 3 (ex2 zb9 (eSl zcV (zab 3) oNo (oSo (zab 5))) (eSl zcV (zab 3) (oSo (ex2 zaV (zab 5) (eC (.int 1)))) oNo))) (za0 3 (ex2 zb9 (ex2 zb9 (eSl zcV (zab 3) oNo (oSo (zab 5))) (ex2 zdJ (zcW (zaa (zab 6) (zaa (eC (.str "")) zad))) (eCB zg4 (zaa (ex2 gEq (zab 5) (eCB zaA (zaa (zab 3) zad))) zad)))) (eSl zcV (zab 3) (oSo (ex2 zaV (zab 5) (eC (.int 1)))) oNo)))))))
def zct:FS:=
  (zar (za0 3 (zab 1))
   (zar (zdK (iB 2) (gNm 4) zaC)
   (zet 3)))
def zcE:List D->Option Ent:=zcr [.b,.v,.b] 4 zct
def zbl:FS:=
  (zar (za0 3 (ex2 zaV (zab 3) (ex2 zcL (zab 4) (eC (.int 3)))))
   (zar (fIf (tOf (ex2 gLt (ex2 zaV (zab 3) (eC (.int 1))) (eCB zaA (zaa (zab 2) zad)))) (za0 2 (ex2 zb9 (ex2 zb9 (ex2 zb9 (eSl zcV (zab 2) oNo (oSo (zab 3))) (ex2 zjb (zab 2) (ex2 zaV (zab 3) (eC (.int 1))))) (ex2 zjb (zab 2) (zab 3))) (eSl zcV (zab 2) (oSo (ex2 zaV (zab 3) (eC (.int 2)))) oNo))) fNx)
   (za0 3 (ex2 zaV (zab 3) (eC (.int 2))))))
def zcU:FS:=
  (zar (za0 2 (zab 0))
   (zar (za0 3 (eC (.int 0)))
   (zar (zdK (iB 1) (gNm 4) zbl)
   (zet 2))))
def zcj:List D->Option Ent:=zcr [.v,.b] 3 zcU
def zcy:FE:=
  (zab 0)
def zcC:FT:=
  (zhg (tOf (ex2 gEq (ex2 zen (zab 0) (eC (.int 0))) (zab 1))) (tOf (ex2 gLe (ex2 zen (zab 0) (eC (.int 1))) (zab 2))))
def zeh:FS:=
  (zbt (ex2 gNeD (eLC [1,2] (iT (zab 0)) zcC zcy) (zcW zad)))
def zbz:List D->Option Ent:=zcr [.v,.v,.v] 0 zeh
def zcH:FS:=
  (zar (zf4 0 "Sight" [] "most" (zab 1))
   (zar (zf4 0 "Sight" ["most"] "end" (eC (.int 0)))
   (zf4 0 "Sight" ["most","end"] "pairs" (zcW zad))))
def zbX:GM:=zhc 1 0 zcH
def zcF:FS:=
  (zar (fIf (zhg (tOf (ex2 gNoN (zab 1) (eC .non))) (tOf (ex2 gLe (zab 1) (eFld 0 "Sight" ["most","end","pairs"] 0)))) (fFApp 0 "Sight" ["most","end","pairs"] 2 (zd8 (zaa (eFld 0 "Sight" ["most","end","pairs"] 1) (zaa (zab 1) zad)))) fNx)
   (zge 0 "Sight" ["most","end","pairs"] 1 (ex2 zaV (eFld 0 "Sight" ["most","end","pairs"] 1) (eC (.int 1)))))
def zb8:GM:=zhc 1 0 zcF
def zdV:FS:=
  (zar (za0 1 (eCB zdr (zaa (eFld 0 "Sight" ["most","end","pairs"] 2) zad)))
   (zar (zge 0 "Sight" ["most","end","pairs"] 2 (zcW zad))
   (zet 1)))
def zda:GM:=zhc 0 1 zdV
def zc5:FS:=
  (zf4 0 "Book" [] "top" (eC .non))
def za8:GM:=zhc 0 0 zc5
def zc6:FS:=
  (zar (zf4 0 "Knot" [] "word" (zab 1))
   (zf4 0 "Knot" ["word"] "branches" eDI0))
def zaF:GM:=zhc 1 0 zc6
def zbE:FS:=
  (zf6 2 (zag [.v,.v] zbw (zaa (ex2 zdJ (zab 2) (ex2 zee (zab 3) (eC (.int 1)))) (zaa (ex2 ziY (zab 1) (eC (.int 1))) zad))))
def zdo:FS:=
  (zar (za0 2 (zcW (zaa (eC (.int 0)) zad)))
   (zar (zdK (iR2 (zaa (eC (.int 1)) (zaa (ex2 zaV (eCB zbP (zaa (zab 0) zad)) (eC (.int 1))) zad))) (gNm 3) zbE)
   (zbt (eCB zdr (zaa (zab 2) zad)))))
def zcv:List D->Option Ent:=zcr [.v,.t] 2 zdo
def zbf:FS:=
  (zar (za0 8 (ex2 gInS (ex2 zjb (zab 2) (ex1 zeL (eC (.int 1)))) (ex2 zen (zab 1) (ex2 zee (zab 7) (eC (.int 1))))))
   (zf6 6 (zag [.v] zev (zaa (zcW (zaa (eIf (tOf (zab 8)) (ex2 zen (zab 5) (ex2 zee (zab 7) (eC (.int 1)))) (zag [.v,.v] zbw (zaa (ex2 zen (zab 5) (ex2 zee (zab 7) (eC (.int 1)))) (zaa (ex2 ziY (zab 3) (eC (.int 2))) zad)))) (zaa (zag [.v,.v] zbw (zaa (ex2 zen (zab 5) (zab 7)) (zaa (ex2 ziY (zab 3) (eC (.int 0))) zad))) (zaa (zag [.v,.v] zbw (zaa (ex2 zdJ (zab 6) (ex2 zee (zab 7) (eC (.int 1)))) (zaa (ex2 ziY (zab 3) (eC (.int 1))) zad))) (zaa (zag [.v,.v] zbw (zaa (zag [.b,.v,.v,.v] za5 (zaa (zab 0) (zaa (zab 1) (zaa (zab 2) (zaa (zab 7) zad))))) (zaa (ex2 ziY (zab 3) (eC (.int 3))) zad))) zad))))) zad))))
def zbV:FS:=
  (zar (za0 5 (ex2 zdJ (zab 0) (ex1 zeL (eC (.int 1)))))
   (zar (za0 6 (zcW (zaa (eIf (tOf (zab 4)) (eC (.int 0)) (zag [.v,.v] zbw (zaa (ex2 zen (zab 5) (eC (.int 0))) (zaa (ex2 ziY (zab 3) (eC (.int 0))) zad)))) zad)))
   (zar (zdK (iR2 (zaa (eC (.int 1)) (zaa (ex2 zaV (eCB zbP (zaa (zab 1) zad)) (eC (.int 1))) zad))) (gNm 7) zbf)
   (zbt (eCB zdr (zaa (zab 6) zad))))))
def zcI:List D->Option Ent:=zcr [.b,.v,.v,.t,.v] 4 zbV
def zca:FS:=
  (zf6 3 (zd8 (zaa (eCB zh9 (zaa (ex2 zee (ex2 zee (zab 7) (zab 5)) (zab 1)) (zaa (eC (.int 0)) zad))) (zaa (eCB zh0 (zaa (ex2 zaV (ex2 zee (ex2 zaV (zab 7) (eCB zaA (zaa (zab 0) zad))) (zab 5)) (zab 1)) (zaa (eCB zaA (zaa (zab 2) zad)) zad))) zad))))
def zbq:FS:=
  (zar (za0 5 (ex2 zdL (ex2 zeb (zab 4) (eCB zaA (zaa (zab 0) zad))) (ex2 zaV (zab 1) (eC (.int 1)))))
   (zar (za0 6 (ex2 zdL (ex2 zeb (ex2 zaV (zab 4) (eC (.int 1))) (eCB zaA (zaa (zab 0) zad))) (ex2 zaV (zab 1) (eC (.int 1)))))
   (zdK (iL (zag [.v,.v] zc7 (zaa (eSl zcV (zab 0) (oSo (zab 5)) (oSo (zab 6))) (zaa (zab 2) zad)))) (gNm 7) zca)))
def zcb:FS:=
  (zar (za0 3 (zcW zad))
   (zar (zdK (iR1 (zaa (ex2 zaV (zab 1) (eC (.int 1))) zad)) (gNm 4) zbq)
   (zbt (zag [.b] zfl (zaa (zab 3) zad)))))
def zch:List D->Option Ent:=zcr [.v,.v,.v] 5 zcb
def zaW:FS:=
  (fIf (tOf (ex2 gGe (zag [.v,.v] zcc (zaa (zab 5) (zaa (zag [.v,.v] zaS (zaa (eSl zcV (zab 2) (oSo (zab 7)) (oSo (zab 8))) (zaa (zab 3) zad))) zad))) (zab 4))) (zf6 6 (zd8 (zaa (zab 7) (zaa (zab 8) zad)))) fNx)
def zbU:FS:=
  (zar (za0 4 (ex2 zee (ex2 zaV (ex2 zee (eCB zaA (zaa (zab 0) zad)) (zab 3)) (eC (.int 1))) (ex2 zeb (zab 1) (zab 3))))
   (zar (za0 5 (zag [.v,.v] zaS (zaa (zab 0) (zaa (zab 3) zad))))
   (zar (za0 6 (zcW zad))
   (zar (zdK (iL (zag [.v,.v,.v] zfS (zaa (zab 0) (zaa (zab 1) (zaa (zab 2) zad))))) (gTp (zcO (gNm 7) (zcO (gNm 8) zgb))) zaW)
   (zbt (zag [.b] zfl (zaa (zab 6) zad)))))))
def zcJ:List D->Option Ent:=zcr [.v,.v,.v,.v] 5 zbU
def zbR:FE:=
  (ex2 zdJ (zab 1) (zab 0))
def zem:FS:=
  (zbt (eBM ziW (eC (.str "")) (zaa (eLC [0] (iL (zag [.v,.v,.v] zbd (zaa (zab 1) (zaa (eCB zbP (zaa (zab 0) zad)) (zaa (zab 2) zad))))) zcT zbR) zad)))
def zb4:List D->Option Ent:=zcr [.b,.v,.v] 0 zem
def zdy:FS:=
  (zf6 4 (zag [.b,.v,.v,.t,.v] zcI (zaa (zab 4) (zaa (zab 0) (zaa (eSl zcV (zab 1) oNo (oSo (zab 5))) (zaa (zab 2) (zaa (zab 3) zad)))))))
def zdx:FE:=
  (zag [.b,.v] zdd (zaa (zab 1) (zaa (zab 0) zad)))
def zeO:FS:=
  (zar (za0 4 (zcW (zaa (zag [.v,.t] zcv (zaa (zab 0) (zaa (zab 2) zad))) zad)))
   (zar (zdK (iR2 (zaa (eC (.int 1)) (zaa (ex2 zaV (eCB zaA (zaa (zab 1) zad)) (eC (.int 1))) zad))) (gNm 5) zdy)
   (zbt (eCB zdr (zaa (eLC [4] (iR1 (zaa (ex2 zaV (eCB zbP (zaa (zab 0) zad)) (eC (.int 1))) zad)) zcT zdx) zad)))))
def zdt:List D->Option Ent:=zcr [.v,.v,.t,.v] 2 zeO
def zcK:FS:=
  (zbt (zag [.v,.v,.v,.v] zcJ (zaa (zab 0) (zaa (zab 1) (zaa (zab 2) (zaa (eC (.int 1)) zad))))))
def zbk:List D->Option Ent:=zcr [.v,.v,.v] 0 zcK
def zc1:FS:=
  (zbt (ex2 zen (ex2 zen (zio [.v,.v,.t,.v] zdt (zaa (zab 0) (zaa (zab 1) (zaa (zab 2) zad))) (.bl false)) (ex1 zeL (eC (.int 1)))) (ex1 zeL (eC (.int 1)))))
def zaG:List D->Option Ent:=zcr [.v,.v,.t] 0 zc1
def zcM:FS:=
  (zbt (ex2 zen (zag [.v,.v,.t,.v] zdt (zaa (zab 0) (zaa (zab 1) (zaa (zab 2) (zaa (eC (.bl true)) zad))))) (ex1 zeL (eC (.int 1)))))
def zbW:List D->Option Ent:=zcr [.v,.v,.t] 0 zcM
def zdg:FS:=
  (fX (xM 4 "Sight" ["most","end","pairs"] zb8 (zaa (zab 5) zad)))
def zfU:FS:=
  (zar (ziN 4 (zeP "Sight" zbX (zaa (zab 2) zad)))
   (zar (zdK (iT (zag [.v,.v,.t] zbW (zaa (zab 0) (zaa (zab 1) (zaa (zab 3) zad))))) (gNm 5) zdg)
   (zj4 (xM 4 "Sight" ["most","end","pairs"] zda zad))))
def za9:List D->Option Ent:=zcr [.v,.v,.v,.t] 2 zfU
def zc2:FS:=
  (zbt (zag [.v,.v,.t] zaG (zaa (zag [.v] zaw (zaa (zab 0) zad)) (zaa (zab 1) (zaa (eB ([1,1,1,0].map .int)) zad)))))
def zah:List D->Option Ent:=zcr [.v,.v] 0 zc2
def F_hang:FS:=
  (fHang zah)
def zhY:GM:=zhc 1 2 F_hang
def zaN:FE:=
  (zd8 (zaa (ex2 zaV (zab 2) (zab 0)) (zaa (zab 1) zad)))
def zbG:FS:=
  (zar (fIf (tOf (ex2 gGt (zab 3) (zab 4))) (zbt (zcW zad)) fNx)
   (zar (za0 5 (zag [.v,.v,.v,.t] za9 (zaa (zag [.v] zaw (zaa (zab 0) zad)) (zaa (eSl zcV (zab 2) (oSo (zab 3)) (oSo (zab 4))) (zaa (zab 1) (zaa (eB ([1,1,1,0].map .int)) zad))))))
   (zbt (eL2 [3] (iT (zab 5)) zcT zaN))))
def zbM:List D->Option Ent:=zcr [.v,.v,.v,.v,.v] 1 zbG
def zaR(kC:Str->ae):FT:=
  (tOf (ex2 gGt (eCB zbP (zaa (zab 4) zad)) (eC (.int 0))))
def zbn(kC:Str->ae):FS:=
  (zar (fPop 4 (gNm 5))
   (zar (za0 6 (zag [.v,.v] zah (zaa (ex1 (zeo (kC "Knot") ["word","branches"] 0) (zab 5)) (zaa (zab 1) zad))))
   (zar (fIf (tOf (ex2 gLe (zab 6) (zab 2))) (zf6 3 (zd8 (zaa (zab 6) (zaa (ex1 (zeo (kC "Knot") ["word","branches"] 0) (zab 5)) zad)))) fNx)
   (fExt 4 (zag [.v,.v,.v] (zbh kC) (zaa (zab 5) (zaa (zab 6) (zaa (zab 2) zad))))))))
def zdv(kC:Str->ae):FS:=
  (zar (fIf (tOf (ex2 gIsN (ex1 (zeo (kC "Book") ["top"] 0) (zab 0)) (eC .non))) (zbt (zd8 zad)) fNx)
   (zar (za0 3 (zcW zad))
   (zar (za0 4 (zcW (zaa (ex1 (zeo (kC "Book") ["top"] 0) (zab 0)) zad)))
   (zar (whl (zaR kC)
   (zbn kC) 1000)
   (zbt (eCB zdr (zaa (eCB gSrtP (zaa (zab 3) zad)) zad)))))))
def zb2(kC:Str->ae):List D->Option Ent:=zcr [.v,.v,.v] 4 (zdv kC)
def zbC:FS:=
  (fExt 4 (zag [.v,.v,.v,.v,.v] zbM (zaa (zab 0) (zaa (zab 1) (zaa (zab 2) (zaa (eCB zh9 (zaa (zab 5) (zaa (eC (.int 0)) zad))) (zaa (eCB zh0 (zaa (zab 6) (zaa (eCB zaA (zaa (zab 2) zad)) zad))) zad)))))))
def zcA:FS:=
  (zar (za0 4 (zcW zad))
   (zar (zdK (iT (zab 3)) (gTp (zcO (gNm 5) (zcO (gNm 6) zgb))) zbC)
   (zbt (eCB zdr (zaa (zab 4) zad)))))
def zdl:List D->Option Ent:=zcr [.v,.v,.v,.v] 3 zcA
def zb5:FS:=
  (zar (fIf (tOf (eFIs 0 "Book" ["top"] 0)) (zar (zge 0 "Book" ["top"] 0 (zeP "Knot" zaF (zaa (zab 1) zad)))
   (zbt (eC (.bl true)))) fNx)
   (zj4 (xCOF 0 "Book" ["top"] 0 zhY (zaa (zab 1) zad))))
def zaI:GM:=zhc 1 0 zb5
def zfz:FS:=
  (fIf (fNot (tOf (zag [.v,.v,.v] zbz (zaa (zag [.v,.v,.v,.v] zdl (zaa (zab 3) (zaa (zab 5) (zaa (zab 12) (zaa (zab 14) zad))))) (zaa (zab 13) (zaa (zab 5) zad)))))) (zbt (eC (.bl false))) fNx)
def zfo:FE:=
  (zab 0)
def zeG:FT:=
  (tOf (ex2 gEq (ex2 zen (zab 0) (eC (.int 1))) (zab 1)))
def zhZ:FS:=
  (zar (za0 16 (eLC [3] (iT (eLdM 15 "Book" ["top"] zb2 (lVal (zab 9) (lVal (zab 5) lNil)))) zeG zfo))
   (zbt (eAnd (ex2 gEq (eCB zbP (zaa (zab 16) zad)) (eC (.int 1))) (eAnd (ex2 gEq (ex2 zen (ex2 zdJ (zab 16) (eC (.int 0))) (eC (.int 0))) (zag [.v,.v,.t] zaG (zaa (zab 8) (zaa (zab 9) (zaa (zd8 (zaa (eC (.int 1)) (zaa (eC (.int 1)) (zaa (eC (.int 1)) (zaa (eC (.int 0)) zad))))) zad))))) (ex2 gLe (ex2 zen (ex2 zdJ (zab 16) (eC (.int 0))) (eC (.int 0))) (zab 5))))))
def zhN:FS:=
  (zar (fXIf (xTAnd (xN (xT (xM 15 "Book" ["top"] zaI (zaa (zab 3) zad)))) (xPT (tOf (ex2 gNe (zab 9) (zab 3))))) (zbt (eC (.bl false))) fNx)
   zhZ)
def zhw:FS:=
  (zar (fX (xM 15 "Book" ["top"] zaI (zaa (zab 9) zad)))
   zhN)
def zia:FS:=
  (zar (ziN 15 (zeP "Book" za8 zad))
   zhw)
def zic:FS:=
  (zar (zdK (iL (zcW (zaa (zag [.v,.v,.v] zch (zaa (zab 3) (zaa (zab 5) (zaa (zab 12) zad)))) (zaa (zag [.v,.v,.v] zbk (zaa (zab 3) (zaa (zab 5) (zaa (zab 12) zad)))) zad)))) (gNm 14) zfz)
   zia)
def zhv:FS:=
  (zar (fIf (fNot (tOf (zag [.v,.v,.v] zbz (zaa (zag [.v,.v,.v,.t] za9 (zaa (zab 8) (zaa (zab 12) (zaa (zab 5) (zaa (zd8 (zaa (eC (.int 1)) (zaa (eC (.int 1)) (zaa (eC (.int 1)) (zaa (eC (.int 0)) zad))))) zad))))) (zaa (zab 13) (zaa (zab 5) zad)))))) (zbt (eC (.bl false))) fNx)
   zic)
def zhh:FS:=
  (zar (za0 13 (ex2 zaV (zab 7) (eCB zaA (zaa (zab 9) zad))))
   zhv)
def zhX:FS:=
  (zar (za0 12 (ex2 zb9 (ex2 zb9 (eSl zcV (zab 4) oNo (oSo (zab 7))) (zab 9)) (eSl zcV (zab 4) (oSo (zab 7)) oNo)))
   zhh)
def zg0:FS:=
  (zar (za0 9 (zag [.b,.v,.b] zcE (zaa (zab 2) (zaa (zab 3) (zaa (zab 6) zad)))))
   zhX)
def zfp:FS:=
  (zar (fIf (tOf (ex2 gEq (ex2 zcL (ex2 zdL (zab 1) (eC (.int 11))) (eC (.int 2))) (eC (.int 1)))) (zar (za0 9 (zag [.v,.b] zcj (zaa (zab 3) (zaa (zab 6) zad))))
   (zar (za0 10 (zag [.v,.v,.v,.t] za9 (zaa (zab 8) (zaa (ex2 zb9 (ex2 zb9 (eSl zcV (zab 4) oNo (oSo (zab 7))) (zab 9)) (eSl zcV (zab 4) (oSo (zab 7)) oNo)) (zaa (zab 5) (zaa (zd8 (zaa (eC (.int 1)) (zaa (eC (.int 1)) (zaa (eC (.int 1)) (zaa (eC (.int 1)) zad))))) zad))))))
   (zar (za0 11 (zag [.v,.v,.t] zaG (zaa (zab 8) (zaa (zab 9) (zaa (zd8 (zaa (eC (.int 1)) (zaa (eC (.int 1)) (zaa (eC (.int 1)) (zaa (eC (.int 1)) zad))))) zad)))))
   (zbt (eAnd (zag [.v,.v,.v] zbz (zaa (zab 10) (zaa (ex2 zaV (zab 7) (eCB zaA (zaa (zab 9) zad))) (zaa (zab 5) zad)))) (ex2 gLe (zab 11) (zab 5))))))) fNx)
   zg0)
def zji:FS:=
  (zar (za0 8 (zag [.v] zaw (zaa (zab 3) zad)))
   zfp)
def zjk:FS:=
  (zar (za0 7 (ex2 zcL (ex2 zdL (zab 1) (eC (.int 290160))) (ex2 zaV (eCB zaA (zaa (zab 4) zad)) (eC (.int 1)))))
   zji)
def zjd:FS:=
  (zar (za0 6 (zag [.v,.v,.v] zbd (zaa (zag [.b,.v] zam (zaa (zab 0) (zaa (eC (.int 3)) zad))) (zaa (eC (.int 1638)) (zaa (zab 5) zad)))))
   zjk)
def zjj:FS:=
  (zar (za0 5 (ex2 zcL (ex2 zdL (zab 1) (eC (.int 48360))) (eC (.int 6))))
   zjd)
def zi9:FS:=
  (zar (za0 4 (zag [.b,.v,.v] zb4 (zaa (zab 2) (zaa (zag [.b,.v] zam (zaa (zab 0) (zaa (eC (.int 2)) zad))) (zaa (ex2 zcL (ex2 zdL (zab 1) (eC (.int 1560))) (eC (.int 31))) zad)))))
   zjj)
def zjw:FS:=
  (zar (za0 3 (zag [.b,.v,.v] zb4 (zaa (zab 2) (zaa (zag [.b,.v] zam (zaa (zab 0) (zaa (eC (.int 1)) zad))) (zaa (ex2 zaV (eC (.int 1)) (ex2 zcL (ex2 zdL (zab 1) (eC (.int 104))) (eC (.int 15)))) zad)))))
   zi9)
def zjC:FS:=
  (zar (za0 2 (zag [.v] zc0 (zaa (zab 1) zad)))
   zjw)
def F_law:FS:=
  (zar (za0 1 (zag [.b,.v] zam (zaa (zab 0) (zaa (eC (.int 0)) zad))))
   zjC)
def g_law:List D->Option Ent:=zcr [.b] 16 F_law
end
def kinit(w:Str):zaF (.ins "Knot" [] []) [.str w]=aa (.non,mkK w [] []):=by
 simp only[zaF,zhc,zc6,au,cO,reduceIte,ar,bu,iI,aU,ej,cy,zar,zf4,zab,eDI0,oAt,toO,sqO,aS,dh,bN,zbS,fT,endM,cx,mkK]
end N62

namespace N62
open PySem L2 L3 PyProof.Rows
def top(i:Nat):Stmt:=PySem.Challenge.pw_nearfind_k62_whole_slips_made.main.body.getD i (.Pass ⟨0,0,0,0⟩)
def clsB(st:Stmt)(j:Nat):Stmt:=match st with
 |.ClassDef _ _ _ b _ _ _ _ _ _ _=>b.getD j (.Pass ⟨0,0,0,0⟩)
 | _=>.Pass ⟨0,0,0,0⟩
abbrev zbA:Stmt:=top 6
def sc_cells_of:FnScope ["P","T","prices","free","columns","signs"] ["P","T","prices","free"] (zae zbA):=⟨rfl,rfl,rfl,by decide +kernel,rfl,by decide +kernel,by decide +kernel⟩
abbrev zbT:Stmt:=top 7
def zfg:FnScope ["P","T","prices"] ["P","T","prices"] (zae zbT):=⟨rfl,rfl,rfl,by decide +kernel,rfl,by decide +kernel,by decide +kernel⟩
abbrev zcR:Stmt:=top 8
def zgG:FnScope ["columns","classes"] ["columns","classes"] (zae zcR):=⟨rfl,rfl,rfl,by decide +kernel,rfl,by decide +kernel,by decide +kernel⟩
abbrev zce:Stmt:=top 9
def sc_first_column:FnScope ["pattern","prices","column","classes"] ["pattern","prices"] (zae zce):=⟨rfl,rfl,rfl,by decide +kernel,rfl,by decide +kernel,by decide +kernel⟩
abbrev zbF:Stmt:=top 10
def sc_further_column:FnScope ["columns","pattern","text","prices","free","before","column","classes","fits"] ["columns","pattern","text","prices","free"] (zae zbF):=⟨rfl,rfl,rfl,by decide +kernel,rfl,by decide +kernel,by decide +kernel⟩
abbrev za2:Stmt:=top 11
def zdP:FnScope ["columns","pattern","text","classes"] ["columns","pattern","text","classes"] (zae za2):=⟨rfl,rfl,rfl,by decide +kernel,rfl,by decide +kernel,by decide +kernel⟩
abbrev zd3:Stmt:=top 12
def zj9:FnScope ["cell","price"] ["cell","price"] (zae zd3):=⟨rfl,rfl,rfl,by decide +kernel,rfl,by decide +kernel,by decide +kernel⟩
abbrev zew:Stmt:=top 13
def sc_lowest:FnScope ["cells"] ["cells"] (zae zew):=⟨rfl,rfl,rfl,by decide +kernel,rfl,by decide +kernel,by decide +kernel⟩
abbrev zd2:Stmt:=top 16
def sc_ends_in:FnScope ["P","T","most","prices","sight","price"] ["P","T","most","prices"] (zae zd2):=⟨rfl,rfl,rfl,by decide +kernel,rfl,by decide +kernel,by decide +kernel⟩
abbrev zbI:Stmt:=top 17
def zeT:FnScope ["pattern","text","prices"] ["pattern","text","prices"] (zae zbI):=⟨rfl,rfl,rfl,by decide +kernel,rfl,by decide +kernel,by decide +kernel⟩
abbrev zcQ:Stmt:=top 20
def zgM:FnScope ["W"] ["W"] (zae zcQ):=⟨rfl,rfl,rfl,by decide +kernel,rfl,by decide +kernel,by decide +kernel⟩
abbrev zbZ:Stmt:=top 24
def zfj:FnScope ["word","other"] ["word","other"] (zae zbZ):=⟨rfl,rfl,rfl,by decide +kernel,rfl,by decide +kernel,by decide +kernel⟩
abbrev zgQ:Stmt:=top 25
def sc_hang:FnScope ["top","word","knot","price"] ["top","word"] (zae zgQ):=⟨rfl,rfl,rfl,by decide +kernel,rfl,by decide +kernel,by decide +kernel⟩
abbrev zbB:Stmt:=top 26
def ze1:FnScope ["knot","price","most"] ["knot","price","most"] (zae zbB):=⟨rfl,rfl,rfl,by decide +kernel,rfl,by decide +kernel,by decide +kernel⟩
abbrev zcg:Stmt:=top 28
def sc_ends_in_kept:FnScope ["W","most","T","kept","found","begin","end"] ["W","most","T","kept"] (zae zcg):=⟨rfl,rfl,rfl,by decide +kernel,rfl,by decide +kernel,by decide +kernel⟩
abbrev zbp:Stmt:=top 29
def sc_ends_in_stretch:FnScope ["word","most","text","begin","end","told"] ["word","most","text","begin","end"] (zae zbp):=⟨rfl,rfl,rfl,by decide +kernel,rfl,by decide +kernel,by decide +kernel⟩
abbrev zb0:Stmt:=top 31
def sc_kept_by_parts:FnScope ["W","most","T","found","number","begin","end","place"] ["W","most","T"] (zae zb0):=⟨rfl,rfl,rfl,by decide +kernel,rfl,by decide +kernel,by decide +kernel⟩
abbrev zbK:Stmt:=top 32
def zeW:FnScope ["W","most","T"] ["W","most","T"] (zae zbK):=⟨rfl,rfl,rfl,by decide +kernel,rfl,by decide +kernel,by decide +kernel⟩
abbrev zbH:Stmt:=top 33
def sc_kept_by_pieces:FnScope ["W","most","T","long","needed","pieces","found","begin","end"] ["W","most","T","long"] (zae zbH):=⟨rfl,rfl,rfl,by decide +kernel,rfl,by decide +kernel,by decide +kernel⟩
abbrev zdf:Stmt:=top 34
def zhz:FnScope ["part","text"] ["part","text"] (zae zdf):=⟨rfl,rfl,rfl,by decide +kernel,rfl,by decide +kernel,by decide +kernel⟩
abbrev zd6:Stmt:=top 35
def zkj:FnScope ["word","most","text"] ["word","most","text"] (zae zd6):=⟨rfl,rfl,rfl,by decide +kernel,rfl,by decide +kernel,by decide +kernel⟩
abbrev zbr:Stmt:=top 36
def sc_times_of_pieces:FnScope ["text","long","times","place","piece"] ["text","long"] (zae zbr):=⟨rfl,rfl,rfl,by decide +kernel,rfl,by decide +kernel,by decide +kernel⟩
abbrev zbY:Stmt:=top 37
def zfb:FnScope ["times","other_times"] ["times","other_times"] (zae zbY):=⟨rfl,rfl,rfl,by decide +kernel,rfl,by decide +kernel,by decide +kernel⟩
abbrev zep:Stmt:=top 38
def sc_joined:FnScope ["stretches","kept","begin","end"] ["stretches"] (zae zep):=⟨rfl,rfl,rfl,by decide +kernel,rfl,by decide +kernel,by decide +kernel⟩
abbrev zdh:Stmt:=top 40
def sc__law_cell:FnScope ["_law_script","_law_at","_law_number","_law_cell_here"] ["_law_script","_law_at"] (zae zdh):=⟨rfl,rfl,rfl,by decide +kernel,rfl,by decide +kernel,by decide +kernel⟩
abbrev zcw:Stmt:=top 41
def sc__law_digits:FnScope ["_law_cell_here","_law_base","_law_many","_law_found","_law_left","_law_k"] ["_law_cell_here","_law_base","_law_many"] (zae zcw):=⟨rfl,rfl,rfl,by decide +kernel,rfl,by decide +kernel,by decide +kernel⟩
abbrev zdb:Stmt:=top 42
def sc__law_pool:FnScope ["_law_cell_here","_law_letters","_law_few"] ["_law_cell_here"] (zae zdb):=⟨rfl,rfl,rfl,by decide +kernel,rfl,by decide +kernel,by decide +kernel⟩
abbrev zdi:Stmt:=top 43
def zhA:FnScope ["_law_pool_here","_law_cell_here","_law_many"] ["_law_pool_here","_law_cell_here","_law_many"] (zae zdi):=⟨rfl,rfl,rfl,by decide +kernel,rfl,by decide +kernel,by decide +kernel⟩
abbrev zci:Stmt:=top 44
def sc__law_slipped:FnScope ["_law_pool_here","_law_word","_law_digits_here","_law_found","_law_digit","_law_at","_law_sign"] ["_law_pool_here","_law_word","_law_digits_here"] (zae zci):=⟨rfl,rfl,rfl,by decide +kernel,rfl,by decide +kernel,by decide +kernel⟩
abbrev zcs:Stmt:=top 45
def sc__law_turned:FnScope ["_law_word","_law_digits_here","_law_found","_law_at","_law_digit"] ["_law_word","_law_digits_here"] (zae zcs):=⟨rfl,rfl,rfl,by decide +kernel,rfl,by decide +kernel,by decide +kernel⟩
abbrev zde:Stmt:=top 46
def zhG:FnScope ["_law_ends","_law_end","_law_many"] ["_law_ends","_law_end","_law_many"] (zae zde):=⟨rfl,rfl,rfl,by decide +kernel,rfl,by decide +kernel,by decide +kernel⟩
abbrev zeH:Stmt:=top 47
def sc_law:FnScope ["_law_script","_law_cell_here","_law_pool_here","_law_word","_law_text_here","_law_many","_law_digits_here","_law_at","_law_pattern","_law_made","_law_found","_law_price","_law_whole","_law_end","_law_kept","_law_book","_law_near"] ["_law_script"] (zae zeH):=⟨rfl,rfl,rfl,by decide +kernel,rfl,by decide +kernel,by decide +kernel⟩
abbrev zau:Stmt:=clsB (top 15) 0
def zeR:FnScope ["self","most"] ["self","most"] (zae zau):=⟨rfl,rfl,rfl,by decide +kernel,rfl,by decide +kernel,by decide +kernel⟩
abbrev za3:Stmt:=clsB (top 15) 1
def zg9:FnScope ["self","price"] ["self","price"] (zae za3):=⟨rfl,rfl,rfl,by decide +kernel,rfl,by decide +kernel,by decide +kernel⟩
abbrev za4:Stmt:=clsB (top 15) 2
def sc_Sight_tell:FnScope ["self","told"] ["self"] (zae za4):=⟨rfl,rfl,rfl,by decide +kernel,rfl,by decide +kernel,by decide +kernel⟩
abbrev zay:Stmt:=clsB (top 22) 0
def zfc:FnScope ["self"] ["self"] (zae zay):=⟨rfl,rfl,rfl,by decide +kernel,rfl,by decide +kernel,by decide +kernel⟩
abbrev zbu:Stmt:=clsB (top 22) 1
def ziw:FnScope ["self","W"] ["self","W"] (zae zbu):=⟨rfl,rfl,rfl,by decide +kernel,rfl,by decide +kernel,by decide +kernel⟩
abbrev zba:Stmt:=clsB (top 22) 3
def sc_Book_near:FnScope ["self","W","most","found","waiting","knot","price"] ["self","W","most"] (zae zba):=⟨rfl,rfl,rfl,by decide +kernel,rfl,by decide +kernel,by decide +kernel⟩
abbrev zax:Stmt:=clsB (top 23) 0
def zfe:FnScope ["self","word"] ["self","word"] (zae zax):=⟨rfl,rfl,rfl,by decide +kernel,rfl,by decide +kernel,by decide +kernel⟩
def boot_abs:bO "abs" =aa (.builtin "abs"):=by kernel_rfl
def boot_int:bO "int" =aa (.type "int"):=by kernel_rfl
def zal:bO "len" =aa (.builtin "len"):=by kernel_rfl
def zfq:bO "max" =aa (.builtin "max"):=by kernel_rfl
def zfn:bO "min" =aa (.builtin "min"):=by kernel_rfl
def boot_range:bO "range" =aa (.type "range"):=by kernel_rfl
def zfK:bO "sorted" =aa (.builtin "sorted"):=by kernel_rfl
def boot_sum:bO "sum" =aa (.builtin "sum"):=by kernel_rfl
def zbL:bO "tuple" =aa (.type "tuple"):=by kernel_rfl
structure Txt(K:af)(mg:Str->Option ag):Prop where
 m_abs:mg "abs" =ab
 m_int:mg "int" =ab
 m_len:mg "len" =ab
 m_max:mg "max" =ab
 m_min:mg "min" =ab
 m_range:mg "range" =ab
 m_sorted:mg "sorted" =ab
 m_sum:mg "sum" =ab
 m_tuple:mg "tuple" =ab
 g_PUT:∃u,mg "PUT" =aa u/\RelV (.int 0) u
 g_LEFT:∃u,mg "LEFT" =aa u/\RelV (.int 1) u
 g_EXCHANGED:∃u,mg "EXCHANGED" =aa u/\RelV (.int 2) u
 g_TURNED:∃u,mg "TURNED" =aa u/\RelV (.int 3) u
 u_PLAIN_PRICES:∃a,mg "PLAIN_PRICES" =aa (.ref a)/\TupK K a [1,1,1,0]
 c_Book:∃C,ClsD K mg "Book" ["top"] C
 c_Knot:∃C,ClsD K mg "Knot" ["word","branches"] C
 c_Sight:∃C,ClsD K mg "Sight" ["most","end","pairs"] C
 d_cells_of:∃f fd,DefD K mg "cells_of" zbA ["P","T","prices","free"] f fd
 d_price_between:∃f fd,Def K mg "price_between" zbT ["P","T","prices"] f fd
 d_row_across:∃f fd,Def K mg "row_across" zcR ["columns","classes"] f fd
 d_first_column:∃f fd,Def K mg "first_column" zce ["pattern","prices"] f fd
 d_further_column:∃f fd,Def K mg "further_column" zbF ["columns","pattern","text","prices","free"] f fd
 d_cell_ahead_of_turn:∃f fd,Def K mg "cell_ahead_of_turn" za2 ["columns","pattern","text","classes"] f fd
 d_stepped:∃f fd,Def K mg "stepped" zd3 ["cell","price"] f fd
 d_lowest:∃f fd,Def K mg "lowest" zew ["cells"] f fd
 d_ends_in:∃f fd,Def K mg "ends_in" zd2 ["P","T","most","prices"] f fd
 d_prices_at_ends:∃f fd,Def K mg "prices_at_ends" zbI ["pattern","text","prices"] f fd
 d_pattern_of:∃f fd,Def K mg "pattern_of" zcQ ["W"] f fd
 d_slips_between:∃f fd,Def K mg "slips_between" zbZ ["word","other"] f fd
 d_hang:∃f fd,Def K mg "hang" zgQ ["top","word"] f fd
 d_knots_in_reach:∃f fd,Def K mg "knots_in_reach" zbB ["knot","price","most"] f fd
 d_ends_in_kept:∃f fd,Def K mg "ends_in_kept" zcg ["W","most","T","kept"] f fd
 d_ends_in_stretch:∃f fd,Def K mg "ends_in_stretch" zbp ["word","most","text","begin","end"] f fd
 d_kept_by_parts:∃f fd,Def K mg "kept_by_parts" zb0 ["W","most","T"] f fd
 d_kept_by_counts:∃f fd,Def K mg "kept_by_counts" zbK ["W","most","T"] f fd
 d_kept_by_pieces:∃f fd,Def K mg "kept_by_pieces" zbH ["W","most","T","long"] f fd
 d_places_of:∃f fd,Def K mg "places_of" zdf ["part","text"] f fd
 d_windows:∃f fd,Def K mg "windows" zd6 ["word","most","text"] f fd
 d_times_of_pieces:∃f fd,Def K mg "times_of_pieces" zbr ["text","long"] f fd
 d_number_shared:∃f fd,Def K mg "number_shared" zbY ["times","other_times"] f fd
 d_joined:∃f fd,Def K mg "joined" zep ["stretches"] f fd
 d__law_cell:∃f fd,Def K mg "_law_cell" zdh ["_law_script","_law_at"] f fd
 d__law_digits:∃f fd,Def K mg "_law_digits" zcw ["_law_cell_here","_law_base","_law_many"] f fd
 d__law_pool:∃f fd,Def K mg "_law_pool" zdb ["_law_cell_here"] f fd
 d__law_text:∃f fd,Def K mg "_law_text" zdi ["_law_pool_here","_law_cell_here","_law_many"] f fd
 d__law_slipped:∃f fd,Def K mg "_law_slipped" zci ["_law_pool_here","_law_word","_law_digits_here"] f fd
 d__law_turned:∃f fd,Def K mg "_law_turned" zcs ["_law_word","_law_digits_here"] f fd
 d__law_told:∃f fd,Def K mg "_law_told" zde ["_law_ends","_law_end","_law_many"] f fd
 d_Sight___init__:∃f fd,MakeD K "Sight" zau "Sight.__init__" ["self","most"] f fd
 d_Sight_come:∃f fd,MethD K "Sight" "come" za3 "Sight.come" ["self","price"] f fd
 d_Sight_tell:∃f fd,MethD K "Sight" "tell" za4 "Sight.tell" ["self"] f fd
 d_Book___init__:∃f fd,MakeD K "Book" zay "Book.__init__" ["self"] f fd
 d_Book_put:∃f fd,MethD K "Book" "put" zbu "Book.put" ["self","W"] f fd
 d_Book_near:∃f fd,MethD K "Book" "near" zba "Book.near" ["self","W","most"] f fd
 d_Knot___init__:∃f fd,MakeD K "Knot" zax "Knot.__init__" ["self","word"] f fd
section
variable {P:aI}{w:aO}{K:af}{mg:Str->Option ag}{base:aV}{f:ae}{fd:bx}
def zg8(T:Txt K mg)(F:FunA K "row_across" "row_across" zcR f fd):FnOk P w K mg base CX0 1 f fd ["columns","classes"] (spD K [.b,.v] zdd):=by
 refine zaQ F zgG zdX rfl (λ_ _ h=>h) λcdv A outer s H E hr=>?_;have hu:=zbg hr;exact(ss1 (zdC (vct zfa (by rfl) T.m_tuple zbL (zac (vlc (N:=["column","classes"]) (fr:=[1]) ⟨rfl,rfl,rfl,by decide +kernel,rfl,rfl⟩ (iib 0) (λ_ _ _ _=>by exact if0) (λ_ _ _ _=>by exact(vix zds (vv 0) (vv 1) (λ_ _=>rfl)))) zak))))
def zdW(T:Txt K mg)(F:FunA K "cell_ahead_of_turn" "cell_ahead_of_turn" za2 f fd):FnOk P w K mg base CX0 1 f fd ["columns","pattern","text","classes"] (spD K [.b,.v,.v,.v] za5):=by
 refine zaQ F zdP zaO rfl (λ_ _ h=>h) λcdv A outer s H E hr=>?_;have hu:=zbg hr;exact(ssc (sIf (tww (tor' (tcm ((o_lt)) (vv 3) zao (zaD _)) (tor1' (tcm ((o_lt)) (vcb zb6 (by rfl) T.m_len zal (zac (vv 2) zak)) zao (zaD _))))) (ss1 (zdC vnon)) ss0)
   (ssc (sIf (tww (tor' (tcm (o_niS) (vix zkl (vv 2) (vun zeV zao) (λ_ _=>rfl)) (vix zds (vv 1) (vop zdI (vv 3) zao) (λ_ _=>rfl)) (by with_unfolding_all rfl)) (tor1' (tcm (o_niS) (vix zkl (vv 2) (vun zeV zao) (λ_ _=>rfl)) (vix zds (vv 1) (vop zdI (vv 3) zao) (λ_ _=>rfl)) (by with_unfolding_all rfl))))) (ss1 (zdC vnon)) ss0)
   (ss1 (zdC (vix zds (vix zc4 (vv 0) (vun zeV zao) (λ_ _=>rfl)) (vop zdI (vv 3) zao) (λ_ _=>rfl))))))
def zgz(T:Txt K mg)(F:FunA K "stepped" "stepped" zd3 f fd):FnOk P w K mg base CX0 1 f fd ["cell","price"] (spD K [.v,.v] zbw):=by
 refine zaQ F zj9 zdQ rfl (λ_ _ h=>h) λcdv A outer s H E hr=>?_;have hu:=zbg hr;exact(ssc (sIf (tww (tor' (tcm (o_isN) (vv 0) vnon (zaD _)) (tor1' (tcm (zkq) (vv 1) zao (zaD _))))) (ss1 (zdC vnon)) ss0)
   (ss1 (zdC (vop zbb (vv 0) (vv 1)))))
def ok_lowest(T:Txt K mg)(F:FunA K "lowest" "lowest" zew f fd):FnOk P w K mg base CX0 1 f fd ["cells"] (spD K [.v] zev):=by
 refine zaQ F sc_lowest zgT rfl (λ_ _ h=>h) λcdv A outer s H E hr=>?_;have hu:=zbg hr;exact(ss1 (zdC (vminD (vlc (N:=["cell"]) (fr:=[]) ⟨rfl,rfl,rfl,by decide +kernel,rfl,rfl⟩ (iiq (vv 0)) (λ_ _ _ _=>by exact(if1 (tcm (o_noN) (vv 0) vnon (zaD _)))) (λ_ _ _ _=>by exact(vv 0))) vnon (by rfl) T.m_min zfn)))
def zdw(T:Txt K mg)(F:FunA K "pattern_of" "pattern_of" zcQ f fd):FnOk P w K mg base CX0 1 f fd ["W"] (spD K [.v] zaw):=by
 refine zaQ F zgM zdc rfl (λ_ _ h=>h) λcdv A outer s H E hr=>?_;have hu:=zbg hr;exact(ss1 (zdC (vct c_tupS (by rfl) T.m_tuple zbL (zac (vv 0) zak))))
def zeX{kC:Str->ae}(hK:∀c C,zcl K c C->C=kC c)(T:Txt K mg)(F:FunA K "knots_in_reach" "knots_in_reach" zbB f fd):FnOk P w K mg base CX0 1 f fd ["knot","price","most"] (spD K [.v,.v,.v] (zbh kC)):=by
 obtain⟨C_Knot,DC_Knot⟩:=T.c_Knot;refine zaQ F ze1 (zcN kC) rfl (λ_ _ h=>h) λcdv A outer s H E hr=>?_;have hu:=zbg hr;exact(ss1 (zdC (vlc (N:=["other","knot","most","price"]) (fr:=[0,2,1]) ⟨rfl,rfl,rfl,by decide +kernel,rfl,rfl⟩ (iidi (zkd (ns:=["word","branches"]) 1 DC_Knot (hK _ _ DC_Knot.at_) (vv 0))) (λ_ _ _ _=>by exact(if1 (tcm (o_le) (vcb c_abs (by rfl) T.m_abs boot_abs (zac (vop zdI (vv 0) (vv 3)) zak)) (vv 2) (zaD _)))) (λ_ _ _ _=>by exact(vix x_di (zkd (ns:=["word","branches"]) 1 DC_Knot (hK _ _ DC_Knot.at_) (vv 1)) (vv 0) (λ_ _=>rfl))))))
def zhr(T:Txt K mg)(F:FunA K "places_of" "places_of" zdf f fd):FnOk P w K mg base CX0 1 f fd ["part","text"] (spD K [.v,.v] zc7):=by
 refine zaQ F zhz zeg rfl (λ_ _ h=>h) λcdv A outer s H E hr=>?_;have hu:=zbg hr;exact(ss1 (zdC (vlc (N:=["place","part","text"]) (fr:=[0,1]) ⟨rfl,rfl,rfl,by decide +kernel,rfl,rfl⟩ (iir1 (by rfl) T.m_range (zac (vop zbb (vop zdI (vcb zb6 (by rfl) T.m_len zal (zac (vv 1) zak)) (vcb zb6 (by rfl) T.m_len zal (zac (vv 0) zak))) zao) zak)) (λ_ _ _ _=>by exact(if1 (tcm (zkq) (vsl zdH (vv 2) (vos (vv 0)) (vos (vop zbb (vv 0) (vcb zb6 (by rfl) T.m_len zal (zac (vv 1) zak))))) (vv 1) (zaD _)))) (λ_ _ _ _=>by exact(vv 0)))))
def zki(T:Txt K mg)(F:FunA K "windows" "windows" zd6 f fd):FnOk P w K mg base CX0 1 f fd ["word","most","text"] (spD K [.v,.v,.v] zfS):=by
 refine zaQ F zkj zfC rfl (λ_ _ h=>h) λcdv A outer s H E hr=>?_;have hu:=zbg hr;exact(ss1 (zdC (vlc (N:=["end","most","word"]) (fr:=[1,0]) ⟨rfl,rfl,rfl,by decide +kernel,rfl,rfl⟩ (iir1 (by rfl) T.m_range (zac (vop zbb (vcb zb6 (by rfl) T.m_len zal (zac (vv 2) zak)) zao) zak)) (λ_ _ _ _=>by exact if0) (λ_ _ _ _=>by exact(zkg (zac (vcb zjn (by rfl) T.m_max zfq (zac (vop zdI (vop zdI (vv 0) (vcb zb6 (by rfl) T.m_len zal (zac (vv 2) zak))) (vv 1)) (zac zao zak))) (zac (vv 0) zak)))))))
def zeF(T:Txt K mg)(F:FunA K "times_of_pieces" "times_of_pieces" zbr f fd):FnOk P w K mg base CX0 1 f fd ["text","long"] (spD K [.v,.v] zaS):=by
 refine zaQ F sc_times_of_pieces zbN rfl (λ_ _ h=>h) λcdv A outer s H E hr=>?_;have hu:=zbg hr;exact(ssc (sSetO (i:=2) (by decide) sc_times_of_pieces.nd rfl (az rfl) vD0)
   (ssc (ziq (iir1 (by rfl) T.m_range (zac (vop zbb (vop zdI (vcb zb6 (by rfl) T.m_len zal (zac (vv 0) zak)) (vv 1)) zao) zak)) (gnm (i:=3) sc_times_of_pieces.nd rfl (az rfl))
   (ssc (zcp (i:=4) sc_times_of_pieces.nd rfl (az rfl) (vsl zdH (vv 0) (vos (vv 3)) (vos (vop zbb (vv 3) (vv 1)))))
   (ss1 (sDput 2 (vop zbb (vDget 2 (zac (vv 4) (zac zao zak))) zao) (vv 4) (hg:=λa b=>⟨pg_sub a.h b.h set_dic⟩)))))
   (sFrzD 2 (ss1 (sRetV 2)))))
def zfi(T:Txt K mg)(F:FunA K "number_shared" "number_shared" zbY f fd):FnOk P w K mg base CX0 1 f fd ["times","other_times"] (spD K [.v,.v] zcc):=by
 refine zaQ F zfb zcZ rfl (λ_ _ h=>h) λcdv A outer s H E hr=>?_;have hu:=zbg hr;exact(ss1 (zdC (vcb c_sum (by rfl) T.m_sum boot_sum (zac (vlc (N:=["piece","times","other_times"]) (fr:=[0,1]) ⟨rfl,rfl,rfl,by decide +kernel,rfl,rfl⟩ (iid (vv 0)) (λ_ _ _ _=>by exact if0) (λ_ _ _ _=>by exact(vcb c_min2 (by rfl) T.m_min zfn (zac (vix x_dic (vv 1) (vv 0) (λ_ _=>rfl)) (zac (vbm m_get (vv 2) (zac (vv 0) (zac zao zak))) zak))))) zak))))
def zhn(T:Txt K mg)(F:FunA K "joined" "joined" zep f fd):FnOk P w K mg base CX0 1 f fd ["stretches"] (spD K [.b] zfl):=by
 refine zaQ F sc_joined zfx rfl (λ_ _ h=>h) λcdv A outer s H E hr=>?_;have hu:=zbg hr;exact(ssc (zcp (i:=1) sc_joined.nd rfl (az rfl) (zgP zak))
   (ssc (ziq (iil (vcb c_srtG (by rfl) T.m_sorted zfK (zac (vv 0) zak))) (gtp rfl (gns1 (gnm (i:=2) sc_joined.nd rfl (az rfl)) (gns1 (gnm (i:=3) sc_joined.nd rfl (az rfl)) gns0)) (hl:=gl1 (gl1 (gl0))))
   (ss1 (sIf (tww (tan (tcm (o_gt) (vcb zer (by rfl) T.m_len zal (zac (vv 1) zak)) zao (zaD _)) (tan1 (tcm (o_le) (vv 2) (vix zds (vix zc4 (vv 1) (vun zeV zao) (λ_ _=>rfl)) zao (λ_ _=>rfl)) (zaD _))))) (ss1 (sSIx 1 (zkg (zac (vix zds (vix zc4 (vv 1) (vun zeV zao) (λ_ _=>rfl)) zao (λ_ _=>rfl)) (zac (vcb zjn (by rfl) T.m_max zfq (zac (vix zds (vix zc4 (vv 1) (vun zeV zao) (λ_ _=>rfl)) zao (λ_ _=>rfl)) (zac (vv 3) zak))) zak))) (vun zeV zao) (hg:=λa b=>⟨pg_sub a.h b.h set_list⟩))) (ss1 (sApp 1 (zkg (zac (vv 2) (zac (vv 3) zak))))))))
   (ss1 (zdC (vct zfa (by rfl) T.m_tuple zbL (zac (vv 1) zak))))))
def zh1(T:Txt K mg)(F:FunA K "_law_cell" "_law_cell" zdh f fd):FnOk P w K mg base CX0 1 f fd ["_law_script","_law_at"] (spD K [.b,.v] zam):=by
 refine zaQ F sc__law_cell zdz rfl (λ_ _ h=>h) λcdv A outer s H E hr=>?_;have hu:=zbg hr;exact(ssc (sIf (tcm ((o_lt)) (vv 1) (vcb zer (by rfl) T.m_len zal (zac (vv 0) zak)) (zaD _)) (ss1 (zdC (vix zc4 (vv 0) (vv 1) (λ_ _=>rfl)))) ss0)
   (ssc (zcp (i:=2) sc__law_cell.nd rfl (az rfl) (vop zbb zao (vop zef (vop zef zao (vv 1)) (vv 1))))
   (ssc (ziq (iil (vsl l_list (vv 0) von (vos zao))) (gnm (i:=3) sc__law_cell.nd rfl (az rfl))
   (ss1 (zcp (i:=2) sc__law_cell.nd rfl (az rfl) (vop zdp (vop zbb (vop zef (vv 2) zao) (vv 3)) zao))))
   (ssc (zcp (i:=2) sc__law_cell.nd rfl (az rfl) (vop zdp (vop zbb (vop zef (vv 2) zao) (vop zef zao (vv 1))) zao))
   (ss1 (zdC (vop zdp (vop zef (vv 2) (vv 2)) zao)))))))
def zea(T:Txt K mg)(F:FunA K "_law_digits" "_law_digits" zcw f fd):FnOk P w K mg base CX0 1 f fd ["_law_cell_here","_law_base","_law_many"] (spD K [.v,.v,.v] zbd):=by
 refine zaQ F sc__law_digits zcS rfl (λ_ _ h=>h) λcdv A outer s H E hr=>?_;have hu:=zbg hr;exact(ssc (zcp (i:=3) sc__law_digits.nd rfl (az rfl) (zgP zak))
   (ssc (zcp (i:=4) sc__law_digits.nd rfl (az rfl) (vv 0))
   (ssc (ziq (iir1 (by rfl) T.m_range (zac (vv 2) zak)) (gnm (i:=5) sc__law_digits.nd rfl (az rfl))
   (ssc (sApp 3 (vop zdp (vv 4) (vv 1)))
   (ss1 (zcp (i:=4) sc__law_digits.nd rfl (az rfl) (vop zff (vv 4) (vv 1))))))
   (ssc (sIf (tww (tan (tcm (o_gt) (vv 2) zao (zaD _)) (tan (tcm (zkq) (vv 4) zao (zaD _)) (tan1 (tcm (zkq) (vix zc4 (vv 3) (vun zeV zao) (λ_ _=>rfl)) zao (zaD _)))))) (ssc (zcp (i:=4) sc__law_digits.nd rfl (az rfl) (vop zdp (vop zbb (vop zef (vv 0) zao) (vop zef zao (vv 2))) zao))
   (ssc (zcp (i:=3) sc__law_digits.nd rfl (az rfl) (zgP zak))
   (ss1 (ziq (iir1 (by rfl) T.m_range (zac (vv 2) zak)) (gnm (i:=5) sc__law_digits.nd rfl (az rfl))
   (ssc (zcp (i:=4) sc__law_digits.nd rfl (az rfl) (vop zdp (vop zbb (vop zbb (vop zef (vv 4) zao) (vop zef (vop zef zao (vv 5)) (vv 5))) zao) zao))
   (ss1 (sApp 3 (vop zdp (vop zff (vop zdp (vop zef (vv 4) (vv 4)) zao) zao) (vv 1))))))))) ss0)
   (ss1 (sRetV 3))))))
def zhp(T:Txt K mg)(F:FunA K "_law_pool" "_law_pool" zdb f fd):FnOk P w K mg base CX0 1 f fd ["_law_cell_here"] (spD K [.v] zc0):=by
 refine zaQ F sc__law_pool zei rfl (λ_ _ h=>h) λcdv A outer s H E hr=>?_;have hu:=zbg hr;exact(ssc (zcp (i:=1) sc__law_pool.nd rfl (ba rfl) vstr)
   (ssc (zcp (i:=2) sc__law_pool.nd rfl (az rfl) (vix zc4 (zgP (zac zao (zac zao (zac zao (zac zao zak))))) (vop zdp (vv 0) zao) (λ_ _=>rfl)))
   (ss1 (zdC (vlc (N:=["_law_k","_law_letters","_law_cell_here"]) (fr:=[1,0]) ⟨rfl,rfl,rfl,by decide +kernel,rfl,rfl⟩ (iir1 (by rfl) T.m_range (zac (vv 2) zak)) (λ_ _ _ _=>by exact if0) (λ_ _ _ _=>by exact(vix zkl (vv 1) (vop zdp (vop zbb (vop zff (vv 2) zao) (vv 0)) zao) (λ_ _=>rfl))))))))
def zfA(T:Txt K mg)(F:FunA K "_law_slipped" "_law_slipped" zci f fd):FnOk P w K mg base CX0 1 f fd ["_law_pool_here","_law_word","_law_digits_here"] (spD K [.b,.v,.b] zcE):=by
 refine zaQ F sc__law_slipped zct rfl (λ_ _ h=>h) λcdv A outer s H E hr=>?_;have hu:=zbg hr;exact(ssc (zcp (i:=3) sc__law_slipped.nd rfl (az rfl) (vv 1))
   (ssc (ziq (iib 2) (gnm (i:=4) sc__law_slipped.nd rfl (az rfl))
   (ssc (zcp (i:=5) sc__law_slipped.nd rfl (az rfl) (vop zdp (vop zff (vv 4) zao) (vop zbb (vcb zb6 (by rfl) T.m_len zal (zac (vv 3) zak)) zao)))
   (ssc (zcp (i:=6) sc__law_slipped.nd rfl (az rfl) (vix zc4 (vv 0) (vop zdp (vop zff (vv 4) zao) (vcb zer (by rfl) T.m_len zal (zac (vv 0) zak))) (λ_ _=>rfl)))
   (ss1 (sIf (tcm (zkq) (vop zdp (vv 4) zao) zao (zaD _)) (ss1 (zcp (i:=3) sc__law_slipped.nd rfl (az rfl) (vop zdB (vop zdB (vsl zdH (vv 3) von (vos (vv 5))) (vv 6)) (vsl zdH (vv 3) (vos (vv 5)) von)))) (ss1 (sIf (tcm (zkq) (vop zdp (vv 4) zao) zao (zaD _)) (ss1 (zcp (i:=3) sc__law_slipped.nd rfl (az rfl) (vop zdB (vsl zdH (vv 3) von (vos (vv 5))) (vsl zdH (vv 3) (vos (vop zbb (vv 5) zao)) von)))) (ss1 (zcp (i:=3) sc__law_slipped.nd rfl (az rfl) (vop zdB (vop zdB (vsl zdH (vv 3) von (vos (vv 5))) (vix zc4 (zgP (zac (vv 6) (zac vstr zak))) (vct c_int1 (by rfl) T.m_int boot_int (zac (vcmp (zkq) (vv 5) (vcb zb6 (by rfl) T.m_len zal (zac (vv 3) zak)) (zaD _)) zak)) (λ_ _=>rfl))) (vsl zdH (vv 3) (vos (vop zbb (vv 5) zao)) von)))))))))))
   (ss1 (sRetV 3))))
def zgf(T:Txt K mg)(F:FunA K "_law_turned" "_law_turned" zcs f fd):FnOk P w K mg base CX0 1 f fd ["_law_word","_law_digits_here"] (spD K [.v,.b] zcj):=by
 refine zaQ F sc__law_turned zcU rfl (λ_ _ h=>h) λcdv A outer s H E hr=>?_;have hu:=zbg hr;exact(ssc (zcp (i:=2) sc__law_turned.nd rfl (az rfl) (vv 0))
   (ssc (zcp (i:=3) sc__law_turned.nd rfl (az rfl) zao)
   (ssc (ziq (iib 1) (gnm (i:=4) sc__law_turned.nd rfl (az rfl))
   (ssc (zcp (i:=3) sc__law_turned.nd rfl (az rfl) (vop zbb (vv 3) (vop zdp (vv 4) zao)))
   (ssc (sIf (tcm ((o_lt)) (vop zbb (vv 3) zao) (vcb zb6 (by rfl) T.m_len zal (zac (vv 2) zak)) (zaD _)) (ss1 (zcp (i:=2) sc__law_turned.nd rfl (az rfl) (vop zdB (vop zdB (vop zdB (vsl zdH (vv 2) von (vos (vv 3))) (vix zkl (vv 2) (vop zbb (vv 3) zao) (λ_ _=>rfl))) (vix zkl (vv 2) (vv 3) (λ_ _=>rfl))) (vsl zdH (vv 2) (vos (vop zbb (vv 3) zao)) von)))) ss0)
   (ss1 (zcp (i:=3) sc__law_turned.nd rfl (az rfl) (vop zbb (vv 3) zao))))))
   (ss1 (sRetV 2)))))
def zhU(T:Txt K mg)(F:FunA K "_law_told" "_law_told" zde f fd):FnOk P w K mg base CX0 1 f fd ["_law_ends","_law_end","_law_many"] (spD K [.v,.v,.v] zbz):=by
 refine zaQ F zhG zeh rfl (λ_ _ h=>h) λcdv A outer s H E hr=>?_;have hu:=zbg hr;exact(ss1 (zdC (vcmp (o_neD hr) (vlc (N:=["_law_pair","_law_end","_law_many"]) (fr:=[1,2]) ⟨rfl,rfl,rfl,by decide +kernel,rfl,rfl⟩ (iit (vv 0)) (λ_ _ _ _=>by exact(if1 (tww (tan (tcm (zkq) (vix zds (vv 0) zao (λ_ _=>rfl)) (vv 1) (zaD _)) (tan1 (tcm (o_le) (vix zds (vv 0) zao (λ_ _=>rfl)) (vv 2) (zaD _))))))) (λ_ _ _ _=>by exact(vv 0))) (zgP zak) (zaD _))))
def zeN(T:Txt K mg)(F:FunA K "__init__" "Sight.__init__" zau f fd):FnOk P w K mg base CX0 1 f fd ["self","most"] (spM K zbX):=by
 obtain⟨C_Sight,DC_Sight⟩:=T.c_Sight;refine zfI (n:=1) F zeR zcH rfl (λ_ _ _ h=>h) λcdv A outer s H E hr=>?_;have hu:=zbg hr;exact(ssc (zko (ns:=[]) 0 DC_Sight.toF (vv 1))
   (ssc (zko (ns:=["most"]) 0 DC_Sight.toF zao)
   (ss1 (zko (ns:=["most","end"]) 0 DC_Sight.toF (zgP zak)))))
def zgN(T:Txt K mg)(F:FunA K "come" "Sight.come" za3 f fd):FnOk P w K mg base CX0 1 f fd ["self","price"] (spM K zb8):=by
 obtain⟨C_Sight,DC_Sight⟩:=T.c_Sight;refine zfI (n:=1) F zg9 zcF rfl (λ_ _ _ h=>h) λcdv A outer s H E hr=>?_;have hu:=zbg hr;exact(ssc (sIf (tww (tan (tcm (o_noN) (vv 1) vnon (zaD _)) (tan1 (tcm (o_le) (vv 1) (vFld (ns:=["most","end","pairs"]) 0 0 DC_Sight.toF) (zaD _))))) (ss1 (sFApp (ns:=["most","end","pairs"]) 0 2 DC_Sight.toF (zkg (zac (vFld (ns:=["most","end","pairs"]) 0 1 DC_Sight.toF) (zac (vv 1) zak))))) ss0)
   (ss1 (sFSet (ns:=["most","end","pairs"]) 0 1 DC_Sight.toF (vop zbb (vFld (ns:=["most","end","pairs"]) 0 1 DC_Sight.toF) zao))))
def zg6(T:Txt K mg)(F:FunA K "tell" "Sight.tell" za4 f fd):FnOk P w K mg base CX0 1 f fd ["self"] (spM K zda):=by
 obtain⟨C_Sight,DC_Sight⟩:=T.c_Sight;refine zfI (n:=0) F sc_Sight_tell zdV rfl (λ_ _ _ h=>h) λcdv A outer s H E hr=>?_;have hu:=zbg hr;exact(ssc (zcp (i:=1) sc_Sight_tell.nd rfl (az rfl) (vct zfa (by rfl) T.m_tuple zbL (zac (vFld (ns:=["most","end","pairs"]) 0 2 DC_Sight.toF) zak)))
   (ssc (sFSet (ns:=["most","end","pairs"]) 0 2 DC_Sight.toF (zgP zak))
   (ss1 (sRetV 1))))
def zfh(T:Txt K mg)(F:FunA K "__init__" "Book.__init__" zay f fd):FnOk P w K mg base CX0 1 f fd ["self"] (spM K za8):=by
 obtain⟨C_Book,DC_Book⟩:=T.c_Book;refine zfI (n:=0) F zfc zc5 rfl (λ_ _ _ h=>h) λcdv A outer s H E hr=>?_;have hu:=zbg hr;exact(ss1 (zko (ns:=[]) 0 DC_Book.toF vnon))
def zdD(T:Txt K mg)(F:FunA K "__init__" "Knot.__init__" zax f fd):FnOk P w K mg base CX0 1 f fd ["self","word"] (spM K zaF):=by
 obtain⟨C_Knot,DC_Knot⟩:=T.c_Knot;refine zfI (n:=1) F zfe zc6 rfl (λ_ _ _ h=>h) λcdv A outer s H E hr=>?_;have hu:=zbg hr;exact(ssc (zko (ns:=[]) 0 DC_Knot.toF (vv 1))
   (ss1 (zko (ns:=["word"]) 0 DC_Knot.toF vDI0)))
def zfT(T:Txt K mg)(F:FunA K "first_column" "first_column" zce f fd):FnOk P w K mg base CX0 2 f fd ["pattern","prices"] (spD K [.v,.t] zcv):=by
 obtain⟨_,_,D_stepped⟩:=T.d_stepped;have G_stepped:=zgz (P:=P) (base:=base) (w:=w) T (.of D_stepped.fn);refine zaQ F sc_first_column zdo rfl (λ_ _ h=>h) λcdv A outer s H E hr=>?_;have hu:=zbg hr;exact(ssc (zcp (i:=2) sc_first_column.nd rfl (az rfl) (zgP (zac zao zak)))
   (ssc (ziq (iir2 (by rfl) T.m_range (zac zao (zac (vop zbb (vcb zer (by rfl) T.m_len zal (zac (vv 0) zak)) zao) zak))) (gnm (i:=3) sc_first_column.nd rfl (az rfl))
   (ss1 (sApp 2 (vcl G_stepped D_stepped hr (by rfl) zas (zac (vix zc4 (vv 2) (vop zdI (vv 3) zao) (λ_ _=>rfl)) (zac (vix x_bt (vv 1) (vglI (by rfl) T.g_LEFT) (λ_ _=>rfl)) zak))))))
   (ss1 (zdC (vct zfa (by rfl) T.m_tuple zbL (zac (vv 2) zak))))))
def ze5(T:Txt K mg)(F:FunA K "further_column" "further_column" zbF f fd):FnOk P w K mg base CX0 2 f fd ["columns","pattern","text","prices","free"] (spD K [.b,.v,.v,.t,.v] zcI):=by
 obtain⟨_,_,D_cell_ahead_of_turn⟩:=T.d_cell_ahead_of_turn;have G_cell_ahead_of_turn:=zdW (P:=P) (base:=base) (w:=w) T (.of D_cell_ahead_of_turn.fn);obtain⟨_,_,D_lowest⟩:=T.d_lowest;have G_lowest:=ok_lowest (P:=P) (base:=base) (w:=w) T (.of D_lowest.fn);obtain⟨_,_,D_stepped⟩:=T.d_stepped;have G_stepped:=zgz (P:=P) (base:=base) (w:=w) T (.of D_stepped.fn);refine zaQ F sc_further_column zbV rfl (λ_ _ h=>h) λcdv A outer s H E hr=>?_;have hu:=zbg hr;exact(ssc (zcp (i:=5) sc_further_column.nd rfl (az rfl) (vix zc4 (vv 0) (vun zeV zao) (λ_ _=>rfl)))
   (ssc (zcp (i:=6) sc_further_column.nd rfl (az rfl) (zgP (zac (vif (tva (vv 4)) zao (vcl G_stepped D_stepped hr (by rfl) zas (zac (vix zds (vv 5) zao (λ_ _=>rfl)) (zac (vix x_bt (vv 3) (vglI (by rfl) T.g_PUT) (λ_ _=>rfl)) zak)))) zak)))
   (ssc (ziq (iir2 (by rfl) T.m_range (zac zao (zac (vop zbb (vcb zer (by rfl) T.m_len zal (zac (vv 1) zak)) zao) zak))) (gnm (i:=7) sc_further_column.nd rfl (az rfl))
   (ssc (zcp (i:=8) sc_further_column.nd rfl (az rfl) (vcmp (o_inS) (vix zkl (vv 2) (vun zeV zao) (λ_ _=>rfl)) (vix zds (vv 1) (vop zdI (vv 7) zao) (λ_ _=>rfl)) (by with_unfolding_all rfl)))
   (ss1 (sApp 6 (vcl G_lowest D_lowest hr (by rfl) zas (zac (zgP (zac (vif (tva (vv 8)) (vix zds (vv 5) (vop zdI (vv 7) zao) (λ_ _=>rfl)) (vcl G_stepped D_stepped hr (by rfl) zas (zac (vix zds (vv 5) (vop zdI (vv 7) zao) (λ_ _=>rfl)) (zac (vix x_bt (vv 3) (vglI (by rfl) T.g_EXCHANGED) (λ_ _=>rfl)) zak)))) (zac (vcl G_stepped D_stepped hr (by rfl) zas (zac (vix zds (vv 5) (vv 7) (λ_ _=>rfl)) (zac (vix x_bt (vv 3) (vglI (by rfl) T.g_PUT) (λ_ _=>rfl)) zak))) (zac (vcl G_stepped D_stepped hr (by rfl) zas (zac (vix zc4 (vv 6) (vop zdI (vv 7) zao) (λ_ _=>rfl)) (zac (vix x_bt (vv 3) (vglI (by rfl) T.g_LEFT) (λ_ _=>rfl)) zak))) (zac (vcl G_stepped D_stepped hr (by rfl) zas (zac (vcl G_cell_ahead_of_turn D_cell_ahead_of_turn hr (by rfl) zas (zac (vv 0) (zac (vv 1) (zac (vv 2) (zac (vv 7) zak))))) (zac (vix x_bt (vv 3) (vglI (by rfl) T.g_TURNED) (λ_ _=>rfl)) zak))) zak))))) zak))))))
   (ss1 (zdC (vct zfa (by rfl) T.m_tuple zbL (zac (vv 6) zak)))))))
def zfk(T:Txt K mg)(F:FunA K "kept_by_parts" "kept_by_parts" zb0 f fd):FnOk P w K mg base CX0 2 f fd ["W","most","T"] (spD K [.v,.v,.v] zch):=by
 obtain⟨_,_,D_joined⟩:=T.d_joined;have G_joined:=zhn (P:=P) (base:=base) (w:=w) T (.of D_joined.fn);obtain⟨_,_,D_places_of⟩:=T.d_places_of;have G_places_of:=zhr (P:=P) (base:=base) (w:=w) T (.of D_places_of.fn);refine zaQ F sc_kept_by_parts zcb rfl (λ_ _ h=>h) λcdv A outer s H E hr=>?_;have hu:=zbg hr;exact(ssc (zcp (i:=3) sc_kept_by_parts.nd rfl (az rfl) (zgP zak))
   (ssc (ziq (iir1 (by rfl) T.m_range (zac (vop zbb (vv 1) zao) zak)) (gnm (i:=4) sc_kept_by_parts.nd rfl (az rfl))
   (ssc (zcp (i:=5) sc_kept_by_parts.nd rfl (az rfl) (vop zff (vop zef (vv 4) (vcb zb6 (by rfl) T.m_len zal (zac (vv 0) zak))) (vop zbb (vv 1) zao)))
   (ssc (zcp (i:=6) sc_kept_by_parts.nd rfl (az rfl) (vop zff (vop zef (vop zbb (vv 4) zao) (vcb zb6 (by rfl) T.m_len zal (zac (vv 0) zak))) (vop zbb (vv 1) zao)))
   (ss1 (ziq (iil (vcl G_places_of D_places_of hr (by rfl) zas (zac (vsl zdH (vv 0) (vos (vv 5)) (vos (vv 6))) (zac (vv 2) zak)))) (gnm (i:=7) sc_kept_by_parts.nd rfl (az rfl))
   (ss1 (sApp 3 (zkg (zac (vcb zjn (by rfl) T.m_max zfq (zac (vop zdI (vop zdI (vv 7) (vv 5)) (vv 1)) (zac zao zak))) (zac (vcb c_min2 (by rfl) T.m_min zfn (zac (vop zbb (vop zdI (vop zbb (vv 7) (vcb zb6 (by rfl) T.m_len zal (zac (vv 0) zak))) (vv 5)) (vv 1)) (zac (vcb zb6 (by rfl) T.m_len zal (zac (vv 2) zak)) zak))) zak))))))))))
   (ss1 (zdC (vcl G_joined D_joined hr (by rfl) zas (zac (vv 3) zak))))))
def ze0(T:Txt K mg)(F:FunA K "kept_by_pieces" "kept_by_pieces" zbH f fd):FnOk P w K mg base CX0 2 f fd ["W","most","T","long"] (spD K [.v,.v,.v,.v] zcJ):=by
 obtain⟨_,_,D_joined⟩:=T.d_joined;have G_joined:=zhn (P:=P) (base:=base) (w:=w) T (.of D_joined.fn);obtain⟨_,_,D_number_shared⟩:=T.d_number_shared;have G_number_shared:=zfi (P:=P) (base:=base) (w:=w) T (.of D_number_shared.fn);obtain⟨_,_,D_times_of_pieces⟩:=T.d_times_of_pieces;have G_times_of_pieces:=zeF (P:=P) (base:=base) (w:=w) T (.of D_times_of_pieces.fn);obtain⟨_,_,D_windows⟩:=T.d_windows;have G_windows:=zki (P:=P) (base:=base) (w:=w) T (.of D_windows.fn);refine zaQ F sc_kept_by_pieces zbU rfl (λ_ _ h=>h) λcdv A outer s H E hr=>?_;have hu:=zbg hr;exact(ssc (zcp (i:=4) sc_kept_by_pieces.nd rfl (az rfl) (vop zdI (vop zbb (vop zdI (vcb zb6 (by rfl) T.m_len zal (zac (vv 0) zak)) (vv 3)) zao) (vop zef (vv 1) (vv 3))))
   (ssc (zcp (i:=5) sc_kept_by_pieces.nd rfl (az rfl) (vcl G_times_of_pieces D_times_of_pieces hr (by rfl) zas (zac (vv 0) (zac (vv 3) zak))))
   (ssc (zcp (i:=6) sc_kept_by_pieces.nd rfl (az rfl) (zgP zak))
   (ssc (ziq (iil (vcl G_windows D_windows hr (by rfl) zas (zac (vv 0) (zac (vv 1) (zac (vv 2) zak))))) (gtp rfl (gns1 (gnm (i:=7) sc_kept_by_pieces.nd rfl (az rfl)) (gns1 (gnm (i:=8) sc_kept_by_pieces.nd rfl (az rfl)) gns0)) (hl:=gl1 (gl1 (gl0))))
   (ss1 (sIf (tcm (o_ge) (vcl G_number_shared D_number_shared hr (by rfl) zas (zac (vv 5) (zac (vcl G_times_of_pieces D_times_of_pieces hr (by rfl) zas (zac (vsl zdH (vv 2) (vos (vv 7)) (vos (vv 8))) (zac (vv 3) zak))) zak))) (vv 4) (zaD _)) (ss1 (sApp 6 (zkg (zac (vv 7) (zac (vv 8) zak))))) ss0)))
   (ss1 (zdC (vcl G_joined D_joined hr (by rfl) zas (zac (vv 6) zak))))))))
def zii(T:Txt K mg)(F:FunA K "_law_text" "_law_text" zdi f fd):FnOk P w K mg base CX0 2 f fd ["_law_pool_here","_law_cell_here","_law_many"] (spD K [.b,.v,.v] zb4):=by
 obtain⟨_,_,D__law_digits⟩:=T.d__law_digits;have G__law_digits:=zea (P:=P) (base:=base) (w:=w) T (.of D__law_digits.fn);refine zaQ F zhA zem rfl (λ_ _ h=>h) λcdv A outer s H E hr=>?_;have hu:=zbg hr;exact(ss1 (zdC (vbm m_join vstr (zac (vlc (N:=["_law_digit","_law_pool_here"]) (fr:=[0]) ⟨rfl,rfl,rfl,by decide +kernel,rfl,rfl⟩ (iil (vcl G__law_digits D__law_digits hr (by rfl) zas (zac (vv 1) (zac (vcb zer (by rfl) T.m_len zal (zac (vv 0) zak)) (zac (vv 2) zak))))) (λ_ _ _ _=>by exact if0) (λ_ _ _ _=>by exact(vix zc4 (vv 1) (vv 0) (λ_ _=>rfl)))) zak))))
def zf3(T:Txt K mg)(F:FunA K "cells_of" "cells_of" zbA f fd):FnOk P w K mg base CX0 3 f fd ["P","T","prices","free"] (spD K [.v,.v,.t,.v] zdt):=by
 obtain⟨_,_,D_first_column⟩:=T.d_first_column;have G_first_column:=zfT (P:=P) (base:=base) (w:=w) T (.of D_first_column.fn);obtain⟨_,_,D_further_column⟩:=T.d_further_column;have G_further_column:=ze5 (P:=P) (base:=base) (w:=w) T (.of D_further_column.fn);obtain⟨_,_,D_row_across⟩:=T.d_row_across;have G_row_across:=zg8 (P:=P) (base:=base) (w:=w) T (.of D_row_across.fn);refine zaQ F sc_cells_of zeO rfl (λ_ _ h=>h) λcdv A outer s H E hr=>?_;have hu:=zbg hr;exact(ssc (zcp (i:=4) sc_cells_of.nd rfl (ba rfl) (zgP (zac (vcl G_first_column D_first_column hr (by rfl) zas (zac (vv 0) (zac (vv 2) zak))) zak)))
   (ssc (ziq (iir2 (by rfl) T.m_range (zac zao (zac (vop zbb (vcb zb6 (by rfl) T.m_len zal (zac (vv 1) zak)) zao) zak))) (gnm (i:=5) sc_cells_of.nd rfl (az rfl))
   (ss1 (sApp 4 (vcl G_further_column D_further_column hr (by rfl) zas (zac (vv 4) (zac (vv 0) (zac (vsl zdH (vv 1) von (vos (vv 5))) (zac (vv 2) (zac (vv 3) zak)))))))))
   (ss1 (zdC (vct zfa (by rfl) T.m_tuple zbL (zac (vlc (N:=["classes","columns"]) (fr:=[4]) ⟨rfl,rfl,rfl,by decide +kernel,rfl,rfl⟩ (iir1 (by rfl) T.m_range (zac (vop zbb (vcb zer (by rfl) T.m_len zal (zac (vv 0) zak)) zao) zak)) (λ_ _ _ _=>by exact if0) (λ_ _ _ _=>by exact(vcl G_row_across D_row_across hr (by rfl) zas (zac (vv 1) (zac (vv 0) zak))))) zak))))))
def ze2(T:Txt K mg)(F:FunA K "kept_by_counts" "kept_by_counts" zbK f fd):FnOk P w K mg base CX0 3 f fd ["W","most","T"] (spD K [.v,.v,.v] zbk):=by
 obtain⟨_,_,D_kept_by_pieces⟩:=T.d_kept_by_pieces;have G_kept_by_pieces:=ze0 (P:=P) (base:=base) (w:=w) T (.of D_kept_by_pieces.fn);refine zaQ F zeW zcK rfl (λ_ _ h=>h) λcdv A outer s H E hr=>?_;have hu:=zbg hr;exact(ss1 (zdC (vcl G_kept_by_pieces D_kept_by_pieces hr (by rfl) zas (zac (vv 0) (zac (vv 1) (zac (vv 2) (zac zao zak)))))))
def zdA(T:Txt K mg)(F:FunA K "price_between" "price_between" zbT f fd):FnOk P w K mg base CX0 4 f fd ["P","T","prices"] (spD K [.v,.v,.t] zaG):=by
 obtain⟨_,_,D_cells_of⟩:=T.d_cells_of;have G_cells_of:=zf3 (P:=P) (base:=base) (w:=w) T D_cells_of.fn;refine zaQ F zfg zc1 rfl (λ_ _ h=>h) λcdv A outer s H E hr=>?_;have hu:=zbg hr;exact(ss1 (zdC (vix zds (vix zds (vclD G_cells_of D_cells_of hr (by rfl) zas (zac (vv 0) (zac (vv 1) (zac (vv 2) zak)))) (vun zeV zao) (λ_ _=>rfl)) (vun zeV zao) (λ_ _=>rfl))))
def ze6(T:Txt K mg)(F:FunA K "prices_at_ends" "prices_at_ends" zbI f fd):FnOk P w K mg base CX0 4 f fd ["pattern","text","prices"] (spD K [.v,.v,.t] zbW):=by
 obtain⟨_,_,D_cells_of⟩:=T.d_cells_of;have G_cells_of:=zf3 (P:=P) (base:=base) (w:=w) T D_cells_of.fn;refine zaQ F zeT zcM rfl (λ_ _ h=>h) λcdv A outer s H E hr=>?_;have hu:=zbg hr;exact(ss1 (zdC (vix zds (vclF G_cells_of D_cells_of hr (by rfl) zas (zac (vv 0) (zac (vv 1) (zac (vv 2) (zac vbl zak))))) (vun zeV zao) (λ_ _=>rfl))))
def zgu(T:Txt K mg)(F:FunA K "ends_in" "ends_in" zd2 f fd):FnOk P w K mg base CX0 5 f fd ["P","T","most","prices"] (spD K [.v,.v,.v,.t] za9):=by
 obtain⟨C_Sight,DC_Sight⟩:=T.c_Sight;obtain⟨_,_,D_Sight___init__⟩:=T.d_Sight___init__;have G_Sight___init__:=zeN (P:=P) (base:=base) (w:=w) T D_Sight___init__.fn;obtain⟨_,_,D_Sight_come⟩:=T.d_Sight_come;have G_Sight_come:=zgN (P:=P) (base:=base) (w:=w) T D_Sight_come.fn;obtain⟨_,_,D_Sight_tell⟩:=T.d_Sight_tell;have G_Sight_tell:=zg6 (P:=P) (base:=base) (w:=w) T D_Sight_tell.fn;obtain⟨_,_,D_prices_at_ends⟩:=T.d_prices_at_ends;have G_prices_at_ends:=ze6 (P:=P) (base:=base) (w:=w) T (.of D_prices_at_ends.fn);refine zaQ F sc_ends_in zfU rfl (λ_ _ h=>h) λcdv A outer s H E hr=>?_;have hu:=zbg hr;exact(ssc (sSetO (i:=4) (by decide) sc_ends_in.nd rfl (az rfl) (vmake DC_Sight D_Sight___init__ G_Sight___init__ hr (by rfl) zas (zac (vv 2) zak)))
   (ssc (ziq (iit (vcl G_prices_at_ends D_prices_at_ends hr (by rfl) zas (zac (vv 0) (zac (vv 1) (zac (vv 3) zak))))) (gnm (i:=5) sc_ends_in.nd rfl (az rfl))
   (ss1 (sX (xmeth (ns:=["most","end","pairs"]) 4 DC_Sight D_Sight_come G_Sight_come hr zas (zac (vv 5) zak)))))
   (ss1 (sXRet (xmeth0 (ns:=["most","end","pairs"]) 4 DC_Sight D_Sight_tell G_Sight_tell hr zas)))))
def zdE(T:Txt K mg)(F:FunA K "slips_between" "slips_between" zbZ f fd):FnOk P w K mg base CX0 5 f fd ["word","other"] (spD K [.v,.v] zah):=by
 obtain⟨_,_,D_pattern_of⟩:=T.d_pattern_of;have G_pattern_of:=zdw (P:=P) (base:=base) (w:=w) T (.of D_pattern_of.fn);obtain⟨_,_,D_price_between⟩:=T.d_price_between;have G_price_between:=zdA (P:=P) (base:=base) (w:=w) T (.of D_price_between.fn);refine zaQ F zfj zc2 rfl (λ_ _ h=>h) λcdv A outer s H E hr=>?_;have hu:=zbg hr;exact(ss1 (zdC (vcl G_price_between D_price_between hr (by rfl) zas (zac (vcl G_pattern_of D_pattern_of hr (by rfl) zas (zac (vv 0) zak)) (zac (vv 1) (zac (vglB (by rfl) T.u_PLAIN_PRICES) zak))))))
def ok_hang(T:Txt K mg)(F:FunA K "hang" "hang" zgQ f fd):FnOk P w K mg base CX0 6 f fd ["top","word"] (spM K zhY):=by
 obtain⟨C_Knot,DC_Knot⟩:=T.c_Knot;obtain⟨_,_,D_Knot___init__⟩:=T.d_Knot___init__;have G_Knot___init__:=zdD (P:=P) (base:=base) (w:=w) T D_Knot___init__.fn;obtain⟨_,_,D_slips_between⟩:=T.d_slips_between;have G_slips_between:=zdE (P:=P) (base:=base) (w:=w) T (.of D_slips_between.fn);refine zfI (n:=1) F sc_hang F_hang rfl (λ_ _ _ h=>h) λcdv A outer s H E hr=>?_;have hu:=zbg hr;exact(sHang (gi:=zaF) DC_Knot.toF kinit (sset (i:=2) sc_hang.nd rfl (az rfl) (wv 0)) (sset (i:=3) sc_hang.nd rfl (az rfl) (wcl G_slips_between D_slips_between hr (by rfl) zas (wac ⟨zed (wv 2).h rfl⟩ (wac (wv 1) wnil)))) (swhile gJ (tw (tand (tcmp op_gt (wv 3) wint (zaD _)) (tand1 (tcmp op_inI (wv 3) ⟨zed (wv 2).h rfl⟩ (by with_unfolding_all rfl))))) (sc (sset (i:=2) sc_hang.nd rfl (az rfl) (wix ix_di ⟨zed (wv 2).h rfl⟩ (wv 3) (λ_ _=>rfl))) (s1 (sset (i:=3) sc_hang.nd rfl (az rfl) (wcl G_slips_between D_slips_between hr (by rfl) zas (wac ⟨zed (wv 2).h rfl⟩ (wac (wv 1) wnil))))))) (sif (tcmp op_eq (wv 3) wint (zaD _)) (s1 (sret wbl)) s0) (λtK h=>sasg h ⟨pg_sub (zed (wv 2).h rfl) (wv 3).h set_di⟩) (sret wbl) (vmake DC_Knot D_Knot___init__ G_Knot___init__ hr (by rfl) zas (zac (vv 1) zak)))
def zeB(T:Txt K mg)(F:FunA K "ends_in_stretch" "ends_in_stretch" zbp f fd):FnOk P w K mg base CX0 6 f fd ["word","most","text","begin","end"] (spD K [.v,.v,.v,.v,.v] zbM):=by
 obtain⟨_,_,D_ends_in⟩:=T.d_ends_in;have G_ends_in:=zgu (P:=P) (base:=base) (w:=w) T (.of D_ends_in.fn);obtain⟨_,_,D_pattern_of⟩:=T.d_pattern_of;have G_pattern_of:=zdw (P:=P) (base:=base) (w:=w) T (.of D_pattern_of.fn);refine zaQ F sc_ends_in_stretch zbG rfl (λ_ _ h=>h) λcdv A outer s H E hr=>?_;have hu:=zbg hr;exact(ssc (sIf (tcm (o_gt) (vv 3) (vv 4) (zaD _)) (ss1 (zdC (zgP zak))) ss0)
   (ssc (zcp (i:=5) sc_ends_in_stretch.nd rfl (az rfl) (vcl G_ends_in D_ends_in hr (by rfl) zas (zac (vcl G_pattern_of D_pattern_of hr (by rfl) zas (zac (vv 0) zak)) (zac (vsl zdH (vv 2) (vos (vv 3)) (vos (vv 4))) (zac (vv 1) (zac (vglB (by rfl) T.u_PLAIN_PRICES) zak))))))
   (ss1 (zdC (vl2 (N:=["signs","price","begin"]) (fr:=[3]) ⟨rfl,rfl,rfl,rfl,rfl⟩ rfl rfl (by decide +kernel) rfl rfl (iit (vv 5)) (λ_ _ _ _=>by exact if0) (λ_ _ _ _=>by exact(zkg (zac (vop zbb (vv 2) (vv 0)) (zac (vv 1) zak)))))))))
def zh8{kC:Str->ae}(hK:∀c C,zcl K c C->C=kC c)(T:Txt K mg)(F:FunA K "near" "Book.near" zba f fd):FnOk P w K mg base CX0 6 f fd ["self","W","most"] (spD K [.v,.v,.v] (zb2 kC)):=by
 obtain⟨C_Book,DC_Book⟩:=T.c_Book;obtain⟨C_Knot,DC_Knot⟩:=T.c_Knot;obtain⟨_,_,D_knots_in_reach⟩:=T.d_knots_in_reach;have G_knots_in_reach:=zeX (P:=P) (base:=base) (w:=w) hK T (.of D_knots_in_reach.fn);obtain⟨_,_,D_slips_between⟩:=T.d_slips_between;have G_slips_between:=zdE (P:=P) (base:=base) (w:=w) T (.of D_slips_between.fn);refine zaQ F sc_Book_near (zdv kC) rfl (λ_ _ h=>h) λcdv A outer s H E hr=>?_;have hu:=zbg hr;exact(ssc (sIf (tcm (o_isN) (zkd (ns:=["top"]) 0 DC_Book (hK _ _ DC_Book.at_) (vv 0)) vnon (zaD _)) (ss1 (zdC (zkg zak))) ss0)
   (ssc (zcp (i:=3) sc_Book_near.nd rfl (az rfl) (zgP zak))
   (ssc (zcp (i:=4) sc_Book_near.nd rfl (az rfl) (zgP (zac (zkd (ns:=["top"]) 0 DC_Book (hK _ _ DC_Book.at_) (vv 0)) zak)))
   (ssc (sWhl 1000 (tcm (o_gt) (vcb zer (by rfl) T.m_len zal (zac (vv 4) zak)) zao (zaD _))
   (ssc (sPop 4 (gnm (i:=5) sc_Book_near.nd rfl (az rfl)))
   (ssc (zcp (i:=6) sc_Book_near.nd rfl (az rfl) (vcl G_slips_between D_slips_between hr (by rfl) zas (zac (zkd (ns:=["word","branches"]) 0 DC_Knot (hK _ _ DC_Knot.at_) (vv 5)) (zac (vv 1) zak))))
   (ssc (sIf (tcm (o_le) (vv 6) (vv 2) (zaD _)) (ss1 (sApp 3 (zkg (zac (vv 6) (zac (zkd (ns:=["word","branches"]) 0 DC_Knot (hK _ _ DC_Knot.at_) (vv 5)) zak))))) ss0)
   (ss1 (sExt 4 (vcl G_knots_in_reach D_knots_in_reach hr (by rfl) zas (zac (vv 5) (zac (vv 6) (zac (vv 2) zak))))))))))
   (ss1 (zdC (vct zfa (by rfl) T.m_tuple zbL (zac (vcb c_srtP (by rfl) T.m_sorted zfK (zac (vv 3) zak)) zak))))))))
def zfB(T:Txt K mg)(F:FunA K "ends_in_kept" "ends_in_kept" zcg f fd):FnOk P w K mg base CX0 7 f fd ["W","most","T","kept"] (spD K [.v,.v,.v,.v] zdl):=by
 obtain⟨_,_,D_ends_in_stretch⟩:=T.d_ends_in_stretch;have G_ends_in_stretch:=zeB (P:=P) (base:=base) (w:=w) T (.of D_ends_in_stretch.fn);refine zaQ F sc_ends_in_kept zcA rfl (λ_ _ h=>h) λcdv A outer s H E hr=>?_;have hu:=zbg hr;exact(ssc (zcp (i:=4) sc_ends_in_kept.nd rfl (az rfl) (zgP zak))
   (ssc (ziq (iit (vv 3)) (gtp rfl (gns1 (gnm (i:=5) sc_ends_in_kept.nd rfl (az rfl)) (gns1 (gnm (i:=6) sc_ends_in_kept.nd rfl (az rfl)) gns0)) (hl:=gl1 (gl1 (gl0))))
   (ss1 (sExt 4 (vcl G_ends_in_stretch D_ends_in_stretch hr (by rfl) zas (zac (vv 0) (zac (vv 1) (zac (vv 2) (zac (vcb zjn (by rfl) T.m_max zfq (zac (vv 5) (zac zao zak))) (zac (vcb c_min2 (by rfl) T.m_min zfn (zac (vv 6) (zac (vcb zb6 (by rfl) T.m_len zal (zac (vv 2) zak)) zak))) zak)))))))))
   (ss1 (zdC (vct zfa (by rfl) T.m_tuple zbL (zac (vv 4) zak))))))
def ziB(T:Txt K mg)(F:FunA K "put" "Book.put" zbu f fd):FnOk P w K mg base CX0 7 f fd ["self","W"] (spM K zaI):=by
 obtain⟨C_Book,DC_Book⟩:=T.c_Book;obtain⟨C_Knot,DC_Knot⟩:=T.c_Knot;obtain⟨_,_,D_Knot___init__⟩:=T.d_Knot___init__;have G_Knot___init__:=zdD (P:=P) (base:=base) (w:=w) T D_Knot___init__.fn;obtain⟨_,_,D_hang⟩:=T.d_hang;have G_hang:=ok_hang (P:=P) (base:=base) (w:=w) T (.of D_hang.fn);refine zfI (n:=1) F ziw zb5 rfl (λ_ _ _ h=>h) λcdv A outer s H E hr=>?_;have hu:=zbg hr;exact(ssc (sIf (vFIs (ns:=["top"]) 0 0 DC_Book.toF) (ssc (sFSet (ns:=["top"]) 0 0 DC_Book.toF (vmake DC_Knot D_Knot___init__ G_Knot___init__ hr (by rfl) zas (zac (vv 1) zak)))
   (ss1 (zdC vbl))) ss0)
   (ss1 (sXRet (xcof (ns:=["top"]) 0 0 DC_Book.toF G_hang D_hang hr (by rfl) zas (zac (vv 1) zak)))))
def ok_law(T:Txt K mg)(F:FunA K "law" "law" zeH f fd):FnOk P w K mg base CX0 8 f fd ["_law_script"] (spD K [.b] g_law):=by
 obtain⟨C_Book,DC_Book⟩:=T.c_Book;obtain⟨kC,hK⟩:=kC_ex K;obtain⟨_,_,D_Book___init__⟩:=T.d_Book___init__;have G_Book___init__:=zfh (P:=P) (base:=base) (w:=w) T D_Book___init__.fn;obtain⟨_,_,D_Book_near⟩:=T.d_Book_near;have G_Book_near:=zh8 (P:=P) (base:=base) (w:=w) hK T D_Book_near.fn;obtain⟨_,_,D_Book_put⟩:=T.d_Book_put;have G_Book_put:=ziB (P:=P) (base:=base) (w:=w) T D_Book_put.fn;obtain⟨_,_,D__law_cell⟩:=T.d__law_cell;have G__law_cell:=zh1 (P:=P) (base:=base) (w:=w) T (.of D__law_cell.fn);obtain⟨_,_,D__law_digits⟩:=T.d__law_digits;have G__law_digits:=zea (P:=P) (base:=base) (w:=w) T (.of D__law_digits.fn);obtain⟨_,_,D__law_pool⟩:=T.d__law_pool;have G__law_pool:=zhp (P:=P) (base:=base) (w:=w) T (.of D__law_pool.fn);obtain⟨_,_,D__law_slipped⟩:=T.d__law_slipped;have G__law_slipped:=zfA (P:=P) (base:=base) (w:=w) T (.of D__law_slipped.fn);obtain⟨_,_,D__law_text⟩:=T.d__law_text;have G__law_text:=zii (P:=P) (base:=base) (w:=w) T (.of D__law_text.fn);obtain⟨_,_,D__law_told⟩:=T.d__law_told;have G__law_told:=zhU (P:=P) (base:=base) (w:=w) T (.of D__law_told.fn);obtain⟨_,_,D__law_turned⟩:=T.d__law_turned;have G__law_turned:=zgf (P:=P) (base:=base) (w:=w) T (.of D__law_turned.fn);obtain⟨_,_,D_ends_in⟩:=T.d_ends_in;have G_ends_in:=zgu (P:=P) (base:=base) (w:=w) T (.of D_ends_in.fn);obtain⟨_,_,D_ends_in_kept⟩:=T.d_ends_in_kept;have G_ends_in_kept:=zfB (P:=P) (base:=base) (w:=w) T (.of D_ends_in_kept.fn);obtain⟨_,_,D_kept_by_counts⟩:=T.d_kept_by_counts;have G_kept_by_counts:=ze2 (P:=P) (base:=base) (w:=w) T (.of D_kept_by_counts.fn);obtain⟨_,_,D_kept_by_parts⟩:=T.d_kept_by_parts;have G_kept_by_parts:=zfk (P:=P) (base:=base) (w:=w) T (.of D_kept_by_parts.fn);obtain⟨_,_,D_pattern_of⟩:=T.d_pattern_of;have G_pattern_of:=zdw (P:=P) (base:=base) (w:=w) T (.of D_pattern_of.fn);obtain⟨_,_,D_price_between⟩:=T.d_price_between;have G_price_between:=zdA (P:=P) (base:=base) (w:=w) T (.of D_price_between.fn);refine zaQ F sc_law F_law rfl (λ_ _ h=>h) λcdv A outer s H E hr=>?_;have hu:=zbg hr;exact(ssc (zcp (i:=1) sc_law.nd rfl (az rfl) (vcl G__law_cell D__law_cell hr (by rfl) zas (zac (vv 0) (zac zao zak))))
   (ssc (zcp (i:=2) sc_law.nd rfl (az rfl) (vcl G__law_pool D__law_pool hr (by rfl) zas (zac (vv 1) zak)))
   (ssc (zcp (i:=3) sc_law.nd rfl (ba rfl) (vcl G__law_text D__law_text hr (by rfl) zas (zac (vv 2) (zac (vcl G__law_cell D__law_cell hr (by rfl) zas (zac (vv 0) (zac zao zak))) (zac (vop zbb zao (vop zdp (vop zff (vv 1) zao) zao)) zak)))))
   (ssc (zcp (i:=4) sc_law.nd rfl (az rfl) (vcl G__law_text D__law_text hr (by rfl) zas (zac (vv 2) (zac (vcl G__law_cell D__law_cell hr (by rfl) zas (zac (vv 0) (zac zao zak))) (zac (vop zdp (vop zff (vv 1) zao) zao) zak)))))
   (ssc (zcp (i:=5) sc_law.nd rfl (az rfl) (vop zdp (vop zff (vv 1) zao) zao))
   (ssc (zcp (i:=6) sc_law.nd rfl (az rfl) (vcl G__law_digits D__law_digits hr (by rfl) zas (zac (vcl G__law_cell D__law_cell hr (by rfl) zas (zac (vv 0) (zac zao zak))) (zac zao (zac (vv 5) zak)))))
   (ssc (zcp (i:=7) sc_law.nd rfl (az rfl) (vop zdp (vop zff (vv 1) zao) (vop zbb (vcb zb6 (by rfl) T.m_len zal (zac (vv 4) zak)) zao)))
   (ssc (zcp (i:=8) sc_law.nd rfl (az rfl) (vcl G_pattern_of D_pattern_of hr (by rfl) zas (zac (vv 3) zak)))
   (ssc (sIf (tcm (zkq) (vop zdp (vop zff (vv 1) zao) zao) zao (zaD _)) (ssc (zcp (i:=9) sc_law.nd rfl (az rfl) (vcl G__law_turned D__law_turned hr (by rfl) zas (zac (vv 3) (zac (vv 6) zak))))
   (ssc (zcp (i:=10) sc_law.nd rfl (az rfl) (vcl G_ends_in D_ends_in hr (by rfl) zas (zac (vv 8) (zac (vop zdB (vop zdB (vsl zdH (vv 4) von (vos (vv 7))) (vv 9)) (vsl zdH (vv 4) (vos (vv 7)) von)) (zac (vv 5) (zac (zkg (zac zao (zac zao (zac zao (zac zao zak))))) zak))))))
   (ssc (zcp (i:=11) sc_law.nd rfl (az rfl) (vcl G_price_between D_price_between hr (by rfl) zas (zac (vv 8) (zac (vv 9) (zac (zkg (zac zao (zac zao (zac zao (zac zao zak))))) zak)))))
   (ss1 (zdC (vand (vcl G__law_told D__law_told hr (by rfl) zas (zac (vv 10) (zac (vop zbb (vv 7) (vcb zb6 (by rfl) T.m_len zal (zac (vv 9) zak))) (zac (vv 5) zak)))) (vone (vcmp (o_le) (vv 11) (vv 5) (zaD _))))))))) ss0)
   (ssc (zcp (i:=9) sc_law.nd rfl (az rfl) (vcl G__law_slipped D__law_slipped hr (by rfl) zas (zac (vv 2) (zac (vv 3) (zac (vv 6) zak)))))
   (ssc (zcp (i:=12) sc_law.nd rfl (az rfl) (vop zdB (vop zdB (vsl zdH (vv 4) von (vos (vv 7))) (vv 9)) (vsl zdH (vv 4) (vos (vv 7)) von)))
   (ssc (zcp (i:=13) sc_law.nd rfl (az rfl) (vop zbb (vv 7) (vcb zb6 (by rfl) T.m_len zal (zac (vv 9) zak))))
   (ssc (sIf (tnt (tva (vcl G__law_told D__law_told hr (by rfl) zas (zac (vcl G_ends_in D_ends_in hr (by rfl) zas (zac (vv 8) (zac (vv 12) (zac (vv 5) (zac (zkg (zac zao (zac zao (zac zao (zac zao zak))))) zak))))) (zac (vv 13) (zac (vv 5) zak)))))) (ss1 (zdC vbl)) ss0)
   (ssc (ziq (iil (zgP (zac (vcl G_kept_by_parts D_kept_by_parts hr (by rfl) zas (zac (vv 3) (zac (vv 5) (zac (vv 12) zak)))) (zac (vcl G_kept_by_counts D_kept_by_counts hr (by rfl) zas (zac (vv 3) (zac (vv 5) (zac (vv 12) zak)))) zak)))) (gnm (i:=14) sc_law.nd rfl (az rfl))
   (ss1 (sIf (tnt (tva (vcl G__law_told D__law_told hr (by rfl) zas (zac (vcl G_ends_in_kept D_ends_in_kept hr (by rfl) zas (zac (vv 3) (zac (vv 5) (zac (vv 12) (zac (vv 14) zak))))) (zac (vv 13) (zac (vv 5) zak)))))) (ss1 (zdC vbl)) ss0)))
   (ssc (sSetO (i:=15) (by decide) sc_law.nd rfl (az rfl) (vmake0 DC_Book D_Book___init__ G_Book___init__ hr (by rfl) zas))
   (ssc (sX (xmeth (ns:=["top"]) 15 DC_Book D_Book_put G_Book_put hr zas (zac (vv 9) zak)))
   (ssc (sXIf (txw (txa (txn (txv (xmeth (ns:=["top"]) 15 DC_Book D_Book_put G_Book_put hr zas (zac (vv 3) zak)))) (txa1 (txp (tcm (o_ne) (vv 9) (vv 3) (zaD _)))))) (ss1 (zdC vbl)) ss0)
   (ssc (sSetLC (i:=16) sc_law.nd rfl (az rfl) (N:=["_law_pair","_law_word"]) (fr:=[3]) ⟨rfl,rfl,rfl,by decide +kernel,rfl,rfl⟩ (iit (vldM (g:=zb2) (ns:=["top"]) 15 hK DC_Book D_Book_near G_Book_near hr zas (vlv (vv 9) (vlv (vv 5) vln)))) (λ_ _ _ _=>by exact(if1 (tcm (zkq) (vix zds (vv 0) zao (λ_ _=>rfl)) (vv 1) (zaD _)))) (λ_ _ _ _=>by exact(vv 0)))
   (ss1 (zdC (vand (vcmp (zkq) (vcb zer (by rfl) T.m_len zal (zac (vv 16) zak)) zao (zaD _)) (vand (vcmp (zkq) (vix zds (vix zc4 (vv 16) zao (λ_ _=>rfl)) zao (λ_ _=>rfl)) (vcl G_price_between D_price_between hr (by rfl) zas (zac (vv 8) (zac (vv 9) (zac (zkg (zac zao (zac zao (zac zao (zac zao zak))))) zak)))) (zaD _)) (vone (vcmp (o_le) (vix zds (vix zc4 (vv 16) zao (λ_ _=>rfl)) zao (λ_ _=>rfl)) (vv 5) (zaD _)))))))))))))))))))))))))
end
end N62

namespace N62
open PySem L2 L3
open CE in
def zcX(c:Option Int)(q:Int):zbw [oD c,.int q]=aa (.val (oD (stp c q))):=by
 cases c with
 |none=>simp (disch:=omega) only[zbw,zcr,stE,stN,oD,jqc,jqa,zdQ,zar,fIf,fOr,tOf,ex2,zab,aG,jqk,eC,gIsN,isN,gEq,zbt,toN,fNx,zaV,jqe,bOf,jqf,zb3,jra,sqO,zeI,stp,jqd,ite_self]
 |some i=>
  by_cases h:q=0
  ·simp (disch:=omega) only[zbw,zcr,stE,stN,oD,h,jqc,jqa,zdQ,zar,fIf,fOr,tOf,ex2,zab,aG,jqk,eC,gIsN,isN,gEq,zbt,toN,fNx,zaV,jqe,bOf,jqf,zb3,jqy,jqr,jrb,jra,sqO,zeI,stp]
  ·simp (disch:=omega) only[zbw,zcr,stE,stN,oD,jqc,jqa,zdQ,zar,fIf,fOr,tOf,ex2,zab,aG,jqk,eC,gIsN,isN,gEq,zbt,toN,fNx,zaV,jqe,bOf,jqf,zb3,h,jqz,jqr,jrb,sqO,pI0,iOf,zeI,stp]
open CE in
def ziU(δ:En)(cs:List (Option Int)):zb1 (λd=>zel (cEn [] δ d)) (λd=>zek (cEn [] δ d)) (cs.map oD)=aa ((cs.filterMap id).map D.int):=by
 induction cs with
 |nil=>rfl
 |cons c cs ih=>
  rw[ar,zb1,ih];cases c with
  |none=>rfl
  |some i=>rfl
open CE in
def lowest_q(cs:List (Option Int))(d:D)(hd:qOf (.val d)=aa (cs.map oD))(h:cs.length<=1000000):zev [d]=aa (.val (oD (lw cs))):=by
 have hE:eLC [] (qV (zab 0)) zel zek [aa (.val d)]=aa (.own ((cs.filterMap id).map D.int)):=
  zdO (by unfold qV;exact hd) (ziU _ cs) (by rw[al];exact aH (List.length_filterMap_le _ _) h)
 simp (disch:=omega) only[zev,zcr,stE,stN,jqc,jqa,zgT,zbt,ex2,aG,jqk,eC,gMinD,asL,toN,hE,zhK];cases hm:minI (cs.filterMap id)with
 |none=>simp (disch:=omega) only[jqa,jqc,zeI,oD,lw,hm]
 |some m=>simp (disch:=omega) only[jqa,jqc,zeI,oD,lw,hm]
open CE in
def lowest_eq(cs:List (Option Int))(h:cs.length<=1000000):zev [.lst (cs.map oD)]=aa (.val (oD (lw cs))):=lowest_q cs _ rfl h
def zgc(c:Nat->Nat->Option Int)(n a:Nat):D:=.tup ((aq (n+1)).map λj=>CE.oD (c a j))
def _root_.CE.Pr.ds(p:CE.Pr):List D:=[.int p.put,.int p.left,.int p.exch,.int p.turn]
def zcq(c:Nat->Nat->Option Int)(m j:Nat):D:=.tup ((aq (m+1)).map λi=>CE.oD (c i j))
def zfM(f:Nat->D)(n:Nat){k:Int}(h0:0<=k)(h:k.toNat<=n):atI ((aq (n+1)).map f) k=aa (f k.toNat):=by
 refine zdT h0 ?_;rw[aA,bH (by lia)];rfl
def zft(f:Nat->D)(n:Nat):atI ((aq (n+1)).map f) (-1)=aa (f n):=zjJ (by rw[cB,bn];simp)
def atI_m2{α:Type}{xs:List α}{x:α}(h2:2<=xs.length)(h:xs[xs.length-2]? =aa x):atI xs (-2)=aa x:=by
 unfold atI ixN;rw[if_neg (by lia),if_pos (by lia)];show xs[(-2+(xs.length:Int)).toNat]? =_;rw[show(-2+(xs.length:Int)).toNat=xs.length-2 by lia];exact h
def rng_last2(f:Nat->D)(n:Nat):atI ((aq (n+1+1)).map f) (-2)=aa (f n):=by
 refine atI_m2 (by simp) ?_;rw[al,bK,show n+1+1-2=n by lia,aA,bH (by lia)];rfl
structure Win(c:Nat->Nat->Option Int)(fit:Nat->Nat->Bool)(P:List Str)(j:Nat)(cs:List D)(tx:List Nat):Prop where
 l:tx.length<=1000000
 c1:atI cs (-1)=aa (zcq c P.length j)
 s1:∃t,atI tx (-1)=aa t/\∀i,i<P.length->inS (mkS [t]) (P.getD i (mkS []))=fit i j
 two:(tx.length<2/\j=0)\/(2<=tx.length/\0<j/\atI cs (-2)=aa (zcq c P.length (j-1))/\∃t,atI tx (-2)=aa t/\∀i,i<P.length->inS (mkS [t]) (P.getD i (mkS []))=fit i (j-1))
open CE in
def ahead_eq{c:Nat->Nat->Option Int}{fit:Nat->Nat->Bool}{P:List Str}{j:Nat}{cs:List D}{tx:List Nat}(W:Win c fit P j cs tx)(i:Nat)(hi:i<P.length) :
  za5 [.lst cs,.tup (P.map .str),.str (mkS tx),.int (1+(i:Int))]=aa (.val (oD (tc fit c i j))):=by
 have hl:tx.length<=1000000:=W.l
 suffices hF:zaO [aa (.bor cs),aa (.val (.tup (P.map .str))),aa (.val (.str (mkS tx))),aa (.val (.int (1+(i:Int))))]=aa (.rt (.val (oD (tc fit c i j))) [aa (.bor cs),aa (.val (.tup (P.map .str))),aa (.val (.str (mkS tx))),aa (.val (.int (1+(i:Int))))])from
  (congrArg (λo=>cu o _) hF).trans rfl
 have t1:=orLt (X:=zab 3) (Y:=eCB zaA (zaa (zab 2) zad)) (c:=2) (δ:=[aa (.bor cs),aa (.val (.tup (P.map .str))),aa (.val (.str (mkS tx))),aa (.val (.int (1+(i:Int))))]) rfl (zj1 rfl (zaq tx) hl);by_cases h:0<i/\2<=tx.length
 ·rcases W.two with ⟨h2,_⟩|⟨_,hj,q2,t',e2,g2⟩
  ·lia
  ·obtain⟨t,e1,g1⟩:=W.s1;have hi1:i-1<P.length:=eN (Nat.sub_le _ _) hi;have ht:tc fit c i j=if (fit i (j-1)&&fit (i-1) j)=true then c (i-1) (j-1)else ab:=by unfold tc;rw[if_pos ⟨h.1,hj⟩]
   have k1:1+(i:Int)-1=(i:Int):=by lia
   have k2:1+(i:Int)-2=((i-1:Nat):Int):=by lia
   have a3:=ziV D.str (mkS []) (xs:=P) (i:=(i:Int)) (dO _) (by simpa using hi);have a4:=ziV D.str (mkS []) (xs:=P) (i:=((i-1:Nat):Int)) (dO _) (by simpa using hi1);have a6:atI ((aq (P.length+1)).map λk=>oD (c k (j-1))) ((i-1:Nat):Int)=aa (oD (c (i-1) (j-1))):=by
    rw[zfM _ _ (dO _) (by simp;lia)];rfl
   have f1:=g2 i hi;have f2:=g1 (i-1) hi1;have s1:=zj3 (E:=zab 3) (F:=eC (.int 1)) (δ:=[aa (.bor cs),aa (.val (.tup (P.map .str))),aa (.val (.str (mkS tx))),aa (.val (.int (1+(i:Int))))]) rfl rfl;have s2:=zj3 (E:=zab 3) (F:=eC (.int 2)) (δ:=[aa (.bor cs),aa (.val (.tup (P.map .str))),aa (.val (.str (mkS tx))),aa (.val (.int (1+(i:Int))))]) rfl rfl;rw[k1]at s1;rw[k2]at s2;have n1:=niSS (ixSS (E:=zab 2) (F:=ex1 zeL (eC (.int 2))) rfl hl rfl e2) (zjZ (E:=zab 1) rfl s1 a3);have n2:=niSS (ixSS (E:=zab 2) (F:=ex1 zeL (eC (.int 1))) rfl hl rfl e1) (zjZ (E:=zab 1) rfl s2 a4);have t2:=orB n1 n2;rw[eR,eR,f1,f2,<- Bool.not_and]at t2;rw[decide_eq_false (by lia)]at t1;refine(show zaO _=_ from zbD (fIfF t1)).trans ?_;rw[ht];cases v:(fit i (j-1)&&fit (i-1) j)with
   |false=>rw[v]at t2;exact fSeqR ((fIfT t2).trans (zfW rfl))
   |true=>rw[v]at t2;exact(zbD (fIfF t2)).trans (zfW (zjZ (ixLB rfl rfl q2) s2 a6))
 ·have ht:tc fit c i j=ab:=by
   unfold tc;rw[if_neg];intro q;rcases W.two with ⟨h2,hj⟩|⟨h2,_⟩
   ·lia
   ·exact h ⟨q.1,h2⟩
  rw[decide_eq_true (by lia)]at t1;rw[ht];exact show zaO _=_ from fSeqR ((fIfT t1).trans (zfW rfl))
open CE in
def ziH(P:List Str)(p:Pr)(free:Bool)(fit:Nat->Nat->Bool)(k:Nat)(hk:k<P.length)(hP:P.length<=100000) :
  zbE [aa (.val (.tup (P.map .str))),aa (.bt p.ds),aa (.own ((aq (k+1)).map λi=>oD (cel fit p free i 0))),aa (.val (.int (1+(k:Int))))] =
  aa (.nx [aa (.val (.tup (P.map .str))),aa (.bt p.ds),aa (.own ((aq (k+1+1)).map λi=>oD (cel fit p free i 0))),aa (.val (.int (1+(k:Int))))]):=by
 have hl:(((aq (k+1)).map λi=>oD (cel fit p free i 0))).length<1000000:=by simp;lia
 have hx:atI ((aq (k+1)).map λi=>oD (cel fit p free i 0)) (1+(k:Int)-1)=aa (oD (cel fit p free k 0)):=by
  rw[zfM _ _ (by lia) (by lia),show(1+(k:Int)-1).toNat=k by lia]
 have h0:atI [D.int p.put,D.int p.left,D.int p.exch,D.int p.turn] 1=aa (.int p.left):=rfl;have e:(aq (k+1+1)).map (λi=>oD (cel fit p free i 0))=(aq (k+1)).map (λi=>oD (cel fit p free i 0))++[oD (cel fit p free (k+1) 0)]:=by
  rw[cB (n:=k+1),bn];rfl
 rw[e,zi8];simp (disch:=omega) only[zbE,zf6,Pr.ds,jqf,jqe,zag,zaa,ex2,zab,eC,zee,pI0,iOf,jqa,jqc,zdJ,asL,hx,ziY,btOf,h0,zad,zat,zbs,asV,zcX,zap,jqh,jqg,zaf]
open CE in
def firstc_eq(P:List Str)(p:Pr)(free:Bool)(fit:Nat->Nat->Bool)(hP:P.length<=100000) :
  zcv [.tup (P.map .str),.tup p.ds]=aa (.val (zcq (cel fit p free) P.length 0)):=by
 obtain⟨δ',w1,kv,rfl⟩:=zc3 (tg:=gNm 3) (f:=zbE) (λk δ=>∃kv,δ=[aa (.val (.tup (P.map .str))),aa (.bt p.ds),aa (.own ((aq (k+1)).map λi=>oD (cel fit p free i 0))),kv])
  ((aq P.length).map λ(k:Nat)=>D.int (1+(k:Int))) 0 _ (λk d δ hd hδ=>by
   obtain⟨kv,rfl⟩:=hδ;rw[bi];rw[aA]at hd;have hk:k<P.length:=by
    cases q:(aq P.length)[k]? with
    |none=>rw[q]at hd;cases hd
    |some z=>have:=(bo.mp q).1;simpa using this
   rw[bH hk]at hd;cases hd;exact⟨_,_,rfl,.inl (ziH P p free fit k hk hP),_,rfl⟩) ⟨ab,rfl⟩
 have hb1:b62 1:=zdj (by decide);have hb2:b62 ((P.length:Int)+1):=zdj (by lia);have hn:((P.length:Int)+1-1).toNat=P.length:=by lia
 have hl:P.length<=100000:=hP;simp only[al,bK,bi]at w1;simp only[cB (n:=0),gN,cy,ar,bu,zgo,oD_s,oD_n]at w1;simp (disch:=omega) only[zcv,zcr,stE,stN,jqc,jqa,zdo,zar,za0,zcW,zaa,eC,zad,jqp,jqq,Nat.reduceLeDiff,zdF,asV,jra,aG,toN,zaV,sqO,zdK,iR2,ex2,eCB,zab,pI0,iOf,jqi,jqj,jqh,jqg,jqe,zbP,zdY,al,zcz,jre,hn,zaf,w1,zbt,jqf,zdr,asL,zeI,zcq]
open CE in
def zhk(P:List Str)(p:Pr)(free:Bool)(fit:Nat->Nat->Bool)(cs:List D)(tx:List Nat)(j k:Nat)(W:Win (cel fit p free) fit P j cs tx)(f8:Option Ent)(hk:k<P.length)(hP:P.length<=100000) :
  zbf [aa (.bor cs),aa (.val (.tup (P.map .str))),aa (.val (.str (mkS tx))),aa (.bt p.ds),aa (.val (.bl free)),aa (.val (zcq (cel fit p free) P.length j)),aa (.own ((aq (k+1)).map λi=>oD (cel fit p free i (j+1)))),aa (.val (.int (1+(k:Int)))),f8] =
  aa (.nx [aa (.bor cs),aa (.val (.tup (P.map .str))),aa (.val (.str (mkS tx))),aa (.bt p.ds),aa (.val (.bl free)),aa (.val (zcq (cel fit p free) P.length j)),aa (.own ((aq (k+1+1)).map λi=>oD (cel fit p free i (j+1)))),aa (.val (.int (1+(k:Int)))),aa (.val (.bl (fit k j)))]):=by
 have hl:(((aq (k+1)).map λi=>oD (cel fit p free i (j+1)))).length<1000000:=by simp;lia
 have hx:atI ((aq (k+1)).map λi=>oD (cel fit p free i (j+1))) (1+(k:Int)-1)=aa (oD (cel fit p free k (j+1))):=by
  rw[zfM _ _ (by lia) (by lia),show(1+(k:Int)-1).toNat=k by lia]
 obtain⟨t,a1,g1⟩:=W.s1;have f1:=g1 k hk;have k1:1+(k:Int)-1=(k:Int):=by lia
 have a2:=ziV D.str (mkS []) (xs:=P) (i:=(k:Int)) (dO _) (by simpa using hk);have a3:atI ((aq (P.length+1)).map λi=>oD (cel fit p free i j)) (k:Int)=aa (oD (cel fit p free k j)):=by
  rw[zfM _ _ (dO _) (by simp;lia)];rfl
 have a4:atI ((aq (P.length+1)).map λi=>oD (cel fit p free i j)) (1+(k:Int))=aa (oD (cel fit p free (k+1) j)):=by
  rw[zfM _ _ (by lia) (by lia),show(1+(k:Int)).toNat=k+1 by lia]
 rw[k1]at hx;have e:(aq (k+1+1)).map (λi=>oD (cel fit p free i (j+1)))=(aq (k+1)).map (λi=>oD (cel fit p free i (j+1)))++[oD (cel fit p free (k+1) (j+1))]:=by
  rw[cB (n:=k+1),bn];rfl
 rw[e,ze9];generalize (aq (k+1)).map (λi=>oD (cel fit p free i (j+1)))=ds at *;have sA:=zj3 (E:=zab 7) (F:=eC (.int 1)) (δ:=[aa (.bor cs),aa (.val (.tup (P.map .str))),aa (.val (.str (mkS tx))),aa (.bt p.ds),aa (.val (.bl free)),aa (.val (zcq (cel fit p free) P.length j)),aa (.own ds),aa (.val (.int (1+(k:Int)))),f8]) rfl rfl;have sB:=zj3 (E:=zab 7) (F:=eC (.int 1)) (δ:=[aa (.bor cs),aa (.val (.tup (P.map .str))),aa (.val (.str (mkS tx))),aa (.bt p.ds),aa (.val (.bl free)),aa (.val (zcq (cel fit p free) P.length j)),aa (.own ds),aa (.val (.int (1+(k:Int)))),aa (.val (.bl (fit k j)))]) rfl rfl;rw[k1]at sA sB;have v8:=inSS (ixSS (E:=zab 2) (F:=ex1 zeL (eC (.int 1))) rfl W.l rfl a1) (zjZ (E:=zab 1) rfl sA a2);rw[eR,f1]at v8;have x1:=zjZ (E:=zab 5) rfl sB a3;have x4:=zjZ (E:=zab 5) (F:=zab 7) (δ:=[aa (.bor cs),aa (.val (.tup (P.map .str))),aa (.val (.str (mkS tx))),aa (.bt p.ds),aa (.val (.bl free)),aa (.val (zcq (cel fit p free) P.length j)),aa (.own ds),aa (.val (.int (1+(k:Int)))),aa (.val (.bl (fit k j)))]) rfl rfl a4;have xL:=ixLW (E:=zab 6) rfl sB hx;have y1:=eIfI (A:=zab 8) rfl x1 ((zf9 x1 (Y:=ex2 ziY (zab 3) (eC (.int 2))) (b:=.int p.exch) rfl).trans (zcX _ _));have y2:=(zf9 x4 (Y:=ex2 ziY (zab 3) (eC (.int 0))) (b:=.int p.put) rfl).trans (zcX _ _)
 have y3:=(zf9 xL (Y:=ex2 ziY (zab 3) (eC (.int 1))) (b:=.int p.left) rfl).trans (zcX _ _)
 have z4:zag [.b,.v,.v,.v] za5 (zaa (zab 0) (zaa (zab 1) (zaa (zab 2) (zaa (zab 7) zad)))) [aa (.bor cs),aa (.val (.tup (P.map .str))),aa (.val (.str (mkS tx))),aa (.bt p.ds),aa (.val (.bl free)),aa (.val (zcq (cel fit p free) P.length j)),aa (.own ds),aa (.val (.int (1+(k:Int)))),aa (.val (.bl (fit k j)))]=aa (.val (oD (tc fit (cel fit p free) k j))):=ahead_eq W k hk;have y4:=(zf9 z4 (Y:=ex2 ziY (zab 3) (eC (.int 3))) (b:=.int p.turn) rfl).trans (zcX _ _)
 rw[show(if fit k j=true then oD (cel fit p free k j)else oD (stp (cel fit p free k j) p.exch))=oD (if fit k j=true then cel fit p free k j else stp (cel fit p free k j) p.exch) by cases fit k j <;> rfl]at y1;exact(show zbf _=_ from zaJ v8).trans (fAppI rfl ((low4 y1 y2 y3 y4).trans (lowest_eq [_,_,_,_] (show 4<=1000000 by decide))) hl)
open CE in
def zka(P:List Str)(p:Pr)(free:Bool)(fit:Nat->Nat->Bool)(cs:List D)(tx:List Nat)(j:Nat)(W:Win (cel fit p free) fit P j cs tx)(hP:P.length<=100000) :
  zcI [.lst cs,.tup (P.map .str),.str (mkS tx),.tup p.ds,.bl free]=aa (.val (zcq (cel fit p free) P.length (j+1))):=by
 obtain⟨δ',w1,kv,fv,rfl⟩:=zc3 (tg:=gNm 7) (f:=zbf) (λk δ=>∃kv fv,δ=[aa (.bor cs),aa (.val (.tup (P.map .str))),aa (.val (.str (mkS tx))),aa (.bt p.ds),aa (.val (.bl free)),aa (.val (zcq (cel fit p free) P.length j)),aa (.own ((aq (k+1)).map λi=>oD (cel fit p free i (j+1)))),kv,fv])
  ((aq P.length).map λ(k:Nat)=>D.int (1+(k:Int))) 0 _ (λk d δ hd hδ=>by
   obtain⟨kv,fv,rfl⟩:=hδ;rw[bi];rw[aA]at hd;have hk:k<P.length:=by
    cases q:(aq P.length)[k]? with
    |none=>rw[q]at hd;cases hd
    |some z=>have:=(bo.mp q).1;simpa using this
   rw[bH hk]at hd;cases hd;exact⟨_,_,rfl,.inl (zhk P p free fit cs tx j k W _ hk hP),_,_,rfl⟩) ⟨ab,ab,rfl⟩
 have hb1:b62 1:=zdj (by decide);have hb2:b62 ((P.length:Int)+1):=zdj (by lia);have hn:((P.length:Int)+1-1).toNat=P.length:=by lia
 have hl:P.length<=100000:=hP;have c1:=W.c1;have a2:atI ((aq (P.length+1)).map λi=>oD (cel fit p free i j)) 0=aa (oD (cel fit p free 0 j)):=by
  rw[zfM _ _ (by lia) (by simp)];rfl
 simp only[al,bK,bi]at w1;simp only[cB (n:=0),gN,cy,ar,bu,zie]at w1
 suffices hF:∃δ,zbV [aa (.bor cs),aa (.val (.tup (P.map .str))),aa (.val (.str (mkS tx))),aa (.bt p.ds),aa (.val (.bl free)),ab,ab,ab,ab]=aa (.rt (.val (zcq (cel fit p free) P.length (j+1))) δ)from
  hF.elim λ_ h=>(congrArg (λo=>cu o _) h).trans rfl
 have x0:=ixLB (E:=zab 0) (F:=ex1 zeL (eC (.int 1))) (δ:=[aa (.bor cs),aa (.val (.tup (P.map .str))),aa (.val (.str (mkS tx))),aa (.bt p.ds),aa (.val (.bl free)),ab,ab,ab,ab]) rfl rfl c1;have y0:=eIfI (A:=zab 4) (B:=eC (.int 0)) (δ:=[aa (.bor cs),aa (.val (.tup (P.map .str))),aa (.val (.str (mkS tx))),aa (.bt p.ds),aa (.val (.bl free)),aa (.val (zcq (cel fit p free) P.length j)),ab,ab,ab]) rfl rfl ((zf9 (zjZ (E:=zab 5) (F:=eC (.int 0)) rfl rfl a2) (Y:=ex2 ziY (zab 3) (eC (.int 0))) (b:=.int p.put) rfl).trans (zcX _ _));have h0:oD (if free=true then aa 0 else stp (cel fit p free 0 j) p.put)=(if free=true then D.int 0 else oD (stp (cel fit p free 0 j) p.put)):=by cases free <;> rfl
 rw[h0]at w1;have z0:=eLst1 y0;generalize (if free=true then D.int 0 else oD (stp (cel fit p free 0 j) p.put))=v0 at *;have ir:iR2 (zaa (eC (.int 1)) (zaa (ex2 zaV (eCB zbP (zaa (zab 1) zad)) (eC (.int 1))) zad)) [aa (.bor cs),aa (.val (.tup (P.map .str))),aa (.val (.str (mkS tx))),aa (.bt p.ds),aa (.val (.bl free)),aa (.val (zcq (cel fit p free) P.length j)),aa (.own [v0]),ab,ab]=aa ((aq P.length).map λ(k:Nat)=>D.int (1+(k:Int))):=by
  simp only[iR2,zaa,eC,ex2,eCB,zab,jqf,jqe,zad,jqc,jqa,zbP,zdY,al,zaV,pI0,iOf,hb2,jre,Int.reduceNeg,Int.reduceLT,and_self,zcz,hn,zaf]
 exact⟨_,(show zbV _=_ from zaJ x0).trans ((zbD (zgg z0)).trans ((forN ir w1).trans rfl))⟩
def getD_in{T:List Nat}{k:Nat}(h:k<T.length):T[k]? =aa (T.getD k 0):=by
 rw[aC h,bE,aC h];rfl
open CE in
def win_take(P:List Str)(T:List Nat)(c:Nat->Nat->Option Int)(k:Nat)(hk:k<T.length)(hT:T.length<=100000):Win c (zbO P T) P k ((aq (k+1)).map λj=>zcq c P.length j) (T.take (k+1)):=by
 have hl:(T.take (k+1)).length=k+1:=by rw[bw];lia
 refine⟨by lia,zft _ _,⟨T.getD k 0,?_,λi _=>rfl⟩,?_⟩
 ·refine zjJ ?_;rw[gd,hl,c9 (by lia),show k+1-1=k by lia];exact getD_in hk
 ·by_cases h:k=0
  ·exact .inl ⟨by lia,h⟩
  ·obtain⟨n,rfl⟩:∃n,k=n+1:=⟨k-1,by lia⟩;refine .inr ⟨by lia,by lia,rng_last2 _ n,T.getD n 0,?_,λi _=>rfl⟩;refine atI_m2 (by lia) ?_;rw[hl,c9 (by lia),show n+1+1-2=n by lia];exact getD_in (by lia)
open CE in
def across_eq(c:Nat->Nat->Option Int)(m n i:Nat)(hi:i<=m)(hn:n<=100000):zdd [.lst ((aq (n+1)).map λj=>zcq c m j),.int (i:Int)]=aa (.val (zgc c n i)):=by
 have ec:eLC [1] (iB 0) zcT zc8 [aa (.bor ((aq (n+1)).map λj=>zcq c m j)),aa (.val (.int (i:Int)))]=aa (.own ((aq (n+1)).map λj=>oD (c i j))):=by
  refine zdO (ds:=(aq (n+1)).map λj=>zcq c m j) rfl ?_ (by simp;lia);refine zhJ _ _ (by simp) (λd _=>rfl) λk d hd=>?_;rw[aA]at hd;obtain⟨j,e1,e2⟩:=gT.mp hd;subst e2;have ha:atI ((aq (m+1)).map λi=>oD (c i j)) (i:Int)=aa (oD (c i j)):=by
   rw[zfM _ _ (by lia) (by lia)];rfl
  refine⟨oD (c i j),?_,by rw[aA,e1];rfl⟩;simp only[zc8,ex2,zab,cEn,zcq,jqn,jqf,jqe,jqx,jqa,ziI,jqo,zen,zdY,iOf,ha,jqc,asV]
 have hl:n<=100000:=hn;simp (disch:=omega) only[zdd,zcr,stE,stN,jqc,jqa,zdX,zbt,eCB,zaa,aG,jqk,zad,toN,ec,zdr,asL,zeI,zgc]
open CE in
def zjA(P:List Str)(T:List Nat)(p:Pr)(free:Bool)(hP:P.length<=100000)(hT:T.length<=100000) :
  zdt [.tup (P.map .str),.str (mkS T),.tup p.ds,.bl free]=aa (.val (.tup ((aq (P.length+1)).map λi=>zgc (cel (zbO P T) p free) T.length i))):=by
 obtain⟨δ',w1,kv,rfl⟩:=zc3 (tg:=gNm 5) (f:=zdy) (λk δ=>∃kv,δ=[aa (.val (.tup (P.map .str))),aa (.val (.str (mkS T))),aa (.bt p.ds),aa (.val (.bl free)),aa (.own ((aq (k+1)).map λj=>zcq (cel (zbO P T) p free) P.length j)),kv])
  ((aq T.length).map λ(k:Nat)=>D.int (1+(k:Int))) 0 _ (λk d δ hd hδ=>by
   obtain⟨kv,rfl⟩:=hδ;rw[bi];rw[aA]at hd;have hk:k<T.length:=by
    cases q:(aq T.length)[k]? with
    |none=>rw[q]at hd;cases hd
    |some z=>have:=(bo.mp q).1;simpa using this
   rw[bH hk]at hd;cases hd;have fe:=zka P p free (zbO P T) ((aq (k+1)).map λj=>zcq (cel (zbO P T) p free) P.length j) (T.take (k+1)) k (win_take P T _ k hk hT) hP;have hl:((aq (k+1)).map λj=>zcq (cel (zbO P T) p free) P.length j).length<1000000:=by simp;lia
   have e:(aq (k+1+1)).map (λj=>zcq (cel (zbO P T) p free) P.length j)=(aq (k+1)).map (λj=>zcq (cel (zbO P T) p free) P.length j)++[zcq (cel (zbO P T) p free) P.length (k+1)]:=by
    rw[cB (n:=k+1),bn];rfl
   have hc:zbJ T ab (aa (1+(k:Int)))=T.take (k+1):=by rw[zja _ (by lia),show(1+(k:Int)).toNat=k+1 by lia]
   have hm:T.length<=1000000:=by lia
   refine⟨_,_,rfl,.inl ?_,aa (.val (.int (1+(k:Int)))),rfl⟩;rw[e];simp (disch:=omega) only[zdy,zf6,jqh,jqg,jqf,jqe,zag,zaa,zab,eSl,oNo,oSo,jqa,iOf,jqc,zcV,sOf,zaq,zap,zcf,hc,zaf,zad,zat,zbs,asL,asV,asT,fe]) ⟨ab,rfl⟩
 have hb1:b62 1:=zdj (by decide);have hb2:b62 ((T.length:Int)+1):=zdj (by lia);have hb3:b62 ((P.length:Int)+1):=zdj (by lia);have hn:((T.length:Int)+1-1).toNat=T.length:=by lia
 have hn3:((P.length:Int)+1).toNat=P.length+1:=by lia
 have f1:=firstc_eq P p free (zbO P T) hP;have hm:T.length<=1000000:=by lia
 have hm2:P.length<=100000:=hP;simp only[al,bK,bi]at w1;simp only[cB (n:=0),gN,cy,ar,bu]at w1;have ec:eLC [4] (iR1 (zaa (ex2 zaV (eCB zbP (zaa (zab 0) zad)) (eC (.int 1))) zad)) zcT zdx [aa (.val (.tup (P.map .str))),aa (.val (.str (mkS T))),aa (.bt p.ds),aa (.val (.bl free)),aa (.own ((aq (T.length+1)).map λj=>zcq (cel (zbO P T) p free) P.length j)),kv] =
   aa (.own ((aq (P.length+1)).map λi=>zgc (cel (zbO P T) p free) T.length i)):=by
  refine zdO (ds:=(aq (P.length+1)).map λ(i:Nat)=>D.int (0+(i:Int))) ?_ ?_ (by simp;lia)
  ·simp (disch:=omega) only[iR1,zaa,ex2,eCB,zab,jqe,zad,jqc,jqa,zbP,zdY,al,eC,zaV,pI0,iOf,zcz,hn3,zaf]
  ·refine zhJ _ _ (by simp) (λd _=>rfl) λk d hd=>?_;rw[aA]at hd;obtain⟨i,e1,e2⟩:=gT.mp hd;subst e2;have hi:i<=P.length:=by
    have:=bZ.mp (cL e1);lia
   have ac:=across_eq (cel (zbO P T) p free) P.length T.length i hi hT;refine⟨zgc (cel (zbO P T) p free) T.length i,?_,by rw[aA,e1];rfl⟩;rw[show(0+(i:Int))=(i:Int) by lia];simp only[zdx,zag,zaa,zab,cEn,jqn,jqf,jqe,jqx,jqa,ziI,jqo,zad,jqc,zat,zbs,asL,asV,ac]
 simp only[zaV]at ec;simp (disch:=omega) only[zdt,zcr,stE,stN,jqc,jqa,zeO,zar,za0,zcW,zaa,zag,zab,aG,zad,toN,zaV,jqi,jqj,jqe,jqf,zat,zbs,asV,asT,f1,jqp,jqq,Nat.reduceLeDiff,zdF,jra,jqh,jqg,sqO,zdK,iR2,eC,ex2,eCB,zaA,sOf,zaq,zap,zaf,pI0,iOf,zcz,jre,hn,w1,zbt];simp (disch:=omega) only[ec,jqa,zdr,asL,jqc,zeI]
open CE in
def zgE(P:List Str)(T:List Nat)(p:Pr)(hP:P.length<=100000)(hT:T.length<=100000) :
  zaG [.tup (P.map .str),.str (mkS T),.tup p.ds]=aa (.val (oD (cel (zbO P T) p false P.length T.length))):=by
 have c:=zjA P T p false hP hT;have l1:=zft (λi=>zgc (cel (zbO P T) p false) T.length i) P.length;have l2:=zft (λj=>oD (cel (zbO P T) p false P.length j)) T.length;simp (disch:=omega) only[zaG,zcr,stE,stN,jqc,jqa,zc1,zbt,ex2,zio,zaa,zab,aG,jqk,zad,ex1,eC,zeL,iOf,Int.reduceNeg,zen,zdY,toN,jqe,jqf,jqi,jqj,zat,zbs,asV,asT,c,l1];simp (disch:=omega) only[zgc,Int.reduceNeg,jqa,l2,jqc,zeI]
open CE in
def zg1(w:List Nat)(h:w.length<=1000000):zaw [.str (mkS w)]=aa (.val (.tup ((wP w).map .str))):=by
 have hl:(mkS w).length<=1000000:=by rw[zaq];exact h
 simp (disch:=omega) only[zaw,zcr,stE,stN,jqc,jqa,zdc,zbt,eCB,zaa,zab,aG,jqk,zad,toN,jqe,zkn,sOf,zap,sgn_mkS,zaf,zeI,wP]
def pp:CE.Pr:=⟨1,1,1,0⟩
def ziJ:pp.Ok:=⟨by decide,by decide,by decide,by decide⟩
open CE in
def cel_all(fit:Nat->Nat->Bool):∀(n i j:Nat),i+j<=n->∃m,cel fit pp false i j=aa m:=by
 intro n
 induction n with
 |zero=>
  intro i j h;obtain⟨rfl,rfl⟩:i=0/\j=0:=by lia
  exact⟨0,zgo ..⟩
 |succ n ih=>
  intro i j h
  match i,j with
  |0,0=>exact⟨0,zgo ..⟩
  |0,j+1=>
   obtain⟨m,hm⟩:=ih 0 j (by lia);exact⟨m+1,by rw[zie,hm];rfl⟩
  |i+1,0=>
   obtain⟨m,hm⟩:=ih i 0 (by lia);exact⟨m+1,by rw[zi8,hm];rfl⟩
  |i+1,j+1=>
   obtain⟨m,hm⟩:=ih (i+1) j (by lia);rw[ze9];obtain⟨m',h1,_⟩:=zkp (cs:=[if fit i j=true then cel fit pp false i j else stp (cel fit pp false i j) pp.exch,stp (cel fit pp false (i+1) j) pp.put,stp (cel fit pp false i (j+1)) pp.left,stp (tc fit (cel fit pp false) i j) pp.turn]) (c:=m+1) (by rw[hm];exact ah _ aj);exact⟨m',h1⟩
def ed(w t:List Nat):Int:=(_root_.CE.wd pp w t).getD 0
open CE in
def ev(w t:List Nat)(i j:Nat):Int:=(cel (zbO (wP w) t) pp false i j).getD 0
open CE in
def ev_cel(w t:List Nat)(i j:Nat):cel (zbO (wP w) t) pp false i j=aa (ev w t i j):=by
 obtain⟨m,h⟩:=cel_all (zbO (wP w) t) (i+j) i j (ak _);unfold ev;rw[h];rfl
open CE in
def zfd(w t:List Nat):wd pp w t=aa (ed w t):=by
 have:=ev_cel w t w.length t.length;unfold ed wd at *;rw[this];rfl
def zf2(w:List Nat):ed w w=0:=aJ ((zfd w w).symm.trans (CE.wd_self ziJ w))
def ed_swap(w t:List Nat):ed t w=ed w t:=aJ ((zfd t w).symm.trans ((CE.wd_swap ziJ rfl w t).trans (zfd w t)))
def ed_zero{w t:List Nat}(h:ed w t=0):w=t:=CE.wd_zero ziJ (by rw[zfd,h])
def zhy(w t:List Nat):0<=ed w t:=CE.wd_nonneg ziJ (zfd w t)
def ed_tri(u v w:List Nat):ed u w<=ed u v+ed v w:=by
 obtain⟨c,h1,h2⟩:=CE.wd_tri ziJ rfl (zfd u v) (zfd v w);rw[zfd]at h1;cases h1;exact h2
open CE in
def zhb(w t:List Nat)(hw:w.length<=1000)(ht:t.length<=1000):zah [.str (mkS w),.str (mkS t)]=aa (.val (.int (ed w t))):=by
 have h1:=zg1 w (by lia);have h2:=zgE (wP w) t pp (by rw[zec];lia) (by lia);rw[zec,show cel (zbO (wP w) t) pp false w.length t.length=aa (ed w t)from zfd w t,oD_s]at h2;have h3:pp.ds=[D.int 1,D.int 1,D.int 1,D.int 0]:=rfl;rw[h3]at h2;simp only[zah,zcr,stE,stN,jqc,jqa,zc2,zbt,zag,zaa,zab,aG,jqk,zad,eB,jqn,jqo,toN,jqe,zat,zbs,asV,h1,jqf,asT,h2,zeI]
inductive Kns(P:OT->List (List Nat)->Prop)(w:List Nat):List Int->List OT->List (List Nat)->Prop
 |nil:Kns P w [] [] []
 |cons {k:Int} {ks:List Int} {x:OT} {os:List OT} {us vs:List (List Nat)}:P x us->(∀u∈us,ed w u=k)->0<k->k∉ks->Kns P w ks os vs->Kns P w (k::ks) (x::os) (us++vs)
def Kn:Nat->OT->List (List Nat)->Prop
 |0,_,_=>False
 |n+1,x,us=>∃w ks os vs,x=mkK (mkS w) ks os/\us=w::vs/\Kns (Kn n) w ks os vs
section
variable {P:OT->List (List Nat)->Prop}{n:Nat}{x:OT}{w:List Nat}{ks:List Int}{os:List OT}{us vs:List (List Nat)}
def Kn.mk(h:Kns (Kn n) w ks os us):Kn (n+1) (mkK (mkS w) ks os) (w::us):=⟨w,ks,os,us,rfl,rfl,h⟩
def Kns.imp{P':OT->List (List Nat)->Prop}(f:∀x us,P x us->P' x us)(h:Kns P w ks os us):Kns P' w ks os us:=by
 induction h with
 |nil=>exact .nil
 |cons h1 h2 h3 h4 _ ih=>exact .cons (f _ _ h1) h2 h3 h4 ih
def Kn.up:∀{n:Nat} {x:OT} {us:List (List Nat)},Kn n x us->Kn (n+1) x us:=by
 intro n
 induction n with
 |zero=>intro x us h;exact h.elim
 |succ n ih=>
  rintro x us ⟨w,ks,os,vs,rfl,rfl,h⟩;exact Kn.mk (h.imp λ_ _=>ih)
def Kns.up(h:Kns (Kn n) w ks os us):Kns (Kn (n+1)) w ks os us:=h.imp λ_ _=>Kn.up
def Kn.get(h:Kn n x us):∃m w ks os vs,n=m+1/\x=mkK (mkS w) ks os/\us=w::vs/\Kns (Kn m) w ks os vs:=by
 match n,h with
 |m+1,⟨w,ks,os,vs,h1,h2,h3⟩=>exact⟨m,w,ks,os,vs,rfl,h1,h2,h3⟩
def Kn.pos(h:Kn n x us):0<us.length:=by
 obtain⟨_,_,_,_,_,_,_,rfl,_⟩:=h.get;exact Nat.zero_lt_succ _
def Kns.len(h:Kns (Kn n) w ks os us):ks.length=os.length/\ks.length<=us.length:=by
 induction h with
 |nil=>exact⟨rfl,ak _⟩
 |cons h1 _ _ _ _ ih=>
  refine⟨congrArg (· + 1) ih.1,?_⟩;rw[au,am,d5];exact Nat.add_le_add h1.pos ih.2
def Kns.mem(h:Kns P w ks os us):∀u∈us,ed w u∈ks/\0<ed w u:=by
 induction h with
 |nil=>intro u h;cases h
 |cons h1 h2 h3 h4 _ ih=>
  intro u h;rcases aQ.mp h with h|h
  ·rw[h2 u h];exact⟨aj,h3⟩
  ·exact⟨ah _ (ih u h).1,(ih u h).2⟩
def Kns.at{k:Int}(h:Kns (Kn n) w ks os us):∀{j:Nat},ks[j]? =aa k->∃x vs pre post,os[j]? =aa x/\Kn n x vs/\(∀u∈vs,ed w u=k)/\0<k/\us=pre++(vs++post)/\(∀u∈us,ed w u=k->u∈vs) /\
  ∀x' vs',Kn (n+1) x' vs'->(∀u∈vs',ed w u=k)->Kns (Kn (n+1)) w ks (os.set j x') (pre++(vs'++post)):=by
 induction h with
 |nil=>intro j h;cases h
 |@cons k0 ks x os us vs h1 h2 h3 h4 h5 ih=>
  intro j h;cases j with
  |zero=>
   cases h;refine⟨x,us,[],vs,rfl,h1,h2,h3,rfl,λu hu e=>?_,λx' vs' q1 q2=>show Kns (Kn (n+1)) w _ _ (vs'++vs)from .cons q1 q2 h3 h4 h5.up⟩;rcases aQ.mp hu with hu|hu
   ·exact hu
   ·exact absurd (e ▸ (h5.mem u hu).1) h4
  |succ j=>
   rw[bN]at h;obtain⟨x1,vs1,pre,post,e1,e2,e3,e4,e5,e6,e7⟩:=ih h;refine⟨x1,vs1,us++pre,post,e1,e2,e3,e4,by rw[e5,a7],λu hu e=>?_,λx' vs' q1 q2=>?_⟩
   ·rcases aQ.mp hu with hu|hu
    ·exact absurd (by rw[<- h2 u hu,e];exact cL h) h4
    ·exact e6 u hu e
   ·rw[a7];exact .cons h1.up h2 h3 h4 (e7 x' vs' q1 q2)
def Kns.snoc{k:Int}(h:Kns P w ks os us)(q1:P x vs)(q2:∀u∈vs,ed w u=k)(q3:0<k):k∉ks->Kns P w (ks++[k]) (os++[x]) (us++vs):=by
 induction h with
 |nil=>
  intro _;have:=Kns.cons q1 q2 q3 dE .nil;rwa [aU]at this
 |cons h1 h2 h3 h4 _ ih=>
  intro q4;rw[a7];refine .cons h1 h2 h3 (λz=>?_) (ih λz=>q4 (ah _ z));rcases aQ.mp z with z|z
  ·exact h4 z
  ·exact q4 (by rw[aK.mp z];exact aj)
end
def hang_kn(t:List Nat)(ht:t.length<=1000):∀(n m:Nat) (x:OT) (us:List (List Nat)),Kn n x us->(∀u∈us,u.length<=1000)->us.length<1000000->n<=m ->
  ∃b x' us',zej zah (mkS t) m x=aa (b,x')/\Kn (n+1) x' us'/\((t∈us/\us'=us)\/(t∉us/\us'.Perm (t::us))):=by
 intro n
 induction n with
 |zero=>intro m x us h;exact h.elim
 |succ n ih=>
  rintro m x us ⟨w,ks,os,vs,rfl,rfl,h⟩ hl hs hm;obtain⟨m,rfl⟩:∃m',m=m'+1:=⟨m-1,by lia⟩;have hp:=zhy w t;have st:zej zah (mkS t) (m+1) (mkK (mkS w) ks os)=zf7 (zej zah (mkS t) m) (mkS t) (mkS w) ks os (ed w t):=by
   unfold zej;rw[knOf_mk];simp only[aS];rw[zhb w t (hl w aj) ht];rfl
  rw[st];unfold zf7;by_cases h0:0<ed w t
  ·rw[if_pos h0];cases hix:ixI ks (ed w t)with
   |none=>
    have hno:=zgJ hix;have hk:=h.len;rw[au]at hs;refine⟨true,_,w::(vs++[t]),if_pos (by lia),Kn.mk (h.up.snoc (Kn.mk .nil) (λu hu=>by rw[aK.mp hu]) h0 hno),.inr ⟨λz=>?_,?_⟩⟩
    ·rcases aE.mp z with z|z
     ·rw[z,zf2]at h0;lia
     ·exact hno (h.mem t z).1
    ·exact(jA w (d4 (l₁:=vs) (l₂:=[t]))).trans (.swap _ _ _)
   |some j=>
    obtain⟨x1,vs1,pre,post,e1,e2,e3,e4,e5,e6,e7⟩:=h.at (zjE hix);have sub:∀u∈vs1,u∈w::vs:=λu hu=>ah _ (by rw[e5];exact av _ (aX _ hu));have hl1:vs1.length<1000000:=by
     have:=congrArg cZ e5;simp only[am,au]at this hs;lia
    obtain⟨b,x',us',q1,q2,q3⟩:=ih m x1 vs1 e2 (λu hu=>hl u (sub u hu)) hl1 (by lia);have all:∀u∈us',ed w u=ed w t:=λu hu=>by
     rcases q3 with ⟨_,rfl⟩|⟨_,q3⟩
     ·exact e3 u hu
     ·rcases aE.mp (q3.mem_iff.mp hu)with z|z
      ·rw[z]
      ·exact e3 u z
    refine⟨b,mkK (mkS w) ks (os.set j x'),w::(pre++(us'++post)),?_,Kn.mk (e7 x' us' q2 all),?_⟩
    ·show((os[j]?).bind λy=>(zej zah (mkS t) m y).map λq=>(q.1,mkK (mkS w) ks (os.set j q.2)))=_;rw[e1];simp only[aS];rw[q1];rfl
    ·rcases q3 with ⟨z1,rfl⟩|⟨z1,z2⟩
     ·exact .inl ⟨sub t z1,by rw[e5]⟩
     ·refine .inr ⟨λz=>?_,?_⟩
      ·rcases aE.mp z with z|z
       ·rw[z,zf2]at h0;lia
       ·exact z1 (e6 t z rfl)
      ·rw[e5];refine(jA w ((hZ pre (z2.append_right post)).trans ?_)).trans (.swap _ _ _)
       exact jg
  ·rw[if_neg h0];have hz:ed w t=0:=by lia
   have:=ed_zero hz;subst this;exact⟨false,_,w::vs,if_pos hz,Kn.mk h.up,.inl ⟨aj,rfl⟩⟩
noncomputable section
def dK(kC:Str->ae)(x:OT):D:=(toD kC x).getD .non
def dK_of{kC:Str->ae}{x:OT}{d:D}(h:toD kC x=aa d):toD kC x=aa (dK kC x):=by unfold dK;rw[h];rfl
def Kns.dP{kC:Str->ae}{P:OT->List (List Nat)->Prop}{w:List Nat}{ks:List Int}{os:List OT}{us:List (List Nat)}(f:∀x us,P x us->toD kC x=aa (dK kC x))(h:Kns P w ks os us):toDs kC os=aa (os.map (dK kC)):=by
 induction h with
 |nil=>simp only[toDs];rfl
 |cons h1 _ _ _ _ ih=>simp only[toDs,f _ _ h1,ih,cx,aS];rfl
def Kn.d{kC:Str->ae}:∀{n:Nat} {x:OT} {us:List (List Nat)},Kn n x us->toD kC x=aa (dK kC x):=by
 intro n
 induction n with
 |zero=>intro x us h;exact h.elim
 |succ n ih=>
  rintro x us ⟨w,ks,os,vs,rfl,rfl,h⟩;refine dK_of (d:=.ins (kC "Knot") ["word","branches"] [.str (mkS w),.dcI ks (os.map (dK kC))]) ?_;unfold mkK;simp only[toD,toDs,h.dP λ_ _=>ih,cx,aS]
def Kns.d{kC:Str->ae}{n:Nat}{w:List Nat}{ks:List Int}{os:List OT}{us:List (List Nat)}(h:Kns (Kn n) w ks os us):toDs kC os=aa (os.map (dK kC)):=h.dP λ_ _=>Kn.d
def dK_mk{kC:Str->ae}{n:Nat}{w:List Nat}{ks:List Int}{os:List OT}{us:List (List Nat)}(h:Kns (Kn n) w ks os us):dK kC (mkK (mkS w) ks os)=.ins (kC "Knot") ["word","branches"] [.str (mkS w),.dcI ks (os.map (dK kC))]:=by
 unfold dK mkK;simp only[toD,toDs,h.d,cx,aS];rfl
def rch(p most:Int):List Int->List OT->List OT
 |k::ks,x::os=>if (if k-p<0 then -(k-p)else k-p)<=most then x::rch p most ks os else rch p most ks os
 | _,_=>[]
def rch_c(p most k:Int)(ks:List Int)(x:OT)(os:List OT):rch p most (k::ks) (x::os)=if (if k-p<0 then -(k-p)else k-p)<=most then x::rch p most ks os else rch p most ks os:=by rw[rch]
def ixI_mid{k:Int}:∀{pre:List Int} {rest:List Int},k∉pre->ixI (pre++k::rest) k=aa pre.length
 |[],_,_=>if_pos rfl
 |a::pre,rest,h=>by
  rw[ej];unfold ixI;rw[if_neg λe=>h (by rw[e];exact aj),ixI_mid λz=>h (ah _ z)];rfl
def zgl(kC:Str->ae)(wd:D)(p most:Int):∀(rest:List Int) (ro:List OT) (pre:List Int) (po:List OT),rest.length=ro.length->pre.length=po.length->(pre++rest).Nodup ->
  zb1 (λd=>zaT kC (cEn [0,2,1] [aa (.val (.ins (kC "Knot") ["word","branches"] [wd,.dcI (pre++rest) ((po++ro).map (dK kC))])),aa (.val (.int p)),aa (.val (.int most))] d)) (λd=>zaU kC (cEn [0,2,1] [aa (.val (.ins (kC "Knot") ["word","branches"] [wd,.dcI (pre++rest) ((po++ro).map (dK kC))])),aa (.val (.int p)),aa (.val (.int most))] d)) (rest.map D.int)=aa ((rch p most rest ro).map (dK kC))
 |[],[],pre,po,_,_,_=>rfl
 |k::rest,x::ro,pre,po,h1,h2,h3=>by
  have hk:k∉pre:=λz=>(bJ.mp h3).2.2 k z k aj rfl;have ih:=zgl kC wd p most rest ro (pre++[k]) (po++[x]) (by simpa using h1) (by simp[h2]) (by simpa using h3);rw[a7,fw,a7,fw]at ih;have hx:((po++x::ro).map (dK kC))[pre.length]? =aa (dK kC x):=by
   rw[h2,aA,bL (ak _),fF];rfl
  have hi:=ixI_mid (rest:=rest) hk;generalize (po++x::ro).map (dK kC)=L at *;generalize pre++k::rest=KS at *;rw[ar,zb1,ih];have q:zaU kC (cEn [0,2,1] [aa (.val (.ins (kC "Knot") ["word","branches"] [wd,.dcI KS L])),aa (.val (.int p)),aa (.val (.int most))] (D.int k))=aa (.val (dK kC x)):=by
   simp only[zaU,ex2,ex1,zab,cEn,jqn,jqe,jqx,jqa,ziI,jqf,jqo,zeo,asIn,and_self,jra,jqc,gDxI,asDi,iOf,hi,hx]
  have t:zaT kC (cEn [0,2,1] [aa (.val (.ins (kC "Knot") ["word","branches"] [wd,.dcI KS L])),aa (.val (.int p)),aa (.val (.int most))] (D.int k))=aa (decide ((if k-p<0 then -(k-p)else k-p)<=most)):=by
   simp only[zaT,tOf,ex2,eCB,zaa,zab,cEn,jqn,jqe,jqx,jqa,ziI,jqf,jqo,zee,pI0,iOf,jqc,zad,gAbs,gLe,bOf]
  rw[q,t,rch_c];by_cases c:(if k-p<0 then -(k-p)else k-p)<=most
  ·rw[if_pos c,decide_eq_true c];rfl
  ·rw[if_neg c,decide_eq_false c];rfl
def ziM{p most:Int}:∀(ks:List Int) (os:List OT),(rch p most ks os).length<=os.length
 |[],[]=>ak _
 |[],_::_=>aL _
 | _::_,[]=>aL _
 |k::ks,x::os=>by
  rw[rch_c];have:=ziM (p:=p) (most:=most) ks os;by_cases c:(if k-p<0 then -(k-p)else k-p)<=most
  ·rw[if_pos c,au,au];lia
  ·rw[if_neg c,au];lia
def Kns.nd{P:OT->List (List Nat)->Prop}{w:List Nat}{ks:List Int}{os:List OT}{us:List (List Nat)}(h:Kns P w ks os us):ks.Nodup:=by
 induction h with
 |nil=>exact .nil
 |cons _ _ _ h4 _ ih=>exact aB.mpr ⟨h4,ih⟩
def reach_eq(kC:Str->ae){n:Nat}{w:List Nat}{ks:List Int}{os:List OT}{us:List (List Nat)}(h:Kns (Kn n) w ks os us)(p most:Int)(hl:us.length<=1000) :
  zbh kC [dK kC (mkK (mkS w) ks os),.int p,.int most]=aa (.own ((rch p most ks os).map (dK kC))):=by
 have c:=zgl kC (.str (mkS w)) p most ks os [] [] h.len.1 rfl h.nd;rw[cy,cy]at c;rw[dK_mk h];have hz:((rch p most ks os).map (dK kC)).length<=1000000:=by
  have h1:=ziM (p:=p) (most:=most) ks os;have h2:=h.len;rw[al];lia
 have ec:eLC [0,2,1] (iDi (ex1 (zeo (kC "Knot") ["word","branches"] 1) (zab 0))) (zaT kC) (zaU kC) [aa (.val (.ins (kC "Knot") ["word","branches"] [.str (mkS w),.dcI ks (os.map (dK kC))])),aa (.val (.int p)),aa (.val (.int most))]=aa (.own ((rch p most ks os).map (dK kC))):=by
  refine zdO ?_ c hz;simp only[iDi,ex1,zab,jqe,jqa,zeo,asIn,and_self,jra,jqf,jqc,asDi]
 generalize os.map (dK kC)=L at *;generalize (rch p most ks os).map (dK kC)=R at *;simp only[zbh,zcr,stE,stN,jqc,jqa,zcN,zbt,aG,jqk,toN,ec,zeI]
inductive Stk:List OT->List (List Nat)->Prop
 |nil:Stk [] []
 |snoc {n:Nat} {x:OT} {xs:List OT} {us vs:List (List Nat)}:Stk xs vs->Kn n x us->Stk (xs++[x]) (vs++us)
def Stk.len{xs:List OT}{us:List (List Nat)}(h:Stk xs us):xs.length<=us.length:=by
 induction h with
 |nil=>exact ak _
 |snoc _ h2 ih=>
  have:=h2.pos;simp only[am,au,cO];lia
def inR(t:List Nat)(most:Int)(u:List Nat):Bool:=decide (ed u t<=most)
def far_off{w t u:List Nat}{most:Int}(h:¬ (if ed w u-ed w t<0 then -(ed w u-ed w t)else ed w u-ed w t)<=most):inR t most u=false:=by
 have h1:=ed_tri w u t;have h2:=ed_tri w t u;rw[ed_swap u t]at h2;unfold inR;refine decide_eq_false λz=>h ?_;split <;> lia
def reach_stk(t:List Nat)(most:Int){n:Nat}{w:List Nat}{ks:List Int}{os:List OT}{us:List (List Nat)}(h:Kns (Kn n) w ks os us):∀{xs:List OT} {vs:List (List Nat)},Stk xs vs ->
  ∃vk,Stk (xs++rch (ed w t) most ks os) (vs++vk)/\vk.length<=us.length/\(∀u∈vk,u∈us)/\vk.filter (inR t most)=us.filter (inR t most):=by
 induction h with
 |nil=>intro xs vs s;exact⟨[],by rw[aU];unfold rch;rw[aU];exact s,ak _,λ_ h=>h,rfl⟩
 |@cons k ks x os us vs' h1 h2 h3 h4 h5 ih=>
  intro xs vs s;rw[rch_c,am];by_cases c:(if k-ed w t<0 then -(k-ed w t)else k-ed w t)<=most
  ·rw[if_pos c];obtain⟨vk,q1,q2,q3,q4⟩:=ih (s.snoc h1);rw[a7,a7]at q1;refine⟨us++vk,q1,by rw[am];exact di q2 _,λu hu=>?_,by rw[dm,dm,q4]⟩;rcases aQ.mp hu with z|z
   ·exact aX _ z
   ·exact av _ (q3 u z)
  ·rw[if_neg c];obtain⟨vk,q1,q2,q3,q4⟩:=ih s;refine⟨vk,q1,aH q2 (Nat.le_add_left _ _),λu hu=>av _ (q3 u hu),?_⟩;have:us.filter (inR t most)=[]:=gU.mpr λu hu=>by
    rw[far_off (w:=w) (by rw[h2 u hu];exact c)];exact aR
   rw[dm,this,q4];rfl
def prE(t:List Nat)(u:List Nat):Int×Str:=(ed u t,mkS u)
def near_turn(kC:Str->ae)(t:List Nat)(most:Int)(ht:t.length<=1000){n:Nat}{w:List Nat}{ks:List Int}{os:List OT}{us:List (List Nat)}(h:Kns (Kn n) w ks os us)(hw:w.length<=1000)(hu:us.length<=1000)(xs:List OT)(hxs:xs.length<=1000)(fs:List (Int×Str))(hf:fs.length<=1000)(d0 x5 x6:Option Ent):∃y5 y6,
  zbn kC [d0,aa (.val (.str (mkS t))),aa (.val (.int most)),aa (.own (fs.map prD)),aa (.own ((xs++[mkK (mkS w) ks os]).map (dK kC))),x5,x6] =
  aa (.nx [d0,aa (.val (.str (mkS t))),aa (.val (.int most)),aa (.own ((fs++if inR t most w=true then [prE t w]else []).map prD)),aa (.own ((xs++rch (ed w t) most ks os).map (dK kC))),y5,y6]):=by
 have sl:=zhb w t hw ht;have re:=reach_eq kC h (ed w t) most hu;have hr:=ziM (p:=ed w t) (most:=most) ks os;have hk:=h.len;refine⟨aa (.val (dK kC (mkK (mkS w) ks os))),aa (.val (.int (ed w t))),?_⟩;have fld:∀δ:En,δ[5]? =aa (aa (.val (dK kC (mkK (mkS w) ks os))))->ex1 (zeo (kC "Knot") ["word","branches"] 0) (zab 5) δ=aa (.val (.str (mkS w))):=λδ hδ=>by
  rw[dK_mk h]at hδ;unfold ex1 zab;rw[hδ];simp only[jqa,zeo,asIn,and_self,jra,jqe,jqc]
 have e1:fPop 4 (gNm 5) [d0,aa (.val (.str (mkS t))),aa (.val (.int most)),aa (.own (fs.map prD)),aa (.own ((xs++[mkK (mkS w) ks os]).map (dK kC))),x5,x6]=aa (.nx [d0,aa (.val (.str (mkS t))),aa (.val (.int most)),aa (.own (fs.map prD)),aa (.own (xs.map (dK kC))),aa (.val (dK kC (mkK (mkS w) ks os))),x6]):=by
  have q1:((xs++[mkK (mkS w) ks os]).map (dK kC))[((xs++[mkK (mkS w) ks os]).map (dK kC)).length-1]? =aa (dK kC (mkK (mkS w) ks os)):=by
   rw[bn,am,ar,bu,au,cO,bi,dN,bL (ak _),fF];rfl
  have q2:((xs++[mkK (mkS w) ks os]).map (dK kC)).dropLast=xs.map (dK kC):=by
   rw[bn,ar,bu,fH]
  unfold fPop;simp only[dh,bN];rw[q1,q2];rfl
 refine(show zbn kC _=_ from zbD e1).trans ?_;refine(zbD (fSetI (v:=.int (ed w t)) ((zf9 (fld _ rfl) (Y:=zab 1) (b:=.str (mkS t)) rfl).trans sl))).trans ?_;generalize dK kC (mkK (mkS w) ks os)=X at *;have fin:∀gs:List D,fExt 4 (zag [.v,.v,.v] (zbh kC) (zaa (zab 5) (zaa (zab 6) (zaa (zab 2) zad)))) [d0,aa (.val (.str (mkS t))),aa (.val (.int most)),aa (.own gs),aa (.own (xs.map (dK kC))),aa (.val X),aa (.val (.int (ed w t)))] =
   aa (.nx [d0,aa (.val (.str (mkS t))),aa (.val (.int most)),aa (.own gs),aa (.own ((xs++rch (ed w t) most ks os).map (dK kC))),aa (.val X),aa (.val (.int (ed w t)))]):=λgs=>by
  rw[bn];have hz:(xs.map (dK kC)).length+((rch (ed w t) most ks os).map (dK kC)).length<=1000000:=by rw[al,al];lia
  generalize xs.map (dK kC)=XS at *;generalize (rch (ed w t) most ks os).map (dK kC)=RS at *;simp only[fExt,jqf,jqe,zag,zaa,zab,zad,jqc,jqa,zat,zbs,asV,re,jqh,jqg,hz,zap,zaf]
 by_cases c:ed w t<=most
 ·have ci:inR t most w=true:=decide_eq_true c;rw[ci,if_pos rfl,bn,ar,bu];have hz:(fs.map prD).length<1000000:=by rw[al];lia
  generalize fs.map prD=FS at *;refine(zbD ((fIfT ?_).trans (fAppI (v:=prD (prE t w)) rfl ?_ hz))).trans (fin _)
  ·simp only[tOf,ex2,zab,jqh,jqg,jqf,jqe,gLe,pI0,iOf,jqa,jqc,c,jqy,bOf]
  ·unfold zd8 zaa zad;rw[fld _ rfl];rfl
 ·have ci:inR t most w=false:=decide_eq_false c;rw[ci,if_neg aR,aU];generalize fs.map prD=FS at *;refine(zbD (fIfF ?_)).trans (fin _)
  simp only[tOf,ex2,zab,jqh,jqg,jqf,jqe,gLe,pI0,iOf,jqa,jqc,c,jqz,bOf]
def near_loop(kC:Str->ae)(t:List Nat)(most:Int)(ht:t.length<=1000)(d0:Option Ent):∀(N:Nat) (xs:List OT) (us:List (List Nat)) (fs:List (Int×Str)) (x5 x6:Option Ent),Stk xs us->us.length<=N->fs.length+us.length<=1000->(∀u∈us,u.length<=1000) ->
  ∃gs y5 y6,whl (zaR kC) (zbn kC) (N+1) [d0,aa (.val (.str (mkS t))),aa (.val (.int most)),aa (.own (fs.map prD)),aa (.own (xs.map (dK kC))),x5,x6] =
   aa (.nx [d0,aa (.val (.str (mkS t))),aa (.val (.int most)),aa (.own ((fs++gs).map prD)),aa (.own []),y5,y6])/\gs.Perm ((us.filter (inR t most)).map (prE t)):=by
 intro N;have test:∀(FS XS:List D) (x5 x6:Option Ent),XS.length<=1000->zaR kC [d0,aa (.val (.str (mkS t))),aa (.val (.int most)),aa (.own FS),aa (.own XS),x5,x6]=aa (decide (0<XS.length)):=λFS XS x5 x6 _=>by
  by_cases z:0<XS.length
  ·have z':(0:Int)<(XS.length:Int):=by lia
   simp only[zaR,tOf,ex2,eCB,zaa,zab,jqf,jqe,zad,jqc,jqa,zbP,zdY,asL,eC,gGt,pI0,iOf,z',jqy,bOf,z]
  ·have z':¬ (0:Int)<(XS.length:Int):=by lia
   simp only[zaR,tOf,ex2,eCB,zaa,zab,jqf,jqe,zad,jqc,jqa,zbP,zdY,asL,eC,gGt,pI0,iOf,z',jqz,bOf,z]
 have stop:∀(M:Nat) (fs:List (Int×Str)) (x5 x6:Option Ent),whl (zaR kC) (zbn kC) (M+1) [d0,aa (.val (.str (mkS t))),aa (.val (.int most)),aa (.own (fs.map prD)),aa (.own []),x5,x6]=aa (.nx [d0,aa (.val (.str (mkS t))),aa (.val (.int most)),aa (.own (fs.map prD)),aa (.own []),x5,x6]):=λM fs x5 x6=>by
  show((zaR kC _).bind _)=_;rw[test _ _ _ _ (by simp)];rfl
 induction N with
 |zero=>
  intro xs us fs x5 x6 s h1 h2 h3;cases s with
  |nil=>exact⟨[],x5,x6,by rw[aU];exact stop _ _ _ _,.refl _⟩
  |snoc s1 k=>
   have:=k.pos;rw[am]at h1;lia
 |succ N ih=>
  intro xs us fs x5 x6 s h1 h2 h3;cases s with
  |nil=>exact⟨[],x5,x6,by rw[aU];exact stop _ _ _ _,.refl _⟩
  |@snoc n x xs us vs s1 k=>
   obtain⟨n,w,ks,os,vs1,_,rfl,rfl,hk⟩:=k.get;simp only[am,au]at h1 h2;have hxl:=s1.len;obtain⟨vk,q1,q2,q3,q4⟩:=reach_stk t most hk s1;obtain⟨z5,z6,e1⟩:=near_turn kC t most ht hk (h3 w (by simp)) (by lia) xs (by lia) fs (by lia) d0 x5 x6;have hfl:(if inR t most w=true then [prE t w]else []).length<=1:=by split <;> simp
   obtain⟨gs,y5,y6,e2,e3⟩:=ih (xs++rch (ed w t) most ks os) (vs++vk) (fs++if inR t most w=true then [prE t w]else []) z5 z6 q1 (by rw[am];lia) (by rw[am,am];lia) (λu hu=>by
    rcases aQ.mp hu with z|z
    ·exact h3 u (aX _ z)
    ·exact h3 u (av _ (ah _ (q3 u z))))
   refine⟨(if inR t most w=true then [prE t w]else [])++gs,y5,y6,?_,?_⟩
   ·rw[<- a7,<- e2];show((zaR kC _).bind _)=_;rw[test _ _ _ _ (by rw[al,am];simp only[au,cO];lia),decide_eq_true (by simp)];show((zbn kC _).bind _)=_;rw[e1];rfl
   ·rw[dm,q4,bn]at e3;rw[dm,bn,eY];refine(hZ _ e3).trans ?_;cases inR t most w with
    |true=>rw[if_pos rfl,if_pos rfl,ar,fw];exact jg.symm
    |false=>exact .refl _
def plDs_pr:∀l:List (Int×Str),plDs (l.map prD)=true
 |[]=>by simp only[bu,plDs]
 |p::l=>by simp only[ar,plDs,prD,plD,plDs_pr l,Bool.and_self]
def tupO{E:FE}{δ:En}{ds:List D}(h:E δ=aa (.own ds))(hl:ds.length<=1000000):eCB zdr (zaa E zad) δ=aa (.val (.tup ds)):=by simp only[eCB,zaa,h,zad,jqc,jqa,zdr,asL]
def bkO(top:OT):OT:=.ins "Book" ["top"] [top]
def kn_some{kC:Str->ae}{n:Nat}{x:OT}{us:List (List Nat)}(hk:Kn n x us):isN (.val (dK kC x))=false:=by
 obtain⟨_,_,_,_,_,_,rfl,_,h⟩:=hk.get;rw[dK_mk h];rfl
def top_at{kC:Str->ae}{X:D}{δ:En}(hδ:δ[0]? =aa (aa (.val (.ins (kC "Book") ["top"] [X])))):ex1 (zeo (kC "Book") ["top"] 0) (zab 0) δ=aa (.val X):=by
 unfold ex1 zab;rw[hδ];simp only[jqa,zeo,asIn,and_self,jra,jqe,jqc]
def top_not{kC:Str->ae}{X:D}{δ:En}(hδ:δ[0]? =aa (aa (.val (.ins (kC "Book") ["top"] [X]))))(hne:isN (.val X)=false):tOf (ex2 gIsN (ex1 (zeo (kC "Book") ["top"] 0) (zab 0)) (eC .non)) δ=aa false:=by
 unfold tOf ex2;rw[top_at hδ];simp only[eC,gIsN,isN,jqa,bOf];exact congrArg aa hne
def near_k(kC:Str->ae)(n:Nat)(x:OT)(us:List (List Nat))(hk:Kn n x us)(hu:us.length<=60)(hl:∀u∈us,u.length<=1000)(t:List Nat)(ht:t.length<=1000)(most:Int) :
  zb2 kC [.ins (kC "Book") ["top"] [dK kC x],.str (mkS t),.int most]=aa (.val (.tup ((srtP ((us.filter (inR t most)).map (prE t))).map prD))):=by
 obtain⟨gs,y5,y6,e1,e2⟩:=near_loop kC t most ht (aa (.val (.ins (kC "Book") ["top"] [dK kC x]))) 999 [x] us [] ab ab (by simpa using Stk.snoc .nil hk) (by lia) (by simp;lia) hl;have hs:srtP gs=srtP ((us.filter (inR t most)).map (prE t)):=zhI ((srtP_perm gs).trans e2) (zhf gs);have hne:=kn_some (kC:=kC) hk;have hgl:gs.length<=60:=by
  rw[e2.length_eq,al];have:=dv (inR t most) us;lia
 rw[cy]at e1;have hF:zdv kC [aa (.val (.ins (kC "Book") ["top"] [dK kC x])),aa (.val (.str (mkS t))),aa (.val (.int most)),ab,ab,ab,ab]=aa (.rt (.val (.tup ((srtP gs).map prD))) [aa (.val (.ins (kC "Book") ["top"] [dK kC x])),aa (.val (.str (mkS t))),aa (.val (.int most)),aa (.own (gs.map prD)),aa (.own []),y5,y6]):=by
  rw[bu,ar,bu]at e1;have hsl:(srtP gs).length<=60:=by rw[(srtP_perm gs).length_eq];exact hgl
  have hz:((srtP gs).map prD).length<=1000000:=by rw[al];lia
  have hg:gs.length<=1000000:=by lia
  have pm:=zjI gs;generalize dK kC x=X at *;refine(show zdv kC _=_ from zbD (fIfF (top_not rfl hne))).trans ((zbD (zgg (show zcW zad _=aa (.own [])from rfl))).trans ((zbD (zgg (eLst1 (top_at rfl)))).trans ((zbD e1).trans ?_)))
  have q:eCB gSrtP (zaa (zab 3) zad) [aa (.val (.ins (kC "Book") ["top"] [X])),aa (.val (.str (mkS t))),aa (.val (.int most)),aa (.own (gs.map prD)),aa (.own []),y5,y6]=aa (.own ((srtP gs).map prD)):=by
   generalize gs.map prD=GS at *;simp only[eCB,zaa,zab,jqf,jqe,zad,jqc,jqa,gSrtP,asL,pm,hg,zaf]
  exact zfW (tupO q hz)
 rw[<- hs];exact(congrArg (λo=>cu o _) hF).trans rfl
end
def alph:("abcdefghijklmnopqrstuvwxyz" : Str).cps.toList=(aq 26).map λi=>97+i:=by decide +kernel
def cell_turn(n m:Int)(sc i:Option Ent):zcB [sc,i,aa (.val (.int n)),aa (.val (.int m))]=aa (.nx [sc,i,aa (.val (.int ((n*613+m)%2147483629))),aa (.val (.int m))]):=by
 simp (disch:=omega) only[zcB,za0,ex2,zab,jqf,jqe,eC,zeb,pI,iOf,jqa,zcP,jrc,zaf,zaV,pI0,jqc,zcL,zaK,jqh,jqg,toN]
def zib:∀(ms:List Int) (n:Int) (sc i k:Option Ent),∃n' k',loop (gNm 3) zcB (ms.map D.int) [sc,i,aa (.val (.int n)),k]=aa (.nx [sc,i,aa (.val (.int n')),k'])
 |[],n,_,_,k=>⟨n,k,rfl⟩
 |m::ms,n,sc,i,k=>by
  obtain⟨n',k',h⟩:=zib ms ((n*613+m)%2147483629) sc i (aa (.val (.int m)));exact⟨n',k',(zby rfl (cell_turn n m sc i)).trans h⟩
def zg5(ns:List Int)(i:Int)(h0:0<=i)(h1:i<1000):∃c,zam [.lst (ns.map .int),.int i]=aa (.val (.int c)):=by
 by_cases hi:i<ns.length
 ·have hx:atI (ns.map D.int) i=aa (.int (ns.getD i.toNat 0)):=zdT h0 (by rw[aA,aC (by lia)];simp[show i.toNat<ns.length by lia]);refine⟨ns.getD i.toNat 0,?_⟩;simp (disch:=omega) only[zam,zcr,stE,stN,jqc,jqa,zdz,zar,fIf,tOf,ex2,zab,aG,eCB,zaa,zad,gLt,pI0,iOf,zbt,zdJ,asL,toN,fNx,zaV,zeb,zcL,jqi,jqj,jqf,jqe,zbP,zdY,al,hi,jqy,bOf,hx,jra,sqO,zeI]
 ·obtain⟨n',k',e⟩:=zib (ns.take 63) (104729+7919*i*i) (aa (.bor (ns.map .int))) (aa (.val (.int i))) ab;have hcut:zbJ (ns.map D.int) ab (aa 63)=(ns.take 63).map D.int:=by rw[zja _ (by decide),List.map_take];rfl
  have hb:b64 i:=zhD (by lia);have hb2:b64 ((n'*48271+16807*i)%2147483647):=zhD (by lia);refine⟨(n'*48271+16807*i)%2147483647*((n'*48271+16807*i)%2147483647)%2147483629,?_⟩;simp (disch:=omega) only[zam,zcr,stE,stN,jqc,jqa,zdz,zar,fIf,tOf,ex2,zab,aG,eCB,zaa,zad,gLt,pI0,iOf,zbt,zdJ,asL,toN,fNx,zaV,zeb,zcL,jqi,jqj,jqf,jqe,zbP,zdY,al,hi,jqz,bOf,jqr,jrb,sqO,za0,eC,pI,zcP,jrc,zaf,jqh,jqg,zdK,iL,eSl,oNo,oSo,gSlL,hcut,e,zaK,zeI]
def dig_turn1(b left:Int)(c m k:Option Ent)(fs:List D)(h0:0<b)(h1:b<1073741824)(hf:fs.length<1000000) :
  zbj [c,aa (.val (.int b)),m,aa (.own fs),aa (.val (.int left)),k]=aa (.nx [c,aa (.val (.int b)),m,aa (.own (fs++[.int (left%b)])),aa (.val (.int (left / b))),k]):=by
 simp (disch:=omega) only[zbj,zar,zf6,jqf,jqe,ex2,zab,zcL,pI,iOf,jqa,zaK,zaf,asV,zap,jqh,jqg,zdL,sqO,za0,zck,toN,jqc]
def dig_turn2(b left kk:Int)(c m:Option Ent)(fs:List D)(h0:0<b)(hk:-1000000<kk/\kk<1000000)(hf:fs.length<1000000) :
  ∃left' d,zaZ [c,aa (.val (.int b)),m,aa (.own fs),aa (.val (.int left)),aa (.val (.int kk))]=aa (.nx [c,aa (.val (.int b)),m,aa (.own (fs++[.int d])),aa (.val (.int left')),aa (.val (.int kk))])/\0<=d/\d<b:=by
 refine⟨(left*69621+16807*kk*kk+7)%2147483629,((left*69621+16807*kk*kk+7)%2147483629)*((left*69621+16807*kk*kk+7)%2147483629)%2147483647 / 3%b,?_,cC _ (by lia),cz _ h0⟩;simp (disch:=omega) only[zaZ,zar,za0,ex2,zab,jqf,jqe,eC,zeb,pI,iOf,jqa,zcP,jrc,zaf,zaV,pI0,jqc,zcL,zaK,jqh,jqg,toN,zdL,sqO,zf6,zck,asV,zap]
def zhR(b:Int)(c m:Option Ent)(h0:0<b)(h1:b<1073741824):∀(ks:List Int) (fs:List Int) (left:Int) (k:Option Ent),fs.length+ks.length<=1000000->(∀d∈fs,0<=d/\d<b) ->
  ∃(fs':List Int) (left':Int) (k':Option Ent),loop (gNm 5) zbj (ks.map D.int) [c,aa (.val (.int b)),m,aa (.own (fs.map .int)),aa (.val (.int left)),k]=aa (.nx [c,aa (.val (.int b)),m,aa (.own (fs'.map .int)),aa (.val (.int left')),k']) /\
   fs'.length=fs.length+ks.length/\∀d∈fs',0<=d/\d<b
 |[],fs,left,k,_,hd=>⟨fs,left,k,rfl,rfl,hd⟩
 |kk::ks,fs,left,k,hl,hd=>by
  simp only[au]at hl;obtain⟨fs',left',k',e,e1,e2⟩:=zhR b c m h0 h1 ks (fs++[left%b]) (left / b) (aa (.val (.int kk))) (by simp;lia) (λd h=>by
   rcases aQ.mp h with h|h
   ·exact hd d h
   ·cases aK.mp h;exact⟨cC _ (by lia),cz _ h0⟩)
  refine⟨fs',left',k',?_,by rw[e1];simp;lia,e2⟩;rw[bn]at e;exact(zby rfl (dig_turn1 b left c m _ (fs.map .int) h0 h1 (by rw[al];lia))).trans e
def zhs(b:Int)(c m:Option Ent)(h0:0<b):∀(ks:List Int) (fs:List Int) (left:Int) (k:Option Ent),fs.length+ks.length<=1000000->(∀d∈fs,0<=d/\d<b)->(∀kk∈ks,-1000000<kk/\kk<1000000) ->
  ∃(fs':List Int) (left':Int) (k':Option Ent),loop (gNm 5) zaZ (ks.map D.int) [c,aa (.val (.int b)),m,aa (.own (fs.map .int)),aa (.val (.int left)),k]=aa (.nx [c,aa (.val (.int b)),m,aa (.own (fs'.map .int)),aa (.val (.int left')),k']) /\
   fs'.length=fs.length+ks.length/\∀d∈fs',0<=d/\d<b
 |[],fs,left,k,_,hd,_=>⟨fs,left,k,rfl,rfl,hd⟩
 |kk::ks,fs,left,k,hl,hd,hk=>by
  simp only[au]at hl;obtain⟨l2,d,t,t1,t2⟩:=dig_turn2 b left kk c m (fs.map .int) h0 (hk kk aj) (by rw[al];lia);obtain⟨fs',left',k',e,e1,e2⟩:=zhs b c m h0 ks (fs++[d]) l2 (aa (.val (.int kk))) (by simp;lia) (λd' h=>by
   rcases aQ.mp h with h|h
   ·exact hd d' h
   ·cases aK.mp h;exact⟨t1,t2⟩) λx hx=>hk x (ah _ hx)
  refine⟨fs',left',k',?_,by rw[e1];simp;lia,e2⟩;rw[bn]at e;exact(zby rfl t).trans e
def zig(c b m:Int)(h0:0<b)(h1:b<1073741824)(m0:0<=m)(m1:m<=1000) :
  ∃fs:List Int,zbd [.int c,.int b,.int m]=aa (.own (fs.map .int))/\fs.length=m.toNat/\∀d∈fs,0<=d/\d<b:=by
 have er:(aq m.toNat).map (λ(i:Nat)=>D.int (0+(i:Int)))=((aq m.toNat).map λ(i:Nat)=>(0+(i:Int))).map D.int:=by rw[b9];rfl
 have hrl:((aq m.toNat).map λ(i:Nat)=>(0+(i:Int))).length=m.toNat:=by simp
 have hrb:∀kk∈(aq m.toNat).map (λ(i:Nat)=>(0+(i:Int))),-1000000<kk/\kk<1000000:=λkk h=>by
  obtain⟨i,hi,rfl⟩:=bU.mp h;have:=bZ.mp hi;lia
 obtain⟨fs1,l1,k1,w1,n1,d1⟩:=zhR b (aa (.val (.int c))) (aa (.val (.int m))) h0 h1 ((aq m.toNat).map λ(i:Nat)=>(0+(i:Int))) [] c ab (by rw[hrl];simp;lia) (by simp);rw[hrl]at n1;simp only[cO,bi]at n1;simp only[bu]at w1;have hb:b62 m:=zdj ⟨by lia,by lia⟩;have s1:za0 3 (zcW zad) [aa (.val (.int c)),aa (.val (.int b)),aa (.val (.int m)),ab,ab,ab]=aa (.nx [aa (.val (.int c)),aa (.val (.int b)),aa (.val (.int m)),aa (.own []),ab,ab]):=rfl;have s2:za0 4 (zab 0) [aa (.val (.int c)),aa (.val (.int b)),aa (.val (.int m)),aa (.own []),ab,ab]=aa (.nx [aa (.val (.int c)),aa (.val (.int b)),aa (.val (.int m)),aa (.own []),aa (.val (.int c)),ab]):=rfl;have it:∀x3 x4 x5:Option Ent,iR1 (zaa (zab 2) zad) [aa (.val (.int c)),aa (.val (.int b)),aa (.val (.int m)),x3,x4,x5]=aa (((aq m.toNat).map λ(i:Nat)=>(0+(i:Int))).map D.int):=λx3 x4 x5=>by
  rw[<- er];exact gif_pos hb
 have s3:zdK (iR1 (zaa (zab 2) zad)) (gNm 5) zbj [aa (.val (.int c)),aa (.val (.int b)),aa (.val (.int m)),aa (.own []),aa (.val (.int c)),ab]=aa (.nx [aa (.val (.int c)),aa (.val (.int b)),aa (.val (.int m)),aa (.own (fs1.map .int)),aa (.val (.int l1)),k1]):=by
  unfold zdK;rw[it];exact w1
 have e0:zbd [.int c,.int b,.int m]=(zcS [aa (.val (.int c)),aa (.val (.int b)),aa (.val (.int m)),ab,ab,ab]).bind zeI:=rfl;rw[e0];unfold zcS;rw[zbD s1,zbD s2,zbD s3];by_cases hm:0<m
 ·have hne:fs1≠[]:=by rintro rfl;simp at n1;lia
  obtain⟨ys,z,hz⟩:∃ys z,fs1=ys++[z]:=⟨fs1.dropLast,fs1.getLast hne,(List.dropLast_concat_getLast hne).symm⟩;have hlast:atI (fs1.map D.int) (-1)=aa (.int z):=zjJ (by rw[hz];simp);by_cases hl:l1=0
  ·by_cases hz0:z=0
   ·obtain⟨fs2,l2,k2,w2,n2,d2⟩:=zhs b (aa (.val (.int c))) (aa (.val (.int m))) h0 ((aq m.toNat).map λ(i:Nat)=>(0+(i:Int))) [] ((c*48271+104729*m)%2147483647) k1 (by rw[hrl];simp;lia) (by simp) hrb;rw[hrl]at n2;simp only[cO,bi]at n2;refine⟨fs2,?_,n2,d2⟩;have s4:zdK (iR1 (zaa (zab 2) zad)) (gNm 5) zaZ [aa (.val (.int c)),aa (.val (.int b)),aa (.val (.int m)),aa (.own []),aa (.val (.int ((c*48271+104729*m)%2147483647))),k1]=aa (.nx [aa (.val (.int c)),aa (.val (.int b)),aa (.val (.int m)),aa (.own (fs2.map .int)),aa (.val (.int l2)),k2]):=by
     unfold zdK;rw[it];exact w2
    generalize zdK (iR1 (zaa (zab 2) zad)) (gNm 5) zaZ=LL at *;simp (disch:=omega) only[zar,fIf,zhg,tOf,ex2,zab,hl,jqf,jqe,eC,gGt,pI0,iOf,jqa,jqc,hm,jqy,bOf,gEq,zb3,ex1,zeL,Int.reduceNeg,zdJ,asL,hlast,hz0,jra,za0,zeb,pI,zcP,jrc,zaf,zaV,zcL,zaK,jqh,jqg,toN,sqO,zcW,zad,jqq,Nat.reduceLeDiff,zdF,s4,fNx,zet,zeI]
   ·refine⟨fs1,?_,n1,d1⟩;simp (disch:=omega) only[zar,fIf,zhg,tOf,ex2,zab,hl,jqf,jqe,eC,gGt,pI0,iOf,jqa,jqc,hm,jqy,bOf,gEq,zb3,ex1,zeL,Int.reduceNeg,zdJ,asL,hlast,hz0,jqz,jra,za0,zeb,pI,zcP,jrc,zaf,zaV,zcL,zaK,jqh,jqg,toN,sqO,zcW,zad,jqq,Nat.reduceLeDiff,zdF,zdK,iR1,zaa,zcz,fNx,jqr,jrb,zet,zeI]
  ·refine⟨fs1,?_,n1,d1⟩;simp (disch:=omega) only[zar,fIf,zhg,tOf,ex2,zab,jqf,jqe,eC,gGt,pI0,iOf,jqa,jqc,hm,jqy,bOf,gEq,zb3,hl,jqz,ex1,zeL,Int.reduceNeg,zdJ,asL,jqr,jrb,jra,za0,zeb,pI,zcP,jrc,zaf,zaV,zcL,zaK,jqh,jqg,toN,sqO,zcW,zad,jqq,Nat.reduceLeDiff,zdF,zdK,iR1,zaa,zcz,fNx,zet,zeI]
 ·refine⟨fs1,?_,n1,d1⟩;simp (disch:=omega) only[zar,fIf,zhg,tOf,ex2,zab,jqf,jqe,eC,gGt,pI0,iOf,jqa,jqc,hm,jqz,bOf,gEq,zb3,ex1,zeL,Int.reduceNeg,zdJ,asL,jqs,jqr,jrb,za0,zeb,pI,zcP,jrc,zaf,zaV,zcL,zaK,jqh,jqg,toN,sqO,zcW,zad,jqq,Nat.reduceLeDiff,zdF,jra,zdK,iR1,zaa,zcz,fNx,zet,zeI]
def pool_el{A:Str}(hA:A.cps.toList=(aq 26).map λi=>97+i)(c:Int)(k:Int):∃w:Nat,zbm [aa (.val (.int k)),aa (.val (.str A)),aa (.val (.int c))]=aa (.val (.str (mkS [w])))/\97<=w/\w<=122:=by
 have hx:atI A.cps.toList ((c / 4+k)%26)=aa (97+((c / 4+k)%26).toNat):=by
  refine zdT (cC _ (by decide)) ?_;rw[hA,aA,bH (by lia)];simp
 have hl:A.length<=1000000:=by
  have:=congrArg cZ hA;simp at this;unfold ik;lia
 refine⟨97+((c / 4+k)%26).toNat,?_,by lia,by lia⟩;simp (disch:=omega) only[zbm,ex2,zab,jqf,jqe,eC,zdL,pI,iOf,jqa,zck,zaf,zaV,pI0,jqc,zcL,zaK,zjb,sOf,zap,hx]
def few_of(c:Int):∃n:Nat,atI [D.int 26,D.int 2,D.int 3,D.int 4] (c%4)=aa (.int n)/\2<=n/\n<=26:=by
 have h0:=cC c (show(4:Int)≠0 by decide);have h1:=cz c (show(0:Int)<4 by decide);have:c%4=0\/c%4=1\/c%4=2\/c%4=3:=by lia
 rcases this with h|h|h|h <;> rw[h]
 ·exact⟨26,rfl,by decide,by decide⟩
 ·exact⟨2,rfl,by decide,by decide⟩
 ·exact⟨3,rfl,by decide,by decide⟩
 ·exact⟨4,rfl,by decide,by decide⟩
def pool_ok(c:Int):∃ws:List Nat,zc0 [.int c]=aa (.own (ws.map λw=>.str (mkS [w])))/\2<=ws.length/\ws.length<=26/\∀w∈ws,97<=w/\w<=122:=by
 obtain⟨n,hn,n2,n26⟩:=few_of c;have hb62:b62 (n:Int):=zdj (by lia);obtain⟨A,eA⟩:∃A:Str,A = "abcdefghijklmnopqrstuvwxyz" :=⟨_,rfl⟩;have hA:A.cps.toList=(aq 26).map λi=>97+i:=by rw[eA];exact alph
 have cp:∀ks:List Int,∃ws:List Nat,zb1 (λd=>zcT (cEn [1,0] [aa (.val (.int c)),aa (.val (.str A)),aa (.val (.int n))] d)) (λd=>zbm (cEn [1,0] [aa (.val (.int c)),aa (.val (.str A)),aa (.val (.int n))] d)) (ks.map D.int)=aa (ws.map λw=>.str (mkS [w]))/\ws.length=ks.length/\∀w∈ws,97<=w/\w<=122:=by
  intro ks
  induction ks with
  |nil=>exact⟨[],rfl,rfl,by simp⟩
  |cons k ks ih=>
   obtain⟨ws,w1,w2,w3⟩:=ih;obtain⟨w,q1,q2,q3⟩:=pool_el hA c k;refine⟨w::ws,?_,by simp[w2],λx hx=>?_⟩
   ·rw[ar,zb1];have:zbm (cEn [1,0] [aa (.val (.int c)),aa (.val (.str A)),aa (.val (.int n))] (.int k))=aa (.val (.str (mkS [w]))):=q1;rw[this,w1];rfl
   ·rcases aE.mp hx with rfl|hx
    ·exact⟨q2,q3⟩
    ·exact w3 x hx
 obtain⟨ws,w1,w2,w3⟩:=cp ((aq n).map λ(i:Nat)=>(0+(i:Int)));rw[al,bK]at w2;refine⟨ws,?_,by lia,by lia,w3⟩;have er:(aq (n:Int).toNat).map (λ(i:Nat)=>D.int (0+(i:Int)))=((aq n).map λ(i:Nat)=>(0+(i:Int))).map D.int:=by rw[b9];rfl
 have hl:ws.length<=1000000:=by lia
 have hE:eLC [1,0] (iR1 (zaa (zab 2) zad)) zcT zbm [aa (.val (.int c)),aa (.val (.str A)),aa (.val (.int n))]=aa (.own (ws.map λw=>.str (mkS [w]))):=
  zdO (by simp (disch:=omega) only[iR1,zaa,zab,jqf,jqe,zad,jqc,jqa,iOf,zcz,er,zaf]) w1 (by rw[al];exact hl)
 simp (disch:=omega) only[zc0,zcr,stE,stN,jqc,jqa,zei,zar,za0,eC,<- eA,aG,toN,zcL,sqO,ex2,zcW,zaa,zad,jqp,jqq,Nat.reduceLeDiff,zdF,asV,jra,zab,pI,iOf,zaK,zaf,zdJ,asL,jqi,jqj,jqh,jqg,jqe,hn,zbt,hE,zeI]
def text_ok(ws:List Nat)(c m:Int)(h2:0<ws.length)(h26:ws.length<=26)(m0:0<=m)(m1:m<=1000) :
  ∃w:List Nat,zb4 [.lst (ws.map λw=>.str (mkS [w])),.int c,.int m]=aa (.val (.str (mkS w)))/\w.length=m.toNat/\∀x∈w,x∈ws:=by
 obtain⟨fs,q,hl,hd⟩:=zig c ws.length m (by lia) (by lia) m0 m1;have cp:∀fs:List Int,(∀d∈fs,0<=d/\d<(ws.length:Int))->∃w:List Nat,zb1 (λd=>zcT (cEn [0] [aa (.bor (ws.map λw=>.str (mkS [w]))),aa (.val (.int c)),aa (.val (.int m))] d)) (λd=>zbR (cEn [0] [aa (.bor (ws.map λw=>.str (mkS [w]))),aa (.val (.int c)),aa (.val (.int m))] d)) (fs.map D.int)=aa (w.map λw=>.str (mkS [w]))/\w.length=fs.length/\∀x∈w,x∈ws:=by
  intro fs
  induction fs with
  |nil=>intro _;exact⟨[],rfl,rfl,by simp⟩
  |cons k ks ih=>
   intro hd;obtain⟨w,w1,w2,w3⟩:=ih λd h=>hd d (ah _ h);obtain⟨k0,k1⟩:=hd k aj;have hx:atI (ws.map λw=>D.str (mkS [w])) k=aa (.str (mkS [ws[k.toNat]'(by lia)])):=zdT k0 (by rw[aA,aC (by lia)];rfl);have he:zbR (cEn [0] [aa (.bor (ws.map λw=>.str (mkS [w]))),aa (.val (.int c)),aa (.val (.int m))] (.int k))=aa (.val (.str (mkS [ws[k.toNat]'(by lia)]))):=by
    simp (disch:=omega) only[zbR,ex2,zab,cEn,jqn,jqe,jqx,jqa,ziI,jqo,jqf,zdJ,asL,iOf,hx,jqc]
   refine⟨ws[k.toNat]'(by lia)::w,?_,by simp[w2],λx hx=>?_⟩
   ·rw[ar,zb1,he,w1];rfl
   ·rcases aE.mp hx with rfl|hx
    ·exact List.getElem_mem _
    ·exact w3 x hx
 obtain⟨w,w1,w2,w3⟩:=cp fs hd;refine⟨w,?_,by rw[w2,hl],w3⟩;have hsum:((w.map λc=>mkS [c]).map λx=>x.length).sum+w.length*(mkS []).length<=1000000:=by
  have:((w.map λc=>mkS [c]).map λx=>x.length).sum=w.length:=by
   clear w1 w2 w3
   induction w with
   |nil=>rfl
   |cons c w ih=>rw[ar,ar,eF,ih,zaq];simp;lia
  rw[this,zaq,w2,hl];simp;lia
 have hw:w.length<=1000000:=by lia
 have hs:zg7 (w.map λc=>D.str (mkS [c]))=aa (w.map λc=>mkS [c]):=by
  have:=strsD_map (w.map λc=>mkS [c]);rwa [b9]at this
 have hE:eLC [0] (iL (zag [.v,.v,.v] zbd (zaa (zab 1) (zaa (eCB zbP (zaa (zab 0) zad)) (zaa (zab 2) zad))))) zcT zbR [aa (.bor (ws.map λw=>.str (mkS [w]))),aa (.val (.int c)),aa (.val (.int m))]=aa (.own (w.map λw=>.str (mkS [w]))):=
  zdO (by simp (disch:=omega) only[iL,zag,zaa,zab,jqf,jqe,eCB,zad,jqc,jqa,zbP,zdY,asL,al,zat,zbs,asV,q]) w1 (by rw[al];exact hw)
 have he:(("" : Str))=mkS []:=rfl;simp (disch:=omega) only[zb4,zcr,stE,stN,jqc,jqa,zem,zbt,eBM,eC,he,zaa,aG,jqk,zad,ziW,sOf,asL,toN,hE,hs,al,zap,zjT,zaf,zeI]
def prD(p:Int×Int):D:=.tup [.int p.1,.int p.2]
def jst(acc:List (Int×Int))(p:Int×Int):List (Int×Int):=match acc.getLast? with
 |some l=>if p.1<=l.2 then acc.dropLast++[(l.1,if p.2 > l.2 then p.2 else l.2)]else acc++[p]
 |none=>acc++[p]
def jnd(ps:List (Int×Int)):List (Int×Int):=ps.foldl jst []
def set_last{α:Type}{xs:List α}{x y:α}(h:xs.getLast? =aa x):xs.set (xs.length-1) y=xs.dropLast++[y]:=by
 obtain⟨ys,rfl⟩:=gg.mp h;rw[fH,am,cI,dN,hG _ _ (ak _),fF];rfl
def ixN_m1{n:Nat}(h:0<n):ixN n (-1)=aa (n-1):=by
 unfold ixN;rw[if_neg (by decide),if_pos (by lia),show(-1+(n:Int)).toNat=n-1 by lia]
def jst_len(acc:List (Int×Int))(p:Int×Int):(jst acc p).length<=acc.length+1:=by
 unfold jst;split
 ·split
  ·rw[am,ip,cI];lia
  ·rw[am,cI];exact ak _
 ·rw[am,cI];exact ak _
def sIx_i{i:Nat}{fi fe:FE}{δ:En}{ds:List D}{d:D}{k:Int}{j:Nat}(h0:δ[i]? =aa (aa (.own ds)))(h1:fe δ=aa (.val d))(h2:fi δ=aa (.val (.int k)))(h3:ixN ds.length k=aa j):fSIx i fi fe δ=aa (.nx (δ.set i (aa (.own (ds.set j d))))):=by
 unfold fSIx;rw[h0];show((fe δ).bind asV).bind _=_;rw[h1,h2];simp only[aS,asV,iOf,h3,cx]
def andI{X Y:FT}{δ:En}{a b:Bool}(hX:X δ=aa a)(hY:a=true->Y δ=aa b):zhg X Y δ=aa (a&&b):=by
 cases a with
 |false=>unfold zhg;rw[hX];rfl
 |true=>unfold zhg;rw[hX];exact hY rfl
def tup2{A B:FE}{δ:En}{a b:D}(hA:A δ=aa (.val a))(hB:B δ=aa (.val b)):zd8 (zaa A (zaa B zad)) δ=aa (.val (.tup [a,b])):=by
 unfold zd8 zaa zad;rw[hA];simp only[aS];rw[hB];rfl
def max2{A B:FE}{δ:En}{a b:Int}(hA:A δ=aa (.val (.int a)))(hB:B δ=aa (.val (.int b))):eCB zh9 (zaa A (zaa B zad)) δ=aa (.val (.int (if b > a then b else a))):=by
 unfold eCB zaa zad;rw[hA];simp only[aS];rw[hB];rfl
def leII{E F:FE}{δ:En}{a b:Int}(h1:E δ=aa (.val (.int a)))(h2:F δ=aa (.val (.int b))):tOf (ex2 gLe E F) δ=aa (decide (a<=b)):=by by_cases e:a<=b <;> simp only[tOf,ex2,h1,h2,gLe,pI0,iOf,jqa,jqc,e,jqy,bOf,jqz]
def geII{E F:FE}{δ:En}{a b:Int}(h1:E δ=aa (.val (.int a)))(h2:F δ=aa (.val (.int b))):tOf (ex2 gGe E F) δ=aa (decide (a ≥ b)):=by by_cases e:a ≥ b <;> simp only[tOf,ex2,h1,h2,gGe,pI0,iOf,jqa,jqc,e,jqy,bOf,jqz]
def jst_body{C:FT}{V:FE}{s:Option Ent}{acc:List (Int×Int)}{p:Int×Int}(hl:acc.length<100000)
  (hC:C [s,aa (.own (acc.map prD)),aa (.val (.int p.1)),aa (.val (.int p.2))]=aa (match acc.getLast? with|some l=>decide (p.1<=l.2)|none=>false))
  (hV:∀l,acc.getLast? =aa l->V [s,aa (.own (acc.map prD)),aa (.val (.int p.1)),aa (.val (.int p.2))]=aa (.val (prD (l.1,if p.2 > l.2 then p.2 else l.2)))) :
  (fIf C (fSIx 1 (ex1 zeL (eC (.int 1))) V) (zf6 1 (zd8 (zaa (zab 2) (zaa (zab 3) zad))))) [s,aa (.own (acc.map prD)),aa (.val (.int p.1)),aa (.val (.int p.2))] =
  aa (.nx [s,aa (.own ((jst acc p).map prD)),aa (.val (.int p.1)),aa (.val (.int p.2))]):=by
 have ap:(zf6 1 (zd8 (zaa (zab 2) (zaa (zab 3) zad)))) [s,aa (.own (acc.map prD)),aa (.val (.int p.1)),aa (.val (.int p.2))]=aa (.nx [s,aa (.own ((acc++[p]).map prD)),aa (.val (.int p.1)),aa (.val (.int p.2))]):=by
  rw[bn];exact fAppI rfl (tup2 rfl rfl) (by rw[al];lia)
 cases q:acc.getLast? with
 |none=>
  rw[q]at hC;rw[fIfF hC,ap];unfold jst;rw[q]
 |some l=>
  rw[q]at hC;have hpos:0<acc.length:=by cases acc with
   |nil=>cases q
   |cons _ _=>simp
  by_cases hb:p.1<=l.2
  ·rw[show(match aa l with|some l=>decide (p.1<=l.2)|none=>false)=true from decide_eq_true hb]at hC;rw[fIfT hC];refine(sIx_i (k:=-1) rfl (hV l q) rfl (ixN_m1 (by rw[al];exact hpos))).trans ?_;have e:jst acc p=acc.dropLast++[(l.1,if p.2 > l.2 then p.2 else l.2)]:=by unfold jst;rw[q];exact if_pos hb
   have hq:(acc.map prD).getLast? =aa (prD l):=by rw[i9,q];rfl
   rw[set_last hq,e,bn,List.map_dropLast];rfl
  ·rw[show(match aa l with|some l=>decide (p.1<=l.2)|none=>false)=false from decide_eq_false hb]at hC;rw[fIfF hC,ap];have e:jst acc p=acc++[p]:=by unfold jst;rw[q];exact if_neg hb
   rw[e]
def last_at{acc:List (Int×Int)}{l:Int×Int}(h:acc.getLast? =aa l):atI (acc.map prD) (-1)=aa (prD l):=zjJ (by rw[i9,h];rfl)
def last_i{s a b:Option Ent}{acc:List (Int×Int)}{l:Int×Int}(h:acc.getLast? =aa l):ex2 zdJ (zab 1) (ex1 zeL (eC (.int 1))) [s,aa (.own (acc.map prD)),a,b]=aa (.val (prD l)):=ixLW rfl rfl (last_at h)
def ziF(s:Option Ent)(acc:List (Int×Int))(p:Int×Int)(hl:acc.length<100000) :
  zf1 [s,aa (.own (acc.map prD)),aa (.val (.int p.1)),aa (.val (.int p.2))]=aa (.nx [s,aa (.own ((jst acc p).map prD)),aa (.val (.int p.1)),aa (.val (.int p.2))]):=by
 refine jst_body hl ?_ λl h=>tup2 (zjZ (last_i h) rfl rfl) (max2 (zjZ (last_i h) rfl rfl) rfl);have e1:eCB zbP (zaa (zab 1) zad) [s,aa (.own (acc.map prD)),aa (.val (.int p.1)),aa (.val (.int p.2))]=aa (.val (.int (acc.length:Int))):=by simp only[eCB,zaa,zab,jqf,jqe,zad,jqc,jqa,zbP,zdY,asL,al]
 have e2:tOf (ex2 gGt (eCB zbP (zaa (zab 1) zad)) (eC (.int 0))) [s,aa (.own (acc.map prD)),aa (.val (.int p.1)),aa (.val (.int p.2))]=aa (decide (acc.length > 0)):=by
  generalize eCB zbP (zaa (zab 1) zad)=EE at e1 ⊢;by_cases h:acc.length > 0
  ·simp only[tOf,ex2,e1,eC,gGt,pI0,iOf,jqa,jqc,show(acc.length:Int) > 0 by lia,jqy,bOf,h]
  ·simp only[tOf,ex2,e1,eC,gGt,pI0,iOf,jqa,jqc,show ¬(acc.length:Int) > 0 by lia,jqz,bOf,h]
 cases q:acc.getLast? with
 |none=>
  have:acc=[]:=gh.mp q;subst this;exact andI (b:=false) e2 λh=>by simp at h
 |some l=>
  have hpos:acc.length > 0:=by cases acc with
   |nil=>cases q
   |cons _ _=>simp
  rw[decide_eq_true hpos]at e2;exact andI (b:=decide (p.1<=l.2)) e2 λ_=>leII rfl (zjZ (last_i q) rfl rfl)
def jloop{f:FS}(hf:∀(s:Option Ent) (acc:List (Int×Int)) (p:Int×Int),acc.length<100000->f [s,aa (.own (acc.map prD)),aa (.val (.int p.1)),aa (.val (.int p.2))]=aa (.nx [s,aa (.own ((jst acc p).map prD)),aa (.val (.int p.1)),aa (.val (.int p.2))])) :
  ∀(ps:List (Int×Int)) (s:Option Ent) (acc:List (Int×Int)) (a b:Option Ent),acc.length+ps.length<100000->∃a' b',loop (gTp (zcO (gNm 2) (zcO (gNm 3) zgb))) f (ps.map prD) [s,aa (.own (acc.map prD)),a,b]=aa (.nx [s,aa (.own ((ps.foldl jst acc).map prD)),a',b'])
 |[],s,acc,a,b,_=>⟨a,b,rfl⟩
 |p::ps,s,acc,a,b,h=>by
  rw[au]at h;have:=jst_len acc p;obtain⟨a',b',e⟩:=jloop hf ps s (jst acc p) (aa (.val (.int p.1))) (aa (.val (.int p.2))) (by lia);exact⟨a',b',(zby rfl (hf s acc p (by lia))).trans e⟩
def zh3:∀(ps acc:List (Int×Int)),(ps.foldl jst acc).length<=acc.length+ps.length
 |[],acc=>ak _
 |p::ps,acc=>by
  have h1:=zh3 ps (jst acc p);have h2:=jst_len acc p;rw[db,au];lia
def prR(p:Int×Int):RwI:=[p.1,p.2]
def ofR(r:RwI):Int×Int:=(r.getD 0 0,r.getD 1 0)
def srtP(ps:List (Int×Int)):List (Int×Int):=(srtR (ps.map prR)).map ofR
def rows_map(ps:List (Int×Int)):zhE (ps.map prD)=aa (ps.map prR):=by
 induction ps with
 |nil=>rfl
 |cons p ps ih=>rw[ar,zhE,ih];rfl
def srtP_D(ps:List (Int×Int)):(srtR (ps.map prR)).map rowD=(srtP ps).map prD:=by
 unfold srtP;rw[b9];refine bQ λr hr=>?_;obtain⟨p,_,rfl⟩:=bU.mp ((zdU _).mem_iff.mp hr);rfl
def srtP_perm(ps:List (Int×Int)):(srtP ps).Perm ps:=by
 have h:=(zdU (ps.map prR)).map ofR;rw[b9]at h;exact h.trans (.of_eq ((bQ λp _=>rfl).trans (gS ps)))
def srt_g{ps:List (Int×Int)}(hl:ps.length<=1000000){δ:En}{E:FE}(h:E δ=aa (.bor (ps.map prD))):iL (eCB gSrtG (zaa E zad)) δ=aa ((srtP ps).map prD):=by
 have e:eCB gSrtG (zaa E zad) δ=aa (.own ((srtP ps).map prD)):=by
  have hr:∀r∈ps.map prR,r≠[]:=λr hr=>by
   obtain⟨p,_,rfl⟩:=bU.mp hr;exact List.cons_ne_nil _ _
  have hl':(ps.map prR).length<=1000000:=by rw[al];exact hl
  unfold eCB zaa zad;rw[h];simp only[aS,gSrtG,asL,rows_map,srtP_D,cx];rw[eq_true (And.intro hr hl'),zaf]
 unfold iL;rw[e];rfl
def zhS(ps:List (Int×Int))(hl:ps.length<=90000):zfl [.lst (ps.map prD)]=aa (.val (.tup ((jnd (srtP ps)).map prD))):=by
 have hp:=(srtP_perm ps).length_eq;obtain⟨a',b',e⟩:=jloop ziF (srtP ps) (aa (.bor (ps.map prD))) [] ab ab (by simp;lia);have hj:(jnd (srtP ps)).length<=90000:=by have:=zh3 (srtP ps) [];simp at this;exact aH this (by lia)
 have hF:zfx [aa (.bor (ps.map prD)),ab,ab,ab]=aa (.rt (.val (.tup ((jnd (srtP ps)).map prD))) [aa (.bor (ps.map prD)),aa (.own ((jnd (srtP ps)).map prD)),a',b']):=by
  refine(show zfx _=_ from zbD (zgg (show zcW zad _=aa (.own [])from rfl))).trans ((forN (srt_g (by lia) rfl) e).trans (zfW ?_))
  have hz:((jnd (srtP ps)).map prD).length<=1000000:=by rw[al];lia
  show eCB zdr (zaa (zab 1) zad) [aa (.bor (ps.map prD)),aa (.own ((jnd (srtP ps)).map prD)),a',b']=_;simp only[eCB,zaa,zab,jqf,jqe,zad,jqc,jqa,zdr,asL]
 exact(congrArg (λo=>cu o _) hF).trans rfl
def mulI{E F:FE}{δ:En}{a b:Int}(h1:E δ=aa (.val (.int a)))(h2:F δ=aa (.val (.int b)))(hb:b64 a):ex2 zeb E F δ=aa (.val (.int (a*b))):=by simp only[ex2,h1,h2,zeb,pI,iOf,jqa,hb,jrd,zaf]
def min2{A B:FE}{δ:En}{a b:Int}(hA:A δ=aa (.val (.int a)))(hB:B δ=aa (.val (.int b))):eCB zh0 (zaa A (zaa B zad)) δ=aa (.val (.int (if b<a then b else a))):=by
 unfold eCB zaa zad;rw[hA];simp only[aS];rw[hB];rfl
def sliceI(t:List Nat)(a b:Int){A B E:FE}{δ:En}(hl:t.length<=1000000)(hE:E δ=aa (.val (.str (mkS t))))(hA:A δ=aa (.val (.int a)))(hB:B δ=aa (.val (.int b))):eSl zcV E (oSo A) (oSo B) δ=aa (.val (.str (mkS (zbJ t (aa a) (aa b))))):=by
 simp only[eSl,hE,oSo,hA,jqa,iOf,jqc,hB,zcV,sOf,zaq,hl,zap,zcf,zaf]
def eqS{E F:FE}{δ:En}{a b:List Nat}(h1:E δ=aa (.val (.str (mkS a))))(h2:F δ=aa (.val (.str (mkS b)))):tOf (ex2 gEq E F) δ=aa (decide (a=b)):=by
 by_cases e:a=b
 ·have e':mkS a=mkS b:=by rw[e]
  simp only[tOf,ex2,h1,e,h2,gEq,jqa,zeM,jqy,jqc,bOf]
 ·have e':¬ mkS a=mkS b:=λq=>e (mkS_inj q);simp only[tOf,ex2,h1,h2,gEq,jqa,zeM,e',jqz,jqc,bOf,e]
def rngI{E:FE}{δ:En}{n:Nat}(h:E δ=aa (.val (.int (n:Int))))(hn:n<1000000000):iR1 (zaa E zad) δ=aa ((aq n).map λ(i:Nat)=>D.int (0+(i:Int))):=by
 have hb:b62 (n:Int):=zdj (by lia);have ez:((n:Int)).toNat=n:=by lia
 simp only[iR1,zaa,h,zad,jqc,jqa,iOf,hb,ez,zaf]
def pB(n:Nat)(m:Int)(i:Nat):Int:=(0+(i:Int))*(n:Int) / (m+1)
def pE(n:Nat)(m:Int)(i:Nat):Int:=(0+(i:Int)+1)*(n:Int) / (m+1)
def pBE(n:Nat){m:Int}{i:Nat}(h:(i:Int)<=m):0<=pB n m i/\pB n m i<=pE n m i/\pE n m i<=n:=by
 unfold pB pE;have hm:0<m+1:=by lia
 refine⟨Int.ediv_nonneg (Int.mul_nonneg (by lia) (by lia)) (by lia),Int.ediv_le_ediv hm (dQ (by lia) (by lia)),?_⟩;refine Int.ediv_le_of_le_mul hm ?_;rw[Int.mul_comm (n:Int)];exact dQ (by lia) (by lia)
def cut_len(w:List Nat){b e:Int}(h0:0<=b)(h1:b<=e)(h2:e<=w.length):((zbJ w (aa b) (aa e)).length:Int)=e-b:=by
 obtain⟨b,rfl⟩:=bp h0;obtain⟨e,rfl⟩:=bp (fI h0 h1);unfold zbJ;rw[HT.sIx_nat,HT.sIx_nat,bw,bS];lia
def stnd(w t:List Nat)(b e:Int)(a:Nat):Bool:=decide (zbJ t (aa (0+(a:Int))) (aa (0+(a:Int)+(e-b)))=zbJ w (aa b) (aa e))
def spr(n:Nat)(m:Int)(l:Nat)(b:Int)(a:Nat):Int×Int:=(if 0 > 0+(a:Int)-b-m then 0 else 0+(a:Int)-b-m,if (l:Int)<0+(a:Int)+n-b+m then (l:Int)else 0+(a:Int)+n-b+m)
def plc(w t:List Nat)(b e:Int):List Nat:=(aq ((t.length:Int)-(e-b)+1).toNat).filter (stnd w t b e)
def plc_len(w t:List Nat){b e:Int}(h:b<=e):(plc w t b e).length<=t.length+1:=by
 unfold plc;refine aH (dv _ _) ?_;rw[bK];lia
def zfm(w t:List Nat)(m:Int)(k:Nat):List (Int×Int):=(aq k).flatMap λi=>(plc w t (pB w.length m i) (pE w.length m i)).map (spr w.length m t.length (pB w.length m i))
def zih(w t:List Nat)(m:Int)(k:Nat):zfm w t m (k+1)=zfm w t m k++(plc w t (pB w.length m k) (pE w.length m k)).map (spr w.length m t.length (pB w.length m k)):=by
 unfold zfm;rw[cB,eG];simp
def zhd(w t:List Nat)(m:Int)(ht:t.length<=900):∀k:Nat,(k:Int)<=m+1->(zfm w t m k).length<=k*901
 |0,_=>ak _
 |k+1,h=>by
  rw[zih,am,al];have h1:=zhd w t m ht k (by lia);have h2:=plc_len w t (b:=pB w.length m k) (e:=pE w.length m k) (pBE w.length (by lia)).2.1;lia
def places_ok(w t:List Nat)(b e:Int)(h0:0<=b)(h1:b<=e)(h2:e<=w.length)(hw:w.length<=1000)(ht:t.length<=900):zc7 [.str (mkS (zbJ w (aa b) (aa e))),.str (mkS t)]=aa (.own ((plc w t b e).map λ(a:Nat)=>D.int (0+(a:Int)))):=by
 have hl:=cut_len w h0 h1 h2;have hw':(zbJ w (aa b) (aa e)).length<=1000:=aH (zg2 _ _ _) hw;have hlt:∀a:Nat,stnd w t b e a=decide (zbJ t (aa (0+(a:Int))) (aa (0+(a:Int)+((zbJ w (aa b) (aa e)).length:Int)))=zbJ w (aa b) (aa e)):=λa=>by rw[hl];rfl
 have hd:(plc w t b e)=(aq ((t.length:Int)-((zbJ w (aa b) (aa e)).length:Int)+1).toNat).filter (stnd w t b e):=by rw[hl];rfl
 rw[hd];generalize stnd w t b e=P at hlt ⊢;generalize zbJ w (aa b) (aa e)=p at hlt hw' ⊢;have hc:∀(es:List Nat) (δ:En),δ[0]? =aa (aa (.val (.str (mkS p))))->δ[1]? =aa (aa (.val (.str (mkS t))))->zb1 (λd=>zcu (cEn [0,1] δ d)) (λd=>zdn (cEn [0,1] δ d)) (es.map λ(i:Nat)=>D.int (0+(i:Int)))=aa ((es.filter P).map λ(a:Nat)=>D.int (0+(a:Int))):=by
  intro es δ h1 h2
  induction es with
  |nil=>rfl
  |cons a es ih=>
   have hcE:cEn [0,1] δ (D.int (0+(a:Int)))=[aa (.val (.int (0+(a:Int)))),aa (.val (.str (mkS p))),aa (.val (.str (mkS t)))]:=by
    simp only[cEn,ar,bu,h1,h2,eE,aS,ziI]
   have hT:zcu [aa (.val (.int (0+(a:Int)))),aa (.val (.str (mkS p))),aa (.val (.str (mkS t)))]=aa (P a):=by
    rw[hlt];exact eqS (sliceI t _ _ (by lia) rfl rfl (zje rfl (zj1 rfl (zaq p) (by lia)))) rfl
   rw[ar,zb1,ih,hcE,hT];simp only[aS];cases hP:P a with
   |true=>rw[if_pos rfl,gC hP];rfl
   |false=>rw[if_neg (by simp),gD (by rw[hP];simp)]
 have e1:ex2 zaV (ex2 zee (eCB zaA (zaa (zab 1) zad)) (eCB zaA (zaa (zab 0) zad))) (eC (.int 1)) [aa (.val (.str (mkS p))),aa (.val (.str (mkS t)))]=aa (.val (.int ((t.length:Int)-(p.length:Int)+1))):=zje (zj3 (zj1 rfl (zaq t) (by lia)) (zj1 rfl (zaq p) (by lia))) rfl;have e2:iR1 (zaa (ex2 zaV (ex2 zee (eCB zaA (zaa (zab 1) zad)) (eCB zaA (zaa (zab 0) zad))) (eC (.int 1))) zad) [aa (.val (.str (mkS p))),aa (.val (.str (mkS t)))]=aa ((aq ((t.length:Int)-(p.length:Int)+1).toNat).map λ(i:Nat)=>D.int (0+(i:Int))):=by
  have hb:b62 ((t.length:Int)-(p.length:Int)+1):=zdj (by lia);generalize ex2 zaV (ex2 zee (eCB zaA (zaa (zab 1) zad)) (eCB zaA (zaa (zab 0) zad))) (eC (.int 1))=EE at e1 ⊢;simp only[iR1,zaa,e1,zad,jqc,jqa,iOf,hb,zaf]
 have e3:=zdO (fr:=[0,1]) (ft:=zcu) (fe:=zdn) e2 (hc (aq ((t.length:Int)-(p.length:Int)+1).toNat) _ rfl rfl) (by
  rw[al];refine aH (dv _ _) ?_;rw[bK];lia)
 have hF:zeg [aa (.val (.str (mkS p))),aa (.val (.str (mkS t)))]=aa (.rt (.own (((aq ((t.length:Int)-(p.length:Int)+1).toNat).filter P).map λ(a:Nat)=>D.int (0+(a:Int)))) [aa (.val (.str (mkS p))),aa (.val (.str (mkS t)))]):=by
  show zbt _ _=_;unfold zbt;rw[e3];rfl
 exact(congrArg (λo=>cu o _) hF).trans rfl
def zjG(w t:List Nat)(m b:Int)(x4 x6:Option Ent)(hw:w.length<=1000)(ht:t.length<=900):∀(as:List Nat) (acc:List (Int×Int)) (x7:Option Ent),acc.length+as.length<1000000->∃y7,
  loop (gNm 7) zca (as.map λ(a:Nat)=>D.int (0+(a:Int))) [aa (.val (.str (mkS w))),aa (.val (.int m)),aa (.val (.str (mkS t))),aa (.own (acc.map prD)),x4,aa (.val (.int b)),x6,x7] =
  aa (.nx [aa (.val (.str (mkS w))),aa (.val (.int m)),aa (.val (.str (mkS t))),aa (.own ((acc++as.map (spr w.length m t.length b)).map prD)),x4,aa (.val (.int b)),x6,y7])
 |[],acc,x7,_=>⟨x7,by rw[bu,bu,aU];rfl⟩
 |a::as,acc,x7,h=>by
  rw[au]at h;obtain⟨y7,e⟩:=zjG w t m b x4 x6 hw ht as (acc++[spr w.length m t.length b a]) (aa (.val (.int (0+(a:Int))))) (by rw[am,cI];lia);refine⟨y7,(zby rfl (show zca _=_ from (fAppI (ds:=acc.map prD) rfl (tup2 (max2 (zj3 (zj3 rfl rfl) rfl) rfl) (min2 (zje (zj3 (zje rfl (zj1 rfl (zaq w) (by lia))) rfl) rfl) (zj1 rfl (zaq t) (by lia)))) (by rw[al];lia)))).trans ?_⟩;rw[a7]at e;rw[show acc.map prD++[D.tup [.int (if 0 > 0+(a:Int)-b-m then 0 else 0+(a:Int)-b-m),.int (if (t.length:Int)<0+(a:Int)+w.length-b+m then (t.length:Int)else 0+(a:Int)+w.length-b+m)]]=(acc++[spr w.length m t.length b a]).map prD by rw[bn];rfl];exact e
def zjV(w t:List Nat)(m:Int)(k:Nat)(x5 x6 x7:Option Ent)(hm:0<=m/\m<=90)(hk:(k:Int)<=m)(hw:w.length<=1000)(ht:t.length<=900):∃y5 y6 y7,
  zbq [aa (.val (.str (mkS w))),aa (.val (.int m)),aa (.val (.str (mkS t))),aa (.own ((zfm w t m k).map prD)),aa (.val (.int (0+(k:Int)))),x5,x6,x7] =
  aa (.nx [aa (.val (.str (mkS w))),aa (.val (.int m)),aa (.val (.str (mkS t))),aa (.own ((zfm w t m (k+1)).map prD)),aa (.val (.int (0+(k:Int)))),y5,y6,y7]):=by
 obtain⟨h0,h1,h2⟩:=pBE w.length hk;have hl:=zhd w t m ht k (by lia);have hp:=plc_len w t h1;have s5:ex2 zdL (ex2 zeb (zab 4) (eCB zaA (zaa (zab 0) zad))) (ex2 zaV (zab 1) (eC (.int 1))) [aa (.val (.str (mkS w))),aa (.val (.int m)),aa (.val (.str (mkS t))),aa (.own ((zfm w t m k).map prD)),aa (.val (.int (0+(k:Int)))),x5,x6,x7]=aa (.val (.int (pB w.length m k))):=
  divI (mulI rfl (zj1 rfl (zaq w) (by lia)) (zhD (by lia))) (zje rfl rfl) (by lia)
 have s6:ex2 zdL (ex2 zeb (ex2 zaV (zab 4) (eC (.int 1))) (eCB zaA (zaa (zab 0) zad))) (ex2 zaV (zab 1) (eC (.int 1))) [aa (.val (.str (mkS w))),aa (.val (.int m)),aa (.val (.str (mkS t))),aa (.own ((zfm w t m k).map prD)),aa (.val (.int (0+(k:Int)))),aa (.val (.int (pB w.length m k))),x6,x7]=aa (.val (.int (pE w.length m k))):=
  divI (mulI (zje rfl rfl) (zj1 rfl (zaq w) (by lia)) (zhD (by lia))) (zje rfl rfl) (by lia)
 obtain⟨y7,e7⟩:=zjG w t m (pB w.length m k) (aa (.val (.int (0+(k:Int))))) (aa (.val (.int (pE w.length m k)))) hw ht (plc w t (pB w.length m k) (pE w.length m k)) (zfm w t m k) x7 (by lia);have e1:eSl zcV (zab 0) (oSo (zab 5)) (oSo (zab 6)) [aa (.val (.str (mkS w))),aa (.val (.int m)),aa (.val (.str (mkS t))),aa (.own ((zfm w t m k).map prD)),aa (.val (.int (0+(k:Int)))),aa (.val (.int (pB w.length m k))),aa (.val (.int (pE w.length m k))),x7]=aa (.val (.str (mkS (zbJ w (aa (pB w.length m k)) (aa (pE w.length m k)))))):=sliceI w _ _ (by lia) rfl rfl rfl;have e2:=(zf9 (g:=zc7) (Y:=zab 2) e1 rfl).trans (places_ok w t (pB w.length m k) (pE w.length m k) h0 h1 h2 hw ht)
 have e3:iL (zag [.v,.v] zc7 (zaa (eSl zcV (zab 0) (oSo (zab 5)) (oSo (zab 6))) (zaa (zab 2) zad))) [aa (.val (.str (mkS w))),aa (.val (.int m)),aa (.val (.str (mkS t))),aa (.own ((zfm w t m k).map prD)),aa (.val (.int (0+(k:Int)))),aa (.val (.int (pB w.length m k))),aa (.val (.int (pE w.length m k))),x7]=aa ((plc w t (pB w.length m k) (pE w.length m k)).map λ(a:Nat)=>D.int (0+(a:Int))):=by
  unfold iL;rw[e2];rfl
 refine⟨aa (.val (.int (pB w.length m k))),aa (.val (.int (pE w.length m k))),y7,(show zbq _=_ from zbD (fSetI s5)).trans ((zbD (fSetI s6)).trans ?_)⟩;rw[zih];exact(show zdK _ _ _ _=_ by unfold zdK;exact(congrArg (λo=>cu o _) e3).trans e7)
def parts_ok(w t:List Nat)(m:Int)(hm:0<=m/\m<=90)(hw:w.length<=1000)(ht:t.length<=900):zch [.str (mkS w),.int m,.str (mkS t)]=aa (.val (.tup ((jnd (srtP (zfm w t m (m.toNat+1)))).map prD))):=by
 obtain⟨n,rfl⟩:=bp hm.1;rw[show((n:Int)).toNat=n by lia];obtain⟨δ',w1,x4,x5,x6,x7,rfl⟩:=zc3 (tg:=gNm 4) (f:=zbq) (λk δ=>∃x4 x5 x6 x7,δ=[aa (.val (.str (mkS w))),aa (.val (.int (n:Int))),aa (.val (.str (mkS t))),aa (.own ((zfm w t n k).map prD)),x4,x5,x6,x7])
  ((aq (n+1)).map λ(i:Nat)=>D.int (0+(i:Int))) 0 [aa (.val (.str (mkS w))),aa (.val (.int (n:Int))),aa (.val (.str (mkS t))),aa (.own []),ab,ab,ab,ab] (λk d δ hd hδ=>by
   obtain⟨x4,x5,x6,x7,rfl⟩:=hδ;rw[bi];have hk:k<n+1:=by have:=(bo.mp hd).1;simpa using this
   rw[aA,bH hk]at hd;cases hd;obtain⟨y5,y6,y7,h⟩:=zjV w t n k x5 x6 x7 hm (by lia) hw ht;exact⟨_,_,rfl,.inl h,_,y5,y6,y7,rfl⟩) ⟨ab,ab,ab,ab,rfl⟩
 simp only[al,bK,bi]at w1;have hl:=zhd w t n ht (n+1) (by lia);have hj:=zhS (zfm w t n (n+1)) (by lia);generalize zfm w t n (n+1)=fs at w1 hj ⊢;have hF:zcb [aa (.val (.str (mkS w))),aa (.val (.int (n:Int))),aa (.val (.str (mkS t))),ab,ab,ab,ab,ab]=aa (.rt (.val (.tup ((jnd (srtP fs)).map prD))) [aa (.val (.str (mkS w))),aa (.val (.int (n:Int))),aa (.val (.str (mkS t))),aa (.own (fs.map prD)),x4,x5,x6,x7]):=by
  refine(show zcb _=_ from zbD (zgg (show zcW zad _=aa (.own [])from rfl))).trans ((forN (rngI (n:=n+1) ((zje rfl rfl).trans (by rw[Int.natCast_add];rfl)) (by lia)) w1).trans (zfW ?_))
  simp only[zag,zaa,zab,jqf,jqe,zad,jqc,jqa,zat,zbs,asL,hj]
 exact(congrArg (λo=>cu o _) hF).trans rfl
def lkI:List Str->List Int->Str->Option Int
 |k::ks,i::is,z=>if k=z then aa i else lkI ks is z
 | _,_,_=>ab
def zgY(z:Str):∀(ks:List Str) (is:List Int),lkD ks (is.map .int) z=(lkI ks is z).map .int
 |[],is=>by cases is <;> rfl
 |k::ks,[]=>rfl
 |k::ks,i::is=>by
  rw[ar];simp only[lkD,lkI];by_cases e:k=z
  ·rw[if_pos e,if_pos e];rfl
  ·rw[if_neg e,if_neg e];exact zgY z ks is
def lkI_mem{z:Str}:∀{ks:List Str} {is:List Int},ks.length=is.length->z∈ks->∃i,lkI ks is z=aa i
 |[],_,_,h=>by cases h
 |k::ks,[],hl,_=>by cases hl
 |k::ks,i::is,hl,h=>by
  simp only[lkI];by_cases e:k=z
  ·exact⟨i,if_pos e⟩
  ·rw[if_neg e];exact lkI_mem (by simpa using hl) ((aE.mp h).resolve_left λq=>e q.symm)
def ze8(p:List Str×List Int)(z:Str):List Str×List Int:=(pkD p.1 z,pvG p.1 p.2 z ((lkI p.1 p.2 z).getD 0+1))
def pvG_map(z:Str)(v:Int)(ks:List Str)(is:List Int):pvG ks (is.map D.int) z (.int v)=(pvG ks is z v).map .int:=by
 have key:∀(ks:List Str) (is:List Int),d3 (λx y=>if x=z then D.int v else y) ks (is.map D.int)=(d3 (λx y=>if x=z then v else y) ks is).map .int:=by
  intro ks
  induction ks with
  |nil=>intro is;rfl
  |cons k ks ih=>
   intro is;cases is with
   |nil=>rfl
   |cons i is=>
    rw[ar,cS,cS,ar,ih];by_cases e:k=z
    ·rw[if_pos e,if_pos e]
    ·rw[if_neg e,if_neg e]
 unfold pvG;by_cases h:z∈ks
 ·rw[if_pos h,if_pos h];exact key ks is
 ·rw[if_neg h,if_neg h,bn];rfl
def zjK(p:List Str×List Int)(z:Str)(h:p.1.length=p.2.length):(ze8 p z).1.length=(ze8 p z).2.length/\(ze8 p z).1.length<=p.1.length+1:=zgR h
def pcs(t:List Nat)(long:Int):List Str:=(aq ((t.length:Int)-long+1).toNat).map λ(p:Nat)=>mkS (zbJ t (aa (0+(p:Int))) (aa (0+(p:Int)+long)))
def tms(t:List Nat)(long:Int):List Str×List Int:=(pcs t long).foldl ze8 ([],[])
def dcD(p:List Str×List Int):D:=.dic p.1 (p.2.map .int)
def zfr:∀(zs:List Str) (p:List Str×List Int),p.1.length=p.2.length->(zs.foldl ze8 p).1.length=(zs.foldl ze8 p).2.length/\(zs.foldl ze8 p).1.length<=p.1.length+zs.length
 |[],p,h=>⟨h,ak _⟩
 |z::zs,p,h=>by
  obtain⟨h1,h2⟩:=zjK p z h;obtain⟨h3,h4⟩:=zfr zs (ze8 p z) h1;refine⟨h3,?_⟩;rw[db,au];lia
def tms_len(t:List Nat)(long:Int):(tms t long).1.length=(tms t long).2.length:=(zfr _ _ rfl).1
def get_e{δ:En}{i:Nat}{FZ FD:FE}{p:List Str×List Int}{z:Str}(h0:dAt i δ=aa (p.1,p.2.map .int))(hz:FZ δ=aa (.val (.str z))):eDget i (zaa FZ (zaa (eC (.int 0)) zad)) δ=aa (.val (.int ((lkI p.1 p.2 z).getD 0))):=by
 unfold eDget zaa zad eC;rw[h0,hz];simp only[aS,cx,gDg,sOf,zgY];cases lkI p.1 p.2 z <;> rfl
def zj6(t:List Nat)(long:Int)(p:List Str×List Int)(k:Nat)(x4:Option Ent)(hp:p.1.length<=900000)(hl:t.length<=1000000) :
  za6 [aa (.val (.str (mkS t))),aa (.val (.int long)),aa (.obj (.dic p.1 (p.2.map .int))),aa (.val (.int (0+(k:Int)))),x4] =
  aa (.nx [aa (.val (.str (mkS t))),aa (.val (.int long)),aa (.obj (.dic (ze8 p (mkS (zbJ t (aa (0+(k:Int))) (aa (0+(k:Int)+long))))).1 ((ze8 p (mkS (zbJ t (aa (0+(k:Int))) (aa (0+(k:Int)+long))))).2.map .int))),aa (.val (.int (0+(k:Int)))),aa (.val (.str (mkS (zbJ t (aa (0+(k:Int))) (aa (0+(k:Int)+long))))))]):=by
 have s4:eSl zcV (zab 0) (oSo (zab 3)) (oSo (ex2 zaV (zab 3) (zab 1))) [aa (.val (.str (mkS t))),aa (.val (.int long)),aa (.obj (.dic p.1 (p.2.map .int))),aa (.val (.int (0+(k:Int)))),x4]=aa (.val (.str (mkS (zbJ t (aa (0+(k:Int))) (aa (0+(k:Int)+long)))))):=by
  simp only[eSl,zab,jqe,oSo,jqf,jqa,iOf,jqc,ex2,zaV,pI0,zcV,sOf,zaq,hl,zap,zcf,zaf]
 generalize zbJ t (aa (0+(k:Int))) (aa (0+(k:Int)+long))=z at s4 ⊢;have s5:ex2 zaV (eDget 2 (zaa (zab 4) (zaa (eC (.int 0)) zad))) (eC (.int 1)) [aa (.val (.str (mkS t))),aa (.val (.int long)),aa (.obj (.dic p.1 (p.2.map .int))),aa (.val (.int (0+(k:Int)))),aa (.val (.str (mkS z)))]=aa (.val (.int ((lkI p.1 p.2 (mkS z)).getD 0+1))):=zje (get_e (FD:=zab 0) rfl rfl) rfl;refine(show za6 _=_ from zbD (fSetI s4)).trans ?_;show fDput 2 (zab 4) _ [aa (.val (.str (mkS t))),aa (.val (.int long)),aa (.obj (.dic p.1 (p.2.map .int))),aa (.val (.int (0+(k:Int)))),aa (.val (.str (mkS z)))]=_;unfold fDput;rw[s5];have hd:dAt 2 [aa (.val (.str (mkS t))),aa (.val (.int long)),aa (.obj (.dic p.1 (p.2.map .int))),aa (.val (.int (0+(k:Int)))),aa (.val (.str (mkS z)))]=aa (p.1,p.2.map .int):=rfl;have hs:sz (p.1.length+1)=True:=zap (by lia);simp only[aS,asV,hd,zab,dh,bN,sOf,hs,zaf,List.set_cons_succ,fT,pvG_map,ze8,eE,zcr,stE,stN,zeI,zar,sqO,fIf,fOr,zhg,fNot,tOf,ex1,ex2,zab,eC,eAnd,eOr,eIf,gNot,zad,zaa,zd8,zcW,zdF,asV,asL,asLt,toN,za0,zbt,zet,fRetN,fDrop,fNx,fFrz,zf6,fSIx,fAsg,gNm,gTp,zgb,zcO,bOf,iOf,sOf,zdY,pI0,pI,zaV,zee,zeb,zcL,zdL,gPow,gLt,gLe,gGt,gGe,zeL,gEq,gNe,zb3,zeM,scEq_bb,scEq_in,scEq_ni,scEq_nn,scEq_sn,scEq_is,scEq_si,gIsN,gNoN,isN,gInS,gNiS,zb9,zdJ,zen,zjb,gCat,gCatT,gSlL,gSlT,zcV,oNo,oSo,eSl,zbP,zaA,gListQ,zdr,zg4,zkn,gListS,gIsi,isiD,tyN,eCB,eBM,ziW,iL,iB,iT,iR1,iR2,zdK,zag,zat,zbs,zio,eCallK,cEn,ziI,gMin,gMinD,zcT,eChain,jqa,jqb,jqc,jqd,jqe,jqf,jqg,jqh,jqi,jqj,jqk,jql,jqm,aG,jqn,jqo,jqp,jqq,if_true,if_false,reduceIte,jqr,jqs,jqt,jqu,jqv,or_true,true_or,and_true,true_and,jqy,jqz,jqw,jqx,Int.reduceNeg,Nat.reduceLeDiff,Nat.reduceLT,zaf,Int.reduceLT,zap,zcP,zaK,zck,zcz,iS,gLs,gEqD,gNeD,sqOf,zij,zil,iZip,qV,qOf,gIdxL,gIdxT,idxD,vOf,gSum,fExt,gDx,gInD,gNiD,dOf,gTab,gInT,gNiT,eDic,zjW,gTupRev,fPop,ziY,btOf,asT,obD]
def zjF(t:List Nat)(long:Int)(h0:0<long/\long<1000)(hl:t.length<=1000):zaS [.str (mkS t),.int long]=aa (.val (dcD (tms t long))):=by
 have hn:(pcs t long).length=((t.length:Int)-long+1).toNat:=by unfold pcs;simp
 obtain⟨δ',w1,x3,x4,rfl⟩:=zc3 (tg:=gNm 3) (f:=za6) (λk δ=>∃x3 x4,δ=[aa (.val (.str (mkS t))),aa (.val (.int long)),aa (.obj (.dic (((pcs t long).take k).foldl ze8 ([],[])).1 ((((pcs t long).take k).foldl ze8 ([],[])).2.map .int))),x3,x4])
  ((aq ((t.length:Int)-long+1).toNat).map λ(i:Nat)=>D.int (0+(i:Int))) 0 [aa (.val (.str (mkS t))),aa (.val (.int long)),aa (.obj (.dic [] [])),ab,ab] (λk d δ hd hδ=>by
   obtain⟨x3,x4,rfl⟩:=hδ;rw[bi];have hk:k<((t.length:Int)-long+1).toNat:=by have:=(bo.mp hd).1;simpa using this
   rw[aA,bH hk]at hd;cases hd;have hb:=(zfr ((pcs t long).take k) ([],[]) rfl).2;rw[bw]at hb;have hg:(pcs t long)[k]? =aa (mkS (zbJ t (aa (0+(k:Int))) (aa (0+(k:Int)+long)))):=by
    unfold pcs;rw[aA,bH hk];rfl
   have h:=zj6 t long (((pcs t long).take k).foldl ze8 ([],[])) k x4 (by simp at hb;lia) (by lia);refine⟨_,_,rfl,.inl h,aa (.val (.int (0+(k:Int)))),aa (.val (.str (mkS (zbJ t (aa (0+(k:Int))) (aa (0+(k:Int)+long)))))),?_⟩;rw[List.take_add_one,hg,i3];rfl) ⟨ab,ab,rfl⟩
 simp only[al,bK,bi]at w1;rw[<- hn,eV]at w1
 suffices hF:zbN [aa (.val (.str (mkS t))),aa (.val (.int long)),ab,ab,ab]=aa (.rt (.val (dcD (tms t long))) [aa (.val (.str (mkS t))),aa (.val (.int long)),aa (.val (dcD (tms t long))),x3,x4])from (congrArg (λo=>cu o _) hF).trans rfl
 refine(show zbN _=_ from zbD (δ':=[aa (.val (.str (mkS t))),aa (.val (.int long)),aa (.obj (.dic [] [])),ab,ab]) rfl).trans ((forN (ds:=(aq ((t.length:Int)-long+1).toNat).map λ(i:Nat)=>D.int (0+(i:Int))) ?_ (by rw[<- hn];exact w1)).trans rfl)
 have e1:ex2 zaV (ex2 zee (eCB zaA (zaa (zab 0) zad)) (zab 1)) (eC (.int 1)) [aa (.val (.str (mkS t))),aa (.val (.int long)),aa (.obj (.dic [] [])),ab,ab]=aa (.val (.int ((t.length:Int)-long+1))):=zje (zj3 (zj1 rfl (zaq t) (by lia)) rfl) rfl;have hb:b62 ((t.length:Int)-long+1):=zdj (by lia);generalize ex2 zaV (ex2 zee (eCB zaA (zaa (zab 0) zad)) (zab 1)) (eC (.int 1))=EE at e1 ⊢;simp only[zcr,stE,stN,zeI,zar,sqO,fIf,fOr,zhg,fNot,tOf,ex1,ex2,zab,eC,eAnd,eOr,eIf,gNot,zad,zaa,zd8,zcW,zdF,asV,asL,asLt,toN,za0,zbt,zet,fRetN,fDrop,fNx,fFrz,zf6,fSIx,fAsg,gNm,gTp,zgb,zcO,bOf,iOf,sOf,zdY,pI0,pI,zaV,zee,zeb,zcL,zdL,gPow,gLt,gLe,gGt,gGe,zeL,gEq,gNe,zb3,zeM,scEq_bb,scEq_in,scEq_ni,scEq_nn,scEq_sn,scEq_is,scEq_si,gIsN,gNoN,isN,gInS,gNiS,zb9,zdJ,zen,zjb,gCat,gCatT,gSlL,gSlT,zcV,oNo,oSo,eSl,zbP,zaA,gListQ,zdr,zg4,zkn,gListS,gIsi,isiD,tyN,eCB,eBM,ziW,iL,iB,iT,iR1,iR2,zdK,zag,zat,zbs,zio,eCallK,cEn,ziI,gMin,gMinD,zcT,eChain,jqa,jqb,jqc,jqd,jqe,jqf,jqg,jqh,jqi,jqj,jqk,jql,jqm,aG,jqn,jqo,jqp,jqq,if_true,if_false,reduceIte,jqr,jqs,jqt,jqu,jqv,or_true,true_or,and_true,true_and,jqy,jqz,jqw,jqx,Int.reduceNeg,Nat.reduceLeDiff,Nat.reduceLT,zaf,Int.reduceLT,zap,zcP,zaK,zck,zcz,iS,gLs,gEqD,gNeD,sqOf,zij,zil,iZip,qV,qOf,gIdxL,gIdxT,idxD,vOf,gSum,fExt,gDx,gInD,gNiD,dOf,gTab,gInT,gNiT,eDic,zjW,gTupRev,fPop,ziY,btOf,asT,obD,e1,hb]
def shF(p q:List Str×List Int)(z:Str):Int:=if (lkI q.1 q.2 z).getD 0<(lkI p.1 p.2 z).getD 0 then (lkI q.1 q.2 z).getD 0 else (lkI p.1 p.2 z).getD 0
def shr(p q:List Str×List Int):Int:=(p.1.map (shF p q)).sum
def shr_c(p q:List Str×List Int)(z:Str)(i:Int)(h:lkI p.1 p.2 z=aa i):zav [aa (.val (.str z)),aa (.val (dcD p)),aa (.val (dcD q))]=aa (.val (.int (shF p q z))):=by
 have e1:ex2 gDx (zab 1) (zab 0) [aa (.val (.str z)),aa (.val (dcD p)),aa (.val (dcD q))]=aa (.val (.int i)):=by
  simp only[ex2,zab,dcD,jqf,jqe,gDx,dOf,sOf,jqa,zgY,h,jqc]
 have e2:eBM gGet (zab 2) (zaa (zab 0) (zaa (eC (.int 0)) zad)) [aa (.val (.str z)),aa (.val (dcD p)),aa (.val (dcD q))]=aa (.val (.int ((lkI q.1 q.2 z).getD 0))):=by
  simp only[eBM,zab,dcD,jqf,jqe,zaa,eC,zad,jqc,jqa,gGet,dOf,gDg,sOf,zgY];cases lkI q.1 q.2 z <;> rfl
 unfold zav shF;rw[h];generalize ex2 gDx (zab 1) (zab 0)=E1 at e1 ⊢;generalize eBM gGet (zab 2) (zaa (zab 0) (zaa (eC (.int 0)) zad))=E2 at e2 ⊢;simp only[eCB,zaa,e1,e2,zad,jqc,jqa,zh0,iOf,Option.getD_some]
def shr_e{δ:En}{i j:Nat}{p q:List Str×List Int}(hp:p.1.length=p.2.length)(hl:p.1.length<=1000)(hi:δ[i]? =aa (aa (.val (dcD p))))(hj:δ[j]? =aa (aa (.val (dcD q))))(he:zab i δ=aa (.val (dcD p))) :
  eCB gSum (zaa (eLC [i,j] (iD (zab i)) zcT zav) zad) δ=aa (.val (.int (shr p q))):=by
 have hc:∀zs:List Str,(∀z∈zs,z∈p.1)->zb1 (λd=>zcT (cEn [i,j] δ d)) (λd=>zav (cEn [i,j] δ d)) (zs.map D.str)=aa ((zs.map (shF p q)).map D.int):=by
  intro zs
  induction zs with
  |nil=>intro _;rfl
  |cons z zs ih=>
   intro h;obtain⟨v,hv⟩:=lkI_mem hp (h z aj);have hcE:cEn [i,j] δ (D.str z)=[aa (.val (.str z)),aa (.val (dcD p)),aa (.val (dcD q))]:=by
    simp only[cEn,ar,bu,hi,hj,eE,aS,ziI]
   rw[ar,zb1,ih λy hy=>h y (ah _ hy),hcE,shr_c p q z v hv];rfl
 have e1:iD (zab i) δ=aa (p.1.map D.str):=by
  unfold iD;rw[he];rfl
 have e2:eLC [i,j] (iD (zab i)) zcT zav δ=aa (.own ((p.1.map (shF p q)).map D.int)):=zdO e1 (hc p.1 λ_ h=>h) (by simp;lia);generalize eLC [i,j] (iD (zab i)) zcT zav=EE at e2 ⊢;simp only[eCB,zaa,e2,zad,jqc,jqa,gSum,asL,zhK,shr]
def shared_ok(p q:List Str×List Int)(hp:p.1.length=p.2.length)(hl:p.1.length<=1000):zcc [dcD p,dcD q]=aa (.val (.int (shr p q))):=by
 have e:=shr_e (δ:=[aa (.val (dcD p)),aa (.val (dcD q))]) (i:=0) (j:=1) (q:=q) hp hl rfl rfl rfl;have hF:zcZ [aa (.val (dcD p)),aa (.val (dcD q))]=aa (.rt (.val (.int (shr p q))) [aa (.val (dcD p)),aa (.val (dcD q))]):=zfW e;exact(congrArg (λo=>cu o _) hF).trans rfl
def tms_le(t:List Nat)(long:Int)(h:0<long):(tms t long).1.length<=t.length:=by
 have:=(zfr (pcs t long) ([],[]) rfl).2;have hn:(pcs t long).length=((t.length:Int)-long+1).toNat:=by unfold pcs;simp
 show((pcs t long).foldl ze8 ([],[])).1.length<=_;simp at this;lia
def wb(n:Nat)(m:Int)(e:Nat):Int:=if 0 > 0+(e:Int)-(n:Int)-m then 0 else 0+(e:Int)-(n:Int)-m
def wPr(n:Nat)(m:Int)(e:Nat):Int×Int:=(wb n m e,0+(e:Int))
def fnd(P:Nat->Bool)(n:Nat)(m:Int)(k:Nat):List (Int×Int):=((aq k).filter P).map (wPr n m)
def fnd_succ(P:Nat->Bool)(n:Nat)(m:Int)(k:Nat):fnd P n m (k+1)=if P k=true then fnd P n m k++[wPr n m k]else fnd P n m k:=by
 unfold fnd;rw[cB,dm];by_cases h:P k=true
 ·rw[if_pos h,gC h,jr,bn];rfl
 ·rw[if_neg h,gD h,jr,aU]
def fnd_len(P:Nat->Bool)(n:Nat)(m:Int)(k:Nat):(fnd P n m k).length<=k:=by
 unfold fnd;rw[al];exact aH (dv _ _) (by simp)
def zjY(w t:List Nat)(m:Int)(hw:w.length<=1000)(ht:t.length<=900):zfS [.str (mkS w),.int m,.str (mkS t)]=aa (.own ((aq (t.length+1)).map λe=>prD (wPr w.length m e))):=by
 have hc:∀(es:List Nat) (δ:En),δ[1]? =aa (aa (.val (.int m)))->δ[0]? =aa (aa (.val (.str (mkS w))))->zb1 (λd=>zcT (cEn [1,0] δ d)) (λd=>zdk (cEn [1,0] δ d)) (es.map λ(i:Nat)=>D.int (0+(i:Int)))=aa (es.map λe=>prD (wPr w.length m e)):=by
  intro es δ h1 h2
  induction es with
  |nil=>rfl
  |cons e es ih=>
   have hcE:cEn [1,0] δ (D.int (0+(e:Int)))=[aa (.val (.int (0+(e:Int)))),aa (.val (.int m)),aa (.val (.str (mkS w)))]:=by
    simp only[cEn,ar,bu,h1,h2,eE,aS,ziI]
   rw[ar,zb1,ih,hcE];have hC:zdk [aa (.val (.int (0+(e:Int)))),aa (.val (.int m)),aa (.val (.str (mkS w)))]=aa (.val (prD (wPr w.length m e))):=
    tup2 (max2 (zj3 (zj3 rfl (zj1 rfl (zaq w) (by lia))) rfl) rfl) rfl
   rw[hC];rfl
 have e1:ex2 zaV (eCB zaA (zaa (zab 2) zad)) (eC (.int 1)) [aa (.val (.str (mkS w))),aa (.val (.int m)),aa (.val (.str (mkS t)))]=aa (.val (.int ((t.length:Int)+1))):=zje (zj1 rfl (zaq t) (by lia)) rfl;have e2:iR1 (zaa (ex2 zaV (eCB zaA (zaa (zab 2) zad)) (eC (.int 1))) zad) [aa (.val (.str (mkS w))),aa (.val (.int m)),aa (.val (.str (mkS t)))]=aa ((aq (t.length+1)).map λ(i:Nat)=>D.int (0+(i:Int))):=by
  have hb:b62 ((t.length:Int)+1):=zdj (by lia);generalize ex2 zaV (eCB zaA (zaa (zab 2) zad)) (eC (.int 1))=EE at e1 ⊢;have ez:((t.length:Int)+1).toNat=t.length+1:=by lia
  simp only[iR1,zaa,e1,zad,jqc,jqa,iOf,hb,ez,zaf]
 have e3:=zdO (fr:=[1,0]) (ft:=zcT) (fe:=zdk) e2 (hc (aq (t.length+1)) _ rfl rfl) (by simp;lia);have hF:zfC [aa (.val (.str (mkS w))),aa (.val (.int m)),aa (.val (.str (mkS t)))]=aa (.rt (.own ((aq (t.length+1)).map λe=>prD (wPr w.length m e))) [aa (.val (.str (mkS w))),aa (.val (.int m)),aa (.val (.str (mkS t)))]):=by
  show zbt _ _=_;unfold zbt;rw[e3];rfl
 exact(congrArg (λo=>cu o _) hF).trans rfl
def win(w t:List Nat)(m:Int)(e:Nat):List Nat:=zbJ t (aa (wb w.length m e)) (aa (0+(e:Int)))
def zb7(w t:List Nat)(m long:Int)(e:Nat):Bool:=decide (shr (tms w long) (tms (win w t m e) long) ≥ (w.length:Int)-long+1-m*long)
def slice_i(t:List Nat)(a b:Int){A B E:FE}{δ:En}(hl:t.length<=1000000)(hE:E δ=aa (.val (.str (mkS t))))(hA:A δ=aa (.val (.int a)))(hB:B δ=aa (.val (.int b))):eSl zcV E (oSo A) (oSo B) δ=aa (.val (.str (mkS (zbJ t (aa a) (aa b))))):=by
 simp only[eSl,hE,oSo,hA,jqa,iOf,jqc,hB,zcV,sOf,zaq,hl,zap,zcf,zaf]
def kept_turn(w t:List Nat)(m long:Int)(k:Nat)(W M:Option Ent)(h0:0<long/\long<1000)(hw:w.length<=1000)(ht:t.length<=900)(hk:k<10000) :
  zaW [W,M,aa (.val (.str (mkS t))),aa (.val (.int long)),aa (.val (.int ((w.length:Int)-long+1-m*long))),aa (.val (dcD (tms w long))),aa (.own ((fnd (zb7 w t m long) w.length m k).map prD)),aa (.val (.int (wb w.length m k))),aa (.val (.int (0+(k:Int))))] =
  aa (.nx [W,M,aa (.val (.str (mkS t))),aa (.val (.int long)),aa (.val (.int ((w.length:Int)-long+1-m*long))),aa (.val (dcD (tms w long))),aa (.own ((fnd (zb7 w t m long) w.length m (k+1)).map prD)),aa (.val (.int (wb w.length m k))),aa (.val (.int (0+(k:Int))))]):=by
 have hl:=fnd_len (zb7 w t m long) w.length m k;have hwin:(win w t m k).length<=900:=aH (zg2 _ _ _) ht;have e1:eSl zcV (zab 2) (oSo (zab 7)) (oSo (zab 8)) [W,M,aa (.val (.str (mkS t))),aa (.val (.int long)),aa (.val (.int ((w.length:Int)-long+1-m*long))),aa (.val (dcD (tms w long))),aa (.own ((fnd (zb7 w t m long) w.length m k).map prD)),aa (.val (.int (wb w.length m k))),aa (.val (.int (0+(k:Int))))]=aa (.val (.str (mkS (win w t m k)))):=slice_i t _ _ (by lia) rfl rfl rfl;have e2:=(zf9 (g:=zaS) e1 (Y:=zab 3) rfl).trans (zjF (win w t m k) long h0 (by lia))
 have hle:=tms_le w long h0.1;have e3:=(zf9 (g:=zcc) (X:=zab 5) rfl e2).trans (shared_ok (tms w long) (tms (win w t m k) long) (tms_len _ _) (by lia))
 have e4:=geII (F:=zab 4) e3 rfl;rw[fnd_succ];by_cases hq:zb7 w t m long k=true
 ·rw[if_pos hq,bn];have hq':decide (shr (tms w long) (tms (win w t m k) long) ≥ (w.length:Int)-long+1-m*long)=true:=hq;rw[hq']at e4;exact(show zaW _=_ from fIfT e4).trans (fAppI rfl (tup2 rfl rfl) (by rw[al];lia))
 ·rw[if_neg hq];have hq':decide (shr (tms w long) (tms (win w t m k) long) ≥ (w.length:Int)-long+1-m*long)=false:=Bool.eq_false_iff.mpr hq;rw[hq']at e4;exact(show zaW _=_ from fIfF e4)
def kept_ok(w t:List Nat)(m long:Int)(h0:0<long/\long<1000)(hm:0<=m/\m<=1000)(hw:w.length<=1000)(ht:t.length<=900):zcJ [.str (mkS w),.int m,.str (mkS t),.int long]=aa (.val (.tup ((jnd (srtP (fnd (zb7 w t m long) w.length m (t.length+1)))).map prD))):=by
 have b1:b64 m:=zhD (by lia);have s4:ex2 zee (ex2 zaV (ex2 zee (eCB zaA (zaa (zab 0) zad)) (zab 3)) (eC (.int 1))) (ex2 zeb (zab 1) (zab 3)) [aa (.val (.str (mkS w))),aa (.val (.int m)),aa (.val (.str (mkS t))),aa (.val (.int long)),ab,ab,ab,ab,ab]=aa (.val (.int ((w.length:Int)-long+1-m*long))):=
  zj3 (zje (zj3 (zj1 rfl (zaq w) (by lia)) rfl) rfl) (by simp only[ex2,zab,jqf,jqe,zeb,pI,iOf,jqa,b1,jrd,zaf])
 have s5:=(zf9 (g:=zaS) (X:=zab 0) (Y:=zab 3) (δ:=[aa (.val (.str (mkS w))),aa (.val (.int m)),aa (.val (.str (mkS t))),aa (.val (.int long)),aa (.val (.int ((w.length:Int)-long+1-m*long))),ab,ab,ab,ab]) rfl rfl).trans (zjF w long h0 hw)
 have e0:((aq (t.length+1)).map λe=>prD (wPr w.length m e)).length=t.length+1:=by simp
 obtain⟨δ',w1,x7,x8,rfl⟩:=zc3 (tg:=gTp (zcO (gNm 7) (zcO (gNm 8) zgb))) (f:=zaW) (λk δ=>∃x7 x8,δ=[aa (.val (.str (mkS w))),aa (.val (.int m)),aa (.val (.str (mkS t))),aa (.val (.int long)),aa (.val (.int ((w.length:Int)-long+1-m*long))),aa (.val (dcD (tms w long))),aa (.own ((fnd (zb7 w t m long) w.length m k).map prD)),x7,x8])
  ((aq (t.length+1)).map λe=>prD (wPr w.length m e)) 0 [aa (.val (.str (mkS w))),aa (.val (.int m)),aa (.val (.str (mkS t))),aa (.val (.int long)),aa (.val (.int ((w.length:Int)-long+1-m*long))),aa (.val (dcD (tms w long))),aa (.own []),ab,ab] (λk d δ hd hδ=>by
   obtain⟨x7,x8,rfl⟩:=hδ;rw[bi];have hk:k<t.length+1:=by have:=(bo.mp hd).1;simpa using this
   rw[aA,bH hk]at hd;cases hd;exact⟨_,_,rfl,.inl (kept_turn w t m long k _ _ h0 hw ht (by lia)),_,_,rfl⟩) ⟨ab,ab,rfl⟩
 simp only[e0,bi]at w1;have e6:=zjY w t m hw ht;have hj:=zhS (fnd (zb7 w t m long) w.length m (t.length+1)) (aH (fnd_len _ _ _ _) (by lia));generalize fnd (zb7 w t m long) w.length m (t.length+1)=fs at w1 hj ⊢;generalize (aq (t.length+1)).map (λe=>prD (wPr w.length m e))=ws at w1 e6 e0;have hF:zbU [aa (.val (.str (mkS w))),aa (.val (.int m)),aa (.val (.str (mkS t))),aa (.val (.int long)),ab,ab,ab,ab,ab]=aa (.rt (.val (.tup ((jnd (srtP fs)).map prD))) [aa (.val (.str (mkS w))),aa (.val (.int m)),aa (.val (.str (mkS t))),aa (.val (.int long)),aa (.val (.int ((w.length:Int)-long+1-m*long))),aa (.val (dcD (tms w long))),aa (.own (fs.map prD)),x7,x8]):=by
  refine(show zbU _=_ from zaJ s4).trans ((zaJ s5).trans ((zbD (zgg (show zcW zad _=aa (.own [])from rfl))).trans ((forN ?_ w1).trans (zfW ?_))))
  ·simp only[iL,zag,zaa,zab,jqe,jqf,zad,jqc,jqa,zat,zbs,asV,e6]
  ·simp only[zag,zaa,zab,jqf,jqe,zad,jqc,jqa,zat,zbs,asL,hj]
 exact(congrArg (λo=>cu o _) hF).trans rfl
section
open CE
variable (P:List Str)(T:List Nat)(p:Pr)
def siO(most:Int)(e:Nat)(prs:List D):OT:=.ins "Sight" ["most","end","pairs"] [.val (.int most),.val (.int (e:Int)),.lst prs]
def seD(most:Int)(x:Option Int)(j:Nat):List D:=match x with
 |some x=>if x<=most then [.tup [.int (j:Int),.int x]]else []
 |none=>[]
def seD_len(most:Int)(x:Option Int)(j:Nat):(seD most x j).length<=1:=by
 unfold seD;split
 ·split <;> simp
 ·simp
def sinit_ok(most:Int):zbX (.ins "Sight" [] []) [.int most]=aa (.non,siO most 0 []):=by
 simp only[zbX,zhc,jqp,jqq,bi,zcH,zar,zf4,zab,jqn,jqo,aG,jqk,jqf,jqe,jqa,toO,oAt,zbS,jqj,jqg,sqO,eC,jqi,zcW,zad,Nat.reduceLeDiff,zdF,jqc,jra,endM,siO]
 all_goals rfl
def come_ok(most:Int)(x:Option Int)(e:Nat)(prs:List D)(hl:prs.length<100000):zb8 (siO most e prs) [oD x]=aa (.non,siO most (e+1) (prs++seD most x e)):=by
 have ee:((e+1:Nat):Int)=(e:Int)+1:=rfl;unfold siO;rw[ee];cases x with
 |none=>
  rw[show seD most ab e=[]from rfl,aU];simp (disch:=omega) only[zb8,zhc,oD_n,jqp,jqq,bi,zcF,zar,fIf,zhg,tOf,ex2,zab,jqn,jqo,aG,jqk,jqf,jqe,eC,gNoN,isN,jqa,jqt,bOf,eFld,oAt,zbS,fE,gLe,pI0,iOf,jqc,jqb,jqr,jrb,fFApp,zd8,zaa,zad,Nat.reduceAdd,Nat.reduceLeDiff,zdF,asV,jra,jqg,lOf,jqh,zap,zaf,fNx,zaV,sqO,zge,toO,Nat.reduceLT,endM]
 |some x=>
  by_cases h:x<=most
  ·rw[show seD most (aa x) e=[.tup [.int (e:Int),.int x]]from if_pos h];simp (disch:=omega) only[zb8,zhc,oD_s,jqp,jqq,bi,zcF,zar,fIf,zhg,tOf,ex2,zab,jqn,jqo,aG,jqk,jqf,jqe,eC,gNoN,isN,jqa,jqu,bOf,eFld,oAt,zbS,fE,gLe,pI0,iOf,jqc,h,jqy,jra,fFApp,zd8,zaa,zad,Nat.reduceAdd,Nat.reduceLeDiff,zdF,asV,jqg,lOf,jqh,zap,zaf,fNx,zaV,sqO,zge,toO,Nat.reduceLT,endM]
  ·rw[show seD most (aa x) e=[]from if_neg h,aU];simp (disch:=omega) only[zb8,zhc,oD_s,jqp,jqq,bi,zcF,zar,fIf,zhg,tOf,ex2,zab,jqn,jqo,aG,jqk,jqf,jqe,eC,gNoN,isN,jqa,jqu,bOf,eFld,oAt,zbS,fE,gLe,pI0,iOf,jqc,h,jqz,jra,fFApp,zd8,zaa,zad,Nat.reduceAdd,Nat.reduceLeDiff,zdF,asV,jqg,lOf,jqh,zap,zaf,fNx,jqr,jrb,zaV,sqO,zge,toO,Nat.reduceLT,endM]
def tell_ok(most:Int)(e:Nat)(prs:List D):zda (siO most e prs) []=aa (.tup prs,siO most e []):=by
 unfold siO;simp (disch:=omega) only[zda,zhc,jqq,zdV,zar,za0,eCB,zaa,eFld,oAt,jqo,aG,jqi,jqj,jqe,jqa,zbS,jqf,fE,zad,jqc,zdr,asL,jqh,jqg,toN,sqO,zge,zcW,Nat.reduceLeDiff,zdF,jra,toO,jqp,bi,Nat.reduceAdd,Nat.reduceLT,zet,endM]
abbrev cT:Nat->Nat->Option Int:=cel (zbO P T) p true
def seR(most:Int)(a b:Nat):List D:=(dY a (b-a)).flatMap λj=>seD most (cT P T p P.length j) j
def zjN(most:Int)(a:Nat):seR P T p most a a=[]:=by simp[seR]
def seR_succ(most:Int){a b:Nat}(h:a<=b):seR P T p most a (b+1)=seR P T p most a b++seD most (cT P T p P.length b) b:=by
 unfold seR;rw[show b+1-a=(b-a)+1 by lia,List.range'_concat,eG];simp[show a+(b-a)=b by lia]
def seR_app(most:Int){a b d:Nat}(h1:a<=b)(h2:b<=d):seR P T p most a b++seR P T p most b d=seR P T p most a d:=by
 unfold seR;rw[<- eG,show d-a=(b-a)+(d-b) by lia,<- iy,show a+(b-a)=b by lia]
end
section
open CE
variable (P:List Str)(T:List Nat)(p:Pr)
def isC_si(most:Int)(e:Nat)(prs:List D):isC "Sight" ["most","end","pairs"] (siO most e prs)=aa [.val (.int most),.val (.int (e:Int)),.lst prs]:=zbS
def zgp(x0 x1 x3 y2:Option Ent)(most:Int):∀(n a:Nat) (prs:List D) (x5:Option Ent),prs.length+n<100000->∃y5,
  loop (gNm 5) zdg ((dY a n).map λ(j:Nat)=>oD (cT P T p P.length j)) [x0,x1,y2,x3,aa (.obj (siO most a prs)),x5] =
  aa (.nx [x0,x1,y2,x3,aa (.obj (siO most (a+n) (prs++seR P T p most a (a+n)))),y5])
 |0,a,prs,x5,_=>⟨x5,by rw[gv,zjN,aU];rfl⟩
 |n+1,a,prs,x5,hl=>by
  have cm:=come_ok most (cT P T p P.length a) a prs (by lia);have st:zdg [x0,x1,y2,x3,aa (.obj (siO most a prs)),aa (.val (oD (cT P T p P.length a)))]=aa (.nx [x0,x1,y2,x3,aa (.obj (siO most (a+1) (prs++seD most (cT P T p P.length a) a))),aa (.val (oD (cT P T p P.length a)))]):=by
   have c1:=isC_si most a prs;generalize siO most a prs=o1 at *;generalize siO most (a+1) (prs++seD most (cT P T p P.length a) a)=o2 at *;generalize oD (cT P T p P.length a)=d at *;simp only[zdg,fX,xM,oAt,jqf,jqe,zaa,zab,zad,jqc,jqa,zdF,asV,jqh,jqg,c1,cm]
  have pl:=seD_len most (cT P T p P.length a) a;obtain⟨y5,e⟩:=zgp x0 x1 x3 y2 most n (a+1) (prs++seD most (cT P T p P.length a) a) (aa (.val (oD (cT P T p P.length a)))) (by rw[am];lia);refine⟨y5,jh (zby rfl st) (jh e ?_)⟩;have q:seD most (cT P T p P.length a) a=seR P T p most a (a+1):=by rw[seR_succ P T p most (ak a),zjN,cy]
  rw[a7,q,seR_app P T p most (by lia) (by lia),show a+1+n=a+(n+1) by lia]
variable (hP:P.length<=100000)(hT:T.length<=10000)
include hP hT
theorem ends_at:zbW [.tup (P.map .str),.str (mkS T),.tup p.ds]=aa (.val (.tup ((dY 0 (T.length+1)).map λ(j:Nat)=>oD (cT P T p P.length j)))):=by
 have c:=zjA P T p true hP (by lia);have l1:=zft (λi=>zgc (cel (zbO P T) p true) T.length i) P.length;rw[<- iz];simp (disch:=omega) only[zbW,zcr,stE,stN,jqc,jqa,zcM,zbt,ex2,zag,zaa,zab,aG,jqk,eC,zad,ex1,zeL,iOf,Int.reduceNeg,zen,zdY,toN,jqe,jqf,zat,zbs,asV,asT,c,l1,zeI];rfl
theorem ends_ok(most:Int):za9 [.tup (P.map .str),.str (mkS T),.int most,.tup p.ds]=aa (.val (.tup (seR P T p most 0 (T.length+1)))):=by
 have e:=ends_at P T p hP hT;obtain⟨y5,lo⟩:=zgp P T p (aa (.val (.tup (P.map .str)))) (aa (.val (.str (mkS T)))) (aa (.bt p.ds)) (aa (.val (.int most))) most (T.length+1) 0 [] ab (by simp;lia);rw[cy,bi]at lo;have t:=tell_ok most (T.length+1) (seR P T p most 0 (T.length+1));have i1:=sinit_ok most;have c2:=isC_si most (T.length+1) (seR P T p most 0 (T.length+1));generalize (dY 0 (T.length+1)).map (λ(j:Nat)=>oD (cT P T p P.length j))=ls at *;generalize siO most 0 []=o1 at *;generalize siO most (T.length+1) (seR P T p most 0 (T.length+1))=o2 at *;generalize siO most (T.length+1) []=o3 at *;generalize seR P T p most 0 (T.length+1)=rr at *;generalize P.map D.str=pp at *;simp only[za9,zcr,stE,stN,jqc,jqa,zfU,zar,ziN,zeP,zaa,zab,aG,zad,jqi,jqj,jqf,jqe,zdF,asV,i1,jqh,jqg,sqO,zdK,iT,zag,zat,zbs,asT,e,zdY,lo,zj4,xM,oAt,c2,t,zeI]
end
def row_le{p q:Int×Int}(h:prR p<=prR q):p.1<=q.1:=by
 refine dB λhc=>?_;exact(ja.mpr h) (bM.mpr (.inl (by lia)))
def zhf(ps:List (Int×Int)):(srtP ps).Pairwise λp q=>p.1<=q.1:=by
 unfold srtP;rw[ga];refine(srtR_up (ps.map prR)).imp_of_mem fun {a b} ha hb h=>?_;obtain⟨p,_,rfl⟩:=bU.mp ((zdU _).mem_iff.mp ha);obtain⟨q,_,rfl⟩:=bU.mp ((zdU _).mem_iff.mp hb);exact row_le h
structure Kp(n:Int)(K:List (Int×Int)):Prop where
 apart:K.Pairwise λp q=>p.2<q.1
 ok:∀p∈K,0<=p.1/\p.1<=p.2/\p.2<=n
def jst_kp{n:Int}{acc:List (Int×Int)}{p:Int×Int}(k:Kp n acc)(h:∀q∈acc,q.1<=p.1)(hp:0<=p.1/\p.1<=p.2/\p.2<=n) :
  Kp n (jst acc p)/\(∀q∈jst acc p,q.1<=p.1)/\(∀q,q=p\/(∃r∈acc,r.1<=q.1/\q.2<=r.2)->∃r∈jst acc p,r.1<=q.1/\q.2<=r.2):=by
 have app:(∀q∈acc,q.2<p.1)->Kp n (acc++[p])/\(∀q∈acc++[p],q.1<=p.1)/\(∀q,q=p\/(∃r∈acc,r.1<=q.1/\q.2<=r.2)->∃r∈acc++[p],r.1<=q.1/\q.2<=r.2):=λhl=>by
  refine⟨⟨ek.mpr ⟨k.apart,eQ _ _,λa ha b hb=>by rw[aK]at hb;subst hb;exact hl a ha⟩,λq hq=>?_⟩,λq hq=>?_,λq hq=>?_⟩
  ·rcases aQ.mp hq with hq|hq
   ·exact k.ok q hq
   ·rw[aK]at hq;subst hq;exact hp
  ·rcases aQ.mp hq with hq|hq
   ·exact h q hq
   ·rw[aK]at hq;subst hq;exact dX _
  ·rcases hq with rfl|⟨r,hr,h1,h2⟩
   ·exact⟨_,av _ (aK.mpr rfl),dX _,dX _⟩
   ·exact⟨r,aX _ hr,h1,h2⟩
 unfold jst;cases q0:acc.getLast? with
 |none=>
  have:acc=[]:=gh.mp q0;exact app λq hq=>by rw[this]at hq;cases hq
 |some l=>
  obtain⟨ys,rfl⟩:=gg.mp q0;have hl:l∈ys++[l]:=av _ (aK.mpr rfl);have pw:=ek.mp k.apart;dsimp only;by_cases hc:p.1<=l.2
  ·rw[if_pos hc,fH];have kl:=k.ok l hl;have ll:=h l hl;have mx:l.2<=(if p.2 > l.2 then p.2 else l.2)/\p.2<=(if p.2 > l.2 then p.2 else l.2)/\(if p.2 > l.2 then p.2 else l.2)<=n:=by split <;> lia
   generalize (if p.2 > l.2 then p.2 else l.2)=M at mx;refine⟨⟨ek.mpr ⟨pw.1,eQ _ _,λa ha b hb=>?_⟩,λq hq=>?_⟩,λq hq=>?_,λq hq=>?_⟩
   ·rw[aK]at hb;subst hb;exact pw.2.2 a ha l (aK.mpr rfl)
   ·rcases aQ.mp hq with hq|hq
    ·exact k.ok q (aX _ hq)
    ·rw[aK]at hq;subst hq;exact⟨kl.1,by show l.1<=M;lia,mx.2.2⟩
   ·rcases aQ.mp hq with hq|hq
    ·exact h q (aX _ hq)
    ·rw[aK]at hq;subst hq;exact ll
   ·rcases hq with rfl|⟨r,hr,h1,h2⟩
    ·exact⟨(l.1,M),av _ (aK.mpr rfl),ll,mx.2.1⟩
    ·rcases aQ.mp hr with hr|hr
     ·exact⟨r,aX _ hr,h1,h2⟩
     ·rw[aK]at hr;subst hr;exact⟨(r.1,M),av _ (aK.mpr rfl),h1,fI h2 mx.1⟩
  ·rw[if_neg hc];refine app λq hq=>?_;have kl:=k.ok l hl;rcases aQ.mp hq with hq|hq
   ·have:=pw.2.2 q hq l (aK.mpr rfl);lia
   ·rw[aK]at hq;subst hq;lia
def zi5{n:Int}:∀(ps acc:List (Int×Int)),Kp n acc->(∀q∈acc,∀p∈ps,q.1<=p.1)->(ps.Pairwise λp q=>p.1<=q.1)->(∀p∈ps,0<=p.1/\p.1<=p.2/\p.2<=n) ->
  Kp n (ps.foldl jst acc)/\∀q,(q∈ps\/∃r∈acc,r.1<=q.1/\q.2<=r.2)->∃r∈ps.foldl jst acc,r.1<=q.1/\q.2<=r.2
 |[],acc,k,_,_,_=>⟨k,λq hq=>hq.elim (λh=>by cases h) λh=>h⟩
 |p::ps,acc,k,h,hs,ho=>by
  obtain⟨hs1,hs2⟩:=fU.mp hs;obtain⟨a1,a2,a3⟩:=jst_kp k (λq hq=>h q hq p aj) (ho p aj);obtain⟨b1,b2⟩:=zi5 ps (jst acc p) a1 (λq hq r hr=>fI (a2 q hq) (hs1 r hr)) hs2 λr hr=>ho r (ah _ hr);refine⟨b1,λq hq=>b2 q ?_⟩;rcases hq with hq|hq
  ·rcases aE.mp hq with rfl|hq
   ·exact .inr (a3 q (.inl rfl))
   ·exact .inl hq
  ·exact .inr (a3 q (.inr hq))
def jnd_kp{n:Int}(ps:List (Int×Int))(ho:∀p∈ps,0<=p.1/\p.1<=p.2/\p.2<=n):Kp n (jnd (srtP ps))/\∀q∈ps,∃r∈jnd (srtP ps),r.1<=q.1/\q.2<=r.2:=by
 obtain⟨h1,h2⟩:=zi5 (n:=n) (srtP ps) [] ⟨.nil,λp hp=>by cases hp⟩ (λq hq=>by cases hq) (zhf ps) λp hp=>ho p ((srtP_perm ps).mem_iff.mp hp);exact⟨h1,λq hq=>h2 q (.inl ((srtP_perm ps).mem_iff.mpr hq))⟩
def zhF{α:Type}[DecidableEq α]:∀(K G:List α),K.Nodup->(∀g∈G,g∈K)->(K.map λz=>G.count z).sum=G.length
 |K,[],_,_=>by
  have:∀K:List α,(K.map λz=>([]:List α).count z).sum=0:=λK=>by
   induction K with
   |nil=>rfl
   |cons z K ih=>rw[ar,eF,ih];rfl
  exact this K
 |K,g::G,nd,h=>by
  have ih:=zhF K G nd λx hx=>h x (ah _ hx);have key:∀(K:List α),K.Nodup->(K.map λz=>(g::G).count z).sum=(K.map λz=>G.count z).sum+if g∈K then 1 else 0:=by
   intro K nd
   induction K with
   |nil=>rfl
   |cons z K ihK=>
    obtain⟨n1,n2⟩:=aB.mp nd;rw[ar,ar,eF,eF,ihK n2,jt];by_cases e:g=z
    ·subst e;rw[if_pos (by simp),if_neg n1,if_pos aj];lia
    ·rw[if_neg (by simpa using e)];by_cases hk:g∈K
     ·rw[if_pos hk,if_pos (ah _ hk)];lia
     ·rw[if_neg hk,if_neg (λz'=>by rcases aE.mp z' with e'|e';exact e e';exact hk e')];lia
  rw[key K nd,ih,if_pos (h g aj),au]
def zg3{y:Str}:∀{ks:List Str} {is:List Int},y∉ks->lkI ks is y=ab
 |[],_,_=>by unfold lkI;rfl
 |k::ks,[],_=>by unfold lkI;rfl
 |k::ks,i::is,h=>by
  unfold lkI;rw[if_neg (λe=>h (by rw[e];exact aj))];exact zg3 λz=>h (ah _ z)
def lkI_zip{k y:Str}{v:Int}:∀{ks:List Str} {is:List Int},ks.length=is.length->lkI ks (d3 (λx y=>if x=k then v else y) ks is) y=if y=k/\y∈ks then aa v else lkI ks is y
 |[],is,_=>by rw[if_neg (λz=>by cases z.2)];cases is <;> rfl
 |x::ks,[],h=>by cases h
 |x::ks,i::is,h=>by
  rw[cS];unfold lkI;by_cases e:x=y
  ·rw[if_pos e,if_pos e];by_cases e2:x=k
   ·rw[if_pos e2,if_pos ⟨e ▸ e2,by rw[e];exact aj⟩]
   ·rw[if_neg e2,if_neg (λz=>e2 (e.trans z.1))]
  ·rw[if_neg e,if_neg e,lkI_zip (by simpa using h)];by_cases e2:y=k/\y∈ks
   ·rw[if_pos e2,if_pos ⟨e2.1,ah _ e2.2⟩]
   ·rw[if_neg e2,if_neg (λz=>e2 ⟨z.1,(aE.mp z.2).resolve_left λq=>e q.symm⟩)]
def lkI_app{k y:Str}{v:Int}:∀{ks:List Str} {is:List Int},ks.length=is.length->lkI (ks++[k]) (is++[v]) y=if y∈ks then lkI ks is y else if k=y then aa v else ab
 |[],[],_=>by
  rw[if_neg (λz=>by cases z)];show lkI [k] [v] y=_;unfold lkI;split
  ·rfl
  ·unfold lkI;rfl
 |[],_::_,h=>by cases h
 |x::ks,[],h=>by cases h
 |x::ks,i::is,h=>by
  rw[ej,ej];unfold lkI;by_cases e:x=y
  ·rw[if_pos e,if_pos e,if_pos (by rw[e];exact aj)]
  ·rw[if_neg e,if_neg e,lkI_app (by simpa using h)];by_cases e2:y∈ks
   ·rw[if_pos e2,if_pos (ah _ e2)]
   ·rw[if_neg e2,if_neg (λz=>(aE.mp z).elim (λq=>e q.symm) e2)]
def tput_lk(p:List Str×List Int)(z y:Str)(h:p.1.length=p.2.length)(nd:p.1.Nodup):(ze8 p z).1.Nodup/\((lkI (ze8 p z).1 (ze8 p z).2 y).getD 0=(lkI p.1 p.2 y).getD 0+if y=z then 1 else 0)/\(y∈(ze8 p z).1 ↔ y∈p.1\/y=z):=by
 show(pkD p.1 z).Nodup/\((lkI (pkD p.1 z) (pvG p.1 p.2 z ((lkI p.1 p.2 z).getD 0+1)) y).getD 0=_)/\(y∈pkD p.1 z ↔ _)
 unfold pkD pvG;by_cases hz:z∈p.1
 ·rw[if_pos hz,if_pos hz,lkI_zip h];refine⟨nd,?_,λq=>.inl q,λq=>q.elim id λe=>e ▸ hz⟩;by_cases e:y=z
  ·subst e;rw[if_pos ⟨rfl,hz⟩,if_pos rfl];rfl
  ·rw[if_neg (λq=>e q.1),if_neg e];lia
 ·rw[if_neg hz,if_neg hz,lkI_app h];refine⟨?_,?_,?_⟩
  ·rw[bJ];exact⟨nd,aB.mpr ⟨λq=>(by cases q),ie⟩,λa ha b hb e=>by rw[aK]at hb;subst hb;subst e;exact hz ha⟩
  ·by_cases e:y=z
   ·subst e;rw[if_neg hz,if_pos rfl,if_pos rfl,zg3 hz];rfl
   ·rw[if_neg e];by_cases e2:y∈p.1
    ·rw[if_pos e2];lia
    ·rw[if_neg e2,if_neg (λq=>e q.symm),zg3 e2];rfl
  ·rw[aQ,aK]
def ziv:∀(zs:List Str) (p:List Str×List Int),p.1.length=p.2.length->p.1.Nodup->(zs.foldl ze8 p).1.Nodup/\(∀y,(lkI (zs.foldl ze8 p).1 (zs.foldl ze8 p).2 y).getD 0=(lkI p.1 p.2 y).getD 0+(zs.count y:Nat))/\∀y,y∈(zs.foldl ze8 p).1 ↔ y∈p.1\/y∈zs
 |[],p,_,nd=>⟨nd,λy=>by simp,λy=>by simp⟩
 |z::zs,p,h,nd=>by
  have tl:=(zjK p z h).1;have t:=λy=>tput_lk p z y h nd;obtain⟨a1,a2,a3⟩:=ziv zs (ze8 p z) tl (t z).1;refine⟨a1,λy=>?_,λy=>?_⟩
  ·rw[db,a2,(t y).2.1,jt];by_cases e:y=z
   ·subst e;rw[if_pos rfl,if_pos (by simp)];lia
   ·rw[if_neg e,if_neg (by simpa using λq=>e q.symm)];lia
  ·rw[db,a3,(t y).2.2,aE];constructor
   ·rintro ((h|h)|h)
    ·exact .inl h
    ·exact .inr (.inl h)
    ·exact .inr (.inr h)
   ·rintro (h|h|h)
    ·exact .inl (.inl h)
    ·exact .inl (.inr h)
    ·exact .inr h
def shr_ge(u v:List Nat)(long:Int)(G:List Str)(h1:G.Sublist (pcs u long))(h2:G.Sublist (pcs v long)):(G.length:Int)<=shr (tms u long) (tms v long):=by
 obtain⟨a1,a2,a3⟩:=ziv (pcs u long) ([],[]) rfl ie;obtain⟨b1,b2,b3⟩:=ziv (pcs v long) ([],[]) rfl ie;have e0:∀y,(lkI [] [] y).getD 0=0:=λy=>rfl;have hu:∀z,(lkI (tms u long).1 (tms u long).2 z).getD 0=((pcs u long).count z:Nat):=λz=>by rw[show tms u long=(pcs u long).foldl ze8 ([],[])from rfl,a2];show 0+_=_;lia
 have hv:∀z,(lkI (tms v long).1 (tms v long).2 z).getD 0=((pcs v long).count z:Nat):=λz=>by rw[show tms v long=(pcs v long).foldl ze8 ([],[])from rfl,b2];show 0+_=_;lia
 have hs:∀z,(G.count z:Int)<=shF (tms u long) (tms v long) z:=λz=>by
  have c1:=h1.count_le z;have c2:=h2.count_le z;unfold shF;rw[hu,hv];split <;> lia
 have hsum:=zhF (tms u long).1 G a1 λg hg=>(a3 g).mpr (.inr (h1.subset hg));unfold shr;rw[<- hsum];generalize (tms u long).1=K;clear a1 a3 hsum
 induction K with
 |nil=>exact dX _
 |cons z K ih=>
  rw[ar,eF,ar,eF];have:=hs z;lia
section
open CE
def cutN(xs:List Nat)(a b:Nat)(h:a<=b)(hb:b<=xs.length):zbJ xs (aa (a:Int)) (aa (b:Int))=(aq (b-a)).map λx=>xs.getD (a+x) 0:=by
 unfold zbJ;rw[HT.sIx_nat,HT.sIx_nat,dL (aH h hb),dL hb];refine gq ?_ λi h1 h2=>?_
 ·rw[bw,bS,al,bK];lia
 ·rw[al,bK]at h2;rw[List.getElem_take,i4,List.getElem_map,List.getElem_range];rw[bE,aC (by lia)];rfl
abbrev ft0(w t:List Nat):Nat->Nat->Bool:=λi j=>decide (t.getD j 0=w.getD i 0)
def fit0(w t:List Nat)(x y:Nat)(hx:x<w.length)(hy:y<t.length):ft0 w t x y=zbO (wP w) t x (0+y):=by
 rw[bi,zga hx hy];show decide (t.getD y 0=w.getD x 0)=_;rw[bE,bE,aC hy,aC hx];rfl
variable {w t:List Nat}{s j:Nat}{c:Int}
def sg0(h:Sg (zbO (wP w) t) pl 0 s w.length j c)(hj:j<=t.length):Sg (ft0 w t) pl 0 s w.length j c:=by
 have:=h.shift (b0:=0) (m:=w.length) (l:=t.length) (fit':=ft0 w t) (λx y hx hy=>fit0 w t x y hx hy) (ak _) (by lia) (aL _);simpa using this
def ptN(n M r:Nat):Nat:=r*n / (M+1)
def ptB(n M r:Nat):pB n (M:Int) r=(ptN n M r:Nat):=by
 unfold pB ptN;rw[d6,ji]
 push_cast
 rfl
def ptE(n M r:Nat):pE n (M:Int) r=(ptN n M (r+1):Nat):=by
 unfold pE ptN;rw[d6,ji]
 push_cast
 rfl
def parts_k3(M:Nat)(h:Sg (zbO (wP w) t) pl 0 s w.length j c)(hc:c<=M)(hj:j<=t.length):∃q∈zfm w t (M:Int) (M+1),q.1<=s/\(j:Int)<=q.2:=by
 have h0:=sg0 h hj;have e0:ptN w.length M 0=0:=by unfold ptN;simp
 have e1:ptN w.length M (M+1)=w.length:=by unfold ptN;exact Nat.mul_div_cancel_left _ (Nat.succ_pos M)
 have up:∀r,ptN w.length M r<=ptN w.length M (r+1):=λr=>Nat.div_le_div_right (Nat.mul_le_mul_right _ (dR r));rw[<- e0]at h0;obtain⟨r,y,_,r2,⟨c1,c2,g1,g2,g3⟩,g4⟩:=Sg.part up (M+1) 0 h0 (by lia) (by rw[bi];exact e1);rw[e0]at g1;have d1:=g1.dist;have d2:=g2.dist;have l1:=g1.le;have l2:=g2.le;have hb:=pBE w.length (m:=(M:Int)) (i:=r) (by lia);rw[ptB,ptE]at hb;have hd:ptN w.length M (r+1)<=w.length:=by lia
 have hlen:y+(ptN w.length M (r+1)-ptN w.length M r)<=t.length:=by
  by_cases e:ptN w.length M r=ptN w.length M (r+1)
  ·lia
  ·have:=(g4 (ptN w.length M (r+1)-ptN w.length M r-1) (by have:=up r;lia)).2;lia
 have hst:stnd w t (pB w.length (M:Int) r) (pE w.length (M:Int) r) y=true:=by
  unfold stnd;refine decide_eq_true ?_;rw[ptB,ptE,d6,show((y:Int)+(((ptN w.length M (r+1):Nat):Int)-((ptN w.length M r:Nat):Int)))=((y+(ptN w.length M (r+1)-ptN w.length M r):Nat):Int) by have:=up r;lia,cutN t y _ (by lia) hlen,cutN w _ _ (up r) hd,dH];refine bQ λx hx=>?_;have hx':=bZ.mp hx;exact of_decide_eq_true (g4 x (by lia)).1
 have hpl:y∈plc w t (pB w.length (M:Int) r) (pE w.length (M:Int) r):=by
  unfold plc;refine dq.mpr ⟨bZ.mpr ?_,hst⟩;rw[ptB,ptE];have:=up r;lia
 refine⟨spr w.length (M:Int) t.length (pB w.length (M:Int) r) y,?_,?_,?_⟩
 ·unfold zfm;exact eZ.mpr ⟨r,bZ.mpr (by lia),bU.mpr ⟨y,hpl,rfl⟩⟩
 ·unfold spr;rw[ptB];dsimp only;split <;> lia
 ·unfold spr;rw[ptB];dsimp only;split <;> lia
def parts_ok2(w t:List Nat)(M:Nat):∀p∈zfm w t (M:Int) (M+1),0<=p.1/\p.1<=p.2/\p.2<=(t.length:Int):=by
 intro p hp;unfold zfm at hp;obtain⟨r,hr,hp⟩:=eZ.mp hp;obtain⟨y,hy,rfl⟩:=bU.mp hp;have hr':=bZ.mp hr;have hb:=pBE w.length (m:=(M:Int)) (i:=r) (by lia);have hy1:=bZ.mp (dq.mp hy).1;unfold spr;dsimp only;refine⟨?_,?_,?_⟩ <;> (repeat' split) <;> lia
def pcs_eq(xs:List Nat)(q:Nat)(f:Nat->Nat)(lo hi:Nat)(hl:xs.length=hi-lo)(hf:∀i,i<xs.length->xs.getD i 0=f (lo+i)):pcs xs (q:Int)=(pcsL q f lo hi).map mkS:=by
 unfold pcs pcsL;rw[b9,show((xs.length:Int)-(q:Int)+1).toNat=hi-lo+1-q by lia];refine bQ λp hp=>?_;have hp':=bZ.mp hp;rw[d6,show((p:Int)+(q:Int))=((p+q:Nat):Int) by lia,cutN xs p (p+q) (by lia) (by lia),dH];show mkS _=mkS _;congr 1;refine bQ λx hx=>?_;have hx':=bZ.mp hx;rw[hf _ (by lia),jM]
def pieces_k3(M q:Nat)(hq:1<=q)(h:Sg (zbO (wP w) t) pl 0 s w.length j c)(hc:c<=M)(hj:j<=t.length):∃p∈fnd (zb7 w t (M:Int) (q:Int)) w.length (M:Int) (t.length+1),p.1<=s/\(j:Int)<=p.2:=by
 have h0:=sg0 h hj;have d:=h0.dist;have l:=h0.le;obtain⟨lo,hlo,hlo2,hlo3⟩:∃lo:Nat,wb w.length (M:Int) j=lo/\lo<=s/\lo<=j:=by
  refine⟨(wb w.length (M:Int) j).toNat,?_,?_,?_⟩ <;> unfold wb <;> split <;> lia
 obtain⟨G,r,g1,g2,_,_,_,g3⟩:=Sg.pieces (q:=q) (lo:=lo) (w:=λi=>w.getD i 0) (t:=λj=>t.getD j 0) hq h0 hlo2;have hwin:win w t (M:Int) j=(aq (j-lo)).map λx=>t.getD (lo+x) 0:=by
  unfold win;rw[hlo,d6];exact cutN t lo j hlo3 hj
 have wl:(win w t (M:Int) j).length=j-lo:=by rw[hwin,al,bK]
 have e1:=pcs_eq w q (λi=>w.getD i 0) 0 w.length (by lia) λi _=>by rw[bi]
 have e2:=pcs_eq (win w t (M:Int) j) q (λj=>t.getD j 0) lo j wl λi hi=>by
  rw[wl]at hi;rw[hwin,bE,aA,bH hi];rfl
 have sg:=shr_ge w (win w t (M:Int) j) (q:Int) (G.map mkS) (by rw[e1];exact g1.map _) (by rw[e2];exact g2.map _);rw[al]at sg;have hen:zb7 w t (M:Int) (q:Int) j=true:=by
  unfold zb7;refine decide_eq_true ?_;have m1:min r (q-1)<=q-1:=d8 _ _;have m2:c*(q:Int)<=(M:Int)*(q:Int):=dQ hc (by lia);generalize c*(q:Int)=cq at g3 m2;generalize (M:Int)*(q:Int)=mq at m2 ⊢;lia
 refine⟨wPr w.length (M:Int) j,?_,?_,?_⟩
 ·unfold fnd;exact bU.mpr ⟨j,dq.mpr ⟨bZ.mpr (by lia),hen⟩,rfl⟩
 ·show wb w.length (M:Int) j<=s;lia
 ·show(j:Int)<=0+(j:Int)
  lia
def zj8(w t:List Nat)(M:Nat)(P:Nat->Bool):∀p∈fnd P w.length (M:Int) (t.length+1),0<=p.1/\p.1<=p.2/\p.2<=(t.length:Int):=by
 intro p hp;unfold fnd at hp;obtain⟨e,he,rfl⟩:=bU.mp hp;have he':=bZ.mp (dq.mp he).1;show 0<=wb w.length (M:Int) e/\wb w.length (M:Int) e<=0+(e:Int)/\0+(e:Int)<=(t.length:Int)
 unfold wb;split <;> lia
end
section
open CE
def ze3(M:Int)(x:Option Int)(j:Nat):List (Int×Int):=match x with
 |some x=>if x<=M then [((j:Int),x)]else []
 |none=>[]
def seD_pr(M:Int)(x:Option Int)(j:Nat):seD M x j=(ze3 M x j).map prD:=by
 unfold seD ze3;cases x with
 |none=>rfl
 |some x=>
  dsimp only;split <;> rfl
abbrev cW(w t:List Nat)(j:Nat):Option Int:=cel (zbO (wP w) t) pl true w.length j
def wE(w t:List Nat)(M:Int)(a b:Nat):List (Int×Int):=(dY a (b-a)).flatMap λj=>ze3 M (cW w t j) j
def wE_app(w t:List Nat)(M:Int){a b c:Nat}(h1:a<=b)(h2:b<=c):wE w t M a b++wE w t M b c=wE w t M a c:=by
 unfold wE;rw[<- eG,show c-a=(b-a)+(c-b) by lia,<- iy,show a+(b-a)=b by lia]
def sE(w t:List Nat)(M:Int)(p:Int×Int):List (Int×Int):=(aq ((p.2-p.1).toNat+1)).flatMap λj=>ze3 M (cW w (zbJ t (aa p.1) (aa p.2)) j) (p.1.toNat+j)
variable {w t:List Nat}{M:Int}{K:List (Int×Int)}(kp:Kp (t.length:Int) K)
 (k3:∀(s j:Nat) (c:Int),Sg (zbO (wP w) t) pl 0 s w.length j c->c<=M->j<=t.length->∃p∈K,p.1<=(s:Int)/\(j:Int)<=p.2)
include kp k3
theorem kept_cell{b e:Nat}(hp:((b:Int),(e:Int))∈K){j:Nat}(hj:j<=e-b):ze3 M (cW w (zbJ t (aa (b:Int)) (aa (e:Int))) j) (b+j)=ze3 M (cW w t (b+j)) (b+j):=by
 obtain⟨_,o2,o3⟩:=kp.ok _ hp;have hbe:b<=e:=by have:(b:Int)<=e:=o2;lia
 have hen:e<=t.length:=by have:(e:Int)<=t.length:=o3;lia
 rw[cutN t b e hbe hen];generalize hT:(aq (e-b)).map (λx=>t.getD (b+x) 0)=T';have hf:∀x y,x<w.length->y<e-b->zbO (wP w) T' x y=zbO (wP w) t x (b+y):=λx y _ hy=>by
  unfold zbO;have:T'.getD y 0=t.getD (b+y) 0:=by rw[<- hT,bE,aA,bH hy];rfl
  rw[this]
 have up:∀x',cW w T' j=aa x'->∃x,cW w t (b+j)=aa x/\x<=x':=λx' hx=>by
  obtain⟨s',hs,g⟩:=Ld.sgF (zdm ziX hx).1;exact zeK ziX (Sg.ldF (g.back (b0:=b) (m:=w.length) (l:=e-b) hf (ak _) hj))
 have dn:∀x,cW w t (b+j)=aa x->x<=M->∃x',cW w T' j=aa x'/\x'<=x:=λx hx hM=>by
  obtain⟨s,hs,g⟩:=Ld.sgF (zdm ziX hx).1;obtain⟨q,hq,q1,q2⟩:=k3 s (b+j) x g hM (by lia);have hqe:b<=s:=by
   have ok:=kp.ok q hq;rcases dA.mp kp.apart with pw;obtain⟨i1,hi1,e1⟩:=em.mp hq;obtain⟨i2,hi2,e2⟩:=em.mp hp;by_cases hii:i1=i2
   ·subst hii;rw[e1]at e2;rw[e2]at q1;have:(b:Int)<=s:=q1;lia
   ·rcases Nat.lt_or_gt_of_ne hii with hlt|hlt
    ·have:=pw i1 i2 hi1 hi2 hlt;rw[e1,e2]at this;have:q.2<(b:Int):=this;lia
    ·have:=pw i2 i1 hi2 hi1 hlt;rw[e1,e2]at this;have:(e:Int)<q.1:=this;lia
  have g':=g.shift (b0:=b) (m:=w.length) (l:=e-b) (fit':=zbO (wP w) T') hf (ak _) (by lia) hqe;rw[dH]at g';exact zeK ziX (Sg.ldF g')
 unfold ze3;cases h1:cW w t (b+j)with
 |none=>
  cases h2:cW w T' j with
  |none=>rfl
  |some x'=>obtain⟨x,hx,_⟩:=up x' h2;rw[h1]at hx;cases hx
 |some x=>
  by_cases hM:x<=M
  ·obtain⟨x',h2,h3⟩:=dn x h1 hM;obtain⟨x2,h4,h5⟩:=up x' h2;rw[h1]at h4;cases h4;have:x'=x:=by lia
   subst this;rw[h2]
  ·cases h2:cW w T' j with
   |none=>dsimp only;rw[if_neg hM]
   |some x'=>
    obtain⟨x2,h4,h5⟩:=up x' h2;rw[h1]at h4;cases h4;dsimp only;rw[if_neg hM,if_neg (by lia)]
theorem sE_eq{p:Int×Int}(hp:p∈K):sE w t M p=wE w t M p.1.toNat (p.2.toNat+1):=by
 obtain⟨o1,o2,o3⟩:=kp.ok p hp;obtain⟨p1,p2⟩:=p;dsimp only at o1 o2 o3;obtain⟨b,rfl⟩:=bp o1;obtain⟨e,rfl⟩:=bp (fI o1 o2);unfold sE wE;dsimp only;rw[show((b:Nat):Int).toNat=b by lia,show((e:Nat):Int).toNat=e by lia,show(((e:Nat):Int)-((b:Nat):Int)).toNat=e-b by lia,show e+1-b=e-b+1 by lia,List.range'_eq_map_range,List.flatMap_map];have key:∀l:List Nat,(∀j∈l,j<=e-b)->(l.flatMap λj=>ze3 M (cW w (zbJ t (aa (b:Int)) (aa (e:Int))) j) (b+j))=l.flatMap λa=>ze3 M (cW w t (b+a)) (b+a):=λl=>by
  induction l with
  |nil=>intro _;rfl
  |cons j l ih=>
   intro hl;rw[cM,cM,ih λx hx=>hl x (ah _ hx),kept_cell kp k3 hp (hl j aj)]
 exact key _ λj hj=>by have:=bZ.mp hj;lia
omit kp k3 in
theorem wE_none{a b:Nat}(h:∀j,a<=j->j<b->ze3 M (cW w t j) j=[]):wE w t M a b=[]:=by
 unfold wE;refine List.flatMap_eq_nil_iff.mpr λj hj=>?_;rw[gb]at hj;exact h j hj.1 (by lia)
theorem zjM:∀(L:List (Int×Int)) (lo:Nat),(∀p∈L,p∈K)->(L.Pairwise λp q=>p.2<q.1)->(∀p∈L,(lo:Int)<=p.1)->(∀j,lo<=j->j<=t.length->ze3 M (cW w t j) j≠[]->∃p∈L,p.1<=(j:Int)/\(j:Int)<=p.2)->lo<=t.length+1->L.flatMap (sE w t M)=wE w t M lo (t.length+1)
 |[],lo,_,_,_,h,_=>(wE_none λj h1 h2=>dB λhc=>by obtain⟨p,hp,_⟩:=h j h1 (by lia) hc;cases hp).symm
 |p::L,lo,hK,pw,hlo,h,hn=>by
  obtain⟨pw1,pw2⟩:=fU.mp pw;have hpK:=hK p aj;obtain⟨o1,o2,o3⟩:=kp.ok p hpK;have l1:=hlo p aj;have ih:=zjM L (p.2.toNat+1) (λq hq=>hK q (ah _ hq)) pw2 (λq hq=>by have:=pw1 q hq;lia) (λj h1 h2 h3=>by
   obtain⟨q,hq,q1,q2⟩:=h j (by lia) h2 h3;rcases aE.mp hq with rfl|hq
   ·lia
   ·exact⟨q,hq,q1,q2⟩) (by lia)
  rw[cM,ih,sE_eq kp k3 hpK];have gap:wE w t M lo p.1.toNat=[]:=wE_none λj h1 h2=>dB λhc=>by
   obtain⟨q,hq,q1,q2⟩:=h j h1 (by lia) hc;rcases aE.mp hq with rfl|hq
   ·lia
   ·have:=pw1 q hq;lia
  rw[wE_app w t M (show p.1.toNat<=p.2.toNat+1 by lia) (show p.2.toNat+1<=t.length+1 by lia)];have:=wE_app w t M (show lo<=p.1.toNat by lia) (show p.1.toNat<=t.length+1 by lia);rw[gap,cy]at this;exact this
theorem kept_same:K.flatMap (sE w t M)=wE w t M 0 (t.length+1):=by
 refine zjM kp k3 K 0 (λ_ h=>h) kp.apart (λp hp=>(kp.ok p hp).1) (λj _ hj hne=>?_) (aL _);cases hx:cW w t j with
 |none=>rw[hx]at hne;exact absurd rfl hne
 |some x=>
  rw[hx]at hne;by_cases hM:x<=M
  ·obtain⟨s,hs,g⟩:=Ld.sgF (zdm ziX hx).1;obtain⟨p,hp,p1,p2⟩:=k3 s j x g hM hj;exact⟨p,hp,by lia,p2⟩
  ·exact absurd (by unfold ze3;dsimp only;rw[if_neg hM]) hne
end
section
open CE
def patn_eq(w:List Nat)(h:w.length<=1000):zaw [.str (mkS w)]=aa (.val (.tup ((wP w).map .str))):=by
 have hl:(mkS w).length<=1000000:=by rw[zaq];lia
 simp (disch:=omega) only[zaw,zcr,stE,stN,jqc,jqa,zdc,zbt,eCB,zaa,zab,aG,jqk,zad,toN,jqe,zkn,sOf,zap,sgn_mkS,zaf,zeI,wP]
def told_eq(w t:List Nat)(M:Int):seR (wP w) t pl M 0 (t.length+1)=(wE w t M 0 (t.length+1)).map prD:=by
 unfold seR wE;rw[gz];congr 1;funext j;rw[seD_pr,zec]
def wE_len(w t:List Nat)(M:Int)(a b:Nat):(wE w t M a b).length<=b-a:=by
 have:∀l:List Nat,(l.flatMap λj=>ze3 M (cW w t j) j).length<=l.length:=λl=>by
  induction l with
  |nil=>simp
  |cons x l ih=>
   have h1:(ze3 M (cW w t x) x).length<=1:=by
    unfold ze3;split
    ·split <;> simp
    ·simp
   rw[cM,am,au];lia
 have h:=this (dY a (b-a));rwa [iY]at h
def ends_eq(w t:List Nat)(M:Int)(hw:w.length<=1000)(ht:t.length<=900):za9 [.tup ((wP w).map .str),.str (mkS t),.int M,.tup pl.ds]=aa (.val (.tup ((wE w t M 0 (t.length+1)).map prD))):=by
 rw[<- told_eq];exact ends_ok (wP w) t pl (by rw[zec];lia) (by lia) M
def shf(b:Int)(p:Int×Int):Int×Int:=(b+p.1,p.2)
def sePr_shf(M:Int)(x:Option Int)(b j:Nat):ze3 M x (b+j)=(ze3 M x j).map (shf b):=by
 unfold ze3;cases x with
 |none=>rfl
 |some x=>
  dsimp only;split
  ·rw[iX];unfold shf;congr 2
  ·rfl
def sE_shf(w t:List Nat)(M:Int){b e:Nat}(h:b<=e)(he:e<=t.length):(wE w (zbJ t (aa (b:Int)) (aa (e:Int))) M 0 ((zbJ t (aa (b:Int)) (aa (e:Int))).length+1)).map (shf b)=sE w t M ((b:Int),(e:Int)):=by
 have hl:(zbJ t (aa (b:Int)) (aa (e:Int))).length=e-b:=by rw[cutN t b e h he,al,bK]
 unfold wE sE;rw[hl,gz,iR,<- iz];dsimp only;rw[show(((e:Nat):Int)-((b:Nat):Int)).toNat=e-b by lia,show((b:Nat):Int).toNat=b by lia];congr 1;funext j;exact(sePr_shf M _ b j).symm
def zjm(δ:En)(b:Int)(h:δ[3]? =aa (aa (.val (.int b)))):∀ps:List (Int×Int),zb1 (λd=>(two d).bind λp=>zcT (zkf [3] δ p.1 p.2)) (λd=>(two d).bind λp=>zaN (zkf [3] δ p.1 p.2)) (ps.map prD)=aa ((ps.map (shf b)).map prD)
 |[]=>rfl
 |p::ps=>by
  have hE:zkf [3] δ (.int p.1) (.int p.2)=[aa (.val (.int p.1)),aa (.val (.int p.2)),aa (.val (.int b))]:=by
   simp only[zkf,ar,bu,h,eE,aS,ziI]
  have hC:zaN (zkf [3] δ (.int p.1) (.int p.2))=aa (.val (prD (shf b p))):=by
   rw[hE];exact tup2 (zje rfl rfl) rfl
  rw[ar,zb1,zjm δ b h ps];show(cu (aa true) λq=>if q=true then ((zaN (zkf [3] δ (.int p.1) (.int p.2))).bind asV).bind λy=>_ else _)=_;rw[hC];rfl
def zjU(w t:List Nat)(M:Int){b e:Nat}(h:b<=e)(he:e<=t.length)(hw:w.length<=1000)(ht:t.length<=900):zbM [.str (mkS w),.int M,.str (mkS t),.int (b:Int),.int (e:Int)]=aa (.own ((sE w t M ((b:Int),(e:Int))).map prD)):=by
 have hl:(zbJ t (aa (b:Int)) (aa (e:Int))).length<=900:=aH (zg2 _ _ _) ht;have c0:tOf (ex2 gGt (zab 3) (zab 4)) [aa (.val (.str (mkS w))),aa (.val (.int M)),aa (.val (.str (mkS t))),aa (.val (.int (b:Int))),aa (.val (.int (e:Int))),ab]=aa false:=by
  have hn:¬ ((b:Int) > (e:Int)):=by lia
  simp only[tOf,ex2,zab,jqf,jqe,gGt,pI0,iOf,jqa,jqc,hn,jqz,bOf]
 have z1:zag [.v] zaw (zaa (zab 0) zad) [aa (.val (.str (mkS w))),aa (.val (.int M)),aa (.val (.str (mkS t))),aa (.val (.int (b:Int))),aa (.val (.int (e:Int))),ab]=aa (.val (.tup ((wP w).map .str))):=by
  have:=patn_eq w hw;simp only[zag,zaa,zab,jqe,zad,jqc,jqa,zat,zbs,asV,this]
 have z2:eSl zcV (zab 2) (oSo (zab 3)) (oSo (zab 4)) [aa (.val (.str (mkS w))),aa (.val (.int M)),aa (.val (.str (mkS t))),aa (.val (.int (b:Int))),aa (.val (.int (e:Int))),ab]=aa (.val (.str (mkS (zbJ t (aa (b:Int)) (aa (e:Int)))))):=sliceI t _ _ (by lia) rfl rfl rfl;have ee:=ends_eq w (zbJ t (aa (b:Int)) (aa (e:Int))) M hw hl;have s5:zag [.v,.v,.v,.t] za9 (zaa (zag [.v] zaw (zaa (zab 0) zad)) (zaa (eSl zcV (zab 2) (oSo (zab 3)) (oSo (zab 4))) (zaa (zab 1) (zaa (eB ([1,1,1,0].map .int)) zad)))) [aa (.val (.str (mkS w))),aa (.val (.int M)),aa (.val (.str (mkS t))),aa (.val (.int (b:Int))),aa (.val (.int (e:Int))),ab]=aa (.val (.tup ((wE w (zbJ t (aa (b:Int)) (aa (e:Int))) M 0 ((zbJ t (aa (b:Int)) (aa (e:Int))).length+1)).map prD))):=by
  generalize (wE w (zbJ t (aa (b:Int)) (aa (e:Int))) M 0 ((zbJ t (aa (b:Int)) (aa (e:Int))).length+1)).map prD=R at ee;generalize zag [.v] zaw (zaa (zab 0) zad)=E1 at z1;generalize eSl zcV (zab 2) (oSo (zab 3)) (oSo (zab 4))=E2 at z2;generalize (wP w).map D.str=pp at z1 ee;have hb:eB (([1,1,1,0]:List Int).map .int) [aa (.val (.str (mkS w))),aa (.val (.int M)),aa (.val (.str (mkS t))),aa (.val (.int (b:Int))),aa (.val (.int (e:Int))),ab]=aa (.bt pl.ds):=rfl;generalize eB (([1,1,1,0]:List Int).map .int)=E3 at hb;generalize pl.ds=pd at hb ee;simp only[zag,zaa,z1,z2,zab,jqf,jqe,hb,zad,jqc,jqa,zat,zbs,asV,asT,ee]
 have hn:=wE_len w (zbJ t (aa (b:Int)) (aa (e:Int))) M 0 ((zbJ t (aa (b:Int)) (aa (e:Int))).length+1);generalize hps:wE w (zbJ t (aa (b:Int)) (aa (e:Int))) M 0 ((zbJ t (aa (b:Int)) (aa (e:Int))).length+1)=ps at s5 hn;have hsE:=sE_shf w t M h he;rw[hps]at hsE;have e3:eL2 [3] (iT (zab 5)) zcT zaN [aa (.val (.str (mkS w))),aa (.val (.int M)),aa (.val (.str (mkS t))),aa (.val (.int (b:Int))),aa (.val (.int (e:Int))),aa (.val (.tup (ps.map prD)))]=aa (.own ((sE w t M ((b:Int),(e:Int))).map prD)):=by
  unfold eL2;show(zb1 _ _ (ps.map prD)).bind _=_;rw[zjm _ (b:Int) rfl ps,hsE];show(if _ then _ else _)=_;rw[if_pos (by rw[<- hsE,al,al];lia)]
 have hF:zbG [aa (.val (.str (mkS w))),aa (.val (.int M)),aa (.val (.str (mkS t))),aa (.val (.int (b:Int))),aa (.val (.int (e:Int))),ab]=aa (.rt (.own ((sE w t M ((b:Int),(e:Int))).map prD)) [aa (.val (.str (mkS w))),aa (.val (.int M)),aa (.val (.str (mkS t))),aa (.val (.int (b:Int))),aa (.val (.int (e:Int))),aa (.val (.tup (ps.map prD)))]):=by
  refine(show zbG _=_ from zbD (fIfF c0)).trans ((zaJ s5).trans ?_)
  show zbt _ _=_;unfold zbt;rw[show([aa (Ent.val (.str (mkS w))),aa (.val (.int M)),aa (.val (.str (mkS t))),aa (.val (.int (b:Int))),aa (.val (.int (e:Int))),ab]:En).set 5 (aa (.val (.tup (ps.map prD))))=[aa (.val (.str (mkS w))),aa (.val (.int M)),aa (.val (.str (mkS t))),aa (.val (.int (b:Int))),aa (.val (.int (e:Int))),aa (.val (.tup (ps.map prD)))]from rfl,e3];rfl
 exact(congrArg (λo=>cu o _) hF).trans rfl
def extI{i:Nat}{fe:FE}{δ:En}{ds es:List D}(h0:δ[i]? =aa (aa (.own ds)))(h:fe δ=aa (.own es))(hl:ds.length+es.length<=1000000):fExt i fe δ=aa (.nx (δ.set i (aa (.own (ds++es))))):=by
 unfold fExt;rw[h0];dsimp only;rw[h];simp only[aS];rw[show gif (sz (ds.length+es.length)) _=_ from by rw[zap hl,zaf]]
def sE_len(w t:List Nat)(M:Int)(p:Int×Int):(sE w t M p).length<=(p.2-p.1).toNat+1:=by
 unfold sE;have:∀l:List Nat,(l.flatMap λj=>ze3 M (cW w (zbJ t (aa p.1) (aa p.2)) j) (p.1.toNat+j)).length<=l.length:=λl=>by
  induction l with
  |nil=>simp
  |cons x l ih=>
   have h1:(ze3 M (cW w (zbJ t (aa p.1) (aa p.2)) x) (p.1.toNat+x)).length<=1:=by
    unfold ze3;split
    ·split <;> simp
    ·simp
   rw[cM,am,au];lia
 have h:=this (aq ((p.2-p.1).toNat+1));rwa [bK]at h
def tot_len(w t:List Nat)(M n:Int):∀(L:List (Int×Int)) (lo:Int),(L.Pairwise λp q=>p.2<q.1)->(∀p∈L,lo<=p.1/\p.1<=p.2/\p.2<=n)->lo<=n+1->((L.flatMap (sE w t M)).length:Int)<=n+1-lo
 |[],lo,_,_,h=>by show(0:Int)<=_;lia
 |p::L,lo,pw,ho,_=>by
  obtain⟨pw1,pw2⟩:=fU.mp pw;obtain⟨o1,o2,o3⟩:=ho p aj;have ih:=tot_len w t M n L (p.2+1) pw2 (λq hq=>⟨by have:=pw1 q hq;lia,(ho q (ah _ hq)).2⟩) (by lia);have h1:=sE_len w t M p;rw[cM,am];lia
def zhl(w t:List Nat)(M:Int)(x3:Option Ent)(hw:w.length<=1000)(ht:t.length<=900):∀(L:List (Int×Int)) (acc:List (Int×Int)) (x5 x6:Option Ent),(∀p∈L,0<=p.1/\p.1<=p.2/\p.2<=(t.length:Int))->acc.length+(L.flatMap (sE w t M)).length<=1000000->∃y5 y6,
  loop (gTp (zcO (gNm 5) (zcO (gNm 6) zgb))) zbC (L.map prD) [aa (.val (.str (mkS w))),aa (.val (.int M)),aa (.val (.str (mkS t))),x3,aa (.own (acc.map prD)),x5,x6] =
  aa (.nx [aa (.val (.str (mkS w))),aa (.val (.int M)),aa (.val (.str (mkS t))),x3,aa (.own ((acc++L.flatMap (sE w t M)).map prD)),y5,y6])
 |[],acc,x5,x6,_,_=>⟨x5,x6,by rw[List.flatMap_nil,aU];rfl⟩
 |p::L,acc,x5,x6,ho,hl=>by
  obtain⟨o1,o2,o3⟩:=ho p aj;rw[cM,am]at hl;obtain⟨y5,y6,e⟩:=zhl w t M x3 hw ht L (acc++sE w t M p) (aa (.val (.int p.1))) (aa (.val (.int p.2))) (λq hq=>ho q (ah _ hq)) (by rw[am];lia);have st:zbC [aa (.val (.str (mkS w))),aa (.val (.int M)),aa (.val (.str (mkS t))),x3,aa (.own (acc.map prD)),aa (.val (.int p.1)),aa (.val (.int p.2))]=aa (.nx [aa (.val (.str (mkS w))),aa (.val (.int M)),aa (.val (.str (mkS t))),x3,aa (.own ((acc++sE w t M p).map prD)),aa (.val (.int p.1)),aa (.val (.int p.2))]):=by
   obtain⟨p1,p2⟩:=p;dsimp only at o1 o2 o3;obtain⟨b,rfl⟩:=bp o1;obtain⟨f,rfl⟩:=bp (fI o1 o2);have v5:=max2 (A:=zab 5) (B:=eC (.int 0)) (δ:=[aa (.val (.str (mkS w))),aa (.val (.int M)),aa (.val (.str (mkS t))),x3,aa (.own (acc.map prD)),aa (.val (.int (b:Int))),aa (.val (.int (f:Int)))]) rfl rfl;rw[if_neg (by lia)]at v5;have v6:=min2 (A:=zab 6) (B:=eCB zaA (zaa (zab 2) zad)) (δ:=[aa (.val (.str (mkS w))),aa (.val (.int M)),aa (.val (.str (mkS t))),x3,aa (.own (acc.map prD)),aa (.val (.int (b:Int))),aa (.val (.int (f:Int)))]) rfl (zj1 rfl (zaq t) (by lia));rw[if_neg (by lia)]at v6;have se:=zjU w t M (b:=b) (e:=f) (by lia) (by lia) hw ht;have hc:zag [.v,.v,.v,.v,.v] zbM (zaa (zab 0) (zaa (zab 1) (zaa (zab 2) (zaa (eCB zh9 (zaa (zab 5) (zaa (eC (.int 0)) zad))) (zaa (eCB zh0 (zaa (zab 6) (zaa (eCB zaA (zaa (zab 2) zad)) zad))) zad))))) [aa (.val (.str (mkS w))),aa (.val (.int M)),aa (.val (.str (mkS t))),x3,aa (.own (acc.map prD)),aa (.val (.int (b:Int))),aa (.val (.int (f:Int)))]=aa (.own ((sE w t M ((b:Int),(f:Int))).map prD)):=by
    generalize (sE w t M ((b:Int),(f:Int))).map prD=R at se;generalize eCB zh9 (zaa (zab 5) (zaa (eC (.int 0)) zad))=E5 at v5;generalize eCB zh0 (zaa (zab 6) (zaa (eCB zaA (zaa (zab 2) zad)) zad))=E6 at v6;simp only[zag,zaa,zab,jqe,jqf,v5,v6,zad,jqc,jqa,zat,zbs,asV,se]
   refine(show zbC _=_ from extI (ds:=acc.map prD) rfl hc (by rw[al,al];lia)).trans ?_;rw[bn];rfl
  refine⟨y5,y6,?_⟩;rw[a7]at e;exact(zby rfl st).trans e
def kept_eq(w t:List Nat)(M:Int)(K:List (Int×Int))(kp:Kp (t.length:Int) K)(hw:w.length<=1000)(ht:t.length<=900):zdl [.str (mkS w),.int M,.str (mkS t),.tup (K.map prD)]=aa (.val (.tup ((K.flatMap (sE w t M)).map prD))):=by
 have tl:=tot_len w t M (t.length:Int) K 0 kp.apart kp.ok (by lia);obtain⟨y5,y6,e⟩:=zhl w t M (aa (.val (.tup (K.map prD)))) hw ht K [] ab ab kp.ok (by rw[cO];lia);rw[cy]at e;have hF:zcA [aa (.val (.str (mkS w))),aa (.val (.int M)),aa (.val (.str (mkS t))),aa (.val (.tup (K.map prD))),ab,ab,ab]=aa (.rt (.val (.tup ((K.flatMap (sE w t M)).map prD))) [aa (.val (.str (mkS w))),aa (.val (.int M)),aa (.val (.str (mkS t))),aa (.val (.tup (K.map prD))),aa (.own ((K.flatMap (sE w t M)).map prD)),y5,y6]):=by
  refine(show zcA _=_ from zbD (zgg (show zcW zad _=aa (.own [])from rfl))).trans ((forN (ds:=K.map prD) rfl e).trans (zfW ?_))
  have hz:((K.flatMap (sE w t M)).map prD).length<=1000000:=by rw[al];lia
  generalize (K.flatMap (sE w t M)).map prD=R at hz;simp only[eCB,zaa,zab,jqf,jqe,zad,jqc,jqa,zdr,asL]
 exact(congrArg (λo=>cu o _) hF).trans rfl
end
section
open CE
def counts_eq(w t:List Nat)(m:Int)(hm:0<=m/\m<=1000)(hw:w.length<=1000)(ht:t.length<=900):zbk [.str (mkS w),.int m,.str (mkS t)]=aa (.val (.tup ((jnd (srtP (fnd (zb7 w t m 1) w.length m (t.length+1)))).map prD))):=by
 have h:=kept_ok w t m 1 (by decide) hm hw ht;generalize (jnd (srtP (fnd (zb7 w t m 1) w.length m (t.length+1)))).map prD=R at h;simp only[zbk,zcr,stE,stN,jqc,jqa,zcK,zbt,zag,zaa,zab,aG,jqk,eC,zad,toN,jqe,jqf,zat,zbs,asV,h,zeI]
structure Sv(w t:List Nat)(M:Int)(K:List (Int×Int)):Prop where
 kp:Kp (t.length:Int) K
 k3:∀(s j:Nat) (c:Int),Sg (zbO (wP w) t) pl 0 s w.length j c->c<=M->j<=t.length->∃p∈K,p.1<=(s:Int)/\(j:Int)<=p.2
def sv_parts(w t:List Nat)(M:Nat):Sv w t M (jnd (srtP (zfm w t M (M+1)))):=by
 obtain⟨h1,h2⟩:=jnd_kp (n:=(t.length:Int)) (zfm w t M (M+1)) (parts_ok2 w t M);refine⟨h1,λs j c g hc hj=>?_⟩;obtain⟨q,hq,q1,q2⟩:=parts_k3 M g hc hj;obtain⟨r,hr,r1,r2⟩:=h2 q hq;exact⟨r,hr,by lia,by lia⟩
def sv_pieces(w t:List Nat)(M q:Nat)(hq:1<=q):Sv w t M (jnd (srtP (fnd (zb7 w t M q) w.length M (t.length+1)))):=by
 obtain⟨h1,h2⟩:=jnd_kp (n:=(t.length:Int)) (fnd (zb7 w t M q) w.length M (t.length+1)) (zj8 w t M _);refine⟨h1,λs j c g hc hj=>?_⟩;obtain⟨p,hp,p1,p2⟩:=pieces_k3 M q hq g hc hj;obtain⟨r,hr,r1,r2⟩:=h2 p hp;exact⟨r,hr,by lia,by lia⟩
variable {w t:List Nat}{M:Int}(hw:w.length<=1000)(ht:t.length<=900)
include hw ht
end
section
open CE
def zhT{fit fit':Nat->Nat->Bool}{p:Pr}{fr':Bool}{i j:Nat}{c:Int}(a n:Nat)(h0:Ld fit' p fr' 0 a 0)(hf:∀x y,y<n->fit' x (a+y)=fit x y)(h:Ld fit p false i j c):j<=n->Ld fit' p fr' i (a+j) c:=by
 induction h with
 |nil=>exact λ_=>h0
 |free q=>cases q
 |same _ q ih=>exact λhj=>.same (ih (by lia)) ((hf _ _ (by lia)).trans q)
 |exch _ q e ih=>exact λhj=>.exch (ih (by lia)) ((hf _ _ (by lia)).trans q) e
 |put _ e ih=>exact λhj=>.put (ih (by lia)) e
 |left _ e ih=>exact λhj=>.left (ih hj) e
 |turn _ q1 q2 e ih=>exact λhj=>.turn (ih (by lia)) ((hf _ _ (by lia)).trans q1) ((hf _ _ (by lia)).trans q2) e
def zjD{fit:Nat->Nat->Bool}{p:Pr}{fr:Bool}{a b:Nat}{c:Int}(h:Ld fit p fr a b c):∀k:Nat,(∀x,x<k->fit (a+x) (b+x)=true)->Ld fit p fr (a+k) (b+k) c
 |0,_=>h
 |k+1,q=>.same (zjD h k λx hx=>q x (by lia)) (q k (by lia))
def zfL{w t:List Nat}{i j:Nat}(hi:i<w.length)(hj:j<t.length)(h:w[i]? =t[j]?):zbO (wP w) t i j=true:=by
 rw[zga hi hj];rw[aC hi,aC hj]at h;exact decide_eq_true (aJ h).symm
def ed_ld{w t:List Nat}{c:Int}(h:Ld (zbO (wP w) t) pp false w.length t.length c):ed w t<=c:=by
 obtain⟨m,e,hm⟩:=zeK ziJ h;have q:cel (zbO (wP w) t) pp false w.length t.length=aa (ed w t):=zfd w t;rw[q]at e;cases e;exact hm
def zgt(x y:List Nat)(k:Nat):(x++y)[x.length+k]? =y[k]?:=by rw[bL (by lia)];congr 1;lia
def ed_ins(x y:List Nat)(s:Nat):ed (x++y) (x++s::y)<=1:=by
 have h1:Ld (zbO (wP (x++y)) (x++s::y)) pp false x.length x.length 0:=Ld.diag x.length λa ha=>zfL (by simp;lia) (by simp;lia) (by rw[bg ha,bg ha]);have h2:=zjD (Ld.put h1 (by decide)) y.length λk hk=>zfL (by simp;lia) (by simp;lia) (by
  rw[zgt,show x.length+1+k=x.length+(k+1) by lia,zgt];rfl)
 have h3:=ed_ld (w:=x++y) (t:=x++s::y) (c:=0+pp.put) (by
  rw[am,am,au,show x.length+(y.length+1)=x.length+1+y.length by lia];exact h2)
 exact h3
def ed_del(x y:List Nat)(s:Nat):ed (x++s::y) (x++y)<=1:=by rw[ed_swap];exact ed_ins x y s
def ed_exc(x y:List Nat)(a s:Nat):ed (x++a::y) (x++s::y)<=1:=by
 by_cases e:s=a
 ·rw[e,zf2];decide
 have h1:Ld (zbO (wP (x++a::y)) (x++s::y)) pp false x.length x.length 0:=Ld.diag x.length λk ha=>zfL (by simp;lia) (by simp;lia) (by rw[bg ha,bg ha]);have hf:zbO (wP (x++a::y)) (x++s::y) x.length x.length=false:=by
  rw[zga (by simp) (by simp)];simpa using e
 have h2:=zjD (Ld.exch h1 hf (by decide)) y.length λk hk=>zfL (by simp;lia) (by simp;lia) (by
  rw[show x.length+1+k=x.length+(k+1) by lia,zgt,zgt];rfl)
 have h3:=ed_ld (w:=x++a::y) (t:=x++s::y) (c:=0+pp.exch) (by
  rw[am,am,au,au,show x.length+(y.length+1)=x.length+1+y.length by lia];exact h2)
 exact h3
def slip_put(f:List Nat)(k s:Nat):ed f (f.take k++[s]++f.drop k)<=1:=by
 have:=ed_ins (f.take k) (f.drop k) s;rw[du]at this;rw[a7];exact this
def zjQ{f:List Nat}{k:Nat}(hk:k<f.length):f.take k++f[k]::f.drop (k+1)=f:=by
 rw[<- bR hk,du]
def zim(f:List Nat)(k:Nat):ed f (f.take k++f.drop (k+1))<=1:=by
 by_cases hk:k<f.length
 ·have:=ed_del (f.take k) (f.drop (k+1)) f[k];rw[zjQ hk]at this;exact this
 ·rw[cR (by lia),List.drop_of_length_le (by lia),aU,zf2];decide
def slip_exch(f:List Nat)(k s:Nat)(hk:k<f.length):ed f (f.take k++[s]++f.drop (k+1))<=1:=by
 have:=ed_exc (f.take k) (f.drop (k+1)) f[k] s;rw[zjQ hk]at this;rw[a7];exact this
def told_in(p:Pr)(hp:p.Ok)(w f pre post:List Nat){c:Int}(h:Ld (zbO (wP w) f) p false w.length f.length c):∃m,cel (zbO (wP w) (pre++f++post)) p true w.length (pre.length+f.length)=aa m/\m<=c:=by
 refine zeK hp (zhT pre.length f.length (.free rfl) (λx y hy=>?_) h (ak _));unfold zbO;rw[bE (l:=f) (i:=y),bE (l:=pre++f++post),a7,zgt,bg hy]
def p1:Pr:=⟨1,1,1,1⟩
def p1_ok:p1.Ok:=⟨by decide,by decide,by decide,by decide⟩
structure Tn(w f:List Nat)(a:Nat)(k:Int):Prop where
 len:f.length=w.length
 same:∀i,a<=i->f[i]? =w[i]?
 ld:∃c,Ld (zbO (wP w) f) p1 false (min a w.length) (min a w.length) c/\c<=k
def Tn.go{w f:List Nat}{a b:Nat}{k:Int}(h:Tn w f a k)(hb:a<=b):Tn w f b k:=by
 obtain⟨c,h1,h2⟩:=h.ld;refine⟨h.len,λi hi=>h.same i (by lia),c,?_,h2⟩;have:=zjD h1 (min b w.length-min a w.length) λx hx=>zfL (by lia) (by rw[h.len];lia) (h.same _ (by lia)).symm;rwa [show min a w.length+(min b w.length-min a w.length)=min b w.length by lia]at this
def Tn.turn{w f:List Nat}{a:Nat}{k:Int}(h:Tn w f a k)(ha:a+1<f.length):Tn w (f.take a++[f.getD (a+1) 0]++[f.getD a 0]++f.drop (a+2)) (a+2) (k+1):=by
 have hn:=h.len;obtain⟨c,h1,h2⟩:=h.ld;have e:f.take a++[f.getD (a+1) 0]++[f.getD a 0]++f.drop (a+2)=f.take a++(f.getD (a+1) 0::f.getD a 0::f.drop (a+2)):=by simp
 rw[e];have lt:(f.take a).length=a:=by rw[bw];lia
 have at':∀i,(f.take a++(f.getD (a+1) 0::f.getD a 0::f.drop (a+2)))[a+i]? =(f.getD (a+1) 0::f.getD a 0::f.drop (a+2))[i]?:=λi=>by
  have:=zgt (f.take a) (f.getD (a+1) 0::f.getD a 0::f.drop (a+2)) i;rwa [lt]at this
 have gf:∀{i:Nat},i<f.length->aa (f.getD i 0)=f[i]?:=λhi=>by rw[aC hi];simp[hi]
 have hl:(f.take a++(f.getD (a+1) 0::f.getD a 0::f.drop (a+2))).length=w.length:=by
  rw[am,lt,au,au,bS];lia
 refine⟨hl,λi hi=>?_,c+1,?_,by lia⟩
 ·obtain⟨k,rfl⟩:∃k,i=a+(k+2):=⟨i-a-2,by lia⟩;rw[at',bN,bN,fS,show a+2+k=a+(k+2) by lia];exact h.same _ (by lia)
 ·rw[dL (by lia)]at h1 ⊢;have h3:=zhT (fr':=false) (fit':=zbO (wP w) (f.take a++(f.getD (a+1) 0::f.getD a 0::f.drop (a+2)))) 0 a .nil (λx y hy=>by
   unfold zbO;rw[bE (l:=f) (i:=y),bE (l:=f.take a++_),bi,bg (by lia),c9 hy]) h1 (ak _)
  rw[bi]at h3;refine .turn h3 (zfL (by lia) (by lia) ?_) (zfL (by lia) (by lia) ?_) (by decide)
  ·refine jh ?_ (at' 0).symm;rw[<- h.same _ (by lia)];exact(gf (by lia)).symm
  ·refine jh ?_ (at' 1).symm;rw[<- h.same _ (by lia)];exact(gf (by lia)).symm
def Tn.fin{w f:List Nat}{a:Nat}{k:Int}(h:Tn w f a k):∃c,Ld (zbO (wP w) f) p1 false w.length f.length c/\c<=k:=by
 obtain⟨c,h1,h2⟩:=(h.go (b:=a+w.length) (by lia)).ld;rw[gu (by lia)]at h1;exact⟨c,h.len.symm ▸ h1,h2⟩
end
section
open CE
def zhC(e m:Int)(δ:En)(h1:δ[1]? =aa (aa (.val (.int e))))(h2:δ[2]? =aa (aa (.val (.int m)))):∀ps:List (Int×Int),zb1 (λd=>zcC (cEn [1,2] δ d)) (λd=>zcy (cEn [1,2] δ d)) (ps.map prD)=aa ((ps.filter λp=>decide (p.1=e)&&decide (p.2<=m)).map prD)
 |[]=>rfl
 |p::ps=>by
  have ce:cEn [1,2] δ (prD p)=[aa (.val (prD p)),aa (.val (.int e)),aa (.val (.int m))]:=by unfold cEn;simp only[ar,bu,h1,h2];rfl
  have i0:atI [D.int p.1,D.int p.2] 0=aa (.int p.1):=rfl;have i1:atI [D.int p.1,D.int p.2] 1=aa (.int p.2):=rfl;have t:zcC (cEn [1,2] δ (prD p))=aa (decide (p.1=e)&&decide (p.2<=m)):=by
   rw[ce];exact andI (eqTT (zjZ (v:=.int p.1) rfl rfl i0) rfl) λ_=>leII (zjZ (v:=.int p.2) rfl rfl i1) rfl
  have f:zcy (cEn [1,2] δ (prD p))=aa (.val (prD p)):=by rw[ce];rfl
  rw[ar,zb1,t,f,zhC e m δ h1 h2 ps,eY];cases decide (p.1=e)&&decide (p.2<=m) <;> rfl
def zfE(ps:List (Int×Int))(hl:ps.length<=1000)(e m x:Int)(h:(e,x)∈ps)(hx:x<=m):zbz [.tup (ps.map prD),.int e,.int m]=aa (.val (.bl true)):=by
 have c:=zhC e m [aa (.val (.tup (ps.map prD))),aa (.val (.int e)),aa (.val (.int m))] rfl rfl ps;have hm:(e,x)∈ps.filter λp=>decide (p.1=e)&&decide (p.2<=m):=dq.mpr ⟨h,by simp[hx]⟩;have hn:=dv (λp:Int×Int=>decide (p.1=e)&&decide (p.2<=m)) ps;have hE:eLC [1,2] (iT (zab 0)) zcC zcy [aa (.val (.tup (ps.map prD))),aa (.val (.int e)),aa (.val (.int m))]=aa (.own ((ps.filter λp=>decide (p.1=e)&&decide (p.2<=m)).map prD)):=zdO rfl c (by rw[al];lia);generalize (ps.filter λp=>decide (p.1=e)&&decide (p.2<=m))=L at *;cases L with
 |nil=>cases hm
 |cons q r=>
  rw[ar]at hE;have z:zis (eqD 8) (prD q::r.map prD) []=aa false:=rfl;generalize r.map prD=R at *;generalize ps.map prD=S at *;simp only[zbz,zcr,stE,stN,jqc,jqa,zeh,zbt,ex2,aG,jqk,zcW,zad,jqq,Nat.reduceLeDiff,zdF,jra,gNeD,sqOf,asL,zdY,toN,hE,z,jqu,zeI]
def ends_told(p:Pr)(w t:List Nat)(M:Int)(hw:w.length<=1000)(ht:t.length<=900){e:Nat}(he:e<=t.length){x:Int}(hc:cel (zbO (wP w) t) p true w.length e=aa x)(hx:x<=M) :
  ∃ps:List (Int×Int),za9 [.tup ((wP w).map .str),.str (mkS t),.int M,.tup p.ds]=aa (.val (.tup (ps.map prD)))/\ps.length<=1000/\((e:Int),x)∈ps:=by
 refine⟨(dY 0 (t.length+1)).flatMap λj=>ze3 M (cel (zbO (wP w) t) p true w.length j) j,?_,?_,?_⟩
 ·rw[ends_ok (wP w) t p (by rw[zec];lia) (by lia) M];unfold seR;rw[gz,iR];congr 4;funext j;rw[seD_pr,zec]
 ·have:∀l:List Nat,(l.flatMap λj=>ze3 M (cel (zbO (wP w) t) p true w.length j) j).length<=l.length:=λl=>by
   induction l with
   |nil=>simp
   |cons a l ih=>
    have h1:(ze3 M (cel (zbO (wP w) t) p true w.length a) a).length<=1:=by
     unfold ze3;split
     ·split <;> simp
     ·simp
    rw[cM,am,au];lia
  have h:=this (dY 0 (t.length+1));rw[iY]at h;lia
 ·refine eZ.mpr ⟨e,gb.mpr ⟨by lia,by lia⟩,?_⟩;unfold ze3;rw[hc];dsimp only;rw[if_pos hx];exact aK.mpr rfl
end
section
def slip_turn(ws:List Nat)(h2:0<ws.length)(h26:ws.length<=26)(x1 x2 x5 x6:Option Ent)(f:List Nat)(hf:f.length<=900)(d:Int):∃(f':List Nat) (y5 y6:Option Ent),ed f f'<=1/\f'.length<=f.length+1 /\
  zaC [aa (.bor (ws.map λw=>.str (mkS [w]))),x1,x2,aa (.val (.str (mkS f))),aa (.val (.int d)),x5,x6]=aa (.nx [aa (.bor (ws.map λw=>.str (mkS [w]))),x1,x2,aa (.val (.str (mkS f'))),aa (.val (.int d)),y5,y6]):=by
 have a0:=cC (d / 3) (show((f.length:Int)+1)≠0 by lia);have a1:=cz (d / 3) (show(0:Int)<(f.length:Int)+1 by lia);have b0:=cC (d / 63) (show(ws.length:Int)≠0 by lia);have b1:=cz (d / 63) (show(0:Int)<(ws.length:Int) by lia);obtain⟨k,hk⟩:=bp a0;have hk':k<=f.length:=by lia
 have hb:(d / 63%(ws.length:Int)).toNat<ws.length:=by lia
 have ix:atI (ws.map λw=>D.str (mkS [w])) (d / 63%(ws.length:Int))=aa (.str (mkS [ws[(d / 63%(ws.length:Int)).toNat]])):=zdT b0 (by rw[aA,aC hb];rfl);generalize ws[(d / 63%(ws.length:Int)).toNat]=s at ix;have hl:f.length<=1000000:=by lia
 have hwl:ws.length<=1000000:=by lia
 have wl:(ws.map λw=>D.str (mkS [w])).length=ws.length:=al ..;have ca:zbJ f ab (aa (k:Int))=f.take k:=zgS f k;have cb:zbJ f (aa (k:Int)) ab=f.drop k:=by rw[zgm f (by lia)];rfl
 have cc:zbJ f (aa ((k:Int)+1)) ab=f.drop (k+1):=by rw[zgm f (by lia)];rfl
 have lt:(f.take k).length=k:=by rw[bw];lia
 have ld:(f.drop k).length=f.length-k:=bS ..;have le:(f.drop (k+1)).length=f.length-(k+1):=bS ..;have i0:∀a b:D,atI [a,b] 0=aa a:=λ_ _=>rfl;have i1:∀a b:D,atI [a,b] 1=aa b:=λ_ _=>rfl;have ne:("" : Str)=mkS []:=rfl;generalize ws.map (λw=>D.str (mkS [w]))=W at *;by_cases c0:d%3=0
 ·refine⟨f.take k++[s]++f.drop k,aa (.val (.int (k:Int))),aa (.val (.str (mkS [s]))),slip_put f k s,by simp;lia,?_⟩;simp (disch:=omega) only[zaC,zar,za0,ex2,zab,jqf,jqe,eC,zdL,pI,iOf,jqa,zck,zaf,eCB,zaa,zad,jqc,zaA,sOf,zaq,zap,zaV,pI0,zcL,zaK,hk,jqh,jqg,toN,sqO,zbP,zdY,asL,wl,zdJ,ix,fIf,tOf,c0,gEq,zb3,jqy,bOf,eSl,oNo,oSo,zcV,zcf,ca,zb9,jqp,jqq,lt,zdN,cb,ld,am,zcW,Nat.reduceLeDiff,zdF,asV,jra,zg4,jqs,jqd]
 ·by_cases c1:d%3=1
  ·have c0':((1:Int)=0)=False:=eq_false (by decide);refine⟨f.take k++f.drop (k+1),aa (.val (.int (k:Int))),aa (.val (.str (mkS [s]))),zim f k,by simp;lia,?_⟩;simp (disch:=omega) only[zaC,zar,za0,ex2,zab,jqf,jqe,eC,zdL,pI,iOf,jqa,zck,zaf,eCB,zaa,zad,jqc,zaA,sOf,zaq,zap,zaV,pI0,zcL,zaK,hk,jqh,jqg,toN,sqO,zbP,zdY,asL,wl,zdJ,ix,fIf,tOf,c1,gEq,zb3,c0',jqz,bOf,eSl,oNo,oSo,zcV,zcf,ca,zb9,jqp,jqq,lt,zdN,jqy,cc,le,zcW,Nat.reduceLeDiff,zdF,asV,jra,zg4,jqs,jqr,jrb]
  ·have c0':(d%3=0)=False:=eq_false c0;have c1':(d%3=1)=False:=eq_false c1;by_cases c2:k=f.length
   ·have c2':((k:Int)=(f.length:Int))=True:=eq_true (by lia);refine⟨f.take k++[]++f.drop (k+1),aa (.val (.int (k:Int))),aa (.val (.str (mkS [s]))),by rw[aU];exact zim f k,by simp;lia,?_⟩;simp (disch:=omega) only[zaC,zar,za0,ex2,zab,jqf,jqe,eC,zdL,pI,iOf,jqa,zck,zaf,eCB,zaa,zad,jqc,zaA,sOf,zaq,zap,zaV,pI0,zcL,zaK,hk,jqh,jqg,toN,ne,sqO,zbP,zdY,asL,wl,zdJ,ix,fIf,tOf,gEq,zb3,c0',jqz,bOf,eSl,oNo,oSo,zcV,zcf,ca,zb9,jqp,jqq,lt,zdN,am,c1',cc,le,zcW,Nat.reduceLeDiff,zdF,asV,jra,c2',jqy,zg4,i1,jqk,jqr,jrb]
   ·have c2':((k:Int)=(f.length:Int))=False:=eq_false (by lia);refine⟨f.take k++[s]++f.drop (k+1),aa (.val (.int (k:Int))),aa (.val (.str (mkS [s]))),slip_exch f k s (by lia),by simp;lia,?_⟩;simp (disch:=omega) only[zaC,zar,za0,ex2,zab,jqf,jqe,eC,zdL,pI,iOf,jqa,zck,zaf,eCB,zaa,zad,jqc,zaA,sOf,zaq,zap,zaV,pI0,zcL,zaK,hk,jqh,jqg,toN,sqO,zbP,zdY,asL,wl,zdJ,ix,fIf,tOf,gEq,zb3,c0',jqz,bOf,eSl,oNo,oSo,zcV,zcf,ca,zb9,jqp,jqq,lt,zdN,am,c1',cc,le,zcW,Nat.reduceLeDiff,zdF,asV,jra,c2',zg4,jqr,jrb,i0]
end
section
def zhH(ws:List Nat)(h2:0<ws.length)(h26:ws.length<=26)(w:List Nat)(x1 x2:Option Ent):∀(ds:List Int) (f:List Nat) (c:Int) (x4 x5 x6:Option Ent),ed w f<=c->f.length+ds.length<=900->∃(f':List Nat) (y4 y5 y6:Option Ent),ed w f'<=c+(ds.length:Int)/\f'.length<=f.length+ds.length /\
  loop (gNm 4) zaC (ds.map D.int) [aa (.bor (ws.map λw=>.str (mkS [w]))),x1,x2,aa (.val (.str (mkS f))),x4,x5,x6]=aa (.nx [aa (.bor (ws.map λw=>.str (mkS [w]))),x1,x2,aa (.val (.str (mkS f'))),y4,y5,y6])
 |[],f,c,x4,x5,x6,h,_=>⟨f,x4,x5,x6,by simpa using h,by simp,rfl⟩
 |d::ds,f,c,x4,x5,x6,h,hl=>by
  rw[au]at hl;obtain⟨g,y5,y6,e1,e2,e3⟩:=slip_turn ws h2 h26 x1 x2 x5 x6 f (by lia) d;have tri:=ed_tri w f g;obtain⟨f',z4,z5,z6,q1,q2,q3⟩:=zhH ws h2 h26 w x1 x2 ds g (c+1) (aa (.val (.int d))) y5 y6 (by lia) (by lia);exact⟨f',z4,z5,z6,by rw[au];lia,by rw[au];lia,(zby rfl e3).trans q3⟩
def zjX(ws:List Nat)(h2:0<ws.length)(h26:ws.length<=26)(w:List Nat)(ds:List Int)(hl:w.length+ds.length<=900):∃f:List Nat,ed w f<=(ds.length:Int)/\f.length<=w.length+ds.length /\
  zcE [.lst (ws.map λw=>.str (mkS [w])),.str (mkS w),.lst (ds.map .int)]=aa (.val (.str (mkS f))):=by
 obtain⟨f,y4,y5,y6,q1,q2,q3⟩:=zhH ws h2 h26 w (aa (.val (.str (mkS w)))) (aa (.bor (ds.map .int))) ds w 0 ab ab ab (by rw[zf2];decide) hl;refine⟨f,by lia,q2,?_⟩;have hF:zct [aa (.bor (ws.map λw=>.str (mkS [w]))),aa (.val (.str (mkS w))),aa (.bor (ds.map .int)),ab,ab,ab,ab]=aa (.rt (.val (.str (mkS f))) [aa (.bor (ws.map λw=>.str (mkS [w]))),aa (.val (.str (mkS w))),aa (.bor (ds.map .int)),aa (.val (.str (mkS f))),y4,y5,y6]):=
  (show zct _=_ from zaJ (v:=.str (mkS w)) rfl).trans ((forN (ds:=ds.map .int) rfl q3).trans rfl)
 exact(congrArg (λo=>cu o _) hF).trans rfl
def Tn.up{w f:List Nat}{a:Nat}{k k':Int}(h:Tn w f a k)(hk:k<=k'):Tn w f a k':=⟨h.len,h.same,let⟨c,h1,h2⟩:=h.ld;⟨c,h1,by lia⟩⟩
def turn_turn(x0 x1:Option Ent){w f:List Nat}{a:Nat}{k:Int}(h:Tn w f a k)(hn:w.length<=900)(ha:a<=10000)(d:Int):∃(f':List Nat) (a':Nat),a'<=a+4/\Tn w f' a' (k+1) /\
  zbl [x0,x1,aa (.val (.str (mkS f))),aa (.val (.int (a:Int))),aa (.val (.int d))]=aa (.nx [x0,x1,aa (.val (.str (mkS f'))),aa (.val (.int (a':Int))),aa (.val (.int d))]):=by
 have hlen:=h.len;have r0:=cC d (show(3:Int)≠0 by decide);have r1:=cz d (show(0:Int)<3 by decide);obtain⟨r,hr⟩:=bp r0;have hl:f.length<=1000000:=by lia
 have es:(a:Int)+(r:Int)=((a+r:Nat):Int):=rfl;have h':=h.go (b:=a+r) (by lia);have e2:((a+r:Nat):Int)+2=((a+r+2:Nat):Int):=rfl;generalize a+r=b at *;by_cases c:b+1<f.length
 ·have c':((b:Int)+1<(f.length:Int))=True:=eq_true (by lia);refine⟨_,b+2,by lia,h'.turn c,?_⟩;have gf:∀{i:Nat},i<f.length->f[i]? =aa (f.getD i 0):=λhi=>by rw[aC hi];simp[hi]
  have ia:atI f (b:Int)=aa (f.getD b 0):=zdT (by lia) (gf (by lia));have ib:atI f ((b:Int)+1)=aa (f.getD (b+1) 0):=zdT (by lia) (gf c);have ca:zbJ f ab (aa (b:Int))=f.take b:=zgS f b;have cc:zbJ f (aa ((b:Int)+2)) ab=f.drop (b+2):=zfZ f (b+2);have lt:(f.take b).length=b:=by rw[bw];lia
  have le:(f.drop (b+2)).length=f.length-(b+2):=bS ..;rw[<- e2];simp (disch:=omega) only[zbl,zar,za0,ex2,zab,jqf,jqe,eC,zcL,pI,iOf,jqa,zaK,zaf,hr,zaV,pI0,jqc,es,jqh,jqg,toN,gLt,sqO,fIf,tOf,eCB,zaa,zad,zaA,sOf,zaq,zap,c',jqy,bOf,eSl,oNo,oSo,zcV,zcf,ca,zjb,ib,zb9,jqp,jqq,lt,zdN,ia,am,cc,le,fNx,jra]
 ·have c':((b:Int)+1<(f.length:Int))=False:=eq_false (by lia);refine⟨f,b+2,by lia,(h'.go (by lia)).up (by lia),?_⟩;rw[<- e2];simp (disch:=omega) only[zbl,zar,za0,ex2,zab,jqf,jqe,eC,zcL,pI,iOf,jqa,zaK,zaf,hr,zaV,pI0,jqc,es,jqh,jqg,toN,gLt,sqO,fIf,tOf,eCB,zaa,zad,zaA,sOf,zaq,zap,c',jqz,bOf,eSl,oNo,oSo,zcV,zcf,zjb,zb9,fNx,jqr,jrb]
def zhi(x0 x1:Option Ent){w:List Nat}(hn:w.length<=900):∀(ds:List Int) (f:List Nat) (a:Nat) (k:Int) (x4:Option Ent),Tn w f a k->a+4*ds.length<=10000->∃(f':List Nat) (a':Nat) (y4:Option Ent),Tn w f' a' (k+(ds.length:Int)) /\
  loop (gNm 4) zbl (ds.map D.int) [x0,x1,aa (.val (.str (mkS f))),aa (.val (.int (a:Int))),x4]=aa (.nx [x0,x1,aa (.val (.str (mkS f'))),aa (.val (.int (a':Int))),y4])
 |[],f,a,k,x4,h,_=>⟨f,a,x4,h.up (by simp),rfl⟩
 |d::ds,f,a,k,x4,h,hl=>by
  rw[au]at hl;obtain⟨g,b,b1,b2,b3⟩:=turn_turn x0 x1 h hn (by lia) d;obtain⟨f',a',y4,q1,q2⟩:=zhi x0 x1 hn ds g b (k+1) (aa (.val (.int d))) b2 (by lia);exact⟨f',a',y4,q1.up (by rw[au];lia),(zby rfl b3).trans q2⟩
open CE in
def turned_ok(w:List Nat)(hn:w.length<=900)(ds:List Int)(hl:ds.length<=100):∃f:List Nat,(∃c,Ld (zbO (wP w) f) p1 false w.length f.length c/\c<=(ds.length:Int))/\f.length=w.length /\
  zcj [.str (mkS w),.lst (ds.map .int)]=aa (.val (.str (mkS f))):=by
 have t0:Tn w w 0 0:=⟨rfl,λ_ _=>rfl,0,by rw[Nat.zero_min];exact .nil,by decide⟩
 obtain⟨f,a,y4,q1,q2⟩:=zhi (aa (.val (.str (mkS w)))) (aa (.bor (ds.map .int))) hn ds w 0 0 ab t0 (by lia);refine⟨f,?_,q1.len,?_⟩
 ·have:=q1.fin;rwa [d6]at this
 ·have hF:zcU [aa (.val (.str (mkS w))),aa (.bor (ds.map .int)),ab,ab,ab]=aa (.rt (.val (.str (mkS f))) [aa (.val (.str (mkS w))),aa (.bor (ds.map .int)),aa (.val (.str (mkS f))),aa (.val (.int (a:Int))),y4]):=
   (show zcU _=_ from zaJ (v:=.str (mkS w)) rfl).trans ((zaJ (v:=.int 0) rfl).trans ((forN (ds:=ds.map .int) rfl q2).trans rfl))
  exact(congrArg (λo=>cu o _) hF).trans rfl
end
def fXRet_i{fx:FXE}{δ δ1:En}{d:D}(h:fx δ=aa (d,δ1)):zj4 fx δ=aa (.rt (.val d) δ1):=by unfold zj4;rw[h];rfl
def put_none(w:List Nat):zaI (bkO (.val .non)) [.str (mkS w)]=aa (.bl true,bkO (mkK (mkS w) [] [])):=by
 have ic:isC "Book" ["top"] (bkO (.val .non))=aa [.val .non]:=zbS;have h1:eFIs 0 "Book" ["top"] 0 [aa (.obj (bkO (.val .non))),aa (.val (.str (mkS w)))]=aa (.val (.bl true)):=by
  show(((isC "Book" ["top"] (bkO (.val .non)))).bind _)=_;rw[ic];rfl
 have h2:zeP "Knot" zaF (zaa (zab 1) zad) [aa (.obj (bkO (.val .non))),aa (.val (.str (mkS w)))]=aa (.obj (mkK (mkS w) [] [])):=by
  show((zaF (.ins "Knot" [] []) [.str (mkS w)]).bind _)=_;rw[kinit];rfl
 have h3:zge 0 "Book" ["top"] 0 (zeP "Knot" zaF (zaa (zab 1) zad)) [aa (.obj (bkO (.val .non))),aa (.val (.str (mkS w)))]=aa (.nx [aa (.obj (bkO (mkK (mkS w) [] []))),aa (.val (.str (mkS w)))]):=by
  unfold zge;rw[h2];show(((isC "Book" ["top"] (bkO (.val .non)))).bind _)=_;rw[ic];rfl
 have hF:zb5 [aa (.obj (bkO (.val .non))),aa (.val (.str (mkS w)))]=aa (.rt (.val (.bl true)) [aa (.obj (bkO (mkK (mkS w) [] []))),aa (.val (.str (mkS w)))]):=
  (show zb5 _=_ from fSeqR ((fIfT (by unfold tOf;rw[h1];rfl)).trans ((zbD h3).trans rfl)))
 unfold zaI zhc;rw[if_pos (show [D.str (mkS w)].length=1 from rfl)];show(zb5 [aa (.obj (bkO (.val .non))),aa (.val (.str (mkS w)))]).bind endM=_;rw[hF];rfl
def put_some(w:List Nat){v:Str}{ks:List Int}{os:List OT}{b:Bool}{x':OT}(h:zej zah (mkS w) 1000 (mkK v ks os)=aa (b,x')):zaI (bkO (mkK v ks os)) [.str (mkS w)]=aa (.bl b,bkO x'):=by
 have ic:isC "Book" ["top"] (bkO (mkK v ks os))=aa [mkK v ks os]:=zbS;have h1:eFIs 0 "Book" ["top"] 0 [aa (.obj (bkO (mkK v ks os))),aa (.val (.str (mkS w)))]=aa (.val (.bl false)):=by
  show(((isC "Book" ["top"] (bkO (mkK v ks os)))).bind _)=_;rw[ic];rfl
 have hh:zhY (mkK v ks os) [.str (mkS w)]=aa (.bl b,x'):=by
  show((zej zah (mkS w) 1000 (mkK v ks os)).map λp=>Out.rt (.val (.bl p.1)) [aa (.obj p.2),aa (.val (.str (mkS w))),ab,ab]).bind endM=_;rw[h];rfl
 have h2:xCOF 0 "Book" ["top"] 0 zhY (zaa (zab 1) zad) [aa (.obj (bkO (mkK v ks os))),aa (.val (.str (mkS w)))]=aa (.bl b,[aa (.obj (bkO x')),aa (.val (.str (mkS w)))]):=by
  show(((isC "Book" ["top"] (bkO (mkK v ks os)))).bind _)=_;rw[ic];show((zhY (mkK v ks os) [.str (mkS w)]).map _)=_;rw[hh];rfl
 have hF:zb5 [aa (.obj (bkO (mkK v ks os))),aa (.val (.str (mkS w)))]=aa (.rt (.val (.bl b)) [aa (.obj (bkO x')),aa (.val (.str (mkS w)))]):=
  (show zb5 _=_ from zbD ((fIfF (by unfold tOf;rw[h1];rfl)).trans rfl)).trans (fXRet_i h2)
 unfold zaI zhc;rw[if_pos (show [D.str (mkS w)].length=1 from rfl)];show(zb5 [aa (.obj (bkO (mkK v ks os))),aa (.val (.str (mkS w)))]).bind endM=_;rw[hF];rfl
section
def mk_inj{u w:List Nat}(h:mkS u=mkS w):u=w:=by
 have:=congrArg (λz:Str=>z.cps.toList) h;simpa [zcf] using this
def put2(f w:List Nat)(hf:f.length<=900)(hw:w.length<=900):∃(b:Bool) (x':OT) (us:List (List Nat)),zaI (bkO (mkK (mkS f) [] [])) [.str (mkS w)]=aa (.bl b,bkO x')/\Kn 2 x' us/\us.Nodup/\w∈us/\us.length<=2/\(∀u∈us,u.length<=1000)/\(b=false->w=f):=by
 obtain⟨b,x',us,q1,q2,q3⟩:=hang_kn w (by lia) 1 1000 (mkK (mkS f) [] []) [f] (Kn.mk .nil) (λu hu=>by rw[aK.mp hu];lia) (by simp) (by decide);have hb:b=false->w=f:=λhb=>jY λhne=>by
  have h0:0<ed f w:=by
   have h1:=zhy f w;rcases Int.lt_or_eq_of_le h1 with h|h
   ·exact h
   ·exact absurd (ed_zero h.symm).symm hne
  have st:zej zah (mkS w) 1000 (mkK (mkS f) [] [])=aa (true,mkK (mkS f) [ed f w] [mkK (mkS w) [] []]):=by
   show(((knOf (mkK (mkS f) [] [])).bind λk=>((zah [.str k.1,.str (mkS w)]).bind iOf).bind λp=>zf7 (zej zah (mkS w) 999) (mkS w) k.1 k.2.1 k.2.2 p))=_;rw[knOf_mk];simp only[aS];rw[zhb f w (by lia) (by lia)];show zf7 (zej zah (mkS w) 999) (mkS w) (mkS f) [] [] (ed f w)=_;unfold zf7;rw[if_pos h0];rfl
  rw[st]at q1;cases q1;cases hb
 refine⟨b,x',us,put_some w q1,q2,?_⟩;rcases q3 with ⟨z1,rfl⟩|⟨z1,z2⟩
 ·exact⟨by simp,z1,by simp,λu hu=>by rw[aK.mp hu];lia,hb⟩
 ·refine⟨z2.nodup_iff.mpr (aB.mpr ⟨z1,by simp⟩),z2.mem_iff.mpr aj,by rw[z2.length_eq];simp,λu hu=>?_,hb⟩;have:=z2.mem_iff.mp hu;simp only[aE,dE,or_false]at this;rcases this with rfl|rfl <;> lia
abbrev nrL(f:List Nat)(M:Int)(us:List (List Nat)):List (Int×Str):=L3.srtP ((us.filter (inR f M)).map (prE f))
def near_one{f w:List Nat}{M:Int}{us:List (List Nat)}(nd:us.Nodup)(hw:w∈us)(hm:ed w f<=M):(nrL f M us).filter (λp=>decide (p.2=mkS w))=[(ed w f,mkS w)]:=by
 have h1:((nrL f M us).filter λp=>decide (p.2=mkS w)).Perm (((us.filter (inR f M)).map (prE f)).filter λp=>decide (p.2=mkS w)):=(L3.srtP_perm _).filter _;have h2:((us.filter (inR f M)).map (prE f)).filter (λp=>decide (p.2=mkS w))=[w].map (prE f):=by
  rw[List.filter_map];congr 1;have:∀us:List (List Nat),us.Nodup->w∈us->(us.filter (inR f M)).filter ((λp:Int×Str=>decide (p.2=mkS w)) ∘ prE f)=[w]:=by
   intro us nd hw;have hq:∀u,((λp:Int×Str=>decide (p.2=mkS w)) ∘ prE f) u=decide (u=w):=λu=>decide_eq_decide.mpr ⟨mk_inj,congrArg mkS⟩;rw[List.filter_filter];have hq2:∀u,(((λp:Int×Str=>decide (p.2=mkS w)) ∘ prE f) u&&inR f M u)=decide (u=w):=λu=>by
    rw[hq];by_cases e:u=w
    ·subst e;simp[inR,hm]
    ·simp[e]
   rw[List.filter_congr λu _=>hq2 u];clear hq hq2
   induction us with
   |nil=>cases hw
   |cons a us ih=>
    rw[aB]at nd;rw[eY];by_cases e:a=w
    ·subst e;rw[if_pos (by simp),gU.mpr λu hu=>by simp;exact λe=>nd.1 (e ▸ hu)]
    ·rw[if_neg (by simpa using e)];exact ih nd.2 ((aE.mp hw).resolve_left (cP e))
  exact this us nd hw
 rw[h2]at h1;exact List.perm_singleton.mp h1
def near_val{f w:List Nat}{M:Int}{x:OT}{us:List (List Nat)}(hk:Kn 2 x us)(hu:us.length<=2)(hl:∀u∈us,u.length<=1000)(hf:f.length<=900){δ:En}(h15:δ[15]? =aa (aa (.obj (bkO x))))(h9:δ[9]? =aa (aa (.val (.str (mkS f)))))(h5:δ[5]? =aa (aa (.val (.int M)))) :
  eLdM 15 "Book" ["top"] zb2 (lVal (zab 9) (lVal (zab 5) lNil)) δ=aa (.val (.tup ((nrL f M us).map L3.prD))):=by
 have ic:isC "Book" ["top"] (bkO x)=aa [x]:=zbS;have ov:oAt 15 δ=aa (bkO x):=by unfold oAt;rw[h15]
 have e9:zab 9 δ=aa (.val (.str (mkS f))):=by unfold zab;rw[h9]
 have e5:zab 5 δ=aa (.val (.int M)):=by unfold zab;rw[h5]
 have lv:lVal (zab 9) (lVal (zab 5) lNil) δ=aa [.inl (.str (mkS f)),.inl (.int M)]:=by
  unfold lVal lNil;rw[e9,e5];rfl
 unfold eLdM;rw[ov];simp only[aS];rw[ic];simp only[aS];rw[lv];show ldV zb2 [.inr (bkO x),.inl (.str (mkS f)),.inl (.int M)]=_;refine ldV_eq ⟨plDs_pr _,λkC=>⟨[.ins (kC "Book") ["top"] [dK kC x],.str (mkS f),.int M],?_,near_k kC 2 x us hk (by lia) hl f (by lia) M⟩⟩;have td:toD kC (bkO x)=aa (.ins (kC "Book") ["top"] [dK kC x]):=by
  unfold bkO;simp only[toD,toDs,hk.d,cx,aS]
 show((toD kC (bkO x)).bind _)=_;rw[td];rfl
end
section
open CE
abbrev f62(ns:List Int)(c0:Int)(ws w t:List Nat)(M:Int)(ds:List Int)(A:Nat)(x9 x10 x11 x12 x13 x14 x15 x16:Option Ent):En:=
 [aa (.bor (ns.map .int)),aa (.val (.int c0)),aa (.own (ws.map λw=>.str (mkS [w]))),aa (.val (.str (mkS w))),aa (.val (.str (mkS t))),aa (.val (.int M)),aa (.own (ds.map .int)),aa (.val (.int (A:Int))),aa (.val (.tup ((wP w).map .str))),x9,x10,x11,x12,x13,x14,x15,x16]
abbrev wh(t f:List Nat)(A:Nat):List Nat:=t.take A++f++t.drop A
variable (ns:List Int)(c0:Int)(ws w t:List Nat)(M:Int)(ds:List Int)(A:Nat)(hw:w.length<=15)(ht:t.length<=30)(hA:A<=t.length)(hd:ds.length<=5)(hM:(ds.length:Int)<=M)(hM5:M<=5)
include ht hA in
theorem zjq(f:List Nat)(hf:f.length<=100)(x10 x11 x12 x13 x14 x15 x16:Option Ent):ex2 zb9 (ex2 zb9 (eSl zcV (zab 4) oNo (oSo (zab 7))) (zab 9)) (eSl zcV (zab 4) (oSo (zab 7)) oNo) (f62 ns c0 ws w t M ds A (aa (.val (.str (mkS f)))) x10 x11 x12 x13 x14 x15 x16)=aa (.val (.str (mkS (wh t f A)))):=by
 have hl:t.length<=1000000:=by lia
 have ca:zbJ t ab (aa (A:Int))=t.take A:=zgS t A;have cb:zbJ t (aa (A:Int)) ab=t.drop A:=zfZ t A;have lt:(t.take A).length=A:=by rw[bw];lia
 have ld:(t.drop A).length=t.length-A:=bS ..;unfold f62 wh;generalize (wP w).map D.str=pp;generalize ws.map (λw=>D.str (mkS [w]))=wl;generalize ds.map D.int=dd;generalize ns.map D.int=nn;simp (disch:=omega) only[ex2,eSl,zab,jqf,jqe,oNo,oSo,jqa,iOf,jqc,zcV,sOf,zaq,zap,zcf,ca,zaf,zb9,lt,zdN,cb,ld,am]
theorem end_eq(f:List Nat)(hf:f.length<=100)(x10 x11 x12 x13 x14 x15 x16:Option Ent):ex2 zaV (zab 7) (eCB zaA (zaa (zab 9) zad)) (f62 ns c0 ws w t M ds A (aa (.val (.str (mkS f)))) x10 x11 x12 x13 x14 x15 x16)=aa (.val (.int ((A+f.length:Nat):Int))):=by
 have hl:f.length<=1000000:=by lia
 show _=aa (Ent.val (.int ((A:Int)+(f.length:Int))));unfold f62;generalize (wP w).map D.str=pp;generalize ws.map (λw=>D.str (mkS [w]))=wl;generalize ds.map D.int=dd;generalize ns.map D.int=nn;simp only[ex2,zab,jqf,jqe,eCB,zaa,zad,jqc,jqa,zaA,sOf,zaq,hl,zap,zaf,zaV,pI0,iOf]
include hw ht hA in
theorem in_told(p:Pr)(hp:p.Ok)(f:List Nat)(hf:f.length<=100){c:Int}(h:Ld (zbO (wP w) f) p false w.length f.length c)(hc:c<=M):∃(ps:List (Int×Int)) (x:Int),za9 [.tup ((wP w).map .str),.str (mkS (wh t f A)),.int M,.tup p.ds]=aa (.val (.tup (ps.map prD)))/\ps.length<=1000/\(((A+f.length:Nat):Int),x)∈ps/\x<=M/\cel (zbO (wP w) (wh t f A)) p true w.length (A+f.length)=aa x:=by
 obtain⟨m,e1,e2⟩:=told_in p hp w f (t.take A) (t.drop A) h;have lt:(t.take A).length=A:=by rw[bw];lia
 rw[lt]at e1;have lh:(wh t f A).length=t.length+f.length:=by unfold wh;rw[am,am,bw,bS];lia
 obtain⟨ps,q1,q2,q3⟩:=ends_told p w (wh t f A) M (by lia) (by lia) (e:=A+f.length) (by lia) e1 (by lia);exact⟨ps,m,q1,q2,q3,by lia,e1⟩
include hw ht hA hd hM in
theorem ziZ:∃δ,zar (za0 9 (zag [.v,.b] zcj (zaa (zab 3) (zaa (zab 6) zad)))) (zar (za0 10 (zag [.v,.v,.v,.t] za9 (zaa (zab 8) (zaa (ex2 zb9 (ex2 zb9 (eSl zcV (zab 4) oNo (oSo (zab 7))) (zab 9)) (eSl zcV (zab 4) (oSo (zab 7)) oNo)) (zaa (zab 5) (zaa (zd8 (zaa (eC (.int 1)) (zaa (eC (.int 1)) (zaa (eC (.int 1)) (zaa (eC (.int 1)) zad))))) zad))))))
      (zar (za0 11 (zag [.v,.v,.t] zaG (zaa (zab 8) (zaa (zab 9) (zaa (zd8 (zaa (eC (.int 1)) (zaa (eC (.int 1)) (zaa (eC (.int 1)) (zaa (eC (.int 1)) zad))))) zad)))))
      (zbt (eAnd (zag [.v,.v,.v] zbz (zaa (zab 10) (zaa (ex2 zaV (zab 7) (eCB zaA (zaa (zab 9) zad))) (zaa (zab 5) zad)))) (ex2 gLe (zab 11) (zab 5)))))) (f62 ns c0 ws w t M ds A ab ab ab ab ab ab ab ab)=aa (.rt (.val (.bl true)) δ):=by
  obtain⟨f,⟨c,l1,l2⟩,fl,g1⟩:=turned_ok w (by lia) ds (by lia);obtain⟨ps,x,g2,pl,pm,px,_⟩:=in_told w t M A hw ht hA p1 p1_ok f (by lia) l1 (by lia);obtain⟨m,m1,m2⟩:=zeK p1_ok l1;have g3:=zgE (wP w) f p1 (by rw[zec];lia) (by lia);rw[zec,m1]at g3;have g4:=zfE ps pl ((A+f.length:Nat):Int) M x pm px;have pd:p1.ds=[.int 1,.int 1,.int 1,.int 1]:=rfl;rw[pd]at g2 g3;have mle:m<=M:=by lia
  have v9:zag [.v,.b] zcj (zaa (zab 3) (zaa (zab 6) zad)) (f62 ns c0 ws w t M ds A ab ab ab ab ab ab ab ab)=aa (.val (.str (mkS f))):=by
    unfold f62;generalize ds.map D.int=dd at *;simp only[zag,zaa,zab,jqf,jqe,zad,jqc,jqa,zat,zbs,asV,asL,g1]
  have wq:=zjq ns c0 ws w t M ds A ht hA f (by lia) ab ab ab ab ab ab ab;have v10:zag [.v,.v,.v,.t] za9 (zaa (zab 8) (zaa (ex2 zb9 (ex2 zb9 (eSl zcV (zab 4) oNo (oSo (zab 7))) (zab 9)) (eSl zcV (zab 4) (oSo (zab 7)) oNo)) (zaa (zab 5) (zaa (zd8 (zaa (eC (.int 1)) (zaa (eC (.int 1)) (zaa (eC (.int 1)) (zaa (eC (.int 1)) zad))))) zad)))) (f62 ns c0 ws w t M ds A (aa (.val (.str (mkS f)))) ab ab ab ab ab ab ab)=aa (.val (.tup (ps.map prD))):=by
    generalize ex2 zb9 (ex2 zb9 (eSl zcV (zab 4) oNo (oSo (zab 7))) (zab 9)) (eSl zcV (zab 4) (oSo (zab 7)) oNo)=E at wq ⊢;unfold f62 at wq ⊢;generalize (wP w).map D.str=pp at *;generalize ps.map prD=pq at *;simp only[zag,zaa,zab,jqf,jqe,wq,zd8,eC,zad,jqc,jqa,jqp,jqq,Nat.reduceLeDiff,zdF,asV,jra,zat,zbs,asT,g2]
  have v11:zag [.v,.v,.t] zaG (zaa (zab 8) (zaa (zab 9) (zaa (zd8 (zaa (eC (.int 1)) (zaa (eC (.int 1)) (zaa (eC (.int 1)) (zaa (eC (.int 1)) zad))))) zad))) (f62 ns c0 ws w t M ds A (aa (.val (.str (mkS f)))) (aa (.val (.tup (ps.map prD)))) ab ab ab ab ab ab)=aa (.val (.int m)):=by
    unfold f62;generalize (wP w).map D.str=pp at *;simp only[zag,zaa,zab,jqf,jqe,zd8,eC,zad,jqc,jqa,jqp,jqq,Nat.reduceLeDiff,zdF,asV,jra,zat,zbs,asT,g3,oD_s]
  have ee:=end_eq ns c0 ws w t M ds A f (by lia) (aa (.val (.tup (ps.map prD)))) (aa (.val (.int m))) ab ab ab ab ab;refine⟨_,(zaJ v9).trans ((zaJ v10).trans ((zaJ v11).trans (zfW ?_)))⟩;show eAnd _ _ (f62 ns c0 ws w t M ds A (aa (.val (.str (mkS f)))) (aa (.val (.tup (ps.map prD)))) (aa (.val (.int m))) ab ab ab ab ab)=_;generalize ex2 zaV (zab 7) (eCB zaA (zaa (zab 9) zad))=E at ee ⊢;unfold f62 at ee ⊢;generalize (wP w).map D.str=pp at *;generalize ps.map prD=pq at *;simp only[eAnd,zag,zaa,zab,jqf,jqe,ee,zad,jqc,jqa,zat,zbs,asV,g4,bOf,ex2,gLe,pI0,iOf,mle,jqy,jra]
end
section
open CE
def ziX:pl.Ok:=⟨by decide,by decide,by decide,by decide⟩
def zhu(w:Str)(δ:En)(h3:δ[3]? =aa (aa (.val (.str w)))):∀ps:List (Int×Str),zb1 (λd=>zeG (cEn [3] δ d)) (λd=>zfo (cEn [3] δ d)) (ps.map L3.prD)=aa ((ps.filter λp=>decide (p.2=w)).map L3.prD)
 |[]=>rfl
 |p::ps=>by
  have ce:cEn [3] δ (L3.prD p)=[aa (.val (L3.prD p)),aa (.val (.str w))]:=by unfold cEn;simp only[ar,bu,h3];rfl
  have i1:atI [D.int p.1,D.str p.2] 1=aa (.str p.2):=rfl;have t:zeG (cEn [3] δ (L3.prD p))=aa (decide (p.2=w)):=by
   rw[ce];have e:ex2 zen (zab 0) (eC (.int 1)) [aa (.val (L3.prD p)),aa (.val (.str w))]=aa (.val (.str p.2)):=zjZ rfl rfl i1;unfold zeG;generalize ex2 zen (zab 0) (eC (.int 1))=E at e ⊢;by_cases c:p.2=w <;> simp only[tOf,ex2,e,c,zab,jqf,jqe,gEq,jqa,zeM,jqy,jqc,bOf,jqz]
  have f:zfo (cEn [3] δ (L3.prD p))=aa (.val (L3.prD p)):=by rw[ce];rfl
  rw[ar,zb1,t,f,zhu w δ h3 ps,eY];cases decide (p.2=w) <;> rfl
def xM_i{i:Nat}{top top':OT}{z:Str}{b:Bool}{δ:En}{a:FA}(ho:δ[i]? =aa (aa (.obj (bkO top))))(ha:a δ=aa [.val (.str z)])(h:zaI (bkO top) [.str z]=aa (.bl b,bkO top')):xM i "Book" ["top"] zaI a δ=aa (.bl b,δ.set i (aa (.obj (bkO top')))):=by
 have ic:isC "Book" ["top"] (bkO top)=aa [top]:=zbS;have ov:oAt i δ=aa (bkO top):=by unfold oAt;rw[ho]
 unfold xM;rw[ov];simp only[aS];rw[ic];simp only[aS];rw[ha];show((zaI (bkO top) [.str z]).map _)=_;rw[h];rfl
variable (ns:List Int)(c0:Int)(ws w t:List Nat)(M:Nat)(ds:List Int)(A:Nat)(hw:w.length<=15)(ht:t.length<=30)(hA:A<=t.length)(hd:ds.length<=M)(hM5:M<=5)
include hw ht hM5 in
theorem keptL(f:List Nat)(hf:f.length<=100){K:List (Int×Int)}(sv:Sv w (wh t f A) M K){x:Int}(hc:cel (zbO (wP w) (wh t f A)) pl true w.length (A+f.length)=aa x)(hA:A<=t.length)(hx:x<=(M:Int))(x10 x11 x15 x16:Option Ent) :
  zfz (f62 ns c0 ws w t M ds A (aa (.val (.str (mkS f)))) x10 x11 (aa (.val (.str (mkS (wh t f A))))) (aa (.val (.int ((A+f.length:Nat):Int)))) (aa (.val (.tup (K.map prD)))) x15 x16) =
  aa (.nx (f62 ns c0 ws w t M ds A (aa (.val (.str (mkS f)))) x10 x11 (aa (.val (.str (mkS (wh t f A))))) (aa (.val (.int ((A+f.length:Nat):Int)))) (aa (.val (.tup (K.map prD)))) x15 x16)):=by
 have lh:(wh t f A).length=t.length+f.length:=by unfold wh;rw[am,am,bw,bS];lia
 have e1:=kept_eq w (wh t f A) M K sv.kp (by lia) (by lia);rw[kept_same sv.kp sv.k3]at e1;have hl:=wE_len w (wh t f A) M 0 ((wh t f A).length+1);have hm:(((A+f.length:Nat):Int),x)∈wE w (wh t f A) M 0 ((wh t f A).length+1):=by
  unfold wE;refine eZ.mpr ⟨A+f.length,gb.mpr ⟨by lia,by lia⟩,?_⟩;unfold ze3 cW;rw[hc];dsimp only;rw[if_pos hx];exact aK.mpr rfl
 have e2:=zfE (wE w (wh t f A) M 0 ((wh t f A).length+1)) (by lia) ((A+f.length:Nat):Int) M x hm hx;generalize (wE w (wh t f A) M 0 ((wh t f A).length+1)).map prD=R at e1 e2;unfold f62;generalize K.map prD=KK at e1 ⊢;generalize ((A+f.length:Nat):Int)=EE at *;generalize mkS (wh t f A)=WW at *;simp only[zfz,fIf,fNot,tOf,zag,zaa,zab,jqf,jqe,zad,jqc,jqa,zat,zbs,asV,e1,e2,bOf,jqt,zbt,eC,toN,fNx,jqr,jrb]
include hw ht hA hd hM5 in
theorem zid(h2:0<ws.length)(h26:ws.length<=26)(hdM:ds.length=M):∃δ,zg0 (f62 ns c0 ws w t M ds A ab ab ab ab ab ab ab ab)=aa (.rt (.val (.bl true)) δ):=by
 obtain⟨f,e1,e2,g1⟩:=zjX ws h2 h26 w ds (by lia);have hem:ed w f<=(M:Int):=by lia
 have hld:Ld (zbO (wP w) f) pl false w.length f.length (ed w f):=(zdm ziJ (show cel (zbO (wP w) f) pp false w.length f.length=aa (ed w f)from zfd w f)).1;obtain⟨ps,x,g2,pn,pm,px,hc⟩:=in_told w t M A hw ht hA pl ziX f (by lia) hld hem;have g3:=zfE ps pn ((A+f.length:Nat):Int) M x pm px;have pd:pl.ds=[.int 1,.int 1,.int 1,.int 0]:=rfl;have lh:(wh t f A).length=t.length+f.length:=by unfold wh;rw[am,am,bw,bS];lia
 have hP:=parts_ok w (wh t f A) M ⟨by lia,by lia⟩ (by lia) (by lia);rw[show((M:Int)).toNat=M by lia]at hP;have hC:=counts_eq w (wh t f A) M ⟨by lia,by lia⟩ (by lia) (by lia);obtain⟨b,x',us,b1,b2,b3,b4,b5,b6,b7⟩:=put2 f w (by lia) (by lia);have no:=near_one (M:=(M:Int)) b3 b4 hem;have pe:=zgE (wP w) f pp (by rw[zec];lia) (by lia);rw[zec,show cel (zbO (wP w) f) pp false w.length f.length=aa (ed w f)from zfd w f]at pe;rw[pd]at g2;rw[show pp.ds=[.int 1,.int 1,.int 1,.int 0]from rfl]at pe;have v9:zag [.b,.v,.b] zcE (zaa (zab 2) (zaa (zab 3) (zaa (zab 6) zad))) (f62 ns c0 ws w t M ds A ab ab ab ab ab ab ab ab)=aa (.val (.str (mkS f))):=by
  unfold f62;generalize ds.map D.int=dd at *;generalize ws.map (λw=>D.str (mkS [w]))=wl at *;simp only[zag,zaa,zab,jqf,jqe,zad,jqc,jqa,zat,zbs,asL,asV,g1]
 have wq:=zjq ns c0 ws w t M ds A ht hA f (by lia) ab ab ab ab ab ab ab;have ee:=end_eq ns c0 ws w t M ds A f (by lia) ab ab (aa (.val (.str (mkS (wh t f A))))) ab ab ab ab;have v12:tOf (zag [.v,.v,.v] zbz (zaa (zag [.v,.v,.v,.t] za9 (zaa (zab 8) (zaa (zab 12) (zaa (zab 5) (zaa (zd8 (zaa (eC (.int 1)) (zaa (eC (.int 1)) (zaa (eC (.int 1)) (zaa (eC (.int 0)) zad))))) zad))))) (zaa (zab 13) (zaa (zab 5) zad)))) (f62 ns c0 ws w t M ds A (aa (.val (.str (mkS f)))) ab ab (aa (.val (.str (mkS (wh t f A))))) (aa (.val (.int ((A+f.length:Nat):Int)))) ab ab ab)=aa true:=by
  unfold f62;generalize (wP w).map D.str=pp at *;generalize ps.map prD=pq at *;generalize ((A+f.length:Nat):Int)=EE at *;generalize mkS (wh t f A)=WW at *;simp only[tOf,zag,zaa,zab,jqf,jqe,zd8,eC,zad,jqc,jqa,jqp,jqq,Nat.reduceLeDiff,zdF,asV,jra,zat,zbs,asT,g2,g3,bOf]
 have v13:iL (zcW (zaa (zag [.v,.v,.v] zch (zaa (zab 3) (zaa (zab 5) (zaa (zab 12) zad)))) (zaa (zag [.v,.v,.v] zbk (zaa (zab 3) (zaa (zab 5) (zaa (zab 12) zad)))) zad))) (f62 ns c0 ws w t M ds A (aa (.val (.str (mkS f)))) ab ab (aa (.val (.str (mkS (wh t f A))))) (aa (.val (.int ((A+f.length:Nat):Int)))) ab ab ab)=aa [.tup ((jnd (srtP (zfm w (wh t f A) M (M+1)))).map prD),.tup ((jnd (srtP (fnd (zb7 w (wh t f A) M 1) w.length M ((wh t f A).length+1)))).map prD)]:=by
  unfold f62;generalize (jnd (srtP (zfm w (wh t f A) M (M+1)))).map prD=K1 at *;generalize (jnd (srtP (fnd (zb7 w (wh t f A) M 1) w.length M ((wh t f A).length+1)))).map prD=K2 at *;generalize mkS (wh t f A)=WW at *;simp only[iL,zcW,zaa,zag,zab,jqf,jqe,zad,jqc,jqa,zat,zbs,asV,hP,hC,jqp,jqq,Nat.reduceLeDiff,zdF,jra]
 have t1:=keptL ns c0 ws w t M ds A hw ht hM5 f (by lia) (sv_parts w (wh t f A) M) hc hA px ab ab ab ab;have t2:=keptL ns c0 ws w t M ds A hw ht hM5 f (by lia) (sv_pieces w (wh t f A) M 1 (by decide)) hc hA px ab ab ab ab;have l13:=(zby (tg:=gNm 14) (f:=zfz) (d:=.tup ((jnd (srtP (zfm w (wh t f A) M (M+1)))).map prD)) (ds:=[.tup ((jnd (srtP (fnd (zb7 w (wh t f A) M 1) w.length M ((wh t f A).length+1)))).map prD)]) (δ:=f62 ns c0 ws w t M ds A (aa (.val (.str (mkS f)))) ab ab (aa (.val (.str (mkS (wh t f A))))) (aa (.val (.int ((A+f.length:Nat):Int)))) ab ab ab) rfl t1).trans ((zby (ds:=[]) rfl t2).trans rfl)
 generalize hK2:(jnd (srtP (fnd (zb7 w (wh t f A) M 1) w.length M ((wh t f A).length+1)))).map prD=K2 at *;have v14:zeP "Book" za8 zad (f62 ns c0 ws w t M ds A (aa (.val (.str (mkS f)))) ab ab (aa (.val (.str (mkS (wh t f A))))) (aa (.val (.int ((A+f.length:Nat):Int)))) (aa (.val (.tup K2))) ab ab)=aa (.obj (bkO (.val .non))):=by
  have:za8 (.ins "Book" [] []) []=aa (.non,bkO (.val .non)):=by
   simp only[za8,zhc,zc5,cO,reduceIte,bu,iI,aU,cy,zf4,eC,oAt,toO,aS,dh,zbS,fT,endM,cx,bkO]
  show((za8 (.ins "Book" [] []) []).bind _)=_;rw[this];rfl
 have s15:fX (xM 15 "Book" ["top"] zaI (zaa (zab 9) zad)) (f62 ns c0 ws w t M ds A (aa (.val (.str (mkS f)))) ab ab (aa (.val (.str (mkS (wh t f A))))) (aa (.val (.int ((A+f.length:Nat):Int)))) (aa (.val (.tup K2))) (aa (.obj (bkO (.val .non)))) ab)=aa (.nx (f62 ns c0 ws w t M ds A (aa (.val (.str (mkS f)))) ab ab (aa (.val (.str (mkS (wh t f A))))) (aa (.val (.int ((A+f.length:Nat):Int)))) (aa (.val (.tup K2))) (aa (.obj (bkO (mkK (mkS f) [] [])))) ab)):=by
  unfold fX;rw[xM_i (top':=mkK (mkS f) [] []) (b:=true) (z:=mkS f) rfl rfl (put_none f)];rfl
 have hx:=xM_i (i:=15) (a:=zaa (zab 3) zad) (δ:=f62 ns c0 ws w t M ds A (aa (.val (.str (mkS f)))) ab ab (aa (.val (.str (mkS (wh t f A))))) (aa (.val (.int ((A+f.length:Nat):Int)))) (aa (.val (.tup K2))) (aa (.obj (bkO (mkK (mkS f) [] [])))) ab) rfl rfl b1;have s16:fXIf (xTAnd (xN (xT (xM 15 "Book" ["top"] zaI (zaa (zab 3) zad)))) (xPT (tOf (ex2 gNe (zab 9) (zab 3))))) (zbt (eC (.bl false))) fNx (f62 ns c0 ws w t M ds A (aa (.val (.str (mkS f)))) ab ab (aa (.val (.str (mkS (wh t f A))))) (aa (.val (.int ((A+f.length:Nat):Int)))) (aa (.val (.tup K2))) (aa (.obj (bkO (mkK (mkS f) [] [])))) ab)=aa (.nx (f62 ns c0 ws w t M ds A (aa (.val (.str (mkS f)))) ab ab (aa (.val (.str (mkS (wh t f A))))) (aa (.val (.int ((A+f.length:Nat):Int)))) (aa (.val (.tup K2))) (aa (.obj (bkO x'))) ab)):=by
  have tt:xTAnd (xN (xT (xM 15 "Book" ["top"] zaI (zaa (zab 3) zad)))) (xPT (tOf (ex2 gNe (zab 9) (zab 3)))) (f62 ns c0 ws w t M ds A (aa (.val (.str (mkS f)))) ab ab (aa (.val (.str (mkS (wh t f A))))) (aa (.val (.int ((A+f.length:Nat):Int)))) (aa (.val (.tup K2))) (aa (.obj (bkO (mkK (mkS f) [] [])))) ab)=aa (false,f62 ns c0 ws w t M ds A (aa (.val (.str (mkS f)))) ab ab (aa (.val (.str (mkS (wh t f A))))) (aa (.val (.int ((A+f.length:Nat):Int)))) (aa (.val (.tup K2))) (aa (.obj (bkO x'))) ab):=by
   unfold xTAnd xN xT;rw[hx];cases b with
   |true=>rfl
   |false=>
    have hwf:=b7 rfl;have q:tOf (ex2 gNe (zab 9) (zab 3)) (f62 ns c0 ws w t M ds A (aa (.val (.str (mkS f)))) ab ab (aa (.val (.str (mkS (wh t f A))))) (aa (.val (.int ((A+f.length:Nat):Int)))) (aa (.val (.tup K2))) (aa (.obj (bkO x'))) ab)=aa false:=by
     have z:(mkS f=mkS w)=True:=eq_true (by rw[hwf]);unfold f62;generalize mkS f=zf at *;generalize mkS w=zw at *;simp only[tOf,ex2,zab,jqf,jqe,gNe,jqa,zeM,z,jqy,jqc,jqt,bOf]
    show xPT (tOf (ex2 gNe (zab 9) (zab 3))) (f62 ns c0 ws w t M ds A (aa (.val (.str (mkS f)))) ab ab (aa (.val (.str (mkS (wh t f A))))) (aa (.val (.int ((A+f.length:Nat):Int)))) (aa (.val (.tup K2))) (aa (.obj (bkO x'))) ab)=_;unfold xPT;exact(congrArg (iu _) q).trans rfl
  unfold fXIf;rw[tt];rfl
 have nv:=near_val (M:=(M:Int)) b2 b5 b6 (f:=f) (w:=w) (by lia) (δ:=f62 ns c0 ws w t M ds A (aa (.val (.str (mkS f)))) ab ab (aa (.val (.str (mkS (wh t f A))))) (aa (.val (.int ((A+f.length:Nat):Int)))) (aa (.val (.tup K2))) (aa (.obj (bkO x'))) ab) rfl rfl rfl;have cw:=zhu (mkS w) (f62 ns c0 ws w t M ds A (aa (.val (.str (mkS f)))) ab ab (aa (.val (.str (mkS (wh t f A))))) (aa (.val (.int ((A+f.length:Nat):Int)))) (aa (.val (.tup K2))) (aa (.obj (bkO x'))) ab) rfl (nrL f M us);rw[no]at cw;have v17:eLC [3] (iT (eLdM 15 "Book" ["top"] zb2 (lVal (zab 9) (lVal (zab 5) lNil)))) zeG zfo (f62 ns c0 ws w t M ds A (aa (.val (.str (mkS f)))) ab ab (aa (.val (.str (mkS (wh t f A))))) (aa (.val (.int ((A+f.length:Nat):Int)))) (aa (.val (.tup K2))) (aa (.obj (bkO x'))) ab)=aa (.own [.tup [.int (ed w f),.str (mkS w)]]):=
  zdO (by unfold iT;rw[nv];rfl) cw (by simp)
 have i0:atI [D.tup [.int (ed w f),.str (mkS w)]] 0=aa (.tup [.int (ed w f),.str (mkS w)]):=rfl;have i1:atI [D.int (ed w f),.str (mkS w)] 0=aa (.int (ed w f)):=rfl;refine⟨_,(show zg0 _=_ from zaJ v9).trans ((show zhX _=_ from zaJ wq).trans ((show zhh _=_ from zaJ ee).trans ((show zhv _=_ from zbD (fIfF (by unfold fNot;exact(congrArg (iu _) v12).trans rfl))).trans ((show zic _=_ from forN v13 l13).trans ((show zia _=_ from zbD (show ziN 15 _ _=aa (.nx (f62 ns c0 ws w t M ds A (aa (.val (.str (mkS f)))) ab ab (aa (.val (.str (mkS (wh t f A))))) (aa (.val (.int ((A+f.length:Nat):Int)))) (aa (.val (.tup K2))) (aa (.obj (bkO (.val .non)))) ab)) by unfold ziN;rw[v14];rfl)).trans ((show zhw _=_ from zbD s15).trans ((show zhN _=_ from zbD s16).trans ((show zhZ _=_ from zbD (zgg v17)).trans (zfW ?_)))))))))⟩;show eAnd _ _ (f62 ns c0 ws w t M ds A (aa (.val (.str (mkS f)))) ab ab (aa (.val (.str (mkS (wh t f A))))) (aa (.val (.int ((A+f.length:Nat):Int)))) (aa (.val (.tup K2))) (aa (.obj (bkO x'))) (aa (.own [.tup [.int (ed w f),.str (mkS w)]])))=_;rw[oD_s]at pe;have q1:(ed w f=ed w f)=True:=eq_true rfl;unfold f62;generalize (wP w).map D.str=pp at *;generalize ed w f=dd at *;generalize mkS f=zf at *;simp only[eAnd,ex2,eCB,zaa,zab,jqf,jqe,zad,jqc,jqa,zbP,zdY,asL,jqp,jqq,eC,gEq,zb3,bOf,zdJ,iOf,i0,zen,i1,zag,zd8,Nat.reduceLeDiff,zdF,asV,jra,zat,zbs,asT,pe,jqy,gLe,pI0,hem,jqs]
 all_goals rfl
end
def callB{g:List D->Option Ent}{E:FE}{δ:En}{nn:List D}{i:Int}{v:D}(h:E δ=aa (.bor nn))(hg:g [.lst nn,.int i]=aa (.val v)):zag [.b,.v] g (zaa E (zaa (eC (.int i)) zad)) δ=aa (.val v):=by simp only[zag,zaa,h,eC,zad,jqc,jqa,zat,zbs,asL,asV,hg]
open CE in
def main(ns:List Int)(hn:ns.length<=63):g_law [.lst (ns.map .int)]=aa (.val (.bl true)):=by
 obtain⟨c0,h0⟩:=zg5 ns 0 (by decide) (by decide);obtain⟨c1,h1⟩:=zg5 ns 1 (by decide) (by decide);obtain⟨c2,h2⟩:=zg5 ns 2 (by decide) (by decide);obtain⟨c3,h3⟩:=zg5 ns 3 (by decide) (by decide);obtain⟨ws,hws,w2,w26,_⟩:=pool_ok c0;have m15:=cz (c0 / 104) (show(0:Int)<15 by decide);have n15:=cC (c0 / 104) (show(15:Int)≠0 by decide);have m31:=cz (c0 / 1560) (show(0:Int)<31 by decide);have m6:=cz (c0 / 48360) (show(0:Int)<6 by decide);have n6:=cC (c0 / 48360) (show(6:Int)≠0 by decide);obtain⟨w,hw,wl,_⟩:=text_ok ws c1 (1+c0 / 104%15) (by lia) w26 (by lia) (by lia);obtain⟨t,ht,tl,_⟩:=text_ok ws c2 (c0 / 1560%31) (by lia) w26 (cC _ (by decide)) (by lia);obtain⟨M,hM⟩:=bp n6;obtain⟨ds,hds,dl,_⟩:=zig c3 1638 (M:Int) (by decide) (by decide) (by lia) (by lia);have a0:=cC (c0 / 290160) (show((t.length:Int)+1)≠0 by lia);have a1:=cz (c0 / 290160) (show(0:Int)<(t.length:Int)+1 by lia);obtain⟨A,hA⟩:=bp a0;have wl':w.length<=15:=by lia
 have tl':t.length<=30:=by lia
 have v2:zag [.v] zc0 (zaa (zab 1) zad) [aa (.bor (ns.map .int)),aa (.val (.int c0)),ab,ab,ab,ab,ab,ab,ab,ab,ab,ab,ab,ab,ab,ab,ab]=aa (.own (ws.map λw=>.str (mkS [w]))):=by
  generalize ws.map (λw=>D.str (mkS [w]))=W at *;simp only[zag,zaa,zab,jqf,jqe,zad,jqc,jqa,zat,zbs,asV,hws]
 have v3:zag [.b,.v,.v] zb4 (zaa (zab 2) (zaa (zag [.b,.v] zam (zaa (zab 0) (zaa (eC (.int 1)) zad))) (zaa (ex2 zaV (eC (.int 1)) (ex2 zcL (ex2 zdL (zab 1) (eC (.int 104))) (eC (.int 15)))) zad))) [aa (.bor (ns.map .int)),aa (.val (.int c0)),aa (.own (ws.map λw=>.str (mkS [w]))),ab,ab,ab,ab,ab,ab,ab,ab,ab,ab,ab,ab,ab,ab]=aa (.val (.str (mkS w))):=by
  have z1:=callB (g:=zam) (E:=zab 0) (δ:=[aa (.bor (ns.map .int)),aa (.val (.int c0)),aa (.own (ws.map λw=>.str (mkS [w]))),ab,ab,ab,ab,ab,ab,ab,ab,ab,ab,ab,ab,ab,ab]) rfl h1;have z2:=zje (E:=eC (.int 1)) (F:=ex2 zcL (ex2 zdL (zab 1) (eC (.int 104))) (eC (.int 15))) (δ:=[aa (.bor (ns.map .int)),aa (.val (.int c0)),aa (.own (ws.map λw=>.str (mkS [w]))),ab,ab,ab,ab,ab,ab,ab,ab,ab,ab,ab,ab,ab,ab]) rfl (modI (divI rfl rfl (by decide)) rfl (by decide));generalize zag [.b,.v] zam (zaa (zab 0) (zaa (eC (.int 1)) zad))=E1 at z1 ⊢;generalize ex2 zaV (eC (.int 1)) (ex2 zcL (ex2 zdL (zab 1) (eC (.int 104))) (eC (.int 15)))=E2 at z2 ⊢;generalize ws.map (λw=>D.str (mkS [w]))=W at *;simp only[zag,zaa,zab,jqf,jqe,z1,z2,zad,jqc,jqa,zat,zbs,asL,asV,hw]
 have v4:zag [.b,.v,.v] zb4 (zaa (zab 2) (zaa (zag [.b,.v] zam (zaa (zab 0) (zaa (eC (.int 2)) zad))) (zaa (ex2 zcL (ex2 zdL (zab 1) (eC (.int 1560))) (eC (.int 31))) zad))) [aa (.bor (ns.map .int)),aa (.val (.int c0)),aa (.own (ws.map λw=>.str (mkS [w]))),aa (.val (.str (mkS w))),ab,ab,ab,ab,ab,ab,ab,ab,ab,ab,ab,ab,ab]=aa (.val (.str (mkS t))):=by
  have z1:=callB (g:=zam) (E:=zab 0) (δ:=[aa (.bor (ns.map .int)),aa (.val (.int c0)),aa (.own (ws.map λw=>.str (mkS [w]))),aa (.val (.str (mkS w))),ab,ab,ab,ab,ab,ab,ab,ab,ab,ab,ab,ab,ab]) rfl h2;have z2:=modI (E:=ex2 zdL (zab 1) (eC (.int 1560))) (F:=eC (.int 31)) (δ:=[aa (.bor (ns.map .int)),aa (.val (.int c0)),aa (.own (ws.map λw=>.str (mkS [w]))),aa (.val (.str (mkS w))),ab,ab,ab,ab,ab,ab,ab,ab,ab,ab,ab,ab,ab]) (divI rfl rfl (by decide)) rfl (by decide);generalize zag [.b,.v] zam (zaa (zab 0) (zaa (eC (.int 2)) zad))=E1 at z1 ⊢;generalize ex2 zcL (ex2 zdL (zab 1) (eC (.int 1560))) (eC (.int 31))=E2 at z2 ⊢;generalize ws.map (λw=>D.str (mkS [w]))=W at *;simp only[zag,zaa,zab,jqf,jqe,z1,z2,zad,jqc,jqa,zat,zbs,asL,asV,ht]
 have v5:ex2 zcL (ex2 zdL (zab 1) (eC (.int 48360))) (eC (.int 6)) [aa (.bor (ns.map .int)),aa (.val (.int c0)),aa (.own (ws.map λw=>.str (mkS [w]))),aa (.val (.str (mkS w))),aa (.val (.str (mkS t))),ab,ab,ab,ab,ab,ab,ab,ab,ab,ab,ab,ab]=aa (.val (.int (M:Int))):=by
  rw[show(M:Int)=c0 / 48360%6 from hM.symm];exact modI (divI rfl rfl (by decide)) rfl (by decide)
 have v6:zag [.v,.v,.v] zbd (zaa (zag [.b,.v] zam (zaa (zab 0) (zaa (eC (.int 3)) zad))) (zaa (eC (.int 1638)) (zaa (zab 5) zad))) [aa (.bor (ns.map .int)),aa (.val (.int c0)),aa (.own (ws.map λw=>.str (mkS [w]))),aa (.val (.str (mkS w))),aa (.val (.str (mkS t))),aa (.val (.int (M:Int))),ab,ab,ab,ab,ab,ab,ab,ab,ab,ab,ab]=aa (.own (ds.map .int)):=by
  have z1:=callB (g:=zam) (E:=zab 0) (δ:=[aa (.bor (ns.map .int)),aa (.val (.int c0)),aa (.own (ws.map λw=>.str (mkS [w]))),aa (.val (.str (mkS w))),aa (.val (.str (mkS t))),aa (.val (.int (M:Int))),ab,ab,ab,ab,ab,ab,ab,ab,ab,ab,ab]) rfl h3;generalize zag [.b,.v] zam (zaa (zab 0) (zaa (eC (.int 3)) zad))=E1 at z1 ⊢;generalize ds.map D.int=dd at *;simp only[zag,zaa,z1,eC,zab,jqf,jqe,zad,jqc,jqa,zat,zbs,asV,hds]
 have v7:ex2 zcL (ex2 zdL (zab 1) (eC (.int 290160))) (ex2 zaV (eCB zaA (zaa (zab 4) zad)) (eC (.int 1))) [aa (.bor (ns.map .int)),aa (.val (.int c0)),aa (.own (ws.map λw=>.str (mkS [w]))),aa (.val (.str (mkS w))),aa (.val (.str (mkS t))),aa (.val (.int (M:Int))),aa (.own (ds.map .int)),ab,ab,ab,ab,ab,ab,ab,ab,ab,ab]=aa (.val (.int (A:Int))):=by
  have hl:t.length<=1000000:=by lia
  generalize ds.map D.int=dd;generalize ws.map (λw=>D.str (mkS [w]))=W;generalize ns.map D.int=nn;simp (disch:=omega) only[ex2,zab,jqf,jqe,eC,zdL,pI,iOf,jqa,zck,zaf,eCB,zaa,zad,jqc,zaA,sOf,zaq,zap,zaV,pI0,zcL,zaK,hA]
 have v8:zag [.v] zaw (zaa (zab 3) zad) [aa (.bor (ns.map .int)),aa (.val (.int c0)),aa (.own (ws.map λw=>.str (mkS [w]))),aa (.val (.str (mkS w))),aa (.val (.str (mkS t))),aa (.val (.int (M:Int))),aa (.own (ds.map .int)),aa (.val (.int (A:Int))),ab,ab,ab,ab,ab,ab,ab,ab,ab]=aa (.val (.tup ((wP w).map .str))):=by
  have z:=patn_eq w (by lia);generalize (wP w).map D.str=pp at *;simp only[zag,zaa,zab,jqf,jqe,zad,jqc,jqa,zat,zbs,asV,z]
 have tst:=eqTT (E:=ex2 zcL (ex2 zdL (zab 1) (eC (.int 11))) (eC (.int 2))) (F:=eC (.int 1)) (δ:=f62 ns c0 ws w t M ds A ab ab ab ab ab ab ab ab) (modI (divI rfl rfl (by decide)) rfl (by decide)) rfl;have s8:∃δ,zfp (f62 ns c0 ws w t M ds A ab ab ab ab ab ab ab ab)=aa (.rt (.val (.bl true)) δ):=by
  by_cases hc:c0 / 11%2=1
  ·rw[decide_eq_true hc]at tst;obtain⟨δ,q⟩:=ziZ ns c0 ws w t M ds A wl' tl' (by lia) (by lia) (by lia);exact⟨δ,show zfp _=_ from fSeqR ((fIfT tst).trans q)⟩
  ·rw[decide_eq_false hc]at tst;obtain⟨δ,q⟩:=zid ns c0 ws w t M ds A wl' tl' (by lia) (by lia) (by lia) (by lia) w26 (by lia);exact⟨δ,(show zfp _=_ from zbD (fIfF tst)).trans q⟩
 obtain⟨δ,q⟩:=s8;have hF:F_law [aa (.bor (ns.map .int)),ab,ab,ab,ab,ab,ab,ab,ab,ab,ab,ab,ab,ab,ab,ab,ab]=aa (.rt (.val (.bl true)) δ):=
  (show F_law _=_ from zaJ (callB (E:=zab 0) rfl h0)).trans ((show zjC _=_ from zbD (zgg v2)).trans ((show zjw _=_ from zaJ v3).trans ((show zi9 _=_ from zaJ v4).trans ((show zjj _=_ from zaJ v5).trans ((show zjd _=_ from zbD (zgg v6)).trans ((show zjk _=_ from zaJ v7).trans ((show zji _=_ from zaJ v8).trans q)))))))
 exact(congrArg (λo=>cu o _) hF).trans rfl
end N62
namespace N62
open PySem L2 L3 PyProof.Rows
abbrev FnG(K:af)(x:Str)(st:Stmt):Prop:=∃(f:ae) (oc:ag) (od:Option ae) (kV doc pm:ag) (an:Option ae) (cdv ct:ag) (osl:Array (Option ag)),bF K a9 x=aa (aa (.ref f))/\K.lookup f=aa ⟨oc,od,.func (bP x x (zbx st) (zbe st) (zae st) .none kV doc pm an cdv ct),osl⟩/\b8 K cdv x=true/\bA K (.ref f)=true
def zaX{K:af}{h:aV}{mg:Str->Option ag}{x:Str}{st:Stmt}{ps:List Str}(X:K.In h)(G:h.Ns a9 mg)(q:FnG K x st)
  (hb:∀(kV doc pm:ag) (an:Option ae) (cdv ct:ag) (us:List ag),us.length=ps.length->bindArgs (bP x x (zbx st) (zbe st) (zae st) .none kV doc pm an cdv ct) ⟨us,[]⟩=pure (ps.zip us):=by intro _ _ _ _ _ _ us hl;first|(obtain⟨_,rfl⟩:=len1 hl;rfl)|(obtain⟨_,_,rfl⟩:=len2 hl;rfl)|(obtain⟨_,_,_,rfl⟩:=len3 hl;rfl)|(obtain⟨_,_,_,_,rfl⟩:=len4 hl;rfl)|(obtain⟨_,_,_,_,_,rfl⟩:=len5 hl;rfl)):∃f fd,Def K mg x st ps f fd:=by
 obtain⟨f,oc,od,kV,doc,pm,an,cdv,ct,osl,a,l,c,k⟩:=q;exact⟨_,_,zd9 l c k,cJ X G a,(zd9 l c k).binds hb⟩
def spLaw(K:af):Sp:=λvs H Q _=>∃(a:ae) (ns:List Int),vs=[.ref a]/\SqL K H a (ns.map V.int)/\ns.length<=63/\∀H',Q (.bl true) H'
def sp_law{K:af}{vs:List V}{H:Hp}{Q:VK}{E:XK}(h:spLaw K vs H Q E):spD K [.b] g_law vs H Q E:=by
 obtain⟨a,ns,rfl,hq,hl,k⟩:=h;refine⟨λ_=>ab,_,_,λ_ _ e=>(nomatch e),.cons (k:=.b) (d:=.lst (ns.map D.int)) ⟨a,_,rfl,hq,Reps.ints ns⟩ .nil,main ns hl,λv F' H' _ r=>?_⟩;cases zhM r;exact k H'
def all_mk{l:gH}{w:aO}{K:af}{h:aV}{mg:Str->Option ag}{fa:ae}(X:K.In h)(G:h.Ns a9 mg)(hfa:mg "law" =aa (.ref fa))
  (a_Book:bF K a9 "Book" =aa (aa (.ref C_Book))) (p1_Book:dj K C_Book iO=true) (p2_Book:dw K C_Book=true) (p3_Book:dZ K C_Book=true) (p4_Book:aZ K (.ref C_Book) "__setattr__" =aa (aa (.builtin "object.__setattr__")))
  (n_Book_top:aZ K (.ref C_Book) "top" =aa ab)
  (m1_Book:eH K C_Book=true) (m2_Book:bA K (.ref C_Book)=true)
  (a_Knot:bF K a9 "Knot" =aa (aa (.ref C_Knot))) (p1_Knot:dj K C_Knot iO=true) (p2_Knot:dw K C_Knot=true) (p3_Knot:dZ K C_Knot=true) (p4_Knot:aZ K (.ref C_Knot) "__setattr__" =aa (aa (.builtin "object.__setattr__")))
  (n_Knot_word:aZ K (.ref C_Knot) "word" =aa ab)
  (n_Knot_branches:aZ K (.ref C_Knot) "branches" =aa ab)
  (m1_Knot:eH K C_Knot=true) (m2_Knot:bA K (.ref C_Knot)=true)
  (a_Sight:bF K a9 "Sight" =aa (aa (.ref C_Sight))) (p1_Sight:dj K C_Sight iO=true) (p2_Sight:dw K C_Sight=true) (p3_Sight:dZ K C_Sight=true) (p4_Sight:aZ K (.ref C_Sight) "__setattr__" =aa (aa (.builtin "object.__setattr__")))
  (n_Sight_most:aZ K (.ref C_Sight) "most" =aa ab)
  (n_Sight_end:aZ K (.ref C_Sight) "end" =aa ab)
  (n_Sight_pairs:aZ K (.ref C_Sight) "pairs" =aa ab)
  (m1_Sight:eH K C_Sight=true) (m2_Sight:bA K (.ref C_Sight)=true)
  (a_15:bF K a9 "cells_of" =aa (aa (.ref f_15))) (l_15:K.lookup f_15=aa ⟨oc_15,od_15,.func (bP "cells_of" "cells_of" (zbx zbA) (zbe zbA) (zae zbA) df_15 kV_15 dc_15 pm_15 an_15 cd_15 ct_15),sl_15⟩) (c_15:b8 K cd_15 "cells_of" =true) (k_15:bA K (.ref f_15)=true)
  (e_15:DfOk K df_15)
  (l_32:FnG K "price_between" zbT)
  (l_34:FnG K "row_across" zcR)
  (l_19:FnG K "first_column" zce)
  (l_20:FnG K "further_column" zbF)
  (l_14:FnG K "cell_ahead_of_turn" za2)
  (l_36:FnG K "stepped" zd3)
  (l_28:FnG K "lowest" zew)
  (l_16:FnG K "ends_in" zd2)
  (l_33:FnG K "prices_at_ends" zbI)
  (l_30:FnG K "pattern_of" zcQ)
  (l_35:FnG K "slips_between" zbZ)
  (l_21:FnG K "hang" zgQ)
  (l_26:FnG K "knots_in_reach" zbB)
  (l_17:FnG K "ends_in_kept" zcg)
  (l_18:FnG K "ends_in_stretch" zbp)
  (l_24:FnG K "kept_by_parts" zb0)
  (l_23:FnG K "kept_by_counts" zbK)
  (l_25:FnG K "kept_by_pieces" zbH)
  (l_31:FnG K "places_of" zdf)
  (l_38:FnG K "windows" zd6)
  (l_37:FnG K "times_of_pieces" zbr)
  (l_29:FnG K "number_shared" zbY)
  (l_22:FnG K "joined" zep)
  (l_7:FnG K "_law_cell" zdh)
  (l_8:FnG K "_law_digits" zcw)
  (l_9:FnG K "_law_pool" zdb)
  (l_11:FnG K "_law_text" zdi)
  (l_10:FnG K "_law_slipped" zci)
  (l_13:FnG K "_law_turned" zcs)
  (l_12:FnG K "_law_told" zde)
  (a_27:bF K a9 "law" =aa (aa (.ref f_27))) (l_27:K.lookup f_27=aa ⟨oc_27,od_27,.func (bP "law" "law" (zbx zeH) (zbe zeH) (zae zeH) .none kV_27 dc_27 pm_27 an_27 cd_27 ct_27),sl_27⟩) (c_27:b8 K cd_27 "law" =true) (k_27:bA K (.ref f_27)=true)
  (a_4:aZ K (.ref C_Sight) "__init__" =aa (aa (.ref f_4))) (l_4:K.lookup f_4=aa ⟨oc_4,od_4,.func (bP "__init__" "Sight.__init__" (zbx zau) (zbe zau) (zae zau) .none kV_4 dc_4 pm_4 an_4 cd_4 ct_4),sl_4⟩) (c_4:b8 K cd_4 "Sight.__init__" =true) (k_4:bA K (.ref f_4)=true) (i_4:c8 K (.ref f_4)=true)
  (a_5:aZ K (.ref C_Sight) "come" =aa (aa (.ref f_5))) (l_5:K.lookup f_5=aa ⟨oc_5,od_5,.func (bP "come" "Sight.come" (zbx za3) (zbe za3) (zae za3) .none kV_5 dc_5 pm_5 an_5 cd_5 ct_5),sl_5⟩) (c_5:b8 K cd_5 "Sight.come" =true) (k_5:bA K (.ref f_5)=true) (i_5:c8 K (.ref f_5)=true)
  (a_6:aZ K (.ref C_Sight) "tell" =aa (aa (.ref f_6))) (l_6:K.lookup f_6=aa ⟨oc_6,od_6,.func (bP "tell" "Sight.tell" (zbx za4) (zbe za4) (zae za4) .none kV_6 dc_6 pm_6 an_6 cd_6 ct_6),sl_6⟩) (c_6:b8 K cd_6 "Sight.tell" =true) (k_6:bA K (.ref f_6)=true) (i_6:c8 K (.ref f_6)=true)
  (a_0:aZ K (.ref C_Book) "__init__" =aa (aa (.ref f_0))) (l_0:K.lookup f_0=aa ⟨oc_0,od_0,.func (bP "__init__" "Book.__init__" (zbx zay) (zbe zay) (zae zay) .none kV_0 dc_0 pm_0 an_0 cd_0 ct_0),sl_0⟩) (c_0:b8 K cd_0 "Book.__init__" =true) (k_0:bA K (.ref f_0)=true) (i_0:c8 K (.ref f_0)=true)
  (a_2:aZ K (.ref C_Book) "put" =aa (aa (.ref f_2))) (l_2:K.lookup f_2=aa ⟨oc_2,od_2,.func (bP "put" "Book.put" (zbx zbu) (zbe zbu) (zae zbu) .none kV_2 dc_2 pm_2 an_2 cd_2 ct_2),sl_2⟩) (c_2:b8 K cd_2 "Book.put" =true) (k_2:bA K (.ref f_2)=true) (i_2:c8 K (.ref f_2)=true)
  (a_1:aZ K (.ref C_Book) "near" =aa (aa (.ref f_1))) (l_1:K.lookup f_1=aa ⟨oc_1,od_1,.func (bP "near" "Book.near" (zbx zba) (zbe zba) (zae zba) .none kV_1 dc_1 pm_1 an_1 cd_1 ct_1),sl_1⟩) (c_1:b8 K cd_1 "Book.near" =true) (k_1:bA K (.ref f_1)=true) (i_1:c8 K (.ref f_1)=true)
  (a_3:aZ K (.ref C_Knot) "__init__" =aa (aa (.ref f_3))) (l_3:K.lookup f_3=aa ⟨oc_3,od_3,.func (bP "__init__" "Knot.__init__" (zbx zax) (zbe zax) (zae zax) .none kV_3 dc_3 pm_3 an_3 cd_3 ct_3),sl_3⟩) (c_3:b8 K cd_3 "Knot.__init__" =true) (k_3:bA K (.ref f_3)=true) (i_3:c8 K (.ref f_3)=true)
  (z_abs:bF K a9 "abs" =aa ab)
  (z_int:bF K a9 "int" =aa ab)
  (z_len:bF K a9 "len" =aa ab)
  (z_max:bF K a9 "max" =aa ab)
  (z_min:bF K a9 "min" =aa ab)
  (z_range:bF K a9 "range" =aa ab)
  (z_sorted:bF K a9 "sorted" =aa ab)
  (z_sum:bF K a9 "sum" =aa ab)
  (z_tuple:bF K a9 "tuple" =aa ab)
  (q_PUT:bF K a9 "PUT" =aa (aa (.int 0 tk_PUT)))
  (q_LEFT:bF K a9 "LEFT" =aa (aa (.int 1 tk_LEFT)))
  (q_EXCHANGED:bF K a9 "EXCHANGED" =aa (aa (.int 2 tk_EXCHANGED)))
  (q_TURNED:bF K a9 "TURNED" =aa (aa (.int 3 tk_TURNED)))
  (q_PLAIN_PRICES:bF K a9 "PLAIN_PRICES" =aa (aa (.ref ua_PLAIN_PRICES))) (l_PLAIN_PRICES:K.lookup ua_PLAIN_PRICES=aa ⟨.type "tuple",ab,.seq #[.int 1 t0_PLAIN_PRICES,.int 1 t1_PLAIN_PRICES,.int 1 t2_PLAIN_PRICES,.int 0 t3_PLAIN_PRICES] un_PLAIN_PRICES,#[]⟩) :
  ∃fd:bx,(∀(s:ai) (v:ag),BindsTo s fd ⟨[v],[]⟩ [("_law_script",v)])/\∀base:aV,K.In base->base.Ns a9 mg->FnOk l.prog w K mg base CX0 8 fa fd ["_law_script"] (spLaw K):=by
 have e:=hfa.symm.trans (cJ X G a_27)
 cases e;have DC_Book:ClsD K mg "Book" ["top"] C_Book:=⟨a_Book,cJ X G a_Book,⟨p1_Book,p2_Book,p3_Book,p4_Book⟩,λf hf=>by
  simp only[aE,dE,or_false]at hf;rcases hf with rfl
  ·exact n_Book_top⟩
 have DC_Knot:ClsD K mg "Knot" ["word","branches"] C_Knot:=⟨a_Knot,cJ X G a_Knot,⟨p1_Knot,p2_Knot,p3_Knot,p4_Knot⟩,λf hf=>by
  simp only[aE,dE,or_false]at hf;rcases hf with rfl|rfl
  ·exact n_Knot_word
  ·exact n_Knot_branches⟩
 have DC_Sight:ClsD K mg "Sight" ["most","end","pairs"] C_Sight:=⟨a_Sight,cJ X G a_Sight,⟨p1_Sight,p2_Sight,p3_Sight,p4_Sight⟩,λf hf=>by
  simp only[aE,dE,or_false]at hf;rcases hf with rfl|rfl|rfl
  ·exact n_Sight_most
  ·exact n_Sight_end
  ·exact n_Sight_pairs⟩
 obtain⟨T_15,o_15,n_15,rfl,h1_15,h2_15⟩:=e_15;have F_15:FunA K "cells_of" "cells_of" zbA f_15 _:=⟨⟨oc_15,od_15,.ref T_15,kV_15,dc_15,pm_15,an_15,cd_15,ct_15,sl_15,rfl,l_15,c_15⟩,k_15⟩
 have D_15:DefD K mg "cells_of" zbA ["P","T","prices","free"] _ _:=⟨F_15,cJ X G a_15,(λs us KI hl=>by rw[aU]at hl ⊢;obtain⟨_,_,_,_,rfl⟩:=len4 hl;exact gO KI rfl h1_15 h2_15 rfl rfl),(λs us KI hl=>by obtain⟨_,_,_,rfl⟩:=len3 (show us.length=3 from ko ((am (as:=us) (bs:=[ii false])).symm.trans hl));exact gO KI rfl h1_15 h2_15 rfl rfl),⟨(λs us ws KI hl=>by
  obtain⟨e1,e2,e3⟩:=gK_shape hl;rw[e3];obtain⟨_,_,_,rfl⟩:=len3 e1;obtain⟨_,rfl⟩:=len1 e2;exact gO KI rfl h1_15 h2_15 rfl rfl),λr rz=>gK_rel r rz⟩⟩
 have F_27:=zd9 (st:=zeH) l_27 c_27 k_27;have F_4:=zd9 (st:=zau) l_4 c_4 k_4;have D_4:MakeD K "Sight" zau "Sight.__init__" ["self","most"] _ _:=⟨.of F_4,λC h=>by cases zbi a_Sight h;exact⟨m1_Sight,a_4,i_4,m2_Sight⟩,F_4.binds (ps:=["self","most"]) λ_ _ _ _ _ _ us hl=>by obtain⟨_,_,rfl⟩:=len2 hl;rfl⟩
 have F_5:=zd9 (st:=za3) l_5 c_5 k_5;have D_5:MethD K "Sight" "come" za3 "Sight.come" ["self","price"] _ _:=⟨.of F_5,λC h=>by cases zbi a_Sight h;exact⟨a_5,i_5,k_5⟩,F_5.binds (ps:=["self","price"]) λ_ _ _ _ _ _ us hl=>by obtain⟨_,_,rfl⟩:=len2 hl;rfl⟩
 have F_6:=zd9 (st:=za4) l_6 c_6 k_6;have D_6:MethD K "Sight" "tell" za4 "Sight.tell" ["self"] _ _:=⟨.of F_6,λC h=>by cases zbi a_Sight h;exact⟨a_6,i_6,k_6⟩,F_6.binds (ps:=["self"]) λ_ _ _ _ _ _ us hl=>by obtain⟨_,rfl⟩:=len1 hl;rfl⟩
 have F_0:=zd9 (st:=zay) l_0 c_0 k_0;have D_0:MakeD K "Book" zay "Book.__init__" ["self"] _ _:=⟨.of F_0,λC h=>by cases zbi a_Book h;exact⟨m1_Book,a_0,i_0,m2_Book⟩,F_0.binds (ps:=["self"]) λ_ _ _ _ _ _ us hl=>by obtain⟨_,rfl⟩:=len1 hl;rfl⟩
 have F_2:=zd9 (st:=zbu) l_2 c_2 k_2;have D_2:MethD K "Book" "put" zbu "Book.put" ["self","W"] _ _:=⟨.of F_2,λC h=>by cases zbi a_Book h;exact⟨a_2,i_2,k_2⟩,F_2.binds (ps:=["self","W"]) λ_ _ _ _ _ _ us hl=>by obtain⟨_,_,rfl⟩:=len2 hl;rfl⟩
 have F_1:=zd9 (st:=zba) l_1 c_1 k_1;have D_1:MethD K "Book" "near" zba "Book.near" ["self","W","most"] _ _:=⟨.of F_1,λC h=>by cases zbi a_Book h;exact⟨a_1,i_1,k_1⟩,F_1.binds (ps:=["self","W","most"]) λ_ _ _ _ _ _ us hl=>by obtain⟨_,_,_,rfl⟩:=len3 hl;rfl⟩
 have F_3:=zd9 (st:=zax) l_3 c_3 k_3;have D_3:MakeD K "Knot" zax "Knot.__init__" ["self","word"] _ _:=⟨.of F_3,λC h=>by cases zbi a_Knot h;exact⟨m1_Knot,a_3,i_3,m2_Knot⟩,F_3.binds (ps:=["self","word"]) λ_ _ _ _ _ _ us hl=>by obtain⟨_,_,rfl⟩:=len2 hl;rfl⟩
 have T:Txt K mg:={ m_abs:=cD X G z_abs,m_int:=cD X G z_int,m_len:=cD X G z_len,m_max:=cD X G z_max,m_min:=cD X G z_min,m_range:=cD X G z_range,m_sorted:=cD X G z_sorted,m_sum:=cD X G z_sum,m_tuple:=cD X G z_tuple,g_PUT:=⟨_,cJ X G q_PUT,⟨_,rfl⟩⟩,g_LEFT:=⟨_,cJ X G q_LEFT,⟨_,rfl⟩⟩,g_EXCHANGED:=⟨_,cJ X G q_EXCHANGED,⟨_,rfl⟩⟩,g_TURNED:=⟨_,cJ X G q_TURNED,⟨_,rfl⟩⟩,u_PLAIN_PRICES:=⟨_,cJ X G q_PLAIN_PRICES,_,_,_,l_PLAIN_PRICES,rfl,rfl,Nat.le_of_ble_eq_true rfl,.cons ⟨_,rfl⟩ (.cons ⟨_,rfl⟩ (.cons ⟨_,rfl⟩ (.cons ⟨_,rfl⟩ (.nil))))⟩,c_Book:=⟨_,DC_Book⟩,c_Knot:=⟨_,DC_Knot⟩,c_Sight:=⟨_,DC_Sight⟩,d_cells_of:=⟨_,_,D_15⟩,d_price_between:=zaX X G l_32,d_row_across:=zaX X G l_34,d_first_column:=zaX X G l_19,d_further_column:=zaX X G l_20,d_cell_ahead_of_turn:=zaX X G l_14,d_stepped:=zaX X G l_36,d_lowest:=zaX X G l_28,d_ends_in:=zaX X G l_16,d_prices_at_ends:=zaX X G l_33,d_pattern_of:=zaX X G l_30,d_slips_between:=zaX X G l_35,d_hang:=zaX X G l_21,d_knots_in_reach:=zaX X G l_26,d_ends_in_kept:=zaX X G l_17,d_ends_in_stretch:=zaX X G l_18,d_kept_by_parts:=zaX X G l_24,d_kept_by_counts:=zaX X G l_23,d_kept_by_pieces:=zaX X G l_25,d_places_of:=zaX X G l_31,d_windows:=zaX X G l_38,d_times_of_pieces:=zaX X G l_37,d_number_shared:=zaX X G l_29,d_joined:=zaX X G l_22,d__law_cell:=zaX X G l_7,d__law_digits:=zaX X G l_8,d__law_pool:=zaX X G l_9,d__law_text:=zaX X G l_11,d__law_slipped:=zaX X G l_10,d__law_turned:=zaX X G l_13,d__law_told:=zaX X G l_12,d_Sight___init__:=⟨_,_,D_4⟩,d_Sight_come:=⟨_,_,D_5⟩,d_Sight_tell:=⟨_,_,D_6⟩,d_Book___init__:=⟨_,_,D_0⟩,d_Book_put:=⟨_,_,D_2⟩,d_Book_near:=⟨_,_,D_1⟩,d_Knot___init__:=⟨_,_,D_3⟩}
 exact⟨bP "law" "law" (zbx zeH) (zbe zeH) (zae zeH) .none kV_27 dc_27 pm_27 an_27 cd_27 ct_27,λs v=>.of_eq rfl,λbase _ _=>(ok_law T (.of F_27)).imp λ_ _ _ _ h=>sp_law h⟩
def walk{l:gH}{q:aI}{loose:List Str}{XP:(Str->Option ag)->aV->Prop}{YP:aO->aV->Prop}{d:DefRec}{K:Params->af}(hn:l.most=aa 63)(hdf:d.params.defaults=[])
  (hY:∀(w:aO) (h:aV),YP w h->(K w.params).In h)
  (F:∀ (w:aO) (mg:Str->Option ag) (fa:ae) (h:aV),(K w.params).In h->h.Ns a9 mg->mg d.name=aa (.ref fa) ->
   ∃fd:bx,(∀(s:ai) (u:ag),BindsTo s fd ⟨[u],[]⟩ [("_law_script",u)])/\∀base:aV,(K w.params).In base->base.Ns a9 mg->FnOk l.prog w (K w.params) mg base CX0 8 fa fd ["_law_script"] (spLaw (K w.params))) :
  jD q loose XP YP l.row.toRowW d [] (λf vs=>jk f vs):=
 L2.walk_of (n:=63) (k:=8) (x:= "_law_script") (CX:=λ_=>CX0) (sp:=λw=>spLaw (K w.params)) hn (by decide) hdf ⟨rfl,by decide,by decide⟩ hY F (λ_ _ a ns hl _ hS=>⟨a,ns,rfl,hS,hl,λ_=>rfl⟩) λ_ _ _ _ _ z=>z
end N62
open PySem PySem.W PyProof.Rows
set_option maxRecDepth 100000 in
set_option maxHeartbeats 0 in
theorem PySem.Challenge.cw_nearfind_k62_whole_slips_made_holds : PySem.Challenge.rw_nearfind_k62_whole_slips_made.Holds := by
 refine holds_law (by kernel_rfl) λsaid=>?_;refine holds_open (q:=TopH.topView) (loose:=TopH.topLoose) (Xt:=λs=>recOk (jZ TopH.topRow) s) (XP:=λ_ _=>True) (Yf:=TopH.topHook.obs) (Ya:=TopH.topHook.val) (YP:=TopH.topHook.says) (N:=12000) TopH.topLeft TopH.topHook.of TopH.topHook.keeps (λ_ _=>trivial) (λ_ _ _ _ _=>trivial) (by rfl) (by rfl) (by rfl) (λs e=>recFacts_of e) (by rfl) (by assumption) (by decide +kernel) ⟨rfl,rfl,rfl,rfl,rfl,by decide +kernel⟩ ?hw ?hc
 (case hw=>w_witness2)
 unfold TopH.topHook
 k_fill
 refine N62.walk (l:=PySem.Challenge.rw_nearfind_k62_whole_slips_made) rfl rfl (λw h Y=>PySem.W.kIn_of Y) ?F
 case F=>
  intro w mg fa h KX G hmg;refine' N62.all_mk KX G hmg ..
  all_goals first|k_is|exact⟨_,_,_,_,_,_,_,_,_,_,by k_is,by k_is,by k_is,by k_is⟩|exact⟨_,_,_,rfl,by k_is,rfl⟩|(unfold L2.RowsK;kernel_rfl)|kernel_rfl|skip
#print axioms PySem.Challenge.cw_nearfind_k62_whole_slips_made_holds


