import PyProof.Rows.All
import KE.KFromBytes
import KE.KIsAll
import KE.KMinBuiltin
import KE.KRevIter
import KE.KSortTup
import KE.KTabLook
import Wide.FinOn
import PySem.Challenge.RW_nearfind_k61_whole_one_text
open Array renaming length_toList->aG,getElem_mem->eh,getElem?_toList->oe,mem_toList_iff->ol,toList_extract->om,getElem_extract->oJ,getElem_toList->oP,toList_append->o9,append_empty->Ad,toList_reverse->Au,getElem?_eq_some_iff->AD,getElem?_eq_getElem->AI,toList_zip->A8,size_extract->BJ,perm_iff_toList_perm->BR,toList_setIfInBounds->BS,toList_push->BZ,replicate->Cv,ext'->CY,reverse_empty->C9,toList->Dg
open Bool renaming false_ne_true->aK,false_eq_true->ei,and_eq_true->eX,eq_iff_iff->on,and_false->oF,false_and->An,and_true->A6,or_false->A7,not_true->BU,true_and->C7,or_eq_true_iff->Da,true_or->Dh,eq_false_iff->Dv,not_eq_true'->Dw,or_eq_true->DX,and_self->Eb
open Classical renaming byContradiction->Ek,propDecidable->EW
open Decidable renaming byContradiction->oQ
open Eq renaming trans->o6
open False renaming elim->iG
open ForInStep renaming yield->Bn
open Int renaming eq_ofNat_of_zero_le->eu,emod_lt_of_pos->iZ,emod_nonneg->i6,natCast_nonneg->og,toNat_natCast->oz,mul_le_mul_of_nonneg_right->Ae,le_refl->Aj,zero_add->Ao,add_zero->Bo,le_trans->Bp,natCast_ediv->DN,ediv_one->EA,one_mul->EZ
open List renaming range->ak,mem_cons_of_mem->aq,length_map->ar,getElem?_map->av,mem_cons_self->aw,map_cons->ay,replicate->aB,mem_cons->aC,getElem?_eq_getElem->aD,mem_append_right->aE,length_cons->aI,length_append->aJ,mem_singleton->aL,getElem?_eq_some_iff->aQ,size_toArray->aU,nodup_cons->aW,getElem?_range->a6,mem_map->a8,mem_append->ed,getD_eq_getElem?_getD->ee,append_nil->ek,mem_append_left->em,drop_eq_getElem_cons->ey,getElem?_set->eA,mem_range->eD,append_assoc->eG,length_range->eH,map_append->eI,all_eq_true->eM,length_take->eN,not_mem_nil->eO,map_congr_left->eV,lookup_cons->eY,map_map->e7,nodup_append->e8,getElem?_append_left->ia,range'->ic,zip_cons_cons->ie,map_nil->ij,getElem?_eq_none->iq,lookup->ir,mem_of_getElem?->iy,nil_append->iz,range_succ->iA,zipWith_cons_cons->iF,length_drop->iN,getElem?_append_right->iP,take_of_length_le->iQ,extract_eq_drop_take->iW,length_singleton->iY,flatMap_cons->i4,length_replicate->oh,foldl_cons->oo,getElem?_take_of_lt->oq,mem_filter->ot,eq_nil_of_length_eq_zero->oE,zipWith->oH,cons_lt_cons_iff->oK,sum_cons->oN,reverse_cons->oO,mem_iff_getElem->oR,pairwise_iff_getElem->oS,findIdx?_eq_some_iff_getElem->oU,length->oV,getElem?_replicate->Ab,all_cons->Ac,length_nil->Af,mem_filterMap->Ag,mem_range'_1->Am,length_filter_le->Ap,cons_append->Av,pairwise_append->Aw,range_eq_range'->Ax,flatMap_append->AG,length_reverse->AH,getElem?_cons_succ->AS,pairwise_singleton->AT,drop_eq_nil_of_le->AY,find?_cons_of_neg->AZ,find?_cons_of_pos->A3,drop_length->Ba,ext_getElem->Bb,take_length->Bc,zipIdx_cons->Be,perm_append_comm->Bi,take_append_drop->Bj,forIn_cons->Br,getElem?_zipIdx->Bs,length_zip->Bt,filterMap_cons->BA,take_succ_cons->BB,drop_zero->BE,forIn_nil->BF,getElem?_drop->BN,pairwise_cons->BO,ext_getElem?->B2,getLast?_eq_getElem?->Ca,getLast?_eq_none_iff->Cb,getLast?_eq_some_iff->Cc,getElem_map->Ce,isEmpty_nil->Cf,map_reverse->Cg,map_snd_zip->Ch,mem_flatMap->Ci,range'_succ->Cj,filter_cons_of_neg->Cs,filter_cons_of_pos->Ct,of_mem_zip->Cw,range_zero->Cy,getElem?_set_self->CH,map_id->CI,countP_mono_left->CM,dropLast_eq_take->CN,getElem?_reverse->CO,getElem?_toArray->CP,nodup_nil->CQ,pairwise_reverse->CS,set_append_right->CT,dropLast_concat->C0,getElem?_set_ne->C1,range'_append_1->C3,perm_singleton->Dc,filterMap_map->Dk,length_range'->Dl,map_singleton->Dm,foldl_append->Dx,getElem_drop->Dy,getLast?_map->Dz,pairwise_map->DA,reverse_perm->DB,not_lt->DJ,countP_cons->DO,getElem_mem->DP,map_flatMap->DQ,nil_sublist->DR,count_cons->DY,filter_nil->DZ,length_set->D0,zipIdx_nil->D1,drop_drop->D8,take_zero->D9,drop_nil->Ed,take_nil->Ee
open List.Pairwise renaming nil->FF
open List.Perm renaming eq_of_pairwise->EB
open List.cons renaming injEq->Bq,inj->C8
open Nat renaming le_refl->aj,le_trans->aH,zero_le->aM,ne_of_lt->aP,lt_of_lt_of_le->aT,zero_add->aV,le_of_lt->eE,lt_irrefl->eQ,add_sub_cancel_left->iu,le_add_right->iO,min_eq_left->i7,le_succ->oj,sub_self->ou,add_sub_cancel->oI,add_lt_of_lt_sub->oT,testBit_or->oW,sub_zero->o8,add_le_add_left->Aa,testBit_and->Ah,le_of_eq->Aq,testBit_shiftLeft->Ar,testBit_two_pow_sub_one->At,eq_of_testBit_eq->Ay,lt_succ_self->Az,min_le_right->AA,add_comm->AM,lt_of_le_of_lt->AN,lt_of_not_le->Bf,zero_testBit->Bg,add_zero->Bu,ne_of_gt->Bv,testBit_two_pow->BC,lt_succ_of_lt->B3,not_lt->Cd,lt_of_succ_lt_succ->CJ,or_zero->CK,pow_le_pow_right->C4,min_self->Do,sub_add_cancel->Dp,lt_of_succ_lt->DC,min_eq_right->DS,succ_ne_self->DT,min_le_left->D2,two_pow_pos->D3,add_assoc->Ef,testBit->E5
open Nat.succ renaming inj->Dq
open Ne renaming symm->iM
open Option renaming some->aa,none->ab,bind_some->a5,bind->ez,map_eq_some_iff->iR,map_some->i8,join_some->Bh,getD_none->DU,none->E6,map->Fb
open Option.some renaming inj->aO,injEq->oA
open Or renaming inr->ef,inl->eS
open Prod.mk renaming inj->E7
open PyProof.Rows renaming wpS_bind->az,wpS_pure->aF,pendingOf->a9,slot_tuple_getitem->er,callWith_type1->eK,wpS_forRange->im,callWith_builtin1->Bw,callWith_kw->EC
open PyProof.Rows.SortSt renaming mk'->AQ
open PySem renaming wpAny_bind->ac,Value->af,Shared->ag,Addr->ah,wpAny_pure->am,wpAny->au,Program->aN,World->aR,sizeLine->aS,Heap->aX,mainGlobals->aY,starEach->aZ,Around->a4,bootBuiltins->eg,compareOp->ej,foldedSetIterable->eP,FuncData->eR,mem_of_lookup->eW,attributeBase->eZ,wpAny_holding->e6,sizeLine_eq->ih,wpAny_mono->ip,assignEach->iE,wpAny_Call_Name_kw->iJ,strKind->oC,call->C6,Within->Ds
open PySem.Around renaming under_plainId->eT,under->Df
open PySem.AutoSeq1 renaming wpAny_loadPart'->AJ
open PySem.Builtin.Builtins renaming bindParams->BK
open PySem.Builtin.Frozenset renaming updateFrom->D6,newClass->Ec,addrOf->Ey,sizeOf->Ez,slot0->ET
open PySem.Builtin.List renaming listExtendWith->oG,listSameRef->oZ,listLengthHint->As,listTooLong->AK,listUpdate->EU,listTouch->EX
open PySem.Builtin.Range renaming rangeSize->EV
open PySem.Builtin.Slice renaming slicePlaces->e9,sliceAdjust->oi,sliceApplied->oM,sliceFields->B8,slicePartIndex->D7
open PySem.Builtin.SmallTypes renaming nextOf->eJ,ownedTupleIsFree->i0,ownedTupleHandOut->AL
open PySem.Builtin.Str renaming strSliceIndices->i5,occurrences->AR
open PySem.Builtin.Tuple renaming tupleExact->eL,tupleItemsOf->AE,tupleIsExact->BV,tupleHashOf->Ej
open PySem.Calls renaming spliced_cons->BL,Name_function_global->BW,spliced_nil->B0,call_function_entry->B9,callWith_builtin->CF,evalArgs_plain->CZ
open PySem.Code renaming isFrame->Di,frames->EY
open PySem.Data renaming cell->BM,fields->CG,seq->DM
open PySem.DictEntry renaming refKey->FK
open PySem.EqMixed renaming eq_bool_str->El,eq_str_bool->Em,ne_bool_str->Eo,ne_str_bool->Ep,eq_int_str->ED,eq_str_int->EE,ne_int_str->EF,ne_str_int->EG
open PySem.EqNone renaming eq_bool_none->Er,eq_none_bool->Es,eq_none_none->Et,ne_bool_none->Eu,ne_none_bool->Ev,ne_none_none->Ew,eq_int_none->EH,eq_none_int->EI,eq_none_str->EJ,eq_str_none->EK,ne_int_none->EL,ne_none_int->EM,ne_none_str->EN,ne_str_none->EO
open PySem.Expr renaming Call->Fq
open PySem.F renaming plain_min_loop->ig,entry_min_loop->Ak,args_tuple_add_2->AO,entry_tuple_add->AU,plainAttrs_list->AV,plainAttrs_str->A4,slot_tuple_add->A5,slot_dict_get->Bk,slot_list_append->Ck,slot_str_getitem->Cm,slot_tuple_index->Cn,type_list_append->Co,plainAttrs_dict->Cu,type_dict_get->CU
open PySem.Heap renaming get?_push_of_some->ai,get?_push_size->ax,lt_size->aA,get?_update_other->ib,size_push->ii,get?_update_self->iX,SameBut->o7,get?_push_ne->AW,size_update->A9,get?_update_ne->Db,ExtBut->DI
open PySem.Heap.DictOf renaming new->FP
open PySem.Heap.IsList renaming push->FL
open PySem.Heap.IsSliceOf renaming new->Dj
open PySem.Heap.IsTuple renaming push->FC
open PySem.Heap.SameBut renaming update->AF
open PySem.IsL renaming update->FM
open PySem.ItemsOf renaming nil->E4
open PySem.NameKind renaming free->eF,cell->i9
open PySem.Obj renaming mapSeq->eU,putSet->C5,data_mapFields->Dr
open PySem.Paired renaming length->Eg
open PySem.PassesOwn renaming never->Cz
open PySem.SeqAt renaming EqAt->AC
open PySem.SeqAt.EqAt renaming of_refs->BQ,same->CD,int_str->Dt,str_int->Du,bool_bool->Fc,bool_none->Fd,none_bool->Fe,bool_int->Fh,bool_str->Fi,int_bool->Fj,int_none->Fk,none_int->Fl,none_str->Fm,str_bool->Fn,str_none->Fo,int_int->Ft,str_str->Fu
open PySem.SeqAt.RcAt renaming lists_lengths->ER,tuples->FJ,lists->FN
open PySem.SeqAt.RcNeAt renaming lists_lengths->Ei,tuples->Fp,lists->Fv
open PySem.SetTable renaming below->oY
open PySem.SetTable.below renaming go->DG
open PySem.Shared renaming heap->BI,TypeIs->BX
open PySem.Spec renaming bitNot->iU,bitAnd->B5,bitOr->DV
open PySem.Str renaming ofString->iC,length->Bx,join->ES,empty->Fw
open PySem.StrLaws renaming strSliceIndices_plain->Bz,found_one->DH
open PySem.Txt renaming stripChars->BH,join->Cq,slice_le->Cr,sliceBy->DK,slice->Ea,find3->Fy
open PySem.Value renaming ref->ea,str->en,none->ox,type->oy,int->Bm,bool->By,isStrOf->BY,isStrOf_shape->De,float->DL,bytes->Fa
open PySem.W renaming Frag->ae,nsIn->ik,findIn->iw,fnOf->iH,kia_one->iI,emptyDict->iV,keepIn->i3,instObj->ow,mg_of->oB,codeIn->oX,plainGet->AB,hasDictIn->AX,plainGet_of->BD,lookIn->BG,callWith_K->BP,methodObj->B6,plainOver->B7,isFn->Cp,binds_K->CA,makesIn->CB,takerIn->CC,cellsFrom_some->CL,kitOne->CV,methodCall_KW->CW,kitx_dict->DE,kitx_list->DF,handedIn->DW,OpenLaw->D4,kat_nil->D5,WalkO->Eh
open PySem.W.Looks renaming here->Fs
open PySem.W.RowW renaming records->EQ
open PySem.W.WData renaming int->FB
open PySem.W.WShape renaming has->Ff
open PySem.Walks renaming list->Fg
open PySem.Within renaming cons->FH
open Std.Legacy.Range renaming forIn_eq_forIn_range'->Dd
open Sum renaming inr->a7,inl->Bl
open Sum.inr renaming inj->E8
open True renaming intro->Ai
set_option compiler.extract_closed false
set_option bootstrap.genMatcherCode false
set_option genSizeOfSpec false
set_option maxRecDepth 100000
noncomputable section
namespace TopH
open PySem PySem.W PyProof.Rows
local macro_rules | `(tactic| o_head $H)=>`(tactic| (contradiction;exact $H))
set_option maxHeartbeats 0 in
noncomputable def topHook:Hook:=by
 refine(fun(_:False->PySem.Challenge.rw_nearfind_k61_whole_one_text.row.Holds)=>?H) ?g;rotate_left;intro _
 k_head
abbrev topProg:aN:=PySem.Challenge.pw_nearfind_k61_whole_one_text
noncomputable def lu:aN:=view topProg [75]
noncomputable def ls:List Str:=["PUT","LEFT","EXCHANGED","TURNED","cells_of","row_across","first_column","further_column","cell_ahead_of_turn","stepped","lowest","CLASSES_USED","SIGNS_USED","PLACE_IN_PRICES","row_between","leads","row_price","last_step","comes_last","can_stand","is_step","is_done","step_price","Sight","ends_in","nearest_in","stretch_at","prices_at_ends","prices_by_length","first_lowest","Bits","fitting_bits","first_rows","further_rows","slips_of_whole","bits_up_to","Finder","FindError","NoPattern","LETTERS","MOST_CLASSES","PLAIN_PRICES","pattern_of","show_pattern","show_class","read_pattern","end_of_class","read_class","is_class","ends_in_kept","ends_in_stretch","kept_by_parts","kept_by_counts","kept_by_pieces","places_of","windows","times_of_pieces","number_shared","joined","_law_cell","_law_digits","_law_pool","_law_text","_law_alike","_law_led"].map iC
abbrev gm:RowW:=OpenRow.toRowW (OpenLaw.row PySem.Challenge.rw_nearfind_k61_whole_one_text)
abbrev lr(w:aR):Prop:=(openEnds treeTable topProg w 12000).map (fun s=>(openSeen lu ls (importedModules topProg.main.body) (fun s=>recOk (EQ gm) s) true s,topHook.obs s))=aa (openGood lu ls,topHook.val w)
theorem Xc{b:String->Option Builtin}{p:aN}{w:aR}{m:Nat}{a:Option af}{f:Flow}{c:Code}{q:Pos}{z:ag}:∀ {n:Nat} {s:ag} {t:Thread},segRun b p w m a 0 n s t=aa (f,z,c,q)->topRun b p w m a n s t=aa z
 | 0,_,_,h=>nomatch h
 | n+1,s,t,h=>by
  have e:through t=(endAt 0 t).isSome:=by
   obtain⟨u,_,_,k⟩:=t;cases k <;> cases u <;> (try rfl);rename_i x;cases x <;> rfl
  unfold segRun at h;unfold topRun;rw[e];revert h;cases endAt 0 t with
  | some x=>intro h;cases h;rfl
  | none=>
   cases stepOk m a t
   ·exact nofun
   ·cases step (denote b) p w s t
    ·exact Xc
    ·exact nofun
theorem Xf{m n:Nat}{S:SharedT}(z:ag)(h:(Fast.tw10110043849684766642 Fast.tw14364793385576792824 p w m a 0 n S t).map (fun r=>r.2.1.abs)=aa z):topRun treeTable p w m a n S.abs t=aa z:=by
 obtain⟨⟨f,r,c,q⟩,k,e⟩:=iR.mp h;cases e;rw[<- Fast.te10110043849684766642,<- Fast.te14364793385576792824] at k;exact Xc (segRun_of k)
noncomputable def z9(p:aN)(a:ag)(r:Option ag):Option ag:=match a.heap.isNs aY && a.gens.size == 0 with
 | true=>r.bind fun s=>match staticsOk (importedModules p.main.body) a.heap s.heap && namesBound p s.heap && gensDone s && laidKept a.heap s.heap with
  | true=>aa s
  | false=>ab
 | false=>ab
theorem gen{b:String->Option Builtin}{N:Nat}{a:ag}{c:Type}{g:ag->c}{v:c}(d:fencedOpening b p w N=aa a)(e:∀ s,r=aa s->topRun b p w a.heap.objs.size (a.heap.nsMap aY "__annotations__") N a (topStub p)=aa s)(k:(z9 p a r).map g=aa v):(openEnds b p w N).map g=aa v:=by
 cases r with
 | none=>unfold z9 at k;split at k <;> cases k
 | some s=>
  unfold openEnds;rw[d,a5];unfold topFrom;rw[e s rfl];exact k
def bt:List Obj->Nat->BT->BT
 | [],_,t=>t
 | o :: l,n,t=>bt l (n+1) (t.ins n o)
noncomputable def LR(w:aR):SharedT:=match fencedOpening treeTable topProg w 12000 with
 | some s=>⟨bt s.heap.objs.toList 0 .nil,s.heap.objs.size,s.heap.life,s.gens,s.drawn,s.toks,s.os⟩
 | none=>⟨.nil,0,{},#[],{},1,{}⟩
theorem Xg(w:aR):fencedOpening treeTable topProg w 12000=aa (LR w).abs:=by kernel_rfl
theorem LP(w:aR):lr (w.withFollow "special-get-raises" false):=gen (Xg _) Xf (by kernel_rfl)
theorem LQ(w:aR):lr (w.withFollow "special-get-raises" true):=gen (Xg _) Xf (by kernel_rfl)
theorem LO:∀ w:aR,lr w:=byRow2 "special-get-raises" (P:=lr) LP LQ
set_option maxHeartbeats 0 in
theorem topOpen:∃ d:DefRec,d.params.defaults=[]/\d.name = "law" /\ (WalkO lu ls (fun _ _=>True) topHook.says gm d [] (fun f c=>C6 f c)->PySem.Challenge.rw_nearfind_k61_whole_one_text.Holds):=by
 refine' ⟨_,?a,?n,fun g=>?h⟩
 case h=>
  refine holds_law (by kernel_rfl) fun b=>?_;refine holds_open (q:=lu) (loose:=ls) (Xt:=fun s=>recOk (EQ gm) s) (XP:=fun _ _=>True) (Yf:=topHook.obs) (Ya:=topHook.val) (YP:=topHook.says) (N:=12000) LO topHook.of topHook.keeps (fun _ _=>trivial) (fun _ _ _ _ _=>trivial) (by rfl) (by rfl) (by rfl) (fun s e=>recFacts_of e) (by rfl) (by assumption) (by decide +kernel) ⟨rfl,rfl,rfl,rfl,rfl,by decide +kernel⟩ ?hw g
  w_witness2
 all_goals rfl
end TopH
set_option Elab.async false
set_option linter.all false
namespace L2
open PySem PySem.Spec PyProof.Rows
abbrev yM:=Sum Int Str
noncomputable def mP:yM->af->Bool
 |.inl k,v=>Value.isInt k v
 |.inr x,v=>BY x v
def Sx(w:aR):yM->Int
 |.inl k=>hashInt k
 |.inr x=>hashStr w x
theorem ui:∀{k:yM} {v:af},mP k v=true->(∃i t,k=Bl i/\v=Bm i t)\/(∃x t,k=a7 x/\v=en x t)
 |.inl i,v,h=>by
  obtain⟨t,e⟩:=Value.isInt_shape (k:=i) (v:=v) h;exact .inl ⟨i,t,rfl,e⟩
 |.inr x,v,h=>by
  obtain⟨t,e⟩:=De (x:=x) (v:=v) h;exact .inr ⟨x,t,rfl,e⟩
theorem Sy(a b:Int):decide ((Bl a:yM)=Bl b)=(a==b):=by
 by_cases e:a=b
 ·subst e;simp
 ·have h:¬ (Bl a:yM)=Bl b:=λq=>e (Sum.inl.inj q);rw[decide_eq_false h];exact(beq_eq_false_iff_ne.mpr e).symm
theorem SB(a b:Str):decide ((a7 a:yM)=a7 b)=decide (a=b):=by
 by_cases e:a=b
 ·subst e;simp
 ·have h:¬ (a7 a:yM)=a7 b:=λq=>e (E8 q);rw[decide_eq_false h,decide_eq_false e]
theorem Sz(a:Int)(b:Str):decide ((Bl a:yM)=a7 b)=false:=decide_eq_false (λq=>nomatch q)
theorem SA(a:Str)(b:Int):decide ((a7 a:yM)=Bl b)=false:=decide_eq_false (λq=>nomatch q)
def uk(prog:aN)(w:aR):PySem.KeyKind prog w yM where
 is:=mP
 hash:=Sx w
 inj:=λv a b g f=>by
  rcases ui g with ⟨i,t,rfl,rfl⟩|⟨x,t,rfl,rfl⟩
  ·rcases ui f with ⟨j,u,rfl,e⟩|⟨y,u,rfl,e⟩
   ·injection e with c _;rw[c]
   ·exact nomatch e
  ·rcases ui f with ⟨j,u,rfl,e⟩|⟨y,u,rfl,e⟩
   ·exact nomatch e
   ·injection e with c _;rw[c]
 byValue:=λk v h=>by
  rcases ui h with ⟨i,t,rfl,rfl⟩|⟨x,t,rfl,rfl⟩ <;> rfl
 pyHash:=λd h=>by
  rcases ui d with ⟨i,t,rfl,rfl⟩|⟨x,t,rfl,rfl⟩
  ·exact wpAny_pyHash_int h
  ·exact wpAny_pyHash_str h
 eqBool:=λl d h=>by
  rcases ui l with ⟨i,t,rfl,rfl⟩|⟨x,t,rfl,rfl⟩
  ·rcases ui d with ⟨j,u,rfl,rfl⟩|⟨y,u,rfl,rfl⟩
   ·rw[Sy]at h;exact wpAny_eqBool_int h
   ·rw[Sz]at h;exact Dt i t y u _ _ _ _ h
  ·rcases ui d with ⟨j,u,rfl,rfl⟩|⟨y,u,rfl,rfl⟩
   ·rw[SA]at h;exact Du x t j u _ _ _ _ h
   ·rw[SB]at h;exact wpAny_eqBool_str h
 «strs» :=λk x t v h=>by
  rcases ui h with ⟨i,u,rfl,e⟩|⟨y,u,rfl,e⟩
  ·exact nomatch e
  ·injection e with c _;subst c;cases v <;> rfl
inductive V where
 |non|bl (b:Bool)|int (i:Int)|str (x:Str)|byt (b:Array UInt8)|flt (b:UInt64)|ref (a:ah)|ty (n:String)
 deriving DecidableEq
def RelV:V->af->Prop
 |.non,u=>u=ox
 |.bl b,u=>u=By b
 |.int i,u=>∃t,u=Bm i t
 |.str x,u=>∃t,u=en x t
 |.byt b,u=>∃t,u=Fa b t
 |.flt b,u=>∃t,u=DL b t
 |.ref a,u=>u=ea a
 |.ty n,u=>u=oy n
abbrev Vals:List V->List af->Prop:=Paired RelV
theorem Vals.length{xs:List V}{us:List af}(r:Vals xs us):xs.length=us.length:=Eg r
theorem Vals.get:∀{xs:List V} {us:List af} {i:Nat} {x:V},Vals xs us->xs[i]? =aa x->∃u,us[i]? =aa u/\RelV x u
 | _,_,_,_,.nil,e=>by simp at e
 | _,_,0,_,.cons r _,e=>by simp at e;subst e;exact⟨_,rfl,r⟩
 | _,_,i+1,x,.cons _ t,e=>by
  obtain⟨u,a,b⟩:=Vals.get (i:=i) (x:=x) t (by simpa using e);exact⟨u,by simpa using a,b⟩
theorem Vals.set{x:V}{u:af}(r:RelV x u):∀{xs:List V} {us:List af} (i:Nat),Vals xs us->Vals (xs.set i x) (us.set i u)
 | _,_,_,.nil=>.nil
 | _,_,0,.cons _ t=>.cons r t
 | _,_,i+1,.cons q t=>.cons q (Vals.set r i t)
theorem Vals.append:∀{xs a:List V} {us b:List af},Vals xs us->Vals a b->Vals (xs++a) (us++b)
 | _,_,_,_,.nil,s=>s
 | _,_,_,_,.cons r t,s=>.cons r (Vals.append t s)
theorem Vals.take:∀{xs:List V} {us:List af} (n:Nat),Vals xs us->Vals (xs.take n) (us.take n)
 | _,_,0,_=>.nil
 | _,_,_+1,.nil=>.nil
 | _,_,n+1,.cons r t=>.cons r (Vals.take n t)
theorem Vals.drop:∀{xs:List V} {us:List af} (n:Nat),Vals xs us->Vals (xs.drop n) (us.drop n)
 | _,_,0,r=>r
 | _,_,_+1,.nil=>.nil
 | _,_,n+1,.cons _ t=>Vals.drop n t
def RelO:Option V->Option af->Prop
 |some v,aa u=>RelV v u
 |none,ab=>True
 | _,_=>False
def KV{a:Type}:List (a×V)->List (a×af)->Prop:=Paired λ(p:a×V) (q:a×af)=>p.1=q.1/\RelV p.2 q.2
noncomputable def kV:yM->V
 |.inl i=>.int i
 |.inr x=>.str x
inductive HO where
  |lst (xs:List V)
  |tup (xs:List V)
  |dK (kvs:List (yM×V))|dT (kvs:List (List yM×V))
  |set (S:Int->Bool) (n:Nat)
  |ins (C dx:ah) (fs:List (Str×V))
  |own (x:ah)
  |xd (fs:List (Str×V))
  |met (f x:ah)
  |rng (lo hi:Int)
  |frz (o:Obj) (u:HO)
  |tbl (ps:Array af)
  |ext (φ:aX->Prop)
abbrev Hp:=ah->Option HO
noncomputable def zp(H:Hp)(a:ah)(o:HO):Hp:=λb=>if b=a then aa o else H b
theorem yz:zp H a o a=aa o:=by unfold zp;rw[if_pos rfl]
theorem zX(h:b≠a):zp H a o b=H b:=by unfold zp;rw[if_neg h]
theorem vm{H:Hp}{a b:ah}{o:HO}(h:H a=aa o)(h':H b=ab):a≠b:=by
 intro e;subst e;rw[h]at h';cases h'
section
variable (P:aN)(w:aR)
def TupN(h:aX)(a:ah)(b:Array af):Prop:=∃o,h.get? a=aa o/\o.cls=.type "tuple" /\ ∃n,(o.data,o.dict)=(DM b n,ab)
theorem TupN.is(x:TupN h a ts):IsTup h a ts:=let⟨o,e,c,n,d⟩:=x;⟨o,e,c,n,(E7 d).1⟩
theorem TupN.lt{h:aX}(x:TupN h a ts):a<h.objs.size:=x.is.lt
theorem TupN.nod{h:aX}(x:TupN h a ts):∃o,h.get? a=aa o/\o.dict=ab:=let⟨o,e,_,_,d⟩:=x;⟨o,e,(E7 d).2⟩
theorem TupN.new(h:aX)(ts:Array af):TupN (h.push { cls:=.type "tuple",data:=.seq ts}) h.objs.size ts:=⟨_,ax _ rfl,rfl,0,rfl⟩
instance {h:aX}{a:ah}{ts:Array af}:Coe (TupN h a ts) (IsTup h a ts):=⟨TupN.is⟩
def ObjOk(H:Hp)(h:aX)(a:ah):HO->Prop
 |.lst d=>d.length<=aS/\∃(b:List af) (n:Nat),Vals d b/\h.get? a=aa { cls:=.type "list",data:=.seq b.toArray n}
 |.tup d=>d.length<=aS/\∃b:List af,Vals d b/\TupN h a b.toArray
 |.dK c=>c.length<=aS/\(a==sysModules)=false/\∃k,KV c k/\h.DictOf (uk P w) a k
 | .dT c=>c.length<=aS/\(a == sysModules)=false/\∃ d:List (List yM × ah × af),
   Paired (λ(p:List yM×V) (q:List yM×ah×af)=>p.1=q.1/\H q.2.1=aa (.tup (p.1.map kV))/\RelV p.2 q.2.2) c d /\
   ∃o l s,h.get? a=aa o/\o.ExactDict/\o.data=.dict l s/\l.toList=d.map (entryOfKey (tupleKind (uk P w)))/\(d.map (·.1)).Nodup
 |.set S n=>h.SetOf (intKind P w) a S n
 | .ins C i g=>H i=aa (.own a)/\g.length<=1000/\i ≠ a/\h.get? a=aa (ow C i) /\
   ∃e,h.Ns1 i e/\(∀f,RelO (g.lookup f) (e f))/\Ds e (g.map (·.1))
 |.own _=>∃o,h.get? a=aa o
 |.xd g=>∃e,h.Ns1 a e/\∀f,RelO (g.lookup f) (e f)
 |.rng y z=>∃t u v,h.get? a=aa { cls:=.type "range",data:=.fields #[.int y t,.int z u,.int 1 v]}
 |.frz o u=>h.get? a=aa o/\ObjOk H h a u
 |.tbl A=>h.get? a=aa { cls:=.none,data:=.fields A}
 |.met f x=>h.get? a=aa (B6 (.ref f) (.ref x))
 |.ext j=>j h/\(∃o,h.get? a=aa o)/\∀m r:aX,j m->(∀o,m.get? a=aa o->r.get? a=aa o)->j r
def HOk(H:Hp)(h:aX):Prop:=∀a o,H a=aa o->ObjOk P w H h a o
end
section
variable {P:aN}{w:aR}{H H':Hp}{h h':aX}{a:ah}{o:HO}
theorem ObjOk.lt(x:ObjOk P w H h a o):a<h.objs.size:=by
 cases o with
 |lst c=>obtain⟨_,_,_,_,e⟩:=x;exact aA e
 |tup c=>obtain⟨_,_,_,p⟩:=x;exact p.lt
 |dK b=>obtain⟨_,_,_,_,o,_,_,e,_⟩:=x;exact aA e
 |dT b=>obtain⟨_,_,_,_,o,_,_,e,_⟩:=x;exact aA e
 |set S n=>obtain⟨o,_,_,_,e,_⟩:=x;exact aA e
 |ins C g d=>obtain⟨_,_,_,e,_⟩:=x;exact aA e
 |own y=>obtain⟨_,e⟩:=x;exact aA e
 |xd d=>obtain⟨_,⟨_,_,_,e,_⟩,_⟩:=x;exact aA e
 |rng i j=>obtain⟨_,_,_,e⟩:=x;exact aA e
 |frz k u=>obtain⟨e,_⟩:=x;exact aA e
 |tbl l=>exact aA (show h.get? a=aa _ from x)
 |met f y=>exact aA (show h.get? a=aa _ from x)
 |ext m=>obtain⟨_,⟨_,e⟩,_⟩:=x;exact aA e
theorem Paired.mapP{e g:Type}{F G:e->g->Prop}:∀{c:List e} {d:List g},Paired F c d->(∀a b,F a b->G a b)->Paired G c d
 | _,_,.nil,_=>.nil
 | _,_,.cons r t,f=>.cons (f _ _ r) (Paired.mapP t f)
theorem ObjOk.stay(x:ObjOk P w H h a o)(k:∀b u,(b=a\/H b=aa (.own a))->h.get? b=aa u->h'.get? b=aa u)
  (I:∀b,H b=aa (.own a)->H' b=aa (.own a)) (J:∀b m,H b=aa (.tup m)->H' b=aa (.tup m)):ObjOk P w H' h' a o:=by
 induction o with
 |lst m=>obtain⟨z,l,n,r,e⟩:=x;exact⟨z,l,n,r,k _ _ (.inl rfl) e⟩
 |tup m=>obtain⟨z,l,r,g,e,c⟩:=x;exact⟨z,l,r,g,k _ _ (.inl rfl) e,c⟩
 |dK s=>obtain⟨z,y,K,r,g,i,j,e,c⟩:=x;exact⟨z,y,K,r,g,i,j,k _ _ (.inl rfl) e,c⟩
 |dT s=>
  obtain⟨z,y,m,r,g,i,j,e,c⟩:=x;exact⟨z,y,m,Paired.mapP r λp q z=>⟨z.1,J _ _ z.2.1,z.2.2⟩,g,i,j,k _ _ (.inl rfl) e,c⟩
 |set S n=>obtain⟨g,i,j,t,e,c⟩:=x;exact⟨g,i,j,t,k _ _ (.inl rfl) e,c⟩
 |ins C Q L=>
  obtain⟨d,z,M,e,A,⟨B,i,j,N,c⟩,r⟩:=x;exact⟨I _ d,z,M,k _ _ (.inl rfl) e,A,⟨B,i,j,k _ _ (.inr d) N,c⟩,r⟩
 |own y=>obtain⟨g,e⟩:=x;exact⟨g,k _ _ (.inl rfl) e⟩
 |xd L=>obtain⟨A,⟨B,i,j,e,c⟩,r⟩:=x;exact⟨A,⟨B,i,j,k _ _ (.inl rfl) e,c⟩,r⟩
 |rng R T=>obtain⟨t,u,v,e⟩:=x;exact⟨t,u,v,k _ _ (.inl rfl) e⟩
 |frz g u O=>obtain⟨e,q⟩:=x;exact⟨k _ _ (.inl rfl) e,O q⟩
 |tbl E=>
  have e:h.get? a=aa { cls:=.none,data:=.fields E}:=x;show h'.get? a=aa { cls:=.none,data:=.fields E};exact k a _ (.inl rfl) e
 |met f y=>
  have e:h.get? a=aa (B6 (.ref f) (.ref y)):=x;show h'.get? a=aa (B6 (.ref f) (.ref y));exact k a _ (.inl rfl) e
 |ext U=>obtain⟨p,⟨o,e⟩,G⟩:=x;exact⟨G _ _ p λo q=>k _ _ (.inl rfl) q,⟨o,k _ _ (.inl rfl) e⟩,G⟩
theorem HOk.lt(x:HOk P w H h)(e:H a=aa o):a<h.objs.size:=(x a o e).lt
theorem HOk.fresh(x:HOk P w H h)(e:h.objs.size<=a):H a=ab:=by
 cases q:H a with
 |none=>rfl
 |some u=>exact absurd (aT (x.lt q) e) (eQ _)
theorem HOk.kept(x:HOk P w H h)(k:∀b u,h.get? b=aa u->h'.get? b=aa u):HOk P w H h':=λa o e=>
 (x a o e).stay (λb u _ q=>k b u q) (λ_ q=>q) λ_ _ q=>q
theorem HOk.laid(x:HOk P w H h)(k:∀b u,h.get? b=aa u->h'.get? b=aa u)(g:h.objs.size<=a)(new:ObjOk P w (zp H a o) h' a o):HOk P w (zp H a o) h':=λb u e=>by
 have d:=x.fresh g;by_cases f:b=a
 ·subst f;rw[yz]at e;cases e;exact new
 ·rw[zX f]at e;exact(x b u e).stay (λc v _ q=>k c v q) (λc q=>by rw[zX (vm q d)];exact q) λc i q=>by rw[zX (vm q d)];exact q
end
def Rd(H:Hp)(a:ah)(u:HO):Prop:=H a=aa u\/∃o,H a=aa (.frz o u)
theorem Rd.of(h:H a=aa u):Rd H a u:=.inl h
theorem Rd.ok(r:Rd H a u)(x:HOk P w H h):ObjOk P w H h a u:=by
 rcases r with r|⟨o,r⟩
 ·exact x a u r
 ·obtain⟨_,q⟩:=x a _ r;exact q
def nu:Option HO->Prop
 |some (.lst _)=>True
 |some (.dK _)=>True
 |some (.dT _)=>True
 |some (.set _ _)=>True
 |some (.ins _ _ _)=>True
 |some (.ext _)=>True
 | _=>False
section
variable {P:aN}{w:aR}{H:Hp}{h h':aX}{x e:ah}{o':HO}
theorem HOk.write(ok:HOk P w H h)(g:nu (H x))(n:e=x\/H e=aa (.own x))(k:∀b u,b≠e->h.get? b=aa u->h'.get? b=aa u)(m:∃u,h'.get? e=aa u)
  (new:ObjOk P w (zp H x o') h' x o'):HOk P w (zp H x o') h':=λb u q=>by
 have d:∀c y,H c=aa (.own y)->c≠x:=λc y r z=>by subst z;rw[r]at g;exact g
 have f:∀c i,H c=aa (.tup i)->c≠x:=λc i r z=>by subst z;rw[r]at g;exact g
 by_cases j:b=x
 ·subst j;rw[yz]at q;cases q;exact new
 ·rw[zX j]at q;by_cases a:b=e
  ·have o:H b=aa (.own x):=by
    rcases n with z|z
    ·exact absurd (a.trans z) j
    ·rw[a];exact z
   rw[q]at o;cases o;obtain⟨v,p⟩:=m;exact⟨v,by rw[a];exact p⟩
  ·refine(ok b u q).stay (λc v l r=>k c v ?_ r) (λc r=>by rw[zX (d c b r)];exact r) λc i r=>by rw[zX (f c i r)];exact r
   rcases l with rfl|l
   ·exact a
   ·rintro rfl;rcases n with z|z
    ·exact d c b l z
    ·rw[l]at z;cases z;exact j rfl
end
structure Un(fs ex:List ah)(H H':Hp)(h h':aX):Prop where
 keep:∀b o,h.get? b=aa o->H b=ab->b∉fs->b∉ex->h'.get? b=aa o
 slot:∀b o,h.get? b=aa o->H b=ab->b∈fs->b∉ex->∃sl,h'.get? b=aa { o with slots:=sl}
 free:∀b o,h.get? b=aa o->H b=ab->b∉ex->H' b=ab
 there:∀b o,h.get? b=aa o->b∉ex->∃o',h'.get? b=aa o'
 tups:∀b xs,H b=aa (.tup xs)->H' b=aa (.tup xs)
 frzs:∀b o u,H b=aa (.frz o u)->H' b=aa (.frz o u)
 tbls:∀b ps,H b=aa (.tbl ps)->∃more,H' b=aa (.tbl (ps++more))
section
variable {fs fs' ex ex':List ah}{H H1 H2:Hp}{h h1 h2 h':aX}{a x e:ah}{o:HO}
theorem Un.any(u:Un fs ex H H1 h h1){c:Obj}(q:h.get? b=aa c)(n:H b=ab)(d:b∉ex):∃g,h1.get? b=aa { c with slots:=g}:=by
 by_cases f:b∈fs
 ·exact u.slot b c q n f d
 ·exact⟨c.slots,u.keep b c q n f d⟩
theorem Un.kept(k:∀b u,h.get? b=aa u->h'.get? b=aa u):Un fs ex H H h h':=
 ⟨λb c q _ _ _=>k b c q,λb c q _ _ _=>⟨c.slots,k b c q⟩,λ_ _ _ n _=>n,λb c q _=>⟨c,k b c q⟩,λ_ _ q=>q,λ_ _ _ q=>q,λ_ d q=>⟨#[],by rw[q];simp⟩⟩
theorem Un.refl:Un fs ex H H h h:=Un.kept λ_ _ q=>q
theorem Un.laid(k:∀b u,h.get? b=aa u->h'.get? b=aa u)(c:h.objs.size<=a)(hn:H a=ab):Un fs ex H (zp H a o) h h' where
 keep:=λb u q _ _ _=>k b u q
 slot:=λb u q _ _ _=>⟨u.slots,k b u q⟩
 free:=λb u q n _=>by rw[zX (aP (aT (aA q) c))];exact n
 there:=λb u q _=>⟨u,k b u q⟩
 tups:=λb d q=>by rw[zX (vm q hn)];exact q
 frzs:=λb u d q=>by rw[zX (vm q hn)];exact q
 tbls:=λb f q=>⟨#[],by rw[zX (vm q hn),q];simp⟩
theorem Un.write(d:nu (H x))(l:e=x\/H e=aa (.own x))(k:∀b u,b≠e->h.get? b=aa u->h'.get? b=aa u)(f:∃u,h'.get? e=aa u):Un fs ex H (zp H x o) h h':=by
 have i:∀b,H b=ab->b≠x:=λb n z=>by subst z;rw[n]at d;exact d
 have j:∀b,H b=ab->b≠e:=λb n z=>by
  subst z;rcases l with r|r
  ·exact i b n r
  ·rw[n]at r;cases r
 have g:∀b u,H b=aa u->¬ nu (aa u)->b≠x:=λb u q m z=>by subst z;rw[q]at d;exact m d
 refine⟨λb u q n _ _=>k b u (j b n) q,λb u q n _ _=>⟨u.slots,k b u (j b n) q⟩,λb u q n _=>by rw[zX (i b n)];exact n,λb u q _=>?_,
  λb p q=>by rw[zX (g b _ q λz=>z)];exact q,λb u p q=>by rw[zX (g b _ q λz=>z)];exact q,λb s q=>⟨#[],by rw[zX (g b _ q λz=>z),q];simp⟩⟩
 by_cases c:b=e
 ·subst c;exact f
 ·exact⟨u,k b u c q⟩
end
noncomputable def lv(h:aX)(H:Hp):List ah:=(ak h.objs.size).filter λa=>(H a).isSome
def uV(h:aX)(H:Hp):aX:=PySem.W.hideAll h (lv h H)
theorem Uv(h:aX)(H:Hp):(uV h H).objs.size=h.objs.size:=PySem.W.hideAll_size _ _
theorem Uu{h:aX}(e:h.get? b=aa o)(n:H b=ab):(uV h H).get? b=aa o:=
 PySem.W.hideAll_get _ e λa=>by
  have q:(H b).isSome=true:=(ot.mp a).2;rw[n]at q;simp at q
theorem Qg{h:aX}(e:(uV h H).get? b=aa o):h.get? b=aa o/\H b=ab:=by
 have a:h.get? b=aa o:=PySem.W.of_hideAll (lv h H) e;refine⟨a,?_⟩;cases q:H b with
 |none=>rfl
 |some x=>
  have c:b∈lv h H:=ot.mpr ⟨eD.mpr (aA a),by simp[q]⟩;have z:(uV h H).get? b=ab:=PySem.W.hideAll_none (lv h H) c;rw[z]at e;cases e
noncomputable def Wi(g h:aX)(L:ah):List (ah×Obj):=(ak h.objs.size).filterMap λa=>if a=L\/(g.get? a).isSome=true then ab else (h.get? a).map λo=>(a,o)
def rest(g h:aX)(L d:ah):List (ah×Obj):=(Wi g h L).filter λp=>decide (p.1≠d)
structure Mod(K:ae)(mg:Str->Option af)(base:aX):Prop where
 kin:K.In base
 glob:base.Ns aY mg
 blt:∃mb,base.Ns builtinsNs mb/\∀x:Str,x≠ "__name__" -> mb x=eg x
 nolimit:base.NoLimit
structure Cx where
 prog:aN
 w:aR
 K:ae
 mg:Str->Option af
 base:aX
 A:a4
 N:List Str
 s₀:ag
 H₀:Hp
 env:Env
 outer:List Env
 stack:List Env
 ex:List ah
 fn:Str->Bool
 calm:Bool
 pn:List (ah×Obj)
 xe:af->ag->Prop
noncomputable def v8(l:List Env):List ah:=l.filterMap (·.frame)
abbrev Cx.fs(X:Cx):List ah:=v8 X.outer
def wm(sc:Scope)(x:Str):Prop:=sc.names.lookup x=aa .local\/sc.names.lookup x=aa .cell\/sc.names.lookup x=aa .free
def vp(sc:Scope)(x:Str):Prop:=sc.names.lookup x=aa .local\/sc.names.lookup x=aa .cell
def X2(a:Env)(h:aX)(m:Str->Option af)(x:Str)(u:af):Prop:=
 (a.kindOf x=aa .local/\m x=aa u)\/((a.kindOf x=aa .cell\/a.kindOf x=aa .free)/\∃c,a.cells.lookup x=aa c/\h.IsCell c (aa u))
structure Cx.Ok(X:Cx):Prop where
 mod:Mod X.K X.mg X.base
 kind:X.env.scope.kind=.function
 glob:X.env.globals=aY
 blt:X.env.builtins=builtinsNs
 above:X.s₀.heap.objs.size<=X.env.locals
 inj:∀x y c,X.env.cells.lookup x=aa c->X.env.cells.lookup y=aa c->x=y
 has:∀x,(X.env.kindOf x=aa .cell\/X.env.kindOf x=aa .free)->∃c,X.env.cells.lookup x=aa c
 cab:∀x c,X.fn x=true->X.env.cells.lookup x=aa c->X.s₀.heap.objs.size<=c
 hd:X.calm=true->X.A.handled=ab
 frames:X.A.frames=aa X.stack
 stk:X.stack=X.outer\/(X.stack=X.env::X.outer/\X.env.frame=aa X.env.locals)
 exf:∀b∈X.ex,b≠X.env.locals/\∀x c,X.env.cells.lookup x=aa c->c≠b
 bs:∀b o,X.base.get? b=aa o->X.s₀.heap.get? b=aa o/\X.H₀ b=ab
 bsz:X.base.objs.size<=X.s₀.heap.objs.size
 noex:∀b o,X.base.get? b=aa o->b∉X.ex
 exfs:∀b∈X.ex,b∉X.fs
 funs:X.s₀.heap.FunFrames X.base X.outer
 frf:∀b∈X.fs,X.H₀ b=ab
structure Inv(X:Cx)(pins:List (ah×Obj))(σ:List (Option V))(H:Hp)(s:ag):Prop where
 ok:X.Ok
 os:s.os=X.s₀.os
 bare:AllBare s.gens
 base:Un X.fs X.ex X.H₀ H X.s₀.heap s.heap
 loc:∃m,s.heap.Ns X.env.locals m/\∀(i:Nat) (x:Str) (v:V),X.N[i]? =aa x->σ[i]? =aa (aa v)->wm X.env.scope x->∃u,RelV v u/\X2 X.env s.heap m x u
 cell:∀x c,X.env.cells.lookup x=aa c->∃v,s.heap.IsCell c v
 free:H X.env.locals=ab
 freeC:∀x c,X.env.cells.lookup x=aa c->H c=ab
 pin:∀p∈X.pn++pins,s.heap.get? p.1=aa p.2/\H p.1=ab/\p.1≠X.env.locals/\p.1∉X.fs/\∀v,p.2.data≠.cell v
 hok:HOk X.prog X.w H s.heap
 len:σ.length=X.N.length
section
variable {X:Cx}{pins:List (ah×Obj)}{σ:List (Option V)}{H H':Hp}{s:ag}{h':aX}
theorem Cx.Ok.nofr(ok:X.Ok){o:Obj}(e:X.base.get? b=aa o):b∉X.fs:=λa=>by
 have:=(ok.funs.mem a).1;rw[e]at this;cases this
theorem Inv.bs(I:Inv X pins σ H s):∀b o,X.base.get? b=aa o->s.heap.get? b=aa o/\H b=ab:=λb o e=>
 ⟨I.base.keep b o (I.ok.bs b o e).1 (I.ok.bs b o e).2 (I.ok.nofr e) (I.ok.noex b o e),I.base.free b o (I.ok.bs b o e).1 (I.ok.bs b o e).2 (I.ok.noex b o e)⟩
theorem Inv.bk(I:Inv X pins σ H s):∀b o,X.base.get? b=aa o->s.heap.get? b=aa o:=λb o e=>(I.bs b o e).1
theorem Inv.mod(I:Inv X pins σ H s):Mod X.K X.mg X.base:=I.ok.mod
theorem Inv.kIn(I:Inv X pins σ H s):X.K.In s.heap:=I.ok.mod.kin.keeps I.bk
theorem Inv.lt(I:Inv X pins σ H s):X.env.locals<s.heap.objs.size:=let⟨_,hn,_⟩:=I.loc;hn.lt
theorem Inv.sz(I:Inv X pins σ H s):X.s₀.heap.objs.size<=s.heap.objs.size:=aH I.ok.above (eE I.lt)
theorem Inv.nofs(I:Inv X pins σ H s)(h:s.heap.objs.size<=a):a∉X.fs:=λb=>by
 obtain⟨_,o,c,_⟩:=I.ok.funs.mem b;exact absurd (aT (aA c) (aH I.sz h)) (eQ _)
theorem Inv.cne(I:Inv X pins σ H s):∀x c,X.env.cells.lookup x=aa c->c≠X.env.locals:=λx c e z=>by
 obtain⟨v,o,d,f⟩:=I.cell x c e;obtain⟨m,⟨g,h,i,a,b,_⟩,_⟩:=I.loc;rw[z,a]at d;cases d;rw[b]at f;cases f
theorem Inv.funs(I:Inv X pins σ H s):s.heap.FunFrames X.base X.outer:=by
 have a:∀(l:List Env),(∀b∈v8 l,b∈X.fs)->X.s₀.heap.FunFrames X.base l->s.heap.FunFrames X.base l:=by
  intro l
  induction l with
  |nil=>intro _ _;trivial
  |cons h r i=>
   intro g j;obtain⟨k,⟨L,o,c,m,n,p⟩,q⟩:=j;have d:L∈X.fs:=g L (by unfold v8;rw[BA,c];exact aw);obtain⟨t,e⟩:=I.base.slot L o n (I.ok.frf L d) d λz=>I.ok.exfs L z d;exact⟨k,⟨L,_,c,m,e,p⟩,i (λb f=>g b (by unfold v8;rw[BA,c];exact aq _ f)) q⟩
 exact a X.outer (λ_ f=>f) I.ok.funs
theorem Inv.stack(I:Inv X pins σ H s):s.heap.FunFrames X.base X.stack:=by
 rcases I.ok.stk with e|⟨e,a⟩
 ·rw[e];exact I.funs
 ·rw[e];obtain⟨m,b,_⟩:=I.loc;refine .cons (by rw[I.ok.kind];decide) a b ?_ I.funs;exact Heap.get?_none_of_le (aH I.ok.bsz I.ok.above)
theorem Inv.stkSub(I:Inv X pins σ H s):∀b∈v8 X.stack,b∈X.env.locals::X.fs:=λb a=>by
 rcases I.ok.stk with e|⟨e,c⟩
 ·rw[e]at a;exact aq _ a
 ·rw[e]at a;unfold v8 at a;rw[BA,c]at a;exact a
theorem Inv.stkFree(I:Inv X pins σ H s):∀b∈v8 X.stack,H b=ab:=λb a=>by
 rcases aC.mp (I.stkSub b a)with e|a
 ·rw[e];exact I.free
 ·obtain⟨_,o,c,_⟩:=I.ok.funs.mem a;exact I.base.free b o c (I.ok.frf b a) λz=>I.ok.exfs b z a
theorem Inv.step{t':Nat}{ch:List ah}(I:Inv X pins σ H s)
 (g:∀b∈ch,(b∈X.ex\/X.s₀.heap.objs.size<=b)/\b≠X.env.locals/\(∀x c,X.env.cells.lookup x=aa c->c≠b)/\∀p∈X.pn++pins,p.1≠b)
 (h:∀b o,b≠X.env.locals->b∉X.fs->b∉ch->s.heap.get? b=aa o->H b=ab->h'.get? b=aa o)
 (B:∀b o,b≠X.env.locals->b∈X.fs->b∉ch->s.heap.get? b=aa o->H b=ab->∃S,h'.get? b=aa { o with slots:=S}) (f:∀b o,b∉ch->s.heap.get? b=aa o->H b=ab->H' b=ab)
 (E:∀b o,b∉ch->s.heap.get? b=aa o->∃K,h'.get? b=aa K)
 (L:∀b C,H b=aa (.tup C)->H' b=aa (.tup C)) (M:∀b o u,H b=aa (.frz o u)->H' b=aa (.frz o u)) (N:∀b R,H b=aa (.tbl R)->∃O,H' b=aa (.tbl (R++O)))
 (ns:∀m,s.heap.Ns X.env.locals m->h'.Ns X.env.locals m) (T:HOk X.prog X.w H' h') (hg:AllBare g') :
 Inv X pins σ H' { s with heap:=h',gens:=g',drawn:=d',toks:=t'}:=by
  have P:∀b o,X.s₀.heap.get? b=aa o->b≠X.env.locals:=λb o e=>aP (aT (aA e) I.ok.above);have y:∀b o,X.s₀.heap.get? b=aa o->b∉X.ex->b∉ch:=λb o e a G=>by
    rcases (g b G).1 with z|z
    · exact a z
    · exact absurd (aT (aA e) z) (eQ _)
  have j:∀x c,X.env.cells.lookup x=aa c->∀v,s.heap.IsCell c v->h'.IsCell c v:=λx c e v ⟨o,J,U⟩=>by
    have t:c∉ch:=λz=>(g c z).2.2.1 x c e rfl;by_cases Z:c∈X.fs
    · obtain⟨S,q⟩:=B c o (I.cne x c e) Z t J (I.freeC x c e);exact⟨_,q,U⟩
    · exact⟨o,h c o (I.cne x c e) Z t J (I.freeC x c e),U⟩
  refine⟨I.ok,I.os,hg,⟨λb o e n G a=>?_,λb o e n G a=>?_,λb o e n a=>?_,λb o e a=>?_,λb C e=>L b C (I.base.tups b C e),λb o C e=>M b o C (I.base.frzs b o C e),λb R e=>?_⟩,?_,λx c e=>?_,?_,λx c e=>?_,λp hp=>?_,T,I.len⟩
  · exact h b o (P b o e) G (y b o e a) (I.base.keep b o e n G a) (I.base.free b o e n a)
  · obtain⟨S,A⟩:=I.base.slot b o e n G a;obtain⟨Y,Q⟩:=B b _ (P b o e) G (y b o e a) A (I.base.free b o e n a);exact⟨Y,Q⟩
  · obtain⟨K,A⟩:=I.base.there b o e a;exact f b K (y b o e a) A (I.base.free b o e n a)
  · obtain⟨K,A⟩:=I.base.there b o e a;exact E b K (y b o e a) A
  · obtain⟨m1,A⟩:=I.base.tbls b R e;obtain⟨m2,Q⟩:=N b _ A;exact⟨m1++m2,by rw[Q,Array.append_assoc]⟩
  · obtain⟨m,hn,hl⟩:=I.loc;refine⟨m,ns m hn,λi x v A Q e3=>?_⟩;obtain⟨u,r,l⟩:=hl i x v A Q e3;refine⟨u,r,?_⟩;rcases l with l|⟨k,c,e,z⟩
    · exact .inl l
    · exact .inr ⟨k,c,e,j x c e _ z⟩
  · obtain⟨v,z⟩:=I.cell x c e;exact⟨v,j x c e v z⟩
  · obtain⟨m,⟨o,_,_,J,_⟩,_⟩:=I.loc;exact f _ o (λz=>(g _ z).2.1 rfl) J I.free
  · obtain⟨v,o,J,U⟩:=I.cell x c e;exact f c o (λz=>(g c z).2.2.1 x c e rfl) J (I.freeC x c e)
  · obtain⟨e,n,ne,nf,d⟩:=I.pin p hp;have t:p.1∉ch:=λz=>(g p.1 z).2.2.2 p hp rfl;exact⟨h p.1 p.2 ne nf t e n,f p.1 p.2 t e n,ne,nf,d⟩
theorem Inv.un{t':Nat}(I:Inv X pins σ H s)(u:Un X.fs [] H H' s.heap h')(c:HOk X.prog X.w H' h'):Inv X pins σ H' { s with heap:=h',toks:=t'}:=by
 obtain⟨m,⟨o,l,p,h,r⟩,_⟩:=id I.loc;obtain⟨q,i⟩:=u.any h I.free (by simp);exact I.step (g':=s.gens) (d':=s.drawn) (ch:=[]) (λ_ z=>nomatch z) (λb o _ d _ e n=>u.keep b o e n d (by simp)) (λb o _ d _ e n=>u.slot b o e n d (by simp)) (λb o _ e n=>u.free b o e n (by simp)) (λb o _ e=>u.there b o e (by simp)) u.tups u.frzs u.tbls (λt j=>by
  obtain⟨v,f,g,a,k⟩:=j;rw[h]at a;cases a;exact⟨_,f,g,i,k⟩) c I.bare
theorem Inv.call{t':Nat}{ch:List ah}(I:Inv X pins σ H s)(u:Un (v8 X.stack) ch H H' s.heap h')(g:HOk X.prog X.w H' h')(l:AllBare g')
 (d:∀b∈ch,(b∈X.ex\/X.s₀.heap.objs.size<=b)/\b≠X.env.locals/\(∀x c,X.env.cells.lookup x=aa c->c≠b)/\∀p∈X.pn++pins,p.1≠b) :
 Inv X pins σ H' { s with heap:=h',gens:=g',drawn:=d',toks:=t'}:=by
  obtain⟨m,⟨o,y,A,k,r⟩,_⟩:=id I.loc;obtain⟨B,h⟩:=u.any k I.free λz=>(d _ z).2.1 rfl;exact I.step (ch:=ch) d (λb o h q a e n=>u.keep b o e n (λz=>(aC.mp (I.stkSub b z)).elim h q) a) (λb o _ _ a e n=>u.any e n a) (λb o a e n=>u.free b o e n a) (λb o a e=>u.there b o e a) u.tups u.frzs u.tbls (λC t=>by
    obtain⟨E,i,j,f,v⟩:=t;rw[k]at f;cases f;exact⟨_,i,j,h,v⟩) g l
theorem Inv.turned{t':Nat}(I:Inv X pins σ H s)(k:∀b o,b≠it->s.heap.get? b=aa o->h'.get? b=aa o)(hn:H it=ab)(f:it≠X.env.locals)
 (h1:it∈X.ex\/X.s₀.heap.objs.size<=it) (g:∀x c,X.env.cells.lookup x=aa c->c≠it) (h:∀p∈X.pn++pins,p.1≠it):Inv X pins σ H { s with heap:=h',toks:=t'}:=by
  have d:∀b u,H b=aa u->b≠it:=λb u e z=>by rw[z,hn]at e;cases e
  refine I.step (g':=s.gens) (d':=s.drawn) (ch:=[it]) (λb i=>?_) (λb o _ _ a e _=>k b o (λz=>a (by simp[z])) e) (λb o _ _ a e _=>⟨o.slots,k b o (λz=>a (by simp[z])) e⟩) (λ_ _ _ _ n=>n)
    (λb o a e=>⟨o,k b o (λz=>a (by simp[z])) e⟩) (λ_ _ e=>e) (λ_ _ _ e=>e) (λb y e=>⟨#[],by rw[e];simp⟩) (λm j=>?_) (λb u e=>?_) I.bare
  · have e:b=it:=by simpa using i
    subst e;exact⟨h1,f,g,h⟩
  · obtain⟨o,l,t,w,r⟩:=j;exact⟨o,l,t,k _ o (iM f) w,r⟩
  · refine(I.hok b u e).stay (λc v a q=>k c v ?_ q) (λ_ q=>q) λ_ _ q=>q;rcases a with z|z
    · rw[z];exact d b u e
    · exact d c _ z
theorem Inv.tok(I:Inv X pins σ H s)(t:Nat):Inv X pins σ H { s with toks:=t}:=I.un (h':=s.heap) (t':=t) Un.refl I.hok
theorem Inv.kept{t':Nat}(I:Inv X pins σ H s)(k:∀b u,s.heap.get? b=aa u->h'.get? b=aa u):Inv X pins σ H { s with heap:=h',toks:=t'}:=I.un (Un.kept k) (I.hok.kept k)
theorem Inv.laid{t':Nat}(I:Inv X pins σ H s)(k:∀b u,s.heap.get? b=aa u->h'.get? b=aa u)(c:s.heap.objs.size<=a)(new:ObjOk X.prog X.w (zp H a o) h' a o) :
 Inv X pins σ (zp H a o) { s with heap:=h',toks:=t'}:=I.un (Un.laid k c (I.hok.fresh c)) (I.hok.laid k c new)
theorem Inv.write{t':Nat}(I:Inv X pins σ H s)(c:nu (H x))(d:e=x\/H e=aa (.own x))(k:∀b u,b≠e->s.heap.get? b=aa u->h'.get? b=aa u)(a:∃u,h'.get? e=aa u)
 (new:ObjOk X.prog X.w (zp H x o) h' x o):Inv X pins σ (zp H x o) { s with heap:=h',toks:=t'}:=I.un (Un.write c d k a) (I.hok.write c d k a new)
theorem Inv.pins_of{a:List (ah×Obj)}(I:Inv X pins σ H s)(h:∀p∈a,s.heap.get? p.1=aa p.2/\H p.1=ab/\p.1≠X.env.locals/\p.1∉X.fs/\∀v,p.2.data≠.cell v):Inv X a σ H s:=
 ⟨I.ok,I.os,I.bare,I.base,I.loc,I.cell,I.free,I.freeC,λp b=>(ed.mp b).elim (λz=>I.pin p (em _ z)) (h p),I.hok,I.len⟩
theorem ZH{N:List Str}(c:N.Nodup){i j:Nat}(a:N[i]? =aa x)(b:N[j]? =aa x):i=j:=by
 obtain⟨f,d⟩:=aQ.mp a;obtain⟨g,e⟩:=aQ.mp b;exact(List.getElem_inj c).mp (d.trans e.symm)
theorem YD{E:af->ag->Prop}{i:Nat}{Q:Unit->ag->Prop}(I:Inv X pins σ H s)(hN:X.N.Nodup)(hi:X.N[i]? =aa x)(B:vp X.env.scope x)(r:RelV v u)
 (h:∀s',Inv X pins (σ.set i (aa v)) H s'->(∃a,o7 a s.heap s'.heap/\(a=X.env.locals\/X.env.cells.lookup x=aa a))->Q () s') (hf:X.fn x=true\/X.env.scope.names.lookup x=aa .local:=by first|exact .inl rfl|exact .inr rfl|assumption):au M A (storeName X.env x u) Q E s:=by
  obtain⟨m,hn,hl⟩:=id I.loc;have S:(X.env.scope.kind == .class || (X.env.scope.kind == .module&&X.env.locals != X.env.globals))=false:=by rw[I.ok.kind];rfl
  have J:i<σ.length:=by rw[I.len];exact(aQ.mp hi).1
  have L:=I.cne;have g:∀{a:ah} {h':aX},(∃o,s.heap.get? a=aa o/\H a=ab)->o7 a s.heap h'->HOk X.prog X.w H h':=fun {a h'} ha f b ob e=>by
    obtain⟨_,_,C⟩:=ha;refine(I.hok b ob e).stay (λc w' t q=>(f.2 c ?_).trans q) (λ_ q=>q) λ_ _ q=>q;rintro rfl;rcases t with rfl|t
    · rw[C]at e;cases e
    · rw[C]at t;cases t
  rcases B with K|K
  · refine wpAny_storeName_local K hn (λh' hn' f=>?_) S;obtain⟨oL,_,_,hoL,_⟩:=id hn;refine h _ ⟨I.ok,I.os,I.bare,⟨λb o e n O B=>?_,λb o e n O B=>?_,I.base.free,λb o e B=>?_,I.base.tups,I.base.frzs,I.base.tbls⟩,⟨_,hn',λj y v' l G e3=>?_⟩,λy c e=>?_,I.free,I.freeC,λp hp=>?_,g ⟨oL,hoL,I.free⟩ f,by simpa using I.len⟩ ⟨_,f,.inl rfl⟩
    · exact(f.2 b (aP (aT (aA e) I.ok.above))).trans (I.base.keep b o e n O B)
    · obtain⟨sl,l⟩:=I.base.slot b o e n O B;exact⟨sl,(f.2 b (aP (aT (aA e) I.ok.above))).trans l⟩
    · obtain⟨o',l⟩:=I.base.there b o e B;exact⟨o',(f.2 b (aP (aT (aA e) I.ok.above))).trans l⟩
    · by_cases P:j=i
      · subst P;rw[hi]at l;cases l;rw[CH J]at G;cases G;exact⟨u,r,.inl ⟨K,by simp⟩⟩
      · rw[C1 (iM P)]at G;obtain⟨u',r',q⟩:=hl j y v' l G e3;refine⟨u',r',?_⟩;rcases q with ⟨k,e⟩|⟨k,c,e,z⟩
        · refine .inl ⟨k,?_⟩;have:y≠x:=λe=>P (ZH hN l (e ▸ hi));simp[this,e]
        · exact .inr ⟨k,c,e,z.sameBut f (L y c e)⟩
    · obtain⟨w',z⟩:=I.cell y c e;exact⟨w',z.sameBut f (L y c e)⟩
    · obtain⟨e,n,ne,nf,d⟩:=I.pin p hp;exact⟨(f.2 p.1 ne).trans e,n,ne,nf,d⟩
  · have R:X.fn x=true:=by
      rcases hf with z|z
      · exact z
      · rw[z]at K;cases K
    obtain⟨c,t⟩:=I.ok.has x (.inl K);obtain⟨w',z⟩:=I.cell x c t;refine wpAny_storeName_cell I.ok.kind K t z (λh' T f=>?_);obtain⟨oc,U,Y⟩:=id z;refine h { s with heap:=h'} ⟨I.ok,I.os,I.bare,⟨λb o e n O B=>?_,λb o e n O B=>?_,I.base.free,λb o e B=>?_,I.base.tups,I.base.frzs,I.base.tbls⟩,⟨m,hn.sameBut f (iM (L x c t)),λj y v' l G e3=>?_⟩,λy c' e=>?_,I.free,I.freeC,λp hp=>?_,g ⟨oc,U,I.freeC x c t⟩ f,by simpa using I.len⟩ ⟨c,f,.inr t⟩
    · exact(f.2 b (aP (aT (aA e) (I.ok.cab x c R t)))).trans (I.base.keep b o e n O B)
    · obtain⟨sl,l⟩:=I.base.slot b o e n O B;exact⟨sl,(f.2 b (aP (aT (aA e) (I.ok.cab x c R t)))).trans l⟩
    · obtain⟨o',l⟩:=I.base.there b o e B;exact⟨o',(f.2 b (aP (aT (aA e) (I.ok.cab x c R t)))).trans l⟩
    · by_cases P:j=i
      · subst P;rw[hi]at l;cases l;rw[CH J]at G;cases G;exact⟨u,r,.inr ⟨.inl K,c,t,T⟩⟩
      · rw[C1 (iM P)]at G;obtain⟨u',r',q⟩:=hl j y v' l G e3;refine⟨u',r',?_⟩;rcases q with q|⟨k,c',e,z'⟩
        · exact .inl q
        · refine .inr ⟨k,c',e,z'.sameBut f ?_⟩;rintro rfl;exact P (ZH hN l (I.ok.inj _ _ _ e t ▸ hi))
    · by_cases Z:c'=c
      · subst Z;exact⟨_,T⟩
      · obtain⟨w2,z2⟩:=I.cell y c' e;exact⟨w2,z2.sameBut f Z⟩
    · obtain⟨e,n,ne,nf,d⟩:=I.pin p hp;refine⟨(f.2 p.1 ?_).trans e,n,ne,nf,d⟩;intro q;rw[q,U]at e;have q':oc=p.2:=aO e;exact d w' (by rw[<- q'];exact Y)
theorem hZ{E:af->ag->Prop}{i:Nat}{Q:Unit->ag->Prop}(I:Inv X pins σ H s)(b:X.N.Nodup)(hi:X.N[i]? =aa x)(c:vp X.env.scope x)(r:RelV v u)
 (h:∀a,Inv X pins (σ.set i (aa v)) H a->Q () a) (d:X.fn x=true\/X.env.scope.names.lookup x=aa .local:=by first|exact .inl rfl|exact .inr rfl|assumption):au M A (storeName X.env x u) Q E s:=
  YD I b hi c r (λa e _=>h a e) d
theorem Inv.call'{s':ag}{ch:List ah}(I:Inv X pins σ H s)(f:s'.os=s.os)(u:Un (v8 X.stack) ch H H' s.heap s'.heap)(a:HOk X.prog X.w H' s'.heap)(g:AllBare s'.gens)
  (d:∀b∈ch,(b∈X.ex\/X.s₀.heap.objs.size<=b)/\b≠X.env.locals/\(∀x c,X.env.cells.lookup x=aa c->c≠b)/\∀p∈X.pn++pins,p.1≠b):Inv X pins σ H' s':=by
 obtain⟨h',h,i,j,k⟩:=s';have e:k=s.os:=f;subst e;exact I.call (g':=h) (t':=j) (d':=i) u a g d
end
abbrev XK:=af->Option ah->Hp->Prop
abbrev St:=List (Option V)
abbrev VK:=V->Hp->Prop
abbrev TE:=St->Hp->VK->Prop
abbrev TT:=St->Hp->(Bool->Hp->Prop)->Prop
abbrev TA:=St->Hp->(List V->Hp->Prop)->Prop
structure Ends where
 nx:St->Hp->Prop
 rt:VK
 bk:St->Hp->Prop:=λ_ _=>False
 ct:St->Hp->Prop:=λ_ _=>False
abbrev TS:=Ends->St->Hp->Prop
inductive EP(X:Cx)(pins:List (ah×Obj))(σ:St)(Q:VK)(u:af)(s':ag):Prop
 |mk (v:V) (H':Hp):Inv X pins σ H' s'->RelV v u->Q v H'->EP X pins σ Q u s'
inductive TP(X:Cx)(pins:List (ah×Obj))(σ:St)(Q:Bool->Hp->Prop)(b:Bool)(s':ag):Prop
 |mk (H':Hp):Inv X pins σ H' s'->Q b H'->TP X pins σ Q b s'
inductive AP(X:Cx)(pins:List (ah×Obj))(σ:St)(Q:List V->Hp->Prop)(us:List af)(s':ag):Prop
 |mk (vs:List V) (H':Hp):Inv X pins σ H' s'->Vals vs us->Q vs H'->AP X pins σ Q us s'
inductive NP(X:Cx)(pins:List (ah×Obj))(N:St->Hp->Prop)(z:ag):Prop
 |mk (a:St) (b:Hp):Inv X pins a b z->N a b->NP X pins N z
inductive RP(X:Cx)(pins:List (ah×Obj))(Q:VK)(u:af)(z:ag):Prop
 |mk (v:V) (a:St) (b:Hp):Inv X pins a b z->RelV v u->Q v b->RP X pins Q u z
def SP(X:Cx)(a:List (ah×Obj))(D:Ends)(f:Flow)(s':ag):Prop:=
 match f with
 |.next=>NP X a D.nx s'
 |.brk=>NP X a D.bk s'
 |.cont=>NP X a D.ct s'
 |.ret u=>RP X a D.rt u s'
def PE(X:Cx)(e:Expr)(t:TE):Prop:=
 ∀(a:List (ah×Obj)) (s:ag) (b:St) (H:Hp) (Q:VK),Inv X a b H s->t b H Q->au (model X.prog X.w) X.A (eval e X.env) (EP X a b Q) X.xe s
def PT(X:Cx)(e:Expr)(t:TT):Prop:=
 ∀(a:List (ah×Obj)) (s:ag) (b:St) (H:Hp) (Q:Bool->Hp->Prop),Inv X a b H s->t b H Q->au (model X.prog X.w) X.A (isTrue e X.env (eval e X.env)) (TP X a b Q) X.xe s
def PW(X:Cx)(e:Expr)(t:TT):Prop:=
 ∀(b:Sem af) (a:List (ah×Obj)) (s:ag) (c:St) (H:Hp) (Q:Bool->Hp->Prop),Inv X a c H s->t c H Q->au (model X.prog X.w) X.A (isTrue e X.env b) (TP X a c Q) X.xe s
theorem PW.pt(h:PW X e t):PT X e t:=h _
def PA(X:Cx)(es:List Expr)(t:TA):Prop:=
 ∀(b:Pos) (a:List (ah×Obj)) (s:ag) (c:St) (H:Hp) (Q:List V->Hp->Prop),Inv X a c H s->t c H Q->au (model X.prog X.w) X.A (spliced (backTo b (aZ es X.env))) (AP X a c Q) X.xe s
def PS(X:Cx)(st:Stmt)(t:TS):Prop:=
 ∀(a:List (ah×Obj)) (s:ag) (b:St) (H:Hp) (D:Ends),Inv X a b H s->t D b H->au (model X.prog X.w) X.A (exec st X.env) (SP X a D) X.xe s
def PSs(X:Cx)(st:List Stmt)(t:TS):Prop:=
 ∀(a:List (ah×Obj)) (s:ag) (b:St) (H:Hp) (D:Ends),Inv X a b H s->t D b H->au (model X.prog X.w) X.A (execs st X.env) (SP X a D) X.xe s
theorem zu{b:Type}{t:Sem b}{Q c:b->ag->Prop}{M:Model}{A:a4}{E:af->ag->Prop}{s:ag}(h:au M A t Q E s)(d:∀a s,Q a s->c a s):au M A t c E s:=ip h d λ_ _ x=>x
section
variable {X:Cx}
def ln(i:Nat):TE:=λa H Q=>∃v,a[i]? =aa (aa v)/\Q v H
def tC(v:V):TE:=λ_ H Q=>Q v H
theorem Pq{i:Nat}(k:X.N[i]? =aa x)(n:wm X.env.scope x)(f:(x==("__debug__" : Str))=false:=by decide)(g:(x==("__classdict__" : Str))=false:=by decide):PE X (.Name x pos) (ln i):=by
 intro d s o H Q I h;obtain⟨v,e,h⟩:=h;obtain⟨m,p,q⟩:=I.loc;obtain⟨u,r,l⟩:=q i x v k e n;have z9:EP X d o Q u s:=⟨v,H,I,r,h⟩
 rcases l with ⟨b,t⟩|⟨b,c,j,a⟩
 ·exact wpAny_Name (wpAny_loadName_local I.ok.kind b p t z9) f
 ·rcases b with b|b
  ·exact wpAny_Name (wpAny_loadName_cell I.ok.kind b j a z9) f
  ·exact wpAny_Name (wpAny_loadName_free I.ok.kind b j a z9 g) f
theorem Q9{i j pos}:PE X (.Constant (.int i) j pos) (tC (.int i)):=λ_ _ _ H _ I h=>wpAny_Constant_int ⟨.int i,H,I.tok _,⟨_,rfl⟩,h⟩
theorem QZ{b j pos}:PE X (.Constant (.bool b) j pos) (tC (.bl b)):=λ_ _ _ H _ I h=>Constant_bool ⟨.bl b,H,I,rfl,h⟩
theorem Pf{j pos}:PE X (.Constant .none j pos) (tC .non):=λ_ _ _ H _ I h=>Constant_none ⟨.non,H,I,rfl,h⟩
theorem Pm{x j pos}:PE X (.Constant (.str x) j pos) (tC (.str x)):=λ_ _ _ H _ I h=>Calls.Constant_str ⟨.str x,H,I.tok _,⟨_,rfl⟩,h⟩
def Gl(X:Cx)(x:Str):Prop:=X.env.kindOf x=aa .globalImplicit
theorem jC{E:af->ag->Prop}{Q:af->ag->Prop}(I:Inv X pins σ H s)(a:Gl X x)(b:X.mg x=aa u)(h:Q u s)
 (c:(x==("__debug__" : Str))=false:=by decide):au (model X.prog X.w) X.A (eval (.Name x pos) X.env) Q E s:=
  BW I.ok.kind a (Calls.loadGlobal_global (by rw[I.ok.glob];exact I.mod.glob.keeps I.bk) b h) c
theorem vD{E:af->ag->Prop}{Q:af->ag->Prop}(I:Inv X pins σ H s)(a:Gl X x)(b:X.mg x=ab)(c:eg x=aa u)(h:Q u s)
 (hn:x≠ "__name__" :=by decide) (d:(x==("__debug__" : Str))=false:=by decide):au (model X.prog X.w) X.A (eval (.Name x pos) X.env) Q E s:=by
  obtain⟨g,e,f⟩:=I.mod.blt;exact BW I.ok.kind a (Calls.loadGlobal_builtin (by rw[I.ok.glob];exact I.mod.glob.keeps I.bk) b (by rw[I.ok.blt];exact e.keeps I.bk) ((f x hn).trans c) h) d
theorem Q7(a:Gl X x)(b:X.mg x=aa u)(r:RelV v u)(c:(x==("__debug__" : Str))=false:=by decide):PE X (.Name x pos) (tC v):=
 λ_ _ _ H _ I h=>jC I a b ⟨v,H,I,r,h⟩ c
theorem Q0(a:Gl X x)(b:X.mg x=ab)(c:eg x=aa u)(r:RelV v u)(hn:x≠ "__name__" :=by decide)(d:(x==("__debug__" : Str))=false:=by decide):PE X (.Name x pos) (tC v):=
 λ_ _ _ H _ I h=>vD I a b c ⟨v,H,I,r,h⟩ hn d
variable {a b:Expr}{ta tb:TE}{pos:Pos}
def tB(t:TE):TT:=λd H Q=>t d H λx e=>∃c,x=.bl c/\Q c e
theorem Ni{e:Expr}{t:TE}(h:PE X e t)(g:∀c,isTrue e X.env c=(do let v <- c;standAt e.pos;holding [v] (truthy v)):=by intro _;rfl):PT X e (tB t):=by
 intro f s i H Q I j;refine isTrue_plain (zu (h f s i H _ I j) ?_) (g _);rintro v s1 ⟨x,k,l,m,n⟩;obtain⟨d,rfl,q⟩:=n;cases m;exact wpAny_truthy_bool ⟨k,l,q⟩
variable {tA tB':TT}{rest:List Expr}
def YH(t u:TT):TT:=λd H Q=>t d H λc e=>if c=true then u d e Q else Q false e
def YY(t u:TT):TT:=λd H Q=>t d H λc e=>if c=true then Q true e else u d e Q
def YW(t:TT):TT:=λd H Q=>t d H λc e=>Q (!c) e
theorem No(f:PT X a tA):PW X (.BoolOp .And [a] pos) tA:=by
 intro i d s g H Q I h;refine isTrue_and (zu (f d s g H Q I h) λc s1 e=>?_);cases c with
 |true=>exact isTrue_and_nil e
 |false=>exact e
theorem Nq(f:PT X a tA):PW X (.BoolOp .Or [a] pos) tA:=by
 intro i d s g H Q I h;refine isTrue_or (zu (f d s g H Q I h) λc s1 e=>?_);cases c with
 |false=>exact isTrue_or_nil e
 |true=>exact e
theorem Nn(j:PT X a tA)(k:PW X (.BoolOp .And (b::rest) pos) tB'):PW X (.BoolOp .And (a::b::rest) pos) (YH tA tB'):=by
 intro l d s e H Q I h;refine isTrue_and (zu (j d s e H _ I h) ?_);rintro c s1 ⟨f,g,i⟩;cases c with
 |true=>exact k l d s1 e f Q g i
 |false=>exact⟨f,g,i⟩
theorem Np(j:PT X a tA)(k:PW X (.BoolOp .Or (b::rest) pos) tB'):PW X (.BoolOp .Or (a::b::rest) pos) (YY tA tB'):=by
 intro l d s e H Q I h;refine isTrue_or (zu (j d s e H _ I h) ?_);rintro c s1 ⟨f,g,i⟩;cases c with
 |true=>exact⟨f,g,i⟩
 |false=>exact k l d s1 e f Q g i
theorem Nh(e:PT X a tA):PT X (.UnaryOp .Not a pos) (YW tA):=by
 intro d s f H Q I h;exact isTrue_not (zu (e d s f H (λc g=>Q (!c) g) I h) λ_ _ ⟨a,b,c⟩=>⟨a,b,c⟩)
def YI(ta tb:TE):TE:=λd H Q=>ta d H λx e=>∃c,x=.bl c/\if c=true then tb d e Q else Q (.bl false) e
def YZ(ta tb:TE):TE:=λd H Q=>ta d H λx e=>∃c,x=.bl c/\if c=true then Q (.bl true) e else tb d e Q
def YX(ta:TE):TE:=λd H Q=>ta d H λx e=>∃c,x=.bl c/\Q (.bl (!c)) e
theorem Ph{op}(h:PE X a t):PE X (.BoolOp op [a] pos) t:=λc s d H Q I e=>BoolOp_one (h c s d H Q I e)
theorem QY(j:PE X a ta)(k:PE X (.BoolOp .And (b::rest) pos) tb):PE X (.BoolOp .And (a::b::rest) pos) (YI ta tb):=by
 intro d s f H Q I h;refine BoolOp_and (zu (j d s f H _ I h) ?_);rintro v s1 ⟨x,g,i,l,e⟩;obtain⟨c,rfl,e⟩:=e;cases l;refine wpAny_truthy_bool ?_;cases c with
 |true=>exact k d s1 f g Q i e
 |false=>exact⟨.bl false,g,i,rfl,e⟩
theorem Pj(j:PE X a ta)(k:PE X (.BoolOp .Or (b::rest) pos) tb):PE X (.BoolOp .Or (a::b::rest) pos) (YZ ta tb):=by
 intro d s f H Q I h;refine BoolOp_or (zu (j d s f H _ I h) ?_);rintro v s1 ⟨x,g,i,l,e⟩;obtain⟨c,rfl,e⟩:=e;cases l;refine wpAny_truthy_bool ?_;cases c with
 |false=>exact k d s1 f g Q i e
 |true=>exact⟨.bl true,g,i,rfl,e⟩
theorem Pg(f:PE X a ta):PE X (.UnaryOp .Not a pos) (YX ta):=by
 intro d s g H Q I h;refine UnaryOp_ (zu (f d s g H _ I h) ?_);rintro v s1 ⟨x,i,j,k,e⟩;obtain⟨c,rfl,e⟩:=e;cases k;exact not_of (wpAny_truthy_bool ⟨.bl (!c),i,j,rfl,e⟩)
def YN(t:TT)(ta tb:TE):TE:=λd H Q=>t d H λc e=>if c=true then ta d e Q else tb d e Q
theorem Q8{c:Expr}(k:PT X c tA)(l:PE X a ta)(m:PE X b tb):PE X (.IfExp c a b pos) (YN tA ta tb):=by
 intro e s f H Q I h;refine wpAny_IfExp (zu (k e s f H _ I h) ?_);rintro d s1 ⟨g,i,j⟩;cases d with
 |true=>exact l e s1 f g Q i j
 |false=>exact m e s1 f g Q i j
end
def SqL(K:ae)(H:Hp)(a:ah)(xs:List V):Prop:=
 Rd H a (.lst xs) \/
  ∃(o:Obj) (b:Array af) (n:Nat),K.lookup a=aa o/\o.cls=.type "list" /\ o.dict=ab/\o.data=.seq b n/\b.size<=aS/\Vals xs b.toList
def SqT(K:ae)(H:Hp)(a:ah)(xs:List V):Prop:=
 Rd H a (.tup xs) \/
  ∃(o:Obj) (b:Array af) (n:Nat),K.lookup a=aa o/\o.cls=.type "tuple" /\ o.data=.seq b n/\b.size<=aS/\Vals xs b.toList
noncomputable def Wb:af->Option V
 |.none=>aa .non
 |.bool b=>aa (.bl b)
 |.int i _=>aa (.int i)
 |.str x _=>aa (.str x)
 |.bytes b _=>aa (.byt b)
 |.float b _=>aa (.flt b)
 |.ref a=>aa (.ref a)
 |.type n=>aa (.ty n)
 | _=>ab
theorem RelV.abs(r:RelV x u):Wb u=aa x:=by
 cases x with
 |non=>cases r;rfl
 |bl _=>cases r;rfl
 |int _=>obtain⟨t,rfl⟩:=r;rfl
 |str _=>obtain⟨t,rfl⟩:=r;rfl
 |byt _=>obtain⟨t,rfl⟩:=r;rfl
 |flt _=>obtain⟨t,rfl⟩:=r;rfl
 |ref _=>cases r;rfl
 |ty _=>cases r;rfl
theorem RelV.inj(r:RelV x u)(q:RelV y u):x=y:=aO (r.abs.symm.trans q.abs)
theorem Vals.inj:∀{xs a:List V} {us:List af},Vals xs us->Vals a us->xs=a
 | _,_,_,.nil,.nil=>rfl
 | _,_,_,.cons r t,.cons b c=>by rw[r.inj b,Vals.inj t c]
section
variable {X:Cx}{pins:List (ah×Obj)}{σ:St}{H:Hp}{s:ag}{a:ah}{xs ys:List V}
theorem SqL.of{K:ae}(h:H a=aa (.lst xs)):SqL K H a xs:=.inl (.inl h)
theorem SqT.of{K:ae}(h:H a=aa (.tup xs)):SqT K H a xs:=.inl (.inl h)
theorem Inv.list(I:Inv X pins σ H s)(h:SqL X.K H a xs):∃b:List af,Vals xs b/\PlainL s.heap a b.toArray/\xs.length<=aS:=by
 rcases h with h|⟨o,b,n,c,d,f,g,i,r⟩
 ·obtain⟨z,b,n,r,e⟩:=h.ok I.hok;exact⟨b,r,⟨_,n,e,rfl,rfl,rfl⟩,z⟩
 ·refine⟨b.toList,r,⟨o,n,I.kIn a o c,d,f,by simpa using g⟩,?_⟩;have e:=r.length;simp only[aG]at e;lia
theorem Inv.tuple(I:Inv X pins σ H s)(h:SqT X.K H a xs):∃b:List af,Vals xs b/\IsTup s.heap a b.toArray/\xs.length<=aS:=by
 rcases h with h|⟨o,b,n,c,d,f,g,r⟩
 ·obtain⟨z,b,r,p⟩:=h.ok I.hok;exact⟨b,r,p,z⟩
 ·refine⟨b.toList,r,⟨o,I.kIn a o c,d,n,by simpa using f⟩,?_⟩;have e:=r.length;simp only[aG]at e;lia
theorem Inv.list_inj(I:Inv X pins σ H s)(h:SqL X.K H a xs)(h':SqL X.K H a ys):xs=ys:=by
 obtain⟨b,r,⟨o,n,e,_,_,d⟩,_⟩:=I.list h;obtain⟨its',g,⟨j,k,c,_,_,f⟩,_⟩:=I.list h';rw[e]at c;cases c;rw[d]at f;injection f with i _;have:b=its':=by simpa using congrArg Dg i
 subst this;exact r.inj g
theorem Inv.tuple_inj(I:Inv X pins σ H s)(h:SqT X.K H a xs)(h':SqT X.K H a ys):xs=ys:=by
 obtain⟨b,r,⟨o,e,_,n,d⟩,_⟩:=I.tuple h;obtain⟨its',g,⟨j,c,_,k,f⟩,_⟩:=I.tuple h';rw[e]at c;cases c;rw[d]at f;injection f with i _;have:b=its':=by simpa using congrArg Dg i
 subst this;exact r.inj g
end
noncomputable abbrev Cx.wish(X:Cx)(E:af->ag->Prop):Cx:={ X with xe:=E}
abbrev Cx.nox(X:Cx):Cx:=X.wish λ_ _=>False
theorem Cx.Ok.wish{X:Cx}(ok:X.Ok)(E:af->ag->Prop):(X.wish E).Ok:=
 ⟨ok.mod,ok.kind,ok.glob,ok.blt,ok.above,ok.inj,ok.has,ok.cab,ok.hd,ok.frames,ok.stk,ok.exf,ok.bs,ok.bsz,ok.noex,ok.exfs,ok.funs,ok.frf⟩
theorem Cx.Ok.unwish{X:Cx}{E:af->ag->Prop}(ok:(X.wish E).Ok):X.Ok:=
 ⟨ok.mod,ok.kind,ok.glob,ok.blt,ok.above,ok.inj,ok.has,ok.cab,ok.hd,ok.frames,ok.stk,ok.exf,ok.bs,ok.bsz,ok.noex,ok.exfs,ok.funs,ok.frf⟩
section
variable {X:Cx}{pins:List (ah×Obj)}{σ:St}{H:Hp}{s:ag}{E:af->ag->Prop}
theorem Inv.wish(I:Inv X pins σ H s)(E:af->ag->Prop):Inv (X.wish E) pins σ H s:=⟨I.ok.wish E,I.os,I.bare,I.base,I.loc,I.cell,I.free,I.freeC,I.pin,I.hok,I.len⟩
theorem Inv.unwish(I:Inv (X.wish E) pins σ H s):Inv X pins σ H s:=⟨I.ok.unwish,I.os,I.bare,I.base,I.loc,I.cell,I.free,I.freeC,I.pin,I.hok,I.len⟩
theorem SP.unwish(h:SP (X.wish E) pins D f s'):SP X pins D f s':=by
 cases f with
 |next=>obtain⟨a,b,I,q⟩:=h;exact⟨a,b,I.unwish,q⟩
 |brk=>obtain⟨a,b,I,q⟩:=h;exact⟨a,b,I.unwish,q⟩
 |cont=>obtain⟨a,b,I,q⟩:=h;exact⟨a,b,I.unwish,q⟩
 |ret u=>obtain⟨v,a,b,I,r,q⟩:=h;exact⟨v,a,b,I.unwish,r,q⟩
theorem PSs.nox{st:List Stmt}{t:TS}(h:PSs X.nox st t):PSs X st t:=λpins s σ H D I a=>
 ip (h pins s σ H D (I.wish _) a) (λ_ _ q=>q.unwish) λ_ _ z=>iG z
end
section
variable {X:Cx}{st:Stmt}{rest:List Stmt}{t u:TS}{e:Expr}{te:TE}{pos:Pos}
def YT:TS:=λD a H=>D.nx a H
def Y1(t u:TS):TS:=λD a H=>t { D with nx:=u D} a H
theorem Nd:PSs X [] YT:=λ_ _ a H _ I h=>wpAny_execs_nil ⟨a,H,I,h⟩
theorem Na(h1:PS X st t)(c:PSs X rest u):PSs X (st::rest) (Y1 t u):=by
 intro a s d H D I h;refine wpAny_execs_cons (zu (h1 a s d H { D with nx:=u D} I h) λf s1 q=>?_);cases f with
 |next=>
  obtain⟨b,g,i,q⟩:=q;exact c a s1 b g D i q
 |ret v=>exact q
 |brk=>exact q
 |cont=>exact q
theorem Nf(h1:PS X st t):PSs X [st] t:=by
 intro a s b H D I h;refine wpAny_execs_cons (zu (h1 a s b H D I h) λf s1 q=>?_);cases f with
 |next=>exact wpAny_execs_nil q
 |ret v=>exact q
 |brk=>exact q
 |cont=>exact q
theorem Inv.quiet(I:Inv X pins σ H s):interactive X.env=false:=by simp[interactive,I.ok.kind]
def YL(te:TE):TS:=λD a H=>te a H λ_ b=>D.nx a b
theorem P2(c:PE X e te)(d:swapsWith e ab pos.line X.env=pure false:=by rfl):PS X (.Expr e pos) (YL te):=by
 intro a s b H D I h;exact wpAny_Expr_any (zu (c a s b H _ I h) λv s1 ⟨x,f,g,j,i⟩=>⟨b,f,g,i⟩) I.quiet d
def gi(te:TE):TS:=λD a H=>te a H D.rt
theorem P6(c:PE X e te):PS X (.Return (aa e) pos) (gi te):=by
 intro a s b H D I h;exact wpAny_Return_some (zu (c a s b H _ I h) λv s1 ⟨x,d,f,g,i⟩=>⟨x,b,d,f,g,i⟩)
def YO(c:TT)(t u:TS):TS:=λD a H=>c a H λb d=>if b=true then t D a d else u D a d
theorem P4{c:Expr}{a b:List Stmt}{tc:TT}(l:PT X c tc)(m:PSs X a t)(n:PSs X b u):PS X (.If c a b pos) (YO tc t u):=by
 intro f s g H D I h;refine wpAny_If (zu (l f s g H _ I h) ?_);rintro d s1 ⟨i,j,k⟩;cases d with
 |true=>exact m f s1 g i D j k
 |false=>exact n f s1 g i D j k
def lm:TS:=λ_ _ _=>False
theorem P5:PS X st lm:=λ_ _ _ _ _ _ h=>h.elim
theorem Nc:PSs X sts lm:=λ_ _ _ _ _ _ h=>h.elim
end
abbrev TG:=V->St->Hp->(St->Hp->Prop)->Prop
abbrev uK:=List V->St->Hp->(St->Hp->Prop)->Prop
def PG(X:Cx)(a:Expr)(t:TG):Prop:=
 ∀(b:List (ah×Obj)) (s:ag) (c:St) (H:Hp) (v:V) (u:af) (Q:St->Hp->Prop),Inv X b c H s->RelV v u->t v c H Q ->
  au (model X.prog X.w) X.A (assign a X.env u) (λ_ d=>NP X b Q d) X.xe s
def qr(X:Cx)(e:List Expr)(t:uK):Prop:=
 ∀(a:List (ah×Obj)) (s:ag) (b:St) (H:Hp) (c:List V) (d:List af) (Q:St->Hp->Prop),Inv X a b H s->Vals c d->t c b H Q ->
  au (model X.prog X.w) X.A (assignInOrder ((iE e X.env).map (·.2)) d) (λ_ f=>NP X a Q f) X.xe s
abbrev ku:=V->V->V->Hp->(Hp->Prop)->Prop
def kq(X:Cx)(t:ku):Prop:=
 ∀(a:List (ah×Obj)) (s:ag) (b:St) (H:Hp) (o i v:V) (c d u:af) (Q:Hp->Prop),Inv X a b H s->RelV o c->RelV i d->RelV v u->t o i v H Q ->
  au (model X.prog X.w) X.A (setItem c d u) (λ_ f=>∃e,Inv X a b e f/\Q e) X.xe s
section
variable {X:Cx}{pos:Pos}
def uS(i:Nat):TG:=λv a H Q=>Q (a.set i (aa v)) H
theorem jU{i:Nat}(b:X.N.Nodup)(hi:X.N[i]? =aa x)(c:vp X.env.scope x)(d:X.fn x=true\/X.env.scope.names.lookup x=aa .local:=by first|exact .inl rfl|exact .inr rfl|assumption):PG X (.Name x pos) (uS i):=by
 intro a s f H v u Q I r h;exact wpAny_assign_Name (hZ I b hi c r (λg e=>⟨_,H,e,h⟩) d)
def k5:uK:=λa b H Q=>a=[]/\Q b H
def nR(t:TG)(u:uK):uK:=λb c H Q=>∃v r,b=v::r/\t v c H λa d=>u r a d Q
theorem ZZ:qr X [] k5:=by
 intro a s b H c d Q I r h;obtain⟨e,h⟩:=h;subst e;cases r;exact assignInOrder_nil ⟨b,H,I,h⟩
theorem jV{e:Expr}{es:List Expr}{t:TG}{u:uK}(h1:PG X e t)(c:qr X es u)
  (d:(iE (e::es) X.env).map (·.2)=assign e X.env::(iE es X.env).map (·.2):=by rfl):qr X (e::es) (nR t u):=by
 intro a s f H m n Q I r h;obtain⟨v,o,g,h⟩:=h;subst g;cases r with
 |cons r i=>
  rw[d];refine assignInOrder_cons (zu (h1 a s f H _ _ _ I r h) ?_);rintro _ s1 ⟨b,j,k,l⟩;exact c a s1 b j _ _ Q k i l
def jc(K:ae)(n:Nat)(t:uK):TG:=λv c H Q=>∃a b,v=.ref a/\SqT K H a b/\b.length=n/\t b c H Q
theorem ZY{k:Nat}{n:Nat}(j:X.calm=true)(h:qr X es t)
 (hn:(iE es X.env).length=n:=by rfl) (d:(iE es X.env).findIdx? (·.1)=ab:=by rfl):PG X (.Tuple es k pos) (jc X.K n t):=by
  intro c s g H v u Q I r f;obtain⟨a,l,m,p,q,f⟩:=f;subst m;cases r;obtain⟨w,i,x,B⟩:=I.tuple p;refine assign_Tuple_tuple (I.ok.hd j) x (by simp[hn,<- q,i.length]) d λy z=>?_;have A:Inv X c g H { s with heap:=y}:=I.kept (t':=s.toks) λb o e=>z b o (aP (aA e)) e;exact h c _ g H l _ Q A (by simpa using i) f
def jb(b c:TE)(t:ku):TG:=λv a H Q=>b a H λo d=>c a d λi e=>t o i v e λf=>Q a f
theorem ZX{o i:Expr}{e f:TE}{t:ku}(g:PE X o e)(hi:PE X i f)(j:kq X t)
  (k:∀ v,assign (.Subscript o i pos) X.env v=(do
   let b <- holding [v] (eval o X.env);let c <- holding [v,b] (eval i X.env)
   standAt pos
   holding [v,b,c] (setItem b c v)
   release [v,b,c] []):=by intro _;rfl):PG X (.Subscript o i pos) (jb e f t):=by
 intro a s d H v u Q I r h;rw[k];refine ac (e6 (zu (g a s d H _ I h) ?_));rintro b s1 ⟨x,l,m,n,p⟩;refine ac (e6 (zu (hi a s1 d l _ m p) ?_));rintro c q ⟨y,w,z,A,B⟩;refine ac (wpAny_standAt (ac (e6 (zu (j a q d w x y v b c u _ z n A r B) ?_))));rintro _ J ⟨C,E,G⟩;exact wpAny_release ⟨d,C,E,G⟩
def sJ(b:TE)(g:TG):TS:=λD a H=>b a H λx c=>g x a c D.nx
theorem P1{tg e:Expr}{b:TE}{g:TG}(d:PE X e b)(f:PG X tg g)(i:swapsWithSole [tg] e pos.line X.env=pure false:=by rfl)(j:swappedStores [tg] e X.env=pure ab:=by rfl)
  (h1:(iE [tg] X.env).map (·.2)=[assign tg X.env]:=by rfl):PS X (.Assign [tg] e pos) (sJ b g):=by
 intro a s c H D I h;refine wpAny_Assign_stores (zu (d a s c H _ I h) ?_) i j;rintro v s1 ⟨x,k,l,m,n⟩;rw[h1];exact zu (f a s1 c k x v _ l m n) λ_ o q=>q
theorem P7{i:Nat}{x:Str}{e:Expr}{c:TE}{a:Pos}(d:X.N.Nodup)(hi:X.N[i]? =aa x)(f:vp X.env.scope x)(g:PE X e c)(j:swapsWith e (aa (.Name x a)) pos.line X.env=pure false:=by rfl)(k:X.fn x=true\/X.env.scope.names.lookup x=aa .local:=by first|exact .inl rfl|exact .inr rfl|assumption) :
  PS X (.Assign [.Name x a] e pos) (sJ c (uS i)):=by
 intro b s l H D I h;refine wpAny_Assign_Name (zu (g b s l H _ I h) ?_) j;rintro v s1 ⟨y,m,n,o,p⟩;exact hZ n d hi f o (λr q=>⟨_,m,q,p⟩) k
end
section
variable {X:Cx}{pos:Pos}
def Y6(c:TT)(h:TS):TS:=λD a H=>∃W:Nat->St->Hp->Prop,(∃m,W m a H)/\∀m a H,W m a H ->
 c a H λb e=>if b=true then ∃N:St->Hp->Prop,(∀d f,N d f->∃g,g<m/\W g d f)/\h { D with nx:=N,ct:=N,bk:=D.nx} a e else D.nx a e
theorem P9{c:Expr}{body:List Stmt}{tc:TT}{t:TS}(u:PassesOwn (model X.prog X.w) X.A X.env X.xe)(E:PT X c tc)(G:PSs X body t):PS X (.While c body [] pos) (Y6 tc t):=by
 intro a s J H D I h;obtain⟨W,⟨K,L⟩,g⟩:=h;refine wpAny_While (codeAny_whileLoop (λn M=>∃i x,Inv X a i x M/\W n i x) ?_ K ⟨J,H,I,L⟩);rintro n s1 ⟨e,y,O,P⟩;refine wpAny_passesOwn u (zu (E a s1 e y _ O (g n e y P)) ?_);rintro b Q ⟨z,B,k⟩;cases b with
 |true=>
  obtain⟨N,C,k⟩:=k;rw[if_pos rfl];refine wpAny_passesOwn u (zu (G a Q e z _ B k) λf R l=>?_);cases f with
  |next=>
   obtain⟨d,j,m,o⟩:=l;obtain⟨p,q,r⟩:=C d j o;exact⟨p,q,d,j,m,r⟩
  |cont=>
   obtain⟨d,j,m,o⟩:=l;obtain⟨p,q,r⟩:=C d j o;exact⟨p,q,d,j,m,r⟩
  |brk=>exact l
  |ret v=>exact l
 |false=>
  rw[if_neg aK];exact wpAny_execs_nil ⟨e,z,B,k⟩
end
structure It where
 go:Nat->Hp->Prop
 yld:Nat->Hp->V->Hp->Prop
 stop:Nat->Hp->Prop
def y4(X:Cx)(a:List (ah×Obj))(H:Hp)(b:ah):Prop:=
 H b=ab/\b≠X.env.locals/\b∉X.fs/\(b∈X.ex\/X.s₀.heap.objs.size<=b)/\(∀x c,X.env.cells.lookup x=aa c->c≠b)/\∀p∈X.pn++a,p.1≠b
theorem Inv.fpOk{s:ag}(I:Inv X pins σ H s)(a:s.heap.objs.size<=b)(hn:H' b=ab):y4 X pins H' b:=by
 refine⟨hn,Bv (aT I.lt a),I.nofs a,.inr (aH I.sz a),λx c e z=>?_,λp d z=>?_⟩
 ·obtain⟨v,q⟩:=I.cell x c e;exact absurd (aT q.lt (by rw[z];exact a)) (eQ _)
 ·exact absurd (aT (aA (I.pin p d).1) (by rw[z];exact a)) (eQ _)
structure Turn(P:aN)(w:aR)(K:ae)(tg:Expr)(J:It)(fp:List ah)(it:ah)(tn:Nat->aX->Prop):Prop where
 mem:it∈fp
 obj:∀i h,tn i h->∀b∈fp,∃o,h.get? b=aa o/\∀v,o.data≠.cell v
 keep:∀i h h',tn i h->(∀b∈fp,∀o,h.get? b=aa o->h'.get? b=aa o)->tn i h'
 item:∀(X:Cx),X.prog=P->X.w=w->X.K=K->X.calm=true->∀(i:Nat) (pins:List (ah×Obj)) (s:ag) (σ:St) (H:Hp) (E:af->ag->Prop),Inv X pins σ H s->(∀b∈fp,y4 X pins H b)->tn i s.heap->J.go i H ->
  au (model P w) X.A (pyNext (.ref it)) (λr s1=>∃u,r=aa u /\
   au (model P w) X.A (letOwnedTupleGo tg (.ref it) u) (λ_ s2=>∃x H',Inv X pins σ H' s2/\RelV x u/\J.yld i H x H'/\tn (i+1) s2.heap/\∀b∈fp,H' b=ab) E s1) E s
 done:∀(X:Cx),X.prog=P->X.w=w->X.K=K->X.calm=true->∀(i:Nat) (pins:List (ah×Obj)) (s:ag) (σ:St) (H:Hp) (E:af->ag->Prop),Inv X pins σ H s->(∀b∈fp,y4 X pins H b)->tn i s.heap->J.stop i H ->
  au (model P w) X.A (pyNext (.ref it)) (λr s1=>r=ab/\Inv X pins σ H s1) E s
 self:∀(A:a4) (i:Nat) (s:ag) (Q:af->ag->Prop) (E:af->ag->Prop),tn i s.heap->Q (.ref it) s->au (model P w) A (pyIter (.ref it)) Q E s
abbrev TI:=St->Hp->(It->Hp->Prop)->Prop
def f9(X:Cx)(a:List (ah×Obj))(g:St)(tg:Expr)(R:It->Hp->Prop)(c:af)(s2:ag):Prop:=
 ∃(it:ah) (e:List ah) (f:Nat->aX->Prop) (J:It) (d:Hp),c=.ref it/\Inv X a g d s2/\Turn X.prog X.w X.K tg J e it f/\f 0 s2.heap/\(∀b∈e,y4 X a d b)/\R J d
def PI(X:Cx)(tg b:Expr)(d:TI):Prop:=
 ∀(a:List (ah×Obj)) (s:ag) (c:St) (H:Hp) (R:It->Hp->Prop),Inv X a c H s->d c H R ->
  au (model X.prog X.w) X.A (eval b X.env) (λv s1=>au (model X.prog X.w) X.A (pyIter v) (f9 X a c tg R) X.xe s1) X.xe s
theorem mE{E:af->ag->Prop}{s:ag}{o:Obj}{n:String}{Q:Unit->ag->Prop}(b:s.heap.get? it=aa o)(c:o.cls=.type n)(d:o.data=.fields vs)
 (hn:["enumerate","zip","dict_itemiterator","dict_reverseitemiterator","odict_iterator","itertools.zip_longest","itertools.pairwise"].contains n=false) (a:Q () s):au M A (letOwnedTupleGo tg (.ref it) u) Q E s:=by
  unfold letOwnedTupleGo;cases tg <;> first
    |exact am a
    |(cases u <;> first
        |exact am a
        | (refine ac (wpAny_load b ?_)
           rw[c,d];show au M A (if (["enumerate","zip","dict_itemiterator","dict_reverseitemiterator","odict_iterator","itertools.zip_longest","itertools.pairwise"].contains n&&vs[0]? == aa (rawInt _))=true then _ else _) Q E s;rw[if_neg (by intro h;rw[hn,An]at h;cases h)];exact am a))
noncomputable def nr(K:ae)(a:ah):It:=
 ⟨λi H=>∃b x,SqL K H a b/\b[i]? =aa x,λi H x c=>c=H/\∀b,SqL K H a b->b[i]? =aa x,λi H=>∃b,SqL K H a b/\b.length<=i⟩
def nt(K:ae)(a:ah):It:=
 ⟨λi H=>∃b x,SqT K H a b/\b[i]? =aa x,λi H x c=>c=H/\∀b,SqT K H a b->b[i]? =aa x,λi H=>∃b,SqT K H a b/\b.length<=i⟩
def sQ(lo:Int)(n:Nat):It:=⟨λi _=>i<n,λi H x a=>a=H/\x=.int (lo+i),λi _=>n<=i⟩
theorem Xl{P:aN}{w:aR}{K:ae}{tg:Expr}(a it:ah):Turn P w K tg (nr K a) [it] it (λi h=>h.IsListIter it a i) where
 mem:=by simp
 obj:=λi h f b j=>by
  have e:b=it:=by simpa using j
  subst e;obtain⟨o,e,c,d⟩:=f;exact⟨o,e,λv z=>by rw[d]at z;cases z⟩
 keep:=λi h m f k=>f.at λo e=>k it (by simp) o e
 item:=by
  intro X r t y Q i g s R H E I n f A;subst r t y;obtain⟨S,x,q,B⟩:=A;obtain⟨C,G,p,T⟩:=I.list q;obtain⟨u,U,Y⟩:=G.get B;obtain⟨J,L,Z,M,N,O⟩:=n it (by simp);refine wpAny_pyNext_list_item f p.isList (x:=u) (by simpa using U) λm l sb=>?_;have I1:Inv X g R H { s with heap:=m}:=I.turned (t':=s.toks) (λb o j e=>(sb.2 b j).trans e) J L M N O;obtain⟨o,e,c,d⟩:=id l;exact⟨u,rfl,mE (s:={ s with heap:=m}) e c d (by decide) ⟨x,H,I1,Y,⟨rfl,λys hy=>by rw[I.list_inj hy q];exact B⟩,l,λb j=>(n b j).1⟩⟩
 done:=by
  intro X r t y Q i g s R H E I n f A;subst r t y;obtain⟨S,q,B⟩:=A;obtain⟨C,G,p,T⟩:=I.list q;obtain⟨J,L,Z,M,N,O⟩:=n it (by simp);have hl:=G.length;exact wpAny_pyNext_list_end (I.ok.hd Q) f p.isList (by simp;lia) λm eb=>⟨rfl,I.turned (t':=s.toks) (λb o j e=>eb b o j e) J L M N O⟩
 self:=λ_ _ _ _ _ f h=>wpAny_pyIter_listiter f h
theorem Xn{P:aN}{w:aR}{K:ae}{tg:Expr}(a it:ah):Turn P w K tg (nt K a) [it] it (λi h=>h.IsTupleIter it a i) where
 mem:=by simp
 obj:=λi h f b j=>by
  have e:b=it:=by simpa using j
  subst e;obtain⟨o,e,c,d⟩:=f;exact⟨o,e,λv z=>by rw[d]at z;cases z⟩
 keep:=λi h n f k=>f.at λo e=>k it (by simp) o e
 item:=by
  intro X t y A Q i g s R H E I q f B;subst t y A;obtain⟨S,x,r,C⟩:=B;obtain⟨l,G,p,T⟩:=I.tuple r;obtain⟨u,U,Y⟩:=G.get C;obtain⟨J,L,Z,M,N,O⟩:=q it (by simp);refine wpAny_pyNext_tuple_item f (show s.heap.IsTuple a l.toArray from p) (x:=u) (by simpa using U) λn m sb=>?_;have I1:Inv X g R H { s with heap:=n}:=I.turned (t':=s.toks) (λb o j e=>(sb.2 b j).trans e) J L M N O;obtain⟨o,e,c,d⟩:=id m;exact⟨u,rfl,mE (s:={ s with heap:=n}) e c d (by decide) ⟨x,H,I1,Y,⟨rfl,λys hy=>by rw[I.tuple_inj hy r];exact C⟩,m,λb j=>(q b j).1⟩⟩
 done:=by
  intro X t y A Q i g s R H E I q f B;subst t y A;obtain⟨S,r,C⟩:=B;obtain⟨l,G,p,T⟩:=I.tuple r;obtain⟨J,L,Z,M,N,O⟩:=q it (by simp);have hl:=G.length;exact wpAny_pyNext_tuple_end (I.ok.hd Q) f (show s.heap.IsTuple a l.toArray from p) (by simp;lia) λn eb=>⟨rfl,I.turned (t':=s.toks) (λb o j e=>eb b o j e) J L M N O⟩
 self:=λ_ _ _ _ _ f h=>wpAny_pyIter_tupleiter f h
theorem L7{P:aN}{w:aR}{K:ae}{tg:Expr}(it:ah)(lo:Int)(n:Nat):Turn P w K tg (sQ lo n) [it] it (λi h=>IsRangeIter h it (lo+(i:Nat)*1) ((n:Int)-(i:Nat)) 1) where
 mem:=by simp
 obj:=λi h a b d=>by
  have e:b=it:=by simpa using d
  subst e;exact⟨_,a,λv z=>by
   have J:CG _=BM v:=z;cases J⟩
 keep:=λi h g a k=>k it (by simp) _ a
 item:=by
  intro X l m p q i c s C H E I j a r;subst l m p;obtain⟨u,x,L,y,A,B⟩:=j it (by simp);have W:=Walks.range (prog:=X.prog) (w:=X.w) (I.ok.hd q) it lo 1 n;refine W.item i s _ _ r a λv g G M f N=>?_;obtain⟨t,rfl⟩:=M;have O:Inv X c C H { s with heap:=g,toks:=G}:=I.turned (λb o d e=>N b o (by simpa using d) e) u x y A B;refine⟨_,rfl,mE (s:={ s with heap:=g,toks:=G}) (n:= "range_iterator") f rfl rfl (by decide) ⟨.int (lo+i),H,O,⟨t,?_⟩,⟨rfl,rfl⟩,f,λb d=>(j b d).1⟩⟩;rw[Int.mul_one]
 done:=by
  intro X l m p q i c s C H E I j a r;subst l m p;obtain⟨u,x,L,y,A,B⟩:=j it (by simp);exact wpAny_pyNext_range_end (I.ok.hd q) a (by have:n<=i:=r;lia) λg Q=>⟨rfl,I.turned (t':=s.toks) (λb o d e=>Q b o d e) u x y A B⟩
 self:=λ_ _ _ _ _ a h=>wpAny_pyIter_rangeiter a h
section
variable {X:Cx}{tg:Expr}
def ba(K:ae)(c:TE):TI:=λd H R=>c d H λx b=>∃a,x=.ref a/\(∃e,SqL K b a e)/\R (nr K a) b
def be(K:ae)(c:TE):TI:=λd H R=>c d H λx b=>∃a,x=.ref a/\(∃e,SqT K b a e)/\R (nt K a) b
theorem Px{l:Expr}{f:TE}(g:PE X l f):PI X tg l (ba X.K f):=by
 intro c s i H R I h;refine zu (g c s i H _ I h) ?_;rintro v s1 ⟨x,j,d,k,m⟩;obtain⟨a,e,⟨u,n⟩,q⟩:=m;subst e;cases k;obtain⟨r,w,p,y⟩:=d.list n;refine wpAny_pyIter_list p.isList ?_;refine⟨s1.heap.objs.size,[s1.heap.objs.size],_,_,j,rfl,d.kept (t':=s1.toks) λb o e=>ai _ e,Xl a _,⟨_,ax _ rfl,rfl,rfl⟩,λb t=>?_,q⟩;have e:b=s1.heap.objs.size:=by simpa using t
 subst e;exact d.fpOk (aj _) (d.hok.fresh (aj _))
theorem PD{l:Expr}{g:TE}(i:PE X l g):PI X tg l (be X.K g):=by
 intro c s j H R I h;refine zu (i c s j H _ I h) ?_;rintro v s1 ⟨x,k,d,m,n⟩;obtain⟨a,e,⟨u,r⟩,q⟩:=n;subst e;cases m;obtain⟨f,w,p,y⟩:=d.tuple r;refine wpAny_pyIter_tuple (show s1.heap.IsTuple a f.toArray from p) ?_;refine⟨s1.heap.objs.size,[s1.heap.objs.size],_,_,k,rfl,d.kept (t':=s1.toks) λb o e=>ai _ e,Xn a _,⟨_,ax _ rfl,rfl,rfl⟩,λb t=>?_,q⟩;have e:b=s1.heap.objs.size:=by simpa using t
 subst e;exact d.fpOk (aj _) (d.hok.fresh (aj _))
theorem Yd{s:ag}{R:It->Hp->Prop}{E:af->ag->Prop}{lo hi:Int}{t:Tok}{tk:Nat}(I:Inv X pins σ H s)(h1:-(2 ^ 62)<=lo)(c:lo<2 ^ 62)(d:-(2 ^ 62)<=hi)(f:hi<2 ^ 62)
 (q:R (sQ lo (hi-lo).toNat) H):au (model X.prog X.w) X.A (pyIter (.ref s.heap.objs.size)) (f9 X pins σ tg R) E { s with heap:=s.heap.push { cls:=.type "range",data:=.fields #[.int lo t,.int hi u,.int 1 v]},toks:=tk}:=by
  refine wpAny_pyIter_range (IsRange.new ..) (small_one h1 c d f) ?_;have a:Inv X pins σ H { s with heap:=s.heap.push { cls:=.type "range",data:=.fields #[.int lo t,.int hi u,.int 1 v]},toks:=tk}:=I.kept λb o e=>ai _ e;refine⟨(s.heap.push { cls:=.type "range",data:=.fields #[.int lo t,.int hi u,.int 1 v]}).objs.size,[(s.heap.push { cls:=.type "range",data:=.fields #[.int lo t,.int hi u,.int 1 v]}).objs.size],_,_,H,rfl,
    a.kept (t':=tk) λb o e=>ai _ e,L7 _ lo (hi-lo).toNat,?_,λb g=>?_,q⟩
  · have h:lo+((0:Nat):Int)*1=lo:=by simp
    have i:(((hi-lo).toNat:Nat):Int)-((0:Nat):Int)=EV lo hi 1:=by rw[rangeSize_one];split <;> lia
    show IsRangeIter _ _ (lo+((0:Nat):Int)*1) ((((hi-lo).toNat:Nat):Int)-((0:Nat):Int)) 1;rw[h,i];exact ax _ rfl
  · have e:b=(s.heap.push { cls:=.type "range",data:=.fields #[.int lo t,.int hi u,.int 1 v]}).objs.size:=by simpa using g
    subst e;exact a.fpOk (aj _) (a.hok.fresh (aj _))
def bb(a:TA):TI:=λb H R=>a b H λc d=>∃j:Int,c=[.int j] /\ -(2 ^ 62)<=j/\j<2 ^ 62/\R (sQ 0 j.toNat) d
def bd(a:TA):TI:=λb H R=>a b H λc d=>∃i j:Int,c=[.int i,.int j]/\(-(2 ^ 62)<=i/\i<2 ^ 62 /\ -(2 ^ 62)<=j/\j<2 ^ 62)/\R (sQ i (j-i).toNat) d
theorem Py(d:Gl X "range")(f:X.mg "range" =ab)(g:PA X [a] ta)(i:aZ [a] X.env=[(false,eval a X.env)]:=by rfl):PI X tg (.Call (.Name "range" p) [a] [] pos) (bb ta):=by
 intro b s k H R I h;refine Call_ (vD I d f boot_range (eK (zu (g pos b s k H _ I h) ?_) i rfl));rintro u s1 ⟨v,w,l,m,c⟩;obtain⟨j,e,c,n,q⟩:=c;subst e;cases m with
 |cons r o=>
  cases o;obtain⟨t,rfl⟩:=r;exact call_range_1 (Yd l (by lia) (by lia) c n (by simpa using q))
theorem Pz(k:Gl X "range")(l:X.mg "range" =ab)(m:PA X [a,b] ta)(n:aZ [a,b] X.env=[(false,eval a X.env),(false,eval b X.env)]:=by rfl)(c:aZ [b] X.env=[(false,eval b X.env)]:=by rfl) :
 PI X tg (.Call (.Name "range" p) [a,b] [] pos) (bd ta):=by
  intro d s o H R I h;refine Call_ (vD I k l boot_range (eK (zu (m pos d s o H _ I h) ?_) (by rw[n,c]) (by rw[c];rfl)));rintro A s1 ⟨B,C,u,v,f⟩;obtain⟨i,j,e,⟨f,w,x,y⟩,q⟩:=f;subst e;cases v with
  |cons r g=>
    cases g with
    |cons z g=>
      cases g;obtain⟨t,rfl⟩:=r;obtain⟨E,rfl⟩:=z;exact call_range_2 (Yd u f w x y q)
def gh(f:TI)(g:TG)(h:TS):TS:=λD a H=>f a H λJ j=>∃W:Nat->Nat->St->Hp->Prop,(∃m,W 0 m a j)/\∀i m a H,W i m a H ->
 (J.stop i H/\D.nx a H)\/(J.go i H/\∃N:St->Hp->Prop,(∀b c,N b c->∃e,e<m/\W (i+1) e b c)/\∀x c,J.yld i H x c->g x a c λd k=>h { D with nx:=N,ct:=N,bk:=D.nx} d k)
def sD(fp:List ah)(h:aX):List (ah×Obj):=fp.filterMap λb=>(h.get? b).map λo=>(b,o)
theorem rQ{h:aX}(a:b∈fp)(e:h.get? b=aa o):(b,o)∈sD fp h:=Ag.mpr ⟨b,a,by rw[e];rfl⟩
theorem Qh{h:aX}{p:ah×Obj}(a:p∈sD fp h):p.1∈fp/\h.get? p.1=aa p.2:=by
 obtain⟨b,c,e⟩:=Ag.mp a;cases q:h.get? b with
 |none=>rw[q]at e;cases e
 |some o=>
  rw[q]at e;have d:(b,o)=p:=aO e;subst d;exact⟨c,q⟩
theorem Inv.pinned{s:ag}{fp:List ah}(I:Inv X pins σ H s)(f:∀b∈fp,y4 X pins H b)(g:∀b∈fp,∃o,s.heap.get? b=aa o/\∀v,o.data≠.cell v):Inv X (pins++sD fp s.heap) σ H s:=
 I.pins_of λp h=>(ed.mp h).elim (λz=>I.pin p (aE _ z)) λz=>by
  obtain⟨a,e⟩:=Qh z;obtain⟨i,j,k,_⟩:=f p.1 a;obtain⟨o,c,d⟩:=g p.1 a;rw[e]at c;cases c;exact⟨e,i,j,k,d⟩
theorem Inv.unpinned(I:Inv X (pins++pl) σ H s):Inv X pins σ H s:=I.pins_of λp a=>I.pin p (aE _ (em _ a))
theorem P3(C:PassesOwn (model X.prog X.w) X.A X.env X.xe)(hc:X.calm=true)(hi:PI X tg iter wi)(hg:PG X tg g)(j:PSs X body tb)
 (hs:∀x,eP iter X.env x=pure x:=by intro _;rfl):PS X (.For tg iter body [] pos) (gh wi g tb):=by
  intro a s σ H D I h;refine wpAny_For (zu (hi a s σ H _ I h) λv s1 h1=>zu h1 λitv s2 h2=>?_) hs;obtain⟨it,E,tn,J,H2,e,I2,T,Q,f2,W,⟨m0,w0⟩,G⟩:=h2;subst e;have k:∀{H':Hp},(∀b∈E,H' b=ab)->∀b∈E,y4 X a H' b:=λhn b j=>⟨hn b j,(f2 b j).2⟩
  refine codeAny_forLoop_any (λn s'=>∃i l H',Inv X a l H' s'/\tn i s'.heap/\(∀b∈E,H' b=ab)/\W i n l H') ?_ m0 ⟨0,σ,H2,I2,Q,λb j=>(f2 b j).1,w0⟩;rintro n s3 ⟨i,p,P,I3,K,L,w3⟩;rcases G i n p P w3 with ⟨stop,qn⟩|⟨go,N,hN,M⟩
  · refine wpAny_passesOwn C (zu (T.done X rfl rfl rfl hc i a s3 p P X.xe I3 (k L) K stop) ?_);rintro r s4 ⟨R,I4⟩;subst R;exact wpAny_execs_nil ⟨p,P,I4,qn⟩
  · refine wpAny_passesOwn C (zu (T.item X rfl rfl rfl hc i a s3 p P X.xe I3 (k L) K go) ?_);rintro r s4 ⟨u,R,h4⟩;subst R;refine wpAny_passesOwn C (zu h4 ?_);rintro _ s5 ⟨x,H5,I5,r5,y5,B,S⟩;have U:=I5.pinned (k S) (T.obj _ _ B);refine wpAny_passesOwn C (zu (hg _ s5 p H5 x u _ U r5 (M x H5 y5)) ?_);rintro _ s6 ⟨Y,H6,I6,q6⟩;refine wpAny_passesOwn C (zu (j _ s6 Y H6 _ I6 q6) λf Z z=>?_);have q:∀{c:St} {t:Hp},Inv X (a++sD E s5.heap) c t Z->N c t->∃m,m<n/\∃i l H',Inv X a l H' Z/\tn i Z.heap/\(∀b∈E,H' b=ab)/\W i m l H':=fun {c t} y O=>by
      obtain⟨m',hm,w7⟩:=hN c t O;refine⟨m',hm,i+1,c,t,y.unpinned,T.keep _ _ _ B λb j o e=>(y.pin (b,o) (aE _ (aE _ (rQ j e)))).1,λb j=>?_,w7⟩;obtain⟨o,e,d⟩:=T.obj _ _ B b j;exact(y.pin (b,o) (aE _ (aE _ (rQ j e)))).2.1
    cases f with
    |next=>obtain⟨c,t,y,O⟩:=z;exact q y O
    |cont=>obtain⟨c,t,y,O⟩:=z;exact q y O
    |brk=>obtain⟨c,t,y,z⟩:=z;exact⟨c,t,y.unpinned,z⟩
    |ret v=>obtain⟨x7,c,t,y,r7,z⟩:=z;exact⟨x7,c,t,y.unpinned,r7,z⟩
end
abbrev R2:=V->V->Hp->VK->Prop
def yA(X:Cx)(f:af->af->Sem af)(r:R2):Prop:=
 ∀(a:List (ah×Obj)) (s:ag) (b:St) (H:Hp) (x y:V) (v u:af) (Q:VK),Inv X a b H s->RelV x v->RelV y u->r x y H Q ->
  au (model X.prog X.w) X.A (f v u) (EP X a b Q) X.xe s
def qs(X:Cx)(f:af->Sem af)(r:V->Hp->VK->Prop):Prop:=
 ∀(a:List (ah×Obj)) (s:ag) (b:St) (H:Hp) (x:V) (v:af) (Q:VK),Inv X a b H s->RelV x v->r x H Q ->
  au (model X.prog X.w) X.A (f v) (EP X a b Q) X.xe s
def wT(X:Cx)(f:af)(r:List V->Hp->VK->Prop):Prop:=
 ∀(a:List (ah×Obj)) (s:ag) (b:St) (H:Hp) (c:List V) (d:List af) (Q:VK),Inv X a b H s->Vals c d->r c H Q ->
  au (model X.prog X.w) X.A (call f d) (EP X a b Q) X.xe s
def uq(r:R2)(b c:TE):TE:=λa H Q=>b a H λx d=>c a d λy e=>r x y e Q
def Y5(r:V->Hp->VK->Prop)(a:TE):TE:=λb H Q=>a b H λx c=>r x c Q
def rI(C:Int->Int->Prop)(g:Int->Int->V):R2:=λx y H Q=>∃i j,x=.int i/\y=.int j/\C i j/\Q (g i j) H
def up(g:Int->Int->V):R2:=λx y H Q=>∃i j,x=.int i/\y=.int j/\Q (g i j) H
def rU(g:Int->V):V->Hp->VK->Prop:=λx H Q=>∃i,x=.int i/\Q (g i) H
section
variable {X:Cx}{a b c:Expr}{ta tb tc:TE}{pos:Pos}
theorem kB(k:PE X a ta)(l:PE X b tb){R:V->V->Hp->Prop}(I:Inv X pins σ H s)
 (h:ta σ H λx j=>tb σ j λy d=>R x y d) {Q:af->ag->Prop} {f:af->af->Sem af}
 (m:∀v u i x y d,Inv X pins σ d i->RelV x v->RelV y u->R x y d->au (model X.prog X.w) X.A (f v u) Q X.xe i) :
 au (model X.prog X.w) X.A (eval a X.env) (λv e=>au (model X.prog X.w) X.A (eval b X.env) (λu g=>au (model X.prog X.w) X.A (f v u) Q X.xe g) X.xe e) X.xe s:=by
  refine zu (k pins s σ H _ I h) ?_;rintro v s1 ⟨x,j,n,o,p⟩;refine zu (l pins s1 σ j _ n p) ?_;rintro u i ⟨y,d,q,r,t⟩;exact m v u i x y d q o r t
theorem Pi(e:yA X (binaryOp op) r)(f:PE X a ta)(g:PE X b tb):PE X (.BinOp a op b pos) (uq r ta tb):=by
 intro d s i H Q I h;exact wpAny_BinOp (kB f g I h λv u j x y k l m n q=>e d j i k x y v u Q l m n q)
theorem Pp{r:V->Hp->VK->Prop}(f:qs X (unaryOp op) r)(g:PE X a ta):PE X (.UnaryOp op a pos) (Y5 r ta):=by
 intro d s e H Q I h;exact UnaryOp_ (zu (g d s e H _ I h) λv s1 ⟨x,i,j,k,l⟩=>f d s1 e i x v Q j k l)
theorem mZ{f:af->af->Sem af}{C:Int->Int->Prop}{g:Int->Int->Int}
  (d:∀(i j:Int) (t u:Tok) (s:ag) (Q:af->ag->Prop) (E:af->ag->Prop),C i j->Q (.int (g i j) s.toks) { s with toks:=s.toks+1}->au (model X.prog X.w) X.A (f (.int i t) (.int j u)) Q E s) :
  yA X f (rI C λi j=>.int (g i j)):=by
 intro e s o H x y v u Q I k l h;obtain⟨i,j,rfl,rfl,m,q⟩:=h;obtain⟨t,rfl⟩:=k;obtain⟨n,rfl⟩:=l;exact d i j t n s _ _ m ⟨.int (g i j),H,I.tok _,⟨_,rfl⟩,q⟩
theorem m5{f:af->af->Sem af}{g:Int->Int->Int}
  (d:∀(i j:Int) (t u:Tok) (s:ag) (Q:af->ag->Prop) (E:af->ag->Prop),Q (.int (g i j) s.toks) { s with toks:=s.toks+1}->au (model X.prog X.w) X.A (f (.int i t) (.int j u)) Q E s) :
  yA X f (up λi j=>.int (g i j)):=by
 intro e s n H x y v u Q I k l h;obtain⟨i,j,rfl,rfl,q⟩:=h;obtain⟨t,rfl⟩:=k;obtain⟨m,rfl⟩:=l;exact d i j t m s _ _ ⟨.int (g i j),H,I.tok _,⟨_,rfl⟩,q⟩
theorem mY{f:af->af->Sem af}{g:Int->Int->Bool}
  (d:∀(i j:Int) (t u:Tok) (s:ag) (Q:af->ag->Prop) (E:af->ag->Prop),Q (.bool (g i j)) s->au (model X.prog X.w) X.A (f (.int i t) (.int j u)) Q E s) :
  yA X f (up λi j=>.bl (g i j)):=by
 intro e s n H x y v u Q I k l h;obtain⟨i,j,rfl,rfl,q⟩:=h;obtain⟨t,rfl⟩:=k;obtain⟨m,rfl⟩:=l;exact d i j t m s _ _ ⟨.bl (g i j),H,I,rfl,q⟩
def XT(i j:Int):Prop:=0<j/\j<1073741824
def XU(i j:Int):Prop:=0<=j/\j<=1000000/\i.natAbs<2 ^ 64
def CMul(i j:Int):Prop:=(-(2 ^ 64)<i/\i<2 ^ 64)\/(-(2 ^ 64)<j/\j<2 ^ 64)
theorem CMul.ok{i j:Int}(h:CMul i j):IntMulOk i j:=by
 rcases h with ⟨d,e⟩|⟨d,e⟩
 ·exact .of_left (intBits_le_64 d e)
 ·exact .of_right (intBits_le_64 d e)
theorem Qj:yA X (binaryOp .Add) (up λi j=>.int (i+j)):=m5 λ_ _ _ _ _ _ _ q=>add_int q
theorem QI:yA X (binaryOp .Sub) (up λi j=>.int (i-j)):=m5 λ_ _ _ _ _ _ _ q=>sub_int q
theorem QB:yA X (binaryOp .Mult) (rI CMul λi j=>.int (i*j)):=mZ λ_ _ _ _ _ _ _ d q=>mul_int q d.ok
theorem Qr:yA X (binaryOp .FloorDiv) (rI XT λi j=>.int (i / j)):=mZ λi j _ _ _ _ _ d q=>by
 have e:(0:Int)<j:=d.1;have f:j<1073741824:=d.2;exact floordiv_int (by lia) (by rw[Int.fdiv_eq_ediv_of_nonneg i (by lia)];exact q) (.inl (PyProof.noPylong_small (by lia)))
theorem QA:yA X (binaryOp .Mod) (rI (λ_ j=>0<j) λi j=>.int (i%j)):=mZ λi j _ _ _ _ _ d q=>by
 have e:(0:Int)<j:=d;exact mod_int' (by lia) (by rw[Int.fmod_eq_emod_of_nonneg i (by lia)];exact q)
theorem QH:yA X (binaryOp .LShift) (rI XU λi j=>.int (i*2 ^ j.toNat)):=mZ λ_ _ _ _ _ _ _ d q=>lshift_int_small d.1 d.2.1 d.2.2 q
theorem Ql:yA X (binaryOp .BitAnd) (up λi j=>.int (Builtin.bitAnd i j)):=m5 λ_ _ _ _ _ _ _ q=>and_int q
theorem QG:yA X (binaryOp .BitOr) (up λi j=>.int (Builtin.bitOr i j)):=m5 λ_ _ _ _ _ _ _ q=>or_int q
theorem Kh{f:af->Sem af}{g:Int->Int}
  (d:∀(i:Int) (t:Tok) (s:ag) (Q:af->ag->Prop) (E:af->ag->Prop),Q (.int (g i) s.toks) { s with toks:=s.toks+1}->au (model X.prog X.w) X.A (f (.int i t)) Q E s) :
  qs X f (rU λi=>.int (g i)):=by
 intro e s k H x v Q I j h;obtain⟨i,rfl,q⟩:=h;obtain⟨t,rfl⟩:=j;exact d i t s _ _ ⟨.int (g i),H,I.tok _,⟨_,rfl⟩,q⟩
theorem Ki:qs X (unaryOp .USub) (rU λi=>.int (-i)):=Kh λ_ _ _ _ _ q=>neg_int q
end
noncomputable def la:V->V->Bool
 |.non,.non=>true|.non,.int _=>true|.int _,.non=>true|.non,.bl _=>true|.bl _,.non=>true|.non,.str _=>true|.str _,.non=>true
 |.int _,.int _=>true|.bl _,.bl _=>true|.str _,.str _=>true|.byt _,.byt _=>true
 |.int _,.str _=>true|.str _,.int _=>true|.bl _,.str _=>true|.str _,.bl _=>true
 | _,_=>false
def Nv:R2:=λx y H Q=>la x y=true/\Q (.bl (decide (x=y))) H
def NB:R2:=λx y H Q=>la x y=true/\Q (.bl (!decide (x=y))) H
theorem dZ{i j:Int}:decide (V.int i=V.int j)=(i==j):=by
 rw[on];simp
theorem dW{i j:Bool}:decide (V.bl i=V.bl j)=(i==j):=by
 rw[on];simp
theorem d3:decide (V.str i=V.str j)=(i==j):=by
 rw[on];simp
theorem dX{i j:Array UInt8}:decide (V.byt i=V.byt j)=(i.toList==j.toList):=by
 rw[on];cases i;cases j;simp
section
variable {X:Cx}{a b c:Expr}{ta tb tc:TE}{pos:Pos}
theorem yE{k d:Bool}(I:Inv X pins σ H s)(q:Q (.bl k) H)(e:k=d):EP X pins σ Q (.bool d) s:=by
 subst e;exact⟨.bl k,H,I,rfl,q⟩
theorem Qp:yA X (ej .Eq) Nv:=by
 intro k s l H x y v u Q I g d h;obtain⟨f,q⟩:=h;cases x with
 |non=>
  cases g;cases y with
  |non=>cases d;exact Et (yE I q (by simp))
  |bl j=>cases d;exact Es (yE I q (by simp))
  |int j=>obtain⟨e,rfl⟩:=d;exact EI (yE I q (by simp))
  |str j=>obtain⟨e,rfl⟩:=d;exact EJ (yE I q (by simp))
  | _=>exact absurd (show false=true from f) aK
 |bl i=>
  cases g;cases y with
  |non=>cases d;exact Er (yE I q (by simp))
  |bl j=>cases d;exact eq_bool (yE I q dW)
  |str j=>obtain⟨e,rfl⟩:=d;exact El (yE I q (by simp))
  | _=>exact absurd (show false=true from f) aK
 |int i=>
  obtain⟨t,rfl⟩:=g;cases y with
  |non=>cases d;exact EH (yE I q (by simp))
  |int j=>obtain⟨e,rfl⟩:=d;exact eq_int (yE I q dZ)
  |str j=>obtain⟨e,rfl⟩:=d;exact ED (yE I q (by simp))
  | _=>exact absurd (show false=true from f) aK
 |str i=>
  obtain⟨t,rfl⟩:=g;cases y with
  |non=>cases d;exact EK (yE I q (by simp))
  |bl j=>cases d;exact Em (yE I q (by simp))
  |int j=>obtain⟨e,rfl⟩:=d;exact EE (yE I q (by simp))
  |str j=>obtain⟨e,rfl⟩:=d;exact eq_str (yE I q d3)
  | _=>exact absurd (show false=true from f) aK
 |byt i=>
  obtain⟨t,rfl⟩:=g;cases y with
  |byt j=>obtain⟨e,rfl⟩:=d;exact PySem.W.eq_bytes (yE I q dX)
  | _=>exact absurd (show false=true from f) aK
 | _=>cases y <;> exact absurd (show false=true from f) aK
theorem QC:yA X (ej .NotEq) NB:=by
 intro k s l H x y v u Q I g d h;obtain⟨f,q⟩:=h;cases x with
 |non=>
  cases g;cases y with
  |non=>cases d;exact Ew (yE I q (by simp))
  |bl j=>cases d;exact Ev (yE I q (by simp))
  |int j=>obtain⟨e,rfl⟩:=d;exact EM (yE I q (by simp))
  |str j=>obtain⟨e,rfl⟩:=d;exact EN (yE I q (by simp))
  | _=>exact absurd (show false=true from f) aK
 |bl i=>
  cases g;cases y with
  |non=>cases d;exact Eu (yE I q (by simp))
  |bl j=>cases d;exact ne_bool (yE I q (congrArg not dW))
  |str j=>obtain⟨e,rfl⟩:=d;exact Eo (yE I q (by simp))
  | _=>exact absurd (show false=true from f) aK
 |int i=>
  obtain⟨t,rfl⟩:=g;cases y with
  |non=>cases d;exact EL (yE I q (by simp))
  |int j=>obtain⟨e,rfl⟩:=d;exact ne_int (yE I q (congrArg not dZ))
  |str j=>obtain⟨e,rfl⟩:=d;exact EF (yE I q (by simp))
  | _=>exact absurd (show false=true from f) aK
 |str i=>
  obtain⟨t,rfl⟩:=g;cases y with
  |non=>cases d;exact EO (yE I q (by simp))
  |bl j=>cases d;exact Ep (yE I q (by simp))
  |int j=>obtain⟨e,rfl⟩:=d;exact EG (yE I q (by simp))
  |str j=>obtain⟨e,rfl⟩:=d;exact ne_str (yE I q (congrArg not d3))
  | _=>exact absurd (show false=true from f) aK
 |byt i=>
  obtain⟨t,rfl⟩:=g;cases y with
  |byt j=>obtain⟨e,rfl⟩:=d;exact PySem.W.ne_bytes (yE I q (congrArg not dX))
  | _=>exact absurd (show false=true from f) aK
 | _=>cases y <;> exact absurd (show false=true from f) aK
theorem Qz:yA X (ej .Lt) (up λi j=>.bl (decide (i<j))):=mY λ_ _ _ _ _ _ _ q=>lt_int q
theorem Qy:yA X (ej .LtE) (up λi j=>.bl (decide (i<=j))):=mY λ_ _ _ _ _ _ _ q=>le_int q
theorem Qt:yA X (ej .Gt) (up λi j=>.bl (decide (j<i))):=mY λ_ _ _ _ _ _ _ q=>gt_int q
theorem Qs:yA X (ej .GtE) (up λi j=>.bl (decide (j<=i))):=mY λ_ _ _ _ _ _ _ q=>ge_int q
theorem Qv:yA X (ej .In) (λx y H Q=>∃i j,x=.str i/\y=.str j/\Q (.bl (!(AR j i 0 j.length 1).isEmpty)) H):=by
 intro d s g H x y v u Q I e f h;obtain⟨i,j,rfl,rfl,q⟩:=h;obtain⟨t,rfl⟩:=e;obtain⟨k,rfl⟩:=f;exact in_str (yE I q rfl)
theorem Qx:yA X (ej .Is) (λx y H Q=>y=.non/\Q (.bl (decide (x=.non))) H):=by
 intro d s g H x y v u Q I e f h;obtain⟨rfl,q⟩:=h;cases f;refine is_none_gen (yE I q ?_);cases x <;> first
  |(cases e;rfl)
  |(obtain⟨t,rfl⟩:=e;rfl)
theorem QE:yA X (ej .IsNot) (λx y H Q=>y=.non/\Q (.bl (!decide (x=.non))) H):=by
 intro d s g H x y v u Q I e f h;obtain⟨rfl,q⟩:=h;cases f;refine isnot_none_gen (yE I q ?_);cases x <;> first
  |(cases e;rfl)
  |(obtain⟨t,rfl⟩:=e;rfl)
theorem QF:yA X (ej .NotIn) (λx y H Q=>∃i j,x=.str i/\y=.str j/\Q (.bl (!(!(AR j i 0 j.length 1).isEmpty))) H):=by
 intro d s g H x y v u Q I e f h;obtain⟨i,j,rfl,rfl,q⟩:=h;obtain⟨t,rfl⟩:=e;obtain⟨k,rfl⟩:=f;exact notIn_str (yE I q rfl)
theorem Q4(e:yA X (ej op) r)(f:PE X a ta)(g:PE X b tb)(i:behindInMarks op b=false):PE X (.Compare a [op] [b] pos) (uq r ta tb):=by
 intro d s j H Q I h;exact wpAny_Compare1 (kB f g I h λv u k x y l m n o q=>e d k j l x y v u Q m n o q) i
def Y3(t:TE):TT:=λd H Q=>t d H λx e=>∃k,x=.bl k/\Q k e
theorem Ng(g:yA X (ej op) r)(i:PE X a ta)(j:PE X b tb)(l:behindInMarks op b=false):PT X (.Compare a [op] [b] pos) (Y3 (uq r ta tb)):=by
 intro d s f H Q I h;refine wpAny_isTrue_Compare1 (zu (i d s f H _ I h) λv s1 ⟨x,m,n,o,p⟩=>zu (j d s1 f m _ n p) λu q ⟨y,t,w,A,B⟩=>
  zu (g d q f t x y v u _ w o A B) λc K ⟨z,C,E,G,k,e,J⟩=>?_) l
 subst e;cases G;exact wpAny_truthy_bool ⟨C,E,J⟩
theorem rO:(aS:Nat)<2 ^ 63:=by rw[ih];decide
theorem Qk:yA X (binaryOp .Add) (λx y H Q=>∃i j,x=.str i/\y=.str j/\i.length+j.length<=aS/\Q (.str (i++j)) H):=by
 intro d s l H x y v u Q I e f h;obtain⟨i,j,rfl,rfl,g,q⟩:=h;obtain⟨t,rfl⟩:=e;obtain⟨k,rfl⟩:=f;exact add_str (λk m=>⟨.str (i++j),H,I.tok _,⟨_,rfl⟩,q⟩) g
theorem ur(r:Vals [x] us):∃u,us=[u]/\RelV x u:=by
 cases r with
 |cons d e=>cases e;exact⟨_,rfl,d⟩
theorem gv(r:Vals [x,y] us):∃u w',us=[u,w']/\RelV x u/\RelV y w':=by
 cases r with
 |cons d e=>
  cases e with
  |cons f g=>cases g;exact⟨_,_,rfl,d,f⟩
theorem WZ(g:X.calm=true):wT X (.builtin "max") (λe H Q=>∃i j,e=[.int i,.int j]/\Q (.int (if j > i then j else i)) H):=by
 intro f s l H e m Q I r h;obtain⟨i,j,rfl,q⟩:=h;obtain⟨u,n,rfl,⟨t,rfl⟩,⟨o,rfl⟩⟩:=gv r;refine max_two_ints (I.ok.hd g) λp v k=>⟨_,H,I.kept k,?_,q⟩
 by_cases d:j > i
 ·rw[if_pos d,if_pos d];exact⟨_,rfl⟩
 ·rw[if_neg d,if_neg d];exact⟨_,rfl⟩
theorem W0(g:X.calm=true):wT X (.builtin "min") (λe H Q=>∃i j,e=[.int i,.int j]/\Q (.int (if j<i then j else i)) H):=by
 intro f s l H e m Q I r h;obtain⟨i,j,rfl,q⟩:=h;obtain⟨u,n,rfl,⟨t,rfl⟩,⟨o,rfl⟩⟩:=gv r;refine min_two_ints (I.ok.hd g) λp v k=>⟨_,H,I.kept k,?_,q⟩
 by_cases d:j<i
 ·rw[if_pos d,if_pos d];exact⟨_,rfl⟩
 ·rw[if_neg d,if_neg d];exact⟨_,rfl⟩
end
structure ObjM(h:aX)(x dx C:ah)(mA:Str->Option af):Prop where
 obj:h.get? x=aa (ow C dx)
 ns:h.Ns1 dx mA
 ne:dx≠x
theorem S1{h:aX}{d:Str->Option af}(n:h.Ns1 dx d):∃f,h.get? dx=aa f/\∀b,BG b f=aa (d b):=by
 obtain⟨o,g,r,i,j,k,_,l⟩:=n;refine⟨o,i,λb=>?_⟩;have e:=l b;unfold nsFind findBy at e;rw[<- Array.find?_toList]at e;unfold BG;rw[j];dsimp only;split
 ·rename_i y q;rw[q]at e;exact congrArg aa e
 ·rename_i q;rw[q]at e;have a:g.toList.any (·.refKey)=false:=by
   rw[List.any_eq_false];intro y m;obtain⟨z,t,c⟩:=k y (ol.mp m);simp[FK,c]
  have p:¬ g.toList.any (·.refKey)=true:=by rw[a];exact aK
  rw[if_neg p];exact congrArg aa e
theorem ObjM.look{c:Str->Option af}(I:ObjM h x dx C c):∃b,PySem.W.InstAt h x (ow C dx) C (aa b)/\∀a,BG a b=aa (c a):=
 let⟨b,ho,hl⟩:=S1 I.ns
 ⟨b,⟨I.obj,rfl,rfl,ho⟩,hl⟩
section
variable {prog:aN}{w:aR}{A:a4}{E:af->ag->Prop}{s:ag}{K:ae}{x dx C f:ah}{mA:Str->Option af}{name:Str}{v:af}
theorem Ug{a:Bool}{Q:af->ag->Prop}(X:K.In s.heap)(I:ObjM s.heap x dx C mA)(c:AB K C name=true)(d:AX K C=true)
  (e:iw K (.ref C) name=aa ab) (g:mA name=aa v) (b:DW v=true) (h:Q v { s with toks:=s.toks+1}) :
  au (model prog w) A (getAttr (.ref x) name a) Q E s:=by
 obtain⟨j,J,i⟩:=I.look;exact PySem.W.get_value X J (BD c).1 (PySem.W.findObj_own d e rfl (by rw[i,g])) b h
theorem Uh{Q:af×List af->ag->Prop}(X:K.In s.heap)(I:ObjM s.heap x dx C mA)(a:AB K C name=true)
 (b:iw K (.ref C) name=aa (aa (.ref f))) (c:Cp K (.ref f)=true) (d:mA name=ab) (h:Q (.ref f,[.ref x]) s) :
 au (model prog w) A (getMethod (.ref x) name pl) Q E s:=by
  obtain⟨e,J,g⟩:=I.look;exact PySem.W.method_fn X J (BD a).1 (BD a).2 b (beq_iff_eq.mp c) (by show(BG name e).map (·.isSome)=aa false;rw[g,d];rfl) h
theorem MI{ns:List Str}{Q:Unit->ag->Prop}(X:K.In s.heap)(I:ObjM s.heap x dx C mA)
  (l:iw K (.ref C) "__setattr__" =aa (aa (.builtin "object.__setattr__"))) (m:B7 K C=true) (n:CC K C name=aa ab) (o:AX K C=true)
  (p:Ds mA ns) (hsz:ns.length<=aS)
  (h:∀e,ObjM e x dx C (λy=>if y=name then aa v else mA y)->o7 dx s.heap e->Q () { s with heap:=e,toks:=s.toks+2}) :
  au (model prog w) A (setAttr (.ref x) name v) Q E s:=by
 obtain⟨B,J,G⟩:=I.look;refine PySem.W.set_plain X J l (PySem.W.osa_open (s:={ s with toks:=s.toks+1}) (r:=ab) X J m n λb=>?_);obtain⟨H,q,g⟩:=PySem.W.any_some o;have t:s.heap.get? x=aa ⟨.ref C,aa dx,.plain,#[]⟩:=I.obj;refine ac (am (ac (ac (wpAny_loadPart t (ac (Fs (s:={ s with toks:=s.toks+1}) (PySem.W.looks_clsIn X q) ?_))))));rw[g];refine am (a:=aa dx) (ac (am (ac ?_)));refine wpAny_nsSet1 (s:={ s with toks:=s.toks+1}) I.ns λe c d=>?_;obtain⟨oD,u,z,i,j,k⟩:=c.count (FH name v p);refine ac (wpAny_lookBehind i (by rw[j];exact pastItsLine_dict (aH k (by rw[aI];lia))) ?_);exact am (h _ ⟨(d.2 _ (iM I.ne)).trans I.obj,c,I.ne⟩ d)
theorem Ri{R:Result->ag->Prop}{vs:List af}(X:K.In s.heap)(a:CB K C=true)
 (hi:iw K (.ref C) "__init__" =aa (aa (.ref f))) (b:PySem.W.typeIn K (.ref f)=aa (.type "function"))
 (h:codeAny (model prog w) (A.under (.builtin "type.__call__" ⟨.ref C::vs,kw⟩)) (.call (.ref f) ⟨.ref (s.heap.objs.size+1)::vs,kw⟩) (PySem.W.InitBack (s.heap.objs.size+1) R)
 { s with heap:=(s.heap.push iV).push (ow C s.heap.objs.size)}) :
 codeAny (model prog w) A (.call (.ref C) ⟨vs,kw⟩) R s:=by
  obtain⟨c,g,d,t,e⟩:=s;exact PySem.W.make_core (PySem.W.makes_of X a) (PySem.W.looks_findIn X hi) (λself=>PySem.W.bind_fn X self b) (.inl rfl) h
end
noncomputable def we(f:Str)(v:V):List (Str×V)->List (Str×V)
 |[]=>[(f,v)]
 |(g,x)::r=>if g=f then (g,v)::r else (g,x)::we f v r
theorem Zq(f g:Str)(v:V):∀c:List (Str×V),(we f v c).lookup g=if g=f then aa v else c.lookup g
 |[]=>by
  show ir g [(f,v)]=_;by_cases h:g=f
  ·have a:(g==f)=true:=beq_iff_eq.mpr h;simp only[ir,a,if_pos h]
  ·have a:(g==f)=false:=beq_eq_false_iff_ne.mpr h;simp only[ir,a,if_neg h]
 |(k,x)::r=>by
  have d:=Zq f g v r;rw[show we f v ((k,x)::r)=(if k=f then (k,v)::r else (k,x)::we f v r)from rfl];by_cases b:k=f
  ·rw[if_pos b];by_cases h:g=k
   ·have a:(g==k)=true:=beq_iff_eq.mpr h;simp only[ir,a,if_pos (h.trans b)]
   ·have a:(g==k)=false:=beq_eq_false_iff_ne.mpr h;simp only[ir,a,if_neg (λe:g=f=>h (e.trans b.symm))]
  ·rw[if_neg b];by_cases h:g=k
   ·have a:(g==k)=true:=beq_iff_eq.mpr h;simp only[ir,a,if_neg (λe:g=f=>b (h.symm.trans e))]
   ·have a:(g==k)=false:=beq_eq_false_iff_ne.mpr h;simp only[ir,a];exact d
theorem jy(f:Str)(v:V):∀a:List (Str×V),f∈(we f v a).map (·.1)/\∀g,g∈a.map (·.1)->g∈(we f v a).map (·.1)
 |[]=>⟨by simp[we],λg h=>by simp at h⟩
 |(k,x)::r=>by
  obtain⟨c,d⟩:=jy f v r;rw[show we f v ((k,x)::r)=(if k=f then (k,v)::r else (k,x)::we f v r)from rfl];by_cases b:k=f
  ·rw[if_pos b];subst b;exact⟨by simp,λg h=>by simpa using h⟩
  ·rw[if_neg b];refine⟨?_,λg h=>?_⟩
   ·rw[ay];exact aq _ c
   ·rw[ay]at h ⊢;rcases aC.mp h with e|e
    ·exact aC.mpr (.inl e)
    ·exact aq _ (d g e)
theorem Zh(f:Str)(v:V):∀a:List (Str×V),(we f v a).length<=a.length+1
 |[]=>by simp[we]
 |(k,x)::r=>by
  have c:=Zh f v r;rw[show we f v ((k,x)::r)=(if k=f then (k,v)::r else (k,x)::we f v r)from rfl];by_cases b:k=f
  ·rw[if_pos b,aI,aI];lia
  ·rw[if_neg b,aI,aI];lia
theorem RelO.some_of(r:RelO (aa v) o):∃u,o=aa u/\RelV v u:=by
 cases o with
 |none=>exact(show False from r).elim
 |some u=>exact⟨u,rfl,r⟩
theorem RelO.none_of(r:RelO ab o):o=ab:=by
 cases o with
 |none=>rfl
 |some u=>exact(show False from r).elim
theorem Ut(r:RelV v u):DW u=true:=by
 cases v with
 |non=>cases (show u=ox from r);rfl
 |bl b=>cases (show u=By b from r);rfl
 |int i=>obtain⟨t,e⟩:=(show ∃t,u=Bm i t from r);cases e;rfl
 |str x=>obtain⟨t,e⟩:=(show ∃t,u=en x t from r);cases e;rfl
 |byt b=>obtain⟨t,e⟩:=(show ∃t,u=Fa b t from r);cases e;rfl
 |flt b=>obtain⟨t,e⟩:=(show ∃t,u=DL b t from r);cases e;rfl
 |ref a=>cases (show u=ea a from r);rfl
 |ty n=>cases (show u=oy n from r);rfl
section
variable {P:aN}{w:aR}{H H':Hp}{h h':aX}{a C dx:ah}{fs fs':List (Str×V)}
theorem mG(c:HOk P w H h)(e:H a=aa (.ins C dx fs)):∃b,ObjM h a dx C b/\(∀f,RelO (fs.lookup f) (b f))/\Ds b (fs.map (·.1))/\fs.length<=1000/\H dx=aa (.own a):=by
 obtain⟨d,z,g,i,b,n,r,q⟩:=(show ObjOk P w H h a (.ins C dx fs)from c a _ e);exact⟨b,⟨i,n,g⟩,r,q,z,d⟩
end
structure Cls(K:ae)(C:ah):Prop where
 pg:AB K C Fw=true
 hd:AX K C=true
 po:B7 K C=true
 sa:iw K (.ref C) "__setattr__" =aa (aa (.builtin "object.__setattr__"))
theorem Cls.get{K:ae}{C:ah}(c:Cls K C)(f:Str):AB K C f=true:=c.pg
def NoAttr(K:ae)(C:ah)(f:Str):Prop:=iw K (.ref C) f=aa ab
theorem NoAttr.taker{K:ae}{C:ah}{f:Str}(n:NoAttr K C f):CC K C f=aa ab:=by
 unfold CC;rw[show iw K (.ref C) f=aa ab from n];rfl
structure Meth(K:ae)(C:ah)(m:Str)(f:ah):Prop where
 at_:iw K (.ref C) m=aa (aa (.ref f))
 fn:Cp K (.ref f)=true
 kp:i3 K (.ref f)=true
section
variable {X:Cx}{pins:List (ah×Obj)}{σ:St}{H:Hp}{s:ag}{a C dx:ah}{fs:List (Str×V)}{f:Str}{v:V}{A:a4}{E:af->ag->Prop}
theorem Ui{b:Bool}{Q:af->ag->Prop}(I:Inv X pins σ H s)(e:H a=aa (.ins C dx fs))(c:Cls X.K C)(n:NoAttr X.K C f)(l:fs.lookup f=aa v)
  (h:∀u d,Inv X pins σ H d->RelV v u->Q u d):au (model X.prog X.w) A (getAttr (.ref a) f b) Q E s:=by
 obtain⟨i,O,r,_,_,_⟩:=mG I.hok e;obtain⟨u,j,g⟩:=RelO.some_of (v:=v) (o:=i f) (by rw[<- l];exact r f);exact Ug I.kIn O (c.get f) c.hd n j (Ut g) (h u _ (I.tok _) g)
theorem c8{Q:af×List af->ag->Prop}(I:Inv X pins σ H s)(e:H a=aa (.ins C dx fs))(c:Cls X.K C)(k:Meth X.K C m g)(l:fs.lookup m=ab)
 (h:Q (.ref g,[.ref a]) s):au (model X.prog X.w) A (getMethod (.ref a) m pl) Q E s:=by
  obtain⟨b,O,r,_,_,_⟩:=mG I.hok e;have d:b m=ab:=RelO.none_of (by rw[<- l];exact r m);exact Uh I.kIn O (c.get m) k.at_ k.fn d h
theorem MK{Q:Unit->ag->Prop}(I:Inv X pins σ H s)(e:H a=aa (.ins C dx fs))(c:Cls X.K C)(n:NoAttr X.K C f)(M:fs.length<1000)(m:RelV y u)
 (h:∀i,Inv X pins σ (zp H a (.ins C dx (we f y fs))) i->Q () i):au (model X.prog X.w) A (setAttr (.ref a) f u) Q E s:=by
  obtain⟨j,O,r,k,_,l⟩:=mG I.hok e;have p:(fs.map (·.1)).length<=aS:=by rw[ar,ih];lia
  refine MI I.kIn O c.sa c.po n.taker c.hd k p λt d B=>h _ ?_;have G:∃o,t.get? dx=aa o:=let⟨o,_,_,e',_⟩:=d.ns;⟨o,e'⟩;refine I.write (x:=a) (e:=dx) (by rw[e];exact Ai) (.inr l) (λb q J z=>(B.2 b J).trans z) G ?_;refine⟨by rw[zX O.ne];exact l,?_,O.ne,d.obj,_,d.ns,λg=>?_,λg L=>?_⟩
  · have:=Zh f y fs;lia
  · show RelO ((we f y fs).lookup g) (if g=f then aa u else j g);rw[Zq];by_cases q:g=f
    · rw[if_pos q,if_pos q];exact m
    · rw[if_neg q,if_neg q];exact r g
  · by_cases q:g=f
    · rw[q];exact(jy f y fs).1
    · refine(jy f y fs).2 g (k g λz=>L ?_);show(if g=f then aa u else j g)=ab;rw[if_neg q];exact z
theorem Inv.made(I:Inv X pins σ H s):Inv X pins σ (zp (zp H s.heap.objs.size (.own (s.heap.objs.size+1))) (s.heap.objs.size+1) (.ins C s.heap.objs.size []))
  { s with heap:=(s.heap.push iV).push (ow C s.heap.objs.size)}:=by
 have c:(s.heap.push iV).get? s.heap.objs.size=aa iV:=ax s.heap rfl;have g:((s.heap.push iV).push (ow C s.heap.objs.size)).get? (s.heap.objs.size+1)=aa (ow C s.heap.objs.size):=by
  have:=ax (s.heap.push iV) (o:=ow C s.heap.objs.size) rfl;rwa [ii]at this
 have h:(s.heap.push iV).Ns s.heap.objs.size (λ_=>ab):=⟨iV,#[],_,c,rfl,(λe i=>absurd i (by simp)),λ_=>rfl⟩
 have j:=I.laid (a:=s.heap.objs.size) (o:=.own (s.heap.objs.size+1)) (h':=s.heap.push iV) (t':=s.toks) (λb u q=>ai _ q) (aj _) ⟨_,c⟩;refine j.laid (a:=s.heap.objs.size+1) (o:=.ins C s.heap.objs.size []) (t':=s.toks) (λb u q=>ai _ q) (Aq (ii _ _)) ?_;have d:s.heap.objs.size≠s.heap.objs.size+1:=aP (Az _);refine⟨by rw[zX d,yz],aM _,d,g,λ_=>ab,(Heap.Ns1.of_empty h).at λo q=>ai _ q,λ_=>Ai,λy k=>absurd rfl k⟩
theorem Wm{e:Expr}{Q:af->ag->Prop}(c:eZ e f env (eval e env)=eval e env)
 (h:au (model prog w) A (eval e env) (λo b=>au (model prog w) A (getAttr o f true) Q E b) E s):au (model prog w) A (eval (.Attribute e f pos) env) Q E s:=
  Attribute_any_ h (by rw[arm_eval_Attribute,c])
end
def YM(K:ae)(d:TE)(f:Str):TE:=λe H Q=>d e H λx b=>∃a C g c v,x=.ref a/\b a=aa (.ins C g c)/\Cls K C/\NoAttr K C f/\c.lookup f=aa v/\Q v b
def Mf(K:ae)(g h:TE)(f:Str):TS:=λD b H=>h b H λy i=>g b i λx d=>∃a C e c,x=.ref a/\d a=aa (.ins C e c)/\Cls K C/\NoAttr K C f/\c.length<1000 /\
 D.nx b (zp d a (.ins C e (we f y c)))
section
variable {X:Cx}{o e value:Expr}{f:Str}{pos pos' tpos:Pos}{ta tv:TE}
theorem m8(d:PE X e ta)(g:eZ e f X.env (eval e X.env)=eval e X.env):PE X (.Attribute e f pos) (YM X.K ta f):=by
 intro b s i H Q I h;refine Wm g (zu (d b s i H _ I h) ?_);rintro u s1 ⟨x,j,k,m,a,C,y,z,v,p,r,c,n,l,q⟩;subst p;obtain rfl:u=ea a:=m;exact Ui k r c n l λA B t w=>⟨v,j,t,w,q⟩
theorem Z4(g:PE X o ta)(i:PE X value tv)(j:swapsWith value (aa (.Attribute o f pos')) pos.line X.env=pure false):PS X (.Assign [.Attribute o f pos'] value pos) (Mf X.K ta tv f):=by
 intro b s d H D I h;refine plainObj_wpAny_Assign_Attribute (zu (i b s d H _ I h) λu s1 ⟨y,k,m,p,q⟩=>zu (g b s1 d k _ m q) ?_) j;rintro r E ⟨x,G,t,v,a,C,J,L,w,z,c,n,l,A⟩;subst w;obtain rfl:r=ea a:=v;exact MK t z c n l p λM B=>⟨d,_,B,A⟩
end
section
variable {X:Cx}{pins:List (ah×Obj)}{σ:St}{H:Hp}{s:ag}{A:a4}{E:af->ag->Prop}{Q:af->ag->Prop}{c:af}{b:Bool}
inductive TyOf(K:ae)(H:Hp):V->af->Prop where
 |non:TyOf K H .non (.type "NoneType")
 |bl (x:Bool):TyOf K H (.bl x) (.type "bool")
 |int (i:Int):TyOf K H (.int i) (.type "int")
 |str (x:Str):TyOf K H (.str x) (.type "str")
 |flt (x:UInt64):TyOf K H (.flt x) (.type "float")
 |lst {a:ah} {xs:List V} (e:H a=aa (.lst xs)):TyOf K H (.ref a) (.type "list")
 |frz {a:ah} {o:Obj} {xs:List V} (e:H a=aa (.frz o (.lst xs))):TyOf K H (.ref a) (.type "list")
 |tup {a:ah} {xs:List V} (e:H a=aa (.tup xs)):TyOf K H (.ref a) (.type "tuple")
 |dK {a:ah} {kvs:List (yM×V)} (e:Rd H a (.dK kvs)):TyOf K H (.ref a) (.type "dict")
 |dT {a:ah} {kvs:List (List yM×V)} (e:H a=aa (.dT kvs)):TyOf K H (.ref a) (.type "dict")
 | ins {a C dx:ah} {fs:List (Str × V)} (e:H a=aa (.ins C dx fs)) (cl:Cls K C) (ha:iw K (.ref C) "__class__" = aa (aa (.builtin "object.__class__")))
   (hn:PySem.W.specialIn K (.builtin "object.__class__") "__get__" =aa (aa (.builtin "getset_descriptor.__get__"))) (htk:PySem.W.takesIn K (.builtin "object.__class__")=aa true)
   (hm:PySem.W.mroIn K C (.type "object")=aa true):TyOf K H (.ref a) (.ref C)
theorem U7{t:af}(I:Inv X pins σ H s)(d:RelV x u)(v:TyOf X.K H x t)(e:CV X.K t c=aa b)(h:∀B,Q (.bool b) { s with toks:=B}) :
 au (model X.prog X.w) A (call (.builtin "isinstance") [u,c]) Q E s:=by
  cases v with
  |non=>cases (show u=ox from d);exact iI PySem.W.kitx_none I.kIn Ai e (λz=>nomatch z) h
  |bl y=>cases (show u=By y from d);exact iI PySem.W.kitx_bool I.kIn Ai e (λz=>nomatch z) h
  |int i=>obtain⟨t,q⟩:=(show ∃t,u=Bm i t from d);cases q;exact iI PySem.W.kitx_int I.kIn Ai e (λz=>nomatch z) h
  |str y=>obtain⟨t,q⟩:=(show ∃t,u=en y t from d);cases q;exact iI PySem.W.kitx_str I.kIn Ai e (λz=>nomatch z) h
  |flt y=>obtain⟨t,q⟩:=(show ∃t,u=DL y t from d);cases q;exact iI PySem.W.kitx_float I.kIn Ai e (λz=>nomatch z) h
  |@lst a k f=>
    cases (show u=ea a from d);obtain⟨_,_,n,_,g⟩:=(show ObjOk X.prog X.w H s.heap a (.lst k)from I.hok a _ f);exact iI DF I.kIn ⟨_,g,rfl⟩ e (λz=>nomatch z) h
  |@frz a G k f=>
    cases (show u=ea a from d);obtain⟨_,_,_,n,_,g⟩:=(show ObjOk X.prog X.w H s.heap a (.frz G (.lst k))from I.hok a _ f);exact iI DF I.kIn ⟨_,g,rfl⟩ e (λz=>nomatch z) h
  |@tup a k f=>
    cases (show u=ea a from d);obtain⟨_,_,_,p⟩:=(show ObjOk X.prog X.w H s.heap a (.tup k)from I.hok a _ f);obtain⟨o,g,l,_⟩:=p;exact iI PySem.W.kitx_tuple I.kIn ⟨o,g,l⟩ e (λz=>nomatch z) h
  |@dK a j f=>
    cases (show u=ea a from d);obtain⟨_,_,S,_,p⟩:=(show ObjOk X.prog X.w H s.heap a (.dK j)from f.ok I.hok);obtain⟨o,L,M,g,l,_⟩:=p;exact iI DE I.kIn ⟨o,g,l.1⟩ e (λz=>nomatch z) h
  |@dT a j f=>
    cases (show u=ea a from d);obtain⟨_,_,k,_,o,L,M,g,l,_⟩:=(show ObjOk X.prog X.w H s.heap a (.dT j)from I.hok a _ f);exact iI DE I.kIn ⟨o,g,l.1⟩ e (λz=>nomatch z) h
  |@ins a C T U f r N P m R=>
    cases (show u=ea a from d);obtain⟨Y,O,_⟩:=mG I.hok f;obtain⟨Z,J,_⟩:=O.look;exact iI (PySem.W.kitx_own (r.get _) r.hd N P m R) I.kIn J e (λz=>nomatch z) h
end
structure Room(k:Nat)(A:a4):Prop where
 hd:A.handled=ab
 dp:A.depth+3*k+5<recursionLimit
 un:A.units+16*k+200<cLine
theorem Room.mono{j k:Nat}(r:Room k A)(h:j<=k):Room j A:=⟨r.hd,by have:=r.dp;lia,by have:=r.un;lia⟩
theorem Room.deeper{k:Nat}{A:a4}(r:Room (k+1) A)(a:Env):Room k (A.deeper a):=
 ⟨r.hd,by have:=r.dp;show A.depth+1+3*k+5<_;lia,by have:=r.un;show A.units+3+16*k+200<_;lia⟩
theorem Rh{A:a4}:(A.under (.builtin "type.__call__" ⟨.ref C::us,kw⟩)).depth=A.depth+1:=by
 first|rfl|simp[Df,Code.weight,Code.isCreation,Code.isGuard,Code.isCaller,EY,Di,guardIds]
theorem Rj{A:a4}:(A.under (.builtin "type.__call__" ⟨.ref C::us,kw⟩)).units=A.units+1:=by
 first|rfl|simp[Df,Code.cUnits,EY,Di]
theorem Room.make{k:Nat}{A:a4}(r:Room (k+1) A)(C:ah)(us:List af)(a:List (Str×af)):Room k (A.under (.builtin "type.__call__" ⟨.ref C::us,a⟩)):=
 ⟨r.hd,by have:=r.dp;rw[Rh];lia,by have:=r.un;rw[Rj];lia⟩
theorem Room.depth{k:Nat}{A:a4}(r:Room k A):A.depth<recursionLimit:=by have:=r.dp;lia
theorem Room.units{k:Nat}{A:a4}(r:Room k A):A.units+64<cLine:=by have:=r.un;lia
def pO:TA:=λ_ H Q=>Q [] H
def gg(b:TE)(c:TA):TA:=λa H Q=>b a H λx d=>c a d λe f=>Q (x::e) f
section
variable {X:Cx}{e:Expr}{es:List Expr}{te:TE}{t:TA}{pos:Pos}
theorem jP:PA X [] pO:=λ_ _ _ _ H Q I h=>B0 ⟨[],H,I,.nil,h⟩
theorem jO(c:PE X e te)(d:PA X es t)(f:aZ (e::es) X.env=(false,eval e X.env)::aZ es X.env:=by rfl):PA X (e::es) (gg te t):=by
 intro pos a s b H Q I h;rw[f];show au _ _ (spliced ((false,eval e X.env)::backTo pos (aZ es X.env))) _ _ s;refine BL (zu (c a s b H _ I h) ?_);rintro u s1 ⟨x,g,i,j,k⟩;refine zu (d pos a s1 b g _ i k) ?_;rintro q r ⟨l,m,n,o,p⟩;exact⟨x::l,m,n,.cons j o,p⟩
def Y4(t:TA):TE:=λc H Q=>t c H λa b=>a.length<=aS/\∀p,b p=ab->Q (.ref p) (zp b p (.tup a))
def YR(t:TA):TE:=λc H Q=>t c H λa b=>a.length<=aS/\∀p,b p=ab->Q (.ref p) (zp b p (.lst a))
theorem Po{x1}(h:PA X es t):PE X (.Tuple es x1 pos) (Y4 t):=by
 intro a s f H Q I g;refine wpAny_Tuple_spliced (zu (h pos a s f H _ I g) λi s1 ⟨j,c,d,r,z,q⟩=>⟨by rw[<- r.length];exact z,?_⟩);have k:c s1.heap.objs.size=ab:=d.hok.fresh (aj _);refine⟨.ref s1.heap.objs.size,zp c s1.heap.objs.size (.tup j),d.laid (t':=s1.toks) (λb u e=>ai _ e) (aj _) ?_,rfl,q _ k⟩;exact⟨z,i,r,⟨_,ax _ rfl,rfl,_,rfl⟩⟩
theorem Pd(h:PA X es t):PE X (.List es pos) (YR t):=by
 intro a s f H Q I g;refine wpAny_List_spliced (zu (h pos a s f H _ I g) λi s1 ⟨j,c,d,r,z,q⟩=>⟨by rw[<- r.length];exact z,?_⟩);have k:c s1.heap.objs.size=ab:=d.hok.fresh (aj _);refine⟨.ref s1.heap.objs.size,zp c s1.heap.objs.size (.lst j),d.laid (t':=s1.toks) (λb u e=>ai _ e) (aj _) ?_,rfl,q _ k⟩;exact⟨z,i,0,r,ax _ rfl⟩
end
abbrev Sp:=List V->Hp->VK->XK->Prop
abbrev wL:=List Env->Hp->ag->XK->af->ag->Prop
structure Env0(P:aN)(w:aR)(K:ae)(mg:Str->Option af)(base:aX)(A:a4)(outer:List Env)(s:ag)(H:Hp):Prop where
 frames:A.frames=aa outer
 mod:Mod K mg base
 bs:∀b o,base.get? b=aa o->s.heap.get? b=aa o/\H b=ab
 bsz:base.objs.size<=s.heap.objs.size
 funs:s.heap.FunFrames base outer
 frf:∀b∈v8 outer,H b=ab
 hok:HOk P w H s.heap
 bare:AllBare s.gens
def CE(a:List Env)(P:aN)(w:aR)(H:Hp)(s:ag)(Q:VK)(u:af)(s':ag):Prop:=
 ∃v b,s'.os=s.os/\AllBare s'.gens/\Un (v8 a) [] H b s.heap s'.heap/\HOk P w b s'.heap/\RelV v u/\Q v b
def CR(CX:wL)(a:List Env)(P:aN)(w:aR)(H:Hp)(s:ag)(Q:VK)(E:XK)(r:Result)(s':ag):Prop:=
 match r with
 |.ok (.ret u)=>CE a P w H s Q u s'
 |.ok _=>False
 |.error e=>CX a H s E e s'
structure FnOk(P:aN)(w:aR)(K:ae)(mg:Str->Option af)(base:aX)(CX:wL)(k:Nat)(f:ah)(fd:eR)(ps:List Str)(sp:Sp):Prop where
 len:∀vs H Q E,sp vs H Q E->vs.length=ps.length
 run:∀(A:a4) (outer:List Env) (s:ag) (H:Hp) (args:Args) (us:List af) (vs:List V) (Q:VK) (E:XK),Room k A->Env0 P w K mg base A outer s H->BindsTo s fd args (ps.zip us)->Vals vs us->sp vs H Q E ->
  codeAny (model P w) A (.call (.ref f) args) (CR CX outer P w H s Q E) s
theorem FnOk.imp{P:aN}{w:aR}{K:ae}{e:Str->Option af}{a:aX}{CX:wL}{k:Nat}{f:ah}{g:eR}{ps:List Str}{sp sp':Sp}(F:FnOk P w K e a CX k f g ps sp)
  (h:∀c H Q E,sp' c H Q E->sp c H Q E):FnOk P w K e a CX k f g ps sp':=
 ⟨λc H Q E q=>F.len c H Q E (h _ _ _ _ q),λA b s H d i c Q E j l m n o=>F.run A b s H d i c Q E j l m n (h _ _ _ _ o)⟩
theorem Env0.make{P:aN}{w:aR}{K:ae}{c:Str->Option af}{b:aX}{A:a4}{a:List Env}{s:ag}{H:Hp}(e:Env0 P w K c b A a s H)(C:ah)(us:List af)(d:List (Str×af)) :
  Env0 P w K c b (A.under (.builtin "type.__call__" ⟨.ref C::us,d⟩)) a s H:=⟨by first|exact e.frames|(simpa [Df,Code.envs,Di,pushEnvs] using e.frames),e.mod,e.bs,e.bsz,e.funs,e.frf,e.hok,e.bare⟩
section
variable {X:Cx}{pins:List (ah×Obj)}{σ:St}{H:Hp}{s s':ag}
theorem Inv.env0(I:Inv X pins σ H s):Env0 X.prog X.w X.K X.mg X.base X.A X.stack s H:=
 ⟨I.ok.frames,I.ok.mod,I.bs,aH I.ok.bsz I.sz,I.stack,I.stkFree,I.hok,I.bare⟩
theorem Inv.after(I:Inv X pins σ H s)(h:CE X.stack X.prog X.w H s Q u s'):EP X pins σ Q u s':=by
 obtain⟨v,f,i,a,j,c,r,q⟩:=h;obtain⟨k,g,d,t,e⟩:=s';obtain rfl:e=s.os:=i;exact⟨v,f,I.call (h':=k) (g':=g) (d':=d) (t':=t) (ch:=[]) j c a (λb z=>absurd z (by simp)),r,q⟩
end
def gd(sp:Sp)(dvs:List V)(E:XK)(t:TA):TE:=λa H Q=>t a H λb c=>sp (b++dvs) c Q E
def ll(C:ah)(m:Str)(sp:Sp)(dvs:List V)(E:XK)(e:TE)(t:TA):TE:=λb H Q=>e b H λx c=>∃a f d,x=.ref a/\c a=aa (.ins C f d)/\d.lookup m=ab /\
 t b c λg h=>sp (x::(g++dvs)) h Q E
def YS(C:ah)(sp:Sp)(dvs:List V)(E:XK)(t:TA):TE:=λc H Q=>t c H λd b=>∀x a,b x=ab->b a=ab->a≠x ->
 sp (.ref x::(d++dvs)) (zp (zp b a (.own x)) x (.ins C a [])) (λv e=>v=.non/\Q (.ref x) e) E
def Binds(K:ae)(b:eR)(ps:List Str)(ds:List af):Prop:=
 ∀(s:ag) (a:List af),K.In s.heap->(a++ds).length=ps.length->BindsTo s b ⟨a,[]⟩ (ps.zip (a++ds))
theorem Binds.all{K:ae}{b:eR}{ps:List Str}(h:∀a:List af,a.length=ps.length->bindArgs b ⟨a,[]⟩=pure (ps.zip a)):Binds K b ps []:=λs a _ c=>by
 rw[ek]at c ⊢;exact .of_eq (h a c)
def wD(CX:wL)(X:Cx)(E:XK):Prop:=∀(a:List (ah×Obj)) (c:St) (H:Hp) (s:ag) (e:af) (b:ag),Inv X a c H s->CX X.stack H s E e b->X.xe e b
section
variable {X:Cx}{CX:wL}{k:Nat}{f C:ah}{fd:eR}{ps:List Str}{sp:Sp}{dvs:List V}{ds:List af}{E:XK}{x m:Str}{p pos apos:Pos}{e o:Expr}{es:List Expr}{ta:TE}{t:TA}
theorem hC(F:FnOk X.prog X.w X.K X.mg X.base CX k f fd ps sp)(c:Room k X.A)(d:Binds X.K fd ps ds)(g:Vals dvs ds)(i:wD CX X E)
 (I:Inv X pins σ H s) (r:Vals vs us) (h:sp (vs++dvs) H Q E):au (model X.prog X.w) X.A (call (.ref f) us) (EP X pins σ Q) X.xe s:=by
  have b:Vals (vs++dvs) (us++ds):=r.append g;have j:(us++ds).length=ps.length:=by rw[<- b.length];exact F.len _ _ _ _ h
  refine wpAny_call (codeAny_mono (F.run X.A X.stack s H ⟨us,[]⟩ (us++ds) (vs++dvs) Q E c I.env0 (d s us I.kIn j) b h) λr l a=>?_);cases r with
  |error e=>exact i pins σ H s e l I a
  |ok n=>
    cases n with
    |ret u=>exact I.after a
    |next=>exact iG a
    |brk=>exact iG a
    |cont=>exact iG a
theorem jS(F:FnOk X.prog X.w X.K X.mg X.base CX k f fd ps sp)(g:Room k X.A)(i:Gl X x)(j:X.mg x=aa (.ref f))(l:i3 X.K (.ref f)=true)(n:Binds X.K fd ps ds)(u:Vals dvs ds)(v:wD CX X E)
  (y:PA X (e::es) t) (b:(x==("__debug__" : Str))=false:=by decide) (z:aZ (e::es) X.env=(false,eval e X.env)::aZ es X.env:=by rfl) (c:(backTo pos (aZ es X.env)).any (·.1)=false:=by rfl) :
  PE X (.Call (.Name x p) (e::es) [] pos) (gd sp dvs E t):=by
 intro a s B H Q I h;refine iJ (jC I i j ?_ b);refine BP (h₀:=X.base) I.ok.mod.kin l (zu (y pos a s B H _ I h) λG s1 ⟨J,L,d,r,q⟩=>⟨d.kIn,?_⟩) z c;exact hC F g n u v d r q
theorem jT(z:PE X o ta)(c:Cls X.K C)(i:Meth X.K C m f)(F:FnOk X.prog X.w X.K X.mg X.base CX k f fd ps sp)(B:Room k X.A)(G:Binds X.K fd ps ds)(J:Vals dvs ds)(L:wD CX X E)(M:PA X (e::es) t)
 (d:aZ (e::es) X.env=(false,eval e X.env)::aZ es X.env:=by rfl) (g:(backTo pos (aZ es X.env)).any (·.1)=false:=by rfl)
 (N:eval (.Call (.Attribute o m apos) (e::es) [] pos) X.env=(do
 let j <- eval o X.env
 standAt apos.atName
 let (f,first) <- holding [j] (getMethod j m pl)
 callWith pos f first (backTo pos (aZ (e::es) X.env)) (backToKw pos (keywordEach [] X.env))):=by rfl) :
 PE X (.Call (.Attribute o m apos) (e::es) [] pos) (ll C m sp dvs E ta t):=by
  intro b s n H Q I h;refine CW (pl:=pl) (zu (z b s n H _ I h) ?_) N;rintro u s1 ⟨x,O,v,P,a,Z,fs,R,S,l,q⟩;subst R;obtain rfl:u=ea a:=P;refine c8 v S c i l ?_;refine BP (first:=[.ref a]) (h₀:=X.base) I.ok.mod.kin i.kp (zu (M pos b s1 n O _ v q) λT s2 ⟨U,H2,y,r,Y⟩=>⟨y.kIn,?_⟩) d g;exact hC (us:=.ref a::T) (vs:=.ref a::U) F B G J L y (.cons rfl r) Y
theorem ZV(j:PE X o ta)(c:Cls X.K C)(g:Meth X.K C m f)(F:FnOk X.prog X.w X.K X.mg X.base CX k f fd ps sp)(n:Room k X.A)(r:Binds X.K fd ps ds)(v:Vals dvs ds)(y:wD CX X E)
 (z:eval (.Call (.Attribute o m apos) [] [] pos) X.env=(do
 let i <- eval o X.env
 standAt apos.atName
 let (f,first) <- holding [i] (getMethod i m pl)
 callWith pos f first (backTo pos (aZ [] X.env)) (backToKw pos (keywordEach [] X.env))):=by rfl) :
 PE X (.Call (.Attribute o m apos) [] [] pos) (ll C m sp dvs E ta pO):=by
  intro b s B H Q I h;refine CW (pl:=pl) (zu (j b s B H _ I h) ?_) z;rintro u s1 ⟨x,M,d,G,a,N,O,J,L,l,q⟩;subst J;obtain rfl:u=ea a:=G;refine c8 d L c g l ?_;exact PySem.W.callWith_K0 (first:=[.ref a]) d.kIn g.kp (hC (us:=[.ref a]) (vs:=[.ref a]) F n r v y d (.cons rfl .nil) q)
structure Mk(K:ae)(C f:ah):Prop where
 makes:CB K C=true
 init:iw K (.ref C) "__init__" =aa (aa (.ref f))
 fn:Cp K (.ref f)=true
 kp:i3 K (.ref C)=true
theorem NY(M:Mk X.K C f)(F:FnOk X.prog X.w X.K X.mg X.base CX k f fd ps sp)(i:Room (k+1) X.A)(j:Binds X.K fd ps ds)(l:Vals dvs ds)
 (n:wD CX X E) (I:Inv X pins σ H s) (r:Vals vs us)
 (h:∀x b,H x=ab->H b=ab->b≠x->sp (.ref x::(vs++dvs)) (zp (zp H b (.own x)) x (.ins C b [])) (λv q=>v=.non/\Q (.ref x) q) E) :
 au (model X.prog X.w) X.A (call (.ref C) us) (EP X pins σ Q) X.xe s:=by
  have d:=h (s.heap.objs.size+1) s.heap.objs.size (I.hok.fresh (oj _)) (I.hok.fresh (aj _)) (aP (Az _));have c:=Inv.made (C:=C) I;have g:Vals (V.ref (s.heap.objs.size+1)::(vs++dvs)) (ea (s.heap.objs.size+1)::(us++ds)):=.cons rfl (r.append l);have y:(ea (s.heap.objs.size+1)::us++ds).length=ps.length:=by
    have e:=g.length;rw[F.len _ _ _ _ d]at e;exact e.symm
  refine wpAny_call (Ri (f:=f) I.kIn M.makes M.init (beq_iff_eq.mp M.fn) (codeAny_mono (F.run _ X.stack _ _ ⟨ea (s.heap.objs.size+1)::us,[]⟩ (ea (s.heap.objs.size+1)::(us++ds)) _ _ E (i.make C us [])
    (c.env0.make C us []) (j _ (ea (s.heap.objs.size+1)::us) c.kIn y) g d) λr z a=>?_))
  cases r with
  |error e=>exact n pins σ _ _ e z c a
  |ok B=>
    cases B with
    |ret u=>
      obtain⟨v,G,J,L,N,O⟩:=c.after a;subst N;exact⟨L,⟨V.ref (s.heap.objs.size+1),G,J,rfl,O⟩⟩
    |next=>exact iG a
    |brk=>exact iG a
    |cont=>exact iG a
theorem Pe(M:Mk X.K C f)(F:FnOk X.prog X.w X.K X.mg X.base CX k f fd ps sp)(g:Room (k+1) X.A)(i:Gl X x)(j:X.mg x=aa (.ref C))(l:Binds X.K fd ps ds)(n:Vals dvs ds)(u:wD CX X E)
  (v:PA X (e::es) t) (b:(x==("__debug__" : Str))=false:=by decide) (y:aZ (e::es) X.env=(false,eval e X.env)::aZ es X.env:=by rfl) (c:(backTo pos (aZ es X.env)).any (·.1)=false:=by rfl) :
  PE X (.Call (.Name x p) (e::es) [] pos) (YS C sp dvs E t):=by
 intro a s z H Q I h;refine iJ (jC I i j ?_ b);refine BP (h₀:=X.base) I.ok.mod.kin M.kp (zu (v pos a s z H _ I h) λB s1 ⟨G,J,d,r,q⟩=>⟨d.kIn,?_⟩) y c;exact NY M F g l n u d r q
end
def PK(X:Cx)(b:List Keyword)(t:TA):Prop:=
 ∀(c:Pos) (a:List (ah×Obj)) (s:ag) (d:St) (H:Hp) (Q:List V->Hp->Prop),Inv X a d H s->t d H Q->au (model X.prog X.w) X.A (evalAll ((backToKw c (keywordEach b X.env)).map (·.2))) (AP X a d Q) X.xe s
section
variable {X:Cx}{CX:wL}{k:Nat}{f C:ah}{fd:eR}{ps ks:List Str}{sp:Sp}{E:XK}{x m:Str}{p pos apos kpos:Pos}{e o:Expr}{es:List Expr}{kws:List Keyword}{te ta:TE}{t tk:TA}{nm:Option Str}
theorem PN:PK X [] pO:=λ_ _ _ _ H Q I h=>wpAny_evalAll_nil ⟨[],H,I,.nil,h⟩
theorem PM(c:PE X e te)(d:PK X kws t):PK X (⟨nm,e,kpos⟩::kws) (gg te t):=by
 intro pos a s b H Q I h;show au _ _ (evalAll ((do let v <- eval e X.env;standAt pos;pure v)::(backToKw pos (keywordEach kws X.env)).map (·.2))) _ _ s;refine wpAny_evalAll_cons (ac (zu (c a s b H _ I h) λu s1 ⟨x,g,i,j,l⟩=>ac (wpAny_standAt (am ?_))));refine zu (d pos a s1 b g _ i l) ?_;rintro z A ⟨n,q,r,w,y⟩;exact⟨x::n,q,r,.cons j w,y⟩
structure KBinds(K:ae)(fd:eR)(ps ks:List Str)(g:List af->List af->List af)(gV:List V->List V->List V):Prop where
 to:∀(s:ag) (us ws:List af),K.In s.heap->(g us ws).length=ps.length->BindsTo s fd ⟨us,ks.zip ws⟩ (ps.zip (g us ws))
 rel:∀{vs:List V} {us:List af} {zs:List V} {ws:List af},Vals vs us->Vals zs ws->Vals (gV vs zs) (g us ws)
variable {g:List af->List af->List af}{gV:List V->List V->List V}
end
structure FnScope(N P:List Str)(sc:Scope):Prop where
 kind:sc.kind=.function
 co:sc.isCoroutine=false
 gen:sc.isGenerator=false
 nd:N.Nodup
 pre:N.take P.length=P
 par:∀x∈P,sc.names.lookup x=aa .local\/sc.names.lookup x=aa .cell
 nofree:∀y∈sc.names,y.2≠.free
theorem dB{b:Str->Option NameKind}{x:Str}:∀{a:List (Str×af)} {m:Str->Option af},(∀v,(x,v)∉a)->bindL b a m x=m x
 |[],_,_=>rfl
 |(n,v)::r,m,h=>by
  unfold bindL;rw[dB λw c=>h w (aq _ c)];split
  ·have:x≠n:=by rintro rfl;exact h v aw
   simp[this]
  ·rfl
theorem dz{b:Str->Option NameKind}{x:Str}:∀{a:List (Str×af)} {m:Str->Option af},(∀v,(x,v)∉a)->bindC b a m x=m x
 |[],_,_=>rfl
 |(n,v)::r,m,h=>by
  unfold bindC;rw[dz λw c=>h w (aq _ c)];split
  ·rfl
  ·have:x≠n:=by rintro rfl;exact h v aw
   simp[this]
theorem dA{a:Str->Option NameKind}{x:Str}{v:af}:∀{P:List Str} {vs:List af} {i:Nat} {m:Str->Option af},P.Nodup->P[i]? =aa x->vs[i]? =aa v->a x=aa .local ->
  bindL a (P.zip vs) m x=aa v
 |[],_,_,_,_,h,_,_=>by simp at h
 | _::_,[],_,_,_,_,h,_=>by simp at h
 |p::P,w::vs,0,m,d,b,c,e=>by
  simp at b c;subst b;subst c;show bindL a ((p,w)::P.zip vs) m p=_;unfold bindL;rw[dB λv f=>(aW.mp d).1 (Cw f).1,if_pos e];simp
 |p::P,w::vs,i+1,m,d,b,c,e=>by
  show bindL a ((p,w)::P.zip vs) m x=_;unfold bindL;exact dA (i:=i) (aW.mp d).2 (by simpa using b) (by simpa using c) e
theorem dy{a:Str->Option NameKind}{x:Str}{v:af}:∀{P:List Str} {vs:List af} {i:Nat} {m:Str->Option af},P.Nodup->P[i]? =aa x->vs[i]? =aa v->a x≠aa .local ->
  bindC a (P.zip vs) m x=aa v
 |[],_,_,_,_,h,_,_=>by simp at h
 | _::_,[],_,_,_,_,h,_=>by simp at h
 |p::P,w::vs,0,m,d,b,c,e=>by
  simp at b c;subst b;subst c;show bindC a ((p,w)::P.zip vs) m p=_;unfold bindC;rw[dz λv f=>(aW.mp d).1 (Cw f).1,if_neg e];simp
 |p::P,w::vs,i+1,m,d,b,c,e=>by
  show bindC a ((p,w)::P.zip vs) m x=_;unfold bindC;exact dy (i:=i) (aW.mp d).2 (by simpa using b) (by simpa using c) e
noncomputable def start(N:List Str)(vs:List V):St:=vs.map aa++aB (N.length-vs.length) ab
noncomputable def ti(CX:wL)(P:aN)(w:aR)(K:ae)(mg:Str->Option af)(base:aX)(N:List Str)(b:Str)(a:Scope)(f:ah)(d:af)(A:a4)(outer:List Env)(s:ag)(H:Hp)(E:XK):Cx where
 prog:=P
 w:=w
 K:=K
 mg:=mg
 base:=base
 A:=A.deeper (envOfC b a s.heap.objs.size f d)
 N:=N
 s₀:=s
 H₀:=H
 env:=envOfC b a s.heap.objs.size f d
 outer:=outer
 stack:=envOfC b a s.heap.objs.size f d::outer
 ex:=[]
 calm:=true
 fn:=λ_=>true
 pn:=[]
 xe:=λe g=>au (model P w) (A.deeper (envOfC b a s.heap.objs.size f d)) (leaving (envOfC b a s.heap.objs.size f d) e) (λ_ c=>CX outer H s E e c) (λh c=>CX outer H s E h c) g
theorem dF{sc:Scope}{n:Nat}(h:sc.names.lookup x=aa .cell):∃c,(cellsFrom n sc.names []).lookup x=aa c:=by
 have q:=CL sc.names n [] (.inl h);exact Option.isSome_iff_exists.mp q
theorem U0{CX:wL}{P:aN}{w:aR}{K:ae}{M:Str->Option af}{m:aX}{N ps:List Str}{j:Str}{d:Scope}{f:ah}{I:af}{A:a4}{g:List Env}{s s1:ag}{H:Hp}{E:XK}{us:List af}{vs:List V}
  (S:FnScope N ps d) (R:A.handled=ab) (o:Env0 P w K M m A g s H) (Z:vs.length=ps.length) (r:Vals vs us)
  (x:InCallC s s.heap.objs.size (bindL (envOfC j d s.heap.objs.size f I).kindOf (ps.zip us) λ_=>ab) (cellsFrom (s.heap.objs.size+1) d.names []) (bindC (envOfC j d s.heap.objs.size f I).kindOf (ps.zip us) λ_=>ab) s1) :
  Inv (ti CX P w K M m N j d f I A g s H E) [] (start N vs) H s1:=by
 have T:ps.length<=N.length:=by have:=congrArg oV S.pre;rw[eN]at this;lia
 obtain⟨J,tk,rfl,O⟩:=x.done;have t:∀b:ah,b∉(ti CX P w K M m N j d f I A g s H E).ex:=λb z=>absurd (show b∈([]:List ah)from z) (by simp);refine⟨⟨o.mod,S.kind,rfl,rfl,aj _,λy z c J l=>?_,λy B=>?_,λy c _ h=>?_,λ_=>R,Around.frames_deeper o.frames,.inr ⟨rfl,rfl⟩,λb z=>absurd z (t b),o.bs,o.bsz,λb _ _=>t b,λb z=>absurd z (t b),o.funs,o.frf⟩,
  rfl,o.bare,Un.kept O,⟨_,x.toInCall.ns,λi y v J l h3=>?_⟩,λy c h=>⟨_,x.cell y c h⟩,o.hok.fresh (aj _),λy c h=>?_,λp C=>absurd (show p∈([]:List (ah×Obj))from C) (by simp),o.hok.kept O,?_⟩
 ·exact name_of_addr x.apart (eW J) (eW l)
 ·have B:d.names.lookup y=aa .cell\/d.names.lookup y=aa .free:=B;rcases B with B|B
  ·exact dF B
  ·exact absurd rfl (S.nofree _ (eW B))
 ·exact eE (x.above y c (eW h))
 ·have L:i<vs.length:=by
   unfold start at l;by_cases L:i<vs.length
   ·exact L
   ·rw[iP (by simpa using L)]at l;rw[Ab]at l;split at l <;> cases l
  have U:vs[i]? =aa v:=by
   unfold start at l;rw[ia (by simpa using L),av]at l;cases e:vs[i]? with
   |none=>rw[e]at l;cases l
   |some a=>rw[e]at l;cases l;rfl
  obtain⟨u,Q,Y⟩:=r.get U;have C:ps[i]? =aa y:=by
   rw[<- S.pre,oq (by lia)];exact J
  have G:ps.Nodup:=by rw[<- S.pre];exact S.nd.sublist (List.take_sublist _ _)
  refine⟨u,Y,?_⟩;rcases S.par y (iy C)with k|k
  ·exact .inl ⟨k,dA G C Q k⟩
  ·obtain⟨c,e⟩:=dF (n:=s.heap.objs.size+1) k;refine .inr ⟨.inl k,c,e,?_⟩;have q:=x.cell y c e;rw[dy G C Q (by show d.names.lookup y≠_;rw[k];decide)]at q;exact q
 ·exact o.hok.fresh (eE (x.above y c (eW h)))
 ·unfold start;show _=N.length;rw[aJ,ar,oh];lia
theorem cJ{K:ae}{L:Str->Option af}{k:Nat}{name d:Str}{h:Arguments}{body:List Stmt}{a:Scope}{U kV z Y g ct:af}{Z:Option ah}
 {ps:List Str} (lk:K.lookup f=aa ⟨oc,od,.func (iH name d h body a U kV z Y Z g ct),osl⟩) (M:oX K g d=true) (S:FnScope N ps a)
 (B:∀vs H Q E,sp vs H Q E->vs.length=ps.length)
 (l:∀(A:a4) (c:List Env) (s:ag) (H:Hp) (vs:List V) (Q:VK) (E:XK),Room k (A.deeper (envOfC d a s.heap.objs.size f g))->sp vs H Q E ->
 ∃t,PSs (ti CX P w K L base N d a f g A c s H E) body t/\t { nx:=λ_ j=>Q .non j,rt:=Q} (start N vs) H) :
 FnOk P w K L base CX (k+1) f (iH name d h body a U kV z Y Z g ct) ps sp:=by
  refine⟨B,λA c s H args us vs Q E O C hb r G=>?_⟩;have hl:=B _ _ _ _ G;have KX:K.In s.heap:=C.mod.kin.keeps λb o e=>(C.bs b o e).1;have R:s.heap.NoLimit:=C.mod.nolimit.keeps λb o e=>(C.bs b o e).1;have m:∀y∈ps.zip us,a.names.lookup y.1=aa .local\/(a.names.lookup y.1=aa .cell/\((cellsFrom (s.heap.objs.size+1) a.names []).lookup y.1).isSome=true):=λ⟨n,v⟩ hy=>by
    rcases S.par n (Cw hy).1 with q|q
    · exact .inl q
    · exact .inr ⟨q,CL _ _ _ (.inl q)⟩
  refine codeAny_call_function O.depth (KX _ _ lk) rfl S.co S.gen rfl (PySem.W.codeRec_of KX M) (hb _ _ _ _ ?_);refine wpAny_newFunctionEnv_cells S.kind m λenv he s1 x=>?_;subst he;refine⟨R.keeps x.toInCall.keep,codeAny_func ?_⟩;obtain⟨t,ht,hq⟩:=l A c s H vs Q E (O.deeper _) G;have I:Inv (ti CX P w K L base N d a f g A c s H E) [] (start N vs) H s1:=U0 S O.hd C hl r x;refine ip (ht [] s1 (start N vs) H _ I hq) (λfl s' p=>?_) λe s' p=>p;have z9:∀{i:St} {j:Hp} {v:V} {u:af},Inv (ti CX P w K L base N d a f g A c s H E) [] i j s'->RelV v u->Q v j->CE c P w H s Q u s':=
    fun {i j v u} J T q=>⟨v,j,J.os,J.bare,J.base,J.hok,T,q⟩
  cases fl with
  |ret u=>
    obtain⟨v,i,j,J,T,q⟩:=p;exact z9 J T q
  |next=>
    obtain⟨i,j,J,q⟩:=p;exact z9 (v:=V.non) (u:=ox) J rfl q
  |brk=>
    obtain⟨_,_,_,q⟩:=p;exact iG q
  |cont=>
    obtain⟨_,_,_,q⟩:=p;exact iG q
section
variable {X:Cx}{x:Str}{p pos:Pos}{e:Expr}{es:List Expr}{t:TA}{id T:String}{r:List V->Hp->VK->Prop}
def pM(r:List V->Hp->VK->Prop)(t:TA):TE:=λa H Q=>t a H λb c=>r b c Q
theorem Q2(f:wT X (.builtin id) r)(g:Gl X x)(i:X.mg x=ab)(j:eg x=aa (.builtin id))(k:PA X (e::es) t)(hn:x≠ "__name__" :=by decide)(b:(x==("__debug__" : Str))=false:=by decide)
  (l:aZ (e::es) X.env=(false,eval e X.env)::aZ es X.env:=by rfl) (c:(backTo pos (aZ es X.env)).any (·.1)=false:=by rfl):PE X (.Call (.Name x p) (e::es) [] pos) (pM r t):=by
 intro a s d H Q I h;refine iJ (vD I g i j ?_ hn b);exact Bw (zu (k pos a s d H _ I h) λm s1 ⟨n,o,q,u,v⟩=>f a s1 d o n m Q q u v) l c
theorem Q3(f:wT X (.type T) r)(g:Gl X x)(i:X.mg x=ab)(j:eg x=aa (.type T))(k:PA X (e::es) t)(hn:x≠ "__name__" :=by decide)(b:(x==("__debug__" : Str))=false:=by decide)
  (l:aZ (e::es) X.env=(false,eval e X.env)::aZ es X.env:=by rfl) (c:(backTo pos (aZ es X.env)).any (·.1)=false:=by rfl):PE X (.Call (.Name x p) (e::es) [] pos) (pM r t):=by
 intro a s d H Q I h;refine iJ (vD I g i j ?_ hn b);exact eK (zu (k pos a s d H _ I h) λm s1 ⟨n,o,q,u,v⟩=>f a s1 d o n m Q q u v) l c
end
end L2
namespace HT
open PySem PyProof.Rows
section
open PySem.SeqAt
open PySem.AutoSeq1 (wpAny_loadPart')
open PySem.MeetsSeq PySem.MeetsSeq2 PySem.MeetsSeq3
end
section
variable {prog:aN}{w:aR}{A:a4}{E:af->ag->Prop}{s:ag}
theorem cat_tup{vs a:List af}{Q:af->ag->Prop}(v:IsTup s.heap t vs.toArray)(x:IsTup s.heap b a.toArray)(l:vs≠[])
 (h1:a=[]->Q (.ref t) s) (y:a≠[]->Q (.ref s.heap.objs.size) { s with heap:=s.heap.push { cls:=.type "tuple",data:=.seq (vs++a).toArray}})
 (hsz:vs.length+a.length<=aS):au (model prog w) A (binaryOp .Add (.ref t) (.ref b)) Q E s:=by
  obtain⟨⟨cls,m,data,o⟩,i,p,n,q⟩:=id v;obtain⟨⟨r,d,k,f⟩,c,g,u,h⟩:=id x;simp only at p q g h;subst p q g h;have e:vs.toArray++a.toArray=(vs++a).toArray:=by simp
  by_cases j:a=[]
  · exact concat_meets ⟨_,i,rfl⟩ ⟨_,c,rfl⟩ noFill_tuple_add seq_tuple_add A5 AU (AO _ _)
      (tuple_addW1 t b vs.toArray a.toArray n u m d o f (by simpa using l) (by simp[j])) ⟨i,c,h1 j⟩
  · refine concat_meets ⟨_,i,rfl⟩ ⟨_,c,rfl⟩ noFill_tuple_add seq_tuple_add A5 AU (AO _ _)
      (tuple_addW2 t b vs.toArray a.toArray n u m d o f (by simpa using l) (by simpa using j) (by rw[aU,aU];exact hsz)) ⟨i,c,?_⟩
    rw[e];exact y j
noncomputable def sIx(n d:Nat):Option Int->Nat
 |none=>d
 |some v=>if v<0 then (v+(n:Int)).toNat else min v.toNat n
theorem sIx_none(n d:Nat):sIx n d ab=d:=rfl
theorem sIx_nat(n d k:Nat):sIx n d (aa (k:Int))=min k n:=by
 show(if (k:Int)<0 then ((k:Int)+(n:Int)).toNat else min (k:Int).toNat n)=min k n;rw[if_neg (by lia),oz]
theorem sIx_le(n d:Nat)(b:d<=n)(o:Option Int):sIx n d o<=n:=by
 cases o with
 |none=>exact b
 |some v=>
  show(if v<0 then (v+(n:Int)).toNat else min v.toNat n)<=n;by_cases a:v<0
  ·rw[if_pos a];lia
  ·rw[if_neg a];exact AA _ _
theorem dH(v:Int)(n d:Nat):(if v<0 then max (v+(n:Int)) 0 else min v (n:Int))=((sIx n d (aa v):Nat):Int):=by
 show(if v<0 then max (v+(n:Int)) 0 else min v (n:Int))=(((if v<0 then (v+(n:Int)).toNat else min v.toNat n):Nat):Int)
 by_cases a:v<0
 ·simp only[if_pos a];lia
 ·simp only[if_neg a];lia
theorem We(lo hi:Option Int)(n:Nat):oi lo hi 1 (n:Int)=(((sIx n 0 lo:Nat):Int),((sIx n n hi:Nat):Int)):=by
 have a:¬ ((1:Int)<0):=by lia
 unfold oi;simp only[a,if_false];refine Prod.ext ?_ ?_
 ·cases lo with
  |none=>rfl
  |some v=>exact dH v n 0
 ·cases hi with
  |none=>rfl
  |some v=>exact dH v n n
theorem PQ(i j:Nat):e9 (i:Int) (j:Int) 1=j-i:=by
 unfold e9;have a:(1:Int) > 0:=by lia
 simp only[a,if_true,EA];split <;> lia
theorem hU{Q:Option Int->ag->Prop}(p:IsPart v o)(h:Q o s):au (model prog w) A (D7 v) Q E s:=by
 cases p with
 |none=>exact slicePart_none h
 |int i t=>exact slicePart_int h
theorem Yu{e:ah}{c d:af}{lo hi:Option Int}{n:Nat}{Q:Int×Int×Nat->ag->Prop}(f:s.heap.IsSliceOf e c d .none)(pl:IsPart c lo)(g:IsPart d hi)
  (h:Q (((sIx n 0 lo:Nat):Int),1,sIx n n hi-sIx n 0 lo) s):au (model prog w) A (oM (.ref e) (pure (n:Int))) Q E s:=by
 obtain⟨j,a,i,b⟩:=id f;unfold oM B8;refine ac (ac (wpAny_field a b (x:=c) rfl (ac (wpAny_field a b (x:=d) rfl (ac (wpAny_field a b (x:=.none) rfl (am ?_)))))));refine ac (slicePart_none ?_);show au _ _ (if ((1:Int)==0)=true then _ else _) _ _ s;rw[if_neg (by decide)];refine ac (hU pl (ac (hU g (ac (am ?_)))));show au _ _ (match oi lo hi 1 (n:Int)with|(lo,hi)=>pure (lo,(1:Int),e9 lo hi 1)) _ _ s;rw[We lo hi n];show au _ _ (pure (((sIx n 0 lo:Nat):Int),(1:Int),e9 ((sIx n 0 lo:Nat):Int) ((sIx n n hi:Nat):Int) 1)) _ _ s;rw[PQ];exact am h
theorem Z1(xs:Array af)(i k:Nat):((ak k).filterMap λ(m:Nat)=>xs[((i:Int)+(m:Int)*1).toNat]?).toArray=((xs.toList.drop i).take k).toArray:=by
 have e:(λ(m:Nat)=>xs[((i:Int)+(m:Int)*1).toNat]?)=λm=>xs[i+m]?:=by
  funext m;have:((i:Int)+(m:Int)*1).toNat=i+m:=by lia
  rw[this]
 rw[e];have:=pick_run xs i k;rw[Dk]at this;have a:((λx=>xs[x]?) ∘ λx=>i+x)=λm=>xs[i+m]?:=rfl;rw[a]at this;rw[this]
theorem getItem_tuple_cut{t c:ah}{items:Array af}{i j:af}{lo hi:Option Int}{Q:af->ag->Prop}(b:IsTup s.heap t items)(k:s.heap.IsSliceOf c i j .none)(pl:IsPart i lo)(l:IsPart j hi)
  (n:¬ (sIx items.size 0 lo=0/\sIx items.size items.size hi=items.size))
  (h:Q (.ref s.heap.objs.size) { s with heap:=s.heap.push { cls:=.type "tuple",data:=.seq ((items.toList.drop (sIx items.size 0 lo)).take (sIx items.size items.size hi-sIx items.size 0 lo)).toArray}})
  (hsz:items.size<=aS):au (model prog w) A (getItem (.ref t) (.ref c)) Q E s:=by
 have a:sizeOk (.seq ((items.toList.drop (sIx items.size 0 lo)).take (sIx items.size items.size hi-sIx items.size 0 lo)).toArray):=by
  show((items.toList.drop (sIx items.size 0 lo)).take (sIx items.size items.size hi-sIx items.size 0 lo)).toArray.size<=aS;rw[aU,eN,iN,aG];lia
 have r:sIx items.size items.size hi<=items.size:=sIx_le _ _ (aj _) hi;obtain⟨o,d,e,p⟩:=id k;have f:s.TypeIs (.ref c) "slice" :=⟨o,d,e⟩
 unfold getItem
 try with_reducible refine e6 ?_
 first|refine ac (am ?_)|skip
 refine ac (wpAny_sequenceKey b.typeIs (by decide) ?_);refine ac (wpAny_callSpecial?_slot (name:=iC "__getitem__") b.typeIs er
  (wpAny_call_entry er b.typeIs entry_tuple_getitem ?_ (args_tuple_getitem _ _)))
 show au _ _ (AE (.ref t) >>= _) _ _ s;refine ac (tupleItemsOf_ b ?_);refine ac (wpAny_typeOf f ?_);rw[if_pos (by decide)];refine ac (Yu k pl l ?_);have g:¬ ((((sIx items.size 0 lo:Nat):Int)==0&&(1:Int)==1&&(sIx items.size items.size hi-sIx items.size 0 lo)==items.size)=true):=by
  intro q;rw[eX,eX]at q;have u:((sIx items.size 0 lo:Nat):Int)=0:=eq_of_beq q.1.1;have v:sIx items.size items.size hi-sIx items.size 0 lo=items.size:=eq_of_beq q.2;exact n ⟨by lia,by lia⟩
 show au _ _ (if (((sIx items.size 0 lo:Nat):Int)==0&&(1:Int)==1&&(sIx items.size items.size hi-sIx items.size 0 lo)==items.size)=true then _ else _) _ _ s;rw[if_neg g,Z1]
 first
  |exact ac (m:=eL _) (wpAny_newObj_type (am ⟨_,rfl,am h⟩) a)
  |exact ac (m:=eL _) (wpAny_newObj_type (ac (am (am ⟨_,rfl,am h⟩))) a)
  |exact ac (ac (m:=eL _) (wpAny_newObj_type (am (am ⟨_,rfl,am h⟩)) a))
  |exact ac (ac (m:=eL _) (wpAny_newObj_type (am ⟨_,rfl,am h⟩) a))
end
end HT
namespace L2
open PySem PySem.Spec PyProof.Rows
abbrev TO:=St->Hp->(Option Int->Hp->Prop)->Prop
def PO(X:Cx)(e:Option Expr)(t:TO):Prop:=
 ∀(a:List (ah×Obj)) (s:ag) (b:St) (H:Hp) (Q:Option Int->Hp->Prop),Inv X a b H s->t b H Q ->
  au (model X.prog X.w) X.A (evalPart e X.env) (λu d=>∃o c,Inv X a b c d/\IsPart u o/\Q o c) X.xe s
def YV:TO:=λ_ H Q=>Q ab H
def Y0(t:TE):TO:=λa H Q=>t a H λx b=>∃i,x=.int i/\Q (aa i) b
section
variable {X:Cx}{e:Expr}{te:TE}{lo hi:Option Expr}{tl th:TO}{pos p2:Pos}
theorem PV:PO X ab YV:=by
 intro a s b H Q I h;rw[evalPart_none];exact am ⟨ab,H,I,.none,h⟩
theorem PX(h:PE X e te):PO X (aa e) (Y0 te):=by
 intro a s b H Q I c;rw[evalPart_some];refine zu (h a s b H _ I c) ?_;rintro u s1 ⟨x,d,f,g,j⟩;obtain⟨i,rfl,q⟩:=j;obtain⟨t,rfl⟩:=g;exact⟨aa i,d,f,.int i t,q⟩
def tW(X:Cx)(r:V->Option Int->Option Int->Hp->VK->Prop):Prop:=
 ∀(a:List (ah×Obj)) (s:ag) (b:St) (H:Hp) (x:V) (v c d:af) (lo hi:Option Int) (f:ah) (Q:VK),Inv X a b H s->RelV x v->s.heap.IsSliceOf f c d .none->IsPart c lo->IsPart d hi->r x lo hi H Q ->
  ∃T id,typeLookup (.type T) "__getitem__" =pure (aa (.builtin id))/\s.TypeIs v T/\au (model X.prog X.w) X.A (getItem v (.ref f)) (EP X a b Q) X.xe s
def Y2(r:V->Option Int->Option Int->Hp->VK->Prop)(te:TE)(tl th:TO):TE:=λa H Q=>te a H λx b=>tl a b λl c=>th a c λu d=>r x l u d Q
theorem Pk{r:V->Option Int->Option Int->Hp->VK->Prop}(j:tW X r)(k:PE X e te)(m:PO X lo tl)(n:PO X hi th):PE X (.Subscript e (.Slice lo hi ab p2) pos) (Y2 r te tl th):=by
 intro a s d H Q I h;refine Subscript_ (zu (k a s d H _ I h) ?_);rintro v s1 ⟨x,o,p,t,y⟩;refine wpAny_Slice (zu (m a s1 d o _ p y) λf z ⟨l,B,C,pl,E⟩=>zu (n a z d B _ C E) ?_);rintro g c ⟨u,i,G,J,K⟩;rw[evalPart_none];refine am ?_;have L:Inv X a d i { c with heap:=c.heap.push { cls:=.type "slice",data:=.fields #[f,g,.none]}}:=G.kept (t':=c.toks) λb P q=>ai _ q;obtain⟨T,id,M,N,O⟩:=j a { c with heap:=c.heap.push { cls:=.type "slice",data:=.fields #[f,g,.none]}} d i x v f g l u c.heap.objs.size Q L t (Dj ..) pl J K;show au (model X.prog X.w) X.A (subscriptTail e (.Slice lo hi ab p2) v (.ref c.heap.objs.size)) (EP X a d Q) X.xe { c with heap:=c.heap.push { cls:=.type "slice",data:=.fields #[f,g,.none]}};exact tail_any (ops:=[.ref c.heap.objs.size,v]) N M O (by with_unfolding_all rfl)
def uu(xs:List V)(lo hi:Option Int):List V:=(xs.drop (HT.sIx xs.length 0 lo)).take (HT.sIx xs.length xs.length hi-HT.sIx xs.length 0 lo)
theorem dS(xs:List V)(lo hi:Option Int):(uu xs lo hi).length<=xs.length:=by
 unfold uu;rw[eN,iN];lia
def ND(K:ae):V->Option Int->Option Int->Hp->VK->Prop:=λx lo hi H Q=>∃a b,x=.ref a/\SqT K H a b /\
 ¬ (HT.sIx b.length 0 lo=0/\HT.sIx b.length b.length hi=b.length)/\∀p,H p=ab->Q (.ref p) (zp H p (.tup (uu b lo hi)))
theorem MS:tW X (ND X.K):=by
 intro g s t H x v u w lo hi y Q I k l pl m h;obtain⟨a,d,rfl,n,p,q⟩:=h;cases k;obtain⟨f,r,i,j⟩:=I.tuple n;have c:f.toArray.size=d.length:=by rw[aU];exact r.length.symm
 refine⟨"tuple",_,er.lookup,i.typeIs,?_⟩;refine HT.getItem_tuple_cut i l pl m (by rw[c];exact p) ?_ (by rw[c];exact j);rw[c];refine⟨.ref s.heap.objs.size,_,I.laid (t':=s.toks) (o:=.tup (uu d lo hi)) (λb z q=>ai _ q) (aj _) ?_,rfl,q _ (I.hok.fresh (aj _))⟩;exact⟨aH (dS d lo hi) j,_,(r.drop (HT.sIx d.length 0 lo)).take (HT.sIx d.length d.length hi-HT.sIx d.length 0 lo),TupN.new _ _⟩
def Nu(K:ae):R2:=λx y H Q=>∃a b d c,x=.ref a/\y=.ref b/\SqT K H a d/\SqT K H b c/\d≠[]/\d.length+c.length<=aS /\
 (c=[]->Q (.ref a) H)/\(c≠[]->∀p,H p=ab->Q (.ref p) (zp H p (.tup (d++c))))
theorem Vals.nil_iff(r:Vals xs us):us=[] ↔ xs=[]:=by
 cases r with
 |nil=>simp
 |cons _ _=>simp
theorem Qn:yA X (binaryOp .Add) (Nu X.K):=by
 intro f s E H x y v u Q I j k h;obtain⟨a,b,l,m,rfl,rfl,n,p,r,g,t,A⟩:=h;cases j;cases k;obtain⟨B,d,C,_⟩:=I.tuple n;obtain⟨i,c,p2,_⟩:=I.tuple p;refine HT.cat_tup C p2 (λz=>r (d.nil_iff.mp z)) (λz=>⟨.ref a,H,I,rfl,t (c.nil_iff.mp z)⟩) (λz=>?_) (by rw[<- d.length,<- c.length];exact g);refine⟨.ref s.heap.objs.size,_,I.laid (t':=s.toks) (o:=.tup (l++m)) (λb G q=>ai _ q) (aj _) ?_,rfl,A (λw=>z (c.nil_iff.mpr w)) _ (I.hok.fresh (aj _))⟩;exact⟨by rw[aJ];exact g,_,d.append c,TupN.new _ _⟩
end
noncomputable def vC(n:Nat)(i:Int):Option Nat:=if 0<=i then (if i<n then aa i.toNat else ab)else if -(n:Int)<=i then aa (i+n).toNat else ab
def zO{α:Type}(xs:List α)(i:Int):Option α:=(vC xs.length i).bind λj=>xs[j]?
theorem bq{n:Nat}{i:Int}{j:Nat}(h:vC n i=aa j):seqIndex? i n=aa j/\j<n /\ -(n:Int)<=i/\i<n:=by
 unfold vC at h;by_cases b:0<=i
 ·rw[if_pos b]at h;by_cases a:i<n
  ·rw[if_pos a]at h;have e:i.toNat=j:=aO h;exact⟨by rw[seqIndex_of b a,e],by lia,by lia,a⟩
  ·rw[if_neg a]at h;cases h
 ·rw[if_neg b]at h;by_cases a:-(n:Int)<=i
  ·rw[if_pos a]at h;have e:(i+n).toNat=j:=aO h;exact⟨by rw[seqIndex_neg (by lia) a,e],by lia,a,by lia⟩
  ·rw[if_neg a]at h;cases h
theorem kx{a:Type}{xs:List a}{i:Int}{v:a}(h:zO xs i=aa v):∃j,seqIndex? i xs.length=aa j/\xs[j]? =aa v/\j<xs.length /\ -(xs.length:Int)<=i/\i<xs.length:=by
 unfold zO at h;cases e:vC xs.length i with
 |none=>rw[e]at h;cases h
 |some j=>
  rw[e]at h;obtain⟨b,c,d,f⟩:=bq e;exact⟨j,b,h,c,d,f⟩
def kr(b:Expr):Prop:=∀o i,subscripted b false o i=operate [o,i] (getItem o i)
def u7(X:Cx)(r:R2):Prop:=
 ∀(c a:Expr) (b:List (ah×Obj)) (s:ag) (d:St) (H:Hp) (x y:V) (v u:af) (Q:VK),Inv X b d H s->RelV x v->RelV y u->r x y H Q ->
  subscripted a false v u=operate [v,u] (getItem v u)->au (model X.prog X.w) X.A (subscriptTail c a v u) (EP X b d Q) X.xe s
def v5(X:Cx)(id:String)(r:V->List V->Hp->VK->Prop):Prop:=
 ∀(a:List (ah×Obj)) (s:ag) (b:St) (H:Hp) (x:V) (c:List V) (v:af) (d:List af) (Q:VK),Inv X a b H s->RelV x v->Vals c d->r x c H Q ->
  au (model X.prog X.w) X.A (call (.builtin id) (v::d)) (EP X a b Q) X.xe s
section
variable {X:Cx}{a b:Expr}{ta tb:TE}{pos:Pos}
theorem Pa(d:u7 X r)(e:PE X a ta)(f:PE X b tb)(g:kr b):PE X (.Subscript a b pos) (uq r ta tb):=by
 intro c s i H Q I h;exact Subscript_ (kB e f I h λv u j x y k l m n q=>d a b c j i k x y v u Q l m n q (g _ _))
def Ny(K:ae):R2:=λx y H Q=>∃p c i v,x=.ref p/\y=.int i/\SqL K H p c/\zO c i=aa v/\Q v H
def NA(K:ae):R2:=λx y H Q=>∃p c i v,x=.ref p/\y=.int i/\SqT K H p c/\zO c i=aa v/\Q v H
def Nz:R2:=λx y H Q=>∃z i c,x=.str z/\y=.int i/\z.length<=aS/\zO z.cps.toList i=aa c/\Q (.str ⟨#[c]⟩) H
theorem Tk:u7 X (Ny X.K):=by
 intro value slice pins s σ H x y v u Q I rx ry h hs;obtain⟨p,xs,i,z,rfl,rfl,hq,he,q⟩:=h;cases rx;obtain⟨t,rfl⟩:=ry;obtain⟨its,r,pl,hz⟩:=I.list hq;obtain⟨j,h1,h2,h3,h4,h5⟩:=kx he;obtain⟨w,ew,rw'⟩:=r.get h2;have hl:=r.length;have hn:=rO;have z9:EP X pins σ Q w s:=⟨z,H,I,rw',q⟩
 by_cases h0:0<=i
 ·have hj:i.toNat=j:=by
   rw[seqIndex_of h0 h5]at h1;exact aO h1
  exact item_listR pl.isList h0 (by lia) (by rw[hj];simpa using ew) z9 hs
 ·have hj:(i+(its.toArray.size:Int)).toNat=j:=by
   rw[seqIndex_neg (by lia) h4]at h1;rw[aU,<- hl];exact aO h1
  exact subscriptTail_builtinR (x:=w) pl.isList.typeIs slot_list_getitem.lookup
   (wpAny_getItem_list_neg (Q:=λr s'=>r=w/\EP X pins σ Q r s') pl.isList (by lia) (by rw[aU] <;> lia) (by lia) (by rw[hj];simpa using ew) ⟨rfl,z9⟩) hs
theorem bu:u7 X (NA X.K):=by
 intro value slice pins s σ H x y v u Q I rx ry h hs;obtain⟨p,xs,i,z,rfl,rfl,hq,he,q⟩:=h;cases rx;obtain⟨t,rfl⟩:=ry;obtain⟨its,r,pl,hz⟩:=I.tuple hq;obtain⟨j,h1,h2,h3,h4,h5⟩:=kx he;obtain⟨w,ew,rw'⟩:=r.get h2;have hl:=r.length;have hn:=rO;have z9:EP X pins σ Q w s:=⟨z,H,I,rw',q⟩
 exact subscriptTail_builtinR (x:=w) pl.typeIs slot_tuple_getitem.lookup
  (getItem_tuple (j:=j) (Q:=λr s'=>r=w/\EP X pins σ Q r s') pl (by lia) (by lia) (by rw[aU,<- hl];exact h1) (by simpa using ew) ⟨rfl,z9⟩) hs
theorem Tl:u7 X Nz:=by
 intro value slice pins s σ H x y v u Q I rx ry h hs;obtain⟨z,i,c,rfl,rfl,hz,he,q⟩:=h;obtain⟨t,rfl⟩:=rx;obtain⟨t',rfl⟩:=ry;obtain⟨j,h1,h2,h3,h4,h5⟩:=kx he;have hl:z.cps.toList.length=z.length:=by simp[Bx]
 rw[hl]at h1 h4 h5;have hn:=rO;exact tail_any (typeIs_str s z t) slot_str_getitem.lookup (getItem_str (c:=c) (by
  have e1:decide (i < -(2 ^ 63:Int))=false:=decide_eq_false (by lia);have e2:decide (i ≥ 2 ^ 63)=false:=decide_eq_false (by lia);rw[e1,e2,A7]) (by rw[h1];simpa using h2) ⟨.str ⟨#[c]⟩,H,I.tok _,⟨_,rfl⟩,q⟩) hs
theorem Rl(c:List af)(n j:Nat)(u:af):eU (·.setIfInBounds j u) { cls:=.type "list",data:=.seq c.toArray n}={ cls:=.type "list",data:=.seq (c.set j u).toArray n}:=by
 simp[eU]
theorem Inv.lst{s:ag}{p:ah}{xs:List V}(I:Inv X pins σ H s)(h:H p=aa (.lst xs)) :
 ∃(c:List af) (n:Nat),Vals xs c/\s.heap.get? p=aa { cls:=.type "list",data:=.seq c.toArray n}/\xs.length<=aS:=by
  obtain⟨z,c,n,r,e⟩:=I.hok p _ h;exact⟨c,n,r,e,z⟩
theorem Inv.lstUpd{s:ag}{p:ah}{d:List V}{c its':List af}{n g:Nat}{f:Obj->Obj}(I:Inv X pins σ H s)(h:H p=aa (.lst xs))
 (j:s.heap.get? p=aa { cls:=.type "list",data:=.seq c.toArray n}) (i:f { cls:=.type "list",data:=.seq c.toArray n}={ cls:=.type "list",data:=.seq its'.toArray g}) (r:Vals d its') (k:d.length<=aS) (t:Nat) :
 Inv X pins σ (zp H p (.lst d)) { s with heap:=s.heap.update p f,toks:=t}:=by
  have e:(s.heap.update p f).get? p=aa { cls:=.type "list",data:=.seq its'.toArray g}:=by
    rw[iX f j (by rw[i] <;> rfl),i]
  refine I.write (x:=p) (e:=p) (by rw[h];trivial) (.inl rfl) (λb u l q=>(ib _ _ (iM l)).trans q) ⟨_,e⟩ ?_;exact⟨k,its',g,r,e⟩
def Yc:V->V->V->Hp->(Hp->Prop)->Prop:=λo i v H Q=>∃p c k j,o=.ref p/\i=.int k/\H p=aa (.lst c)/\vC c.length k=aa j/\Q (zp H p (.lst (c.set j v)))
theorem MH:kq X Yc:=by
 intro pins s σ H o i v ov iv u Q I ro ri rv h;obtain⟨p,xs,k,j,rfl,rfl,hp,hj,q⟩:=h;cases ro;obtain⟨t,rfl⟩:=ri;obtain⟨its,n,r,ho,hz⟩:=I.lst hp;obtain⟨h1,h2,h3,h4⟩:=bq hj;have hl:=r.length;have hn:=rO;have I':Inv X pins σ (zp H p (.lst (xs.set j v))) { s with heap:=s.heap.update p (eU (·.setIfInBounds j u))}:=
  I.lstUpd hp ho (Rl its n j u) (r.set rv j) (by rw[D0];exact hz) s.toks
 by_cases h0:0<=k
 ·have hk:k.toNat=j:=by
   rw[seqIndex_of h0 h4]at h1;exact aO h1
  exact PySem.W.ki_setAt ho h0 (by lia) (by rw[aU,<- hl];exact h4) (by rw[hk];exact⟨_,I',q⟩)
 ·have hk:(k+(its.toArray.size:Int)).toNat=j:=by
   rw[seqIndex_neg (by lia) h3]at h1;rw[aU,<- hl];exact aO h1
  exact PySem.W.ki_setBack ho (by lia) (by rw[aU,<- hl];exact h3) (by lia) (by rw[hk];exact⟨_,I',q⟩)
theorem MV(lo hi:Option Int)(n:Nat):(sliceBounds lo hi ab n).1=((HT.sIx n 0 lo:Nat):Int)/\(sliceBounds lo hi ab n).2.1=((HT.sIx n n hi:Nat):Int)/\(sliceBounds lo hi ab n).2.2=1:=by
 refine⟨?_,?_,rfl⟩
 ·cases lo with
  |none=>simp[sliceBounds,HT.sIx]
  |some i=>
   simp only[sliceBounds,HT.sIx,DU,show(1:Int) > 0 by decide,if_true];by_cases h:i<0
   ·simp only[h,if_true] <;> lia
   ·simp only[h,if_false] <;> lia
 ·cases hi with
  |none=>simp[sliceBounds,HT.sIx]
  |some i=>
   simp only[sliceBounds,HT.sIx,DU,show(1:Int) > 0 by decide,if_true];by_cases h:i<0
   ·simp only[h,if_true] <;> lia
   ·simp only[h,if_false] <;> lia
theorem MU(c:List af)(lo hi:Option Int):slicePick c.toArray lo hi ab=((c.drop (HT.sIx c.length 0 lo)).take (HT.sIx c.length c.length hi-HT.sIx c.length 0 lo)).toArray:=by
 obtain⟨d,e,f⟩:=MV lo hi c.toArray.size;unfold slicePick;rw[d,e,f];simp only[sliceRange_one,pick_run,aU] <;> rfl
def NC(K:ae):V->Option Int->Option Int->Hp->VK->Prop:=λx d e H Q=>∃a c,x=.ref a/\SqL K H a c/\∀p,H p=ab->Q (.ref p) (zp H p (.lst (uu c d e)))
theorem MQ:tW X (NC X.K):=by
 intro g s t H x v u w e f y Q I j k pl l h;obtain⟨a,c,rfl,m,q⟩:=h;cases j;obtain⟨n,r,i,p⟩:=I.list m;have d:=r.length;refine⟨"list",_,slot_list_getitem.lookup,i.isList.typeIs,?_⟩;refine wpAny_getItem_list_slice i.isList k pl l .none (by simp) ?_ (by rw[aU] <;> lia);rw[MU,<- d];refine⟨.ref s.heap.objs.size,_,I.laid (t':=s.toks) (o:=.lst (uu c e f)) (λb z q=>ai _ q) (aj _) ?_,rfl,q _ (I.hok.fresh (aj _))⟩;exact⟨aH (dS c e f) p,_,0,(r.drop (HT.sIx c.length 0 e)).take (HT.sIx c.length c.length f-HT.sIx c.length 0 e),ax _ rfl⟩
def vx:V->Bool
 |.non=>true
 |.bl _=>true
 |.int _=>true
 |.str _=>true
 | _=>false
noncomputable def vS:V->V->Bool
 |.non,.non=>true
 |.bl a,.bl b=>a==b
 |.bl a,.int b=>(if a then 1 else 0)==b
 |.int a,.bl b=>a==(if b then 1 else 0)
 |.int a,.int b=>a==b
 |.str a,.str b=>a==b
 | _,_=>false
theorem kP(e:RelV y u)(c:RelV x v)(g:vx y=true)(f:vx x=true):AC A s u v (vS y x):=by
 cases y with
 |non=>
  cases e;cases x with
  |non=>cases c;exact CD _
  |bl b=>cases c;exact Fe b
  |int b=>obtain⟨t,rfl⟩:=c;exact Fl b t
  |str b=>obtain⟨t,rfl⟩:=c;exact Fm b t
  | _=>exact absurd (show false=true from f) aK
 |bl a=>
  cases e;cases x with
  |non=>cases c;exact Fd a
  |bl b=>cases c;exact Fc a b
  |int b=>obtain⟨t,rfl⟩:=c;exact Fh a b t
  |str b=>obtain⟨t,rfl⟩:=c;exact Fi a b t
  | _=>exact absurd (show false=true from f) aK
 |int a=>
  obtain⟨d,rfl⟩:=e;cases x with
  |non=>cases c;exact Fk a d
  |bl b=>cases c;exact Fj a d b
  |int b=>obtain⟨t,rfl⟩:=c;exact Ft a d b t
  |str b=>obtain⟨t,rfl⟩:=c;exact Dt a d b t
  | _=>exact absurd (show false=true from f) aK
 |str a=>
  obtain⟨d,rfl⟩:=e;cases x with
  |non=>cases c;exact Fo a d
  |bl b=>cases c;exact Fn a d b
  |int b=>obtain⟨t,rfl⟩:=c;exact Du a d b t
  |str b=>obtain⟨t,rfl⟩:=c;exact Fu a d b t
  | _=>exact absurd (show false=true from f) aK
 | _=>exact absurd (show false=true from g) aK
def nM(x:V)(u:af):Bool:=match u with
 |.none=>vS .non x
 |.bool b=>vS (.bl b) x
 |.int i _=>vS (.int i) x
 |.str z _=>vS (.str z) x
 | _=>false
theorem cp(r:RelV y u)(f:vx y=true):nM x u=vS y x:=by
 cases y with
 |non=>cases r;rfl
 |bl b=>cases r;rfl
 |int i=>obtain⟨t,rfl⟩:=r;rfl
 |str z=>obtain⟨t,rfl⟩:=r;rfl
 | _=>exact absurd (show false=true from f) aK
theorem Zv{x:V}(d:RelV x v)(e:vx x=true):∀{xs:List V} {us:List af},Vals xs us->xs.all vx=true->∀u∈us,AC A s u v (nM x u)
 | _,_,.nil,_=>λu c=>by cases c
 |y::xs,u::us,.cons r t,f=>λg c=>by
  rw[Ac,eX]at f;rcases aC.mp c with rfl|c
  ·rw[cp r f.1];exact kP r d f.1 e
  ·exact Zv d e t f.2 g c
theorem WV:wT X (.builtin "len") (λxs H Q=>∃p ys,xs=[.ref p]/\(SqL X.K H p ys\/SqT X.K H p ys)/\Q (.int ys.length) H):=by
 intro pins s σ H xs us Q I r h;obtain⟨p,ys,rfl,hq,q⟩:=h;obtain⟨u,rfl,rx⟩:=ur r;cases rx;have hn:=rO;rcases hq with hq|hq
 ·obtain⟨its,r',pl,hz⟩:=I.list hq;have hlen:=r'.length;exact Calls.call_len_list pl.isList (by simp only[aU] <;> lia) ⟨.int ys.length,H,I.tok _,⟨s.toks+1,by rw[aU,hlen]⟩,q⟩
 ·obtain⟨its,r',pl,hz⟩:=I.tuple hq;have hlen:=r'.length;exact len_tuple pl (by simp only[aU] <;> lia) ⟨.int ys.length,H,I.tok _,⟨s.toks+1,by rw[aU,hlen]⟩,q⟩
theorem WX:wT X (.builtin "len") (λxs H Q=>∃z,xs=[.str z]/\z.length<=aS/\Q (.int z.length) H):=by
 intro pins s σ H xs us Q I r h;obtain⟨z,rfl,hz,q⟩:=h;obtain⟨u,rfl,t,rfl⟩:=ur r;have hn:=rO;exact len_str (by lia) ⟨.int z.length,H,I.tok _,⟨_,rfl⟩,q⟩
theorem W6:wT X (.type "tuple") (λk H Q=>∃p f,k=[.ref p]/\((SqL X.K H p f/\∀l,H l=ab->Q (.ref l) (zp H l (.tup f)))\/(SqT X.K H p f/\Q (.ref p) H))):=by
 intro c s m H k A Q I r h;obtain⟨p,f,rfl,h⟩:=h;obtain⟨u,rfl,x⟩:=ur r;cases x;rcases h with ⟨i,q⟩|⟨i,q⟩
 ·obtain⟨d,j,pl,n⟩:=I.list i;have t:=j.length;refine call_tuple_list pl.isList (λg y=>?_) (by simp only[aU] <;> lia);have v:Inv X c m H { s with heap:=g}:=I.kept (t':=s.toks) y;have z:Inv X c m (zp H g.objs.size (.tup f)) { s with heap:=g.push { cls:=.type "tuple",data:=.seq d.toArray}}:=
   v.laid (t':=s.toks) (λb o e=>ai _ e) (aj _) (show ObjOk X.prog X.w _ _ _ (.tup f)from ⟨n,d,j,TupN.new _ _⟩)
  exact⟨.ref g.objs.size,_,z,rfl,q _ (v.hok.fresh (aj _))⟩
 ·obtain⟨d,j,pl,n⟩:=I.tuple i;exact call_tuple_same pl ⟨.ref p,H,I,rfl,q⟩
def gp(K:ae)(T:String)(x:V)(H:Hp):Prop:=match x with
 |.str _=>T = "str"
 |.int _=>T = "int"
 | .ref p=>(T = "list" /\ ∃ d,SqL K H p d) \/ (T = "tuple" /\ ∃ o,K.lookup p=aa o/\o.cls=.type "tuple" /\ o.dict=ab) \/
   (T = "dict" /\ ((∃c,Rd H p (.dK c))\/∃c,H p=aa (.dT c)))\/(T = "set" /\ ∃S n,H p=aa (.set S n))
 | _=>False
theorem Kg{s:ag}{T:String}(I:Inv X pins σ H s)(r:RelV x v)(g:gp X.K T x H) :
 s.TypeIs v T/\∀a,v=.ref a->∃l,s.heap.get? a=aa l/\l.dict=ab:=by
  cases x with
  |str z=>
    obtain⟨t,rfl⟩:=r;cases (show T = "str" from g);exact⟨typeIs_str s z t,λ_ e=>nomatch e⟩
  |int i=>
    obtain⟨t,rfl⟩:=r;cases (show T = "int" from g);exact⟨typeIs_int s i t,λ_ e=>nomatch e⟩
  |ref p=>
    cases r;rcases g with ⟨rfl,w,m⟩|⟨rfl,o,d,q,h⟩|⟨rfl,d⟩|⟨rfl,S,n,d⟩
    · obtain⟨u,_,pl,_⟩:=I.list m;refine⟨pl.isList.typeIs,λa e=>?_⟩;cases e;obtain⟨o,n,e,c,h,_⟩:=pl;exact⟨o,e,h⟩
    · refine⟨⟨o,I.kIn p o d,q⟩,λa e=>?_⟩;cases e;exact⟨o,I.kIn _ o d,h⟩
    · have z:∃o,s.heap.get? p=aa o/\o.ExactDict:=by
        rcases d with ⟨j,d⟩|⟨j,d⟩
        · obtain⟨_,_,_,_,o,_,_,e,f,_⟩:=d.ok I.hok;exact⟨o,e,f⟩
        · obtain⟨_,_,_,_,o,_,_,e,f,_⟩:=I.hok p _ d;exact⟨o,e,f⟩
      obtain⟨o,e,f⟩:=z;refine⟨⟨o,e,f.1⟩,λa k=>?_⟩;cases k;exact⟨o,e,f.2.1⟩
    · obtain⟨o,_,_,_,e,f,_⟩:=I.hok p _ d;refine⟨⟨o,e,f.1⟩,λa k=>?_⟩;cases k;exact⟨o,e,f.2.1⟩
  | _=>exact iG g
def gc(K:ae)(T:String)(r:V->List V->Hp->VK->Prop)(e:TE)(t:TA):TE:=λc H Q=>e c H λx d=>gp K T x d/\t c d λf g=>r x f g Q
variable {o e:Expr}{es:List Expr}{to:TE}{t:TA}{name:Str}{apos cpos:Pos}{T id:String}{r:V->List V->Hp->VK->Prop}
theorem Q1(q:PlainAttrs T)(i:Slot T name id)(k:typeOf (.builtin id)=pure (.type "method_descriptor"))(u:v5 X id r)(w:PE X o to)(y:PA X (e::es) t)
  (f:eZ o name X.env (eval o X.env)=eval o X.env:=by rfl)
  (j:((backTo cpos (aZ (e :: es) X.env)).all (fun x=>!x.1) && (backToKw cpos (keywordEach [] X.env)).all (fun x=>x.1.isSome)
   && decide ((e::es).length+([]:List Keyword).length+(if ([]:List Keyword).isEmpty then 0 else 1)<30))=true:=by rfl)
  (g:(apos.endLine==cpos.line)=true:=by rfl) (z:aZ (e::es) X.env=(false,eval e X.env)::aZ es X.env:=by rfl) (d:(backTo cpos (aZ es X.env)).any (·.1)=false:=by rfl) :
  PE X (.Call (.Attribute o name apos) (e::es) [] cpos) (gc X.K T r to t):=by
 intro c s l H Q I h;refine wpAny_Call_method_late f j g rfl (zu (w c s l H _ I h) ?_);rintro v s1 ⟨x,A,m,n,B,C⟩;obtain⟨E,G⟩:=Kg m n B;refine⟨T,id,q,i,k,E,G,?_⟩;have p:=y cpos c s1 l A _ m C;rw[z]at p ⊢;refine CF (by show(false || (backTo cpos (aZ es X.env)).any (·.1))=false;rw[d] <;> rfl) (CZ ?_);refine zu p ?_;rintro J L ⟨M,N,O,P,R⟩;exact u c L l N x M v J Q O n P R
end
def f8(X:Cx)(id:String)(r:V->List V->Hp->VK->Prop):Prop:=
 ∀(a:List (ah×Obj)) (s:ag) (b:St) (H:Hp) (x:V) (c:List V) (v:af) (d:List af) (Q:VK),Inv X a b H s->RelV x v->Vals c d->r x c H Q ->
  au (model X.prog X.w) X.A (call (.builtin id) (v::d)) (EP X a b Q) X.xe s
theorem Vals.one:∀{x:V} {us:List af},Vals [x] us->∃u,us=[u]/\RelV x u
 | _,_,.cons r .nil=>⟨_,rfl,r⟩
theorem Vals.zero:∀{us:List af},Vals [] us->us=[]
 | _,.nil=>rfl
theorem Vals.dropLast{xs:List V}{us:List af}(h:Vals xs us):Vals xs.dropLast us.dropLast:=by
 induction h with
 |nil=>exact .nil
 |cons r t a=>
  cases t with
  |nil=>exact .nil
  |cons q b=>exact .cons r a
section
variable {X:Cx}{pins:List (ah×Obj)}{σ:St}{H:Hp}{s:ag}{l b:ah}{xs ys zs:List V}
theorem Inv.lset{a its':List af}{n:Nat}{f:Array af->Array af}{t':Nat}(I:Inv X pins σ H s)(c:H l=aa (.lst xs))
  (e:s.heap.get? l=aa { cls:=.type "list",data:=.seq a.toArray n}) (d:f a.toArray=its'.toArray) (g:Vals ys its') (h:ys.length<=aS) :
  Inv X pins σ (zp H l (.lst ys)) { s with heap:=s.heap.update l (eU f),toks:=t'}:=by
 have q:=FM e f;rw[d]at q;refine I.write (x:=l) (e:=l) (by rw[c];exact trivial) (.inl rfl) (λk u i j=>(ib s.heap (eU f) (iM i)).trans j) ⟨_,q⟩ ?_;exact⟨h,its',_,g,q⟩
theorem Inv.lnew{a:List af}{t':Nat}(I:Inv X pins σ H s)(c:Vals ys a)(d:ys.length<=aS) :
  Inv X pins σ (zp H s.heap.objs.size (.lst ys)) { s with heap:=s.heap.push { cls:=.type "list",data:=.seq a.toArray},toks:=t'}:=
 I.laid (λ_ _ q=>ai _ q) (aj _) ⟨d,a,0,c,ax _ rfl⟩
theorem Inv.fresh(I:Inv X pins σ H s):H s.heap.objs.size=ab:=I.hok.fresh (aj _)
theorem Inv.lstM(I:Inv X pins σ H s)(c:H l=aa (.lst xs)):xs.length<=aS/\∃(a:List af) (n:Nat),Vals xs a/\xs.length=a.length/\s.heap.get? l=aa { cls:=.type "list",data:=.seq a.toArray n}:=by
 obtain⟨z,a,n,r,e⟩:=I.hok l _ c;exact⟨z,a,n,r,r.length,e⟩
theorem RJ{n:Nat}(h:n<=aS):AK n=false:=by
 unfold AK;exact decide_eq_false (by lia)
end
section
variable {X:Cx}
def Nr:V->List V->Hp->VK->Prop:=λx b H Q=>∃l a y,x=.ref l/\b=[y]/\H l=aa (.lst a)/\a.length<aS/\Q .non (zp H l (.lst (a++[y])))
theorem mW:f8 X "list.append" Nr:=by
 intro b s i H x j v k Q I d f h;obtain⟨l,m,y,rfl,rfl,c,o,q⟩:=h;cases d;obtain⟨u,rfl,g⟩:=f.one;obtain⟨z,a,n,r,p,e⟩:=I.lstM c;refine call_meets F.slot_list_append ⟨_,e,rfl⟩ F.entry_list_append (F.args_list_append_2 _ _) (PySem.list_append l a.toArray n u (by rw[aU];lia)) ⟨e,?_⟩;refine⟨.non,_,I.lset (its':=a++[u]) c e (by simp) (r.append (.cons g .nil)) ?_,rfl,q⟩;rw[aJ,iY];lia
def Nw:V->List V->Hp->VK->Prop:=λx d H Q=>∃l b a c,x=.ref l/\d=[.ref b]/\H l=aa (.lst a)/\H b=aa (.lst c)/\a.length+c.length<=aS/\Q .non (zp H l (.lst (a++c)))
theorem Ry:f8 X "list.extend" Nw:=by
 intro g s A H x B v C Q I j k h;obtain⟨l,b,E,G,rfl,rfl,i,m,J,q⟩:=h;cases j;obtain⟨u,rfl,o⟩:=k.one;cases o;obtain⟨z,c,n,r,K,e⟩:=I.lstM i;obtain⟨L,a,p,t,w,y⟩:=I.lstM m;have f:c.toArray.size+a.toArray.size<=aS:=by rw[aU,aU];lia
 have d:¬ (!c.toArray.isEmpty&&AK (c.toArray.size+a.toArray.size))=true:=by
  rw[RJ f,oF];exact aK
 refine call_meets F.slot_list_extend ⟨_,e,rfl⟩ F.entry_list_extend (F.args_list_extend_2 _ _)
  (AutoSeq1.list_extend_list_list_0 l c.toArray n b a.toArray p d (by rw[aU];lia) (by lia)) ⟨e,y,?_⟩
 refine⟨.non,_,I.lset (its':=c++a) i e (by simp) (r.append t) ?_,rfl,q⟩;rw[aJ];lia
def Nt:R2:=λx y H Q=>∃l b a c,x=.ref l/\y=.ref b/\H l=aa (.lst a)/\H b=aa (.lst c)/\a.length+c.length<=aS/\∀p,H p=ab->Q (.ref p) (zp H p (.lst (a++c)))
theorem Qm:yA X (binaryOp .Add) Nt:=by
 intro d s t H x y v u Q I f g h;obtain⟨l,b,w,A,rfl,rfl,i,j,B,q⟩:=h;cases f;cases g;obtain⟨z,c,n,r,C,e⟩:=I.lstM i;obtain⟨E,a,G,k,m,o⟩:=I.lstM j;refine PySem.P.add_list e o ?_ (by rw[aU,aU];lia);have p:c.toArray++a.toArray=(c++a).toArray:=by simp
 rw[p];exact⟨.ref _,_,I.lnew (t':=s.toks) (r.append k) (by rw[aJ];lia),rfl,q _ I.fresh⟩
end
section
variable {prog:aN}{w:aR}{A:a4}{E:af->ag->Prop}{s:ag}
end
section
variable {X:Cx}
end
end L2
namespace Att
open PySem PySem.W PySem.Calls PyProof.Rows
theorem UZ:∀(ns:List Int) (vs:List af),WellAll P h vs (ns.map FB)->IntsAre vs ns:=by
 intro ns
 induction ns with
 |nil=>
  intro vs w;rw[ij]at w;cases w;exact .nil
 |cons n ns c=>
  intro vs w;rw[ay]at w;cases w with
  |cons a b=>
   cases a;exact .cons _ _ (c _ b)
theorem Mz{l:OpenLaw}{n:Nat}(hn:l.most=aa n){h:aX}
 (c:l.row.toRowW.claim.pre args=true) (j:WellAll P h vals args) :
 ∃a m b,vals=[ea a]/\args=[WData.list (b.map FB)]/\h.get? a=aa { cls:=.type "list",data:=.seq m.toArray}/\IntsAre m b/\b.length<=n:=by
  have k:WShape.hasAll [] args [.list .int]=true:=(pre_splitW c).1;have o:l.pre.holds [] { args:=args}=true:=(pre_splitW c).2;obtain⟨d,r,rfl,p,s⟩:=hasAllW_cons k;obtain rfl:=hasAllW_nil s;obtain⟨y,rfl,t⟩:=hasW_list p;obtain⟨b,rfl⟩:=items_int t;have e:b.length<=n:=by
    unfold OpenLaw.pre at o;have g:(WTm.not (.lt (.lit (.int (n:Int))) (.len (.arg 0)))).holds [] { args:=[.list (b.map .int)]}=true:=by
      have g:=(holds_andW o).1;rw[hn]at g;exact g
    have i:=condW_of g (w_not (w_lt w_lit (w_len_list (w_arg rfl))));rw[ar]at i;refine Nat.le_of_not_lt λq=>?_;have u:(n:Int)<((b.length:Nat):Int):=by lia
    first
      |(rw[decide_eq_true u]at i;exact absurd i (by decide))
      |(simp at i;lia)
  cases j with
  |cons v w=>
    cases w;cases v with
    |list x f=>exact⟨_,_,b,rfl,rfl,x,UZ b _ f,e⟩
theorem P0(l:OpenLaw)(args:List WData):l.row.toRowW.claim.post args (.bool true) args=true:=
 postW_of (r:=l.row.toRowW) (X:=(true==true))
  (show Ff [] (.bool true) .bool=true by first|rfl|decide|simp[Ff,WShape.arms,WShape.armsAll])
  (show(WTm.eq .res (.lit (.bool true))).value [] { args:=args,res:=aa (.bool true),after:=args}=aa (.bool (true==true))from w_eq_bool (w_res rfl) w_lit) rfl
theorem attach_call{l:OpenLaw}{n:Nat}{XP:(Str->Option af)->aX->Prop}{YP:aR->aX->Prop}{d:DefRec}
 (hn:l.most=aa n) (u:d.params.defaults=[])
 (h:∀(w:aR) (c b:ag) (p v:Str->Option af) (i:ah) (o:Obj) (x s e:af) (a:ah) (vs:List af) (ns:List Int),
 Ground q loose [] XP w c p v b.heap->YP w b.heap ->
 b.heap.get? i=aa o->o.data=.func (docDef d.name d.params d.body d.scope x s e)->b.heap.CodeRec s d.name->p d.name=aa (.ref i) ->
 b.heap.get? a=aa { cls:=.type "list",data:=.seq vs.toArray}->IntsAre vs ns->ns.length<=n->b.gens=#[] ->
 codeAny (model l.prog w) callerA (.call (.ref i) ⟨[.ref a],[]⟩) (λr t=>r=.ok (.ret (.bool true))/\OldK b.heap t.heap/\t.os=b.os/\AllBare t.gens) b) :
 WalkO q loose XP YP l.row.toRowW d [] (λf vs=>C6 f vs):=by
  intro w c b p v G Y i o x s e I kV J K y B z L C E T j H M A N;obtain rfl:I=.none:=Dflts.none B u;obtain rfl:kV=.none:=Dflts.noKw B;obtain⟨a,vs,ns,rfl,rfl,k,g,m⟩:=Mz hn j A;refine enter_call (codeAny_mono (h w c b p v i o x s e a vs ns G Y J (fd_plain K) y z k g m L) λr t O=>?_);obtain⟨rfl,P,Q,R⟩:=O;exact⟨.inl ⟨.bool true,.bool true,[],rfl,λ_=>rfl,.bool true,P0 l _,λ_=>⟨FF,λ_ S=>(nomatch S)⟩⟩,P,Q,R⟩
section
variable {prog:aN}{w:aR}{A:a4}{E:af->ag->Prop}{s:ag}{K:Frag}
end
end Att
namespace L2
open PySem PySem.Spec PyProof.Rows
theorem Xu:∀{vs:List af} {ns:List Int},IntsAre vs ns->Vals (ns.map V.int) vs
 | _,_,.nil=>.nil
 | _,_,.cons n t h=>.cons ⟨t,rfl⟩ (Xu h)
def ko(H:Hp):Prop:=∀b,H b=ab\/∃o a,H b=aa (.frz o (.lst a))
theorem SM{K:ae}{t N:Str->Option af}{k:Nat}{x:Str}{s₁:ag}{vs:List af}{ns:List Int}
 (Y:K.In s₁.heap) (y:s₁.heap.Ns aY t) (f:s₁.heap.Ns builtinsNs N) (O:∀x:Str,x≠ "__name__" -> N x=eg x) (A:s₁.heap.NoLimit) (hg:s₁.gens=#[])
 (M:s₁.heap.get? a=aa { cls:=.type "list",data:=.seq vs.toArray}) (hi:IntsAre vs ns) (Z:ns.length<=aS) (hr:Room k callerA)
 (F:∀g:aX,K.In g->g.Ns aY t->FnOk P w K t g CX k fa fd [x] sp) (p:∀(s:ag) (u:af),BindsTo s fd ⟨[u],[]⟩ [(x,u)])
 (Q:∀H:Hp,ko H->SqL K H a (ns.map V.int)->sp [.ref a] H (λv _=>v=.bl true) λ_ _ _=>False)
 (R:∀H e i,CX [] H s₁ (λ_ _ _=>False) e i->False) :
 codeAny (model P w) callerA (.call (.ref fa) ⟨[.ref a],[]⟩) (λr i=>r=.ok (.ret (.bool true))/\OldK s₁.heap i.heap/\i.os=s₁.os/\AllBare i.gens) s₁:=by
  have rv:=Xu hi;have B:=hi.length;have l:∀H:Hp,ko H->SqL K H a (ns.map V.int)->HOk P w H s₁.heap->(∀b,H b≠ab->b=a)->(H a≠ab->K.lookup a=ab) ->
      codeAny (model P w) callerA (.call (.ref fa) ⟨[.ref a],[]⟩) (λr i=>r=.ok (.ret (.bool true))/\OldK s₁.heap i.heap/\i.os=s₁.os/\AllBare i.gens) s₁:=by
    intro H hO hS C hA hK;have c:∀{b:ah} {o:Obj},s₁.heap.get? b=aa o->H b=ab->(uV s₁.heap H).get? b=aa o:=λe n=>Uu e n;have S:∀{b:ah} {o:Obj} {E:Array DictEntry} {ep:Nat},s₁.heap.get? b=aa o->o.data=.dict E ep->H b=ab:=fun {b o E ep} e d=>by
      cases q:H b with
      |none=>rfl
      |some u=>
        have T:b=a:=hA b (by rw[q];simp);subst T;rw[M]at e;cases e;have d':DM vs.toArray _=Data.dict E ep:=d;cases d'
    have j:∀{b:ah} {m:Str->Option af},s₁.heap.Ns b m->(uV s₁.heap H).Ns b m:=fun {b m} ⟨o,E,ep,e,d,r⟩=>⟨o,E,ep,c e (S e d),d,r⟩
    have G:K.In (uV s₁.heap H):=λb o e=>c (Y b o e) (by
      cases q:H b with
      |none=>rfl
      |some u=>
        have T:b=a:=hA b (by rw[q];simp);subst T;rw[hK (by rw[q];simp)]at e;cases e)
    have hM:Mod K t (uV s₁.heap H):=⟨G,j y,⟨N,j f,O⟩,let⟨mc,h1,h2⟩:=A;⟨mc,j h1,h2⟩⟩
    have e0:Env0 P w K t (uV s₁.heap H) callerA [] s₁ H:=⟨rfl,hM,λb o e=>Qg e,Aq (Uv _ _),trivial,λb f=>absurd (show b∈([]:List ah)from f) (by simp),C,.of_eq hg⟩
    refine codeAny_mono ((F _ G (j y)).run callerA [] s₁ H ⟨[.ref a],[]⟩ [.ref a] [.ref a] _ _ hr e0 (p s₁ (.ref a)) (.cons rfl .nil) (Q H hO hS)) λr i h=>?_;cases r with
    |error e=>exact(R H e i h).elim
    |ok fl=>
      cases fl with
      |next=>exact iG h
      |brk=>exact iG h
      |cont=>exact iG h
      |ret u=>
        obtain⟨v,H',os,I,un,J,r',q⟩:=h;have q':v=.bl true:=q;subst q';obtain rfl:u=By true:=r';refine⟨rfl,OldK.of_keep λb o e=>?_,os,I⟩;cases q:H b with
        |none=>exact un.keep b o e q (by intro z;exact absurd (show b∈([]:List ah)from z) (by simp)) (by simp)
        |some u=>
          rcases hO b with z|⟨ob,xs,z⟩
          · rw[q]at z;cases z
          · have z2:=un.frzs b ob _ z;obtain⟨e1,_⟩:=C b _ z;obtain⟨e2,_⟩:=J b _ z2;rw[e]at e1;cases e1;exact e2
  cases U:K.lookup a with
  |some o=>
    have e:=Y a o U;rw[M]at e;cases e;refine l (λ_=>ab) (λ_=>.inl rfl) (.inr ⟨_,vs.toArray,_,U,rfl,rfl,rfl,by rw[aU,B];exact Z,by simpa using rv⟩) (λb u z=>by have L:(ab:Option HO)=aa u:=z;cases L) (λb z=>absurd rfl z) λz=>absurd rfl z
  |none=>
    refine l (λb=>if b=a then aa (.frz { cls:=.type "list",data:=.seq vs.toArray} (.lst (ns.map V.int)))else ab) (λb=>?_) (.inl (.inr ⟨{ cls:=.type "list",data:=.seq vs.toArray},if_pos rfl⟩)) (λb u z=>?_) (λb z=>?_) λ_=>U
    · by_cases f:b=a
      · exact .inr ⟨_,_,if_pos f⟩
      · exact .inl (if_neg f)
    · by_cases f:b=a
      · have L:=(if_pos f).symm.trans z;cases L;subst f;exact⟨M,by rw[ar];exact Z,vs,_,rv,M⟩
      · have L:=(if_neg f).symm.trans z;cases L
    · by_cases f:b=a
      · exact f
      · exact absurd (if_neg f) z
theorem walk_of{l:D4}{n k:Nat}{XP:(Str->Option af)->aX->Prop}{YP:aR->aX->Prop}{d:DefRec}{K:Params->ae}{CX:aR->wL}{sp:aR->Sp}
 (hn:l.most=aa n) (y:n<=aS) (z:d.params.defaults=[]) (M:Room k callerA)
 (N:∀(w:aR) (h:aX),YP w h->(K w.params).In h)
 (F:∀(w:aR) (m:Str->Option af) (t:ah) (h:aX),(K w.params).In h->h.Ns aY m->m d.name=aa (.ref t) ->
 ∃A:eR,(∀(s:ag) (u:af),BindsTo s A ⟨[u],[]⟩ [(x,u)]) /\
 ∀c:aX,(K w.params).In c->c.Ns aY m->FnOk l.prog w (K w.params) m c (CX w) k t A [x] (sp w))
 (B:∀(w:aR) (H:Hp) (a:ah) (ns:List Int),ns.length<=n->ko H->SqL (K w.params) H a (ns.map V.int)->sp w [.ref a] H (λv _=>v=.bl true) λ_ _ _=>False)
 (C:∀(w:aR) (H:Hp) (s:ag) (e:af) (s':ag),CX w [] H s (λ_ _ _=>False) e s'->False) :
 Eh q loose XP YP l.row.toRowW d [] (λf I=>C6 f I):=by
  refine Att.attach_call hn z λw J p m mb t o pm cd O a I ns G Y ho hd P E r j i Q=>?_;have L:=N w _ Y;obtain⟨A,R,S⟩:=F w m t _ L G.T.g E;exact SM L G.T.g G.T.b G.T.builtins G.T.nolimit Q r j (aH i y) M S R (λH U Z=>B w H a ns i U Z) λH e s'=>C w H p e s'
noncomputable def vP(s:Stmt):Arguments:=match s with
 |.FunctionDef _ a _ _ _ _ _ _ _ _=>a
 | _=>{ posonlyargs:=[],args:=[],vararg:=ab,kwonlyargs:=[],kw_defaults:=[],kwarg:=ab,defaults:=[]}
noncomputable def wU(s:Stmt):List Stmt:=match s with
 |.FunctionDef _ _ b _ _ _ _ _ _ _=>b
 | _=>[]
noncomputable def xz(s:Stmt):Scope:=match s with
 |.FunctionDef _ _ _ _ _ _ sc _ _ _=>sc
 | _=>{ kind:=.function,names:=[],isGenerator:=false,isCoroutine:=false}
abbrev xJ:wL:=λ_ _ _ _ _ _=>False
abbrev E0:XK:=λ_ _ _=>False
theorem pC:wD xJ X E0:=λ_ _ _ _ _ _ _ h=>h.elim
structure Fun(K:ae)(x qual:Str)(st:Stmt)(f:ah)(fd:eR):Prop where
 ex:∃(oc:af) (od:Option ah) (kV doc pm:af) (an:Option ah) (cdv ct:af) (osl:Array (Option af)),
  fd=iH x qual (vP st) (wU st) (xz st) .none kV doc pm an cdv ct/\K.lookup f=aa ⟨oc,od,.func fd,osl⟩/\oX K cdv qual=true
 kp:i3 K (.ref f)=true
section
variable {P:aN}{w:aR}{K:ae}{mg:Str->Option af}{base:aX}
theorem Fun.binds{x a:Str}{st:Stmt}{f:ah}{g:eR}{ps:List Str}(F:Fun K x a st f g)
  (h:∀(kV b d:af) (e:Option ah) (c ct:af) (us:List af),us.length=ps.length->bindArgs (iH x a (vP st) (wU st) (xz st) .none kV b d e c ct) ⟨us,[]⟩=pure (ps.zip us)):Binds K g ps []:=by
 obtain⟨k,l,kV,b,d,e,c,ct,i,rfl,m,j⟩:=F.ex;exact .all (h kV b d e c ct)
theorem nP{x a:Str}{st:Stmt}{e:Option ah}{kV d g b ct:af}(l:K.lookup f=aa ⟨oc,od,.func (iH x a (vP st) (wU st) (xz st) .none kV d g e b ct),osl⟩)
 (c:oX K b a=true) (k:i3 K (.ref f)=true):Fun K x a st f (iH x a (vP st) (wU st) (xz st) .none kV d g e b ct):=⟨⟨oc,od,kV,d,g,e,b,ct,osl,rfl,l,c⟩,k⟩
end
theorem Ux{A:a4}{k:Nat}(a:Room k A):A.units+1<cLine:=AN (Aa (by decide:1<=64) _) a.units
theorem MY{n:Nat}(h:n<=1000):n<aS:=AN h (by decide)
section
variable {X:Cx}
end
theorem uA{A B:Prop}(h:B):if false=true then A else B:=by
 rw[if_neg aK];exact h
theorem uB{A B:Prop}(h:A):if true=true then A else B:=by
 rw[if_pos rfl];exact h
def Same(H H':Hp):Prop:=∀b o,H b=aa o->H' b=aa o
theorem Same.refl(H:Hp):Same H H:=λ_ _ h=>h
theorem Same.trans(a:Same H H1)(b:Same H1 H2):Same H H2:=λc o h=>b c o (a c o h)
theorem Same.free(e:Same H H')(h:H' l=E6):H l=E6:=by
 cases q:H l with
 |none=>rfl
 |some o=>
  rw[e l o q]at h;cases h
theorem Same.seq{K:ae}{H H':Hp}{a:ah}{xs:List V}(e:Same H H')(h:SqL K H a xs):SqL K H' a xs:=by
 rcases h with (h|⟨o,h⟩)|h
 ·exact .inl (.inl (e _ _ h))
 ·exact .inl (.inr ⟨o,e _ _ h⟩)
 ·exact .inr h
end L2

namespace L2
open PySem PySem.Spec PyProof.Rows
theorem bc{G:Prop}(h:(G->False)->False):G:=Ek h
theorem V2{b a:Type}{l:List b}{f:b->a->Sem (ForInStep a)}(g:a->b->a)(h:∀x∈l,∀c,f x c=pure (.yield (g c x)))(c:a):forIn l c f=pure (l.foldl g c):=by
 induction l generalizing c with
 |nil=>rfl
 |cons x l d=>
  rw[Br,h x aw,pure_bind];exact d (λy e=>h y (aq _ e)) _
noncomputable def vO(a:Env)(cs:List (Str×ah))(x:Str×NameKind):List (Str×ah):=
 if (x.2==eF)=true then (match a.cells.lookup x.1 with|some c=>(x.1,c)::cs|none=>cs)else cs
def vh(b:Env)(a:List (Str×NameKind)):List (Str×ah):=a.foldl (vO b) []
theorem dI{a:Scope}{b:Env}(h:∀y∈a.names,y.2=.free->∃c,b.cells.lookup y.1=aa c):closureFor a b=pure (vh b a.names):=by
 simp only[closureFor];rw[V2 (vO b) (λx f c=>by
  obtain⟨n,k⟩:=x;cases d:(k==eF)with
  |false=>simp only[vO,d,ei,if_false]
  |true=>
   have e:k=.free:=by cases k <;> first|rfl|(exact absurd d (by decide))
   obtain⟨i,g⟩:=h _ f e;simp only[vO,d,if_true,cellOf,g,pure_bind])]
 rfl
theorem qB{a:Env}:∀(f:List (Str×NameKind)) (cs:List (Str×ah)),(∀y c,cs.lookup y=aa c->a.cells.lookup y=aa c) ->
  ∀y c,(f.foldl (vO a) cs).lookup y=aa c->a.cells.lookup y=aa c
 |[],_,h,y,c,e=>h y c e
 |(n,k)::r,cs,h,y,c,e=>by
  refine qB r (vO a cs (n,k)) (λz d b=>?_) y c e;unfold vO at b;split at b
  ·cases q:a.cells.lookup n with
   |none=>simp only[q]at b;exact h z d b
   |some i=>
    simp only[q,eY]at b;cases g:z==n with
    |true=>
     simp only[g]at b;cases b;have:z=n:=by simpa using g
     rw[this];exact q
    |false=>simp only[g]at b;exact h z d b
  ·exact h z d b
theorem kI{a:Env}:∀(b:List (Str×NameKind)) (cs:List (Str×ah)) (y:Str),(∃c,a.cells.lookup y=aa c)->((∃c,cs.lookup y=aa c)\/(y,eF)∈b) ->
  ∃c,(b.foldl (vO a) cs).lookup y=aa c
 |[],_,_,_,h=>by
  rcases h with h|h
  ·exact h
  ·cases h
 |(n,k)::r,cs,y,g,h=>by
  refine kI r (vO a cs (n,k)) y g ?_;have f:(∃c,cs.lookup y=aa c)->∃c,(vO a cs (n,k)).lookup y=aa c:=λ⟨c,e⟩=>by
   unfold vO;split
   ·cases q:a.cells.lookup n with
    |none=>exact⟨c,e⟩
    |some d=>
     show ∃c,ir y ((n,d)::cs)=aa c;rw[eY];cases y==n with
     |true=>exact⟨d,rfl⟩
     |false=>exact⟨c,e⟩
   ·exact⟨c,e⟩
  rcases h with h|h
  ·exact .inl (f h)
  ·rcases aC.mp h with h|h
   ·cases h;left;obtain⟨d,q⟩:=g;unfold vO;rw[if_pos (by rfl)];show ∃c,ir n (match a.cells.lookup n with|some c=>(n,c)::cs|none=>cs)=aa c;rw[q];refine⟨d,?_⟩;show ir n ((n,d)::cs)=aa d;rw[eY];simp
   ·exact .inr h
theorem j4{a:Env}:∀{b:List (Str×NameKind)} {x:Str},b.lookup x=aa .free ->
  (b.map λ(n,k)=>if (k==eF&&a.scope.kind == .function&&a.kindOf n==aa .cell)then (n,i9)else (n,k)).lookup x=aa .cell \/
  (b.map λ(n,k)=>if (k==eF&&a.scope.kind == .function&&a.kindOf n==aa .cell)then (n,i9)else (n,k)).lookup x=aa .free
 |[],_,h=>by simp at h
 |(n,k)::r,x,h=>by
  have e:=@j4 a r x;show ir x ((if (k==eF&&a.scope.kind == .function&&a.kindOf n==aa .cell)=true then (n,i9)else (n,k))::_)=_\/ir x ((if (k==eF&&a.scope.kind == .function&&a.kindOf n==aa .cell)=true then (n,i9)else (n,k))::_)=_;cases c:x==n with
  |true=>
   simp only[eY,c]at h;cases h;by_cases d:(eF==eF&&a.scope.kind == .function&&a.kindOf n==aa .cell)=true
   ·rw[if_pos d];left;simp only[eY,c]
   ·rw[if_neg d];right;simp only[eY,c]
  |false=>
   simp only[eY,c]at h;by_cases d:(k==eF&&a.scope.kind == .function&&a.kindOf n==aa .cell)=true
   ·rw[if_pos d];simp only[eY,c];exact e h
   ·rw[if_neg d];simp only[eY,c];exact e h
theorem j0{a:Env}:∀{b:List (Str×NameKind)} {x:Str},(∀y∈b,y.2≠.cell) ->
  ((b.map λ(n,k)=>if (k==eF&&a.scope.kind == .function&&a.kindOf n==aa .cell)then (n,i9)else (n,k)).lookup x=aa .cell \/
  (b.map λ(n,k)=>if (k==eF&&a.scope.kind == .function&&a.kindOf n==aa .cell)then (n,i9)else (n,k)).lookup x=aa .free)->b.lookup x=aa .free
 |[],_,_,h=>by rcases h with h|h <;> simp at h
 |(n,k)::r,x,d,h=>by
  have g:=@j0 a r x λy i=>d y (aq _ i);have c:ir x ((if (k==eF&&a.scope.kind == .function&&a.kindOf n==aa .cell)=true then (n,i9)else (n,k))::(r.map λ(n,k)=>if (k==eF&&a.scope.kind == .function&&a.kindOf n==aa .cell)then (n,i9)else (n,k)))=aa .cell\/ir x ((if (k==eF&&a.scope.kind == .function&&a.kindOf n==aa .cell)=true then (n,i9)else (n,k))::(r.map λ(n,k)=>if (k==eF&&a.scope.kind == .function&&a.kindOf n==aa .cell)then (n,i9)else (n,k)))=aa .free:=h;rw[eY];cases f:x==n with
  |true=>
   have j:k=.free:=by
    by_cases e:(k==eF&&a.scope.kind == .function&&a.kindOf n==aa .cell)=true
    ·cases k <;> first|rfl|(simp at e)
    ·rw[if_neg e]at c;simp only[eY,f]at c;rcases c with c|c
     ·exact absurd (aO c) (d (n,k) aw)
     ·exact aO c
   rw[j]
  |false=>
   by_cases e:(k==eF&&a.scope.kind == .function&&a.kindOf n==aa .cell)=true
   ·rw[if_pos e]at c;simp only[eY,f]at c;exact g c
   ·rw[if_neg e]at c;simp only[eY,f]at c;exact g c
structure CompSc(X:Cx)(N:List Str)(fr:List Nat)(x:Str)(scope:Scope):Prop where
 kind:scope.kind=.function
 chk:(scope.names.all λy=>match y.2 with
  |.cell=>false
  |.local=>scope.names.lookup y.1==aa .local
  |.free=>X.env.scope.names.lookup y.1==aa .cell || X.env.scope.names.lookup y.1==aa .free
  | _=>true)=true
 tg:scope.names.lookup x=aa .local
 nd:N.Nodup
 nm:N.map aa=aa x::fr.map (λi=>X.N[i]?)
 nf:(N.tail.all λy=>scope.names.lookup y==aa .free)=true
theorem td{o:Option NameKind}{k:NameKind}(h:(o==aa k)=true):o=aa k:=by
 cases o with
 |none=>cases h
 |some j=>
  have:(j==k)=true:=h;cases j <;> cases k <;> first|rfl|(exact absurd this (by decide))
section
variable {X:Cx}{N:List Str}{fr:List Nat}{x:Str}{scope:Scope}
theorem CompSc.ncell(S:CompSc X N fr x scope):∀y∈scope.names,y.2≠.cell:=λy a e=>by
 have h:=eM.mp S.chk y a;obtain⟨n,k⟩:=y;cases (show k=.cell from e);exact absurd h (by simp)
theorem CompSc.loc(S:CompSc X N fr x scope):∀y∈scope.names,y.2=.local->scope.names.lookup y.1=aa .local:=λy a e=>by
 have h:=eM.mp S.chk y a;obtain⟨n,k⟩:=y;cases (show k=.local from e);exact td h
theorem CompSc.free(S:CompSc X N fr x scope):∀y∈scope.names,y.2=.free->X.env.kindOf y.1=aa .cell\/X.env.kindOf y.1=aa .free:=λy b e=>by
 have h:=eM.mp S.chk y b;obtain⟨n,k⟩:=y;cases (show k=.free from e);have a:(X.env.scope.names.lookup n==aa .cell || X.env.scope.names.lookup n==aa .free)=true:=h;rcases Da.mp a with a|a
 ·exact .inl (td a)
 ·exact .inr (td a)
end
def xh(fr:List Nat)(a:St):St:=fr.map λi=>(a[i]?).join
def zZ(X:Cx)(N:List Str)(a:Scope)(C:ah)(s₀:ag)(H₀:Hp)(fp:List ah):Cx:=
 { X with N:=N,s₀:=s₀,H₀:=H₀,env:=compEnvC a (vh X.env a.names) C X.env,outer:=X.stack,ex:=fp,fn:=λ_=>false,pn:=[],xe:=λ_ _=>False}
def u8(X:Cx)(b:List Expr)(t:TT):Prop:=
 ∀(a:List (ah×Obj)) (s:ag) (d:St) (H:Hp) (Q:Bool->Hp->Prop),Inv X a d H s->t d H Q ->
  au (model X.prog X.w) X.A (forIn b true λc r=>if r=true then do let ok <- isTrue c X.env (eval c X.env);pure (Bn ok)else pure (Bn r)) (TP X a d Q) X.xe s
def YU:TT:=λ_ H Q=>Q true H
theorem Nj:u8 X [] YU:=λ_ _ _ H _ I h=>by
 rw[BF];exact am ⟨H,I,h⟩
theorem Nk(h:PT X c t):u8 X [c] t:=λa s b H Q I d=>by
 rw[Br,if_pos rfl];refine ac (ac (zu (h a s b H Q I d) λok s1 q=>am ?_));show au _ _ (forIn ([]:List Expr) ok _) _ _ _;rw[BF];exact am q
def Zd(fr:List Nat)(k:TT)(l:TE)(J:It)(e:St)(f:Hp)(R:ah->Hp->Prop):Prop:=
 ∀a,f a=ab->∃W:Nat->Nat->List V->Hp->Prop,(∃m,W 0 m [] (zp f a (.lst [])))/\∀i m c H,W i m c H ->
  (J.stop i H/\R a H)\/(J.go i H/\∀x g,J.yld i H x g->k (aa x::xh fr e) g λb h=>
   if b=true then l (aa x::xh fr e) h λy j=>j a=aa (.lst c)/\c.length<aS/\∃d,d<m/\W (i+1) d (c++[y]) (zp j a (.lst (c++[y])))
   else ∃d,d<m/\W (i+1) d c h)
def pN(fr:List Nat)(c:TI)(d:TT)(e:TE):TE:=λb H Q=>c b H λJ f=>Zd fr d e J b f λa g=>Q (.ref a) g
section
variable {X:Cx}{N:List Str}{fr:List Nat}{x:Str}{scope:Scope}{pins:List (ah×Obj)}{σ:St}{H:Hp}{s:ag}
theorem Vi(S:CompSc X N fr x scope){fp:List ah}{d:aX}{tk:Nat}(I:Inv X pins σ H s)(G:∀b∈fp,y4 X pins H b)(K:∀b∈fp,b<s.heap.objs.size)
  (L:d.Ns s.heap.objs.size λy=>([]:List (Str×af)).reverse.lookup y) (n:∀b o,s.heap.get? b=aa o->d.get? b=aa o) :
  Inv (zZ X N scope s.heap.objs.size s H fp) [] (ab::xh fr σ) H { s with heap:=d,toks:=tk}:=by
 have sub:∀y c,(vh X.env scope.names).lookup y=aa c->X.env.cells.lookup y=aa c:=qB scope.names [] (λ_ _ z=>by cases z);have has:∀y,(y,eF)∈scope.names->∃c,(vh X.env scope.names).lookup y=aa c:=λy g=>kI scope.names [] y (I.ok.has y (S.free _ g rfl)) (.inr g);have h:∀c v,s.heap.IsCell c v->d.IsCell c v:=λc v ⟨o,T,U⟩=>⟨o,n c o T,U⟩
 have A:N.length=fr.length+1:=by
  have:=congrArg oV S.nm;simpa using this
 refine⟨⟨I.ok.mod,S.kind,I.ok.glob,I.ok.blt,aj _,λy z c Y Z=>I.ok.inj y z c (sub y c Y) (sub z c Z),λy g=>?_,λy c g _=>(by cases g),I.ok.hd,I.ok.frames,.inl rfl,λb t=>⟨aP (K b t),λy c e=>(G b t).2.2.2.2.1 y c (sub y c e)⟩,
  I.bs,aH I.ok.bsz I.sz,λb o e t=>?_,λb t M=>?_,I.stack,I.stkFree⟩,rfl,I.bare,Un.kept n,⟨_,L,λi y v e1 O e3=>?_⟩,λy c e=>?_,I.hok.fresh (aj _),λy c e=>I.freeC y c (sub y c e),λp hp=>absurd (show p∈([]:List (ah×Obj))from hp) (by simp),I.hok.kept n,?_⟩
 ·exact has y (eW (j0 S.ncell g))
 ·rcases (G b t).2.2.2.1 with z|z
  ·exact I.ok.noex b o e z
  ·exact absurd (aT (aA e) (aH I.ok.bsz z)) (eQ _)
 ·rcases aC.mp (I.stkSub b M)with z|z
  ·exact(G b t).2.1 z
  ·exact(G b t).2.2.1 z
 ·cases i with
  |zero=>simp at O
  |succ j=>
   have B:N[j+1]? =aa y:=e1;have C:(N.map aa)[j+1]? =aa (aa y):=by rw[av,B];rfl
   rw[S.nm,AS,av]at C;have f:(xh fr σ)[j]? =aa (aa v):=by simpa using O
   unfold xh at f;rw[av]at f;cases q:fr[j]? with
   |none=>rw[q]at C;cases C
   |some E=>
    rw[q]at C f;have n1:X.N[E]? =aa y:=aO C;have J:(σ[E]?).join=aa v:=aO f;have n3:σ[E]? =aa (aa v):=by
     cases P:σ[E]? with
     |none=>rw[P]at J;cases J
     |some o=>rw[P]at J;rw[show o=aa v from J]
    have g:y∈N.tail:=by
     have:N.tail[j]? =aa y:=by rw[List.getElem?_tail];exact B
     exact iy this
    have a:scope.names.lookup y=aa .free:=td (eM.mp S.nf y g);have Q:=S.free _ (eW a) rfl;obtain⟨m,hn,hl⟩:=I.loc;obtain⟨u,r,l⟩:=hl E y v n1 n3 (Q.elim (λz=>.inr (.inl z)) λz=>.inr (.inr z));refine⟨u,r,.inr ⟨j4 a,?_⟩⟩;rcases l with ⟨k,_⟩|⟨k,c,ec,hc⟩
    ·rcases Q with z|z <;> (rw[show X.env.kindOf y=aa .local from k]at z;cases z)
    ·obtain⟨R,w⟩:=has y (eW a);have:R=c:=aO ((sub y R w).symm.trans ec);rw[this]at w;exact⟨c,w,h c _ hc⟩
 ·obtain⟨v,z⟩:=I.cell y c (sub y c e);exact⟨v,h c v z⟩
 ·show(ab::xh fr σ).length=N.length;rw[A];simp[xh]
theorem dN{fp:List ah}(I:Inv X pins σ H s)(a:∀b∈fp,y4 X pins H b)(J:Inv (zZ X N scope C s H fp) pins' σ' H' s'):Inv X pins σ H' s':=
 Inv.call' (ch:=fp) I J.os J.base J.hok J.bare λb c=>⟨(a b c).2.2.2.1,(a b c).2.1,(a b c).2.2.2.2.1,(a b c).2.2.2.2.2⟩
end
section
variable {X:Cx}{N:List Str}{fr:List Nat}{x:Str}{scope:Scope}{iter elt:Expr}{ifs:List Expr}{px pos:Pos}{wi:TI}{te:TE}{tt:TT}
theorem Vh(S:CompSc X N fr x scope)(hc:X.calm=true)
 (ht:∀(C:ah) (B:ag) (E:Hp) (fp:List ah),u8 (zZ X N scope C B E fp) ifs tt) (he:∀(C:ah) (B:ag) (E:Hp) (fp:List ah),PE (zZ X N scope C B E fp) elt te)
 {k:List (ah×Obj)} {g:Hp} {a:ag} {R:ah->Hp->Prop} {RR:af->ah->Result->ag->Prop} {D:ah} {fp:List ah} {tn:Nat->aX->Prop} {J:It} {h₁:aX} {tk:Nat} {W:Nat->Nat->List V->Hp->Prop}
 (Q:Inv X k σ g a) (T:Turn X.prog X.w X.K (.Name x px) J fp it tn) (st3:tn 0 a.heap) (t:∀b∈fp,y4 X k g b) (L:h₁.Ns a.heap.objs.size λy=>([]:List (Str×af)).reverse.lookup y) (M:o7 a.heap.objs.size (a.heap.push o₁) h₁)
 (w0:∃m,W 0 m [] g) (turn:∀i m s H,W i m s H ->
 (J.stop i H/\R D H)\/(J.go i H/\∀x H',J.yld i H x H'->tt (aa x::xh fr σ) H' λb H2=>
 if b=true then te (aa x::xh fr σ) H2 λy g=>g D=aa (.lst s)/\s.length<aS/\∃O,O<m/\W (i+1) O (s++[y]) (zp g D (.lst (s++[y])))
 else ∃O,O<m/\W (i+1) O s H2))
 (hRR:∀(D C:ah) (H':Hp) (s':ag) (m:Str->Option af),s'.heap.Ns C m->C≠X.env.locals->H' C=ab->X.s₀.heap.objs.size<=C->(∀y c,X.env.cells.lookup y=aa c->c≠C)->(∀p∈X.pn++k,p.1≠C)->Inv X k σ H' s'->R D H'->RR (.ref D) C (.ok .next) s') :
 codeAny (model X.prog X.w) X.A (.compStart (.ListComp elt [⟨.Name x px,iter,ifs,0⟩] scope pos) 0 (.ref it) (.ref D) (compEnvC scope (vh X.env scope.names) a.heap.objs.size X.env)) (RR (.ref D) a.heap.objs.size) { a with heap:=h₁,toks:=tk}:=by
  obtain⟨m0,w0⟩:=w0;have P:∀b∈fp,b<a.heap.objs.size:=λb f=>by
    obtain⟨o,e,_⟩:=T.obj 0 _ st3 b f;exact aA e
  have old:∀b o,a.heap.get? b=aa o->h₁.get? b=aa o:=λb o e=>M.extBut b o (aP (aA e)) (ai _ e);have U:tn 0 h₁:=T.keep 0 a.heap h₁ st3 λb f o e=>old b o e;have G:∀{h:List (ah×Obj)} {H':Hp},(∀b∈fp,H' b=ab)->(∀b∈fp,∀p∈h,p.1≠b)->∀b∈fp,y4 (zZ X N scope a.heap.objs.size a g fp) h H' b:=fun {h H'} hn hp b f=>by
    refine⟨hn b f,aP (P b f),λz=>?_,.inl f,λy c e=>(t b f).2.2.2.2.1 y c (qB scope.names [] (λ_ _ z=>by cases z) y c e),λp hp'=>hp b f p (by simpa [zZ] using hp')⟩;rcases aC.mp (Q.stkSub b z)with z|z
    · exact(t b f).2.1 z
    · exact(t b f).2.2.1 z
  have loop:∀s4:ag,Inv (zZ X N scope a.heap.objs.size a g fp) [] (ab::xh fr σ) g s4->tn 0 s4.heap ->
      codeAny (model X.prog X.w) X.A (.compLoop (.ListComp elt [⟨.Name x px,iter,ifs,0⟩] scope pos) 0 (.ref it) (.ref D) (compEnvC scope (vh X.env scope.names) a.heap.objs.size X.env)) (RR (.ref D) a.heap.objs.size) s4:=by
    intro s4 I4 st4;refine codeAny_compLoop_tests (λn s'=>∃i s H' v0,Inv (zZ X N scope a.heap.objs.size a g fp) [] (v0::xh fr σ) H' s'/\tn i s'.heap/\(∀b∈fp,H' b=ab)/\W i n s H') ?_ m0
      ⟨0,[],_,ab,I4,st4,λb f=>(t b f).1,w0⟩
    intro n s5 hq;refine bc λj=>?_;obtain⟨i,s,H5,v0,I5,st5,fr5,w5⟩:=hq;refine j ?_;clear j;rcases turn i n s H5 w5 with ⟨stop,qn⟩|⟨go,step⟩
    · refine ip (T.done (zZ X N scope a.heap.objs.size a g fp) rfl rfl rfl hc i [] s5 _ H5 (λ_ _=>False) I5 (G fr5 (by simp)) st5 stop) (λr s6 Y=>?_) λ_ _ z=>z.elim;obtain⟨hr,I6⟩:=Y;subst hr;obtain⟨m,hn,_⟩:=id I6.loc;refine hRR _ _ H5 s6 m hn ?_ I6.free ?_ ?_ ?_ (dN Q t I6) qn
      · exact Bv Q.lt
      · exact Q.sz
      · intro y c e z;obtain⟨v,q⟩:=Q.cell y c e;exact absurd q.lt (by rw[z];exact eQ _)
      · intro p hp z;exact absurd (aA (Q.pin p hp).1) (by rw[z];exact eQ _)
    · refine ip (T.item (zZ X N scope a.heap.objs.size a g fp) rfl rfl rfl hc i [] s5 _ H5 (λ_ _=>False) I5 (G fr5 (by simp)) st5 go) (λr s6 Y=>?_) λ_ _ z=>z.elim;obtain⟨u,hr,h6⟩:=Y;subst hr;show au _ _ (assign (.Name x px) _ u) _ _ s6;have el:∀Z:Env,(assign (.Name x px) Z u)=(letOwnedTupleGo (.Name x px) (.ref it) u >>= λ_=>assign (.Name x px) Z u):=λZ=>by
        rw[show letOwnedTupleGo (.Name x px) (.ref it) u=pure ()from rfl,pure_bind]
      rw[el];refine ac (ip h6 (λ_ s7 h7=>?_) λ_ _ z=>z.elim);refine bc λj=>?_;obtain⟨y,H7,I7,r7,y7,st7,fr7⟩:=h7;refine j ?_;clear j;have I7':=I7.pinned (G fr7 (by simp)) (T.obj _ _ st7);have lx:(relabel scope X.env).names.lookup x=aa .local:=lookup_relabel_local S.tg;have hN0:N[0]? =aa x:=by
        have:=congrArg (λl=>l[0]?) S.nm;simp only[av,List.getElem?_cons_zero]at this;cases q:N[0]? with
        |none=>rw[q]at this;cases this
        |some z=>rw[q]at this;exact aO this
      refine wpAny_assign_Name (hZ (i:=0) (v:=y) I7' S.nd hN0 (.inl lx) r7 (λs8 I8=>?_) (.inr lx));have I8':Inv (zZ X N scope a.heap.objs.size a g fp) ([]++sD fp s7.heap) (aa y::xh fr σ) H7 s8:=I8;refine ip (ht _ _ _ _ _ s8 _ H7 _ I8' (step y H7 y7)) (λok s9 h9=>?_) λ_ _ z=>z.elim;obtain⟨H9,I9,q9⟩:=h9;have I:∀{s':ag} {H':Hp},Inv (zZ X N scope a.heap.objs.size a g fp) ([]++sD fp s7.heap) (aa y::xh fr σ) H' s' ->
          Inv (zZ X N scope a.heap.objs.size a g fp) [] (aa y::xh fr σ) H' s'/\tn (i+1) s'.heap/\∀b∈fp,H' b=ab:=fun {s' H'} I'=>by
        refine⟨I'.unpinned,T.keep _ _ _ st7 λb f o e=>(I'.pin (b,o) (aE _ (aE _ (rQ f e)))).1,λb f=>?_⟩;obtain⟨o,e,d⟩:=T.obj _ _ st7 b f;exact(I'.pin (b,o) (aE _ (aE _ (rQ f e)))).2.1
      cases ok with
      |false=>
        rw[if_neg aK]at q9 ⊢;obtain⟨O,hm,w9⟩:=q9;obtain⟨a1,a2,a3⟩:=I I9;exact⟨O,hm,i+1,s,H9,aa y,a1,a2,a3,w9⟩
      |true=>
        rw[if_pos rfl]at q9 ⊢;refine ip (he _ _ _ _ _ s9 _ H9 _ I9 q9) (λzv s10 h10=>?_) λ_ _ z=>z.elim;refine bc λj=>?_;obtain⟨z,H10,I10,rz,hz,hlt,O,hm,w10⟩:=h10;refine j ?_;clear j;refine ip (mW (X:=zZ X N scope a.heap.objs.size a g fp) _ s10 _ H10 (.ref D) [z] (.ref D) [zv] (λ_ H'=>H'=zp H10 D (.lst (s++[z]))) I10 rfl (.cons rz .nil)
          ⟨_,s,z,rfl,rfl,hz,hlt,rfl⟩) (λ_ s11 h11=>?_) λ_ _ z=>z.elim
        refine bc λj=>?_;obtain⟨_,H11,I11,_,e11⟩:=h11;refine j ?_;clear j;subst e11;obtain⟨a1,a2,a3⟩:=I I11;exact⟨O,hm,i+1,s++[z],_,aa y,a1,a2,a3,w10⟩
  have I4:=Vi S (tk:=tk) Q t P L old;exact codeAny_compStart_list (loop _ I4 U) (T.self _ 0 _ _ _ U (loop _ I4 U))
theorem dO(S:CompSc X N fr x scope)(G:X.calm=true)
 (L:∀(C:ah) (d:ag) (f:Hp) (fp:List ah),u8 (zZ X N scope C d f fp) ifs tt) (M:∀(C:ah) (d:ag) (f:Hp) (fp:List ah),PE (zZ X N scope C d f fp) elt te)
 {a:List (ah×Obj)} {s:ag} {R:ah->Hp->Prop} {RR:af->ah->Result->ag->Prop} {fp:List ah} {z:Nat->aX->Prop} {E:af->ag->Prop}
 (I:Inv X a σ H s) (T:Turn X.prog X.w X.K (.Name x px) J fp it z) (st:z 0 s.heap) (O:∀b∈fp,y4 X a H b) (h:Zd fr tt te J σ H R)
 (t:∀(D C:ah) (H':Hp) (s':ag) (m:Str->Option af),s'.heap.Ns C m->C≠X.env.locals->H' C=ab->X.s₀.heap.objs.size<=C->(∀y c,X.env.cells.lookup y=aa c->c≠C)->(∀p∈X.pn++a,p.1≠C)->Inv X a σ H' s'->R D H'->RR (.ref D) C (.ok .next) s') :
 au (model X.prog X.w) X.A (newList []) (λk l=>au (model X.prog X.w) X.A (newFunctionEnv scope X.env.globals (vh X.env scope.names) [] X.env.qual ab .none (aa X.env)) (λj n=>
 codeAny (model X.prog X.w) X.A (.compStart (.ListComp elt [⟨.Name x px,iter,ifs,0⟩] scope pos) 0 (.ref it) k { j with scope:=relabel scope X.env}) (RR k j.locals) n) E l) E s:=by
  refine wpAny_newObj_type (wpAny_newFunctionEnv S.ncell (by intro y P;simp at P) (λB g i=>?_) S.kind);have Q:H s.heap.objs.size=ab:=I.hok.fresh (aj _);obtain⟨W,U,q⟩:=h _ Q;have Y:Inv X a σ (zp H s.heap.objs.size (.lst [])) { s with heap:=s.heap.push { cls:=.type "list",dict:=ab,data:=.seq ([]:List af).toArray}}:=
    I.laid (t':=s.toks) (λb o e=>ai _ e) (aj _) ⟨aM _,[],_,.nil,ax _ rfl⟩
  have u:∀b∈fp,b<s.heap.objs.size:=λb r=>by
    obtain⟨o,e,_⟩:=T.obj 0 _ st b r;exact aA e
  have v:∀b∈fp,y4 X a (zp H s.heap.objs.size (.lst [])) b:=λb r=>by
    obtain⟨Z,f1⟩:=O b r;exact⟨by rw[zX (aP (u b r))];exact Z,f1⟩
  exact Vh S G L M Y T (T.keep 0 s.heap _ st λb r o e=>ai _ e) v g i U q t
theorem CompSc.clos(S:CompSc X N fr x scope)(I:Inv X pins σ H s):closureFor scope X.env=pure (vh X.env scope.names):=
 dI λy a e=>I.ok.has y.1 (S.free y a e)
theorem Pb(S:CompSc X N fr x scope)(k:X.calm=true)(hi:PI X (.Name x px) iter wi)
  (l:∀(C:ah) (a:ag) (c:Hp) (fp:List ah),u8 (zZ X N scope C a c fp) ifs tt) (n:∀(C:ah) (a:ag) (c:Hp) (fp:List ah),PE (zZ X N scope C a c fp) elt te)
  (p:∀z,eP iter X.env z=pure z:=by intro _;rfl):PE X (.ListComp elt [⟨.Name x px,iter,ifs,0⟩] scope pos) (pN fr wi tt te):=by
 intro d s j H Q I h;rw[eval_ListComp];refine wpAny_comprehension_free (use:=ab) (cl:=vh X.env scope.names) rfl p (S.clos I) S.kind S.loc (zu (hi d s j H _ I h) λZ s1 t=>zu t λu s2 v=>?_);obtain⟨it,fp,tn,J,H2,e,y,T,f,B,q⟩:=v;subst e;refine dO (RR:=λg C=>compPost (model X.prog X.w) X.A X.xe ab (EP X d j Q) g C) S k l n y T f B q ?_;intro D C E G m K L M O P R U r;refine⟨m,K,λh' i=>⟨.ref D,E,?_,rfl,r⟩⟩;exact U.turned (t':=G.toks) (λb o Y e=>(i.2 b Y).trans e) M L (.inr O) P R
theorem P8{i:Nat}{g:Pos}(R:X.N.Nodup)(l:X.N[i]? =aa y)(U:vp X.env.scope y)(S:CompSc X N fr x scope)(Y:X.calm=true)(hi:PI X (.Name x px) iter wi)
 (Z:∀(C:ah) (a:ag) (d:Hp) (fp:List ah),u8 (zZ X N scope C a d fp) ifs tt) (he:∀(C:ah) (a:ag) (d:Hp) (fp:List ah),PE (zZ X N scope C a d fp) elt te)
 (n:swapsWith (.ListComp elt [⟨.Name x px,iter,ifs,0⟩] scope pos) (aa (.Name y py)) g.line X.env=pure true:=by rfl)
 (hs:∀z,eP iter X.env z=pure z:=by intro _;rfl)
 (hf:X.fn y=true\/X.env.scope.names.lookup y=aa .local:=by first|exact .inl rfl|exact .inr rfl|assumption) :
 PS X (.Assign [.Name y py] (.ListComp elt [⟨.Name x px,iter,ifs,0⟩] scope pos) g) (sJ (pN fr wi tt te) (uS i)):=by
  intro f s σ H D I h;rw[exec_Assign_Name_used _ _ _ _ n];refine ac (wpAny_standAt (ac ?_));show au _ X.A (do let _ <- comprehension (.ListComp elt [⟨.Name x px,iter,ifs,0⟩] scope pos) scope X.env _ (newList []) false (eval iter X.env) (aa (assign (.Name y py) X.env))) _ _ s;refine ac (ip (wpAny_comprehension_free (use:=aa (assign (.Name y py) X.env)) (cl:=vh X.env scope.names) (Q:=λ_ j=>SP X f D .next j) rfl hs (S.clos I) S.kind S.loc
    (zu (hi f s σ H _ I h) λxv s1 h1=>zu h1 λitv s2 h2=>?_)) (λ_ j hq=>am (am hq)) λ_ _ e=>e)
  obtain⟨it,fp,tn,J,H2,e,I2,T,p,f2,q⟩:=h2;subst e;refine dO (RR:=λt C=>compPost (model X.prog X.w) X.A X.xe (aa (assign (.Name y py) X.env)) (λ_ j=>SP X f D .next j) t C) S Y Z he I2 T p f2 q ?_;intro M C H' j m hn O c2 c3 P c5 I' r;show au _ _ (assign (.Name y py) X.env (.ref M)) _ _ j;refine wpAny_assign_Name (YD (v:=.ref M) I' R l U rfl (λu B E=>?_) hf);obtain⟨c,G,K⟩:=E;have L:C≠c:=by
    rcases K with z|z
    · rw[z];exact O
    · exact λe=>P y c z e.symm
  refine⟨m,hn.sameBut G L,λh' k=>⟨_,H',?_,r⟩⟩;exact B.turned (t':=u.toks) (λb o hb e=>(k.2 b hb).trans e) c2 O (.inr c3) P c5
end
end L2

namespace L2
open PySem PySem.Spec PyProof.Rows
theorem Same.alloc(h:H p=ab):Same H (zp H p o):=λb u e=>by rw[zX (vm e h)];exact e
def jt(H:Hp)(c:List V)(Q:VK):Prop:=∀a b,Same H b->b a=aa (.tup c)->Q (.ref a) b
section
variable {X:Cx}
theorem Qo:yA X (binaryOp .Add) (λx y H Q=>∃a b c d,x=.ref a/\y=.ref b/\H a=aa (.tup c)/\H b=aa (.tup d)/\c.length+d.length<=aS/\jt H (c++d) Q):=by
 intro f s L H x y v u Q I z A h;obtain⟨a,b,c,d,rfl,rfl,m,o,M,q⟩:=h;by_cases B:c=[]
 ·subst B;cases z;cases A;obtain⟨g,N,O,_⟩:=I.tuple (SqT.of m);obtain⟨i,Z,P,_⟩:=I.tuple (SqT.of o);obtain⟨⟨R,S,C,T⟩,E,G,n,J⟩:=id O;obtain⟨⟨K,r,t,w⟩,j,k,U,l⟩:=id P;simp only at G J k l;subst G J k l;have e:g=[]:=N.nil_iff.mpr rfl;exact concat_meets ⟨_,E,rfl⟩ ⟨_,j,rfl⟩ noFill_tuple_add seq_tuple_add A5 AU (AO _ _)
   (tuple_addW0 a b g.toArray i.toArray n U S r T w (by rw[e];rfl)) ⟨E,j,⟨.ref b,H,I,rfl,q b H (Same.refl H) o⟩⟩
 ·exact Qn f s L H _ _ v u Q I z A ⟨a,b,c,d,rfl,rfl,SqT.of m,SqT.of o,B,M,λe=>q a H (Same.refl H) (by rw[e,ek];exact m),λ_ p Y=>q p _ (Same.alloc Y) yz⟩
def Nx(K:ae):List V->Hp->VK->Prop:=λa H Q=>∃x n t b,a=[x,.ty n]/\TyOf K H x t/\CV K t (.type n)=aa b/\Q (.bl b) H
theorem WU:wT X (.builtin "isinstance") (Nx X.K):=by
 intro a s j H k l Q I r h;obtain⟨x,n,t,b,rfl,c,e,q⟩:=h;obtain⟨u,d,rfl,f,g⟩:=gv r;cases (show d=oy n from g);exact U7 I f c e λi=>⟨.bl b,H,I.tok i,rfl,q⟩
theorem WQ(x:X.calm=true):wT X (.builtin "all") (λn H Q=>∃(p:ah) (bs:List Bool),n=[.ref p]/\SqL X.K H p (bs.map V.bl)/\Q (.bl (bs.all λb=>b)) H):=by
 intro d s y H n N Q I r h;obtain⟨p,bs,rfl,z,q⟩:=h;obtain⟨u,rfl,B⟩:=ur r;cases B;obtain⟨a,t,pl,O⟩:=I.list z;have j:=t.length;rw[ar]at j;refine call_all_walk (wpAny_pyIter_list pl.isList ?_);have C:p<s.heap.objs.size:=by obtain⟨o,e,_⟩:=pl.isList;exact aA e
 refine⟨s.heap.objs.size,_,_,_,_,_,λi=>bs.getD i true,rfl,Fg (A:=X.A.in1) (I.ok.hd x) _ p (aP C) a.toArray,⟨⟨_,ax _ rfl,rfl,rfl⟩,pl.isList.push _⟩,?_,?_⟩
 ·intro i v s' E P G k;have f:a[i]? =aa v:=by simpa using G
  have c:i<bs.length:=by rw[j];exact(aQ.mp f).1
  have l:(bs.map V.bl)[i]? =aa (V.bl bs[i]):=by simp[c]
  obtain⟨u,w,J⟩:=t.get l;rw[f]at w;cases w;cases (show v=By bs[i]from J);have:bs.getD i true=bs[i]:=by simp[c]
  have m:E bs[i] s':=by rw[<- this];exact k
  exact wpAny_truthy_bool m
 ·intro R L M;have e:((ak a.toArray.size).all λi=>bs.getD i true)=bs.all λb=>b:=by
   rw[aU,<- j];rw[on,eM,eM];constructor
   ·intro h b l;obtain⟨i,c,rfl⟩:=oR.mp l;have:=h i (eD.mpr c);simpa [c] using this
   ·intro h i c;have g:=eD.mp c;have:=h bs[i] (DP g);simpa [g] using this
  rw[e];refine⟨.bl _,H,?_,rfl,q⟩;have S:Inv X d y H { s with heap:=s.heap.push { cls:=.type "list_iterator",data:=.fields #[.ref p,.int 0 0]}}:=I.kept (t':=s.toks) λb o e=>ai _ e;exact I.kept (t':=L) λb o e=>M b o (by simp only[aL];exact aP (aA e)) (ai _ e)
end
theorem Q6{X:Cx}(a:Gl X x)(h:∃u,X.mg x=aa u/\RelV v u)(b:(x==("__debug__" : Str))=false:=by decide):PE X (.Name x pos) (tC v):=by
 obtain⟨u,c,r⟩:=h;exact Q7 a c r b
end L2
namespace HT
open PySem PyProof.Rows
section
variable {prog:aN}{w:aR}{A:a4}{E:af->ag->Prop}{s:ag}
theorem getItem_tuple_whole{t c:ah}{items:Array af}{g i:af}{lo hi:Option Int}{Q:af->ag->Prop}(a:IsTup s.heap t items)(j:s.heap.IsSliceOf c g i .none)(pl:IsPart g lo)(l:IsPart i hi)
  (k:sIx items.size 0 lo=0/\sIx items.size items.size hi=items.size) (h:Q (.ref t) s):au (model prog w) A (getItem (.ref t) (.ref c)) Q E s:=by
 obtain⟨n,d,e,o⟩:=id j;have f:s.TypeIs (.ref c) "slice" :=⟨n,d,e⟩
 unfold getItem
 try with_reducible refine e6 ?_
 first|refine ac (am ?_)|skip
 refine ac (wpAny_sequenceKey a.typeIs (by decide) ?_);refine ac (wpAny_callSpecial?_slot (name:=iC "__getitem__") a.typeIs er
  (wpAny_call_entry er a.typeIs entry_tuple_getitem ?_ (args_tuple_getitem _ _)))
 show au _ _ (AE (.ref t) >>= _) _ _ s;refine ac (tupleItemsOf_ a ?_);refine ac (wpAny_typeOf f ?_);rw[if_pos (by decide)];refine ac (Yu j pl l ?_);have b:(((sIx items.size 0 lo:Nat):Int)==0&&(1:Int)==1&&(sIx items.size items.size hi-sIx items.size 0 lo)==items.size)=true:=by
  rw[k.1,k.2];simp
 show au _ _ (if (((sIx items.size 0 lo:Nat):Int)==0&&(1:Int)==1&&(sIx items.size items.size hi-sIx items.size 0 lo)==items.size)=true then _ else _) _ _ s;rw[if_pos b];refine ac (m:=BV _) ?_;unfold BV;refine ac (wpAny_typeOf a.typeIs (am ?_));rw[if_pos (by decide)];refine ac (wpAny_rule ?_)
 first
  |exact am ⟨_,rfl,am h⟩
  |exact ac (am (am ⟨_,rfl,am h⟩))
  |exact ac (am ⟨_,rfl,am h⟩)
end
end HT
namespace L2
open PySem PySem.Spec PyProof.Rows
section
variable {X:Cx}
theorem MT:tW X (λx e f H Q=>∃a b,x=.ref a/\H a=aa (.tup b)/\jt H (uu b e f) Q):=by
 intro c s o H x v t u e f w Q I k l pl m h;obtain⟨a,b,rfl,i,q⟩:=h;by_cases g:HT.sIx b.length 0 e=0/\HT.sIx b.length b.length f=b.length
 ·cases k;obtain⟨j,r,n,z⟩:=I.tuple (SqT.of i);have d:j.toArray.size=b.length:=by rw[aU];exact r.length.symm
  refine⟨"tuple",_,er.lookup,n.typeIs,?_⟩;refine HT.getItem_tuple_whole n l pl m (by rw[d];exact g) ⟨.ref a,H,I,rfl,q a H (Same.refl H) ?_⟩;unfold uu;rw[g.1,g.2];simp[i]
 ·exact MS c s o H _ v t u e f w Q I k l pl m ⟨a,b,rfl,SqT.of i,g,λp y=>q p _ (Same.alloc y) yz⟩
end
section
variable {X:Cx}{pins:List (ah×Obj)}{σ:St}{H:Hp}{s:ag}{pos:Pos}
theorem Inv.big(I:Inv X pins σ H s):sysModules<s.heap.objs.size:=by
 have h:aY<s.heap.objs.size:=(I.mod.glob.keeps I.bk).lt;exact Nat.lt_trans (by decide) h
theorem Vs(h:aX)(a:sysModules<h.objs.size):ObjOk P w H (h.push { cls:=.type "dict",data:=.dict #[]}) h.objs.size (.dK []):=
 ⟨aM _,beq_eq_false_iff_ne.mpr (iM (aP a)),[],.nil,FP h⟩
def YJ:TE:=λ_ H Q=>∀p,H p=ab->Q (.ref p) (zp H p (.dK []))
theorem Q5:PE X (.Dict [] [] pos) YJ:=λpins s σ H Q I h=>
 wpAny_Dict_empty ⟨.ref s.heap.objs.size,_,I.laid (a:=s.heap.objs.size) (o:=.dK []) (t':=s.toks) (λ_ _ q=>ai _ q) (aj _) (Vs s.heap I.big),rfl,h _ (I.hok.fresh (aj _))⟩
end
end L2

namespace L2
open PySem PySem.Spec PyProof.Rows
def zK:Expr->Bool
 |.Starred _ _=>false
 | _=>true
theorem xc{e:Expr}(h:zK e=true):aZ (e::es) env=(false,eval e env)::aZ es env:=by
 cases e <;> first|rfl|(exact absurd h (by decide))|(cases h)
theorem vY:∀{es:List Expr},es.all zK=true->(backTo pos (aZ es env)).any (·.1)=false
 |[],_=>rfl
 |e::es,h=>by
  rw[Ac,eX]at h;rw[xc h.1];show(false || (backTo pos (aZ es env)).any (·.1))=false;rw[vY h.2];rfl
theorem hY:∀{es:List Expr},es.all zK=true->(backTo pos (aZ es env)).all (λx=>!x.1)=true
 |[],_=>rfl
 |e::es,h=>by
  rw[Ac,eX]at h;rw[xc h.1];show(true&&(backTo pos (aZ es env)).all (λx=>!x.1))=true;rw[hY h.2];rfl
section
variable {X:Cx}{e o:Expr}{es:List Expr}{te to:TE}{t:TA}{x:Str}{p pos:Pos}
structure Def(K:ae)(mg:Str->Option af)(x:Str)(st:Stmt)(ps:List Str)(f:ah)(fd:eR):Prop where
 fn:Fun K x x st f fd
 mg:mg x=aa (.ref f)
 b:Binds K fd ps []
theorem QW{T id:String}{a b:Pos}{r:V->List V->Hp->VK->Prop}(i:PlainAttrs T)(f:Slot T name id)(g:typeOf (.builtin id)=pure (.type "method_descriptor"))(j:v5 X id r)(k:PE X o to)(l:PA X (e::es) t)
 (c:eZ o name X.env (eval o X.env)=eval o X.env:=by rfl) (m:decide ((e::es).length+0+0<30)=true:=by rfl) (d:(a.endLine==b.line)=true:=by rfl)
 (h1:zK e=true:=by rfl) (h:es.all zK=true:=by rfl):PE X (.Call (.Attribute o name a) (e::es) [] b) (gc X.K T r to t):=by
  refine Q1 i f g j k l c ?_ d (xc h1) (vY h);rw[hY (es:=e::es) (by rw[Ac,h1,h];rfl)];exact m
end
end L2

namespace L2
open PySem PySem.Spec PyProof.Rows
structure WE(X:Cx)(e:Expr)(t:TE):Prop where
 h:PE X e t
structure WT(X:Cx)(e:Expr)(t:TT):Prop where
 h:PT X e t
structure WW(X:Cx)(e:Expr)(t:TT):Prop where
 h:PW X e t
structure WA(X:Cx)(es:List Expr)(t:TA):Prop where
 h:PA X es t
structure WS(X:Cx)(s:Stmt)(t:TS):Prop where
 h:PS X s t
structure WSs(X:Cx)(s:List Stmt)(t:TS):Prop where
 h:PSs X s t
structure WI(X:Cx)(tg e:Expr)(t:TI):Prop where
 h:PI X tg e t
structure WG(X:Cx)(e:Expr)(t:TG):Prop where
 h:PG X e t
structure WGs(X:Cx)(es:List Expr)(t:uK):Prop where
 h:qr X es t
structure WO(X:Cx)(e:Option Expr)(t:TO):Prop where
 h:PO X e t
structure WTs(X:Cx)(es:List Expr)(t:TT):Prop where
 h:u8 X es t
section
variable {X:Cx}{a b c e o:Expr}{es rest:List Expr}{pos pos' p p2:Pos}{ta tb tc te to:TE}{tA tB':TT}{t:TA}{x:Str}{r r':R2}
theorem wv(i:Nat)(f:X.N[i]? =aa x:=by rfl)(g:wm X.env.scope x:=by first|exact eS rfl|exact ef (eS rfl)|exact ef (ef rfl))(h:(x==("__debug__" : Str))=false:=by decide)
  (d:(x==("__classdict__" : Str))=false:=by decide):WE X (.Name x pos) (ln i):=⟨Pq f g h d⟩
theorem Js{i:Int}{j:Nat}:WE X (.Constant (.int i) j pos) (tC (.int i)):=⟨Q9⟩
theorem Jl{i:Bool}{j:Nat}:WE X (.Constant (.bool i) j pos) (tC (.bl i)):=⟨QZ⟩
theorem Jv{j:Nat}:WE X (.Constant .none j pos) (tC .non):=⟨Pf⟩
theorem JL{j:Nat}:WE X (.Constant (.str i) j pos) (tC (.str i)):=⟨Pm⟩
theorem qb(d:Gl X x)(h:∃u,X.mg x=aa u/\RelV v u)(f:(x==("__debug__" : Str))=false:=by decide):WE X (.Name x pos) (tC v):=⟨Q6 d h f⟩
theorem Jm{n:String}(d:Gl X x)(f:X.mg x=ab)(g:eg x=aa (.type n))(hn:x≠ "__name__" :=by decide)(h:(x==("__debug__" : Str))=false:=by decide):WE X (.Name x pos) (tC (.ty n)):=⟨Q0 (v:=.ty n) d f g rfl hn h⟩
theorem XH(d:yA X (binaryOp op) r)(f:WE X a ta)(g:WE X b tb):WE X (.BinOp a op b pos) (uq r ta tb):=⟨Pi d f.h g.h⟩
theorem JN{q:V->Hp->VK->Prop}(d:qs X (unaryOp op) q)(f:WE X a ta):WE X (.UnaryOp op a pos) (Y5 q ta):=⟨Pp d f.h⟩
theorem XD(d:yA X (ej op) r)(f:WE X a ta)(g:WE X b tb)(i:behindInMarks op b=false):WE X (.Compare a [op] [b] pos) (uq r ta tb):=⟨Q4 d f.h g.h i⟩
theorem Jy(h:WE X a ta):WE X (.BoolOp op [a] pos) ta:=⟨Ph h.h⟩
theorem Jk(d:WE X a ta)(f:WE X (.BoolOp .And (b::rest) pos) tb):WE X (.BoolOp .And (a::b::rest) pos) (YI ta tb):=⟨QY d.h f.h⟩
theorem Jz(d:WE X a ta)(f:WE X (.BoolOp .Or (b::rest) pos) tb):WE X (.BoolOp .Or (a::b::rest) pos) (YZ ta tb):=⟨Pj d.h f.h⟩
theorem Jw(d:WE X a ta):WE X (.UnaryOp .Not a pos) (YX ta):=⟨Pg d.h⟩
theorem Jp(d:WT X c tA)(f:WE X a ta)(g:WE X b tb):WE X (.IfExp c a b pos) (YN tA ta tb):=⟨Q8 d.h f.h g.h⟩
theorem JM{d:Nat}(h:WA X es t):WE X (.Tuple es d pos) (Y4 t):=⟨Po h.h⟩
theorem Ju(h:WA X es t):WE X (.List es pos) (YR t):=⟨Pd h.h⟩
theorem Jo:WE X (.Dict [] [] pos) YJ:=⟨Q5⟩
theorem XG(d:u7 X r)(f:WE X a ta)(g:WE X b tb)(i:kr b):WE X (.Subscript a b pos) (uq r ta tb):=⟨Pa d f.h g.h i⟩
theorem JK{lo hi:Option Expr}{d f:TO}{r:V->Option Int->Option Int->Hp->VK->Prop}(g:tW X r)(i:WE X e te)(j:WO X lo d)(k:WO X hi f):WE X (.Subscript e (.Slice lo hi ab p2) pos) (Y2 r te d f):=⟨Pk g i.h j.h k.h⟩
theorem uJ:WA X [] pO:=⟨jP⟩
theorem vZ(d:WE X e te)(f:WA X es t)(h:zK e=true:=by rfl):WA X (e::es) (gg te t):=⟨jO d.h f.h (xc h)⟩
theorem Jx:WO X ab YV:=⟨PV⟩
theorem JA(h:WE X e te):WO X (aa e) (Y0 te):=⟨PX h.h⟩
theorem XB{id:String}{r:List V->Hp->VK->Prop}(f:wT X (.builtin id) r)(g:Gl X x)(i:X.mg x=ab)(j:eg x=aa (.builtin id))(k:WA X (e::es) t)(hn:x≠ "__name__" :=by decide)(d:(x==("__debug__" : Str))=false:=by decide)
  (h1:zK e=true:=by rfl) (l:es.all zK=true:=by rfl):WE X (.Call (.Name x p) (e::es) [] pos) (pM r t):=⟨Q2 f g i j k.h hn d (xc h1) (vY l)⟩
theorem Jn{T:String}{r:List V->Hp->VK->Prop}(f:wT X (.type T) r)(g:Gl X x)(i:X.mg x=ab)(j:eg x=aa (.type T))(k:WA X (e::es) t)(hn:x≠ "__name__" :=by decide)(d:(x==("__debug__" : Str))=false:=by decide)
  (h1:zK e=true:=by rfl) (l:es.all zK=true:=by rfl):WE X (.Call (.Name x p) (e::es) [] pos) (pM r t):=⟨Q3 f g i j k.h hn d (xc h1) (vY l)⟩
theorem XC{CX:wL}{k j:Nat}{f:ah}{i:eR}{ps:List Str}{sp:Sp}{st:Stmt}{E:XK}(F:FnOk X.prog X.w X.K X.mg X.base CX k f i ps sp)(D:Def X.K X.mg x st ps f i)(l:Room j X.A)(m:Gl X x)(n:wD CX X E)
  (q:WA X (e::es) t) (d:k<=j:=by decide) (g:(x==("__debug__" : Str))=false:=by decide) (h1:zK e=true:=by rfl) (s:es.all zK=true:=by rfl) :
  WE X (.Call (.Name x p) (e::es) [] pos) (gd sp [] E t):=⟨jS F (l.mono d) m D.mg D.fn.kp D.b .nil n q.h g (xc h1) (vY s)⟩
theorem pP{T id:String}{d f:Pos}{r:V->List V->Hp->VK->Prop}(l:PlainAttrs T)(j:Slot T name id)(k:typeOf (.builtin id)=pure (.type "method_descriptor"))(m:v5 X id r)(n:WE X o to)(q:WA X (e::es) t)
 (g:eZ o name X.env (eval o X.env)=eval o X.env:=by rfl) (s:decide ((e::es).length+0+0<30)=true:=by rfl) (i:(d.endLine==f.line)=true:=by rfl)
 (h1:zK e=true:=by rfl) (u:es.all zK=true:=by rfl):WE X (.Call (.Attribute o name d) (e::es) [] f) (gc X.K T r to t):=⟨QW l j k m n.h q.h g s i h1 u⟩
theorem LJ(d:yA X (ej op) r)(f:WE X a ta)(g:WE X b tb)(i:behindInMarks op b=false):WT X (.Compare a [op] [b] pos) (Y3 (uq r ta tb)):=⟨Ng d f.h g.h i⟩
theorem LH(d:WT X a tA):WW X (.BoolOp .And [a] pos) tA:=⟨No d.h⟩
theorem LU(d:WT X a tA):WW X (.BoolOp .Or [a] pos) tA:=⟨Nq d.h⟩
theorem LG(d:WT X a tA)(f:WW X (.BoolOp .And (b::rest) pos) tB'):WW X (.BoolOp .And (a::b::rest) pos) (YH tA tB'):=⟨Nn d.h f.h⟩
theorem LS(d:WT X a tA)(f:WW X (.BoolOp .Or (b::rest) pos) tB'):WW X (.BoolOp .Or (a::b::rest) pos) (YY tA tB'):=⟨Np d.h f.h⟩
theorem tw(h:WW X a tA):WT X a tA:=⟨h.h.pt⟩
theorem Xe(d:WT X a tA):WT X (.UnaryOp .Not a pos) (YW tA):=⟨Nh d.h⟩
theorem Xo(h:WE X e te)(f:∀d,isTrue e X.env d=(do let v <- d;standAt e.pos;holding [v] (truthy v)):=by intro _;rfl):WT X e (tB te):=⟨Ni h.h f⟩
theorem UH:WTs X [] YU:=⟨Nj⟩
theorem UI(h:WT X c tA):WTs X [c] tA:=⟨Nk h.h⟩
end
section
variable {X:Cx}{e c tg iter:Expr}{es:List Expr}{pos pos' p:Pos}{te:TE}{tc:TT}{ta:TA}{x:Str}{st:Stmt}{sr body els:List Stmt}{t u tb:TS}{wi:TI}{g:TG}{gs:uK}
theorem il(h:WE X e te):WI X tg e (ba X.K te):=⟨Px h.h⟩
theorem it(h:WE X e te):WI X tg e (be X.K te):=⟨PD h.h⟩
theorem U1(a:Gl X "range")(b:X.mg "range" =ab)(d:WA X [e] ta)(h1:zK e=true:=by rfl):WI X tg (.Call (.Name "range" p) [e] [] pos) (bb ta):=⟨Py a b d.h (xc h1)⟩
theorem U2(d:Gl X "range")(f:X.mg "range" =ab)(i:WA X [e,b] ta)(h1:zK e=true:=by rfl)(a:zK b=true:=by rfl):WI X tg (.Call (.Name "range" p) [e,b] [] pos) (bd ta):=⟨Pz d f i.h (by rw[xc h1,xc a];rfl) (by rw[xc a];rfl)⟩
theorem gn{i:Nat}(a:X.N.Nodup)(hi:X.N[i]? =aa x)(b:vp X.env.scope x)(d:X.fn x=true\/X.env.scope.names.lookup x=aa .local:=by first|exact .inl rfl|exact .inr rfl|assumption):WG X (.Name x pos) (uS i):=⟨jU a hi b d⟩
theorem Ur:WGs X [] k5:=⟨ZZ⟩
theorem mF(h1:WG X e g)(a:WGs X es gs)(b:(iE (e::es) X.env).map (·.2)=assign e X.env::(iE es X.env).map (·.2):=by rfl):WGs X (e::es) (nR g gs):=⟨jV h1.h a.h b⟩
theorem gt{k n:Nat}(b:X.calm=true)(h:WGs X es gs)(hn:(iE es X.env).length=n:=by rfl)(a:(iE es X.env).findIdx? (·.1)=ab:=by rfl):WG X (.Tuple es k pos) (jc X.K n gs):=⟨ZY b h.h hn a⟩
theorem s0:WSs X [] YT:=⟨Nd⟩
theorem sc(h1:WS X st t)(a:WSs X sr u):WSs X (st::sr) (Y1 t u):=⟨Na h1.h a.h⟩
theorem s1(h1:WS X st t):WSs X [st] t:=⟨Nf h1.h⟩
theorem Li:WSs X sr lm:=⟨Nc⟩
theorem MZ:WS X st lm:=⟨P5⟩
theorem lh(a:WE X e te)(b:swapsWith e ab pos.line X.env=pure false:=by rfl):WS X (.Expr e pos) (YL te):=⟨P2 a.h b⟩
theorem hV(a:WE X e te):WS X (.Return (aa e) pos) (gi te):=⟨P6 a.h⟩
theorem Ys(a:WT X c tc)(b:WSs X body t)(d:WSs X els u):WS X (.If c body els pos) (YO tc t u):=⟨P4 a.h b.h d.h⟩
theorem YA{i:Nat}(a:X.N.Nodup)(hi:X.N[i]? =aa x)(b:vp X.env.scope x)(d:WE X e te)(f:swapsWith e (aa (.Name x pos')) pos.line X.env=pure false:=by rfl)(j:X.fn x=true\/X.env.scope.names.lookup x=aa .local:=by first|exact .inl rfl|exact .inr rfl|assumption) :
  WS X (.Assign [.Name x pos'] e pos) (sJ te (uS i)):=⟨P7 a hi b d.h f j⟩
theorem hE(a:WE X e te)(b:WG X tg g)(d:swapsWithSole [tg] e pos.line X.env=pure false:=by rfl)(f:swappedStores [tg] e X.env=pure ab:=by rfl)(h1:(iE [tg] X.env).map (·.2)=[assign tg X.env]:=by rfl):WS X (.Assign [tg] e pos) (sJ te g):=⟨P1 a.h b.h d f h1⟩
theorem ML(a:PassesOwn (model X.prog X.w) X.A X.env X.xe)(b:X.calm=true)(hi:WI X tg iter wi)(d:WG X tg g)(f:WSs X body tb)(i:∀z,eP iter X.env z=pure z:=by intro _;rfl):WS X (.For tg iter body [] pos) (gh wi g tb):=⟨P3 a b hi.h d.h f.h i⟩
theorem Lv(a:PassesOwn (model X.prog X.w) X.A X.env X.xe)(b:WT X c tc)(d:WSs X body tb):WS X (.While c body [] pos) (Y6 tc tb):=⟨P9 a b.h d.h⟩
end
section
variable {X:Cx}{N:List Str}{fr:List Nat}{x:Str}{scope:Scope}{iter elt:Expr}{ifs:List Expr}{px pos:Pos}{wi:TI}{te:TE}{tt:TT}
theorem Jt(S:CompSc X N fr x scope)(c:X.calm=true)(hi:WI X (.Name x px) iter wi)
  (d:∀(C:ah) (a:ag) (b:Hp) (fp:List ah),WTs (zZ X N scope C a b fp) ifs tt) (e:∀(C:ah) (a:ag) (b:Hp) (fp:List ah),WE (zZ X N scope C a b fp) elt te)
  (f:∀z,eP iter X.env z=pure z:=by intro _;rfl):WE X (.ListComp elt [⟨.Name x px,iter,ifs,0⟩] scope pos) (pN fr wi tt te):=⟨Pb S c hi.h (λC a b fp=>(d C a b fp).h) (λC a b fp=>(e C a b fp).h) f⟩
theorem Lh{i:Nat}{c:Pos}(f:X.N.Nodup)(d:X.N[i]? =aa y)(g:vp X.env.scope y)(S:CompSc X N fr x scope)(j:X.calm=true)(hi:WI X (.Name x px) iter wi)
 (k:∀(C:ah) (a:ag) (b:Hp) (fp:List ah),WTs (zZ X N scope C a b fp) ifs tt) (l:∀(C:ah) (a:ag) (b:Hp) (fp:List ah),WE (zZ X N scope C a b fp) elt te)
 (e:swapsWith (.ListComp elt [⟨.Name x px,iter,ifs,0⟩] scope pos) (aa (.Name y py)) c.line X.env=pure true:=by rfl)
 (m:∀z,eP iter X.env z=pure z:=by intro _;rfl)
 (n:X.fn y=true\/X.env.scope.names.lookup y=aa .local:=by first|exact .inl rfl|exact .inr rfl|assumption) :
 WS X (.Assign [.Name y py] (.ListComp elt [⟨.Name x px,iter,ifs,0⟩] scope pos) c) (sJ (pN fr wi tt te) (uS i)):=
  ⟨P8 f d g S j hi.h (λC a b fp=>(k C a b fp).h) (λC a b fp=>(l C a b fp).h) e m n⟩
end
end L2

set_option maxHeartbeats 4000000
namespace L2
open PySem PySem.Spec PyProof.Rows
abbrev KN:=Option Int
def kN:KN->V
 |none=>.non
 |some i=>.int i
noncomputable def RD:KN->Int
 |none=>reduceHash 0xFCA86420
 |some k=>hashInt k
def Vv(q:List KN×ah×af):DictEntry:=⟨reduceHash (Ej (q.1.map RD)),.ref q.2.1,q.2.2⟩
def XX:List (List KN×ah×V)->List (List KN×ah×af)->Prop:=Paired λp q=>p.1=q.1/\p.2.1=q.2.1/\RelV p.2.2 q.2.2
def XW(l:ah)(xs:List (List KN×ah×V))(h:aX):Prop:=
 (l==sysModules)=false/\xs.length<=aS/\∃a,XX xs a/\∃o b c,h.get? l=aa o/\o.ExactDict/\o.data=.dict b c/\b.toList=a.map Vv/\(a.map (·.1)).Nodup
def Vw(l:ah)(xs:List (List KN×ah×V)):HO:=.ext (XW l xs)
def mQ(l:ah)(o:Obj):HO:=.ext λh=>h.get? l=aa o
noncomputable def bE:af->yM
 |.int i _=>.inl i
 |.str x _=>.inr x
 | _=>.inl 0
theorem Tv(h:mP k v=true):bE v=k:=by
 rcases ui h with ⟨i,t,rfl,rfl⟩|⟨x,t,rfl,rfl⟩ <;> rfl
noncomputable def Xq:af->V
 |.bool b=>.bl b
 |.int i _=>.int i
 |.str x _=>.str x
 |.bytes b _=>.byt b
 |.float b _=>.flt b
 |.ref a=>.ref a
 |.type n=>.ty n
 | _=>.non
theorem Kl(h:RelV v u):Xq u=v:=by
 cases v <;> first|(cases h;rfl)|(obtain⟨_,rfl⟩:=h;rfl)
def DiD(l:ah)(o:Obj)(a:List (yM×V)):Prop:=(l==sysModules)=false/\a.length<=aS /\
 ∃(P:aN) (w:aR) (b:Array DictEntry) (d:Nat) (c:List (yM×af)),o.ExactDict/\o.data=.dict b d/\PySem.KeysOf (uk P w) b/\Pairs (uk P w) b.toList c/\(c.map (·.1)).Nodup/\KV a c
theorem b6{us:List (yM×af)}(r:KV kvs us):kvs=us.map λp=>(p.1,Xq p.2):=by
 unfold KV at r
 induction r with
 |nil=>rfl
 |cons h _ a=>rw[ay,<- a,<- h.1,Kl h.2]
theorem ZP{es:List DictEntry}(r:Pairs (uk P w) es us):us=es.map λe=>(bE e.key,e.val):=by
 induction r with
 |nil=>rfl
 |cons a b _ c=>rw[ay,<- c,Tv a,b]
theorem DiD.inj(h:DiD l o kvs)(h':DiD l o kvs'):kvs=kvs':=by
 obtain⟨_,_,P,w,k,m,n,_,d,_,e,_,f⟩:=h;obtain⟨_,_,p,q,g,i,j,_,a,_,b,_,c⟩:=h';rw[d]at a;cases a;rw[b6 f,b6 c,ZP e,ZP b]
theorem SF(h:mQ l o=mQ l o')(d:DiD l o kvs):o=o':=by
 obtain⟨_,_,_,_,b,c,_,_,a,_⟩:=d;have g:=ax ⟨Cv l o,{}⟩ (o:=o) (by cases o;cases a;rfl);rw[show(⟨Cv l o,{}⟩:aX).objs.size=l from Array.size_replicate]at g;have z:=congrFun (HO.ext.inj h) ((⟨Cv l o,{}⟩:aX).push o);exact aO (g.symm.trans (z.mp g))
end L2

namespace L3
open PySem PySem.Spec PyProof.Rows L2
inductive D where
 |non|bl (b:Bool)|int (i:Int)|str (x:Str)|tup (l:List D)|lst (l:List D)|dic (ks:List Str) (l:List D)|ins (C:ah) (ns:List Str) (l:List D)|dcI (ks:List Int) (l:List D)|dcS (ks:List Str) (l:List D)
inductive OT where
 |val (d:D)|lst (l:List D)|ins (c:Str) (ns:List Str) (l:List OT)|dic (ks:List Str) (l:List D)|dcT (ks:List (List KN)) (l:List D)|dcI (ks:List Int) (l:List OT)|dcS (ks:List Str) (l:List OT)|los (l:List OT)
inductive Ent where
 |val (d:D)|own (l:List D)|bor (l:List D)|vw (l:List D)|obj (o:OT)|vwt (ks:List (List KN)) (l:List D)|bt (l:List D)
abbrev En:=List (Option Ent)
abbrev Sg:=L2.St
mutual
inductive Rep(F:Hp):V->D->Prop
 |non:Rep F .non .non
 |bl (b:Bool):Rep F (.bl b) (.bl b)
 |int (i:Int):Rep F (.int i) (.int i)
 |str (x:Str):Rep F (.str x) (.str x)
 |tup {a:ah} {vs:List V} {ds:List D}:F a=aa (.tup vs)->Reps F vs ds->Rep F (.ref a) (.tup ds)
 |lst {a:ah} {vs:List V} {ds:List D}:F a=aa (.lst vs)->Reps F vs ds->Rep F (.ref a) (.lst ds)
 |dic {a:ah} {o:Obj} {ks:List Str} {vs:List V} {ds:List D}:F a=aa (.frz o (.dK ((ks.map a7).zip vs)))->ks.length=vs.length->Reps F vs ds->Rep F (.ref a) (.dic ks ds)
 |ins {a C dx:ah} {ns:List Str} {vs:List V} {ds:List D}:F a=aa (.ins C dx (ns.zip vs))->ns.length=vs.length->Reps F vs ds->Rep F (.ref a) (.ins C ns ds)
 |dcI {a:ah} {o:Obj} {ks:List Int} {vs:List V} {ds:List D}:F a=aa (mQ a o)->DiD a o ((ks.map Bl).zip vs)->ks.length=vs.length->Reps F vs ds->Rep F (.ref a) (.dcI ks ds)
 |dcS {a:ah} {ks:List Str} {vs:List V} {ds:List D}:F a=aa (.dK ((ks.map a7).zip vs))->ks.length=vs.length->Reps F vs ds->Rep F (.ref a) (.dcS ks ds)
inductive Reps(F:Hp):List V->List D->Prop
 |nil:Reps F [] []
 |cons {v:V} {d:D} {vs:List V} {ds:List D}:Rep F v d->Reps F vs ds->Reps F (v::vs) (d::ds)
end
section
variable {F F':Hp}{v:V}{d:D}{vs ws:List V}{ds es:List D}
theorem Rep.mono(s:Same F F')(h:Rep F v d):Rep F' v d:=
 Rep.rec (motive_1:=λv d _=>Rep F' v d) (motive_2:=λvs ds _=>Reps F' vs ds) .non .bl .int .str (λe _ a=>.tup (s _ _ e) a) (λe _ a=>.lst (s _ _ e) a) (λe l _ a=>.dic (s _ _ e) l a) (λe l _ a=>.ins (s _ _ e) l a) (λe d l _ a=>.dcI (s _ _ e) d l a) (λe l _ a=>.dcS (s _ _ e) l a) .nil (λ_ _ h t=>.cons h t) h
theorem Reps.mono(s:Same F F')(h:Reps F vs ds):Reps F' vs ds:=
 Reps.rec (motive_1:=λv d _=>Rep F' v d) (motive_2:=λvs ds _=>Reps F' vs ds) .non .bl .int .str (λe _ a=>.tup (s _ _ e) a) (λe _ a=>.lst (s _ _ e) a) (λe l _ a=>.dic (s _ _ e) l a) (λe l _ a=>.ins (s _ _ e) l a) (λe d l _ a=>.dcI (s _ _ e) d l a) (λe l _ a=>.dcS (s _ _ e) l a) .nil (λ_ _ h t=>.cons h t) h
theorem Reps.ind{P:List V->List D->Prop}(c:P [] [])(h1:∀{v d vs ds},Rep F v d->Reps F vs ds->P vs ds->P (v::vs) (d::ds)){vs:List V}{ds:List D}(h:Reps F vs ds):P vs ds:=
 Reps.rec (motive_1:=λ_ _ _=>True) (motive_2:=λvs ds _=>P vs ds) trivial (λ_=>trivial) (λ_=>trivial) (λ_=>trivial) (λ_ _ _=>trivial) (λ_ _ _=>trivial) (λ_ _ _ _=>trivial) (λ_ _ _ _=>trivial) (λ_ _ _ _ _=>trivial) (λ_ _ _ _=>trivial) c (λa b _ t=>h1 a b t) h
theorem Reps.length{vs:List V}{ds:List D}(h:Reps F vs ds):vs.length=ds.length:=h.ind (P:=λvs ds=>vs.length=ds.length) rfl λ_ _ t=>congrArg (· + 1) t
theorem Reps.get{i:Nat}{d:D}(h:Reps F vs ds):ds[i]? =aa d->∃v,vs[i]? =aa v/\Rep F v d:=
 h.ind (P:=λvs ds=>∀i,ds[i]? =aa d->∃v,vs[i]? =aa v/\Rep F v d) (λ_ e=>nomatch (show ab=aa _ from e)) (fun {v _ _ _} r _ t i e=>by
  cases i with
  |zero=>cases e;exact⟨v,rfl,r⟩
  |succ i=>exact t i e) i
theorem Reps.getV{i:Nat}{v:V}(h:Reps F vs ds):vs[i]? =aa v->∃d,ds[i]? =aa d/\Rep F v d:=
 h.ind (P:=λvs ds=>∀i,vs[i]? =aa v->∃d,ds[i]? =aa d/\Rep F v d) (λ_ e=>nomatch (show ab=aa _ from e)) (fun {_ d _ _} r _ t i e=>by
  cases i with
  |zero=>cases e;exact⟨d,rfl,r⟩
  |succ i=>exact t i e) i
theorem Reps.append(h:Reps F vs ds)(s:Reps F ws es):Reps F (vs++ws) (ds++es):=h.ind (P:=λvs ds=>Reps F (vs++ws) (ds++es)) s λr _ t=>.cons r t
theorem Reps.take{vs:List V}{ds:List D}(n:Nat)(h:Reps F vs ds):Reps F (vs.take n) (ds.take n):=
 h.ind (P:=λvs ds=>∀n,Reps F (vs.take n) (ds.take n)) (λn=>by rw[Ee,Ee];exact .nil) (λr _ t n=>by
  cases n with
  |zero=>exact .nil
  |succ n=>exact .cons r (t n)) n
theorem Reps.drop{vs:List V}{ds:List D}(n:Nat)(h:Reps F vs ds):Reps F (vs.drop n) (ds.drop n):=
 h.ind (P:=λvs ds=>∀n,Reps F (vs.drop n) (ds.drop n)) (λn=>by rw[Ed,Ed];exact .nil) (λr h t n=>by
  cases n with
  |zero=>exact .cons r h
  |succ n=>exact t n) n
theorem Reps.set(r:Rep F v d){vs:List V}{ds:List D}(i:Nat)(h:Reps F vs ds):Reps F (vs.set i v) (ds.set i d):=
 h.ind (P:=λvs ds=>∀i,Reps F (vs.set i v) (ds.set i d)) (λ_=>.nil) (λq h t i=>by
  cases i with
  |zero=>exact .cons r h
  |succ i=>exact .cons q (t i)) i
theorem Reps.one(h:Rep F v d):Reps F [v] [d]:=.cons h .nil
theorem Reps.rev{vs:List V}{ds:List D}(h:Reps F vs ds):Reps F vs.reverse ds.reverse:=h.ind (P:=λvs ds=>Reps F vs.reverse ds.reverse) .nil λh _ t=>by rw[oO,oO];exact t.append (.one h)
theorem Reps.ints(ns:List Int):Reps F (ns.map V.int) (ns.map D.int):=by
 induction ns with
 |nil=>exact .nil
 |cons n r a=>exact .cons (.int n) a
theorem Reps.dropLast(r:Reps F vs ds):Reps F vs.dropLast ds.dropLast:=by
 rw[CN,CN,r.length];exact r.take _
end
def vB:HO->Bool
 |.tup _=>true
 | _=>false
def vL(K:ae)(c:Str)(C:ah):Prop:=ik K aY c=aa (aa (.ref C))
mutual
inductive TR(K:ae)(F H:Hp):V->OT->List ah->Prop
 |val {v:V} {d:D}:Rep F v d->TR K F H v (.val d) []
 |lst {l:ah} {vs:List V} {ds:List D}:H l=aa (.lst vs)->Reps F vs ds->TR K F H (.ref l) (.lst ds) [l]
 |ins {a dx C:ah} {c:Str} {ns:List Str} {vs:List V} {os:List OT} {A:List ah}:vL K c C->H a=aa (.ins C dx (ns.zip vs))->H dx=aa (.own a)->ns.length=vs.length->TRs K F H vs os A->TR K F H (.ref a) (.ins c ns os) (a::dx::A)
 |dic {l:ah} {ks:List Str} {vs:List V} {ds:List D}:H l=aa (.dK ((ks.map a7).zip vs))->ks.length=vs.length->Reps F vs ds->TR K F H (.ref l) (.dic ks ds) [l]
 |dcT {l:ah} {xs:List (List KN×ah×V)} {ks:List (List KN)} {ds:List D}:H l=aa (Vw l xs)->ks=xs.map (·.1)->(∀x∈xs,F x.2.1=aa (.tup (x.1.map kN)))->Reps F (xs.map (·.2.2)) ds->TR K F H (.ref l) (.dcT ks ds) [l]
 |dcI {l:ah} {o:Obj} {ks:List Int} {vs:List V} {os:List OT} {A:List ah}:H l=aa (mQ l o)->DiD l o ((ks.map Bl).zip vs)->ks.length=vs.length->TRs K F H vs os A->TR K F H (.ref l) (.dcI ks os) (l::A)
 |dcS {l:ah} {ks:List Str} {vs:List V} {os:List OT} {A:List ah}:H l=aa (.dK ((ks.map a7).zip vs))->ks.length=vs.length->TRs K F H vs os A->TR K F H (.ref l) (.dcS ks os) (l::A)
 |los {l:ah} {vs:List V} {os:List OT} {A:List ah}:H l=aa (.lst vs)->TRs K F H vs os A->TR K F H (.ref l) (.los os) (l::A)
inductive TRs(K:ae)(F H:Hp):List V->List OT->List ah->Prop
 |nil:TRs K F H [] [] []
 |cons {v:V} {o:OT} {vs:List V} {os:List OT} {A A':List ah}:TR K F H v o A->TRs K F H vs os A'->TRs K F H (v::vs) (o::os) (A++A')
end
section
variable {K:ae}{F H F' H':Hp}
theorem TR.move(s:Same F F'){A:List ah}(t:TR K F H v o A):(∀a∈A,H' a=H a)->TR K F' H' v o A:=
 TR.rec (motive_1:=λv o A _=>(∀a∈A,H' a=H a)->TR K F' H' v o A) (motive_2:=λf g A _=>(∀a∈A,H' a=H a)->TRs K F' H' f g A) (λr _=>.val (Rep.mono s r)) (λe r h=>.lst ((h _ aw).trans e) (r.mono s))
  (λi j k m _ c h=>.ins i ((h _ aw).trans j) ((h _ (aq _ aw)).trans k) m (c λa b=>h a (aq _ (aq _ b)))) (λe l r h=>.dic ((h _ aw).trans e) l (r.mono s))
  (λe l z r h=>.dcT ((h _ aw).trans e) l (λx n=>s _ _ (z x n)) (r.mono s)) (λe d l _ c h=>.dcI ((h _ aw).trans e) d l (c λa b=>h a (aq _ b))) (λe l _ c h=>.dcS ((h _ aw).trans e) l (c λa b=>h a (aq _ b))) (λe _ c h=>.los ((h _ aw).trans e) (c λa b=>h a (aq _ b))) (λ_=>.nil)
  (λ_ _ p q h=>.cons (p λa b=>h a (em _ b)) (q λa b=>h a (aE _ b))) t
theorem TRs.nil_{a:List OT}{A:List ah}(h:TRs K F H [] a A):a=[]/\A=[]:=by cases h;exact⟨rfl,rfl⟩
theorem TRs.cons_{v:V}{vs:List V}{b:List OT}{A:List ah}(h:TRs K F H (v::vs) b A):∃o a c A2,b=o::a/\A=c++A2/\TR K F H v o c/\TRs K F H vs a A2:=by cases h with|cons t ts=>exact⟨_,_,_,_,rfl,rfl,t,ts⟩
theorem TRs.move(s:Same F F'):∀{vs:List V} {b:List OT} {A:List ah},TRs K F H vs b A->(∀a∈A,H' a=H a)->TRs K F' H' vs b A:=by
 intro vs
 induction vs with
 |nil=>intro b A t h;obtain⟨rfl,rfl⟩:=t.nil_;exact .nil
 |cons v vs d=>
  intro b A t h;obtain⟨o,e,i,j,rfl,rfl,f,g⟩:=t.cons_;exact .cons (f.move s λa c=>h a (em _ c)) (d g λa c=>h a (aE _ c))
theorem jE{l:ah}{u:HO}(e:H l=aa u)(b:vB u=false):∀a∈[l],∃u,H a=aa u/\vB u=false:=λa h=>by
 cases aL.mp h;exact⟨u,e,b⟩
theorem pv{l:ah}{u:HO}{A:List ah}(e:H l=aa u)(b:vB u=false)(h:∀a∈A,∃u,H a=aa u/\vB u=false):∀a∈l::A,∃u,H a=aa u/\vB u=false:=λa c=>
 (aC.mp c).elim (λz=>⟨u,z ▸ e,b⟩) (h a)
theorem TR.lies{A:List ah}(t:TR K F H v o A):∀a∈A,∃u,H a=aa u/\vB u=false:=
 TR.rec (motive_1:=λ_ _ A _=>∀a∈A,∃u,H a=aa u/\vB u=false) (motive_2:=λ_ _ A _=>∀a∈A,∃u,H a=aa u/\vB u=false) (λ_ a h=>nomatch h) (λe _=>jE e rfl) (λ_ c d _ _ b=>pv c rfl (pv d rfl b)) (λe _ _=>jE e rfl) (λe _ _ _=>jE e rfl) (λe _ _ _ b=>pv e rfl b) (λe _ _ b=>pv e rfl b) (λe _ b=>pv e rfl b) (λa h=>nomatch h)
  (λ_ _ f g a h=>(ed.mp h).elim (f a) (g a)) t
theorem TRs.lies:∀{vs:List V} {b:List OT} {A:List ah},TRs K F H vs b A->∀a∈A,∃u,H a=aa u/\vB u=false:=by
 intro vs
 induction vs with
 |nil=>intro b A t a h;obtain⟨rfl,rfl⟩:=t.nil_;cases h
 |cons v vs c=>
  intro b A t a h;obtain⟨o,d,g,i,rfl,rfl,e,f⟩:=t.cons_;exact(ed.mp h).elim (e.lies a) (c f a)
theorem gC{b:Type}{ns:List b}:∀{vs ws:List V},ns.length=vs.length->ns.length=ws.length->ns.zip vs=ns.zip ws->vs=ws:=by
 intro vs ws c d h;have a:=congrArg (λl=>l.map Prod.snd) h;simp only[Ch (Aq c.symm),Ch (Aq d.symm)]at a;exact a
theorem TR.det{v:V}{o:OT}{A:List ah}(t:TR K F H v o A):∀{A':List ah},TR K F H v o A'->A=A':=by
 refine TR.rec (motive_1:=λv o A _=>∀{A':List ah},TR K F H v o A'->A=A') (motive_2:=λj k A _=>∀{A':List ah},TRs K F H j k A'->A=A') ?_ ?_ ?_ ?_ ?_ ?_ ?_ ?_ ?_ ?_ t
 ·intro _ _ _ _ h;cases h;rfl
 ·intro _ _ _ _ _ _ h;cases h;rfl
 ·intro _ _ _ _ _ _ _ _ _ m _ n _ a _ h;cases h with
  |ins _ f _ g b=>
   have z:=aO (m.symm.trans f);injection z with _ p q;subst p;cases gC n g q;rw[a b]
 ·intro _ _ _ _ _ _ _ _ h;cases h;rfl
 ·intro _ _ _ _ _ _ _ _ _ h;cases h;rfl
 ·intro _ _ _ _ _ _ e d l _ a _ h;cases h with
  |dcI c r i b=>
   cases SF (aO (e.symm.trans c)) d;cases gC (by rw[ar];exact l) (by rw[ar];exact i) (d.inj r);rw[a b]
 ·intro _ _ _ _ _ e l _ a _ h;cases h with
  |dcS c i b=>
   cases gC (by rw[ar];exact l) (by rw[ar];exact i) (HO.dK.inj (aO (e.symm.trans c)));rw[a b]
 ·intro _ _ _ _ e _ a _ h;cases h with
  |los c b=>
   cases HO.lst.inj (aO (e.symm.trans c));rw[a b]
 ·intro _ h;exact h.nil_.2.symm
 ·intro _ _ _ _ _ _ _ _ s u _ h;obtain⟨_,_,_,_,e,rfl,w,x⟩:=h.cons_;cases e;rw[s w,u x]
end
structure Bd where
 hp:Hp
 pin:Option V
instance:Coe Bd Hp:=⟨Bd.hp⟩
structure Ex(F H F' H':Hp):Prop where
 ff:Same F F'
 fh:Same F' H'
 hh:Same H H'
 nw:∀a o,H a=aa o->vB o=false->F' a=F a
section
variable {K:ae}{B:Bd}{F H F' H' F2 H2 H0:Hp}{v:V}{p:ah}{o:HO}{e:Ent}{σ:Sg}{δ:En}
theorem Ex.refl(h:Same F H):Ex F H F H:=⟨Same.refl F,h,Same.refl H,λ_ _ _ _=>rfl⟩
theorem Ex.trans(a:Ex F H F' H')(b:Ex F' H' F2 H2):Ex F H F2 H2:=⟨a.ff.trans b.ff,b.fh,a.hh.trans b.hh,λx o e t=>(b.nw x o (a.hh x o e) t).trans (a.nw x o e t)⟩
theorem My(h:Same F H)(c:H p=ab):Same (zp F p o) (zp H p o):=λb u e=>by
 by_cases a:b=p
 ·subst a;rw[yz]at e ⊢;exact e
 ·rw[zX a]at e ⊢;exact h b u e
theorem Ex.alloc(h:Same F H)(b:H p=ab):Ex F H (zp F p o) (zp H p o):=
 ⟨Same.alloc (h.free b),My h b,Same.alloc b,λa u e _=>zX (vm e b)⟩
theorem Ex.lay(h:Same F H)(a:H p=ab):Ex F H F (zp H p o):=⟨Same.refl F,h.trans (Same.alloc a),Same.alloc a,λ_ _ _ _=>rfl⟩
theorem Ex.freeze(x:Ex F H F' H')(d:H p=ab)(h1:H' p=aa o)(f:F' p=ab):Ex F H (zp F' p o) H':=by
 refine⟨x.ff.trans (Same.alloc f),λb u e=>?_,x.hh,λa u e t=>?_⟩
 ·by_cases c:b=p
  ·subst c;rw[yz]at e;cases e;exact h1
  ·rw[zX c]at e;exact x.fh b u e
 ·rw[zX (vm e d)];exact x.nw a u e t
theorem Ex.tupF(x:Ex F H F' H')(h1:H' p=aa (.tup zs)):∃F2,Ex F H F2 H'/\Same F' F2/\F2 p=aa (.tup zs):=by
 cases q:F' p with
 |some u=>
  have:=x.fh _ _ q;rw[h1]at this;cases this;exact⟨F',x,Same.refl _,q⟩
 |none=>
  refine⟨zp F' p (.tup zs),⟨x.ff.trans (Same.alloc q),λb u e=>?_,x.hh,λa u e t=>?_⟩,Same.alloc q,yz⟩
  ·by_cases c:b=p
   ·subst c;rw[yz]at e;cases e;exact h1
   ·rw[zX c]at e;exact x.fh b u e
  ·by_cases c:a=p
   ·subst c;rw[x.hh _ _ e]at h1;cases h1;cases t
   ·rw[zX c];exact x.nw a u e t
inductive ROwn(H0 F H:Hp)(v:V)(ds:List D):Prop
 |mk (l:ah) (vs:List V):v=.ref l->H0 l=ab->H l=aa (.lst vs)->Reps F vs ds->F l=ab->ROwn H0 F H v ds
inductive NOwn(B F H:Hp)(v:V)(ds:List D):Prop
 |mk (l:ah) (vs:List V):v=.ref l->H l=aa (.lst vs)->Reps F vs ds->F l=ab->B l=ab->NOwn B F H v ds
inductive RBor(K:ae)(F H:Hp)(v:V)(ds:List D):Prop
 |mk (l:ah) (vs:List V):v=.ref l->SqL K H l vs->Reps F vs ds->RBor K F H v ds
inductive RVw(F H:Hp)(v:V)(ds:List D):Prop
 |mk (l:ah) (vs:List V):v=.ref l->H l=aa (.lst vs)->Reps F vs ds->RVw F H v ds
inductive RBt(K:ae)(F H:Hp)(v:V)(ds:List D):Prop
 |mk (l:ah) (vs:List V):v=.ref l->SqT K H l vs->Reps F vs ds->RBt K F H v ds
inductive RObj(K:ae)(H0 F H:Hp)(v:V)(o:OT):Prop
 |mk (z:∃l,v=.ref l) (A:List ah):TR K F H v o A->A.Nodup->(∀a∈A,F a=ab/\H0 a=ab)->RObj K H0 F H v o
inductive NObj(K:ae)(B F H:Hp)(v:V)(o:OT):Prop
 |mk (A:List ah):TR K F H v o A->A.Nodup->(∀a∈A,F a=ab/\B a=ab)->NObj K B F H v o
def RepR(K:ae)(H0 F H:Hp)(v:V):Ent->Prop
 |.val d=>Rep F v d
 |.own a=>ROwn H0 F H v a
 |.bor a=>RBor K F H v a
 |.vw a=>RVw F H v a
 |.obj o=>RObj K H0 F H v o
 |.vwt b a=>∃A,TR K F H v (.dcT b a) A
 |.bt a=>RBt K F H v a
theorem _root_.L2.Same.seqT(s:Same H H')(h:SqT K H l vs):SqT K H' l vs:=by
 rcases h with (h|⟨o,h⟩)|h
 ·exact .inl (.inl (s _ _ h))
 ·exact .inl (.inr ⟨o,s _ _ h⟩)
 ·exact .inr h
theorem TR.ext{o:OT}{A:List ah}(r:TR K F H v o A)(x:Ex F H F' H'):TR K F' H' v o A/\∀a∈A,F' a=F a:=
 ⟨r.move x.ff λa b=>let⟨_,h1,_⟩:=r.lies a b;(x.hh _ _ h1).trans h1.symm,λa b=>let⟨_,h1,h2⟩:=r.lies a b;x.nw _ _ h1 h2⟩
theorem RepR.ext(r:RepR K H0 F H v e)(x:Ex F H F' H'):RepR K H0 F' H' v e:=by
 cases e with
 |val d=>exact Rep.mono x.ff r
 |own f=>
  obtain⟨l,b,e,j,i,c,k⟩:=r;exact⟨l,b,e,j,x.hh _ _ i,c.mono x.ff,(x.nw _ _ i rfl).trans k⟩
 |bor f=>obtain⟨l,b,e,h,c⟩:=r;exact⟨l,b,e,x.hh.seq h,c.mono x.ff⟩
 |vw f=>obtain⟨l,b,e,h,c⟩:=r;exact⟨l,b,e,x.hh _ _ h,c.mono x.ff⟩
 |obj o=>obtain⟨z,A,t,n,h⟩:=r;exact⟨z,A,(t.ext x).1,n,λa g=>⟨((t.ext x).2 a g).trans (h a g).1,(h a g).2⟩⟩
 |vwt m f=>obtain⟨A,t⟩:=r;exact⟨A,(t.ext x).1⟩
 |bt f=>obtain⟨l,b,e,h,c⟩:=r;exact⟨l,b,e,x.hh.seqT h,c.mono x.ff⟩
theorem RepR.earlier(r:RepR K H F' H' v e)(s:Same H0 H):RepR K H0 F' H' v e:=by
 cases e with
 |own j=>obtain⟨l,c,e,d,f,g,i⟩:=r;exact⟨l,c,e,s.free d,f,g,i⟩
 |obj o=>obtain⟨z,A,t,n,h⟩:=r;exact⟨z,A,t,n,λa b=>⟨(h a b).1,s.free (h a b).2⟩⟩
 | _=>exact r
def RepN(K:ae)(B F H:Hp)(v:V):Ent->Prop
 |.val d=>Rep F v d
 |.own a=>NOwn B F H v a
 |.bor a=>RBor K F B v a
 |.vw a=>RVw F H v a
 |.obj o=>NObj K B F H v o
 |.vwt b a=>∃A,TR K F H v (.dcT b a) A
 |.bt a=>RBt K F B v a
def Ent.lk:Ent->Bool
 |.own _=>true
 |.vw _=>true
 | _=>false
def Occ(K:ae)(F H:Hp)(v:V):Ent->ah->Prop
 |.own _,a=>v=.ref a
 |.vw _,a=>v=.ref a
 |.obj o,a=>∃A,TR K F H v o A/\a∈A
 |.vwt b c,a=>∃A,TR K F H v (.dcT b c) A/\a∈A
 | _,_=>False
def Ent.isO:Ent->Bool
 |.obj _=>true
 | _=>false
structure RS(K:ae)(B:Bd)(F H:Hp)(σ:Sg)(δ:En):Prop where
 fh:Same F H
 bh:Same B H
 len:σ.length=δ.length
 ent:∀(i:Nat) (e:Ent),δ[i]? =aa (aa e)->∃v,σ[i]? =aa (aa v)/\RepN K B F H v e
 ap:∀(i j:Nat) (l:ah) (ds:List D) (e:Ent),i≠j->δ[i]? =aa (aa (.own ds))->σ[i]? =aa (aa (.ref l))->δ[j]? =aa (aa e)->e.lk=true->σ[j]?≠aa (aa (.ref l))
 ao:∀(i j:Nat) (e e':Ent) (v w:V) (a:ah),i≠j->δ[i]? =aa (aa e)->σ[i]? =aa (aa v)->δ[j]? =aa (aa e')->σ[j]? =aa (aa w)->e.isO=true->Occ K F H v e a->Occ K F H w e' a->False
 pn:∀(v:V) (o:OT),B.pin=aa v->δ[0]? =aa (aa (.obj o))->σ[0]? =aa (aa v)
theorem RepN.ext(r:RepN K B F H v e)(x:Ex F H F' H'):RepN K B F' H' v e:=by
 cases e with
 |val d=>exact Rep.mono x.ff r
 |own f=>obtain⟨l,b,e,i,c,j,k⟩:=r;exact⟨l,b,e,x.hh _ _ i,c.mono x.ff,(x.nw _ _ i rfl).trans j,k⟩
 |bor f=>obtain⟨l,b,e,h,c⟩:=r;exact⟨l,b,e,h,c.mono x.ff⟩
 |vw f=>obtain⟨l,b,e,h,c⟩:=r;exact⟨l,b,e,x.hh _ _ h,c.mono x.ff⟩
 |obj o=>obtain⟨A,t,n,h⟩:=r;exact⟨A,(t.ext x).1,n,λa g=>⟨((t.ext x).2 a g).trans (h a g).1,(h a g).2⟩⟩
 |vwt m f=>obtain⟨A,t⟩:=r;exact⟨A,(t.ext x).1⟩
 |bt f=>obtain⟨l,b,e,h,c⟩:=r;exact⟨l,b,e,h,c.mono x.ff⟩
theorem Occ.back{a:ah}(r:RepN K B F H v e)(m:∀o A,(e=.obj o\/∃c d,e=.vwt c d/\o=.dcT c d)->TR K F H v o A->TR K F' H' v o A)(h:Occ K F' H' v e a):Occ K F H v e a:=by
 cases e with
 |obj o=>
  obtain⟨A,t,_⟩:=r;obtain⟨g,f,b⟩:=h;rw[f.det (m o A (.inl rfl) t)]at b;exact⟨A,t,b⟩
 |vwt c d=>
  obtain⟨A,t⟩:=r;obtain⟨g,f,b⟩:=h;rw[f.det (m _ A (.inr ⟨c,d,rfl,rfl⟩) t)]at b;exact⟨A,t,b⟩
 | _=>exact h
theorem Occ.backX(r:RepN K B F H v e)(x:Ex F H F' H')(h:Occ K F' H' v e a):Occ K F H v e a:=h.back r λ_ _ _ t=>(t.ext x).1
theorem RepN.lies(r:RepN K B F H v e)(h:Occ K F H v e a):∃u,H a=aa u:=by
 cases e with
 |own d=>obtain⟨l,f,e,b,_⟩:=r;cases e;cases (show V.ref l=.ref a from h);exact⟨_,b⟩
 |vw d=>obtain⟨l,f,e,b,_⟩:=r;cases e;cases (show V.ref l=.ref a from h);exact⟨_,b⟩
 |obj o=>obtain⟨A,t,c⟩:=h;obtain⟨u,b,_⟩:=t.lies a c;exact⟨u,b⟩
 |vwt g d=>obtain⟨A,t,c⟩:=h;obtain⟨u,b,_⟩:=t.lies a c;exact⟨u,b⟩
 | _=>exact h.elim
theorem RS.occ{i:Nat}(s:RS K B F H σ δ)(h:δ[i]? =aa (aa e))(q:σ[i]? =aa (aa v))(o:Occ K F H v e a):∃u,H a=aa u:=by
 obtain⟨w,b,c⟩:=s.ent i e h;rw[q]at b;cases b;exact c.lies o
theorem RS.at{i:Nat}(s:RS K B F H σ δ)(h:δ[i]? =aa (aa e))(q:σ[i]? =aa (aa v)):RepN K B F H v e:=by
 obtain⟨w,a,b⟩:=s.ent i e h;rw[q]at a;cases a;exact b
theorem RS.ext(s:RS K B F H σ δ)(x:Ex F H F' H'):RS K B F' H' σ δ:=
 ⟨x.fh,s.bh.trans x.hh,s.len,λi e h=>let⟨v,b,c⟩:=s.ent i e h;⟨v,b,c.ext x⟩,s.ap,
  λi j e k v w a d b c f g l m n=>s.ao i j e k v w a d b c f g l (m.backX (s.at b c) x) (n.backX (s.at f g) x),s.pn⟩
noncomputable def zL:Ent->Option D
 |.val d=>aa d
 |.own a=>aa (.lst a)
 | _=>ab
noncomputable def zS:Ent->Option (List D)
 |.val (.lst a)=>aa a
 |.own a=>aa a
 |.bor a=>aa a
 |.vw a=>aa a
 | _=>ab
theorem RepR.toL(r:RepR K H0 F H v e)(h:Same F H)(q:zS e=aa ds):RBor K F H v ds:=by
 cases e with
 |val d=>
  cases d with
  |lst b=>
   cases q;cases (show Rep F v (.lst _)from r)with
   |lst e a=>exact⟨_,_,rfl,SqL.of (h _ _ e),a⟩
  | _=>cases q
 |own b=>cases q;obtain⟨l,c,e,_,f,a,_⟩:=r;exact⟨l,c,e,SqL.of f,a⟩
 |bor b=>cases q;exact r
 |vw b=>cases q;obtain⟨l,c,e,f,a⟩:=r;exact⟨l,c,e,SqL.of f,a⟩
 |obj o=>cases q
 |vwt g ds=>cases q
 |bt ds=>cases q
noncomputable def nz:Ent->Option (List D)
 |.val (.lst a)=>aa a
 |.own a=>aa a
 |.vw a=>aa a
 | _=>ab
theorem RepR.toLt(r:RepR K H0 F H v e)(h:Same F H)(q:nz e=aa ds):RVw F H v ds:=by
 cases e with
 |val d=>
  cases d with
  |lst a=>
   cases q;cases (show Rep F v (.lst _)from r)with
   |lst e b=>exact⟨_,_,rfl,h _ _ e,b⟩
  | _=>cases q
 |own a=>cases q;obtain⟨l,c,e,_,f,b,_⟩:=r;exact⟨l,c,e,f,b⟩
 |bor a=>cases q
 |vw a=>cases q;exact r
 |obj o=>cases q
 |vwt g ds=>cases q
 |bt ds=>cases q
end
end L3

namespace L3
open PySem PySem.Spec PyProof.Rows L2
abbrev FE:=En->Option Ent
abbrev FT:=En->Option Bool
abbrev FA:=En->Option (List Ent)
inductive RepRs(K:ae)(H0 F H:Hp):List V->List Ent->Prop
 |nil:RepRs K H0 F H [] []
 |cons {v:V} {e:Ent} {vs:List V} {es:List Ent}:RepR K H0 F H v e->RepRs K H0 F H vs es->RepRs K H0 F H (v::vs) (e::es)
section
variable {K:ae}{B:Bd}{F H F' H' F2 H2 H0:Hp}
theorem RepRs.earlier(s:Same H0 H)(h:RepRs K H F' H' vs es):RepRs K H0 F' H' vs es:=h.rec .nil λr _ t=>.cons (r.earlier s) t
theorem RepRs.length{vs:List V}{es:List Ent}(h:RepRs K H0 F H vs es):vs.length=es.length:=h.rec (motive:=λvs es _=>vs.length=es.length) rfl λ_ _ t=>congrArg (· + 1) t
noncomputable def yn:List Ent->Option (List D)
 |[]=>aa []
 |e::a=>(zL e).bind λd=>(yn a).map λb=>d::b
theorem RepR.frz(x:Ex F H F' H')(s:Same F2 F')(r:RepR K H F2 H' v e)(q:zL e=aa d):∃a,Ex F H a H'/\Same F' a/\Rep a v d:=by
 cases e with
 |val h=>cases q;exact⟨F',x,Same.refl _,Rep.mono s r⟩
 |own i=>
  cases q;obtain⟨l,f,e,g,b,c,j⟩:=r;subst e;cases z:F' l with
  |none=>exact⟨zp F' l (.lst f),x.freeze g b z,Same.alloc z,.lst yz (c.mono (s.trans (Same.alloc z)))⟩
  |some o=>
   have:=x.fh _ _ z;rw[b]at this;cases this;exact⟨F',x,Same.refl _,.lst z (c.mono s)⟩
 | _=>cases q
theorem RepRs.frz(x:Ex F H F' H')(s:Same F2 F')(h:RepRs K H F2 H' vs c)(q:yn c=aa ds):∃a,Ex F H a H'/\Same F' a/\Reps a vs ds:=by
 induction h generalizing ds F' with
 |nil=>cases q;exact⟨F',x,Same.refl _,.nil⟩
 |@cons _ e _ c r t j=>
  simp only[yn]at q;cases b:zL e with
  |none=>rw[b]at q;cases q
  |some d=>
   cases f:yn c with
   |none=>rw[b,f]at q;cases q
   |some k=>
    rw[b,f]at q;cases q;obtain⟨a,l,g,m⟩:=r.frz x s b;obtain⟨n,o,i,p⟩:=j l (s.trans g) f;exact⟨n,o,g.trans i,.cons (Rep.mono i m) p⟩
end
def SemE(K:ae)(t:TE)(f:FE):Prop:=∀(B:Bd) (F H:Hp) (b:Sg) (c:En) (r:Ent) (Q:VK),RS K B F H b c->f c=aa r->(∀v d a,Ex F H d a->RepR K H d a v r->Q v a)->t b H Q
def tV(K:ae)(t:TT)(f:FT):Prop:=∀(B:Bd) (F H:Hp) (a:Sg) (c:En) (b:Bool) (Q:Bool->Hp->Prop),RS K B F H a c->f c=aa b->(∀e d,Ex F H e d->Q b d)->t a H Q
def tU(K:ae)(t:TA)(f:FA):Prop:=∀(B:Bd) (F H:Hp) (b:Sg) (c:En) (d:List Ent) (Q:List V->Hp->Prop),RS K B F H b c->f c=aa d->(∀e g a,Ex F H g a->RepRs K H g a e d->Q e a)->t b H Q
structure VE(X:Cx)(e:Expr)(f:FE):Prop where
 h:∃t,WE X e t/\SemE X.K t f
structure VT(X:Cx)(e:Expr)(f:FT):Prop where
 h:∃t,WT X e t/\tV X.K t f
structure VW(X:Cx)(e:Expr)(f:FT):Prop where
 h:∃t,WW X e t/\tV X.K t f
structure VA(X:Cx)(es:List Expr)(f:FA):Prop where
 h:∃t,WA X es t/\tU X.K t f
structure VTs(X:Cx)(es:List Expr)(f:FT):Prop where
 h:∃t,WTs X es t/\tV X.K t f
noncomputable def za(i:Nat):FE:=λa=>match a[i]? with
 |some (aa (.own b))=>aa (.vw b)
 |some (aa (.obj _))=>ab
 |some (aa e)=>aa e
 | _=>ab
def eC(d:D):FE:=λ_=>aa (.val d)
def zo(g:Ent->Option Ent)(a:FE):FE:=λb=>(a b).bind g
noncomputable def zc(g:Ent->Ent->Option Ent)(b fb:FE):FE:=λa=>(b a).bind λx=>(fb a).bind λy=>g x y
noncomputable def zR:Ent->Option Bool
 |.val (.bl b)=>aa b
 | _=>ab
def vQ(c fb:FE):FE:=λa=>((c a).bind zR).bind λb=>if b=true then fb a else aa (.val (.bl false))
def cc(c fb:FE):FE:=λa=>((c a).bind zR).bind λb=>if b=true then aa (.val (.bl true))else fb a
def k6:Ent->Option Ent:=λe=>(zR e).map λb=>.val (.bl (!b))
def zg(fe:FE):FT:=λa=>(fe a).bind zR
def w8(ft c:FT):FT:=λa=>(ft a).bind λb=>if b=true then c a else aa false
def zU(ft c:FT):FT:=λa=>(ft a).bind λb=>if b=true then aa true else c a
noncomputable def yD(ft:FT):FT:=λa=>(ft a).map λb=>!b
def yR:FT:=λ_=>aa true
noncomputable def t6(ft:FT)(c fb:FE):FE:=λa=>(ft a).bind λb=>if b=true then c a else fb a
def zd:FA:=λ_=>aa []
noncomputable def zb(fe:FE)(b:FA):FA:=λa=>(fe a).bind λx=>(b a).map λc=>x::c
def yQ(b:FA):FE:=λc=>(b c).bind λa=>if a.length<=1000 then (yn a).map λd=>.val (.tup d)else ab
def z7(b:FA):FE:=λc=>(b c).bind λa=>if a.length<=1000 then (yn a).map λd=>.own d else ab
def X7(K:ae)(r:V->Hp->VK->Prop)(g:Ent->Option Ent):Prop:=∀(b F H:Hp) (x:V) (e a:Ent) (Q:VK),Same F H->Same b H->RepR K b F H x e->g e=aa a ->
 (∀v d c,Ex F H d c->RepR K b d c v a->Q v c)->r x H Q
def sT(K:ae)(r:R2)(g:Ent->Ent->Option Ent):Prop:=∀(b F H:Hp) (x y:V) (e d a:Ent) (Q:VK),Same F H->Same b H->RepR K b F H x e->RepR K b F H y d->g e d=aa a ->
 (∀v f c,Ex F H f c->RepR K b f c v a->Q v c)->r x y H Q
def da(K:ae)(r:List V->Hp->VK->Prop)(g:List Ent->Option Ent):Prop:=∀(b F H:Hp) (d:List V) (e:List Ent) (a:Ent) (Q:VK),Same F H->Same b H->RepRs K b F H d e->g e=aa a ->
 (∀v f c,Ex F H f c->RepR K b f c v a->Q v c)->r d H Q
theorem ze{c d:Type}{o:Option c}{f:c->Option d}{b:d}(h:o.bind f=aa b):∃a,o=aa a/\f a=aa b:=by
 cases o with
 |none=>cases h
 |some a=>exact⟨a,rfl,h⟩
theorem zJ{c d:Type}{o:Option c}{f:c->d}{b:d}(h:o.map f=aa b):∃a,o=aa a/\f a=b:=by
 cases o with
 |none=>cases h
 |some a=>exact⟨a,rfl,aO h⟩
theorem jo{d:Type}{c:Prop}[Decidable c]{o:Option d}{b:d}(h:(if c then o else ab)=aa b):c/\o=aa b:=by
 by_cases a:c
 ·rw[if_pos a]at h;exact⟨a,h⟩
 ·rw[if_neg a]at h;cases h
noncomputable def yY{α:Type}(c:Prop)(a:Option α):Option α:=@ite _ c (EW c) a ab
theorem zT{b:Type}(a:Option b):yY True a=a:=by unfold yY;exact if_pos trivial
theorem sq{b:Type}{c:Prop}{a:Option b}(h:c):yY c a=a:=by unfold yY;exact if_pos h
theorem xS{d:Type}{c:Prop}{o:Option d}{b:d}(h:yY c o=aa b):c/\o=aa b:=by
 unfold yY at h;by_cases a:c
 ·rw[if_pos a]at h;exact⟨a,h⟩
 ·rw[if_neg a]at h;cases h
def sz(n:Nat):Prop:=n<=1000000
theorem yI{n:Nat}(h:n<=1000000):sz n=True:=eq_true h
def y6(X:Cx)(f:af->af->Sem af)(g:Ent->Ent->Option Ent):Prop:=∃r,yA X f r/\sT X.K r g
def de(X:Cx)(f:af->Sem af)(g:Ent->Option Ent):Prop:=∃r,qs X f r/\X7 X.K r g
def vK(X:Cx)(f:af)(g:List Ent->Option Ent):Prop:=∃r,wT X f r/\da X.K r g
def sR(X:Cx)(g:Ent->Ent->Option Ent):Prop:=∃r,u7 X r/\sT X.K r g
theorem sU{b:Bool}(h:zR e=aa b):e=.val (.bl b):=by
 cases e with
 |val d=>cases d <;> first|(cases h;rfl)|(cases h)
 | _=>cases h
theorem tM{b:Bool}(h:Rep F v (.bl b)):v=.bl b:=by cases h;rfl
theorem wf{i:Int}(h:Rep F v (.int i)):v=.int i:=by cases h;rfl
theorem xw(h:Rep F v (.str i)):v=.str i:=by cases h;rfl
theorem j6(h:Rep F v .non):v=.non:=by cases h;rfl
section
variable {X:Cx}{a b c e:Expr}{es rest:List Expr}{pos p:Pos}{fa fb fc:FE}{ft fu:FT}{fs:FA}{x:Str}
theorem vv(i:Nat)(y:X.N[i]? =aa x:=by rfl)(z:wm X.env.scope x:=by first|exact eS rfl|exact ef (eS rfl)|exact ef (ef rfl))(A:(x==("__debug__" : Str))=false:=by decide)
  (m:(x==("__classdict__" : Str))=false:=by decide):VE X (.Name x pos) (za i):=by
 refine⟨_,wv i y z A m,λB F H E G r Q s q k=>?_⟩;unfold za at q;split at q
 ·rename_i g e;cases q;obtain⟨v,n,l,j,e,f,C,_⟩:=s.ent i _ e;exact⟨v,n,k v F H (Ex.refl s.fh) ⟨l,j,e,f,C⟩⟩
 ·cases q
 ·rename_i I t u e;cases q;obtain⟨v,n,f⟩:=s.ent i _ e;refine⟨v,n,k v F H (Ex.refl s.fh) ?_⟩;cases r with
  |val d=>exact f
  |own g=>exact(t g rfl).elim
  |bor g=>obtain⟨l,j,e,h,w⟩:=f;exact⟨l,j,e,s.bh.seq h,w⟩
  |vw g=>exact f
  |obj o=>exact(u o rfl).elim
  |vwt J g=>exact f
  |bt g=>obtain⟨l,j,e,h,w⟩:=f;exact⟨l,j,e,s.bh.seqT h,w⟩
 ·cases q
theorem SemE.cst{K:ae}{v:V}{d:D}(h:∀F,Rep F v d):SemE K (tC v) (eC d):=λB F H f g r Q s q k=>by
 cases q;exact k v F H (Ex.refl s.fh) (h F)
theorem KT{i:Int}{j:Nat}:VE X (.Constant (.int i) j pos) (eC (.int i)):=⟨_,Js,.cst λ_=>.int i⟩
theorem Kx{i:Bool}{j:Nat}:VE X (.Constant (.bool i) j pos) (eC (.bl i)):=⟨_,Jl,.cst λ_=>.bl i⟩
theorem K8{j:Nat}:VE X (.Constant .none j pos) (eC .non):=⟨_,Jv,.cst λ_=>.non⟩
theorem Jg{j:Nat}:VE X (.Constant (.str i) j pos) (eC (.str i)):=⟨_,JL,.cst λ_=>.str i⟩
theorem KP{i:Int}(d:Gl X x)(h:∃u,X.mg x=aa u/\RelV (.int i) u)(f:(x==("__debug__" : Str))=false:=by decide):VE X (.Name x pos) (eC (.int i)):=⟨_,qb d h f,.cst λ_=>.int i⟩
theorem KQ(d:Gl X x)(h:∃u,X.mg x=aa u/\RelV (.str i) u)(f:(x==("__debug__" : Str))=false:=by decide):VE X (.Name x pos) (eC (.str i)):=⟨_,qb d h f,.cst λ_=>.str i⟩
theorem SemE.op{K:ae}{r:R2}{h i:TE}{g:Ent->Ent->Option Ent}(m:sT K r g)(n:SemE K h fa)(o:SemE K i fb):SemE K (uq r h i) (zc g fa fb):=λB F H j l f Q s q k=>by
 obtain⟨zo,t,q⟩:=ze q;obtain⟨zc,u,q⟩:=ze q;refine n B F H j l zo _ s t λv y z d A=>?_;refine o B y z j l zc _ (s.ext d) u λw C E x2 G=>?_;exact m H C E v w zo zc f Q x2.fh (d.trans x2).hh (A.ext x2) (G.earlier d.hh) q λI J L M N=>k I J L ((d.trans x2).trans M) N
theorem Jc{g:Ent->Ent->Option Ent}(d:y6 X (binaryOp op) g)(f:VE X a fa)(i:VE X b fb):VE X (.BinOp a op b pos) (zc g fa fb):=
 let⟨_,wa,sa⟩:=f.h;let⟨_,wb,sb⟩:=i.h;let⟨_,h1,h2⟩:=d;⟨_,XH h1 wa wb,.op h2 sa sb⟩
theorem KI{g:Ent->Ent->Option Ent}(d:y6 X (ej op) g)(f:VE X a fa)(i:VE X b fb)(j:behindInMarks op b=false):VE X (.Compare a [op] [b] pos) (zc g fa fb):=
 let⟨_,wa,sa⟩:=f.h;let⟨_,wb,sb⟩:=i.h;let⟨_,h1,h2⟩:=d;⟨_,XD h1 wa wb j,.op h2 sa sb⟩
theorem SemE.test{K:ae}{d:TE}(f:SemE K d fa):tV K (tB d) (zg fa):=λB F H g h b Q s q k=>by
 obtain⟨e,i,q⟩:=ze q;cases sU q;refine f B F H g h _ _ s i λv j l m n=>?_;exact⟨b,tM n,k j l m⟩
theorem LI{g:Ent->Ent->Option Ent}(d:y6 X (ej op) g)(f:VE X a fa)(i:VE X b fb)(j:behindInMarks op b=false):VT X (.Compare a [op] [b] pos) (zg (zc g fa fb)):=
 let⟨_,wa,sa⟩:=f.h;let⟨_,wb,sb⟩:=i.h;let⟨_,h1,h2⟩:=d;⟨_,LJ h1 wa wb j,SemE.test (.op h2 sa sb)⟩
theorem L9(h:VE X e fa)(f:∀d,isTrue e X.env d=(do let v <- d;standAt e.pos;holding [v] (truthy v)):=by intro _;rfl):VT X e (zg fa):=
 let⟨_,wa,sa⟩:=h.h;⟨_,Xo wa f,SemE.test sa⟩
theorem Ji{g:Ent->Option Ent}(l:de X (unaryOp op) g)(m:VE X a fa):VE X (.UnaryOp op a pos) (zo g fa):=by
 obtain⟨I,n,o⟩:=m.h;obtain⟨J,d,f⟩:=l;refine⟨_,JN d n,λB F H r t i Q s q k=>?_⟩;obtain⟨zo,u,q⟩:=ze q;exact o B F H r t zo _ s u λv w y j z=>f H w y v zo i Q j.fh j.hh z q λA C E x2 G=>k A C E (j.trans x2) G
theorem Jb(h:VE X a fa):VE X (.BoolOp op [a] pos) fa:=let⟨_,wa,sa⟩:=h.h;⟨_,Jy wa,sa⟩
theorem Kw(o:VE X a fa)(r:VE X (.BoolOp .And (b::rest) pos) fb):VE X (.BoolOp .And (a::b::rest) pos) (vQ fa fb):=by
 obtain⟨I,t,u⟩:=o.h;obtain⟨J,wb,w⟩:=r.h;refine⟨_,Jk t wb,λB F H i j f Q s q k=>?_⟩;obtain⟨l,g,q⟩:=ze q;obtain⟨K,g,y⟩:=ze g;cases sU y;refine u B F H i j _ _ s g λv m n d z=>⟨l,tM z,?_⟩
 cases l with
 |true=>exact uB (w B m n i j f Q (s.ext d) q λA C E x2 G=>k A C E (d.trans x2) (G.earlier d.hh))
 |false=>cases q;exact uA (k _ m n d (.bl false))
theorem Jd(o:VE X a fa)(r:VE X (.BoolOp .Or (b::rest) pos) fb):VE X (.BoolOp .Or (a::b::rest) pos) (cc fa fb):=by
 obtain⟨I,t,u⟩:=o.h;obtain⟨J,wb,w⟩:=r.h;refine⟨_,Jz t wb,λB F H i j f Q s q k=>?_⟩;obtain⟨l,g,q⟩:=ze q;obtain⟨K,g,y⟩:=ze g;cases sU y;refine u B F H i j _ _ s g λv m n d z=>⟨l,tM z,?_⟩
 cases l with
 |false=>exact uA (w B m n i j f Q (s.ext d) q λA C E x2 G=>k A C E (d.trans x2) (G.earlier d.hh))
 |true=>cases q;exact uB (k _ m n d (.bl true))
theorem K9(d:VE X a fa):VE X (.UnaryOp .Not a pos) (zo k6 fa):=by
 obtain⟨y,f,g⟩:=d.h;refine⟨_,Jw f,λB F H i j l Q s q k=>?_⟩;obtain⟨zo,m,q⟩:=ze q;obtain⟨n,o,q⟩:=zJ q;cases sU o;cases q;exact g B F H i j _ _ s m λv r t u w=>⟨n,tM w,k _ r t u (.bl _)⟩
theorem LF(d:VT X a ft):VW X (.BoolOp .And [a] pos) ft:=let⟨_,wa,sa⟩:=d.h;⟨_,LH wa,sa⟩
theorem LV(d:VT X a ft):VW X (.BoolOp .Or [a] pos) ft:=let⟨_,wa,sa⟩:=d.h;⟨_,LU wa,sa⟩
theorem Y9(n:VT X a ft)(o:VW X (.BoolOp .And (b::rest) pos) fu):VW X (.BoolOp .And (a::b::rest) pos) (w8 ft fu):=by
 obtain⟨z,r,t⟩:=n.h;obtain⟨A,wb,u⟩:=o.h;refine⟨_,LG r wb,λB F H g i d Q s q k=>?_⟩;obtain⟨j,v,q⟩:=ze q;refine t B F H g i j _ s v λl m f=>?_;cases j with
 |true=>exact uB (u B l m g i d Q (s.ext f) q λw y x2=>k w y (f.trans x2))
 |false=>cases q;exact uA (k l m f)
theorem Xh(n:VT X a ft)(o:VW X (.BoolOp .Or (b::rest) pos) fu):VW X (.BoolOp .Or (a::b::rest) pos) (zU ft fu):=by
 obtain⟨z,r,t⟩:=n.h;obtain⟨A,wb,u⟩:=o.h;refine⟨_,LS r wb,λB F H g i d Q s q k=>?_⟩;obtain⟨j,v,q⟩:=ze q;refine t B F H g i j _ s v λl m f=>?_;cases j with
 |false=>exact uA (u B l m g i d Q (s.ext f) q λw y x2=>k w y (f.trans x2))
 |true=>cases q;exact uB (k l m f)
theorem Kc(h:VW X a ft):VT X a ft:=let⟨_,wa,sa⟩:=h.h;⟨_,tw wa,sa⟩
theorem LN(d:VT X a ft):VT X (.UnaryOp .Not a pos) (yD ft):=by
 obtain⟨u,f,g⟩:=d.h;refine⟨_,Xe f,λB F H i j l Q s q k=>?_⟩;obtain⟨m,n,q⟩:=zJ q;cases q;exact g B F H i j m _ s n λo r t=>k o r t
theorem KS(u:VT X c ft)(v:VE X a fa)(w:VE X b fb):VE X (.IfExp c a b pos) (t6 ft fa fb):=by
 obtain⟨tc,y,sc⟩:=u.h;obtain⟨G,z,A⟩:=v.h;obtain⟨I,wb,C⟩:=w.h;refine⟨_,Jp y z wb,λB F H g i f Q s q k=>?_⟩;obtain⟨o,E,q⟩:=ze q;refine sc B F H g i o _ s E λr t d=>?_;cases o with
 |true=>exact uB (A B r t g i f Q (s.ext d) q λj l m x2 n=>k j l m (d.trans x2) (n.earlier d.hh))
 |false=>exact uA (C B r t g i f Q (s.ext d) q λj l m x2 n=>k j l m (d.trans x2) (n.earlier d.hh))
theorem UF:VTs X [] yR:=⟨_,UH,λB F H d f b Q s q k=>by cases q;exact k F H (Ex.refl s.fh)⟩
theorem UG(h:VT X c ft):VTs X [c] ft:=let⟨_,wc,sc⟩:=h.h;⟨_,UI wc,sc⟩
theorem K7:VA X [] zd:=⟨_,uJ,λB F H d f g Q s q k=>by cases q;exact k [] F H (Ex.refl s.fh) .nil⟩
theorem KJ(j:VE X e fa)(l:VA X es fs)(h:zK e=true:=by rfl):VA X (e::es) (zb fa fs):=by
 obtain⟨E,m,n⟩:=j.h;obtain⟨G,wb,o⟩:=l.h;refine⟨_,vZ m wb h,λB F H g i I Q s q k=>?_⟩;obtain⟨zo,r,q⟩:=ze q;obtain⟨d,t,q⟩:=zJ q;cases q;refine n B F H g i zo _ s r λv u w f y=>?_;exact o B u w g i d _ (s.ext f) t λJ z A x2 C=>k _ z A (f.trans x2) (.cons (y.ext x2) (C.earlier f.hh))
theorem cD{n:Nat}(h:n<=1000):n<=aS:=eE (MY h)
theorem Jh{d:Nat}(h:VA X es fs):VE X (.Tuple es d pos) (yQ fs):=by
 obtain⟨t,w,i⟩:=h.h;refine⟨_,JM w,λB F H j l m Q s q k=>?_⟩;obtain⟨n,o,q⟩:=ze q;split at q
 ·rename_i r;obtain⟨y,u,q⟩:=zJ q;cases q;refine i B F H j l n _ s o λz A C d f=>⟨by rw[f.length];exact cD r,λp g=>?_⟩
  obtain⟨E,x2,_,v⟩:=RepRs.frz d (Same.refl _) f u;exact k _ _ _ (x2.trans (Ex.alloc x2.fh g)) (.tup yz (v.mono (Same.alloc (x2.fh.free g))))
 ·cases q
theorem K4(h:VA X es fs):VE X (.List es pos) (z7 fs):=by
 obtain⟨t,w,g⟩:=h.h;refine⟨_,Ju w,λB F H i j l Q s q k=>?_⟩;obtain⟨m,n,q⟩:=ze q;split at q
 ·rename_i o;obtain⟨z,r,q⟩:=zJ q;cases q;refine g B F H i j m _ s n λu A C v f=>⟨by rw[f.length];exact cD o,λp d=>?_⟩
  obtain⟨E,x2,_,y⟩:=RepRs.frz v (Same.refl _) f r;exact k _ _ _ (x2.trans (Ex.lay x2.fh d)) ⟨p,u,rfl,x2.hh.free d,yz,y,x2.fh.free d⟩
 ·cases q
theorem KW{g:Ent->Ent->Option Ent}(d:sR X g)(f:VE X a fa)(i:VE X b fb)(j:kr b):VE X (.Subscript a b pos) (zc g fa fb):=
 let⟨_,wa,sa⟩:=f.h;let⟨_,wb,sb⟩:=i.h;let⟨_,h1,h2⟩:=d;⟨_,XG h1 wa wb j,.op h2 sa sb⟩
def zm(g:List Ent->Option Ent)(fs:FA):FE:=λd=>(fs d).bind g
theorem SemE.cb{K:ae}{t:TA}{q:List V->Hp->VK->Prop}{g:List Ent->Option Ent}(i:da K q g)(j:tU K t fs):SemE K (pM q t) (zm g fs):=λB F H l m d Q s q k=>by
 obtain⟨h,n,q⟩:=ze q;exact j B F H l m h _ s n λo r u f v=>i H r u o h d Q f.fh f.hh v q λw y z x2 A=>k w y z (f.trans x2) A
theorem KA{id:String}{g:List Ent->Option Ent}(f:vK X (.builtin id) g)(i:Gl X x)(j:X.mg x=ab)(k:eg x=aa (.builtin id))(l:VA X (e::es) fs)(hn:x≠ "__name__" :=by decide)(d:(x==("__debug__" : Str))=false:=by decide)
  (h1:zK e=true:=by rfl) (m:es.all zK=true:=by rfl):VE X (.Call (.Name x p) (e::es) [] pos) (zm g fs):=
 let⟨_,wa,sa⟩:=l.h;let⟨_,h3,h4⟩:=f;⟨_,XB h3 i j k wa hn d h1 m,.cb h4 sa⟩
theorem KL{T:String}{g:List Ent->Option Ent}(f:vK X (.type T) g)(i:Gl X x)(j:X.mg x=ab)(k:eg x=aa (.type T))(l:VA X (e::es) fs)(hn:x≠ "__name__" :=by decide)(d:(x==("__debug__" : Str))=false:=by decide)
  (h1:zK e=true:=by rfl) (m:es.all zK=true:=by rfl):VE X (.Call (.Name x p) (e::es) [] pos) (zm g fs):=
 let⟨_,wa,sa⟩:=l.h;let⟨_,h3,h4⟩:=f;⟨_,Jn h3 i j k wa hn d h1 m,.cb h4 sa⟩
end
end L3

namespace L3
open PySem PySem.Spec PyProof.Rows L2
inductive Out where
 |nx (δ:En)|rt (r:Ent) (δ:En)|bk (δ:En)|ct (δ:En)
abbrev FS:=En->Option Out
structure FX(B F F':Hp):Prop where
 ff:Same F F'
 nw:∀a o,B a=aa o->vB o=false->F' a=F a
section
variable {K:ae}{B:Bd}{F H F' H' F2 H2 H0:Hp}{σ:Sg}{δ:En}{v:V}{d:D}{e:Ent}{l:ah}{vs:List V}{ds:List D}{DD:Ends}{out:Out}
theorem FX.refl:FX B F F:=⟨Same.refl F,λ_ _ _ _=>rfl⟩
theorem FX.trans(a:FX B F F')(b:FX B F' F2):FX B F F2:=⟨a.ff.trans b.ff,λx o e t=>(b.nw x o e t).trans (a.nw x o e t)⟩
theorem FX.of(x:Ex F H F' H')(s:Same B H):FX B F F':=⟨x.ff,λa o e t=>x.nw a o (s _ _ e) t⟩
def EndOk(K:ae)(B:Bd)(F:Hp)(DD:Ends):Out->Prop
 |.nx b=>∀a F' H',RS K B F' H' a b->FX B F F'->DD.nx a H'
 |.rt r b=>∀v a F' H',RS K B F' H' a b->FX B F F'->RepR K B F' H' v r->DD.rt v H'
 |.bk b=>∀a F' H',RS K B F' H' a b->FX B F F'->DD.bk a H'
 |.ct b=>∀a F' H',RS K B F' H' a b->FX B F F'->DD.ct a H'
theorem EndOk.mono(h:EndOk K B F DD out)(x:FX B F F'):EndOk K B F' DD out:=by
 cases out with
 |nx b=>exact λa F2 H2 s y=>h a F2 H2 s (x.trans y)
 |rt r b=>exact λv a F2 H2 s y z=>h v a F2 H2 s (x.trans y) z
 |bk b=>exact λa F2 H2 s y=>h a F2 H2 s (x.trans y)
 |ct b=>exact λa F2 H2 s y=>h a F2 H2 s (x.trans y)
theorem RS.put(s:RS K B F H σ δ)(i:Nat)(r:RepN K B F H v e)(C:e.lk=true->∀j t,j≠i->δ[j]? =aa (aa t)->t.lk=true->∀l,v=.ref l->σ[j]?≠aa (aa (.ref l)))
  (I:e.isO=true->0<i\/(∀p,B.pin≠aa p)\/B.pin=aa v) (E:∀j t w a,j≠i->δ[j]? =aa (aa t)->σ[j]? =aa (aa w)->(e.isO=true\/t.isO=true)->Occ K F H v e a->Occ K F H w t a->False) :
  RS K B F H (σ.set i (aa v)) (δ.set i (aa e)):=by
 have O:=s.len;refine⟨s.fh,s.bh,by simp[O],λj t h=>?_,λa b l ds t f g m c n q=>?_,λa b P Q R S J f g m c n q L M=>?_,λw o N A=>?_⟩
 ·rw[eA]at h ⊢;by_cases G:i=j
  ·subst G;rw[if_pos rfl]at h ⊢;by_cases k:i<δ.length
   ·rw[if_pos k]at h;cases h;exact⟨v,by rw[if_pos (by lia)],r⟩
   ·rw[if_neg k]at h;cases h
  ·rw[if_neg G]at h ⊢;exact s.ent j t h
 ·rw[eA]at g m c q;by_cases u:i=a
  ·subst u;rw[if_pos rfl]at g m;rw[if_neg f]at c q;by_cases k:i<δ.length
   ·rw[if_pos k]at g;rw[if_pos (by lia)]at m;cases g;cases m;exact C rfl b t (iM f) c n l rfl q
   ·rw[if_neg k]at g;cases g
  ·rw[if_neg u]at g m;by_cases y:i=b
   ·subst y;rw[if_pos rfl]at c q;by_cases k:i<δ.length
    ·rw[if_pos k]at c;rw[if_pos (by lia)]at q;cases c;cases q;exact C n a _ f g rfl l rfl m
    ·rw[if_neg k]at c;cases c
   ·rw[if_neg y]at c q;exact s.ap a b l ds t f g m c n q
 ·rw[eA]at g m c n;by_cases u:i=a
  ·subst u;rw[if_pos rfl]at g m;rw[if_neg f]at c n;by_cases k:i<δ.length
   ·rw[if_pos k]at g;rw[if_pos (by lia)]at m;cases g;cases m;exact E b _ _ J (iM f) c n (.inl q) L M
   ·rw[if_neg k]at g;cases g
  ·rw[if_neg u]at g m;by_cases y:i=b
   ·subst y;rw[if_pos rfl]at c n;by_cases k:i<δ.length
    ·rw[if_pos k]at c;rw[if_pos (by lia)]at n;cases c;cases n;exact E a _ _ J f g m (.inr q) M L
    ·rw[if_neg k]at c;cases c
   ·rw[if_neg y]at c n;exact s.ao a b P Q R S J f g m c n q L M
 ·rw[eA]at A ⊢;by_cases k:i=0
  ·subst k;rw[if_pos rfl]at A ⊢;split at A
   ·cases A;rw[if_pos (by lia)];rcases I rfl with z|z|z
    ·lia
    ·exact absurd N (z w)
    ·rw[N]at z;exact congrArg (λx=>aa x) z.symm
   ·cases A
  ·rw[if_neg k]at A ⊢;exact s.pn w o N A
theorem RS.putV(s:RS K B F H σ δ)(i:Nat)(r:Rep F v d):RS K B F H (σ.set i (aa v)) (δ.set i (aa (.val d))):=s.put i r (λh=>by cases h) (λh=>by cases h) λ_ _ _ _ _ _ _ _ h _=>h
theorem RS.drop(s:RS K B F H σ δ)(i:Nat):RS K B F H σ (δ.set i ab):=by
 refine⟨s.fh,s.bh,by simp[s.len],λj e h=>?_,λa b l ds e g c m f n=>?_,λa b p q r t u g c m f n x y z=>?_,λw o A k=>?_⟩
 ·rw[eA]at h;split at h
  ·split at h <;> cases h
  ·exact s.ent j e h
 ·rw[eA]at c f;split at c
  ·split at c <;> cases c
  ·split at f
   ·split at f <;> cases f
   ·exact s.ap a b l ds e g c m f n
 ·rw[eA]at c f;split at c
  ·split at c <;> cases c
  ·split at f
   ·split at f <;> cases f
   ·exact s.ao a b p q r t u g c m f n x y z
 ·rw[eA]at k;split at k
  ·split at k <;> cases k
  ·exact s.pn w o A k
theorem RS.lies{i:Nat}(s:RS K B F H σ δ)(h:δ[i]? =aa (aa e))(k:e.lk=true)(q:σ[i]? =aa (aa (.ref l))):∃o,H l=aa o:=by
 obtain⟨v,b,c⟩:=s.ent i e h;rw[q]at b;cases b;cases e with
 |own ds=>obtain⟨f,vs,e,a,_⟩:=c;cases e;exact⟨_,a⟩
 |vw ds=>obtain⟨f,vs,e,a,_⟩:=c;cases e;exact⟨_,a⟩
 | _=>cases k
noncomputable def yd:Ent->Option Ent
 |.val d=>aa (.val d)
 |.own ds=>aa (.own ds)
 | _=>ab
theorem RS.putR(s:RS K B F H σ δ)(x:Ex F H F' H')(i:Nat)(r:RepR K H F' H' v e)(q:yd e=aa h):RS K B F' H' (σ.set i (aa v)) (δ.set i (aa h)):=by
 cases e with
 |val d=>cases q;exact(s.ext x).putV i r
 |own ds=>
  cases q;obtain⟨l,vs,e,k,n,p,t⟩:=r;refine(s.ext x).put i ⟨l,vs,e,n,p,t,s.bh.free k⟩ (λ_ j h _ b c y zc f=>?_) (λz=>by cases z) λj h w a _ b c _ f g=>?_
  ·rw[e]at zc;cases zc;obtain⟨o,g⟩:=s.lies b c f;rw[k]at g;cases g
  ·obtain⟨u,m⟩:=s.occ b c (g.backX (s.at b c) x);rw[e]at f;cases (show V.ref l=.ref a from f);rw[k]at m;cases m
 | _=>cases q
theorem RS.putO{o:OT}(s:RS K B F H σ δ)(x:Ex F H F' H')(i:Nat)(m:0<i)(r:RepR K H F' H' v (.obj o)):RS K B F' H' (σ.set i (aa v)) (δ.set i (aa (.obj o))):=by
 obtain⟨_,A,t,n,h⟩:=r;refine(s.ext x).put i ⟨A,t,n,λa c=>⟨(h a c).1,s.bh.free (h a c).2⟩⟩ (λz=>by cases z) (λ_=>.inl m) λj y w a _ f g _ b p=>?_;obtain⟨u,k⟩:=s.occ f g (p.backX (s.at f g) x);obtain⟨C,q,b⟩:=b;rw[q.det t]at b;rw[(h a b).2]at k;cases k
theorem RS.mut{i:Nat}(s:RS K B F H σ δ)(hi:δ[i]? =aa (aa (.own ds)))(y:σ[i]? =aa (aa (.ref l)))(r:Reps F vs' ds'):RS K B F (zp H l (.lst vs')) σ (δ.set i (aa (.own ds'))):=by
 obtain⟨v,U,l',vs,e,h2,h3,Y,Z⟩:=s.ent i _ hi;rw[y]at U;cases U;cases e;have mv:∀(j:Nat) (w:V) (o:OT) (A:List ah),i≠j->δ[j]? =aa (aa (.obj o))->σ[j]? =aa (aa w)->TR K F H w o A->TR K F (zp H l (.lst vs')) w o A:=λj w o A c q q' t=>
  t.move (Same.refl F) λa P=>zX λz=>by subst z;exact s.ao j i _ _ _ _ a (iM c) q q' hi y rfl ⟨A,t,P⟩ rfl
 have mt:∀(w:V) (C:List (List KN)) (u:List D) (A:List ah),TR K F H w (.dcT C u) A->TR K F (zp H l (.lst vs')) w (.dcT C u) A:=λw C u A t=>t.move (Same.refl F) λa P=>zX λz=>by
  subst z;cases t with
  |dcT e _ _ _=>
   cases aL.mp P;rw[h2]at e;cases e
 refine⟨λb o q=>?_,λb o q=>?_,by simp[s.len],λj e q=>?_,λa b E u e' f g x m G=>?_,λa b L e2 M v2 ad f g x m G Q q6 q7=>?_,λw o hw I=>?_⟩
 ·rw[zX (vm q Y)];exact s.fh b o q
 ·rw[zX (vm q Z)];exact s.bh b o q
 ·rw[eA]at q;by_cases c:i=j
  ·subst c;rw[if_pos rfl]at q;split at q
   ·cases q;exact⟨_,y,l,vs',rfl,yz,r,Y,Z⟩
   ·cases q
  ·rw[if_neg c]at q;obtain⟨w,N,J⟩:=s.ent j e q;refine⟨w,N,?_⟩;cases e with
   |val d=>exact J
   |bor ds=>exact J
   |own u=>
    obtain⟨E,R,zc,S,T,p5,p6⟩:=J;refine⟨E,R,zc,?_,T,p5,p6⟩;rw[zX (λz=>s.ap i j l ds _ c hi y q rfl (by rw[N,zc,z]))];exact S
   |vw u=>
    obtain⟨E,R,zc,S,T⟩:=J;refine⟨E,R,zc,?_,T⟩;rw[zX (λz=>s.ap i j l ds _ c hi y q rfl (by rw[N,zc,z]))];exact S
   |obj o=>
    obtain⟨A,t,n,h⟩:=J;exact⟨A,mv j w o A c q N t,n,h⟩
   |vwt C u=>obtain⟨A,t⟩:=J;exact⟨A,mt w C u A t⟩
   |bt ds=>exact J
 ·rw[eA]at g m;by_cases k:i=a
  ·subst k;rw[if_neg f]at m;exact s.ap i b E ds e' f hi x m G
  ·rw[if_neg k]at g;by_cases p:i=b
   ·subst p;exact s.ap a i E u _ f g x hi rfl
   ·rw[if_neg p]at m;exact s.ap a b E u e' f g x m G
 ·rw[eA]at g m;have bk:∀(j:Nat) (e:Ent) (w:V),i≠j->δ[j]? =aa (aa e)->σ[j]? =aa (aa w)->Occ K F (zp H l (.lst vs')) w e ad->Occ K F H w e ad:=λj e w c z1 z2 z3=>z3.back (s.at z1 z2) λo A O t=>by
   rcases O with O|⟨C,u,O,I⟩
   ·subst O;exact mv j w o A c z1 z2 t
   ·subst I;exact mt w C u A t
  by_cases k:i=a
  ·subst k;rw[if_pos rfl]at g;split at g
   ·cases g;cases Q
   ·cases g
  ·rw[if_neg k]at g;by_cases p:i=b
   ·subst p;rw[if_pos rfl]at m;split at m
    ·cases m;rw[y]at G;cases G;exact s.ao a i L _ M _ ad f g x hi y Q (bk a L M k g x q6) q7
    ·cases m
   ·rw[if_neg p]at m;exact s.ao a b L e2 M v2 ad f g x m G Q (bk a L M k g x q6) (bk b e2 v2 p m G q7)
 ·rw[eA]at I;split at I
  ·split at I <;> cases I
  ·exact s.pn w o hw I
end
def SemS(K:ae)(t:TS)(f:FS):Prop:=∀(B:Bd) (F H:Hp) (b:Sg) (c:En) (a:Out) (d:Ends),RS K B F H b c->f c=aa a->EndOk K B F d a->t d b H
structure VS(X:Cx)(s:Stmt)(f:FS):Prop where
 h:∃t,WS X s t/\SemS X.K t f
structure VSs(X:Cx)(s:List Stmt)(f:FS):Prop where
 h:∃t,WSs X s t/\SemS X.K t f
def zM:FS:=λa=>aa (.nx a)
def t9:FS:=λ_=>ab
noncomputable def ym(g:FS):Out->Option Out
 |.nx a=>g a
 |o=>aa o
def zf(f g:FS):FS:=λa=>(f a).bind (ym g)
def zq(i:Nat)(fe:FE):FS:=λa=>(fe a).bind λr=>(yd r).map λe=>.nx (a.set i (aa e))
noncomputable def zI(ft:FT)(f g:FS):FS:=λa=>(ft a).bind λb=>if b=true then f a else g a
def zn(fe:FE):FS:=λa=>(fe a).bind λr=>(yd r).map λe=>.rt e a
noncomputable def wN(i:Nat):FS:=λa=>match a[i]? with
 |some (aa (.own b))=>aa (.rt (.own b) (a.set i ab))
 |some (aa (.val d))=>aa (.rt (.val d) a)
 | _=>ab
noncomputable def xO(i:Nat)(fe:FE):FS:=λa=>match a[i]? with
 |some (aa (.own b))=>((fe a).bind zL).bind λd=>yY (sz (b.length+1)) (aa (.nx (a.set i (aa (.own (b++[d]))))))
 | _=>ab
noncomputable def zr:Ent->Option Int
 |.val (.int i)=>aa i
 | _=>ab
theorem wz{i:Int}(h:zr e=aa i):e=.val (.int i):=by
 cases e with
 |val d=>cases d <;> first|(cases h;rfl)|(cases h)
 | _=>cases h
def rf(i:Nat)(fi fe:FE):FS:=λa=>match a[i]? with
 |some (aa (.own b))=>((fe a).bind zL).bind λd=>((fi a).bind zr).bind λk=>(vC b.length k).map λj=>.nx (a.set i (aa (.own (b.set j d))))
 | _=>ab
abbrev FG:=D->En->Option En
noncomputable def rP(b:En->Option Out):Out->Option Out
 |.nx a=>b a
 |.ct a=>b a
 |.bk a=>aa (.nx a)
 |o=>aa o
noncomputable def loop(tg:FG)(f:FS):List D->En->Option Out
 |[],a=>aa (.nx a)
 |d::c,a=>(tg d a).bind λb=>(f b).bind (rP (loop tg f c))
abbrev FI:=En->Option (List D)
def ye(fi:FI)(tg:FG)(f:FS):FS:=λa=>(fi a).bind λb=>loop tg f b a
noncomputable def vc(c:FT)(f:FS):Nat->En->Option Out
 |0,_=>ab
 |n+1,a=>(c a).bind λb=>if b=true then (f a).bind (rP (vc c f n))else aa (.nx a)
noncomputable def zN(i:Nat):FG:=λd a=>aa (a.set i (aa (.val d)))
abbrev tS:=List D->En->Option En
def wQ:tS:=λa b=>match a with
 |[]=>aa b
 | _=>ab
noncomputable def yO(g:FG)(a:tS):tS:=λb c=>match b with
 |d::r=>(g d c).bind (a r)
 |[]=>ab
def wW(a:tS):FG:=λd b=>match d with
 |.tup c=>a c b
 | _=>ab
def db(K:ae)(g:TG)(tg:FG):Prop:=∀(B:Bd) (F H:Hp) (c:Sg) (e a:En) (v:V) (d:D) (Q:L2.St->Hp->Prop),RS K B F H c e->Rep F v d->tg d e=aa a->(∀b,RS K B F H b a->Q b H)->g v c H Q
def X3(K:ae)(g:uK)(tg:tS):Prop:=∀(B:Bd) (F H:Hp) (c:Sg) (d a:En) (e:List V) (f:List D) (Q:L2.St->Hp->Prop),RS K B F H c d->Reps F e f->tg f d=aa a->(∀b,RS K B F H b a->Q b H)->g e c H Q
structure VG(X:Cx)(e:Expr)(f:FG):Prop where
 h:∃t,WG X e t/\db X.K t f
structure VGs(X:Cx)(es:List Expr)(f:tS):Prop where
 h:∃t,WGs X es t/\X3 X.K t f
def v4(B c:Hp)(J:It)(ds:List D):Prop:=∀F H,Same c F->Same F H->Same B H->J.stop ds.length H/\∀(i:Nat) (d:D),ds[i]? =aa d->J.go i H/\∀x a,J.yld i H x a->∃b,Ex F H b a/\Rep b x d
def nv(K:ae)(t:TI)(fi:FI):Prop:=∀(B:Bd) (F H:Hp) (a:Sg) (b:En) (c:List D) (R:It->Hp->Prop),RS K B F H a b->fi b=aa c->(∀J d e,Ex F H d e->v4 B d J c->R J e)->t a H R
structure VI(X:Cx)(tg e:Expr)(f:FI):Prop where
 h:∃t,WI X tg e t/\nv X.K t f
section
variable {X:Cx}{e c tg iter:Expr}{es:List Expr}{pos pos' p:Pos}{fe fa:FE}{ft:FT}{x:Str}{st:Stmt}{sr body els:List Stmt}{f g:FS}{fi:FI}{tgf:FG}{tgs:tS}
theorem Lc:VSs X [] zM:=⟨_,s0,λB F H a d b h s q k=>by cases q;exact k a F H s FX.refl⟩
theorem Le(h:VS X st f):VSs X [st] f:=let⟨_,w,s⟩:=h.h;⟨_,s1 w,s⟩
theorem Lg(h1:VS X st f)(i:VSs X sr g):VSs X (st::sr) (zf f g):=by
 obtain⟨t,j,l⟩:=h1.h;obtain⟨u,m,n⟩:=i.h;refine⟨_,sc j m,λB F H v w b z s q k=>?_⟩;obtain⟨o,A,q⟩:=ze q;refine l B F H v w o _ s A ?_;cases o with
 |nx a=>exact λd C E G y=>n B C E d a b z G q (k.mono y)
 |rt r a=>cases q;exact k
 |bk a=>cases q;exact k
 |ct a=>cases q;exact k
theorem Mn:VS X st t9:=⟨_,MZ,λB F H b d a h s q k=>by cases q⟩
theorem Lf:VSs X sr t9:=⟨_,Li,λB F H b d a h s q k=>by cases q⟩
theorem SemE.ret{K:ae}{t:TE}(m:SemE K t fe):SemS K (gi t) (zn fe):=λB F H b h i o s q k=>by
 obtain⟨r,j,q⟩:=ze q;obtain⟨e,a,q⟩:=zJ q;cases q;refine m B F H b h r _ s j λv l n x z=>k v b l n (s.ext x) (.of x s.bh) ?_;cases r with
 |val d=>cases a;exact z
 |own u=>cases a;exact RepR.earlier z s.bh
 | _=>cases a
theorem Mo(a:VE X e fe):VS X (.Return (aa e) pos) (zn fe):=let⟨_,w,m⟩:=a.h;⟨_,hV w,m.ret⟩
theorem Mp(i:Nat)(m:X.N[i]? =aa x:=by rfl)(n:wm X.env.scope x:=by first|exact eS rfl|exact ef (eS rfl)|exact ef (ef rfl))(o:(x==("__debug__" : Str))=false:=by decide)
  (a:(x==("__classdict__" : Str))=false:=by decide):VS X (.Return (aa (.Name x p)) pos) (wN i):=by
 refine⟨_,hV (wv i m n o a),λB F H j A r C s q k=>?_⟩;unfold wN at q;split at q
 ·rename_i E e;cases q;obtain⟨v,b,h⟩:=s.ent i _ e;refine⟨v,b,k v j F H (s.drop i) .refl ?_⟩;obtain⟨l,t,e,u,w,y,z⟩:=h;exact⟨l,t,e,z,u,w,y⟩
 ·rename_i d e;cases q;obtain⟨v,b,h⟩:=s.ent i _ e;exact⟨v,b,k v j F H s .refl h⟩
 ·cases q
theorem Ml(o:VT X c ft)(r:VSs X body f)(u:VSs X els g):VS X (.If c body els pos) (zI ft f g):=by
 obtain⟨t,w,m⟩:=o.h;obtain⟨E,v,y⟩:=r.h;obtain⟨G,z,A⟩:=u.h;refine⟨_,Ys w v z,λB F H d i a j s q k=>?_⟩;obtain⟨b,C,q⟩:=ze q;refine m B F H d i b _ s C λl n x=>?_;cases b with
 |true=>exact uB (y B l n d i a j (s.ext x) q (k.mono (.of x s.bh)))
 |false=>exact uA (A B l n d i a j (s.ext x) q (k.mono (.of x s.bh)))
theorem SemE.set{K:ae}{t:TE}(i:Nat)(m:SemE K t fe):SemS K (sJ t (uS i)) (zq i fe):=λB F H a b d o s q k=>by
 obtain⟨r,h,q⟩:=ze q;obtain⟨e,j,q⟩:=zJ q;cases q;exact m B F H a b r _ s h λv l n x z=>k _ l n (s.putR x i z j) (.of x s.bh)
theorem Mr{i:Nat}(a:X.N.Nodup)(hi:X.N[i]? =aa x)(b:vp X.env.scope x)(d:VE X e fe)(j:swapsWith e (aa (.Name x pos')) pos.line X.env=pure false:=by rfl)(k:X.fn x=true\/X.env.scope.names.lookup x=aa .local:=by first|exact .inl rfl|exact .inr rfl|assumption) :
  VS X (.Assign [.Name x pos'] e pos) (zq i fe):=let⟨_,w,m⟩:=d.h;⟨_,YA a hi b w j k,m.set i⟩
def cz(tg:FG)(fe:FE):FS:=λa=>((fe a).bind zL).bind λd=>(tg d a).map .nx
theorem N6(o:VE X e fe)(u:VG X tg tgf)(y:swapsWithSole [tg] e pos.line X.env=pure false:=by rfl)(A:swappedStores [tg] e X.env=pure ab:=by rfl)(h1:(iE [tg] X.env).map (·.2)=[assign tg X.env]:=by rfl):VS X (.Assign [tg] e pos) (cz tgf fe):=by
 obtain⟨t,w,m⟩:=o.h;obtain⟨O,C,E⟩:=u.h;refine⟨_,hE w C y A h1,λB F H i j G P s q k=>?_⟩;obtain⟨d,I,q⟩:=ze q;obtain⟨a,J,q⟩:=zJ q;obtain⟨r,K,L⟩:=ze I;cases q;refine m B F H i j r _ s K λv Q l x z=>?_;obtain⟨n,x2,_,M⟩:=RepR.frz x (Same.refl _) z L;exact E B n l i j a v d _ (s.ext x2) M J λb N=>k b n l N (.of x2 s.bh)
theorem Um{i:Nat}(a:X.N.Nodup)(hi:X.N[i]? =aa x)(b:vp X.env.scope x)(h:X.fn x=true\/X.env.scope.names.lookup x=aa .local:=by first|exact .inl rfl|exact .inr rfl|assumption):VG X (.Name x pos) (zN i):=
 ⟨_,gn a hi b h,λB F H l m j v d Q s r q k=>by cases q;exact k _ (s.putV i r)⟩
theorem Uo:VGs X [] wQ:=⟨_,Ur,λB F H a d b h i Q s r q k=>by
 cases r with
 |nil=>cases q;exact⟨rfl,k a s⟩
 |cons _ _=>cases q⟩
theorem Uq(h1:VG X e tgf)(i:VGs X es tgs)(j:(iE (e::es) X.env).map (·.2)=assign e X.env::(iE es X.env).map (·.2):=by rfl):VGs X (e::es) (yO tgf tgs):=by
 obtain⟨t,w,m⟩:=h1.h;obtain⟨C,l,n⟩:=i.h;refine⟨_,mF w l j,λB F H o u b E G Q s r q k=>?_⟩;cases r with
 |nil=>cases q
 |cons v y=>
  obtain⟨a,z,q⟩:=ze q;exact⟨_,_,rfl,m B F H o u a _ _ _ s v z λd A=>n B F H d a b _ _ _ A y q k⟩
theorem Us{k n:Nat}(o:X.calm=true)(h:VGs X es tgs)(hn:(iE es X.env).length=n:=by rfl)(j:(iE es X.env).findIdx? (·.1)=ab:=by rfl)(u:∀b i a,tgs b i=aa a->b.length=n:=by intro b i a h;match b,h with|[_],_=>rfl|[_,_],_=>rfl|[_,_,_],_=>rfl|[_,_,_,_],_=>rfl):VG X (.Tuple es k pos) (wW tgs):=by
 obtain⟨t,w,m⟩:=h.h;refine⟨_,gt o w hn j,λB F H y i a v d Q s r q k=>?_⟩;cases d with
 |tup b=>
  cases r with
  |tup e l=>exact⟨_,_,rfl,SqT.of (s.fh _ _ e),by rw[l.length];exact u _ _ _ q,m B F H y i a _ b _ s l q k⟩
 | _=>cases q
theorem SemS.for{K:ae}{T:TI}{g:TG}{U:TS}(mi:nv K T fi)(mg:db K g tgf)(mb:SemS K U f):SemS K (gh T g U) (ye fi tgf f):=λB F H σ Y out DD s q k=>by
 obtain⟨b,q1,q⟩:=ze q;refine mi B F H σ Y b _ s q1 λJ E H1 Z io=>?_;have P:EndOk K B E DD out:=k.mono (.of Z s.bh);refine⟨λi m l N=>m=b.length-i/\i<=b.length/\∃t a,RS K B t N l a/\FX B E t/\loop tgf f (b.drop i) a=aa out,⟨_,rfl,aM _,E,Y,s.ext Z,.refl,q⟩,?_⟩;rintro i m l N ⟨rfl,hi,t,a,G,Q,d⟩;obtain⟨u,R⟩:=io t N Q.ff G.fh G.bh;by_cases n:i<b.length
 ·right;have hd:b[i]? =aa b[i]:=by simp[n]
  obtain⟨g1,g2⟩:=R i _ hd;rw[ey n]at d;obtain⟨I,q2,d⟩:=ze d;obtain⟨o,q3,d⟩:=ze d;refine⟨g1,λL C=>b.length-(i+1)=b.length-(i+1)/\i+1<=b.length/\∃t a,RS K B t C L a/\FX B E t/\loop tgf f (b.drop (i+1)) a=aa out,λL C hN=>⟨_,by lia,hN⟩,λv C yl=>?_⟩;obtain⟨F2,x2,r2⟩:=g2 v C yl;refine mg B F2 C l a I v _ _ (G.ext x2) r2 q2 λS s3=>?_;have O:FX B E F2:=Q.trans (.of x2 G.bh)
  refine mb B F2 C S I o _ s3 q3 ?_;cases o with
  |nx h=>exact λj w M y A=>⟨rfl,n,w,h,y,O.trans A,d⟩
  |ct h=>exact λj w M y A=>⟨rfl,n,w,h,y,O.trans A,d⟩
  |bk h=>cases d;exact λj w M y A=>P j w M y (O.trans A)
  |rt r h=>cases d;exact λv j w M y A z=>P v j w M y (O.trans A) z
 ·left;have e:i=b.length:=by lia
  subst e;rw[Ba]at d;cases d;exact⟨u,P l t N G Q⟩
theorem Mi(hi:VI X tg iter fi)(a:VG X tg tgf)(b:VSs X body f)(d:PassesOwn (model X.prog X.w) X.A X.env X.xe:=by exact Cz)(i:X.calm=true:=by rfl)(j:∀z,eP iter X.env z=pure z:=by intro _;rfl):VS X (.For tg iter body [] pos) (ye fi tgf f):=
 let⟨_,wi,mi⟩:=hi.h;let⟨_,wg,mg⟩:=a.h;let⟨_,wb,mb⟩:=b.h;⟨_,ML d i wi wg wb j,.for mi mg mb⟩
theorem Mv(n:Nat)(Q:VT X c ft)(R:VSs X body f)(S:PassesOwn (model X.prog X.w) X.A X.env X.xe:=by exact Cz):VS X (.While c body [] pos) (vc ft f n):=by
 obtain⟨tc,T,U⟩:=Q.h;obtain⟨tb,wb,Y⟩:=R.h;refine⟨_,Lv S T wb,λB F H σ Z E DD s q k=>?_⟩;refine⟨λm d M=>∃t a,RS X.K B t M d a/\FX B F t/\vc ft f m a=aa E,⟨n,F,Z,s,.refl,q⟩,?_⟩;rintro m d M ⟨t,a,L,y',l⟩;cases m with
 |zero=>cases l
 |succ m=>
  obtain⟨b,q1,l⟩:=ze l;refine U B t M d a b _ L q1 λF1 O N=>?_;have G:FX B F F1:=y'.trans (.of N L.bh)
  cases b with
  |false=>cases l;exact uA (k d F1 O (L.ext N) G)
  |true=>
   refine uB ?_;obtain⟨o,q3,l⟩:=ze l;refine⟨λI P=>∃t a,RS X.K B t P I a/\FX B F t/\vc ft f m a=aa E,λI P hN=>⟨m,Az m,hN⟩,?_⟩;refine Y B F1 O d a o _ (L.ext N) q3 ?_;cases o with
   |nx i=>exact λj u J y C=>⟨u,i,y,G.trans C,l⟩
   |ct i=>exact λj u J y C=>⟨u,i,y,G.trans C,l⟩
   |bk i=>cases l;exact λj u J y C=>k j u J y (G.trans C)
   |rt r i=>cases l;exact λv j u J y C z=>k v j u J y (G.trans C) z
theorem N5(i:Nat){a b:Pos}(I:VE X e fe)(J:X.N[i]? =aa x:=by rfl)(K:wm X.env.scope x:=by first|exact eS rfl|exact ef (eS rfl)|exact ef (ef rfl))(L:(x==("__debug__" : Str))=false:=by decide)(o:(x==("__classdict__" : Str))=false:=by decide)
  (j:eZ (.Name x p) "append" X.env (eval (.Name x p) X.env)=eval (.Name x p) X.env:=by rfl) (n:(a.endLine==b.line)=true:=by rfl) (h1:zK e=true:=by rfl)
  (M:swapsWith (.Call (.Attribute (.Name x p) "append" a) [e] [] b) ab pos.line X.env=pure false:=by rfl) :
  VS X (.Expr (.Call (.Attribute (.Name x p) "append" a) [e] [] b) pos) (xO i fe):=by
 obtain⟨t,w,m⟩:=I.h;refine⟨_,lh (pP AV Ck Co mW (wv i J K L o) (vZ w uJ h1) j rfl n h1 rfl) M,λB F H u O P DD s q k=>?_⟩;unfold xO at q;split at q
 ·rename_i ds A;obtain⟨d,Q,q⟩:=ze q;obtain⟨r,R,S⟩:=ze Q;obtain⟨T,U⟩:=xS q;cases U;obtain⟨v,h1,l,C,e,E,G,h4,h5⟩:=s.ent i _ A;subst e;refine⟨_,h1,.inl ⟨rfl,C,SqL.of E⟩,?_⟩;refine m B F H u O r _ s R λy F1 H1 Y z=>?_;obtain⟨Z,x2,sm,r2⟩:=RepR.frz Y (Same.refl _) z S;refine⟨l,C,y,rfl,rfl,x2.hh _ _ E,?_,?_⟩
  ·rw[G.length,ih];unfold sz at T;lia
  ·exact k u Z _ ((s.ext x2).mut A h1 ((G.mono x2.ff).append (.one r2))) (.of x2 s.bh)
 ·cases q
theorem Mq(i:Nat){b:Expr}{A:FE}{a:Pos}(K:VE X e fe)(L:VE X b A)(M:X.N[i]? =aa x:=by rfl)(O:wm X.env.scope x:=by first|exact eS rfl|exact ef (eS rfl)|exact ef (ef rfl))(P:(x==("__debug__" : Str))=false:=by decide)(o:(x==("__classdict__" : Str))=false:=by decide)
  (Q:∀{C E:TE},WE X (.Name x p) C->WE X b E->WG X (.Subscript (.Name x p) b a) (jb C E Yc))
  (R:swapsWithSole [.Subscript (.Name x p) b a] e pos.line X.env=pure false:=by rfl) (S:swappedStores [.Subscript (.Name x p) b a] e X.env=pure ab:=by rfl) (h1:(iE [.Subscript (.Name x p) b a] X.env).map (·.2)=[assign (.Subscript (.Name x p) b a) X.env]:=by rfl) :
  VS X (.Assign [.Subscript (.Name x p) b a] e pos) (rf i A fe):=by
 obtain⟨t,w,m⟩:=K.h;obtain⟨t2,T,U⟩:=L.h;refine⟨_,hE w (Q (wv i M O P o) T) R S h1,λB F H u G Y DD s q k=>?_⟩;unfold rf at q;split at q
 ·rename_i ds I;obtain⟨d,Z,q⟩:=ze q;obtain⟨r,q2,q3⟩:=ze Z;obtain⟨kk,q4,q⟩:=ze q;obtain⟨rk,q5,q6⟩:=ze q4;obtain⟨j,q7,q⟩:=zJ q;cases q;cases wz q6;obtain⟨v,h1,l,vs,e,h2,J,h4,h5⟩:=s.ent i _ I;subst e;refine m B F H u G r _ s q2 λy F1 H1 x1 z=>?_;obtain⟨F2,x2,sm,r2⟩:=RepR.frz x1 (Same.refl _) z q3;refine⟨_,h1,U B F2 H1 u G _ _ (s.ext x2) q5 λyk F3 H3 n z3=>?_⟩;cases wf z3;refine⟨l,vs,kk,j,rfl,rfl,n.hh _ _ (x2.hh _ _ h2),by rw[J.length];exact q7,?_⟩;exact k u F3 _ (((s.ext x2).ext n).mut I h1 (((J.mono x2.ff).mono n.ff).set (Rep.mono n.ff r2) j)) (.of (x2.trans n) s.bh)
 ·cases q
end
noncomputable def vN:Ent->Option Ent
 |.own a=>aa (.vw a)
 |.obj (.dcT b a)=>aa (.vwt b a)
 |.obj _=>ab
 |e=>aa e
def yw(fr:List Nat)(δ:En)(d:D):En:=aa (.val d)::fr.map λi=>((δ[i]?).join).bind vN
noncomputable def yV(ft:D->Option Bool)(fe:D->Option Ent):List D->Option (List D)
 |[]=>aa []
 |d::a=>(ft d).bind λb=>if b=true then ((fe d).bind zL).bind λy=>(yV ft fe a).map λc=>y::c else yV ft fe a
def yB(fr:List Nat)(fi:FI)(ft:FT)(fe:FE):FE:=λb=>(fi b).bind λc=>(yV (λd=>ft (yw fr b d)) (λd=>fe (yw fr b d)) c).bind λa=>if a.length<=1000000 then aa (.own a)else ab
theorem RS.cap{K:ae}{B:Bd}{F H:Hp}{k:Sg}{δ:En}{v:V}{d:D}(s:RS K B F H k δ)(fr:List Nat)(r:Rep F v d):RS K B F H (aa v::xh fr k) (yw fr δ d):=by
 have g:∀(j:Nat) (e:Ent),(yw fr δ d)[j+1]? =aa (aa e)->∃i c,fr[j]? =aa i/\δ[i]? =aa (aa c)/\vN c=aa e:=λj e h=>by
  unfold yw at h;rw[AS,av]at h;cases q:fr[j]? with
  |none=>rw[q]at h;cases h
  |some i=>
   rw[q]at h;have C:((δ[i]?).join).bind vN=aa e:=aO h;obtain⟨c,f,n⟩:=ze C;refine⟨i,c,rfl,?_,n⟩;cases z:δ[i]? with
   |none=>rw[z]at f;cases f
   |some o=>rw[z]at f;rw[show o=aa c from f]
 refine⟨s.fh,s.bh,by simp[yw,xh],λj e h=>?_,λa b l E e p f=>?_,λa b N O P Q R p y _ _ _ u=>?_,λw o _ G=>by cases G⟩
 ·cases j with
  |zero=>cases h;exact⟨v,rfl,r⟩
  |succ j=>
   obtain⟨i,c,f,n,m⟩:=g j e h;obtain⟨w,I,x⟩:=s.ent i c n;refine⟨w,?_,?_⟩
   ·show(xh fr k)[j]? =aa (aa w);unfold xh;rw[av,f];show aa ((k[i]?).join)=_;rw[I];rfl
   ·cases c with
    |own E=>cases m;obtain⟨l,J,e,L,M,_⟩:=x;exact⟨l,J,e,L,M⟩
    |obj o=>cases o <;> first|(cases m;obtain⟨A,t,_⟩:=x;exact⟨A,t⟩)|cases m
    | _=>cases m;exact x
 ·cases a with
  |zero=>cases f
  |succ a=>
   obtain⟨i,c,_,_,z⟩:=g a _ f;cases c with
   |obj o=>cases o <;> cases z
   | _=>cases z
 ·cases a with
  |zero=>cases y;cases u
  |succ a=>
   obtain⟨i,c,_,_,z⟩:=g a _ y;cases c with
   |obj o=>cases o <;> first|(cases z;cases u)|cases z
   | _=>cases z <;> cases u
theorem SemE.lc{K:ae}{fr:List Nat}{T:TI}{U:TT}{Y:TE}{fi:FI}{ft:FT}{fe:FE}(mi:nv K T fi)(mt:tV K U ft)(me:SemE K Y fe):SemE K (pN fr T U Y) (yB fr fi ft fe):=λB F H σ O res Q s q k=>by
 obtain⟨g,q1,q⟩:=ze q;obtain⟨n,q2,q⟩:=ze q;split at q
 ·rename_i Z;cases q;refine mi B F H σ O g _ s q1 λJ F1 H1 A io=>?_;intro a I;refine⟨λi m C p=>m=g.length-i/\i<=g.length/\∃j l rest,Ex F1 H1 j p/\j a=ab/\p a=aa (.lst C)/\Reps j C l/\yV (λd=>ft (yw fr O d)) (λd=>fe (yw fr O d)) (g.drop i)=aa rest/\n=l++rest,
   ⟨_,rfl,aM _,F1,[],n,Ex.lay A.fh I,A.fh.free I,yz,.nil,q2,rfl⟩,?_⟩
  rintro i m C p ⟨rfl,hi,j,P,rest,u,fa,L,M,c,E⟩;have s':=(s.ext A).ext u;obtain⟨t,R⟩:=io j p u.ff u.fh s'.bh;by_cases h:i<g.length
  ·right;have hd:g[i]? =aa g[i]:=by simp[h]
   obtain⟨g1,g2⟩:=R i _ hd;rw[ey h]at c;obtain⟨b,q3,c⟩:=ze c;refine⟨g1,λv H2 yl=>?_⟩;obtain⟨F2,x2,r2⟩:=g2 v H2 yl;have sc:=(s'.ext x2).cap fr r2;refine mt B F2 H2 _ _ b _ sc q3 λF3 H3 z=>?_;have S:∀{Fz Hz:Hp},Ex j p Fz Hz->Fz a=ab:=λx=>(x.nw _ _ L rfl).trans fa;cases b with
   |false=>
    refine uA ⟨g.length-(i+1),by lia,rfl,h,F3,P,rest,(u.trans x2).trans z,S (x2.trans z),(x2.trans z).hh _ _ L,M.mono (x2.trans z).ff,c,E⟩
   |true=>
    refine uB ?_;obtain⟨y,q4,c⟩:=ze c;obtain⟨r,q5,q6⟩:=ze q4;obtain⟨f,q7,c⟩:=zJ c;cases c;refine me B F3 H3 _ _ r _ (sc.ext z) q5 λw F4 H4 x4 z4=>?_;obtain⟨F5,x5,_,r5⟩:=RepR.frz x4 (Same.refl _) z4 q6;have G:Ex j p F5 H4:=(x2.trans z).trans x5;have hy:C.length<aS:=by
     rw[M.length,ih];have:n.length=P.length+(f.length+1):=by rw[E];simp
     lia
    refine⟨G.hh _ _ L,hy,g.length-(i+1),by lia,rfl,h,F5,P++[y],f,?_,S G,yz,(M.mono G.ff).append (.one r5),q7,by rw[E];simp⟩;have N:=u.trans G;exact⟨N.ff,λb o e=>by rw[zX (vm e (S G))];exact N.fh b o e,λb o e=>by rw[zX (vm e I)];exact N.hh b o e,N.nw⟩
  ·left;have e:i=g.length:=by lia
   subst e;rw[Ba]at c;cases c;rw[ek]at E;subst E;refine⟨t,k _ j p (A.trans u) ⟨a,C,rfl,A.hh.free I,L,M,fa⟩⟩
 ·cases q
def tD(K:ae)(f:FE):TE:=λd H Q=>∃B F b r,RS K B F H d b/\f b=aa r/\∀v c a,Ex F H c a->RepR K H c a v r->Q v a
def YK(K:ae)(f:FT):TT:=λd H Q=>∃B F a b,RS K B F H d a/\f a=aa b/\∀e c,Ex F H e c->Q b c
theorem hG{K:ae}{f:FE}:SemE K (tD K f) f:=λB F _ _ a r _ s q k=>⟨B,F,a,r,s,q,k⟩
theorem hH{K:ae}{f:FT}:tV K (YK K f) f:=λB F _ _ a r _ s q k=>⟨B,F,a,r,s,q,k⟩
theorem VE.uni{X:Cx}(h:VE X e f):WE X e (tD X.K f):=
 let⟨_,w,m⟩:=h.h;⟨λa s b H Q I z=>let⟨B,F,δ,r,s',q,k⟩:=z;w.h a s b H Q I (m B F H b δ r Q s' q k)⟩
theorem VTs.uni{X:Cx}(h:VTs X es f):WTs X es (YK X.K f):=
 let⟨_,w,m⟩:=h.h;⟨λa s b H Q I z=>let⟨B,F,δ,r,s',q,k⟩:=z;w.h a s b H Q I (m B F H b δ r Q s' q k)⟩
section
variable {X:Cx}{N:List Str}{fr:List Nat}{x:Str}{scope:Scope}{iter elt:Expr}{ifs:List Expr}{px pos:Pos}{fi:FI}{fe:FE}{ft:FT}
theorem K0(S:CompSc X N fr x scope)(hi:VI X (.Name x px) iter fi)
  (c:∀(C:ah) (a:ag) (b:Hp) (fp:List ah),VTs (zZ X N scope C a b fp) ifs ft) (d:∀(C:ah) (a:ag) (b:Hp) (fp:List ah),VE (zZ X N scope C a b fp) elt fe)
  (e:X.calm=true:=by rfl) (f:∀z,eP iter X.env z=pure z:=by intro _;rfl):VE X (.ListComp elt [⟨.Name x px,iter,ifs,0⟩] scope pos) (yB fr fi ft fe):=
 let⟨_,w1,m1⟩:=hi.h;⟨_,Jt S e w1 (λC a b fp=>(c C a b fp).uni) (λC a b fp=>(d C a b fp).uni) f,.lc m1 hH hG⟩
theorem Ms{i:Nat}{y:Str}{f c:Pos}(g:X.N.Nodup)(d:X.N[i]? =aa y)(j:vp X.env.scope y)(S:CompSc X N fr x scope)(hi:VI X (.Name x px) iter fi)
  (k:∀(C:ah) (a:ag) (b:Hp) (fp:List ah),VTs (zZ X N scope C a b fp) ifs ft) (l:∀(C:ah) (a:ag) (b:Hp) (fp:List ah),VE (zZ X N scope C a b fp) elt fe)
  (m:X.calm=true:=by rfl) (e:swapsWith (.ListComp elt [⟨.Name x px,iter,ifs,0⟩] scope pos) (aa (.Name y f)) c.line X.env=pure true:=by rfl)
  (n:∀z,eP iter X.env z=pure z:=by intro _;rfl)
  (o:X.fn y=true\/X.env.scope.names.lookup y=aa .local:=by first|exact .inl rfl|exact .inr rfl|assumption) :
  VS X (.Assign [.Name y f] (.ListComp elt [⟨.Name x px,iter,ifs,0⟩] scope pos) c) (zq i (yB fr fi ft fe)):=
 let⟨_,w1,m1⟩:=hi.h;⟨_,Lh g d j S m w1 (λC a b fp=>(k C a b fp).uni) (λC a b fp=>(l C a b fp).uni) e n o,SemE.set i (.lc m1 hH hG)⟩
end
inductive Kd where
 |v|b|t
def ArgOk(K:ae)(F H:Hp)(v:V):Kd->D->Prop
 |.v,d=>Rep F v d
 |.b,.lst a=>RBor K F H v a
 |.b,_=>False
 |.t,.tup a=>RBt K F H v a
 |.t,_=>False
inductive ArgsOk(K:ae)(F H:Hp):List Kd->List V->List D->Prop
 |nil:ArgsOk K F H [] [] []
 |cons {k:Kd} {v:V} {d:D} {ks:List Kd} {vs:List V} {ds:List D}:ArgOk K F H v k d->ArgsOk K F H ks vs ds->ArgsOk K F H (k::ks) (v::vs) (d::ds)
inductive SpD(K:ae)(ks:List Kd)(g:List D->Option Ent)(vs:List V)(H:Hp)(Q:VK):Prop
 |mk (F:Hp) (ds:List D) (r:Ent):Same F H->ArgsOk K F H ks vs ds->g ds=aa r->(∀v F' H',Ex F H F' H'->RepR K H F' H' v r->Q v H')->SpD K ks g vs H Q
def u0(K:ae)(ks:List Kd)(g:List D->Option Ent):Sp:=λa H Q _=>SpD K ks g a H Q
noncomputable def vM:Ent->Option (List D)
 |.val (.tup a)=>aa a
 |.bt a=>aa a
 | _=>ab
theorem RepR.toT{K:ae}{H0 F H:Hp}{v:V}{e:Ent}{ds:List D}(r:RepR K H0 F H v e)(h:Same F H)(q:vM e=aa ds):RBt K F H v ds:=by
 cases e with
 |val d=>
  cases d with
  |tup a=>
   cases q;cases (show Rep F v (.tup _)from r)with
   |tup e b=>exact⟨_,_,rfl,SqT.of (h _ _ e),b⟩
  | _=>cases q
 |bt a=>cases q;exact r
 | _=>cases q
def yL:Kd->Ent->Option D
 |.v,e=>zL e
 |.b,e=>(zS e).map .lst
 |.t,e=>(vM e).map .tup
noncomputable def yq:List Kd->List Ent->Option (List D)
 |[],[]=>aa []
 |k::a,e::b=>(yL k e).bind λd=>(yq a b).map λc=>d::c
 | _,_=>ab
section
variable {K:ae}{F H F' H' F2 H2:Hp}
theorem ArgOk.mono(s:Same F F')(h:ArgOk K F H v k d):ArgOk K F' H v k d:=by
 cases k with
 |v=>exact Rep.mono s h
 |b=>cases d <;> first|exact h.elim|(obtain⟨l,a,e,c,f⟩:=h;exact⟨l,a,e,c,f.mono s⟩)
 |t=>cases d <;> first|exact h.elim|(obtain⟨l,a,e,c,f⟩:=h;exact⟨l,a,e,c,f.mono s⟩)
theorem RepRs.args{ks:List Kd}{vs:List V}{es:List Ent}{ds:List D}{F':Hp}(x:Ex F H F' H')(s:Same F2 F')(h:RepRs K H F2 H' vs es)(q:yq ks es=aa ds):∃i,Ex F H i H'/\Same F' i/\ArgsOk K i H' ks vs ds:=by
  induction h generalizing ks ds F' with
  |nil=>
    cases ks with
    |nil=>cases q;exact⟨F',x,Same.refl _,.nil⟩
    |cons _ _=>cases q
  |@cons _ e _ es r t j=>
   cases ks with
   |nil=>cases q
   |cons k ks=>
    simp only[yq]at q;obtain⟨d,m,q⟩:=ze q;obtain⟨z,n,q⟩:=zJ q;cases q;cases k with
    |v=>
      obtain⟨i,A,y,B⟩:=r.frz x s m;obtain⟨c,f,a,g⟩:=j A (s.trans y) n;exact⟨c,f,y.trans a,.cons (Rep.mono a B) g⟩
    |b=>
      obtain⟨C,o,p⟩:=zJ m;cases p;obtain⟨c,f,a,g⟩:=j x s n;refine⟨c,f,a,.cons (k:=.b) ?_ g⟩;obtain⟨l,vs,e,u,w⟩:=RepR.toL r (s.trans x.fh) o;exact⟨l,vs,e,u,w.mono (s.trans a)⟩
    |t=>
      obtain⟨C,o,p⟩:=zJ m;cases p;obtain⟨c,f,a,g⟩:=j x s n;refine⟨c,f,a,.cons (k:=.t) ?_ g⟩;obtain⟨l,vs,e,u,w⟩:=RepR.toT r (s.trans x.fh) o;exact⟨l,vs,e,u,w.mono (s.trans a)⟩
end
def zi(ks:List Kd)(g:List D->Option Ent)(a:FA):FE:=λb=>((a b).bind (yq ks)).bind g
section
variable {X:Cx}{es:List Expr}{e:Expr}{fs:FA}{x:Str}{p pos:Pos}{ks:List Kd}{g:List D->Option Ent}
theorem SemE.call{K:ae}{t:TA}{dvs:List V}{E:XK}(m:tU K t fs)(b:dvs=[]):SemE K (gd (u0 K ks g) dvs E t) (zi ks g fs):=λB F H c d a Q s q k=>by
 subst b;obtain⟨f,h,q⟩:=ze q;obtain⟨i,j,l⟩:=ze h;refine m B F H c d i _ s j λC G I n o=>?_;obtain⟨r,x2,_,u⟩:=RepRs.args n (Same.refl _) o l;rw[ek];exact⟨r,f,a,x2.fh,u,q,λv w y z A=>k v w y (x2.trans z) (A.earlier x2.hh)⟩
theorem KB{CX:wL}{k j:Nat}{f:ah}{c:eR}{ps:List Str}{st:Stmt}{E:XK}(F:FnOk X.prog X.w X.K X.mg X.base CX k f c ps (u0 X.K ks g))(D:Def X.K X.mg x st ps f c)(d:Room j X.A)(i:Gl X x)(l:wD CX X E)
  (n:VA X (e::es) fs) (a:k<=j:=by decide) (b:(x==("__debug__" : Str))=false:=by decide) (h1:zK e=true:=by rfl) (o:es.all zK=true:=by rfl) :
  VE X (.Call (.Name x p) (e::es) [] pos) (zi ks g fs):=let⟨_,w,m⟩:=n.h;⟨_,XC F D d i l w a b h1 o,.call m rfl⟩
end
noncomputable def yU:Kd->D->Option Ent
 |.v,d=>aa (.val d)
 |.b,.lst a=>aa (.bor a)
 |.b,_=>ab
 |.t,.tup a=>aa (.bt a)
 |.t,_=>ab
noncomputable def yH:List Kd->List D->Option En
 |[],[]=>aa []
 |k::a,d::b=>(yU k d).bind λe=>(yH a b).map λc=>aa e::c
 | _,_=>ab
noncomputable def yh:Out->Option Ent
 |.rt r _=>aa r
 |.nx _=>aa (.val .non)
 | _=>ab
def zw(ks:List Kd)(m:Nat)(f:FS)(ds:List D):Option Ent:=(yH ks ds).bind λa=>(f (a++aB m ab)).bind yh
theorem ArgsOk.start{K:ae}{F H:Hp}{ks:List Kd}{vs:List V}{ds:List D}{es:En}(n:ArgsOk K F H ks vs ds)(q:yH ks ds=aa es):vs.length=es.length/\∀(i:Nat) (e:Ent),es[i]? =aa (aa e)->(∃v,vs[i]? =aa v/\RepN K H F H v e)/\e.lk=false/\e.isO=false:=by
 induction n generalizing es with
 |nil=>cases q;exact⟨rfl,λi e h=>by simp at h⟩
 |@cons k v d ks vs ds a t f=>
  simp only[yH]at q;obtain⟨o,c,q⟩:=ze q;obtain⟨p,r,q⟩:=zJ q;cases q;obtain⟨s,u⟩:=f r;refine⟨by simp[s],λi e h=>?_⟩;cases i with
  |succ i=>simpa using u i e (by simpa using h)
  |zero=>
   have w:o=e:=by simpa using h
   subst w;cases k with
   |v=>cases c;exact⟨⟨v,rfl,a⟩,rfl,rfl⟩
   |b=>
    cases d with
    |lst x=>
     cases c;obtain⟨l,g,e,j,m⟩:=a;exact⟨⟨v,rfl,l,g,e,j,m⟩,rfl,rfl⟩
    | _=>cases c
   |t=>
    cases d with
    |tup x=>
     cases c;obtain⟨l,g,e,j,m⟩:=a;exact⟨⟨v,rfl,l,g,e,j,m⟩,rfl,rfl⟩
    | _=>cases c
theorem ArgsOk.length{K:ae}{F H:Hp}{ks:List Kd}{vs:List V}{ds:List D}(h:ArgsOk K F H ks vs ds):vs.length=ks.length:=h.rec (motive:=λks vs _ _=>vs.length=ks.length) rfl λ_ _ t=>congrArg (· + 1) t
section
variable {P:aN}{w:aR}{K:ae}{mg:Str->Option af}{base:aX}{x qual:Str}{st:Stmt}{f:ah}{fd:eR}{N ps:List Str}{k:Nat}{ks:List Kd}{g:List D->Option Ent}
end
end L3

namespace L3
open PySem PySem.Spec PyProof.Rows L2
def z8(g:Int->Int->D):Ent->Ent->Option Ent:=λx y=>(zr x).bind λi=>(zr y).map λj=>.val (g i j)
noncomputable def pI(c:Int->Int->Prop)(g:Int->Int->D):Ent->Ent->Option Ent:=λx y=>(zr x).bind λi=>(zr y).bind λj=>yY (c i j) (aa (.val (g i j)))
def u9(i:Int):Prop:=-18446744073709551616<i/\i<18446744073709551616
theorem tZ{i:Int}(h:-18446744073709551616<i/\i<18446744073709551616):u9 i=True:=eq_true h
def Z3(j:Int):Prop:=0<j
theorem uo{j:Int}(h:0<j):Z3 j=True:=eq_true h
def d7(j:Int):Prop:=0<j/\j<1073741824
theorem nJ{j:Int}(h:0<j/\j<1073741824):d7 j=True:=eq_true h
theorem qv{i:Int}(h:-18446744073709551616<i/\i<18446744073709551616):u9 i:=h
section
variable {K:ae}
theorem tO{g':Int->Int->V}{g:Int->Int->D}(h:∀i j F,Rep F (g' i j) (g i j)):sT K (up g') (z8 g):=λm F H x y e n a Q b o c d q k=>by
 obtain⟨i,f,q⟩:=ze q;obtain⟨j,l,q⟩:=zJ q;cases wz f;cases wz l;cases q;cases wf c;cases wf d;exact⟨i,j,rfl,rfl,k _ F H (Ex.refl b) (h i j F)⟩
theorem lg{C c:Int->Int->Prop}{g':Int->Int->V}{g:Int->Int->D}(b:∀i j,c i j->C i j)(h:∀i j F,Rep F (g' i j) (g i j)):sT K (rI C g') (pI c g):=λr F H x y e s d Q f t l m q k=>by
 obtain⟨i,n,q⟩:=ze q;obtain⟨j,o,q⟩:=ze q;obtain⟨a,p⟩:=xS q;cases wz n;cases wz o;cases p;cases wf l;cases wf m;exact⟨i,j,rfl,rfl,b i j a,k _ F H (Ex.refl f) (h i j F)⟩
end
def zt:=z8 λi j=>.int (i+j)
def yt:=z8 λi j=>.int (i-j)
noncomputable def yX:=pI (λi j=>u9 i\/u9 j) λi j=>.int (i*j)
noncomputable def yN:=pI (λ_ j=>Z3 j) λi j=>.int (i%j)
noncomputable def xX:=pI (λ_ j=>d7 j) λi j=>.int (i / j)
def xt:=z8 λi j=>.bl (decide (i<j))
def uw:=z8 λi j=>.bl (decide (i<=j))
def yF:=z8 λi j=>.bl (decide (j<i))
def nU:=z8 λi j=>.bl (decide (j<=i))
def yp:Ent->Option Ent:=λx=>(zr x).map λi=>.val (.int (-i))
section
variable {X:Cx}
theorem RL:y6 X (binaryOp .Add) zt:=⟨_,Qj,tO λ_ _ _=>.int _⟩
theorem Qf:y6 X (binaryOp .Sub) yt:=⟨_,QI,tO λ_ _ _=>.int _⟩
theorem R8:y6 X (binaryOp .Mult) yX:=⟨_,QB,lg (λ_ _ h=>h) λ_ _ _=>.int _⟩
theorem R7:y6 X (binaryOp .Mod) yN:=⟨_,QA,lg (λ_ _ h=>h) λ_ _ _=>.int _⟩
theorem RU:y6 X (binaryOp .FloorDiv) xX:=⟨_,Qr,lg (λ_ _ h=>h) λ_ _ _=>.int _⟩
theorem R6:y6 X (ej .Lt) xt:=⟨_,Qz,tO λ_ _ _=>.bl _⟩
theorem R5:y6 X (ej .LtE) uw:=⟨_,Qy,tO λ_ _ _=>.bl _⟩
theorem RZ:y6 X (ej .Gt) yF:=⟨_,Qt,tO λ_ _ _=>.bl _⟩
theorem RY:y6 X (ej .GtE) nU:=⟨_,Qs,tO λ_ _ _=>.bl _⟩
theorem Qb:de X (unaryOp .USub) yp:=⟨_,Ki,λd F H x e a Q b f r q k=>by
 obtain⟨i,c,q⟩:=zJ q;cases wz c;cases q;cases wf r;exact⟨i,rfl,k _ F H (Ex.refl b) (.int _)⟩⟩
end
noncomputable def kO:D->Option V
 |.non=>aa .non
 |.bl b=>aa (.bl b)
 |.int i=>aa (.int i)
 |.str z=>aa (.str z)
 | _=>ab
def pG(d d':D):Option Bool:=(kO d).bind λx=>(kO d').bind λy=>if la x y=true then aa (decide (x=y))else ab
theorem dY{p q:Prop}[Decidable p][Decidable q](h:p ↔ q):aa (decide p)=aa (decide q):=congrArg aa (decide_eq_decide.mpr h)
theorem vo(i j:Int):pG (.int i) (.int j)=aa (decide (i=j)):=dY ⟨V.int.inj,congrArg _⟩
theorem rZ(i j:Str):pG (.str i) (.str j)=aa (decide (i=j)):=dY ⟨V.str.inj,congrArg _⟩
theorem d6(r:Rep F x d)(q:kO d=aa z):x=z:=by
 cases r <;> first|(cases q;rfl)|cases q
def yr:Ent->Ent->Option Ent
 |.val d,.val a=>(pG d a).map λb=>.val (.bl b)
 | _,_=>ab
def wy:Ent->Ent->Option Ent
 |.val d,.val a=>(pG d a).map λb=>.val (.bl (!b))
 | _,_=>ab
theorem Ym{F:Hp}{x y:V}{d d':D}{b:Bool}(a:Rep F x d)(c:Rep F y d')(q:pG d d'=aa b):la x y=true/\decide (x=y)=b:=by
 obtain⟨g,e,q⟩:=ze q;obtain⟨i,f,q⟩:=ze q;cases d6 a e;cases d6 c f;obtain⟨h,q⟩:=jo q;exact⟨h,aO q⟩
noncomputable def xY:Ent->Bool
 |.val .non=>true
 | _=>false
def vV:Ent->Ent->Option Ent
 |x,.val .non=>aa (.val (.bl (xY x)))
 | _,_=>ab
def ua:Ent->Ent->Option Ent
 |x,.val .non=>aa (.val (.bl (!xY x)))
 | _,_=>ab
theorem bm{K:ae}{H0 F H:Hp}{x:V}{e:Ent}(r:RepR K H0 F H x e):decide (x=.non)=xY e:=by
 cases e with
 |val d=>cases r <;> simp[xY]
 |own a=>obtain⟨l,b,e,_⟩:=r;subst e;simp[xY]
 |bor a=>obtain⟨l,b,e,_⟩:=r;subst e;simp[xY]
 |vw a=>obtain⟨l,b,e,_⟩:=r;subst e;simp[xY]
 |vwt c a=>obtain⟨A,t⟩:=r;cases t;simp[xY]
 |bt a=>obtain⟨l,b,e,_⟩:=r;subst e;simp[xY]
 |obj o=>obtain⟨⟨l,e⟩,_⟩:=r;subst e;simp[xY]
noncomputable def zP:Ent->Option Str
 |.val (.str i)=>aa i
 | _=>ab
theorem xi(h:zP e=aa i):e=.val (.str i):=by
 cases e with
 |val d=>cases d <;> first|(cases h;rfl)|(cases h)
 | _=>cases h
noncomputable def uf(i j:Str):Bool:=!(AR j i 0 j.length 1).isEmpty
def v9:Ent->Ent->Option Ent:=λx y=>(zP x).bind λi=>(zP y).map λj=>.val (.bl (uf i j))
def tz:Ent->Ent->Option Ent:=λx y=>(zP x).bind λi=>(zP y).map λj=>.val (.bl (!uf i j))
noncomputable def qN:Ent->Ent->Option Ent:=λx y=>(zP x).bind λi=>(zP y).bind λj=>yY (sz (i.length+j.length)) (aa (.val (.str (i++j))))
theorem vX{n:Nat}(h:n<=1000000):n<=aS:=by rw[ih];lia
section
variable {X:Cx}
theorem RW:y6 X (ej .Eq) yr:=⟨_,Qp,λm F H x y e a c Q f n g h q k=>by
 cases e with
 |val d=>
  cases a with
  |val o=>
   obtain⟨b,i,q⟩:=zJ q;cases q;obtain⟨j,l⟩:=Ym g h i;exact⟨j,by rw[l];exact k _ F H (Ex.refl f) (.bl _)⟩
  | _=>cases q
 | _=>cases q⟩
theorem R9:y6 X (ej .NotEq) wy:=⟨_,QC,λm F H x y e a c Q f n g h q k=>by
 cases e with
 |val d=>
  cases a with
  |val o=>
   obtain⟨b,i,q⟩:=zJ q;cases q;obtain⟨j,l⟩:=Ym g h i;exact⟨j,by rw[l];exact k _ F H (Ex.refl f) (.bl _)⟩
  | _=>cases q
 | _=>cases q⟩
theorem R4:y6 X (ej .Is) vV:=⟨_,Qx,λf F H x y e g a Q b h c d q k=>by
 unfold vV at q;split at q
 ·cases q;exact⟨j6 d,by rw[bm c];exact k _ F H (Ex.refl b) (.bl _)⟩
 ·cases q⟩
theorem Qd:y6 X (ej .IsNot) ua:=⟨_,QE,λf F H x y e g a Q b h c d q k=>by
 unfold ua at q;split at q
 ·cases q;exact⟨j6 d,by rw[bm c];exact k _ F H (Ex.refl b) (.bl _)⟩
 ·cases q⟩
theorem R1:y6 X (ej .In) v9:=⟨_,Qv,λh F H x y e l a Q b m c d q k=>by
 obtain⟨i,f,q⟩:=ze q;obtain⟨j,g,q⟩:=zJ q;cases xi f;cases xi g;cases q;exact⟨i,j,xw c,xw d,k _ F H (Ex.refl b) (.bl _)⟩⟩
theorem Qc:y6 X (ej .NotIn) tz:=⟨_,QF,λh F H x y e l a Q b m c d q k=>by
 obtain⟨i,f,q⟩:=ze q;obtain⟨j,g,q⟩:=zJ q;cases xi f;cases xi g;cases q;exact⟨i,j,xw c,xw d,k _ F H (Ex.refl b) (.bl _)⟩⟩
theorem RM:y6 X (binaryOp .Add) qN:=⟨_,Qk,λm F H x y e n a Q b o c d q k=>by
 obtain⟨i,f,q⟩:=ze q;obtain⟨j,g,q⟩:=ze q;obtain⟨h,l⟩:=xS q;cases xi f;cases xi g;cases l;exact⟨i,j,xw c,xw d,vX h,k _ F H (Ex.refl b) (.str _)⟩⟩
end
def yG:Ent->Ent->Option Ent:=λx y=>(zS x).bind λa=>(zr y).bind λi=>(zO a i).map .val
noncomputable def yc:Ent->Option (List D)
 |.val (.tup a)=>aa a
 | _=>ab
theorem vJ(h:yc e=aa ds):e=.val (.tup ds):=by
 cases e with
 |val d=>cases d <;> first|(cases h;rfl)|(cases h)
 | _=>cases h
def zV:Ent->Ent->Option Ent:=λx y=>(yc x).bind λa=>(zr y).bind λi=>(zO a i).map .val
def kD:Ent->Option (List D)
 |.bt a=>aa a
 | _=>ab
theorem Wy(h:kD e=aa ds):e=.bt ds:=by
 cases e with
 |bt d=>cases h;rfl
 | _=>cases h
def vz:Ent->Ent->Option Ent:=λx y=>(kD x).bind λa=>(zr y).bind λi=>(zO a i).map .val
noncomputable def mkS(l:List Nat):Str:=⟨l.toArray⟩
noncomputable def wI:Ent->Ent->Option Ent:=λx y=>(zP x).bind λz=>(zr y).bind λi=>yY (sz z.length) ((zO z.cps.toList i).map λc=>.val (.str (mkS [c])))
theorem ky{i:Int}{d:D}(r:Reps F vs ds)(q:zO ds i=aa d):∃v,zO vs i=aa v/\Rep F v d:=by
 unfold zO at q ⊢;obtain⟨j,a,q⟩:=ze q;obtain⟨v,b,c⟩:=r.get q;exact⟨v,by rw[r.length,a];exact b,c⟩
section
variable {X:Cx}
theorem JQ:sR X yG:=⟨_,Tk,λs F H x y e t b Q a u c f q k=>by
 obtain⟨w,g,q⟩:=ze q;obtain⟨i,h,q⟩:=ze q;obtain⟨d,j,q⟩:=zJ q;cases q;cases wz h;obtain⟨l,m,e,n,o⟩:=RepR.toL c a g;obtain⟨v,p,r⟩:=ky o j;exact⟨l,m,i,v,e,wf f,n,p,k v F H (Ex.refl a) r⟩⟩
theorem JS:sR X zV:=⟨_,bu,λp F H x y e r b Q a s c f q k=>by
 obtain⟨g,h,q⟩:=ze q;obtain⟨i,j,q⟩:=ze q;obtain⟨d,l,q⟩:=zJ q;cases q;cases wz j;cases vJ h;cases (show Rep F x (.tup g)from c)with
 |tup e m=>
  obtain⟨v,n,o⟩:=ky m l;exact⟨_,_,i,v,rfl,wf f,SqT.of (a _ _ e),n,k v F H (Ex.refl a) o⟩⟩
theorem JO:sR X vz:=⟨_,bu,λs F H x y e t a Q b u c f q k=>by
 obtain⟨w,g,q⟩:=ze q;obtain⟨i,h,q⟩:=ze q;obtain⟨d,j,q⟩:=zJ q;cases q;cases wz h;cases Wy g;obtain⟨l,m,e,n,o⟩:=c;obtain⟨v,p,r⟩:=ky o j;exact⟨l,m,i,v,e,wf f,n,p,k v F H (Ex.refl b) r⟩⟩
theorem JR:sR X wI:=⟨_,Tl,λn F H x y e o b Q d p f g q k=>by
 obtain⟨z,h,q⟩:=ze q;obtain⟨i,j,q⟩:=ze q;obtain⟨l,a⟩:=xS q;obtain⟨c,m,a⟩:=zJ a;cases a;cases wz j;cases xi h;exact⟨z,i,c,xw f,wf g,vX l,m,k _ F H (Ex.refl d) (.str _)⟩⟩
end
noncomputable def nQ:Ent->Ent->Option Ent:=λx y=>(nz x).bind λa=>(nz y).bind λb=>yY (sz (a.length+b.length)) (aa (.own (a++b)))
noncomputable def rl:Ent->Ent->Option Ent:=λx y=>(yc x).bind λa=>(yc y).bind λb=>yY (sz (a.length+b.length)) (aa (.val (.tup (a++b))))
section
variable {X:Cx}
theorem RQ:y6 X (binaryOp .Add) nQ:=⟨_,Qm,λz F H x y e f h Q b i j m q k=>by
 obtain⟨A,n,q⟩:=ze q;obtain⟨B,o,q⟩:=ze q;obtain⟨r,s⟩:=xS q;cases s;obtain⟨l,t,e,u,g⟩:=RepR.toLt j b n;obtain⟨v,w,f,c,a⟩:=RepR.toLt m b o;refine⟨l,v,t,w,e,f,u,c,by rw[g.length,a.length];exact vX r,λp d=>?_⟩;exact k _ _ _ (Ex.lay b d) ⟨p,_,rfl,i.free d,yz,g.append a,b.free d⟩⟩
theorem bF{K:ae}{H0 F H:Hp}{b:List V}{ds:List D}{Q:VK}(d:Same F H)(r:Reps F b ds)(k:∀v c H',Ex F H c H'->RepR K H0 c H' v (.val (.tup ds))->Q v H'):jt H b Q:=λa H' s e=>by
 have f:Ex F H F H':=⟨Same.refl F,d.trans s,s,λ_ _ _ _=>rfl⟩
 obtain⟨g,x2,h,i⟩:=f.tupF e;exact k _ g H' x2 (.tup i (r.mono h))
theorem RT:y6 X (binaryOp .Add) rl:=⟨_,Qo,λo F H x y e p d Q a r f g q k=>by
 obtain⟨h,i,q⟩:=ze q;obtain⟨j,l,q⟩:=ze q;obtain⟨m,n⟩:=xS q;cases n;cases vJ i;cases vJ l;cases (show Rep F x (.tup h)from f)with
 |tup zo b=>
  cases (show Rep F y (.tup j)from g)with
  |tup zc c=>exact⟨_,_,_,_,rfl,rfl,a _ _ zo,a _ _ zc,by rw[b.length,c.length];exact vX m,bF a (b.append c) k⟩⟩
end
abbrev FO:=En->Option (Option Int)
def wS:FO:=λ_=>aa ab
def zQ(fe:FE):FO:=λa=>((fe a).bind zr).map aa
def X5(K:ae)(t:TO)(f:FO):Prop:=∀(B:Bd) (F H:Hp) (a:Sg) (b:En) (o:Option Int) (Q:Option Int->Hp->Prop),RS K B F H a b->f b=aa o->(∀d c,Ex F H d c->Q o c)->t a H Q
structure VO(X:Cx)(e:Option Expr)(f:FO):Prop where
 h:∃t,WO X e t/\X5 X.K t f
def X4(K:ae)(r:V->Option Int->Option Int->Hp->VK->Prop)(g:Ent->Option Int->Option Int->Option Ent):Prop:=∀(b F H:Hp) (x:V) (d f:Option Int) (e a:Ent) (Q:VK),Same F H->Same b H->RepR K b F H x e->g e d f=aa a ->
 (∀v h c,Ex F H h c->RepR K b h c v a->Q v c)->r x d f H Q
def ny(X:Cx)(g:Ent->Option Int->Option Int->Option Ent):Prop:=∃r,tW X r/\X4 X.K r g
noncomputable def yo(g:Ent->Option Int->Option Int->Option Ent)(fe:FE)(b c:FO):FE:=λa=>(fe a).bind λx=>(b a).bind λl=>(c a).bind λu=>g x l u
def zH{α:Type}(xs:List α)(lo hi:Option Int):List α:=(xs.drop (HT.sIx xs.length 0 lo)).take (HT.sIx xs.length xs.length hi-HT.sIx xs.length 0 lo)
def k9:Ent->Option Int->Option Int->Option Ent:=λx a b=>(zS x).map λc=>.own (zH c a b)
def tE:Ent->Option Int->Option Int->Option Ent:=λx a b=>(yc x).map λc=>.val (.tup (zH c a b))
theorem Reps.cut(r:Reps F vs ds)(lo hi:Option Int):Reps F (uu vs lo hi) (zH ds lo hi):=by
 unfold uu zH;rw[r.length];exact(r.drop _).take _
section
variable {X:Cx}{e:Expr}{lo hi:Option Expr}{fe:FE}{fl fu:FO}{pos p2:Pos}
theorem Ja:VO X ab wS:=⟨_,Jx,λB F H a b o Q s q k=>by cases q;exact k F H (Ex.refl s.fh)⟩
theorem Je(h:VE X e fe):VO X (aa e) (zQ fe):=by
 obtain⟨t,w,m⟩:=h.h;refine⟨_,JA w,λB F H a b o Q s q k=>?_⟩;obtain⟨i,c,q⟩:=zJ q;cases q;obtain⟨r,d,f⟩:=ze c;cases wz f;exact m B F H a b _ _ s d λv g j l n=>⟨i,wf n,k g j l⟩
theorem Jf{g:Ent->Option Int->Option Int->Option Ent}(o:ny X g)(p:VE X e fe)(r:VO X lo fl)(y:VO X hi fu):VE X (.Subscript e (.Slice lo hi ab p2) pos) (yo g fe fl fu):=by
 obtain⟨t,w,m⟩:=p.h;obtain⟨t1,z,A⟩:=r.h;obtain⟨t2,C,E⟩:=y.h;obtain⟨rr,a,b⟩:=o;refine⟨_,JK a w z C,λB F H c d f Q s q k=>?_⟩;obtain⟨x,G,q⟩:=ze q;obtain⟨l,I,q⟩:=ze q;obtain⟨u,J,q⟩:=ze q;refine m B F H c d x _ s G λv K L i M=>?_;refine A B K L c d l _ (s.ext i) I λN O x2=>?_;refine E B N O c d u _ ((s.ext i).ext x2) J λP R n=>?_;have j:=(i.trans x2).trans n;exact b H P R v l u x f Q j.fh j.hh ((M.ext x2).ext n) q λS T U Y Z=>k S T U (j.trans Y) Z
theorem SH:ny X k9:=⟨_,MQ,λm F H x lo hi e c Q a d f q k=>by
 obtain⟨n,g,q⟩:=zJ q;cases q;obtain⟨l,h,e,i,j⟩:=RepR.toL f a g;exact⟨l,h,e,i,λp b=>k _ _ _ (Ex.lay a b) ⟨p,_,rfl,d.free b,yz,j.cut lo hi,a.free b⟩⟩⟩
theorem SJ:ny X tE:=⟨_,MT,λh F H x lo hi e b Q a i c q k=>by
 obtain⟨d,f,q⟩:=zJ q;cases q;cases vJ f;cases (show Rep F x (.tup d)from c)with
 |tup zo g=>exact⟨_,_,rfl,a _ _ zo,bF a (g.cut lo hi) k⟩⟩
end
def yC:List Ent->Option Ent
 |[x]=>match yc x with
  |some a=>aa (.val (.int a.length))
  |none=>(zS x).map λa=>.val (.int a.length)
 | _=>ab
noncomputable def ya:List Ent->Option Ent
 |[x]=>(zP x).bind λz=>yY (sz z.length) (aa (.val (.int z.length)))
 | _=>ab
def wO:List Ent->Option Ent
 |[x]=>(zS x).map λa=>.val (.tup a)
 | _=>ab
theorem vF{K:ae}{H0 F H:Hp}{vs:List V}{x:Ent}(r:RepRs K H0 F H vs [x]):∃v,vs=[v]/\RepR K H0 F H v x:=by
 cases r with
 |cons h t=>cases t;exact⟨_,rfl,h⟩
theorem tL{g:List Ent->Option Ent}(c:g []=ab)(d:∀a b r,g (a::b::r)=ab)(q:g es=aa res):∃x,es=[x]:=by
 match es,q with
 |[],q=>rw[c]at q;cases q
 |[x],_=>exact⟨x,rfl⟩
 |a::b::r,q=>rw[d]at q;cases q
theorem RepR.seq{K:ae}{H0 F H:Hp}{v:V}{x:Ent}{ds:List D}(r:RepR K H0 F H v x)(b:Same F H)(q:yc x=aa ds\/zS x=aa ds):∃l a,v=.ref l/\(SqL K H l a\/SqT K H l a)/\Reps F a ds:=by
 rcases q with q|q
 ·cases vJ q;cases (show Rep F v (.tup ds)from r)with
  |tup e c=>exact⟨_,_,rfl,.inr (SqT.of (b _ _ e)),c⟩
 ·obtain⟨l,a,e,d,f⟩:=RepR.toL r b q;exact⟨l,a,e,.inl d,f⟩
section
variable {X:Cx}
theorem WC:vK X (.builtin "len") yC:=⟨_,WV,λo F H s t b Q d u r q k=>by
 obtain⟨x,rfl⟩:=tL rfl (λ_ _ _=>rfl) q;obtain⟨v,rfl,g⟩:=vF r;have f:∀a,(yc x=aa a\/zS x=aa a)->b=.val (.int a.length)->∃p c,[v]=[V.ref p]/\(SqL X.K H p c\/SqT X.K H p c)/\Q (.int c.length) H:=λa h e=>by
  obtain⟨l,i,j,m,n⟩:=RepR.seq g d h;subst e j;exact⟨l,i,rfl,m,by rw[n.length];exact k _ F H (Ex.refl d) (.int _)⟩
 simp only[yC]at q;split at q
 ·rename_i a h;exact f a (.inl h) (aO q).symm
 ·obtain⟨a,h,q⟩:=zJ q;exact f a (.inr h) q.symm⟩
theorem WD:vK X (.builtin "len") ya:=⟨_,WX,λg F H h i a Q b j r q k=>by
 obtain⟨x,rfl⟩:=tL rfl (λ_ _ _=>rfl) q;obtain⟨v,rfl,c⟩:=vF r;obtain⟨z,d,q⟩:=ze q;obtain⟨e,f⟩:=xS q;cases f;cases xi d;cases xw c;exact⟨z,rfl,vX e,k _ F H (Ex.refl b) (.int _)⟩⟩
theorem WM:vK X (.type "tuple") wO:=⟨_,W6,λj F H m n c Q a o r q k=>by
 obtain⟨x,rfl⟩:=tL rfl (λ_ _ _=>rfl) q;obtain⟨v,rfl,d⟩:=vF r;obtain⟨s,e,q⟩:=zJ q;cases q;obtain⟨l,f,g,h,i⟩:=RepR.toL d a e;subst g;exact⟨l,f,rfl,.inl ⟨h,λp b=>k _ _ _ (Ex.alloc a b) (.tup yz (i.mono (Same.alloc (a.free b))))⟩⟩⟩
end
noncomputable def sK:D->String
 |.non=> "NoneType"|.bl _=> "bool"|.int _=> "int"|.str _=> "str"|.tup _=> "tuple"|.lst _=> "list"|.dic _ _=> "dict"|.ins _ _ _=> ""|.dcI _ _=> ""|.dcS _ _=> ""
noncomputable def tK:D->Bool
 |.ins _ _ _=>true|.dcI _ _=>true|.dcS _ _=>true|.non=>false|.bl _=>false|.int _=>false|.str _=>false|.tup _=>false|.lst _=>false|.dic _ _=>false
def rK(T:String)(d:D):Bool:=sK d==T || (T == "int" && sK d == "bool")
def va(T:String):Ent->Option Ent
 |.val d=>if tK d=true then ab else aa (.val (.bl (rK T d)))
 | _=>ab
theorem SE{K:ae}{T:String}(a:T = "bool" \/ T = "int" \/ T = "str" \/ T = "tuple" \/ T = "list")(d:D)(h:tK d=false):CV K (.type (sK d)) (.type T)=aa (rK T d):=by
 rcases a with rfl|rfl|rfl|rfl|rfl <;> cases d <;> first|(cases h;done)|kernel_rfl
theorem NI{K:ae}{F H:Hp}{v:V}{d:D}(a:Same F H)(r:Rep F v d)(h:tK d=false):TyOf K H v (.type (sK d)):=by
 cases r with
 |non=>exact .non
 |bl b=>exact .bl b
 |int i=>exact .int i
 |str z=>exact .str z
 |tup e _=>exact .tup (a _ _ e)
 |lst e _=>exact .lst (a _ _ e)
 |dic e _ _=>exact .dK (.inr ⟨_,a _ _ e⟩)
 |ins _ _ _=>cases h
 |dcI _ _ _ _=>cases h
 |dcS _ _ _=>cases h
section
variable {X:Cx}{a:Expr}{fa:FE}{x:Str}{p p1 pos:Pos}{T:String}{Tn:Str}
theorem KU(l:VE X a fa)(n:Gl X "isinstance")(o:X.mg "isinstance" =ab)(r:eg "isinstance" =aa (.builtin "isinstance"))(f:Gl X Tn)(g:X.mg Tn=ab)(i:eg Tn=aa (.type T))(u:T = "bool" \/ T = "int" \/ T = "str" \/ T = "tuple" \/ T = "list" :=by decide)
  (h1:zK a=true:=by rfl) (hn:Tn≠ "__name__" :=by decide) (y:(Tn==("__debug__" : Str))=false:=by decide):VE X (.Call (.Name "isinstance" p) [a,.Name Tn p1] [] pos) (zo (va T) fa):=by
 obtain⟨t,w,m⟩:=l.h;refine⟨_,XB WU n o r (vZ w (vZ (Jm f g i hn y) uJ) h1) (h1:=h1),λB F H z A res Q s q k=>?_⟩;obtain⟨e,C,q⟩:=ze q;cases e with
 |val d=>
  have b:(if tK d=true then ab else aa (Ent.val (.bl (rK T d))))=aa res:=q;cases c:tK d with
  |true=>rw[if_pos c]at b;cases b
  |false=>
   rw[if_neg (by rw[c];exact aK)]at b;cases b;exact m B F H z A _ _ s C λv E G j I=>⟨v,T,_,_,rfl,NI j.fh I c,SE u d c,k _ E G j (.bl _)⟩
 | _=>cases q
end
noncomputable def iL(fe:FE):FI:=λb=>(fe b).bind λx=>match x with
 |.val (.lst a)=>aa a
 |.own a=>aa a
 | _=>ab
noncomputable def iB(i:Nat):FI:=λa=>match a[i]? with
 |some (aa (.bor b))=>aa b
 | _=>ab
def iT(fe:FE):FI:=λa=>(fe a).bind yc
def ww(j:Int):Prop:=-(2 ^ 62)<=j/\j<2 ^ 62
theorem vg{j:Int}(h:-1000000000<j/\j<1000000000):ww j:=by unfold ww;lia
theorem uL{j:Int}(h:-1000000000<j/\j<1000000000):ww j=True:=eq_true (vg h)
noncomputable def yT(a:FA):FI:=λb=>(a b).bind λc=>match c with
 |[e]=>(zr e).bind λj=>yY (ww j) (aa ((ak j.toNat).map λ(i:Nat)=>D.int (0+i)))
 | _=>ab
noncomputable def tF(a:FA):FI:=λb=>(a b).bind λc=>match c with
 |[e,d]=>(zr e).bind λi=>(zr d).bind λj=>yY (ww i/\ww j) (aa ((ak (j-i).toNat).map λ(k:Nat)=>D.int (i+k)))
 | _=>ab
theorem mJ{K:ae}{B b:Hp}{a:ah}{vs:List V}{ds:List D}(h:∀F H,Same b F->Same F H->Same B H->SqL K H a vs)(r:Reps b vs ds):v4 B b (nr K a) ds:=λF H s1 f j=>by
 have c:=h F H s1 f j;refine⟨⟨vs,c,by rw[r.length];exact aj _⟩,λi d e=>?_⟩;obtain⟨v,g,k⟩:=r.get e;refine⟨⟨vs,v,c,g⟩,λx m y=>?_⟩;obtain⟨l,y⟩:=y;subst l;have:=y vs c;rw[g]at this;cases this;exact⟨F,Ex.refl f,Rep.mono s1 k⟩
theorem Te{K:ae}{B b:Hp}{a:ah}{vs:List V}{ds:List D}(h:b a=aa (.tup vs))(r:Reps b vs ds):v4 B b (nt K a) ds:=λF H s1 f l=>by
 have c:SqT K H a vs:=SqT.of (f _ _ (s1 _ _ h));refine⟨⟨vs,c,by rw[r.length];exact aj _⟩,λi d e=>?_⟩;obtain⟨v,g,j⟩:=r.get e;refine⟨⟨vs,v,c,g⟩,λx m y=>?_⟩;obtain⟨k,y⟩:=y;subst k;have:=y vs c;rw[g]at this;cases this;exact⟨F,Ex.refl f,Rep.mono s1 j⟩
theorem bp{lo:Int}{n:Nat}:v4 B F0 (sQ lo n) ((ak n).map λ(i:Nat)=>D.int (lo+i)):=λF H s1 b f=>by
 refine⟨by simp[sQ],λi d e=>?_⟩;rw[av]at e;by_cases a:i<n
 ·rw[a6 a]at e;cases e;refine⟨a,λx g y=>?_⟩;obtain⟨c,y⟩:=y;subst c y;exact⟨F,Ex.refl b,.int _⟩
 ·rw[iq (by simp;lia)]at e;cases e
section
variable {X:Cx}{tg e b:Expr}{es:List Expr}{fe:FE}{fa:FA}{p pos:Pos}{x:Str}
theorem UO(h:VE X e fe):VI X tg e (iL fe):=by
 obtain⟨t,w,m⟩:=h.h;refine⟨_,il w,λB F H j l n R s q k=>?_⟩;obtain⟨r,o,q⟩:=ze q;refine m B F H j l r _ s o λv f g a i=>?_;split at q
 ·cases q;cases (show Rep f v (.lst n)from i)with
  |lst e c=>exact⟨_,rfl,⟨_,SqL.of (a.fh _ _ e)⟩,k _ f g a (mJ (λF H s1 d _=>SqL.of (d _ _ (s1 _ _ e))) c)⟩
 ·cases q;obtain⟨u,x2,_,y⟩:=RepR.frz a (Same.refl _) i rfl;cases y with
  |lst e c=>exact⟨_,rfl,⟨_,SqL.of (x2.fh _ _ e)⟩,k _ u g x2 (mJ (λF H s1 d _=>SqL.of (d _ _ (s1 _ _ e))) c)⟩
 ·cases q
theorem UJ(i:Nat)(d:X.N[i]? =aa x:=by rfl)(f:wm X.env.scope x:=by first|exact eS rfl|exact ef (eS rfl)|exact ef (ef rfl))(g:(x==("__debug__" : Str))=false:=by decide)
  (a:(x==("__classdict__" : Str))=false:=by decide):VI X tg (.Name x pos) (iB i):=by
 refine⟨_,il (wv i d f g a),λB F H o r t R s q k=>?_⟩;unfold iB at q;split at q
 ·rename_i es e;cases q;obtain⟨v,h,l,j,e,c,m⟩:=s.ent i _ e;exact⟨v,h,l,e,⟨j,s.bh.seq c⟩,k _ F H (Ex.refl s.fh) (mJ (λF H _ _ n=>n.seq c) m)⟩
 ·cases q
theorem UT(h:VE X e fe):VI X tg e (iT fe):=by
 obtain⟨t,w,m⟩:=h.h;refine⟨_,it w,λB F H d f g R s q k=>?_⟩;obtain⟨r,i,q⟩:=ze q;refine m B F H d f r _ s i λv a j c l=>?_;cases vJ q;cases (show Rep a v (.tup g)from l)with
 |tup e n=>exact⟨_,rfl,⟨_,SqT.of (c.fh _ _ e)⟩,k _ a j c (Te e n)⟩
theorem UQ(c:Gl X "range")(d:X.mg "range" =ab)(f:VA X [e] fa)(h1:zK e=true:=by rfl):VI X tg (.Call (.Name "range" p) [e] [] pos) (yT fa):=by
 obtain⟨t,w,m⟩:=f.h;refine⟨_,U1 c d w h1,λB F H g i C R s q k=>?_⟩;obtain⟨es,l,q⟩:=ze q;refine m B F H g i es _ s l λE n o r u=>?_;split at q
 ·obtain⟨j,y,q⟩:=ze q;obtain⟨a,z⟩:=xS q;cases z;cases wz y;obtain⟨v,rfl,A⟩:=vF u;cases wf A;exact⟨j,rfl,a.1,a.2,k _ n o r bp⟩
 ·cases q
theorem UR(c:Gl X "range")(d:X.mg "range" =ab)(f:VA X [e,b] fa)(h1:zK e=true:=by rfl)(g:zK b=true:=by rfl):VI X tg (.Call (.Name "range" p) [e,b] [] pos) (tF fa):=by
 obtain⟨t,w,m⟩:=f.h;refine⟨_,U2 c d w h1 g,λB F H l n I R s q k=>?_⟩;obtain⟨es,o,q⟩:=ze q;refine m B F H l n es _ s o λJ r u v y=>?_;split at q
 ·obtain⟨i,z,q⟩:=ze q;obtain⟨j,A,q⟩:=ze q;obtain⟨a,C⟩:=xS q;cases C;cases wz z;cases wz A;cases y with
  |cons E rt=>
   obtain⟨K,rfl,G⟩:=vF rt;cases wf E;cases wf G;exact⟨i,j,rfl,⟨a.1.1,a.1.2,a.2.1,a.2.2⟩,k _ r u v bp⟩
 ·cases q
end
end L3

namespace L3
open PySem PySem.Spec PyProof.Rows L2
section
variable {prog:aN}{w:aR}{A:a4}{R:Result->ag->Prop}{I:ah}{fp wr:List ah}{n:Nat}{P:Nat->af->Prop}{St:Nat->aX->Prop}{kw:List (Str×af)}
theorem Rv(W:Walks prog w A.in1 I fp wr n P St)(bt:Nat->Nat->Bool)(Q:CmpOf prog w A.in1 .Lt P bt)(S:ah)(y:S∉fp) :
  ∀(k j:Nat) (s:ag) (m:af) (c:Nat),n-(j+1)=k->j+1<=n->St (j+1) s.heap->P (argBest bt j) m ->
  s.heap.get? S=aa { cls:=.type "list",dict:=ab,data:=.seq #[m,m] c,slots:=#[]} ->
  (∀v G H,P (argBest bt (n-1)) v->(∀b o,b∉wr->b≠S->s.heap.get? b=aa o->G.get? b=aa o)->R (.ok (.ret v)) { s with heap:=G,toks:=H}) ->
  codeAny (model prog w) A (.builtin "min.loop" ⟨[.ref I,.none,.ref S],kw⟩) R s:=by
 have z:S∉wr:=λh=>y (W.sub _ h);have B:(toString "min" ++ toString ".loop" : String) = "min.loop" :=by decide
 intro k
 induction k with
 |zero=>
  intro j s m c T U r p C J;have E:j+1=n:=by lia
  refine codeAny_builtin Ak ?_;rw[eT ig _];show au _ A.in1 (seqItems? (.ref S) >>= _) _ _ s;refine ac (wpAny_seqItems C rfl ?_);show au _ A.in1 (tryCatch (pyNext (.ref I)) _ >>= _) _ _ s;refine ac (wpAny_tryCatch (W.done s _ _ (E ▸ r) λG H d=>?_));have g:=d S _ z C;show au _ A.in1 (updateSeq S (λ_=>#[]) >>= _) _ _ _;refine ac ?_;refine wpAny_updateSeq g rfl (ac (wpAny_letGo (am ?_)));exact J m _ H (by rw[<- E];exact p) λb o a f e=>(ib _ _ (iM f)).trans (d b o a e)
 |succ k M=>
  intro j s m c T U r p C J;have t:j+1<n:=by lia
  refine codeAny_builtin Ak ?_;rw[eT ig _];show au _ A.in1 (seqItems? (.ref S) >>= _) _ _ s;refine ac (wpAny_seqItems C rfl ?_);show au _ A.in1 (tryCatch (pyNext (.ref I)) _ >>= _) _ _ s;refine ac (wpAny_tryCatch (W.item (j+1) s _ _ t r λv G H N q d=>?_));have g:=d S _ z C;show au _ A.in1 (tryCatch (holding [v,v] (richCompare .Lt v m >>= _)) _ >>= _) _ _ _;refine ac (wpAny_tryCatch (e6 (ac (Q (j+1) (argBest bt j) v m _ _ _ N p ?_))));refine ac (e6 (wpAny_truthy_bool ?_));refine ac (wpAny_letGo (am ?_));cases O:bt (j+1) (argBest bt j)with
  |true=>
   simp only[if_true];refine ac ?_;refine wpAny_updateSeq g rfl (ac (wpAny_letGo ?_));rw[B];refine am ⟨plainId_quiet ig _,M (j+1) _ v _ (by lia) t (W.frame _ _ _ q λb K o e=>?_) (by simp only[argBest,O,if_true];exact N) (iX _ g rfl) λL u i x l=>?_⟩
   ·exact(ib _ _ (λh:S=b=>y (by rw[h];exact K))).trans e
   ·exact J L u i x λb o a f e=>l b o a f ((ib _ _ (iM f)).trans (d b o a e))
  |false=>
   simp only[ei,if_false];refine ac (wpAny_letGo ?_);rw[B];refine am ⟨plainId_quiet ig _,M (j+1) _ m c (by lia) t q (by simp only[argBest,O,ei,if_false];exact p) g λL u i x l=>?_⟩;exact J L u i x λb o a f e=>l b o a f (d b o a e)
theorem Rx(W:Walks prog w A.in1 I fp wr n P St)(bt:Nat->Nat->Bool)(B:CmpOf prog w A.in1 .Lt P bt)(S:ah)(a:S∉fp)(hn:0<n){s:ag}{c:Nat}(m:St 0 s.heap)
  (y:s.heap.get? S=aa { cls:=.type "list",dict:=ab,data:=.seq #[] c,slots:=#[]})
  (C:∀v p z,P (argBest bt (n-1)) v->(∀b o,b∉wr->b≠S->s.heap.get? b=aa o->p.get? b=aa o)->R (.ok (.ret v)) { s with heap:=p,toks:=z}) :
  codeAny (model prog w) A (.builtin "min.loop" ⟨[.ref I,.none,.ref S],kw⟩) R s:=by
 have q:S∉wr:=λh=>a (W.sub _ h);have r:(toString "min" ++ toString ".loop" : String) = "min.loop" :=by decide
 refine codeAny_builtin Ak ?_;rw[eT ig _];show au _ A.in1 (seqItems? (.ref S) >>= _) _ _ s;refine ac (wpAny_seqItems y rfl ?_);show au _ A.in1 (tryCatch (pyNext (.ref I)) _ >>= _) _ _ s;refine ac (wpAny_tryCatch (W.item 0 s _ _ hn m λv p z E d f=>?_));have g:=f S _ q y;show au _ A.in1 (updateSeq S (λ_=>#[v,v]) >>= _) _ _ _;refine ac ?_;refine wpAny_updateSeq g rfl ?_;rw[r];refine am ⟨plainId_quiet ig _,Rv W bt B S a _ 0 _ v _ rfl hn (W.frame _ _ _ d λb t o e=>?_) E (iX _ g rfl) λG u i x j=>?_⟩
 ·exact(ib _ _ (λh:S=b=>a (by rw[h];exact t))).trans e
 ·exact C G u i x λb o k l e=>j b o k l ((ib _ _ (iM l)).trans (f b o k e))
theorem Rw{d:af}(W:Walks prog w A.in1 I fp wr n P St)(S:ah)(j:S∉fp)(hn:n=0){s:ag}{c:Nat}(f:St 0 s.heap)
 (k:s.heap.get? S=aa { cls:=.type "list",dict:=ab,data:=.seq #[] c,slots:=#[]})
 (l:∀a g,(∀b o,b∉wr->b≠S->s.heap.get? b=aa o->a.get? b=aa o)->R (.ok (.ret d)) { s with heap:=a,toks:=g}) :
 codeAny (model prog w) A (.builtin "min.loop" ⟨[.ref I,.none,.ref S],[(kn,d)]⟩) R s:=by
  refine codeAny_builtin Ak ?_;rw[eT ig _];show au _ A.in1 (seqItems? (.ref S) >>= _) _ _ s;refine ac (wpAny_seqItems k rfl ?_);show au _ A.in1 (tryCatch (pyNext (.ref I)) _ >>= _) _ _ s;refine ac (wpAny_tryCatch (W.done s _ _ (hn ▸ f) λa g h=>?_));show au _ A.in1 (rule _ >>= _) _ _ _;refine ac (wpAny_rule ?_);exact am (l a g λb o i _ e=>h b o i e)
end
section
variable {prog:aN}{w:aR}{A:a4}{E:af->ag->Prop}{s:ag}{l:ah}{xs:Array (Int×Tok)}{d:af}
theorem Wl(a d:af):argsOk "min" ⟨[a],[(iC "default",d)]⟩:=by unfold argsOk;kernel_rfl
theorem W1{Q:af->ag->Prop}(y:A.handled=ab)(z:s.heap.IsList l (intItems xs))
  (h1:∀v a f,0<xs.size->(intItems xs)[argBest (λi j=>decide (numAt xs i<numAt xs j)) (xs.size-1)]? =aa v->(∀b o,s.heap.get? b=aa o->a.get? b=aa o)->Q v { s with heap:=a,toks:=f})
  (B:∀a f,xs.size=0->(∀b o,s.heap.get? b=aa o->a.get? b=aa o)->Q d { s with heap:=a,toks:=f}) :
  au (model prog w) A (call (.builtin "min") [.ref l] [(iC "default",d)]) Q E s:=by
 have k:(toString "min" ++ toString ".loop" : String) = "min.loop" :=by decide
 refine kmb_tree PySem.F.kind_min PySem.F.plain_min PySem.F.entry_min (Wl _ _) ?_;show au _ A.in1 (BK "min" ["key","default"] 0 ⟨[],[(iC "default",d)]⟩ >>= _) _ _ s;refine ac (wpAny_of_eq (show BK "min" ["key","default"] 0 ⟨[],[(iC "default",d)]⟩=pure [ab,aa d]from rfl) ?_);refine ac (am ?_);refine ac (iter_intList z λr e t m n=>?_);subst e;refine ac (wpAny_newObj_type ?_);rw[k];have W:=Fg (prog:=prog) (w:=w) (A:=A.in1) y s.heap.objs.size l n (intItems xs);have p:(intItems xs).size=xs.size:=by simp[intItems]
 have g:(s.heap.push { cls:=.type "list_iterator",data:=.fields #[.ref l,.int 0 0]}).objs.size∉[s.heap.objs.size,l]:=λq=>eQ _ (m _ q);have c:∀a:aX,(∀b o,b∉[s.heap.objs.size]->b≠(s.heap.push { cls:=.type "list_iterator",data:=.fields #[.ref l,.int 0 0]}).objs.size->((s.heap.push { cls:=.type "list_iterator",data:=.fields #[.ref l,.int 0 0]}).push { cls:=.type "list",data:=.seq ([]:List af).toArray}).get? b=aa o->a.get? b=aa o)->∀b o,s.heap.get? b=aa o->a.get? b=aa o:=λa h b o e=>by
  refine h b o (λq=>?_) (λu=>?_) (ai _ (ai _ e))
  ·exact absurd (aA e) (by rw[aL.mp q];exact eQ _)
  ·have h1:=aA e;rw[ii]at u;exact absurd h1 (by rw[u];exact Cd.mpr (oj _))
 by_cases x:xs.size=0
 ·refine am ⟨plainId_quiet ig _,Rw W _ g (by rw[p];exact x) (W.frame _ _ _ t λb _ o e=>ai _ e) (ax _ rfl) λa f h=>?_⟩;exact B a f x (c a h)
 ·refine am ⟨plainId_quiet ig _,Rx W _ (CmpOf.ints_lt (numAt xs) (λ_ _=>intItems_at)) _ g (by lia) (W.frame _ _ _ t λb _ o e=>ai _ e) (ax _ rfl) λv a f C h=>?_⟩;exact h1 v a f (by lia) (by simpa [intItems] using C) (c a h)
end
def bj:D->Option Int
 |.int i=>aa i
 | _=>ab
noncomputable def ug:List D->Option (List Int)
 |[]=>aa []
 |d::a=>(bj d).bind λi=>(ug a).map λb=>i::b
noncomputable def tJ:List Int->Option Int
 |[]=>ab
 |i::c=>aa (c.foldl (λa b=>if b<a then b else a) i)
theorem mH{ns:List Int}(h:Reps F a b)(q:ug b=aa ns):a=ns.map V.int:=by
 refine h.ind (P:=λa b=>∀ns,ug b=aa ns->a=ns.map V.int) (λns q=>?_) (fun {v d a b} r t c ns q=>?_) ns q
 ·cases q;rfl
 ·simp only[ug]at q;obtain⟨i,e,q⟩:=ze q;obtain⟨g,f,q⟩:=zJ q;cases q;cases d <;> cases e;cases r;rw[ay,c _ f]
theorem Xw:∀{ns:List Int} {us:List af},Vals (ns.map V.int) us->∃l:List (Int×Tok),us=l.map (λp=>Bm p.1 p.2)/\l.map (·.1)=ns
 |[],us,r=>by
  rw[ij]at r;cases r;exact⟨[],rfl,rfl⟩
 |n::ns,us,r=>by
  rw[ay]at r;cases r with
  |cons h t=>
   obtain⟨a,e⟩:=h;subst e;obtain⟨l,zo,zc⟩:=Xw t;exact⟨(n,a)::l,by rw[zo];rfl,by rw[ay,zc]⟩
theorem cO(val:Nat->Int):∀k,val (argBest (λi j=>decide (val i<val j)) k)=((ak k).map λi=>val (i+1)).foldl (λa b=>if b<a then b else a) (val 0)
 |0=>rfl
 |k+1=>by
  rw[iA,eI,Dx,<- cO val k];have e:argBest (λi j=>decide (val i<val j)) (k+1)=if decide (val (k+1)<val (argBest (λi j=>decide (val i<val j)) k))=true then k+1 else argBest (λi j=>decide (val i<val j)) k:=rfl
  rw[e];generalize argBest (λi j=>decide (val i<val j)) k=z;simp only[decide_eq_true_eq,ay,ij,oo,List.foldl_nil];split <;> rfl
theorem Rs{l:List (Int×Tok)}(hn:0<l.length):tJ (l.map (·.1))=aa (numAt l.toArray (argBest (λi j=>decide (numAt l.toArray i<numAt l.toArray j)) (l.length-1))):=by
 cases l with
 |nil=>simp at hn
 |cons p l=>
  rw[cO (numAt (p::l).toArray)];show aa _=aa _;congr 1;rw[show(p::l).length-1=l.length by simp];have b:numAt (p::l).toArray 0=p.1:=by simp[numAt]
  have zo:(ak l.length).map (λi=>numAt (p::l).toArray (i+1))=l.map (·.1):=by
   apply Bb
   ·simp
   ·intro i a c;simp at a;simp[numAt,a]
  rw[b,zo]
section
variable {X:Cx}
theorem UY{s:ag}{p:ah}{ns:List Int}(I:Inv X pins σ H s)(h:SqL X.K H p (ns.map V.int)):∃l:List (Int×Tok),s.heap.IsList p (intItems l.toArray)/\l.map (·.1)=ns:=by
 obtain⟨a,r,pl,_⟩:=I.list h;obtain⟨l,zo,zc⟩:=Xw r;refine⟨l,?_,zc⟩;have:=pl.isList;rw[zo]at this;simpa [intItems] using this
def k0:Ent->Ent->Option Ent:=λx y=>(zS x).bind λa=>(ug a).bind λb=>match tJ b with
 |some m=>aa (.val (.int m))
 |none=>match y with
  |.val d=>aa (.val d)
  | _=>ab
def jZ(K:ae):R2:=λx y H Q=>∃(q:ah) (a:List Int),x=.ref q/\SqL K H q (a.map V.int)/\Q (match tJ a with|some m=>.int m|none=>y) H
theorem K6(N:VE X a fa)(O:VE X d fd)(P:Gl X "min")(i:X.mg "min" =ab)(R:eg "min" =aa (.builtin "min"))(S:X.calm=true:=by rfl)(o:zK a=true:=by rfl) :
 VE X (.Call (.Name "min" p) [a] [⟨aa "default",d,kpos⟩] pos) (zc k0 fa fd):=by
  obtain⟨T,U,Y⟩:=N.h;obtain⟨M,wd,Z⟩:=O.h;refine⟨uq (jZ X.K) T M,⟨?_⟩,.op ?_ Y Z⟩
  · intro c s r H Q I h;refine iJ (vD I P i R ?_ (by decide) (by decide));have hA:=(vZ U uJ o).h pos c s r H (λxs u=>match xs with|[x]=>M r u λy f=>jZ X.K x y f Q | _=>False) I h;refine EC (zu hA λus s1 j=>?_) (by rw[xc o];rfl) (by rw[xc o];rfl);obtain⟨vs,u,I1,r1,g⟩:=j;cases r1 with
    |nil=>exact iG g
    |cons w rt=>
      cases rt with
      |cons _ _=>exact iG g
      |nil=>
        have hK:=PM (nm:=aa (iC "default")) (kpos:=kpos) wd.h PN pos c s1 r u (λys f=>match ys with|[y]=>jZ X.K _ y f Q | _=>False) I1 g;refine zu hK λws s2 z=>?_;obtain⟨zs,f,n,r2,b⟩:=z;cases r2 with
        |nil=>exact iG b
        |cons A B=>
          cases B with
          |cons _ _=>exact iG b
          |nil=>
            obtain⟨q,C,rfl,hq,b⟩:=b;cases w;obtain⟨l,hl,e⟩:=UY n hq;subst e;refine W1 (n.ok.hd S) hl (λv h' E G hv J=>?_) λh' E G J=>?_
            · obtain⟨t,e⟩:=intItems_at hv;subst e;rw[Rs (by simpa using G)]at b;exact⟨.int _,f,n.kept (t':=E) J,⟨t,by simp⟩,b⟩
            · have e:l=[]:=oE (by simpa using G);subst e;exact⟨_,f,n.kept (t':=E) J,A,b⟩
  · intro H0 F H x y e e' res Q L hh w A q k;obtain⟨ds,g,q⟩:=ze q;obtain⟨C,b,q⟩:=ze q;obtain⟨l,ws,el,j,z⟩:=RepR.toL w L g;rw[mH z b]at j;refine⟨l,C,el,j,?_⟩;cases i:tJ C with
    |some m=>simp only[i]at q ⊢;cases q;exact k _ F H (Ex.refl L) (.int _)
    |none=>
      simp only[i]at q ⊢;cases e' with
      |val d=>cases q;exact k _ F H (Ex.refl L) A
      | _=>cases q
end
end L3

namespace L3
open PySem PySem.Spec PyProof.Rows L2
def vG(z:Str):List Str:=z.cps.toList.map λc=>⟨#[c]⟩
theorem wG(l:List Nat):(mkS l).cps.toList=l:=by simp[mkS]
theorem Ru(z:Str):mkS z.cps.toList=z:=by cases z;simp[mkS]
theorem yj(l:List Nat):(mkS l).length=l.length:=by simp[mkS,Bx]
noncomputable def kJ(n:Int)(v:Option Int)(d:Int):Int:=match v with
 |none=>d
 |some i=>max 0 (min (if i<0 then i+n else i) n)
theorem dJ(n:Nat)(v:Option Int)(d:Nat):kJ n v d=((HT.sIx n d v:Nat):Int):=by
 cases v with
 |none=>rfl
 |some i=>
  show max 0 (min (if i<0 then i+(n:Int)else i) n)=(((if i<0 then (i+(n:Int)).toNat else min i.toNat n:Nat)):Int)
  by_cases h:i<0
  ·rw[if_pos h,if_pos h];lia
  ·rw[if_neg h,if_neg h];lia
theorem Lm(lo hi:Option Int)(n:Nat):i5 lo hi 1 n=i5 (aa ((HT.sIx n 0 lo:Nat):Int)) (aa ((HT.sIx n n hi:Nat):Int)) 1 n:=by
 have zo:∀a:Nat,a<=n->max (0:Int) (min (if (a:Int)<0 then (a:Int)+n else a) n)=a:=λa h=>by
  rw[if_neg (by lia)];lia
 unfold i5;simp only[show((1:Int) > 0)=True from by simp,if_true];rw[zo _ (HT.sIx_le n 0 (aM n) lo),zo _ (HT.sIx_le n n (aj n) hi)];show sliceRange (kJ n lo ((0:Nat):Int)) (kJ n hi (n:Int)) 1=_;rw[dJ,dJ]
theorem MW(x:Str)(lo hi:Option Int):Ea x lo hi=mkS (zH x.cps.toList lo hi):=by
 have f:x.cps.toList.length=x.length:=by simp[Bx]
 unfold Ea zH;rw[Lm,f];have i:=HT.sIx_le x.length 0 (aM _) lo;have d:=HT.sIx_le x.length x.length (aj _) hi;generalize HT.sIx x.length 0 lo=a at i;generalize HT.sIx x.length x.length hi=b at d;by_cases c:a<=b
 ·rw[Bz c d];split
  ·rename_i h;have g:b-a=x.length:=by simpa using h
   have j:a=0:=by lia
   subst j;rw[BE,g,<- f,Bc,Ru]
  ·rw[<- Bz c d,StrLaws.sliced_plain x c d];rfl
 ·have e:i5 (aa (a:Int)) (aa (b:Int)) 1 x.length=[]:=by
   have k:¬ ((a:Int)<0):=by lia
   have l:¬ ((b:Int)<0):=by lia
   have zo:max (0:Int) (min (a:Int) (x.length:Int))=a:=by lia
   have zc:max (0:Int) (min (b:Int) (x.length:Int))=b:=by lia
   simp only[i5,k,l,if_false,zo,zc,show((1:Int) > 0)=True from by simp,if_true,sliceRange];rw[if_neg (by lia)];simp
  rw[e];split
  ·rename_i h;have g:0=x.length:=by simpa using h
   lia
  ·rw[show b-a=0 by lia,D9];rfl
section
variable {X:Cx}
theorem MR:tW X (λx f g H Q=>∃z,x=.str z/\z.length<=aS/\Q (.str (mkS (zH z.cps.toList f g))) H):=by
 intro a s p H x v A B f g C Q I r w pl n h;obtain⟨z,rfl,b,q⟩:=h;obtain⟨t,rfl⟩:=r;obtain⟨o,c,d,e⟩:=w;refine⟨"str",_,Cm.lookup,typeIs_str _ _ _,?_⟩;have z9:∀m k,EP X a p Q (.str (Ea z f g) m) { s with toks:=k}:=λm k=>⟨.str _,H,I.tok k,⟨m,rfl⟩,by rw[MW];exact q⟩
 cases pl with
 |none=>
  cases n with
  |none=>exact wpAny_getItem_str_slice (l:=ab) (u:=ab) (st:=ab) ⟨o,c,d,e⟩ rfl (post_val_or_str ⟨aH (Cr z _ _) b,z9⟩)
  |int j u=>exact wpAny_getItem_str_slice (l:=ab) (u:=aa (j,u)) (st:=ab) ⟨o,c,d,e⟩ rfl (post_val_or_str ⟨aH (Cr z _ _) b,z9⟩)
 |int i u=>
  cases n with
  |none=>exact wpAny_getItem_str_slice (l:=aa (i,u)) (u:=ab) (st:=ab) ⟨o,c,d,e⟩ rfl (post_val_or_str ⟨aH (Cr z _ _) b,z9⟩)
  |int j y=>exact wpAny_getItem_str_slice (l:=aa (i,u)) (u:=aa (j,y)) (st:=ab) ⟨o,c,d,e⟩ rfl (post_val_or_str ⟨aH (Cr z _ _) b,z9⟩)
noncomputable def yS:Ent->Option Int->Option Int->Option Ent:=λx a b=>(zP x).bind λz=>yY (sz z.length) (aa (.val (.str (mkS (zH z.cps.toList a b)))))
theorem SI:ny X yS:=⟨_,MR,λh F H x i j e a Q b l c q k=>by
 obtain⟨z,d,q⟩:=ze q;obtain⟨f,g⟩:=xS q;cases g;cases xi d;exact⟨z,xw c,vX f,k _ F H (Ex.refl b) (.str _)⟩⟩
theorem Xx{z:Str}:∀{acc:List af} {k:Nat},(∀j v,acc[j]? =aa v->SignAt z (k+j) v)->Vals (((z.cps.toList.drop k).take acc.length).map λc=>V.str ⟨#[c]⟩) acc
 |[],k,_=>by simp;exact .nil
 |v::r,k,h=>by
  obtain⟨c,u,a,rfl⟩:=h 0 v rfl;have b:k<z.cps.toList.length:=by
   have:=(AD.mp a).1;simpa using this
  rw[ey b,aI,BB,ay];have e:z.cps.toList[k]=c:=by
   have:=AD.mp a;simpa using this.2
  rw[e];refine .cons ⟨u,rfl⟩ (Xx (k:=k+1) λj v d=>?_);have:=h (j+1) v (by simpa using d);rwa [show k+(j+1)=k+1+j by lia]at this
theorem Xs{z:Str}{acc:Array af}(h:ItemsOf (SignAt z) acc z.cps.size):Vals ((vG z).map V.str) acc.toList:=by
 obtain⟨a,b⟩:=h;have:=Xx (z:=z) (acc:=acc.toList) (k:=0) (λj v e=>by rw[aV];exact b j v (by simpa using e));rw[BE,show acc.toList.length=z.cps.toList.length by simpa using a,Bc]at this;unfold vG;rw[e7];exact this
theorem W5(j:X.calm=true):wT X (.type "tuple") (λc H Q=>∃z,c=[.str z]/\z.length<=1000000/\∀p,H p=ab->Q (.ref p) (zp H p (.tup ((vG z).map V.str)))):=by
 intro d s n H c v Q I r h;obtain⟨z,rfl,f,q⟩:=h;obtain⟨u,rfl,t,rfl⟩:=ur r;refine call_tuple_str (I.ok.hd j) z t (λk g a l m=>?_) (vX f);have i:=I.kept (t':=g) l;refine⟨.ref k.objs.size,_,i.laid (t':=g) (o:=.tup ((vG z).map V.str)) (λb o e=>ai _ e) (aj _) ⟨?_,a.toList,Xs m,⟨_,ax _ rfl,rfl,0,by simp⟩⟩,rfl,q _ (i.hok.fresh (aj _))⟩;rw[ar];unfold vG;rw[ar];exact vX f
theorem WY(g:X.calm=true):wT X (.type "list") (λb H Q=>∃z,b=[.str z]/\z.length<=1000000/\∀p,H p=ab->Q (.ref p) (zp H p (.lst ((vG z).map V.str)))):=by
 intro d s l H b m Q I r h;obtain⟨z,rfl,f,q⟩:=h;obtain⟨u,rfl,t,rfl⟩:=ur r;refine call_list_str (I.ok.hd g) z t (λn i a c j e k=>?_) (vX f);refine⟨.ref s.heap.objs.size,_,I.laid (t':=i) (o:=.lst ((vG z).map V.str)) j (aj _) ⟨?_,a.toList,c,Xs k,by simpa using e⟩,rfl,q _ (I.hok.fresh (aj _))⟩;rw[ar];unfold vG;rw[ar];exact vX f
theorem j7:∀(a:List Str),Reps F (a.map V.str) (a.map D.str)
 |[]=>.nil
 |z::a=>.cons (.str z) (j7 a)
noncomputable def je:List Ent->Option Ent
 |[x]=>(zP x).bind λz=>yY (sz z.length) (aa (.val (.tup ((vG z).map .str))))
 | _=>ab
noncomputable def kZ:List Ent->Option Ent
 |[x]=>(zP x).bind λz=>yY (sz z.length) (aa (.own ((vG z).map .str)))
 | _=>ab
theorem WN(a:X.calm=true:=by rfl):vK X (.type "tuple") je:=⟨_,W5 a,λi F H j l b Q c m r q k=>by
 obtain⟨x,rfl⟩:=tL rfl (λ_ _ _=>rfl) q;obtain⟨v,rfl,d⟩:=vF r;obtain⟨z,e,q⟩:=ze q;obtain⟨f,g⟩:=xS q;cases g;cases xi e;cases xw d;exact⟨z,rfl,f,λp h=>k _ _ _ (Ex.alloc c h) (.tup yz (j7 _))⟩⟩
theorem WF(c:X.calm=true:=by rfl):vK X (.type "list") kZ:=⟨_,WY c,λj F H l m d Q b e r q k=>by
 obtain⟨x,rfl⟩:=tL rfl (λ_ _ _=>rfl) q;obtain⟨v,rfl,f⟩:=vF r;obtain⟨z,g,q⟩:=ze q;obtain⟨h,i⟩:=xS q;cases i;cases xi g;cases xw f;exact⟨z,rfl,h,λp a=>k _ _ _ (Ex.lay b a) ⟨p,_,rfl,e.free a,yz,j7 _,b.free a⟩⟩⟩
end
noncomputable def wM(g:Ent->List Ent->Option Ent)(b:FE)(c:FA):FE:=λa=>(b a).bind λx=>(c a).bind λd=>g x d
structure MtD(X:Cx)(T:String)(name:Str)(g:Ent->List Ent->Option Ent):Prop where
 h:∃id r,PlainAttrs T/\Slot T name id/\typeOf (.builtin id)=pure (.type "method_descriptor")/\v5 X id r /\
  (∀(H0 F H:Hp) (x:V) (e:Ent) (es:List Ent) (res:Ent),Same F H->RepR X.K H0 F H x e->g e es=aa res->gp X.K T x H) /\
  ∀(H0 F H:Hp) (x:V) (vs:List V) (e:Ent) (es:List Ent) (res:Ent) (Q:VK),Same F H->Same H0 H->RepR X.K H0 F H x e->RepRs X.K H0 F H vs es->g e es=aa res->(∀v F' H',Ex F H F' H'->RepR X.K H0 F' H' v res->Q v H')->r x vs H Q
section
variable {X:Cx}{T:String}{name:Str}{g:Ent->List Ent->Option Ent}{o e:Expr}{es:List Expr}{fo:FE}{fs:FA}{apos cpos:Pos}
theorem Ky(M:MtD X T name g)(w:VE X o fo)(y:VA X (e::es) fs)(a:eZ o name X.env (eval o X.env)=eval o X.env:=by rfl)(z:decide ((e::es).length+0+0<30)=true:=by rfl)(b:(apos.endLine==cpos.line)=true:=by rfl)
  (h1:zK e=true:=by rfl) (A:es.all zK=true:=by rfl):VE X (.Call (.Attribute o name apos) (e::es) [] cpos) (wM g fo fs):=by
 obtain⟨t,C,E⟩:=w.h;obtain⟨ta,G,I⟩:=y.h;obtain⟨id,r,J,K,L,N,i,c⟩:=M.h;refine⟨_,pP J K L N C G a z b h1 A,λB F H l m d Q s q k=>?_⟩;obtain⟨x,O,q⟩:=ze q;obtain⟨j,P,q⟩:=ze q;refine E B F H l m x _ s O λv n p f u=>⟨i H n p v x j d f.fh u q,?_⟩
 refine I B n p l m j _ (s.ext f) P λR S U x2 Y=>?_;exact c H S U v R x j d Q x2.fh (f.trans x2).hh (u.ext x2) (Y.earlier f.hh) q λZ F' H' x3 r3=>k Z F' H' ((f.trans x2).trans x3) r3
end
def bn:D->Option Str
 |.str i=>aa i
 | _=>ab
noncomputable def tQ:List D->Option (List Str)
 |[]=>aa []
 |d::a=>(bn d).bind λi=>(tQ a).map λb=>i::b
theorem Lp{ns:List Str}(h:Reps F a b)(q:tQ b=aa ns):a=ns.map V.str:=by
 refine h.ind (P:=λa b=>∀ns,tQ b=aa ns->a=ns.map V.str) (λns q=>?_) (fun {v d a b} r t c ns q=>?_) ns q
 ·cases q;rfl
 ·simp only[tQ]at q;obtain⟨i,e,q⟩:=ze q;obtain⟨g,f,q⟩:=zJ q;cases q;cases d <;> cases e;cases r;rw[ay,c _ f]
theorem Xy:∀{ns:List Str} {us:List af},Vals (ns.map V.str) us->StrsAre us ns
 |[],us,r=>by rw[ij]at r;cases r;exact .nil
 |n::ns,us,r=>by
  rw[ay]at r;cases r with
  |cons h t=>
   obtain⟨a,e⟩:=h;subst e;exact .cons n a (Xy t)
section
variable {X:Cx}
theorem RB:v5 X "str.join" (λx b H Q=>∃(z:Str) (p:ah) (a:List Str),x=.str z/\b=[.ref p]/\SqL X.K H p (a.map V.str)/\(a.map (·.length)).sum+a.length*z.length<=16777216/\Q (.str (Cq z a)) H):=by
 intro c s m H x b v n Q I d r h;obtain⟨z,p,a,rfl,rfl,e,f,q⟩:=h;obtain⟨t,rfl⟩:=d;obtain⟨u,rfl,g⟩:=ur r;cases g;obtain⟨i,j,pl,_⟩:=I.list e;exact join_list pl.isList (by simpa using Xy j) f λl k=>⟨.str _,H,I.tok k,⟨l,rfl⟩,q⟩
noncomputable def sf:Ent->List Ent->Option Ent
 |x,[y]=>(zP x).bind λz=>(zS y).bind λb=>(tQ b).bind λa=>yY (sz ((a.map (·.length)).sum+a.length*z.length)) (aa (.val (.str (Cq z a))))
 | _,_=>ab
theorem Rf:MtD X "str" "join" sf:=by
 refine⟨_,_,A4,PySem.F.slot_str_join,PySem.F.type_str_join,RB,?_,?_⟩
 ·intro f F H x e g a b r q;unfold sf at q;split at q
  ·obtain⟨z,c,q⟩:=ze q;cases xi c;cases xw r;rfl
  ·cases q
 ·intro f F H x u e g a Q b v r h q k;unfold sf at q;split at q
  ·obtain⟨z,c,q⟩:=ze q;obtain⟨w,i,q⟩:=ze q;obtain⟨j,m,q⟩:=ze q;obtain⟨n,o⟩:=xS q;cases o;cases xi c;cases xw r;obtain⟨y,rfl,p⟩:=vF h;obtain⟨l,A,s,d,t⟩:=RepR.toL p b i;subst s;rw[Lp t m]at d;exact⟨z,l,j,rfl,rfl,d,by unfold sz at n;lia,k _ F H (Ex.refl b) (.str _)⟩
  ·cases q
end
end L3

namespace L3
open PySem PySem.Spec PyProof.Rows L2
theorem pq{b:Type}{us:List b}{n:Nat}(h:us.length=n+1):∃a t,us=a::t/\t.length=n:=by
 cases us with
 |nil=>cases h
 |cons a t=>exact⟨a,t,rfl,Dq h⟩
theorem Zf{b:Type}{us:List b}(h:us.length=1):∃c,us=[c]:=by
 obtain⟨a,t,rfl,d⟩:=pq h;cases oE d;exact⟨a,rfl⟩
theorem SW{c:Type}{us:List c}(h:us.length=2):∃a b,us=[a,b]:=by
 obtain⟨a,t,rfl,d⟩:=pq h;obtain⟨b,rfl⟩:=Zf d;exact⟨a,b,rfl⟩
theorem jD{d:Type}{us:List d}(h:us.length=3):∃a b c,us=[a,b,c]:=by
 obtain⟨a,t,rfl,e⟩:=pq h;obtain⟨b,c,rfl⟩:=SW e;exact⟨a,b,c,rfl⟩
theorem SX{e:Type}{us:List e}(h:us.length=4):∃a b c d,us=[a,b,c,d]:=by
 obtain⟨a,t,rfl,f⟩:=pq h;obtain⟨b,c,d,rfl⟩:=jD f;exact⟨a,b,c,d,rfl⟩
inductive FunE(K:ae)(x qual:Str)(st:Stmt)(f:ah)(fd:eR):Prop
 |mk (oc:af) (od:Option ah) (dV kV doc pm:af) (an:Option ah) (cdv ct:af) (osl:Array (Option af)):fd=iH x qual (vP st) (wU st) (xz st) dV kV doc pm an cdv ct->K.lookup f=aa ⟨oc,od,.func fd,osl⟩->oX K cdv qual=true->FunE K x qual st f fd
structure FunA(K:ae)(x qual:Str)(st:Stmt)(f:ah)(fd:eR):Prop where
 ex:FunE K x qual st f fd
 kp:i3 K (.ref f)=true
theorem FunA.of{K:ae}{x a:Str}{st:Stmt}{f:ah}{fd:eR}(F:Fun K x a st f fd):FunA K x a st f fd:=by
 obtain⟨h,i,kV,b,j,k,d,ct,g,e,l,c⟩:=F.ex;exact⟨⟨h,i,.none,kV,b,j,k,d,ct,g,e,l,c⟩,F.kp⟩
section
variable {P:aN}{w:aR}{K:ae}{mg:Str->Option af}{base:aX}{x qual:Str}{st:Stmt}{f:ah}{fd:eR}{N ps:List Str}{k:Nat}{ks:List Kd}{g:List D->Option Ent}
theorem kT(F:FunA K x qual st f fd)(S:FnScope N ps (xz st))(fb:FS)(hk:ks.length=ps.length)(hg:∀u r,g u=aa r->zw ks (N.length-ps.length) fb u=aa r)
  (j:∀(d:af) (A:a4) (c:List Env) (s:ag) (H:Hp) (E:XK),Room k (A.deeper (envOfC qual (xz st) s.heap.objs.size f d))->VSs (ti xJ P w K mg base N qual (xz st) f d A c s H E).nox (wU st) fb) :
  FnOk P w K mg base xJ (k+1) f fd ps (u0 K ks g):=by
 obtain⟨oc,od,dV,kV,doc,pm,an,d,ct,osl,rfl,lk,L⟩:=F.ex;refine cJ lk L S (λM H Q E h=>?_) λA c s H M Q E hr h=>?_
 ·obtain⟨F,u,r,_,a,_⟩:=h;rw[a.length,hk]
 ·obtain⟨F,u,r,fh,a,q,kk⟩:=h;obtain⟨t,wt,m⟩:=(j d A c s H E hr).h;refine⟨t,wt.h.nox,?_⟩;obtain⟨G,O,q2⟩:=ze (hg u r q);obtain⟨B,q3,I⟩:=ze q2;obtain⟨hl,R⟩:=a.start O;have hvs:=a.length;have n:∀(i:Nat) (e:Ent),(G++aB (N.length-ps.length) ab)[i]? =aa (aa e)->G[i]? =aa (aa e):=λi e h=>by
   by_cases hi:i<G.length
   ·rwa [ia hi]at h
   ·rw[iP (by lia),Ab]at h;split at h <;> cases h
  have s0:RS K ⟨H,ab⟩ F H (L2.start N M) (G++aB (N.length-ps.length) ab):=by
   refine⟨fh,Same.refl H,?_,λi e h=>?_,λa b l u e T J=>?_,λa b e1 e2 v1 v2 ad T O _ _ _ q5 _ _=>?_,λw o hw _=>by cases hw⟩
   ·unfold L2.start;simp only[aJ,ar,oh];lia
   ·obtain⟨⟨v,J,h2⟩,_⟩:=R i e (n i e h);refine⟨v,?_,h2⟩;unfold L2.start;rw[ia (by rw[ar];exact(aQ.mp J).1),av,J];rfl
   ·have:=(R a _ (n a _ J)).2.1;cases this
   ·obtain⟨_,_,ho⟩:=R a _ (n a _ O);rw[ho]at q5;cases q5
  refine m ⟨H,ab⟩ F H (L2.start N M) _ B _ s0 q3 ?_;cases B with
  |nx p=>cases I;exact λU Y Z C y=>kk .non Y Z ⟨y.ff,C.fh,C.bh,y.nw⟩ .non
  |rt r' p=>cases I;exact λv U Y Z C y z=>kk v Y Z ⟨y.ff,C.fh,C.bh,y.nw⟩ z
  |bk p=>cases I
  |ct p=>cases I
end
noncomputable def gK{α:Type}(n:Nat)(us a:List α):List α:=if us.length=n/\a.length=1 then us++a else []
theorem Uc{b:Type}{n m:Nat}{us ws:List b}(h:(gK n us ws).length=m+1):us.length=n/\ws.length=1/\gK n us ws=us++ws:=by
 unfold gK at h ⊢;split at h
 ·rename_i a;rw[if_pos a];exact⟨a.1,a.2,rfl⟩
 ·cases h
theorem Ub{n:Nat}(r:Vals vs us)(a:Vals zs ws):Vals (gK n vs zs) (gK n us ws):=by
 unfold gK;rw[r.length,a.length];split
 ·exact r.append a
 ·exact .nil
structure DefD(K:ae)(mg:Str->Option af)(x:Str)(st:Stmt)(ps:List Str)(f:ah)(fd:eR):Prop where
 fn:FunA K x x st f fd
 mg:mg x=aa (.ref f)
 b:Binds K fd ps []
 b1:Binds K fd ps [.bool false]
 kb:KBinds K fd ps [ps.getLastD ""] (gK (ps.length-1)) (gK (ps.length-1))
def XV(K:ae)(a:af):Prop:=∃(T:ah) (o:Obj) (n:Nat),a=.ref T/\K.lookup T=aa o/\o.data=.seq #[.bool false] n
section
variable {X:Cx}{es:List Expr}{e d:Expr}{fs:FA}{fk:FE}{x:Str}{p pos kpos:Pos}{ks:List Kd}{g:List D->Option Ent}
def rd(ks:List Kd)(g:List D->Option Ent)(fs:FA)(d:D):FE:=λa=>((fs a).bind λb=>yq ks (b++[.val d])).bind g
theorem RepRs.snoc{K:ae}{H0 F H:Hp}{v:V}{e:Ent}(r:RepR K H0 F H v e):∀{vs:List V} {es:List Ent},RepRs K H0 F H vs es->RepRs K H0 F H (vs++[v]) (es++[e])
 | _,_,.nil=>.cons r .nil
 | _,_,.cons h t=>.cons h (RepRs.snoc r t)
theorem KG{CX:wL}{k j:Nat}{f:ah}{i:eR}{ps:List Str}{st:Stmt}{E:XK}(F:FnOk X.prog X.w X.K X.mg X.base CX k f i ps (u0 X.K ks g))(D:DefD X.K X.mg x st ps f i)(l:Room j X.A)(n:Gl X x)(o:wD CX X E)
  (q:VA X (e::es) fs) (a:k<=j:=by decide) (c:(x==("__debug__" : Str))=false:=by decide) (h1:zK e=true:=by rfl) (r:es.all zK=true:=by rfl) :
  VE X (.Call (.Name x p) (e::es) [] pos) (zi ks g fs):=let⟨_,w,m⟩:=q.h;⟨_,⟨jS F (l.mono a) n D.mg D.fn.kp D.b .nil o w.h c (xc h1) (vY r)⟩,.call m rfl⟩
theorem KD{CX:wL}{k j:Nat}{f:ah}{i:eR}{ps:List Str}{st:Stmt}{E:XK}(F:FnOk X.prog X.w X.K X.mg X.base CX k f i ps (u0 X.K ks g))(D:DefD X.K X.mg x st ps f i)(l:Room j X.A)(n:Gl X x)(o:wD CX X E)
  (r:VA X (e::es) fs) (a:k<=j:=by decide) (b:(x==("__debug__" : Str))=false:=by decide) (h1:zK e=true:=by rfl) (u:es.all zK=true:=by rfl) :
  VE X (.Call (.Name x p) (e::es) [] pos) (rd ks g fs (.bl false)):=by
 obtain⟨t,w,m⟩:=r.h;refine⟨_,⟨jS F (l.mono a) n D.mg D.fn.kp D.b1 (dvs:=[.bl false]) (.cons rfl .nil) o w.h b (xc h1) (vY u)⟩,λB F H y z c Q s q k=>?_⟩;obtain⟨C,G,q⟩:=ze q;obtain⟨I,J,L⟩:=ze G;refine m B F H y z I _ s J λvs M N O P=>?_;have R:=RepRs.snoc (K:=X.K) (H0:=H) (F:=M) (H:=N) (v:=.bl false) (e:=.val (.bl false)) (.bl false) P;obtain⟨S,x2,_,T⟩:=RepRs.args O (Same.refl _) R L;exact⟨S,C,c,x2.fh,T,q,λv U Y Z r3=>k v U Y (x2.trans Z) (r3.earlier x2.hh)⟩
end
end L3

namespace L3
open PySem L2
theorem yf(h:f δ=aa (.nx δ')):zf f g δ=g δ':=by
 unfold zf;rw[h];rfl
theorem vU{f:FS}(h:ft δ=aa true):zI ft f g δ=f δ:=by unfold zI;rw[h];rfl
theorem xm{f:FS}(h:ft δ=aa false):zI ft f g δ=g δ:=by unfold zI;rw[h];rfl
theorem wK{d:D}(h1:tg d δ=aa a)(b:f a=aa (.nx δ2)):loop tg f (d::ds) δ=loop tg f ds δ2:=by
 show((tg d δ).bind λa=>(f a).bind (rP (loop tg f ds)))=_;rw[h1];show(f a).bind (rP (loop tg f ds))=_;rw[b];rfl
theorem sw(I:Nat->En->Prop):∀(ds:List D) (k:Nat) (δ:En),
 (∀i d δ,ds[i]? =aa d->I (k+i) δ->∃a b,tg d δ=aa a/\(f a=aa (.nx b)\/f a=aa (.ct b))/\I (k+i+1) b)->I k δ ->
 ∃c,loop tg f ds δ=aa (.nx c)/\I (k+ds.length) c
  |[],k,δ,_,g=>⟨δ,rfl,g⟩
  |d::ds,k,δ,h,g=>by
    obtain⟨a,b,l,e,m⟩:=h 0 d δ rfl g;obtain⟨n,j,o⟩:=sw I ds (k+1) b (λi p s q r=>by
      have:=h (i+1) p s (by simpa using q) (by rw[show k+(i+1)=k+1+i by lia];exact r);rwa [show k+(i+1)=k+1+i by lia]at this) m
    refine⟨n,?_,by rw[aI,show k+(ds.length+1)=k+1+ds.length by lia];exact o⟩;show((tg d δ).bind λa=>(f a).bind (rP (loop tg f ds)))=_;rw[l];show(f a).bind (rP (loop tg f ds))=_;rcases e with e|e
    · rw[e];exact j
    · rw[e];exact j
theorem qD{ft:D->Option Bool}{fe:D->Option Ent}(ds out:List D)(a:out.length=ds.length)(h1:∀d∈ds,ft d=aa true)(c:∀(i:Nat) (d:D),ds[i]? =aa d->∃y,(fe d).bind zL=aa y/\out[i]? =aa y):yV ft fe ds=aa out:=by
 induction ds generalizing out with
 |nil=>cases out with
  |nil=>rfl
  |cons _ _=>simp at a
 |cons d ds e=>
  cases out with
  |nil=>simp at a
  |cons y out=>
   obtain⟨f,zo,zc⟩:=c 0 d rfl;cases zc;simp only[yV];rw[h1 d aw,zo,e out (by simpa using a) (λx b=>h1 x (aq _ b)) λi x b=>by simpa using c (i+1) x (by simpa using b)];rfl
theorem w6{out:List D}(hi:fi δ=aa ds)(a:yV (λd=>ft (yw fr δ d)) (λd=>fe (yw fr δ d)) ds=aa out)(b:out.length<=1000000):yB fr fi ft fe δ=aa (.own out):=by
 unfold yB;rw[hi];show(yV _ _ ds).bind _=_;rw[a];show(if out.length<=1000000 then aa (Ent.own out)else ab)=_;rw[if_pos b]
theorem Ti{n i:Nat}(h:i<n):vC n (i:Int)=aa i:=by
 unfold vC;rw[if_pos (by lia),if_pos (by lia)];simp
theorem qu{a:Type}{xs:List a}{i:Nat}{x:a}(h:xs[i]? =aa x):zO xs (i:Int)=aa x:=by
 unfold zO;rw[Ti (aQ.mp h).1];exact h
theorem tY{a:Type}{xs:List a}{i:Int}{x:a}(b:0<=i)(h:xs[i.toNat]? =aa x):zO xs i=aa x:=by
 obtain⟨n,rfl⟩:=eu b;exact qu (by simpa using h)
theorem nC{a b:Type}(f:a->b)(d:a){xs:List a}{i:Int}(c:0<=i)(h:i.toNat<xs.length):zO (xs.map f) i=aa (f (xs.getD i.toNat d)):=by
 refine tY c ?_;rw[av,aD h];simp[h]
theorem nB{b:Type}{xs:List b}{x:b}(h:xs.getLast? =aa x):zO xs (-1)=aa x:=by
 have a:xs≠[]:=by rintro rfl;simp at h
 have c:0<xs.length:=List.length_pos_iff.mpr a;unfold zO vC;rw[if_neg (by lia),if_pos (by lia)];show xs[(-1+(xs.length:Int)).toNat]? =_;rw[show(-1+(xs.length:Int)).toNat=xs.length-1 by lia,<- Ca];exact h
theorem kM{a:Type}(xs:List a)(j:Nat):zH xs ab (aa (j:Int))=xs.take j:=by
 unfold zH;rw[HT.sIx_none,HT.sIx_nat,BE,o8];by_cases h:j<=xs.length
 ·rw[i7 h]
 ·rw[DS (by lia),Bc,iQ (by lia)]
theorem Vn{a:Type}(xs:List a)(j:Nat):zH xs (aa (j:Int)) ab=xs.drop j:=by
 unfold zH;rw[HT.sIx_none,HT.sIx_nat];by_cases h:j<=xs.length
 ·rw[i7 h,iQ (by rw[iN];lia)]
 ·rw[DS (by lia),Ba,AY (by lia)];simp
theorem dR{a:Type}(xs:List a){j:Int}(h:0<=j):zH xs ab (aa j)=xs.take j.toNat:=by
 obtain⟨n,rfl⟩:=eu h;rw[kM];simp
theorem uO{a:Type}(xs:List a)(lo hi:Option Int):(zH xs lo hi).length<=xs.length:=by
 unfold zH;rw[eN,iN];lia
theorem kL{a:Type}{xs:List a}{x:a}(h:x∈zH xs lo hi):x∈xs:=List.mem_of_mem_drop (List.mem_of_mem_take h)
theorem jH(a b:List Nat):mkS a++mkS b=mkS (a++b):=by
 show(⟨a.toArray++b.toArray⟩:Str)=⟨(a++b).toArray⟩
 simp
theorem Zz(h:mkS a=mkS b):a=b:=by
 have:=congrArg (λz:Str=>z.cps.toList) h;simpa [mkS] using this
theorem Yq(l:List Nat):vG (mkS l)=l.map λc=>mkS [c]:=by simp[vG,mkS]
theorem YE(zs:List Str):tQ (zs.map .str)=aa zs:=by
 induction zs with
 |nil=>rfl
 |cons z zs a=>simp[tQ,bn,a]
theorem jn(zs:List Int):ug (zs.map .int)=aa zs:=by
 induction zs with
 |nil=>rfl
 |cons z zs a=>simp[ug,bj,a]
theorem Tp(c:List (List Nat)):Cq (mkS []) (c.map mkS)=mkS c.flatten:=by
 have e:∀zs:List Str,Cq (mkS []) zs=ES (mkS []) zs:=λzs=>StrLaws.glued_eq_join (mkS []) zs;rw[e]
 induction c with
 |nil=>rfl
 |cons a r d=>
  cases r with
  |nil=>simp[ES]
  |cons b r=>
   rw[ay]at d ⊢;show mkS a++mkS []++ES (mkS []) (mkS b::r.map mkS)=_;rw[d,jH,jH];simp
theorem bA(w:List Nat):Cq (mkS []) (w.map λc=>mkS [c])=mkS w:=by
 have:=Tp (w.map λc=>[c]);rw[e7]at this;rw[show(w.map λc=>mkS [c])=w.map (mkS ∘ λc=>[c])from rfl,this];congr 1;clear this
 induction w with
 |nil=>rfl
 |cons c w a=>simp[a]
end L3

namespace L3
open PySem PySem.Spec PyProof.Rows L2
def wo:D->Bool
 |.non=>true
 |.bl _=>true
 |.int _=>true
 |.str _=>true
 | _=>false
noncomputable def vi:D->D->Bool
 |.non,.non=>true
 |.bl a,.bl b=>a==b
 |.bl a,.int b=>(if a then 1 else 0)==b
 |.int a,.bl b=>a==(if b then 1 else 0)
 |.int a,.int b=>a==b
 |.str a,.str b=>a==b
 | _,_=>false
noncomputable def wx(f:D->D->Option Bool):List D->List D->Option Bool
 |[],[]=>aa true
 |d::a,e::g=>(f d e).bind λb=>(wx f a g).map λc=>b&&c
 | _,_=>aa false
noncomputable def xr:Nat->D->D->Option Bool
 |n+1,.tup a,.tup b=>wx (xr n) a b
 |n+1,.lst a,.lst b=>wx (xr n) a b
 | _,d,c=>if (wo d&&wo c)=true then aa (vi d c)else ab
theorem kS(a:Rep F x d)(b:Rep F y d')(h:(wo d&&wo d')=true):vx x=true/\vx y=true/\vS x y=vi d d':=by
 rw[eX]at h;obtain⟨c,e⟩:=h;cases a <;> first|(cases c;done)|(cases b <;> first|(cases e;done)|exact⟨rfl,rfl,rfl⟩)
theorem qH{f:D->D->Option Bool}:∀{ds es:List D} {b:Bool},wx f ds es=aa b->∀j (h1:j<ds.length) (a:j<es.length),∃c,f ds[j] es[j]=aa c
 |[],_,_,_,j,h1,_=>by simp at h1
 | _::_,[],_,_,j,_,a=>by simp at a
 |d::ds,e::es,b,q,j,h1,a=>by
  simp only[wx]at q;obtain⟨c,g,q⟩:=ze q;obtain⟨i,h,q⟩:=zJ q;cases j with
  |zero=>exact⟨c,g⟩
  |succ j=>
   simp only[aI]at h1 a;exact qH h j (by lia) (by lia)
noncomputable def xL(f:D->D->Option Bool)(ds es:List D)(j:Nat):Bool:=(f (ds.getD j .non) (es.getD j .non)).getD false
theorem qG{f:D->D->Option Bool}:∀{ds es:List D} {b:Bool},wx f ds es=aa b->b=((ak (min ds.length es.length)).all (xL f ds es)&&ds.length==es.length)
 |[],[],b,q=>by cases q;rfl
 |[],_::_,b,q=>by cases q;simp
 | _::_,[],b,q=>by cases q;simp
 |d::ds,e::es,b,q=>by
  simp only[wx]at q;obtain⟨c,a,q⟩:=ze q;obtain⟨n,g,q⟩:=zJ q;subst q;have h:=qG g;have i:min (d::ds).length (e::es).length=min ds.length es.length+1:=by simp only[aI];lia
  have k:((d::ds).length==(e::es).length)=(ds.length==es.length):=by simp
  have l:xL f (d::ds) (e::es) 0=c:=by unfold xL;simp[a]
  have m:(xL f (d::ds) (e::es)) ∘ Nat.succ=xL f ds es:=by funext j;unfold xL;simp
  rw[i,k,List.range_succ_eq_map,Ac,List.all_map,l,m,h,Bool.and_assoc]
theorem Reps.getE{vs:List V}{ds:List D}(h:Reps F vs ds)(j:Nat)(h1:j<vs.length)(a:j<ds.length):Rep F vs[j] ds[j]:=by
 obtain⟨v,e,r⟩:=h.get (aD a);rw[aD h1]at e;cases e;exact r
theorem Vals.getE{vs:List V}{us:List af}(h:Vals vs us):∀j (h1:j<vs.length) (a:j<us.length),RelV vs[j] us[j]:=by
 induction h with
 |nil=>intro j h;cases h
 |cons r t b=>
  intro j h1 a;cases j with
  |zero=>exact r
  |succ j=>exact b j (CJ h1) (CJ a)
theorem Reps.nil_(h:Reps F [] ds):ds=[]:=by cases h;rfl
theorem Reps.cons_{v:V}(h:Reps F (v::vs) ds):∃d ds',ds=d::ds'/\Rep F v d/\Reps F vs ds':=by cases h with|cons r t=>exact⟨_,_,rfl,r,t⟩
theorem nN{b:Bool}(a:Rep F v d)(c:Rep F v d')(q:(if (wo d&&wo d')=true then aa (vi d d')else ab)=aa b):b=true:=by
 obtain⟨h,q⟩:=jo q;cases q;obtain⟨e,_,f⟩:=kS a c h;rw[<- f];cases v <;> first|(cases e;done)|simp[vS]
theorem ck{f:D->D->Option Bool}{F:Hp}(e:∀{v:V} {d d':D} {b:Bool},Rep F v d->Rep F v d'->f d d'=aa b->b=true){vs:List V}{ds es:List D}{b:Bool}(h:Reps F vs ds)(h':Reps F vs es)(q:wx f ds es=aa b):b=true:=by
 refine h.ind (P:=λvs ds=>∀es b,Reps F vs es->wx f ds es=aa b->b=true) (λes b h' q=>?_) (fun {v d vs ds} r _ t es b h' q=>?_) es b h' q
 ·cases h'.nil_;cases q;rfl
 ·obtain⟨d',a,rfl,g,i⟩:=h'.cons_;simp only[wx]at q;obtain⟨c,j,q⟩:=ze q;obtain⟨k,l,q⟩:=zJ q;subst q;rw[e r g j,t a k i l];rfl
theorem ci{F:Hp}(n:Nat):∀{v:V} {d d':D} {b:Bool},Rep F v d->Rep F v d'->xr n d d'=aa b->b=true:=by
 induction n with
 |zero=>intro v d d' b c f q;exact nN c f q
 |succ n i=>
  intro v d d' b c f q;cases d with
  |tup a=>
   cases d' with
   |tup j=>
    cases c with
    |tup e r=>
     cases f with
     |tup g h=>
      cases HO.tup.inj (aO (e.symm.trans g));exact ck i r h q
   | _=>exact nN c f q
  |lst a=>
   cases d' with
   |lst j=>
    cases c with
    |lst e r=>
     cases f with
     |lst g h=>
      cases HO.lst.inj (aO (e.symm.trans g));exact ck i r h q
   | _=>exact nN c f q
  | _=>exact nN c f q
section
variable {X:Cx}{pins:List (ah×Obj)}{s:ag}{σ:L2.St}{H F:Hp}
theorem qF(I:Inv X pins σ H s)(C:Same F H):∀(n:Nat) (A:a4),A.units+n<cLine->∀{x y:V} {u v:af} {d d':D} {b:Bool},Rep F x d->Rep F y d'->RelV x u->RelV y v->xr n d d'=aa b->AC A s u v b
 |0,A,hu,x,y,u,v,d,d',b,P,E,G,J,q=>by
  have g:(if (wo d&&wo d')=true then aa (vi d d')else ab)=aa b:=q;split at g
  ·rename_i h;cases g;obtain⟨w,z,T⟩:=kS P E h;rw[<- T];exact kP G J w z
  ·cases g
 |n+1,A,hu,x,y,u,v,d,d',b,P,E,G,J,q=>by
  have K:A.in1.units+n<cLine:=by show A.units+1+n<cLine;lia
  have U:A.units<cLine:=by lia
  have m:(if (wo d&&wo d')=true then aa (vi d d')else ab)=aa b->AC A s u v b:=λg=>by
   split at g
   ·rename_i h;cases g;obtain⟨w,z,T⟩:=kS P E h;rw[<- T];exact kP G J w z
   ·cases g
  cases P with
  |@tup a xs k e r=>
   cases E with
   |@tup Y ys l L B=>
    cases G;cases J;by_cases i:a=Y
    ·subst i;rw[ci (n+1) (.tup e r) (.tup L B) q];exact CD _
    ·obtain⟨o,M,Q,_⟩:=I.tuple (SqT.of (C _ _ e));obtain⟨f,p,t,_⟩:=I.tuple (SqT.of (C _ _ L));have g:wx (xr n) k l=aa b:=q;have l1:=r.length;have l2:=B.length;have l3:=M.length;have l4:=p.length;have:=FJ (A:=A) (e:=xL (xr n) k l) Q t U λj w z=>by
      have Z:j<o.length:=by simpa using w
      have g2:j<f.length:=by simpa using z
      obtain⟨c,N⟩:=qH g j (by lia) (by lia);have:xL (xr n) k l j=c:=by unfold xL;simp[show j<k.length by lia,show j<l.length by lia,N]
      rw[this];exact qF I C n A.in1 K (r.getE j (by lia) (by lia)) (B.getE j (by lia) (by lia)) (Vals.getE M j (by lia) Z) (Vals.getE p j (by lia) g2) N
     rw[qG g];have O:o.toArray.size=k.length:=by simp;lia
     have R:f.toArray.size=l.length:=by simp;lia
     rw[O,R]at this;exact BQ i this
   | _=>exact m q
  |@lst a xs k e r=>
   cases E with
   |@lst Y ys l L B=>
    cases G;cases J;by_cases i:a=Y
    ·subst i;rw[ci (n+1) (.lst e r) (.lst L B) q];exact CD _
    ·obtain⟨o,M,Q,_⟩:=I.list (SqL.of (C _ _ e));obtain⟨f,p,t,_⟩:=I.list (SqL.of (C _ _ L));have g:wx (xr n) k l=aa b:=q;have l1:=r.length;have l2:=B.length;have l3:=M.length;have l4:=p.length;have O:o.toArray.size=k.length:=by simp;lia
     have R:f.toArray.size=l.length:=by simp;lia
     rw[qG g];by_cases S:k.length=l.length
     ·have:=FN (A:=A) (e:=xL (xr n) k l) Q.isList t.isList (by rw[O,R,S]) U λj w z=>by
       have Z:j<o.length:=by simpa using w
       have g2:j<f.length:=by simpa using z
       obtain⟨c,N⟩:=qH g j (by lia) (by lia);have:xL (xr n) k l j=c:=by unfold xL;simp[show j<k.length by lia,show j<l.length by lia,N]
       rw[this];exact qF I C n A.in1 K (r.getE j (by lia) (by lia)) (B.getE j (by lia) (by lia)) (Vals.getE M j (by lia) Z) (Vals.getE p j (by lia) g2) N
      rw[O]at this;rw[<- S,Do,beq_self_eq_true,A6];exact BQ i this
     ·rw[beq_eq_false_iff_ne.mpr S,oF];exact BQ i (ER Q.isList t.isList (by rw[O,R];simpa using S) U)
   | _=>exact m q
  | _=>cases E <;> exact m q
def Z8(K:ae)(c:Bool):R2:=λx y H Q=>∃(F:Hp) (a d:ah) (e f:List V) (g h:List D) (b:Bool),Same F H/\x=.ref a/\y=.ref d/\((SqL K H a e/\SqL K H d f)\/(SqT K H a e/\SqT K H d f)) /\
 Reps F e g/\Reps F f h/\wx (xr 8) g h=aa b/\Q (.bl (if c=true then !b else b)) H
theorem Qq{k:Nat}(N:Room k X.A):yA X (ej .Eq) (Z8 X.K false):=by
 intro pins s σ H x y v u Q I O P h;obtain⟨F,a,a',R,S,l,m,b,T,rfl,rfl,U,r,E,q,k⟩:=h;cases O;cases P;have hA:X.A.units+9<cLine:=by have:=N.un;lia
 have C:X.A.in1.units+8<cLine:=by show X.A.units+1+8<cLine;lia
 have l1:=r.length;have l2:=E.length;have G:∀{f d:List af},Vals R f->Vals S d->∀j (o:j<f.toArray.size) (p:j<d.toArray.size),AC X.A.in1 s f.toArray[j] d.toArray[j] (xL (xr 8) l m j):=fun {f d} n g j o p=>by
  have J:=n.length;have L:=g.length;have Y:j<f.length:=by simpa using o
  have Z:j<d.length:=by simpa using p
  obtain⟨c,M⟩:=qH q j (by lia) (by lia);have:xL (xr 8) l m j=c:=by unfold xL;simp[show j<l.length by lia,show j<m.length by lia,M]
  rw[this];exact qF I T 8 X.A.in1 C (r.getE j (by lia) (by lia)) (E.getE j (by lia) (by lia)) (Vals.getE n j (by lia) Y) (Vals.getE g j (by lia) Z) M
 rw[qG q]at k;rcases U with ⟨o,p⟩|⟨o,p⟩
 ·obtain⟨f,n,w,_⟩:=I.list o;obtain⟨d,g,i,_⟩:=I.list p;have J:=n.length;have L:=g.length;have t:f.toArray.size=l.length:=by simp;lia
  have z:d.toArray.size=m.length:=by simp;lia
  by_cases B:l.length=m.length
  ·refine SeqAt.eq_listAt (e:=xL (xr 8) l m) w.isList i.isList (by rw[t,z,B]) (by lia) (G n g) ⟨.bl _,H,I,rfl,?_⟩;rw[t];rw[<- B,Do,beq_self_eq_true,A6]at k;exact k
  ·refine SeqAt.eq_list_lengthsAt w.isList i.isList (by rw[t,z];simpa using B) (by lia) ⟨.bl _,H,I,rfl,?_⟩;rw[beq_eq_false_iff_ne.mpr B,oF]at k;exact k
 ·obtain⟨f,n,w,_⟩:=I.tuple o;obtain⟨d,g,i,_⟩:=I.tuple p;have J:=n.length;have L:=g.length;have t:f.toArray.size=l.length:=by simp;lia
  have z:d.toArray.size=m.length:=by simp;lia
  refine SeqAt.eq_tupleAt (e:=xL (xr 8) l m) w i (by lia) (G n g) ⟨.bl _,H,I,rfl,?_⟩;rw[t,z];exact k
theorem QD{k:Nat}(N:Room k X.A):yA X (ej .NotEq) (Z8 X.K true):=by
 intro pins s σ H x y v u Q I O P h;obtain⟨F,a,a',R,S,l,m,b,T,rfl,rfl,U,r,E,q,k⟩:=h;cases O;cases P;have hA:X.A.units+9<cLine:=by have:=N.un;lia
 have C:X.A.in1.units+8<cLine:=by show X.A.units+1+8<cLine;lia
 have l1:=r.length;have l2:=E.length;have G:∀{f d:List af},Vals R f->Vals S d->∀j (o:j<f.toArray.size) (p:j<d.toArray.size),AC X.A.in1 s f.toArray[j] d.toArray[j] (xL (xr 8) l m j):=fun {f d} n g j o p=>by
  have J:=n.length;have L:=g.length;have Y:j<f.length:=by simpa using o
  have Z:j<d.length:=by simpa using p
  obtain⟨c,M⟩:=qH q j (by lia) (by lia);have:xL (xr 8) l m j=c:=by unfold xL;simp[show j<l.length by lia,show j<m.length by lia,M]
  rw[this];exact qF I T 8 X.A.in1 C (r.getE j (by lia) (by lia)) (E.getE j (by lia) (by lia)) (Vals.getE n j (by lia) Y) (Vals.getE g j (by lia) Z) M
 rw[qG q]at k;rcases U with ⟨o,p⟩|⟨o,p⟩
 ·obtain⟨f,n,w,_⟩:=I.list o;obtain⟨d,g,i,_⟩:=I.list p;have J:=n.length;have L:=g.length;have t:f.toArray.size=l.length:=by simp;lia
  have z:d.toArray.size=m.length:=by simp;lia
  by_cases B:l.length=m.length
  ·refine Fv (e:=xL (xr 8) l m) w.isList i.isList (by rw[t,z,B]) (by lia) (G n g) _ _ _ _ ⟨.bl _,H,I,rfl,?_⟩;rw[t];rw[<- B,Do,beq_self_eq_true,A6]at k;exact k
  ·refine Ei w.isList i.isList (by rw[t,z];simpa using B) (by lia) _ _ _ _ ⟨.bl _,H,I,rfl,?_⟩;rw[beq_eq_false_iff_ne.mpr B,oF]at k;exact k
 ·obtain⟨f,n,w,_⟩:=I.tuple o;obtain⟨d,g,i,_⟩:=I.tuple p;have J:=n.length;have L:=g.length;have t:f.toArray.size=l.length:=by simp;lia
  have z:d.toArray.size=m.length:=by simp;lia
  refine Fp (e:=xL (xr 8) l m) w i (by lia) (G n g) _ _ _ _ ⟨.bl _,H,I,rfl,?_⟩;rw[t,z];exact k
def pK(x y:Ent):Option (List D×List D):=match zS x,zS y with
 |some a,aa b=>aa (a,b)
 | _,_=>match yc x,yc y with
  |some a,aa b=>aa (a,b)
  | _,_=>ab
def nS:Ent->Ent->Option Ent:=λx y=>(pK x y).bind λp=>(wx (xr 8) p.1 p.2).map λb=>.val (.bl b)
def cV:Ent->Ent->Option Ent:=λx y=>(pK x y).bind λp=>(wx (xr 8) p.1 p.2).map λb=>.val (.bl (!b))
theorem Yy{K:ae}{H0 F H:Hp}{x y:V}{e b:Ent}{p:List D×List D}(c:Same F H)(j:RepR K H0 F H x e)(k:RepR K H0 F H y b)(q:pK e b=aa p) :
  ∃(a d:ah) (xs f:List V),x=.ref a/\y=.ref d/\((SqL K H a xs/\SqL K H d f)\/(SqT K H a xs/\SqT K H d f))/\Reps F xs p.1/\Reps F f p.2:=by
 unfold pK at q;split at q
 ·rename_i m n g h;cases q;obtain⟨l,o,t,s1,u⟩:=j.toL c g;obtain⟨v,i,w,z,A⟩:=k.toL c h;exact⟨l,v,o,i,t,w,.inl ⟨s1,z⟩,u,A⟩
 ·split at q
  ·rename_i m n g h;cases q;cases vJ g;cases vJ h;cases (show Rep F x (.tup _)from j)with
   |tup e r=>
    cases (show Rep F y (.tup _)from k)with
    |tup b B=>exact⟨_,_,_,_,rfl,rfl,.inr ⟨SqT.of (c _ _ e),SqT.of (c _ _ b)⟩,r,B⟩
  ·cases q
theorem RX{k:Nat}(d:Room k X.A):y6 X (ej .Eq) nS:=⟨_,Qq d,λw F H x y e z f Q c B g i q k=>by
 obtain⟨p,j,q⟩:=ze q;obtain⟨b,l,q⟩:=zJ q;cases q;obtain⟨a,m,n,o,t,u,h,r,v⟩:=Yy c g i j;exact⟨F,a,m,n,o,_,_,b,c,t,u,h,r,v,l,k _ F H (Ex.refl c) (.bl _)⟩⟩
theorem Qa{k:Nat}(d:Room k X.A):y6 X (ej .NotEq) cV:=⟨_,QD d,λw F H x y e z f Q c B g i q k=>by
 obtain⟨p,j,q⟩:=ze q;obtain⟨b,l,q⟩:=zJ q;cases q;obtain⟨a,m,n,o,t,u,h,r,v⟩:=Yy c g i j;exact⟨F,a,m,n,o,_,_,b,c,t,u,h,r,v,l,k _ F H (Ex.refl c) (.bl _)⟩⟩
end
end L3

namespace L2
open PySem PySem.Spec PyProof.Rows
def np(x:Str):It:=⟨λi _=>i<x.cps.size,λi H v a=>a=H/\∃c,x.cps[i]? =aa c/\v=.str ⟨#[c]⟩,λi _=>i=x.cps.size⟩
theorem Xm{P:aN}{w:aR}{K:ae}{tg:Expr}(it:ah)(x:Str)(t:Tok)(k:String)(T:["enumerate","zip","dict_itemiterator","dict_reverseitemiterator","odict_iterator","itertools.zip_longest","itertools.pairwise"].contains k=false)
  (W:∀A:a4,A.handled=ab->Walks P w A it [it] [it] x.cps.size (SignAt x) (λi h=>h.IsStrIter it k x t i))
  (S:∀(A:a4) (i:Nat) (s:ag) (Q:af->ag->Prop) (E:af->ag->Prop),s.heap.IsStrIter it k x t i->Q (.ref it) s->au (model P w) A (pyIter (.ref it)) Q E s) :
  Turn P w K tg (np x) [it] it (λi h=>h.IsStrIter it k x t i) where
 mem:=by simp
 obj:=λi h f b g=>by
  have e:b=it:=by simpa using g
  subst e;obtain⟨o,e,c,d⟩:=f;exact⟨o,e,λv z=>by rw[d]at z;cases z⟩
 keep:=λi h m f k=>let⟨o,ho,r⟩:=f;⟨o,k it (by simp) o ho,r⟩
 item:=by
  intro X p q y j i a s R H E I n f B;subst p q y;obtain⟨C,G,U,J,L,M⟩:=n it (by simp);refine(W X.A (I.ok.hd j)).item i s _ _ B f λv m N Y l Z=>?_;obtain⟨c,u,j,rfl⟩:=Y;have I1:Inv X a R H { s with heap:=m,toks:=N}:=I.turned (λb o g e=>Z b o (by simpa using g) e) C G J L M;obtain⟨o,e,c',d⟩:=id l;exact⟨_,rfl,mE (s:={ s with heap:=m,toks:=N}) e c' d T ⟨.str ⟨#[c]⟩,H,I1,⟨u,rfl⟩,⟨rfl,c,j,rfl⟩,l,λb g=>(n b g).1⟩⟩
 done:=by
  intro X p q y j i a s R H E I n f B;subst p q y;obtain⟨C,G,U,J,L,M⟩:=n it (by simp);have O:i=x.cps.size:=B;subst O;exact(W X.A (I.ok.hd j)).done s _ _ f λm N eb=>⟨rfl,I.turned (λb o g e=>eb b o (by simpa using g) e) C G J L M⟩
 self:=S
def UD(a:TE):TI:=λb H R=>a b H λx c=>∃z,x=.str z/\R (np z) c
theorem PC{X:Cx}{tg l:Expr}{j:TE}(n:PE X l j):PI X tg l (UD j):=by
 intro c s p H R I h;refine zu (n c s p H _ I h) ?_;rintro v s1 ⟨x,k,a,r,u⟩;obtain⟨z,e,q⟩:=u;subst e;obtain⟨t,rfl⟩:=r;cases m:z.cps.all (·<128)
 ·refine wpAny_pyIter_wide m ?_;refine⟨s1.heap.objs.size,[s1.heap.objs.size],_,_,k,rfl,a.kept (t':=s1.toks) λb o e=>ai _ e,Xm _ z t "str_iterator" (by decide) (λA d=>Walks.strWide d _ z t) (λA i s Q E f h=>wpAny_pyIter_striter_wide f h),⟨_,ax _ rfl,rfl,rfl⟩,λb g=>?_,q⟩;have e:b=s1.heap.objs.size:=by simpa using g
  subst e;exact a.fpOk (aj _) (a.hok.fresh (aj _))
 ·refine wpAny_pyIter_ascii m ?_;refine⟨s1.heap.objs.size,[s1.heap.objs.size],_,_,k,rfl,a.kept (t':=s1.toks) λb o e=>ai _ e,Xm _ z t "str_ascii_iterator" (by decide) (λA d=>Walks.strAscii d _ z t) (λA i s Q E f h=>wpAny_pyIter_striter_ascii f h),⟨_,ax _ rfl,rfl,rfl⟩,λb g=>?_,q⟩;have e:b=s1.heap.objs.size:=by simpa using g
  subst e;exact a.fpOk (aj _) (a.hok.fresh (aj _))
end L2
namespace L3
open PySem PySem.Spec PyProof.Rows L2
def iS(fe:FE):FI:=λa=>(fe a).bind λx=>(zP x).map λz=>z.cps.toList.map λc=>D.str (mkS [c])
theorem Td{z:Str}:v4 B F0 (np z) (z.cps.toList.map λc=>D.str (mkS [c])):=λF H s1 g m=>by
 refine⟨by simp[np],λi d e=>?_⟩;rw[av]at e;obtain⟨c,b,j⟩:=iR.mp e;have a:z.cps[i]? =aa c:=by rw[oe]at b;exact b
 refine⟨?_,λx n y=>?_⟩
 ·show i<z.cps.size;obtain⟨h,_⟩:=AD.mp a;exact h
 ·obtain⟨k,o,f,l⟩:=y;subst k l;rw[a]at f;cases f;subst j;exact⟨F,Ex.refl g,.str _⟩
theorem US(h:VE X e fe):VI X tg e (iS fe):=by
 obtain⟨t,w,m⟩:=h.h;refine⟨_,⟨PC w.h⟩,λB F H b c l R s q k=>?_⟩;obtain⟨r,d,q⟩:=ze q;obtain⟨z,f,q⟩:=zJ q;subst q;refine m B F H b c r _ s d λv a g i j=>?_;cases xi f;cases (show Rep a v (.str z)from j);exact⟨z,rfl,k _ a g i Td⟩
end L3
namespace L2
open PySem PySem.Spec PyProof.Rows
section
variable {prog:aN}{w:aR}{A:a4}{E:af->ag->Prop}
end
end L2
namespace L3
open PySem PySem.Spec PyProof.Rows L2
theorem Uj:∀(ds:List D) (δ δ':En),wQ ds δ=aa δ'->ds.length=0:=λds δ δ' h=>by
 match ds,h with
 |[],_=>rfl
theorem Uk{g:FG}{n:Nat}(hn:∀(ds:List D) (δ δ':En),gs ds δ=aa δ'->ds.length=n):∀(ds:List D) (δ δ':En),yO g gs ds δ=aa δ'->ds.length=n+1:=λds δ δ' h=>by
 match ds,h with
 |d::ds,h=>
  obtain⟨a,_,q⟩:=ze (show(g d δ).bind (gs ds)=aa δ' from h);rw[aI,hn ds a δ' q]
end L3

namespace TS
open PySem
theorem SN(t:SetTable)(es:Array (Int×af))(h:Int)(x:af):(layNew t es h x).2.1.led=t.led/\((layNew t es h x).2.1.plain=true->t.plain=true):=by
 unfold layNew;split
 ·rename_i q;dsimp only;unfold SetTable.orStandIn;split
  ·exact⟨rfl,id⟩
  ·exact⟨rfl,λz=>by cases z⟩
 ·exact⟨rfl,λz=>by cases z⟩
theorem NH(t:SetTable)(es:Array (Int×af))(n:Nat):(relayAll t es n).2.1.led=t.led/\((relayAll t es n).2.1.plain=true->t.plain=true):=by
 unfold relayAll;split
 ·rename_i b a q;have:b.led=t.led/\b.plain=t.plain:=by
   unfold SetTable.relaid SetTable.laid at q;simp only[Option.bind_eq_bind,Option.bind_eq_some_iff]at q;obtain⟨o,_,q⟩:=q;cases q;exact⟨rfl,rfl⟩
  dsimp only;split
  ·exact⟨this.1,λz=>by rw[<- this.2];exact z⟩
  ·exact⟨rfl,λz=>by cases z⟩
 ·exact⟨rfl,λz=>by cases z⟩
def bt(w:aR):Bool:=w.params.followText "set-order"
noncomputable def new(w:aR):Obj:={ cls:=.type "set",dict:=ab,data:=.set #[] 0 (.fresh 0 0 (!bt w))}
structure Is1(w:aR)(h:aX)(a:ah)(z:Str):Prop where
 ex:∃(o:Obj) (u:Tok) (ep:Nat) (t:SetTable),h.get? a=aa o/\o.ExactSet/\o.data=.set #[(hashStr w z,en z u)] ep t/\t.fits 1=true/\t.led=!bt w
variable {prog:aN}{w:aR}{A:a4}{E:af->ag->Prop}{s:ag}{a:ah}{z:Str}
theorem Is1.mono{h h':aX}(i:Is1 w h a z)(k:∀o,h.get? a=aa o->h'.get? a=aa o):Is1 w h' a z:=
 let⟨o,u,ep,t,go,r⟩:=i.ex;⟨⟨o,u,ep,t,k o go,r⟩⟩
theorem ZM{b:Type}{xs:Array b}{x:b}(h:xs.toList.Perm [x]):xs=#[x]:=by
 have:=Dc.mp h;obtain⟨l⟩:=xs;have e:l=[x]:=this;rw[e]
theorem Z5{o:Obj}{b:Nat}{t':SetTable}{h:aX}(d:h.get? a=aa o)(e:o.ExactSet)(c:o.data=.set es b t)(f:t'.fits 1=true)(i:t'.led=!bt w) :
 (h.update a (C5 #[(hashStr w z,en z u)] t')).get? a=aa { o with data:=.set #[(hashStr w z,en z u)] (b+1) t'}/\Is1 w (h.update a (C5 #[(hashStr w z,en z u)] t')) a z:=by
  have g:=iX (C5 #[(hashStr w z,en z u)] t') d (by rw[putSet_of _ t' c];rfl);rw[putSet_of _ t' c]at g;exact⟨g,⟨_,u,b+1,t',g,e,rfl,f,i⟩⟩
theorem Y8{g:Bool->Sem Unit}(y:∀(b:Bool) (e:ag) (R:Unit->ag->Prop),R () e->au (model prog w) A (g b) R E e){o:Obj}{B n:Nat}{d:SetTable}{c x:Bool}{R:Option Bool->ag->Prop}
 (l:s.heap.get? a=aa o) (m:o.ExactSet) (p:o.data=.set es B t) (C:d.fits 1=true) (q:d.led=!bt w) (k:∀f,o7 a s.heap f->Is1 w f a z->R (aa true) { s with heap:=f}) :
 au (model prog w) A (do
 storeSet a #[(hashStr w z,en z u)] d
 if c=true then do
 g x
 storeSet a (relayAll d #[(hashStr w z,en z u)] n).1 (relayAll d #[(hashStr w z,en z u)] n).2.1
 pure (aa true)
 else pure (aa true)) R E s:=by
  have r:=AF s.heap a (C5 #[(hashStr w z,en z u)] d);refine ac (wpAny_storeSet_of l p ?_ (fits_of_scanBound (show 1<scanBound by decide)));obtain⟨v,G⟩:=Z5 (w:=w) (z:=z) (u:=u) l m p C q;split
  · refine ac (y _ _ _ ?_);have h:=relayAll_perm d #[(hashStr w z,en z u)] n;have i:=relayAll_fits d #[(hashStr w z,en z u)] n;have j:=NH d #[(hashStr w z,en z u)] n;generalize relayAll d #[(hashStr w z,en z u)] n=L at h i j ⊢;obtain⟨H,J,K⟩:=L;dsimp only at h i j ⊢;cases ZM h;refine ac (wpAny_storeSet_of v rfl ?_ (fits_of_scanBound (show 1<scanBound by decide)));obtain⟨_,I⟩:=Z5 (w:=w) (z:=z) (u:=u) v m rfl i (j.1.trans q);exact am (k _ (r.trans (AF ..)) I)
  · exact am (k _ r G)
theorem Wd{Q:Bool->ag->Prop}(f:s.heap.get? a=aa (new w))(k:∀b d,o7 a s.heap d->Is1 w d a z->Q b { s with heap:=d}):au (model prog w) A (setAddHashed a (.str z u) (hashStr w z)) Q E s:=by
 obtain⟨c,t,g,h,p,r⟩:∃(c:Array (Int×af)) (t:SetTable),c=#[]/\(new w).data=.set c 0 t/\t.fits c.size=true/\t.led=!bt w:=⟨_,_,rfl,rfl,rfl,rfl⟩;have v:(new w).ExactSet:=⟨rfl,rfl,rfl⟩
 have x:ElemsOf (strKind prog w) c.toList:=λe y=>by rw[g]at y;cases y
 have B:(strKind prog w).is z (.str z u)=true:=by simp[strKind,BY]
 have sc:(en z u).scannable=true:=rfl;unfold setAddHashed setAddHashedIn;refine e6 (ac (wpAny_setState_of f h p ?_));dsimp only;rw[byScan_of (knd:=strKind prog w) sc (by rw[g];decide) x];simp only[↓reduceIte];unfold setAddByScan;refine ac (ac (wpAny_rule (ac ?_)));refine wpAny_setScan_of (knd:=strKind prog w) B f h p x ?_;rw[show List.findIdx? (λe=>(strKind prog w).is z e.2) c.toList=ab by rw[g];rfl];dsimp only;have m:∀(b:Bool) {s₁:ag} {R:Unit->ag->Prop},R () s₁->au (model prog w) A (match b with|true=>rule "set.scan.the-table-gave-way"|false=>pure ()) R E s₁:=λb _ _ q=>by cases b <;> first|exact am q|exact wpAny_rule q
 have i:=layNew_perm t c (hashStr w z) (.str z u);have j:=layNew_fits t c (hashStr w z) (.str z u);have l:=SN t c (hashStr w z) (.str z u);show au _ _ (match layNew t c (hashStr w z) (.str z u)with|(c,t,wasDummy,gave)=>_) _ _ _;generalize layNew t c (hashStr w z) (.str z u)=L at i j l;obtain⟨C,G,wd,H⟩:=L;dsimp only at i j l ⊢;rw[g]at i;cases ZM i;refine ac ?_;refine m _ ?_;split
 ·refine ac ?_;rw[hashByValue_scannable 8 sc];refine am ?_;refine Y8 (λb s₁ R q=>by cases b <;> first|exact am q|exact wpAny_rule q) f v h (SetTable.fits_plain_off j) (l.1.trans r) λd n o=>?_;exact am (k true d n o)
 ·refine ac (am ?_);simp only[↓reduceIte];refine Y8 (λb s₁ R q=>by cases b <;> first|exact am q|exact wpAny_rule q) f v h j (l.1.trans r) λd n o=>?_;exact am (k true d n o)
end TS
namespace TS
open PySem PyProof.Rows
section
variable {prog:aN}{w:aR}{A:a4}{R:Result->ag->Prop}{I:ah}{fp wr:List ah}{G:Array GenState->Array GenState->Prop}{P:Nat->af->Prop}{St:Nat->ag->Prop}
theorem Kk(W:WalksS prog w A.in1 I fp wr G 1 P St)(S:ah)(l:S∉fp)(z:Str)(x:∀i v,P i v->∃t,v=.str z t)(s:ag)(st:St 0 s)(y:s.heap.get? S=aa (new w))
  (B:∀a,Moved (S::wr) G s a->Is1 w a.heap S z->R (.ok (.ret .none)) a):codeAny (model prog w) A (.builtin "set.update.loop" ⟨[.ref S,.ref I],[]⟩) R s:=by
 have n:S∉wr:=λh=>l (W.sub _ h);have p:∀b∈wr,b∈S::wr:=λb c=>.tail _ c;refine codeAny_builtin F.entry_set_update_loop ?_;rw[eT F.plain_set_update_loop _];refine ac (m:=pyNext (.ref I)) (W.item 0 s _ _ (by lia) st λv a C j r=>?_);obtain⟨t,rfl⟩:=x 0 v C;refine ac (m:=holding [en z t] (setAdd S (.str z t))) (e6 ?_);unfold setAdd;refine e6 (ac (wpAny_pyHash_str ?_));refine Wd (s:={ a with toks:=a.toks+1}) (r.heap S _ n y) λb u d k=>?_;have f:∀b o,b≠S->a.heap.get? b=aa o->u.get? b=aa o:=λb o c e=>(d.2 b c).trans e;refine am ⟨plainId_quiet F.plain_set_update_loop _,codeAny_builtin F.entry_set_update_loop ?_⟩;rw[eT F.plain_set_update_loop _];refine ac (m:=pyNext (.ref I)) (W.done _ _ _ (W.frame _ a u (a.toks+1) j (oj _) λb c o e=>f b o (λq=>l (q ▸ c)) e) λE g=>?_);exact am (B E (Moved.trans W.gtrans ((r.mono p).then_heap (oj _) λb o c e=>f b o (λq=>c (q ▸ .head _)) e) (g.mono p)) (k.mono λo e=>g.heap S o n e))
end
section
variable {prog:aN}{w:aR}{A:a4}{E:af->ag->Prop}{s:ag}
theorem Vc(v:af){R:af->ag->Prop}(k:R (.ref s.heap.objs.size) { s with heap:=s.heap.push (new w)}):codeAny (model prog w) A (.call (.builtin "set.__new__") ⟨[.type "set",v],[]⟩) (wants R E) s:=by
 refine codeAny_of_tree ?_;show au _ A.in1 (checkBuiltinCall "set.__new__" ⟨[.type "set",v],[]⟩ >>= λ_=>again (.builtin "set.__new__" ⟨[.type "set",v],[]⟩)) _ _ s;refine ac (wpAny_of_eq (F.newCall_set_1 v) (am ⟨plainId_quiet F.plain_set_new _,?_⟩));refine codeAny_builtin F.entry_set_new ?_;rw[eT F.plain_set_new _];unfold Builtin.«set.__new__» Ec;have sub:=sub_set_self;obtain⟨a,g,d,b,c⟩:=s;dsimp only
 wp_walk
 refine wpAny_askSetting (am ?_);dsimp only;simp only[newObj];refine ac (wpAny_alloc (am ?_));exact am k
theorem W2{Q:af->ag->Prop}{P:ag->Prop}(i:A.handled=ab)
 (g:∀(B:a4),B.handled=ab->au (model prog w) B (Builtin.«set.__init__» ⟨[.ref s.heap.objs.size,v],[]⟩) (λf b=>f=.done (.ret .none)/\P b) E { s with heap:=s.heap.push (new w)})
 (k:∀b,P b->Q (.ref s.heap.objs.size) b):au (model prog w) A (call (.type "set") [v]) Q E s:=by
  obtain⟨c,t,j⟩:=F.called_set.mro;have h:=F.called_set.made;have sub:=F.called_set.sub;refine wpAny_call (codeAny_of_tree ?_);show au _ _ (callAny (.type "set") _) _ _ _;refine am ⟨Code.quiet_builtin _ (by decide +kernel),?_⟩;refine codeAny_builtin F.entry_type_call ?_;rw[Around.under_plain (weight_type_call_type "set" [v] []) rfl];have u:=F.called_set.notType;have y:=F.called_set.canCreate;have z:=F.typeCall_set_1 v
  repeat any_goals first|assumption|wp_step
  refine codeAny_mono (Vc v (E:=E) (R:=λx s1=>x=.ref s.heap.objs.size/\s1={ s with heap:=s.heap.push (new w)}) ⟨rfl,rfl⟩) λr s1 d=>?_
  match r,d with
  |.error e,d=>exact d
  |.ok (.ret x),d=>
    obtain⟨rfl,rfl⟩:=d;have l:(s.heap.push (new w)).get? s.heap.objs.size=aa (new w):=ax _ rfl;have m:BX { s with heap:=s.heap.push (new w)} (.ref s.heap.objs.size) "set" :=⟨_,l,rfl⟩
    have C:=F.called_set.init.lookup;have G:=F.called_set.init.bind (.ref s.heap.objs.size)
    repeat any_goals first|assumption|wp_step
    refine codeAny_mono (codeAny_call_builtin (R:=wants (λr b=>r=.none/\P b) E) F.called_set.init.plain F.entry_set_init (check_set_init_1 m ?_)) λn b a=>?_
    · exact ip (g A.in1.in1 i) (λf b q=>by obtain⟨rfl,p⟩:=q;exact⟨rfl,p⟩) λ_ _ q=>q
    · match n,a with
      |.error e,a=>exact a
      |.ok (.ret x),a=>
        obtain⟨rfl,o⟩:=a
        repeat any_goals first|assumption|wp_step
        exact k _ o
end
namespace Fx
theorem str_set:isSubtype (.type "str") (.type "set")=pure false:=by rw[isSubtype_type];kernel_rfl
theorem str_fro:isSubtype (.type "str") (.type "frozenset")=pure false:=by rw[isSubtype_type];kernel_rfl
end Fx
section
variable {prog:aN}{w:aR}{A:a4}{E:af->ag->Prop}{s:ag}
structure Left1(w:aR)(s:ag)(z:Str)(s2:ag):Prop where
 is:Is1 w s2.heap s.heap.objs.size z
 old:∀b o,b<s.heap.objs.size->s.heap.get? b=aa o->s2.heap.get? b=aa o
 sh:∃h' tk,s2={ s with heap:=h',toks:=tk}
theorem SV{fp:List ah}{s':ag}(h:∀b∈fp,b=(s.heap.push (new w)).objs.size)(c:Moved (s.heap.objs.size::fp) (λa b=>b=a) { s with heap:=(s.heap.push (new w)).push it} s')(i:Is1 w s'.heap s.heap.objs.size z):Left1 w s z s':=by
 refine⟨i,λb o g e=>c.heap b o (λq=>?_) (ai _ (ai _ e)),?_⟩
 ·rcases aC.mp q with q|q
  ·exact absurd g (q ▸ eQ _)
  ·have:=h b q;rw[ii]at this;exact absurd g (Cd.mpr (this ▸ oj _))
 ·obtain⟨j,k,l,d,f⟩:=s';have m:k=s.gens:=c.gens;have n:l=s.drawn:=c.drawn;have p:f=s.os:=c.os;subst m n p;exact⟨j,d,rfl⟩
theorem UX{x:Str}(j:A.handled=ab)(e:x.cps.size=1) :
 au (model prog w) A (Builtin.«set.__init__» ⟨[.ref s.heap.objs.size,.str x t],[]⟩) (λf k=>f=.done (.ret .none)/\Left1 w s x k) E { s with heap:=s.heap.push (new w)}:=by
  have g:(s.heap.push (new w)).get? s.heap.objs.size=aa (new w):=ax _ rfl;have m:=g;have C:=Fx.str_set;have G:=Fx.str_fro;have H:(oy "str" == oy "dict")=false:=by decide
  unfold new at g ⊢;unfold Builtin.«set.__init__» noKeywords D6;generalize a:pyIter=PI
  wp_walk
  subst a;refine wpAny_pyIter_str λo St W n=>ac (wpAny_runValue ?_);rw[e]at W;refine Kk ((W _ (by simp[j])).toS) s.heap.objs.size ?_ x ?_ _ n ?_ λI p r=>?_
  · exact λq=>absurd (aL.mp q) (by show s.heap.objs.size≠(s.heap.push (new w)).objs.size;rw[ii];exact aP (Az _))
  · intro i v y;obtain⟨c,u,h,rfl⟩:=y;obtain⟨⟨l⟩⟩:=x;have z:l.length=1:=e
    match l,z with
    |[d],_=>
      cases i with
      |zero=>cases h;exact⟨u,rfl⟩
      |succ i=>simp at h
  · exact ai _ m
  · refine am ?_;exact am ⟨rfl,SV (fp:=[(s.heap.push (new w)).objs.size]) (λb B=>aL.mp B) p r⟩
end
theorem Z0{a:Type}(nx:Nat->Nat)(x:a):pickOrder nx #[x]=#[x]:=by
 simp[pickOrder,pickOrder.go,Nat.mod_one]
namespace Fx
theorem iter_of:entryFor table "set.__iter__" =aa Builtin.«frozenset.__iter__» :=entryFor_alias (id':= "frozenset.__iter__") (by kernel_rfl) rfl (by decide +kernel) (by kernel_rfl)
theorem next_of:entryFor table "set_iterator.__next__" =aa Builtin.«set_iterator.__next__» :=entryFor_of_tree (by kernel_rfl)
theorem next_slot:Slot "set_iterator" "__next__" "set_iterator.__next__" :=.of (owner:= "set_iterator") (n:= "__next__") (by rw[typeLookup_type,builtinLookup_eq_fast];kernel_rfl) (by decide +kernel) (by decide +kernel) (by decide +kernel) (by first|exact .inl (by decide +kernel)|exact .inr (by decide +kernel)) (by rw[isSubtype_type];kernel_rfl)
theorem next_args(v:af):argsOk "set_iterator.__next__" ⟨[v],[]⟩:=by unfold argsOk;kernel_rfl
end Fx
noncomputable def rL(b:af)(i:Nat)(a:ah)(n c:Nat):Obj:={ cls:=.type "set_iterator",data:=.fields #[b,rawInt i,.ref a,rawInt n,rawInt c]}
section
variable {prog:aN}{w:aR}{A:a4}{E:af->ag->Prop}{s:ag}{I a:ah}{o:Obj}{es:Array (Int×af)}{ep:Nat}{t:SetTable}
theorem RI{i c d:Nat}{Q:Option af->ag->Prop}(f:s.heap.get? I=aa (rL (rawInt c) i a es.size ep))(m:s.heap.get? a=aa o)(n:o.data=.set es ep t)(p:t.fits es.size=true)
 (g:∀(A:a4) (E:af->ag->Prop) (R:Option (af×Nat)->ag->Prop),R (aa (v,d)) s->au (model prog w) A (setNext a c i ep) R E s)
 (k:∀h,h.get? I=aa (rL (rawInt d) (i+1) a es.size ep)->(∀b o,b≠I->s.heap.get? b=aa o->h.get? b=aa o)->Q (aa v) { s with heap:=h}):au (model prog w) A (pyNext (.ref I)) Q E s:=by
  have j:s.TypeIs (.ref I) "set_iterator" :=⟨_,f,rfl⟩
  unfold pyNext;refine ac (wpAny_attempt (wpAny_callSpecial?_slot (name:=iC "__next__") j Fx.next_slot (wpAny_call_entry Fx.next_slot j Fx.next_of ?_ (Fx.next_args _))));unfold Builtin.«set_iterator.__next__» slotArgs;simp only[Cf,BU,ei,↓reduceIte,bind_assoc,Af,bne_self_eq_false];refine ac (am (ac (wpAny_fieldsOf f rfl ?_)));show au _ _ (setEntries a >>= _) _ _ _;refine ac (wpAny_setEntries_of m n p ?_);rw[if_neg (by simp)];show au _ _ (setNext a c i ep >>= _) _ _ _;refine ac (g _ _ _ ?_);refine ac (wpAny_setField_rec f (by simp) λq r u=>?_);refine ac (wpAny_setField_rec (s:={ s with heap:=q}) r (by simp) λx y z=>?_);refine am ⟨v,rfl,am (k x ?_ λb o l e=>?_)⟩
  · rw[y];rfl
  · exact(z.2 b l).trans ((u.2 b l).trans e)
theorem stop{B:a4}{f:Type}(g:B.handled=ab){R:f->ag->Prop}{d:af->ag->Prop}(k:∀e c,(∀b o,s.heap.get? b=aa o->c.get? b=aa o)->BX { s with heap:=c} e "StopIteration" -> d e { s with heap:=c}) :
  au (model prog w) B (newExc (.type "StopIteration") [] >>= λe=>raiseNew e) R d s:=by
 refine ac ?_;simp only[newExc,newTuple];refine ac (wpAny_newObj_type ?_ (by size_fits));refine ac (m:=firstArgMember _ _) (wpAny_of_eq (a:=ox) (by first|rfl|(simp only[firstArgMember];rfl)) (wpAny_newObj_type ?_ (by size_fits)));simp only[raiseNew];refine ac (wpAny_handled ?_);rw[g];refine ac (am (wpAny_throw ?_));exact k _ _ (λb o e=>ai _ (ai _ e)) ⟨_,ax _ rfl,rfl⟩
theorem Vy{i c:Nat}{Q:Option af->ag->Prop}(j:A.handled=ab)(f:s.heap.get? I=aa (rL (rawInt c) i a es.size ep))(l:s.heap.get? a=aa o)(m:o.data=.set es ep t)(n:t.fits es.size=true)
  (nx:∀(A:a4) (E:af->ag->Prop) (R:Option (af×Nat)->ag->Prop),R ab s->au (model prog w) A (setNext a c i ep) R E s)
  (k:∀d,(∀b o,b≠I->s.heap.get? b=aa o->d.get? b=aa o)->Q ab { s with heap:=d}):au (model prog w) A (pyNext (.ref I)) Q E s:=by
 have h:s.TypeIs (.ref I) "set_iterator" :=⟨_,f,rfl⟩
 unfold pyNext;refine ac (wpAny_attempt (wpAny_callSpecial?_slot (name:=iC "__next__") h Fx.next_slot (wpAny_call_entry Fx.next_slot h Fx.next_of ?_ (Fx.next_args _))));unfold Builtin.«set_iterator.__next__» slotArgs;simp only[Cf,BU,ei,↓reduceIte,bind_assoc,Af,bne_self_eq_false];refine ac (am (ac (wpAny_fieldsOf f rfl ?_)));show au _ _ (setEntries a >>= _) _ _ _;refine ac (wpAny_setEntries_of l m n ?_);rw[if_neg (by simp)];show au _ _ (setNext a c i ep >>= _) _ _ _;refine ac (nx _ _ _ ?_);refine ac (wpAny_setField_rec f (by simp) λp v q=>?_);refine stop (B:=A.in1) (s:={ s with heap:=p}) j λe d g r=>?_;refine ac (wpAny_isInstance (b:=true) r isSubtype_stop ?_);exact am (k d λb o u e=>g b o ((q.2 b u).trans e))
end
namespace Fx
theorem self_slot:Slot "set_iterator" "__iter__" "set_iterator.__iter__" :=.of (owner:= "set_iterator") (n:= "__iter__") (by rw[typeLookup_type,builtinLookup_eq_fast];kernel_rfl) (by decide +kernel) (by decide +kernel) (by decide +kernel) (by first|exact .inl (by decide +kernel)|exact .inr (by decide +kernel)) (by rw[isSubtype_type];kernel_rfl)
theorem self_of:entryFor table "set_iterator.__iter__" =aa Builtin.«dict_keyiterator.__iter__» :=entryFor_alias (id':= "dict_keyiterator.__iter__") (by kernel_rfl) rfl (by decide +kernel) (by kernel_rfl)
theorem self_args(v:af):argsOk "set_iterator.__iter__" ⟨[v],[]⟩:=by unfold argsOk;kernel_rfl
end Fx
section
variable {prog:aN}{w:aR}{A:a4}{E:af->ag->Prop}{s:ag}{I a:ah}{o:Obj}{es:Array (Int×af)}{ep:Nat}{t:SetTable}
theorem self{i n:Nat}{Q:af->ag->Prop}(c:s.heap.get? I=aa (rL f0 i a n ep))(k:Q (.ref I) s):au (model prog w) A (pyIter (.ref I)) Q E s:=by
 have b:s.TypeIs (.ref I) "set_iterator" :=⟨_,c,rfl⟩
 refine wpAny_pyIter_slot b Fx.self_slot (wpAny_call_entry Fx.self_slot b Fx.self_of ?_ (Fx.self_args _));show au _ _ (ret (.ref I)) _ _ s;exact am ⟨_,rfl,"set_iterator",_,b,Fx.next_slot.lookup,k⟩
theorem Jj(u:A.handled=ab)(l:a≠I)(n:o.data=.set es ep t)(p:t.fits es.size=true)(val:Nat->af)(c:Nat->Nat)
  (nx:∀(i:Nat) (s:ag) (A:a4) (E:af->ag->Prop) (R:Option (af×Nat)->ag->Prop),i<es.size->s.heap.get? a=aa o->R (aa (val i,c (i+1))) s->au (model prog w) A (setNext a (c i) i ep) R E s)
  (x:∀(s:ag) (A:a4) (E:af->ag->Prop) (R:Option (af×Nat)->ag->Prop),s.heap.get? a=aa o->R ab s->au (model prog w) A (setNext a (c es.size) es.size ep) R E s) :
  Walks prog w A I [I,a] [I] es.size (λi v=>v=val i) (λi h=>h.get? I=aa (rL (rawInt (c i)) i a es.size ep)/\h.get? a=aa o) where
 sub:=λb j=>by simp at j;simp[j]
 frame:=λ_ _ _ d q=>⟨q I (by simp) _ d.1,q a (by simp) _ d.2⟩
 item:=λi s Q E y d k=>by
  refine RI d.1 d.2 n p (λA E R r=>nx i s A E R y d.2 r) λm g f=>?_;exact k _ m s.toks rfl ⟨g,f a o l d.2⟩ λb o j e=>f b o (by simpa using j) e
 done:=λs Q E d k=>Vy u d.1 d.2 n p (λA E R r=>x s A E R d.2 r) λm f=>k m s.toks λb o j e=>f b o (by simpa using j) e
 self:=λi s Q E d k=>self d.1 k
end
section
variable {prog:aN}{w:aR}{A:a4}{E:af->ag->Prop}{s:ag}{a:ah}{o:Obj}{es:Array (Int×af)}{ep:Nat}{t:SetTable}
theorem nE{Q:Bool->ag->Prop}(k:Q (bt w) s):au (model prog w) A setsByText Q E s:=ac (wpAny_askSetting (am k))
theorem ZC{i:Nat}{R:Option (af×Nat)->ag->Prop}(b:s.heap.get? a=aa o)(c:o.data=.set es ep t)(d:t.fits es.size=true)(f:bt w=true)
  (k:R (((pickOrder (w.params.setOrder a ep) es)[i]?).map λe=>(e.2,0)) s):au (model prog w) A (setNext a 0 i ep) R E s:=by
 unfold setNext;refine ac (wpAny_setState_of b c d ?_);refine ac (nE ?_);rw[f];simp only[bne_self_eq_false,ei,↓reduceIte];unfold setWalk;refine ac (ac (wpAny_setState_of b c d ?_));refine ac (nE ?_);rw[f];simp only[↓reduceIte];exact ac (wpAny_askSetting (am (am k)))
theorem ZD{i b:Nat}{R:Option (af×Nat)->ag->Prop}(n:s.heap.get? a=aa o)(p:o.data=.set es ep t)(q:t.fits es.size=true)(r:bt w=false)(u:t.led=true)(v:es.size<=1)
  (k:R (match es[oY t.place b]?,t.place[oY t.place b]? with
   |some (_,x),aa j=>aa (x,j+1)
   | _,_=>ab) s):au (model prog w) A (setNext a b i ep) R E s:=by
 unfold setNext;refine ac (wpAny_setState_of n p q ?_);refine ac (nE ?_);rw[r];simp only[ei,↓reduceIte];rw[if_neg (by show ¬ ((!t.plain&&decide (es.size > 1))=true);simp;lia)];refine ac (wpAny_of_eq (a:=()) ?_ (am k));obtain⟨m,e,c,d,f,g,h⟩:=t;have l:f=true:=u;subst l;rfl
end
theorem Wq(p:Nat):oY #[p] 0=0:=by simp[oY,DG]
theorem Wr(p:Nat):oY #[p] (p+1)=1:=by simp[oY,DG]
section
variable {prog:aN}{w:aR}{A:a4}{E:af->ag->Prop}{s:ag}{a:ah}{z:Str}
structure Wk1(prog:aN)(w:aR)(a n0:Nat)(z:Str)(I:ah)(h:aX):Prop where
 ex:∃(fp:List ah) (St:Nat->aX->Prop),I∈fp/\(∀b∈fp,b<h.objs.size/\(b=a\/n0<=b))/\St 0 h/\∃u,∀B:a4,B.handled=ab->Walks prog w B I fp [I] 1 (λ_ v=>v=en z u) St
theorem Tg{Q:af->ag->Prop}(M:Is1 w s.heap a z)
  (k:∀I q d,s.heap.objs.size<=I->Wk1 prog w a s.heap.objs.size z I q->(∀b o,s.heap.get? b=aa o->q.get? b=aa o)->Q (.ref I) { s with heap:=q,drawn:=d}):au (model prog w) A (pyIter (.ref a)) Q E s:=by
 obtain⟨o,u,v,t,m,N,l,f,O⟩:=M.ex;have H:s.TypeIs (.ref a) "set" :=⟨o,m,N.1⟩
 have J:a<s.heap.objs.size:=aA m;refine wpAny_pyIter_slot H F.slot_set_iter (wpAny_call_entry F.slot_set_iter H Fx.iter_of ?_ (F.args_set_iter_1 _));unfold Builtin.«frozenset.__iter__» ET slotArgs;simp only[Cf,BU,ei,↓reduceIte,bind_assoc,Af,bne_self_eq_false];unfold Ey Ez;refine ac (am (ac (am ?_)));refine ac (ac (wpAny_setEntries_of m l f (am ?_)));unfold setDrawn;refine ac (ac (wpAny_setState_of m l f ?_));refine ac (nE (am ?_));show au _ _ (if (!bt w&&(!t.plain&&decide (1 > 1)))=true then _ else _) _ _ _;rw[if_neg (by simp)];obtain⟨c,s0,nx,P⟩:∃c:Nat->Nat,c 0=0/\(∀(i:Nat) (s:ag) (A:a4) (E:af->ag->Prop) (R:Option (af×Nat)->ag->Prop),i<1->s.heap.get? a=aa o->R (aa (en z u,c (i+1))) s->au (model prog w) A (setNext a (c i) i v) R E s) /\
   (∀(s:ag) (A:a4) (E:af->ag->Prop) (R:Option (af×Nat)->ag->Prop),s.heap.get? a=aa o->R ab s->au (model prog w) A (setNext a (c 1) 1 v) R E s):=by
  cases h:bt w with
  |true=>
   refine⟨λ_=>0,rfl,λi s A E R S g r=>ZC g l f h ?_,λs A E R g r=>ZC g l f h ?_⟩
   ·have y:i=0:=by lia
    subst y;rw[Z0];exact r
   ·rw[Z0];exact r
  |false=>
   have n:t.led=true:=by rw[O,h];rfl
   obtain⟨p,K⟩:∃p,t.place=#[p]:=by
    have C:t.place.size=1:=by unfold SetTable.fits at f;simp at f;exact f.1
    match U:t.place,C with
    |⟨[p]⟩,_=>exact⟨p,rfl⟩
   refine⟨λi=>if i=0 then 0 else p+1,rfl,λi s A E R S g r=>ZD g l f h n (aj 1) ?_,λs A E R g r=>ZD g l f h n (aj 1) ?_⟩
   ·have y:i=0:=by lia
    subst y;rw[K];simp only[↓reduceIte,Wq];exact r
   ·rw[K];show R (match (#[(hashStr w z,en z u)])[oY #[p] (p+1)]?,_ with|some (_,x),aa j=>aa (x,j+1) | _,_=>ab) s;rw[Wr];exact r
 refine ac (am (ac (wpAny_setEpoch_of m l f ?_)));refine ac (wpAny_newObj_type ?_);have L:=ax s.heap (o:=rL (rawInt 0) 0 a 1 v) rfl;refine am ⟨_,rfl,"set_iterator",_,⟨_,L,rfl⟩,Fx.next_slot.lookup,?_⟩;have G:a≠s.heap.objs.size:=aP J;refine k _ _ s.drawn (aj _) ⟨[s.heap.objs.size,a],_,by simp,λb h=>?_,?_,u,λB T=>Jj T G l f (λ_=>en z u) c nx P⟩ λb o e=>ai _ e
 ·rw[ii];rcases aC.mp h with rfl|h
  ·exact⟨Az _,.inr (aj _)⟩
  ·rw[aL.mp h];exact⟨B3 J,.inl rfl⟩
 ·rw[s0];exact⟨L,ai _ m⟩
end
namespace Fx
theorem len_of:typeLookup (.type "set") "__len__" =pure (aa (.builtin "set.__len__")):=by rw[typeLookup_type,builtinLookup_eq_fast];kernel_rfl
end Fx
section
variable {prog:aN}{w:aR}{A:a4}{E:af->ag->Prop}{s:ag}{a:ah}{z:Str}
theorem Vd{Q:List af->ag->Prop}(S:A.handled=ab)(K:Is1 w s.heap a z)
  (k:∀u h,(∀b o,s.heap.get? b=aa o->h.heap.get? b=aa o)->h.gens=s.gens->h.os=s.os->Q [en z u] h) :
  au (model prog w) A (collect (.ref a)) Q E s:=by
 have M:a<s.heap.objs.size:=let⟨_,_,_,_,g,_⟩:=K.ex;aA g;unfold collect;refine ac (wpAny_runValue (codeAny_builtin F.entry_proto_collect ?_));rw[eT F.plain_proto_collect _];refine ac (m:=newList []) (wpAny_newObj_type ?_);refine am ⟨plainId_quiet F.plain_list_iadd _,?_⟩;refine codeAny_builtin F.entry_list_iadd ?_;rw[eT F.plain_list_iadd _];generalize y:s.heap.push { cls:=.type "list",data:=.seq ([]:List af).toArray}=L;have T:L.get? s.heap.objs.size=aa { cls:=.type "list",data:=.seq ([]:List af).toArray}:=by rw[<- y];exact ax _ rfl
 have N:L.objs.size=s.heap.objs.size+1:=by rw[<- y,ii]
 have il:Is1 w L a z:=K.mono λo e=>by rw[<- y];exact ai _ e
 have U:BX { s with heap:=L} (.ref a) "set" :=let⟨o,_,_,_,g,x,_⟩:=il.ex;⟨o,g,x.1⟩;show au _ A.in1 (oG (.ref s.heap.objs.size) (.ref a) (.ref s.heap.objs.size)) _ _ { s with heap:=L};have Y:oZ (.ref s.heap.objs.size) (.ref a)=false:=by simp[oZ];exact Bv M
 unfold oG;refine ac (wpAny_typeOf U ?_);rw[if_neg (by rw[Y];decide)];refine ac (Tg (s:={ s with heap:=L}) il λI p d Z wk i=>?_);have j:BX { s with heap:=p,drawn:=d} (.ref a) "set" :=let⟨o,_,_,_,g,x,_⟩:=il.ex;⟨o,i a o g,x.1⟩;refine ac (e6 ?_);unfold As;refine ac (wpAny_specialOf j Fx.len_of ?_)
 wp_delta
 refine ac (wpAny_isInstance (b:=true) j (by rw[isSubtype_type];kernel_rfl) ?_);show au _ A.in1 (typeOf (ea a) >>= _) _ _ _;refine ac (wpAny_typeOf j (am ?_));rw[if_pos (by decide)];refine ac (wpAny_rule ?_);unfold EX EU;have O:p.get? s.heap.objs.size=aa { cls:=.type "list",data:=.seq ([]:List af).toArray}:=i _ _ T;refine ac (ac (wpAny_updateSeq O rfl ?_));have mF:=iX (eU (·.push ox)) O rfl;refine wpAny_updateSeq mF rfl ?_;have B:=iX (eU (·.pop)) mF rfl;obtain⟨fp,St,If,fb,st,u,W⟩:=wk.ex;have P:s.heap.objs.size∉fp:=λq=>by
  rcases (fb _ q).2 with e|e
  ·exact absurd M (e ▸ eQ _)
  ·have r:L.objs.size<=s.heap.objs.size:=e;rw[N]at r;exact absurd r (Nat.not_succ_le_self _)
 have R:=W A.in1 S;have f:∀b o,b≠s.heap.objs.size->p.get? b=aa o->((p.update s.heap.objs.size (eU (·.push ox))).update s.heap.objs.size (eU (·.pop))).get? b=aa o:=λb o n e=>
  (ib _ _ (iM n)).trans ((ib _ _ (iM n)).trans e)
 have C:=R.frame 0 p _ st λb n o e=>f b o (λq=>P (q ▸ n)) e;refine am ⟨plainId_quiet F.plain_extend_loop _,?_⟩;refine codeAny_extend_loopS R.toS (fits_of_scanBound (show 1<scanBound by decide)) _ P _ 1 0 _ _ _ rfl (aM _) C B (E4 _) λh t c G gS it=>?_;show au _ A (load s.heap.objs.size >>= _) _ _ h;refine ac (wpAny_load gS ?_);have ev:t=#[en z u]:=by
  obtain⟨l⟩:=t;obtain⟨il,H⟩:=it;have il:l.length=1:=il
  match l,il,H with
  |[v],_,H=>rw[H 0 v rfl]
 subst ev;refine am (k u h (λb o e=>?_) G.gens G.os);have J:=aA e;have n:b≠s.heap.objs.size:=aP J;refine G.heap b o (λq=>?_) (f b o n (i b o (by show L.get? b=_;rw[<- y];exact ai _ e)));rcases aC.mp q with q|q
 ·exact n q
 ·rw[aL.mp q]at J;have r:L.objs.size<=I:=Z;rw[N]at r;exact absurd J (Cd.mpr (Nat.le_of_succ_le r))
end
section
variable {prog:aN}{w:aR}{A:a4}{E:af->ag->Prop}{s:ag}{a:ah}{z:Str}
theorem Lb{Q:af->ag->Prop}(p:A.handled=ab)(q:Is1 w s.heap a z)
  (k:∀ (u:Tok) (e:Nat) (s1:ag) (h':aX),(∀ b o,s.heap.get? b=aa o->s1.heap.get? b=aa o)->s1.gens=s.gens->s1.os=s.os ->
   h'.get? s1.heap.objs.size=aa (seqObj "list" #[en z u] e)->(∀b o,s1.heap.get? b=aa o->h'.get? b=aa o)->Q (.ref s1.heap.objs.size) { s1 with heap:=h'}) :
  au (model prog w) A (call (.builtin "sorted") [.ref a]) Q E s:=by
 refine B9 kind_sorted plain_sorted entry_sorted (args_sorted1 _) ?_;unfold Builtin.«sorted»;refine ac (m:=checkCount "sorted" 1 1 _) (am ?_);refine ac (Vd p q λu s1 c t v=>?_);have d:StrsAre [en z u] [z]:=.cons _ _ .nil;have f:(s1.heap.push (seqObj "list" [en z u].toArray 0)).get? s1.heap.objs.size=aa (seqObj "list" [en z u].toArray 0):=ax _ rfl;refine ac (wpAny_newList ?_ (fits_of_scanBound (show 1<scanBound by decide)));show au _ _ _ _ _ { s1 with heap:=s1.heap.push (seqObj "list" [en z u].toArray 0)};have sz:(s1.heap.push (seqObj "list" [en z u].toArray 0)).objs.size=s1.heap.objs.size+1:=by rw[ii]
 refine ac (e6 (wpAny_call_entry slot_list_sort ⟨_,f,rfl⟩ entry_list_sort (list_sort_treeK strKind_oneLt f d.keysOf (λI J rest e=>keyKind_strs (by rw[<- e];exact d)) (show 1<64 by decide) λg x y=>⟨_,rfl,?_⟩) (args_list_sort _)));obtain⟨K,i,B,L⟩:=sorted_out_str d x y;cases Dc.mp B;obtain⟨e,C⟩:=sortedHeap_at (out:=(arrOf g).map (·.2)) f;obtain⟨h,G⟩:∃h,(arrOf g).map (·.2)=#[en z h]:=by
  generalize (arrOf g).map (·.2)=H at i;obtain⟨l⟩:=H;cases i with
  |cons _ _ r=>cases r;exact⟨_,rfl⟩
 refine am ⟨_,rfl,?_⟩;refine k h e s1 _ c t v (by rw[<- G];exact C) λb o j=>?_;have n:=aA j;rw[sortedHeap_old (aP n) (by rw[sz];exact B3 n)];exact ai _ j
end
end TS
namespace L2
open PySem PySem.Spec PyProof.Rows TS
theorem Inv.drawn{s s1:ag}(I:Inv X pins σ H s)(f:∀b o,s.heap.get? b=aa o->s1.heap.get? b=aa o)(i:s1.gens=s.gens)(j:s1.os=s.os):Inv X pins σ H s1:=by
 obtain⟨h,g,d,e,k⟩:=s1;have a:g=s.gens:=i;have c:k=s.os:=j;subst a c;have J:Inv X pins σ H { s with heap:=h,toks:=e}:=I.kept (t':=e) f;exact⟨J.ok,J.os,J.bare,J.base,J.loc,J.cell,J.free,J.freeC,J.pin,J.hok,J.len⟩
def Lx(K:ae)(t:TE):TE:=λb H Q=>t b H λx a=>∃z,x=.str z/\z.cps.size=1/\∀r,a r=ab->Q (.ref r) (zp a r (.lst [V.str z]))
section
variable {X:Cx}{e:Expr}{t:TE}{p p1 pos pos1:Pos}
def one(R:V->Hp->Prop):List V->Hp->Prop:=λa H=>match a with
 |[x]=>R x H
 | _=>False
theorem ZN{R:V->Hp->Prop}(h:one R xs H):∃x,xs=[x]/\R x H:=by
 match xs,h with
 |[x],h=>exact⟨x,rfl,h⟩
theorem Pl(n:X.calm=true)(C:PE X e t)(E:Gl X "sorted")(G:X.mg "sorted" =ab)(J:eg "sorted" =aa (.builtin "sorted"))(g:Gl X "set")(i:X.mg "set" =ab)(j:eg "set" =aa (.type "set"))
  (h1:aZ [e] X.env=(false,eval e X.env)::aZ [] X.env) (q:aZ [Fq (.Name "set" p1) [e] [] pos1] X.env=(false,eval (.Call (.Name "set" p1) [e] [] pos1) X.env)::aZ [] X.env) :
  PE X (.Call (.Name "sorted" p) [.Call (.Name "set" p1) [e] [] pos1] [] pos) (Lx X.K t):=by
 intro a s f H Q I h;refine iJ (vD I E G J ?_ (by decide) (by decide));refine Bw ?_ q rfl;rw[q];refine BL (rest:=backTo pos (aZ [] X.env)) ?_;refine iJ (vD I g i j ?_ (by decide) (by decide));refine eK ?_ h1 rfl;refine zu (jO C jP h1 pos1 a s f H (one λx c=>∃z,x=.str z/\z.cps.size=1/\∀r,c r=ab->Q (.ref r) (zp c r (.lst [V.str z]))) I ?_) ?_
 ·exact(show t f H _ from h)
 ·rintro us s1 ⟨xs,c,v,k,L⟩;obtain⟨x,rfl,z,rfl,M,N⟩:=ZN L;cases k with
  |cons k O=>
   cases O;obtain⟨y,rfl⟩:=k;have R:=v.ok.hd n;refine W2 (P:=Left1 X.w s1 z) R (λB S=>UX S M) λs2 l=>?_;refine B0 ?_;have T:Inv X a f c s2:=by
    obtain⟨U,y,rfl⟩:=l.sh;exact v.kept (t':=y) λb o e=>l.old b o (aA e) e
   refine Lb (I.ok.hd n) l.is λu Y s3 U m Z eo gr d=>?_;have A:Inv X a f c s3:=T.drawn m Z eo;exact⟨.ref s3.heap.objs.size,_,A.laid (t':=s3.toks) (o:=.lst [V.str z]) d (aj _) ⟨by rw[ih];exact(by decide:1<=16777216),[en z u],Y,.cons ⟨_,rfl⟩ .nil,gr⟩,rfl,N s3.heap.objs.size (A.hok.fresh (aj _))⟩
end
end L2
namespace L3
open PySem PySem.Spec PyProof.Rows L2 TS
noncomputable def ja:Ent->Option Ent:=λx=>(zP x).bind λz=>yY (z.cps.size=1) (aa (.own [.str z]))
section
variable {X:Cx}{e:Expr}{fe:FE}{p p1 pos pos1:Pos}
theorem Ku(g:VE X e fe)(i:Gl X "sorted")(j:X.mg "sorted" =ab)(l:eg "sorted" =aa (.builtin "sorted"))(b:Gl X "set")(c:X.mg "set" =ab)(d:eg "set" =aa (.type "set"))(n:X.calm=true:=by rfl)(h1:zK e=true:=by rfl) :
  VE X (.Call (.Name "sorted" p) [.Call (.Name "set" p1) [e] [] pos1] [] pos) (zo ja fe):=by
 obtain⟨t,w,m⟩:=g.h;refine⟨_,⟨Pl n w.h i j l b c d (xc h1) (xc rfl)⟩,λB F H o u x Q s q k=>?_⟩;obtain⟨I,y,q⟩:=ze q;obtain⟨z,A,q⟩:=ze q;obtain⟨C,q⟩:=xS q;cases q;cases xi A;refine m B F H o u _ _ s y λv E J a G=>?_;cases (show Rep E v (.str z)from G);exact⟨z,rfl,C,λr f=>k _ _ _ (a.trans (Ex.lay a.fh f)) ⟨r,_,rfl,a.hh.free f,yz,.cons (.str z) .nil,a.fh.free f⟩⟩
end
end L3

namespace L2
open PySem PySem.Spec PyProof.Rows
def xK(K:ae):Bool->Hp->ah->List V->Prop
 |true=>SqT K
 |false=>SqL K
def SIt:Bool->aX->ah->ah->Nat->Prop
 |true,h,it,a,i=>h.IsTupleIter it a i
 |false,h,it,a,i=>h.IsListIter it a i
def QAt:Bool->aX->ah->Array af->Prop
 |true,h,a,b=>h.IsTuple a b
 |false,h,a,b=>h.IsList a b
noncomputable def mI:Bool->String
 |true=> "tuple_iterator"
 |false=> "list_iterator"
theorem SIt.out{k:Bool}{h:aX}{it a:ah}{i:Nat}(st:SIt k h it a i):∃o,h.get? it=aa o/\o.cls=.type (mI k)/\o.data=.fields #[.ref a,.int i 0]:=by cases k <;> exact st
theorem SIt.mk{k:Bool}{h:aX}{it a:ah}{i:Nat}(st:∃o,h.get? it=aa o/\o.cls=.type (mI k)/\o.data=.fields #[.ref a,.int i 0]):SIt k h it a i:=by cases k <;> exact st
theorem SIt.at{k:Bool}{h h':aX}{it a:ah}{i:Nat}(st:SIt k h it a i)(e:∀o,h.get? it=aa o->h'.get? it=aa o):SIt k h' it a i:=by
 obtain⟨o,b,c⟩:=st.out;exact .mk ⟨o,e o b,c⟩
theorem Inv.turn1{s:ag}{h':aX}(I:Inv X pins σ H s)(f:y4 X pins H b)(k:∀c o,c≠b->s.heap.get? c=aa o->h'.get? c=aa o):Inv X pins σ H { s with heap:=h'}:=
 I.turned (t':=s.toks) k f.1 f.2.1 f.2.2.2.1 f.2.2.2.2.1 f.2.2.2.2.2
theorem Inv.seqQ{X:Cx}{s:ag}{k:Bool}(I:Inv X pins σ H s)(h:xK X.K k H a xs):∃b:List af,Vals xs b/\QAt k s.heap a b.toArray:=by
 cases k with
 |true=>obtain⟨b,r,p,_⟩:=I.tuple h;exact⟨b,r,p⟩
 |false=>obtain⟨b,r,p,_⟩:=I.list h;exact⟨b,r,p.isList⟩
theorem Inv.seqQ_inj{X:Cx}{k:Bool}(I:Inv X pins σ H s)(h:xK X.K k H a xs)(h':xK X.K k H a ys):xs=ys:=by
 cases k with
 |true=>exact I.tuple_inj h h'
 |false=>exact I.list_inj h h'
section
variable {prog:aN}{w:aR}{A:a4}{E:af->ag->Prop}{s:ag}
theorem Z7{k:Bool}{Q:af->ag->Prop}(h:QAt k s.heap a xs)(q:Q (.ref s.heap.objs.size) { s with heap:=s.heap.push { cls:=.type (mI k),data:=.fields #[.ref a,.int 0 0]}}):au (model prog w) A (pyIter (.ref a)) Q E s:=by
 cases k with
 |true=>exact wpAny_pyIter_tuple h q
 |false=>exact wpAny_pyIter_list h q
theorem ZF{it:ah}{i:Nat}{Q:af->ag->Prop}(st:s.heap.IsTupleIter it t i)(e:s.heap.IsTuple t its)(f:its[i]? =aa u)
 (k:∀c,c.IsTupleIter it t (i+1)->o7 it s.heap c->Q u { s with heap:=c}):au (model prog w) A (eJ (.ref it)) Q E s:=by
  obtain⟨p,b,g,a⟩:=id st;obtain⟨q,h,_,m,j⟩:=e;unfold eJ;refine ac (wpAny_callSpecial?_slot (name:=iC "__next__") st.typeIs F.slot_tuple_iterator_next (wpAny_call_entry F.slot_tuple_iterator_next st.typeIs F.entry_tuple_iterator_next ?_ (F.args_tuple_iterator_next_1 _)));show au _ _ (field (.ref it) 0 >>= _) _ _ _;refine ac (wpAny_field b a (x:=.ref t) rfl ?_);show au _ _ (if (ea t==ox)=true then _ else _) _ _ _;have d:¬ ((ea t==ox)=true):=aK;rw[if_neg d];show au _ _ (field (.ref it) 1 >>= _) _ _ _;refine ac (wpAny_field b a (x:=.int i 0) rfl ?_);show au _ _ (seqItems? (.ref t) >>= _) _ _ _;refine ac (wpAny_seqItems h j ?_);simp only[oz,f];refine ac (wpAny_setField b a (by simp) (am ⟨u,rfl,am (k _ ⟨_,iX _ b (Obj.isFreed_of_fields (Dr a _)),(Obj.cls_mapFields ..).trans g,?_⟩ (AF ..))⟩));rw[Dr a];simp[rawInt]
theorem jJ{it:ah}{i:Nat}{Q:af->ag->Prop}(g:A.handled=ab)(st:s.heap.IsTupleIter it t i)(h:s.heap.IsTuple t its)(j:its[i]? =ab)
 (k:∀b e,DI it s.heap b->(∃o,b.get? e=aa o/\o.cls=.type "StopIteration")->E (.ref e) { s with heap:=b}):au (model prog w) A (eJ (.ref it)) Q E s:=by
  obtain⟨p,c,r,d⟩:=id st;obtain⟨q,l,_,m,n⟩:=h;unfold eJ;refine ac (wpAny_callSpecial?_slot (name:=iC "__next__") st.typeIs F.slot_tuple_iterator_next (wpAny_call_entry F.slot_tuple_iterator_next st.typeIs F.entry_tuple_iterator_next ?_ (F.args_tuple_iterator_next_1 _)));show au _ _ (field (.ref it) 0 >>= _) _ _ _;refine ac (wpAny_field c d (x:=.ref t) rfl ?_);show au _ _ (if (ea t==ox)=true then _ else _) _ _ _;have f:¬ ((ea t==ox)=true):=aK;rw[if_neg f];show au _ _ (field (.ref it) 1 >>= _) _ _ _;refine ac (wpAny_field c d (x:=.int i 0) rfl ?_);show au _ _ (seqItems? (.ref t) >>= _) _ _ _;refine ac (wpAny_seqItems l n ?_);simp only[oz,j];refine ac (wpAny_rule (ac (wpAny_setField c d (by simp) ?_)));show au _ _ (newExc (.type "StopIteration") [] >>= _) _ _ _;refine ac (by
    simp only[newExc,newTuple];refine ac (wpAny_newObj_type (ac (m:=firstArgMember _ _) (wpAny_of_eq (a:=ox) (by first|rfl|(simp only[firstArgMember];rfl)) (wpAny_newObj_type ?_ (by size_fits)))) (by size_fits));simp only[raiseNew];refine ac (wpAny_handled (by
      rw[show A.in1.handled=ab from g];exact ac (am (wpAny_throw (k _ _ (((AF ..).extBut.push _).push _) ⟨_,ax _ rfl,rfl⟩))))))
end
section
variable {X:Cx}{A:a4}{pins:List (ah×Obj)}{σ:St}{H:Hp}{s:ag}{E:af->ag->Prop}{k k1 k2:Bool}{it a b z TI TO i1 i2:ah}{i:Nat}{xs ys:List V}{x y:V}
theorem jI{Q:af->ag->Prop}(I:Inv X pins σ H s)(f:y4 X pins H it)(st:SIt k s.heap it a i)(q:xK X.K k H a xs)(r:xs[i]? =aa x)
  (l:∀u d,RelV x u->SIt k d it a (i+1)->o7 it s.heap d->Inv X pins σ H { s with heap:=d}->Q u { s with heap:=d}):au (model X.prog X.w) A (eJ (.ref it)) Q E s:=by
 obtain⟨t,v,p⟩:=I.seqQ q;obtain⟨u,m,n⟩:=v.get r;cases k with
 |true=>exact ZF st p (u:=u) (by simpa using m) λd g h=>l u d n g h (I.turn1 f λc o j e=>(h.2 c j).trans e)
 |false=>exact wpAny_nextOf_list_item st p (x:=u) (by simpa using m) λd g h=>l u d n g h (I.turn1 f λc o j e=>(h.2 c j).trans e)
theorem ZE{Q:af->ag->Prop}(l:A.handled=ab)(I:Inv X pins σ H s)(f:y4 X pins H it)(st:SIt k s.heap it a i)(n:xK X.K k H a xs)(t:xs.length<=i)
  (m:∀d e,DI it s.heap d->(∃o,d.get? e=aa o/\o.cls=.type "StopIteration")->Inv X pins σ H { s with heap:=d}->E (.ref e) { s with heap:=d}):au (model X.prog X.w) A (eJ (.ref it)) Q E s:=by
 obtain⟨q,r,p⟩:=I.seqQ n;have u:=r.length;cases k with
 |true=>exact jJ l st p (by simp;lia) λd e g h=>m d e g h (I.turn1 f λc o j e=>g c o j e)
 |false=>exact wpAny_nextOf_list_end l st p (by simp;lia) λd e g h=>m d e g h (I.turn1 f λc o j e=>g c o j e)
structure ZSt(k1 k2:Bool)(z TI TO i1 i2 a b:ah)(i:Nat)(f0:af)(h:aX):Prop where
 hz:IsZip h z TI TO f0
 hi:IsPair h TI (.ref i1) (.ref i2)
 ho:∃x y,IsPair h TO x y
 s1:SIt k1 h i1 a i
 s2:SIt k2 h i2 b i
structure ZNe(z TI TO i1 i2:ah):Prop where
 n1:TI≠z
 n2:TO≠z
 n3:i1≠z
 n4:i2≠z
 n5:TI≠TO
 n6:TI≠i1
 n7:TI≠i2
 n8:TO≠i1
 n9:TO≠i2
 n10:i1≠i2
theorem ZSt.keep{h h':aX}(st:ZSt k1 k2 z TI TO i1 i2 a b i f0 h)(d:∀c∈[z,TI,TO,i1,i2],∀o,h.get? c=aa o->h'.get? c=aa o):ZSt k1 k2 z TI TO i1 i2 a b i f0 h':=
 ⟨d z (by simp) _ st.hz,d TI (by simp) _ st.hi,let⟨x,y,e⟩:=st.ho;⟨x,y,d TO (by simp) _ e⟩,st.s1.at λo e=>d i1 (by simp) o e,st.s2.at λo e=>d i2 (by simp) o e⟩
theorem J4{Q:af->ag->Prop}(N:ZNe z TI TO i1 i2)(I:Inv X pins σ H s)(t:∀b∈[z,TI,TO,i1,i2],y4 X pins H b)(st:ZSt k1 k2 z TI TO i1 i2 a b i .none s.heap)(q1:xK X.K k1 H a xs)(q2:xK X.K k2 H b ys)
  (hx:xs[i]? =aa x) (hy:ys[i]? =aa y)
  (go:∀C,ZSt k1 k2 z TI TO i1 i2 a b (i+1) (rawInt s.heap.objs.size) C->Inv X pins σ (zp H s.heap.objs.size (.tup [x,y])) { s with heap:=C}->Q (.ref s.heap.objs.size) { s with heap:=C}) :
  au (model X.prog X.w) A (Builtin.«zip.__next__» ⟨[.ref z],[]⟩) (λz9 s'=>∃v,z9=.done (.ret v)/\Q v s') E s:=by
 obtain⟨l,m,⟨oa,ob,G⟩,h1,h2⟩:=st;have J:=t z (by simp);have fO:=t TO (by simp);have f1:=t i1 (by simp);have f2:=t i2 (by simp);show au _ _ (field (.ref z) 2 >>= _) _ _ _;refine ac (wpAny_field l rfl (x:=.bool false) rfl ?_);show au _ _ (field (.ref z) 3 >>= _) _ _ _;refine ac (wpAny_field l rfl (x:=.ref TI) rfl (ac (wpAny_seqItems m rfl ?_)));show au _ _ (i0 (.ref z) >>= _) _ _ _;refine ac ?_;unfold i0;refine ac (wpAny_field l rfl (x:=.none) rfl (am ?_));simp only[if_true];refine ac (wpAny_rule (ac (wpAny_field l rfl (x:=.ref TO) rfl (ac (wpAny_setField_rec l (by simp) λg1 L f=>?_)))));replace L:IsZip g1 z TI TO .ellipsis:=L;have I1:Inv X pins σ H { s with heap:=g1}:=I.turn1 J f.extBut;refine ac ?_;simp only[Be,D1,Br,BF];refine ac (ac (wpAny_onRaise ?_));show au _ _ (eJ (.ref i1) >>= _) _ _ _;refine ac (jI I1 f1 (h1.at λo e=>f.extBut _ o N.n3 e) q1 hx λg g2 r1 t1 n I2=>am ?_);have O2:IsPair g2 TO oa ob:=n.extBut _ _ N.n8 (f.extBut _ _ N.n2 G);refine ac (wpAny_seqItems O2 rfl (ac (wpAny_updateSeq_pair O2 λM O h=>?_)));replace O:IsPair M TO g ob:=O;have I3:Inv X pins σ H { s with heap:=M}:=I2.turn1 fO h.extBut;refine ac (wpAny_letGo (am (ac (ac (wpAny_onRaise ?_)))));show au _ _ (eJ (.ref i2) >>= _) _ _ _;have P:SIt k2 M i2 b i:=h2.at λo e=>h.extBut _ o N.n9.symm (n.extBut _ o N.n10.symm (f.extBut _ o N.n4 e));refine ac (jI I3 f2 P q2 hy λu2 g4 r2 t2 p I4=>am ?_);have O4:IsPair g4 TO g ob:=p.extBut _ _ N.n9 O;refine ac (wpAny_seqItems O4 rfl (ac (wpAny_updateSeq_pair O4 λd u j=>?_)));replace u:IsPair d TO g u2:=u;have I5:Inv X pins σ H { s with heap:=d}:=I4.turn1 fO j.extBut;refine ac (wpAny_letGo (am (am (ac (wpAny_seqItems u rfl (ac (wpAny_newTuple ?_)))))));have R:d.objs.size=s.heap.objs.size:=by rw[j.1,p.1,h.1,n.1,f.1]
 have z5:IsZip d z TI TO .ellipsis:=j.extBut _ _ N.n2.symm (p.extBut _ _ N.n4.symm (h.extBut _ _ N.n2.symm (n.extBut _ _ N.n3.symm L)));have S:IsPair d TI (.ref i1) (.ref i2):=j.extBut _ _ N.n5 (p.extBut _ _ N.n7 (h.extBut _ _ N.n5 (n.extBut _ _ N.n6 (f.extBut _ _ N.n1 m))));have T:SIt k1 d i1 a (i+1):=t1.at λo e=>j.extBut _ o N.n8.symm (p.extBut _ o N.n10 (h.extBut _ o N.n8.symm e));have U:SIt k2 d i2 b (i+1):=t2.at λo e=>j.extBut _ o N.n9.symm e;have q:z<d.objs.size:=aA z5;show au _ _ (AL (.ref z) (.ref d.objs.size) >>= _) _ _ _;refine ac ?_;unfold AL;have I6:Inv X pins σ (zp H d.objs.size (.tup [x,y])) { s with heap:=d.push { cls:=.type "tuple",data:=.seq #[g,u2]}}:=
  I5.laid (t':=s.toks) (o:=.tup [x,y]) (λc o e=>ai _ e) (aj _) ⟨by show 2<=aS;rw[ih];lia,[g,u2],.cons r1 (.cons r2 .nil),⟨_,ax _ rfl,rfl,0,by simp⟩⟩
 have r:y4 X pins (zp H d.objs.size (.tup [x,y])) z:=⟨by rw[zX (aP q)];exact J.1,J.2⟩
 have z6:IsZip (d.push { cls:=.type "tuple",data:=.seq #[g,u2]}) z TI TO .ellipsis:=ai _ z5;refine ac (wpAny_setField_rec z6 (by simp) λg7 Y b7=>?_);replace Y:IsZip g7 z TI TO (rawInt d.objs.size):=Y;have I7:Inv X pins σ (zp H d.objs.size (.tup [x,y])) { s with heap:=g7}:=I6.turn1 r b7.extBut;refine wpAny_setField_rec Y (by simp) λg8 Z b8=>?_;replace Z:IsZip g8 z TI TO (rawInt d.objs.size):=Z;have I8:Inv X pins σ (zp H d.objs.size (.tup [x,y])) { s with heap:=g8}:=I7.turn1 r b8.extBut;have B:∀c o,c≠z->d.get? c=aa o->g8.get? c=aa o:=λc o c1 e=>b8.extBut _ _ c1 (b7.extBut _ _ c1 (ai _ e));refine am ⟨_,rfl,?_⟩;show Q (.ref d.objs.size) _;have S8:ZSt k1 k2 z TI TO i1 i2 a b (i+1) (rawInt d.objs.size) g8:=⟨Z,B _ _ N.n1 S,⟨_,_,B _ _ N.n2 u⟩,T.at λo e=>B _ o N.n3 e,U.at λo e=>B _ o N.n4 e⟩
 rw[R]at S8 I8 ⊢;exact go g8 S8 I8
theorem J3{Q:Fin->ag->Prop}(R:A.handled=ab)(N:ZNe z TI TO i1 i2)(I:Inv X pins σ H s)(m:∀b∈[z,TI,TO,i1,i2],y4 X pins H b)(st:ZSt k1 k2 z TI TO i1 i2 a b i .none s.heap)(S:xK X.K k1 H a xs)(q2:xK X.K k2 H b ys)
  (hx:xs.length<=i\/ys.length<=i)
  (T:∀t e,(∃o,t.get? e=aa o/\o.cls=.type "StopIteration")->Inv X pins σ H { s with heap:=t}->E (.ref e) { s with heap:=t}) :
  au (model X.prog X.w) A (Builtin.«zip.__next__» ⟨[.ref z],[]⟩) Q E s:=by
 obtain⟨g,u,⟨oa,ob,v⟩,h1,h2⟩:=st;have B:=m z (by simp);have fO:=m TO (by simp);have U:=m i1 (by simp);have f2:=m i2 (by simp);show au _ _ (field (.ref z) 2 >>= _) _ _ _;refine ac (wpAny_field g rfl (x:=.bool false) rfl ?_);show au _ _ (field (.ref z) 3 >>= _) _ _ _;refine ac (wpAny_field g rfl (x:=.ref TI) rfl (ac (wpAny_seqItems u rfl ?_)));show au _ _ (i0 (.ref z) >>= _) _ _ _;refine ac ?_;unfold i0;refine ac (wpAny_field g rfl (x:=.none) rfl (am ?_));simp only[if_true];refine ac (wpAny_rule (ac (wpAny_field g rfl (x:=.ref TO) rfl (ac (wpAny_setField_rec g (by simp) λC n p=>?_)))));replace n:IsZip C z TI TO .ellipsis:=n;have Y:Inv X pins σ H { s with heap:=C}:=I.turn1 B p.extBut;refine ac ?_;simp only[Be,D1,Br,BF];refine ac (ac (wpAny_onRaise ?_));show au _ _ (eJ (.ref i1) >>= _) _ _ _;have h:SIt k1 C i1 a i:=h1.at λo e=>p.extBut _ o N.n3 e;by_cases Z:xs.length<=i
 ·refine ac (ZE R Y U h S Z λG e j J L=>?_);obtain⟨M,c,l⟩:=J;have z2:IsZip G z TI TO .ellipsis:=j _ _ N.n3.symm n;have d:e≠z:=λq=>by subst q;rw[z2]at c;cases c;simp at l
  exact wpAny_setField_rec z2 (by simp) λr _ f=>T r e ⟨M,f.extBut _ _ d c,l⟩ (L.turn1 B f.extBut)
 ·have O:ys.length<=i:=hx.resolve_left Z;refine ac (jI Y U h S (x:=xs[i]'(by lia)) (aD (by lia)) λu1 G r1 t1 j L=>am ?_);have O2:IsPair G TO oa ob:=j.extBut _ _ N.n8 (p.extBut _ _ N.n2 v);refine ac (wpAny_seqItems O2 rfl (ac (wpAny_updateSeq_pair O2 λr O3 f=>?_)));have I3:Inv X pins σ H { s with heap:=r}:=L.turn1 fO f.extBut;refine ac (wpAny_letGo (am (ac (ac (wpAny_onRaise ?_)))));show au _ _ (eJ (.ref i2) >>= _) _ _ _;have P:SIt k2 r i2 b i:=h2.at λo e=>f.extBut _ o N.n9.symm (j.extBut _ o N.n10.symm (p.extBut _ o N.n4 e));refine ac (ZE R I3 f2 P q2 O λg4 e b4 J I4=>?_);obtain⟨M,c,l⟩:=J;have z4:IsZip g4 z TI TO .ellipsis:=b4 _ _ N.n4.symm (f.extBut _ _ N.n2.symm (j.extBut _ _ N.n3.symm n));have d:e≠z:=λq=>by subst q;rw[z4]at c;cases c;simp at l
  exact wpAny_setField_rec z4 (by simp) λg5 _ b5=>T g5 e ⟨M,b5.extBut _ _ d c,l⟩ (I4.turn1 B b5.extBut)
end
def km(K:ae)(e f:Bool)(a b:ah):It:=
  ⟨λi H=>∃c d x y,xK K e H a c/\xK K f H b d/\c[i]? =aa x/\d[i]? =aa y,
   λi H v g=>∃p,H p=ab/\v=.ref p/\∀c d,xK K e H a c->xK K f H b d->∃x y,c[i]? =aa x/\d[i]? =aa y/\g=zp H p (.tup [x,y]),
   λi H=>∃c d,xK K e H a c/\xK K f H b d/\(c.length<=i\/d.length<=i)⟩
theorem L8{P:aN}{w:aR}{K:ae}{es:List Expr}{n:Nat}{S:Pos}(k1 k2:Bool)(z TI TO p r a b:ah)(N:ZNe z TI TO p r) :
  Turn P w K (.Tuple es n S) (km K k1 k2 a b) [z,TI,TO,p,r] z (λi h=>ZSt k1 k2 z TI TO p r a b i .none h) where
 mem:=by simp
 obj:=λi h d c f=>by
  obtain⟨U,j,⟨Y,Z,l⟩,t,u⟩:=d;obtain⟨o1,B,_,d1⟩:=t.out;obtain⟨o2,C,_,d2⟩:=u.out;simp only[aC,eO,or_false]at f;rcases f with rfl|rfl|rfl|rfl|rfl
  ·exact⟨_,U,λv q=>by cases (show CG _=BM v from q)⟩
  ·exact⟨_,j,λv q=>by cases (show DM _ _=BM v from q)⟩
  ·exact⟨_,l,λv q=>by cases (show DM _ _=BM v from q)⟩
  ·exact⟨o1,B,λv q=>by rw[d1]at q;cases q⟩
  ·exact⟨o2,C,λv q=>by rw[d2]at q;cases q⟩
 keep:=λi h h' d k=>d.keep k
 item:=by
  intro X hP hw hK f i m s σ H E I G d hg;subst hP hw hK;obtain⟨xs,ys,x,y,M,O,R,hy⟩:=hg;have J:s.TypeIs (.ref z) "zip" :=⟨_,d.hz,rfl⟩
  unfold pyNext;refine ac (wpAny_attempt (wpAny_callSpecial?_slot (name:=iC "__next__") J F.slot_zip_next (wpAny_call_entry F.slot_zip_next J F.entry_zip_next (J4 N I G d M O R hy λg S2 I2=>am ⟨_,rfl,?_⟩) (F.args_zip_next_1 _))));have hlt:∀c∈[z,TI,TO,p,r],c≠s.heap.objs.size:=λc f=>by
   obtain⟨U,j,⟨Y,Z,l⟩,t,u⟩:=d;obtain⟨o1,B,_⟩:=t.out;obtain⟨o2,C,_⟩:=u.out;simp only[aC,eO,or_false]at f;rcases f with rfl|rfl|rfl|rfl|rfl
   ·exact aP (aA U)
   ·exact aP (aA j)
   ·exact aP (aA l)
   ·exact aP (aA B)
   ·exact aP (aA C)
  have hn:∀c∈[z,TI,TO,p,r],zp H s.heap.objs.size (.tup [x,y]) c=ab:=λc f=>by rw[zX (hlt c f)];exact(G c f).1
  have fz:y4 X m (zp H s.heap.objs.size (.tup [x,y])) z:=⟨hn z (by simp),(G z (by simp)).2⟩
  refine wpAny_letOwnedTupleGo_zip S2.hz λg' z' L=>⟨.ref s.heap.objs.size,_,I2.turn1 fz L.extBut,rfl,⟨_,I.hok.fresh (aj _),rfl,λus vs u1 u2=>?_⟩,?_,hn⟩
  ·rw[I.seqQ_inj u1 M,I.seqQ_inj u2 O];exact⟨x,y,R,hy,rfl⟩
  ·obtain⟨_,j,⟨Y,Z,l⟩,t,u⟩:=S2;exact⟨z',L.extBut _ _ N.n1 j,⟨Y,Z,L.extBut _ _ N.n2 l⟩,t.at λo e=>L.extBut _ o N.n3 e,u.at λo e=>L.extBut _ o N.n4 e⟩
 done:=by
  intro X hP hw hK f i m s σ H E I G d hg;subst hP hw hK;obtain⟨xs,ys,M,O,R⟩:=hg;have J:s.TypeIs (.ref z) "zip" :=⟨_,d.hz,rfl⟩
  unfold pyNext;refine ac (wpAny_attempt (wpAny_callSpecial?_slot (name:=iC "__next__") J F.slot_zip_next (wpAny_call_entry F.slot_zip_next J F.entry_zip_next (J3 (I.ok.hd f) N I G d M O R λg e he I2=>?_) (F.args_zip_next_1 _))));obtain⟨o,B,C⟩:=he;exact ac (wpAny_isInstance (T:= "StopIteration") (b:=true) ⟨o,B,C⟩ isSubtype_stop (am ⟨rfl,I2⟩))
 self:=λA i s Q E d h=>wpAny_pyIter_zip d.hz h
abbrev zA(h:aX)(k:Bool)(a:ah):aX:=h.push { cls:=.type (mI k),data:=.fields #[.ref a,.int 0 0]}
abbrev zB(h:aX)(k1 k2:Bool)(a b:ah):aX:=zA (zA h k1 a) k2 b
abbrev zC(h:aX)(k1 k2:Bool)(a b:ah):aX:=(zB h k1 k2 a b).push { cls:=.type "tuple",data:=.seq #[.ref h.objs.size,.ref (zA h k1 a).objs.size]}
abbrev zD(h:aX)(k1 k2:Bool)(a b:ah):aX:=(zC h k1 k2 a b).push { cls:=.type "tuple",data:=.seq #[.none,.none]}
abbrev zE(h:aX)(k1 k2:Bool)(a b:ah):aX:=(zD h k1 k2 a b).push { cls:=.type "zip",data:=.fields #[.none,.bool false,.bool false,.ref (zB h k1 k2 a b).objs.size,.ref (zC h k1 k2 a b).objs.size]}
theorem QAt.push{k:Bool}{h:aX}(p:QAt k h a xs)(o:Obj):QAt k (h.push o) a xs:=by
 cases k with
 |true=>exact FC p o
 |false=>exact FL p o
theorem Rn(c e:Bool)(a b:ah)(xs ys:Array af) :
  Meets (Builtin.«zip.__new__» ⟨[.type "zip",.ref a,.ref b],[]⟩) (λ_ R s=>QAt c s.heap a xs/\QAt e s.heap b ys/\R (.ok (.ret (.ref (zD s.heap c e a b).objs.size))) { s with heap:=zE s.heap c e a b}):=
 .of_wp λf w A R s h=>by
  obtain⟨i,g,d,j,k⟩:=s;obtain⟨m,n,h⟩:=h;have l:=sub_zip;have o:QAt c (BI ⟨i,g,d,j,k⟩) a xs:=m;have p:QAt e (BI ⟨zA i c a,g,d,j,k⟩) b ys:=n.push _
  wp_walk using Z7 o,Z7 p
  exact⟨_,rfl,h⟩
theorem WP{w:aR}{E:af->ag->Prop}{s:ag}{d e:Bool}{Q:af->ag->Prop}(q:QAt d s.heap a xs)(p2:QAt e s.heap b ys)
 (h:∀f,ZSt d e (s.heap.objs.size+4) (s.heap.objs.size+2) (s.heap.objs.size+3) s.heap.objs.size (s.heap.objs.size+1) a b 0 .none f->(∀c o,s.heap.get? c=aa o->f.get? c=aa o)->Q (.ref (s.heap.objs.size+4)) { s with heap:=f}) :
 au (model prog w) A (call (.type "zip") [.ref a,.ref b]) Q E s:=by
  refine callType_new F.called_zip (by decide) (F.typeCall_zip_2 _ _) (F.newCall_zip_2 _ _) (λobj=>F.args_object_init_3 obj _ _) F.entry_zip_new (Rn d e a b xs ys) ⟨q,p2,?_⟩;have g:(zA s.heap d a).objs.size=s.heap.objs.size+1:=ii ..;have i:(zB s.heap d e a b).objs.size=s.heap.objs.size+2:=by rw[ii,g]
  have j:(zC s.heap d e a b).objs.size=s.heap.objs.size+3:=by rw[ii,i]
  have l:(zD s.heap d e a b).objs.size=s.heap.objs.size+4:=by rw[ii,j]
  have r:∀c o,s.heap.get? c=aa o->(zE s.heap d e a b).get? c=aa o:=λc o x=>ai _ (ai _ (ai _ (ai _ (ai _ x))));have k:(zE s.heap d e a b).get? (zD s.heap d e a b).objs.size=aa _:=ax _ rfl;have m:(zE s.heap d e a b).get? (zC s.heap d e a b).objs.size=aa _:=ai _ (ax _ rfl);have n:(zE s.heap d e a b).get? (zB s.heap d e a b).objs.size=aa _:=ai _ (ai _ (ax _ rfl));have p:(zE s.heap d e a b).get? (zA s.heap d a).objs.size=aa _:=ai _ (ai _ (ai _ (ax _ rfl)));have t:(zE s.heap d e a b).get? s.heap.objs.size=aa _:=ai _ (ai _ (ai _ (ai _ (ax _ rfl))));show _/\_;rw[i,j,l]at k;rw[g,i]at n;rw[j]at m;rw[g]at p;rw[l];exact⟨⟨_,k,rfl⟩,h _ ⟨k,n,⟨_,_,m⟩,.mk ⟨_,t,rfl,rfl⟩,.mk ⟨_,p,rfl,rfl⟩⟩ r⟩
theorem J6(n:Nat):ZNe (n+4) (n+2) (n+3) n (n+1):=
  ⟨by intro h;have:n+2=n+4:=h;lia,by intro h;have:n+3=n+4:=h;lia,by intro h;have:n=n+4:=h;lia,by intro h;have:n+1=n+4:=h;lia,by intro h;have:n+2=n+3:=h;lia,
   by intro h;have:n+2=n:=h;lia,by intro h;have:n+2=n+1:=h;lia,by intro h;have:n+3=n:=h;lia,by intro h;have:n+3=n+1:=h;lia,by intro h;have:n=n+1:=h;lia⟩
def UE(K:ae)(f:TA):TI:=λg H R=>f g H λh c=>∃d e a b,h=[.ref a,.ref b]/\(∃i,xK K d c a i)/\(∃j,xK K e c b j)/\R (km K d e a b) c
theorem PF{X:Cx}{es:List Expr}{n:Nat}{f p i:Pos}{a b:Expr}{o:TA}(z:Gl X "zip")(A:X.mg "zip" =ab)(B:eg "zip" =aa (.type "zip"))(C:PA X [a,b] o)(E:aZ [a,b] X.env=[(false,eval a X.env),(false,eval b X.env)]:=by rfl)(j:aZ [b] X.env=[(false,eval b X.env)]:=by rfl) :
  PI X (.Tuple es n f) (.Call (.Name "zip" p) [a,b] [] i) (UE X.K o):=by
 intro d s t H R I h;refine Call_ (vD I z A B (eK (zu (C i d s t H _ I h) ?_) (by rw[E,j]) (by rw[j];rfl)));rintro Y s1 ⟨Z,w,k,G,J⟩;obtain⟨L,M,u,v,e,⟨xs,N⟩,⟨ys,O⟩,q⟩:=J;subst e;cases G with
 |cons r m=>
  cases m with
  |cons P m=>
   cases m;cases r;cases P;obtain⟨i1,v1,Q⟩:=k.seqQ N;obtain⟨i2,v2,S⟩:=k.seqQ O;refine WP Q S λg x T=>wpAny_pyIter_zip x.hz ?_;have U:Inv X d t w { s1 with heap:=g}:=k.kept (t':=s1.toks) T;refine⟨_,_,_,_,w,rfl,U,L8 L M _ _ _ _ _ u v (J6 _),x,λc y=>?_,q⟩;have l:s1.heap.objs.size<=c:=by
    simp only[aC,eO,or_false]at y;rcases y with rfl|rfl|rfl|rfl|rfl
    ·exact iO _ _
    ·exact iO _ _
    ·exact iO _ _
    ·exact aj _
    ·exact iO _ _
   exact k.fpOk l (k.hok.fresh l)
end L2
namespace L3
open PySem PySem.Spec PyProof.Rows L2
noncomputable def m9:Ent->Option (List D)
 |.val (.lst a)=>aa a
 |.val (.tup a)=>aa a
 |.own a=>aa a
 | _=>ab
def qV(fe:FE):FI:=λa=>(fe a).bind m9
noncomputable def jm(b fb:FI):FI:=λa=>(b a).bind λc=>(fb a).bind λd=>aa ((c.zip d).map λp=>D.tup [p.1,p.2])
def Wa(K:ae)(B F:Hp)(v:V)(ds:List D):Prop:=∃k a c,v=.ref a/\(∀d b,Same F d->Same d b->Same B b->xK K k b a c)/\Reps F c ds
def X6(K:ae)(t:TE)(f:FI):Prop:=∀(B:Bd) (F H:Hp) (a:Sg) (b:En) (c:List D) (Q:VK),RS K B F H a b->f b=aa c->(∀v d e,Ex F H d e->Wa K B d v c->Q v e)->t a H Q
structure VQ(X:Cx)(e:Expr)(f:FI):Prop where
 h:∃t,WE X e t/\X6 X.K t f
theorem Tf{K:ae}{B c:Hp}{k l:Bool}{a b:ah}{vs f:List V}{ds es:List D}(h1:∀F H,Same c F->Same F H->Same B H->xK K k H a vs)(A:∀F H,Same c F->Same F H->Same B H->xK K l H b f)(m:Reps c vs ds)(n:Reps c f es) :
  v4 B c (km K k l a b) ((ds.zip es).map λp=>D.tup [p.1,p.2]):=λF H s1 g o=>by
 have h:=h1 F H s1 g o;have j:=A F H s1 g o;have P:=m.length;have Q:=n.length;refine⟨⟨vs,f,h,j,?_⟩,λi d e=>?_⟩
 ·rw[ar,Bt];lia
 ·rw[av]at e;obtain⟨p,C,E⟩:=iR.mp e;obtain⟨G,I⟩:=List.getElem?_zip_eq_some.mp C;obtain⟨v,q,J⟩:=m.get G;obtain⟨w,r,L⟩:=n.get I;refine⟨⟨vs,f,v,w,h,j,q,r⟩,λx R y=>?_⟩;obtain⟨M,s,N,y⟩:=y;obtain⟨S,T,t,u,O⟩:=y vs f h j;rw[q]at t;rw[r]at u;cases t;cases u;subst N O E;have z:Same F (zp F M (.tup [v,w])):=Same.alloc (g.free s);exact⟨_,Ex.alloc g s,.tup yz (.cons (Rep.mono (s1.trans z) J) (.cons (Rep.mono (s1.trans z) L) .nil))⟩
section
variable {X:Cx}{e e':Expr}{fe:FE}{fa fb:FI}{p pos tpos:Pos}{x:Str}{es:List Expr}{n:Nat}
theorem XS(h:VE X e fe):VQ X e (qV fe):=by
 obtain⟨t,w,m⟩:=h.h;refine⟨_,w,λB F H o u l Q s q k=>?_⟩;obtain⟨r,y,q⟩:=ze q;refine m B F H o u r _ s y λv d f g i=>?_;unfold m9 at q;split at q
 ·cases q;cases (show Rep d v (.lst l)from i)with
  |lst e c=>exact k _ d f g ⟨false,_,_,rfl,λj z a b _=>SqL.of (b _ _ (a _ _ e)),c⟩
 ·cases q;cases (show Rep d v (.tup l)from i)with
  |tup e c=>exact k _ d f g ⟨true,_,_,rfl,λj z a b _=>SqT.of (b _ _ (a _ _ e)),c⟩
 ·cases q;obtain⟨j,x2,_,A⟩:=RepR.frz g (Same.refl _) i rfl;cases A with
  |lst e c=>exact k _ j f x2 ⟨false,_,_,rfl,λC E a b _=>SqL.of (b _ _ (a _ _ e)),c⟩
 ·cases q
theorem UU(h1:VQ X e fa)(u:VQ X e' fb)(w:Gl X "zip")(y:X.mg "zip" =ab)(z:eg "zip" =aa (.type "zip"))(j:zK e=true:=by rfl)(d:zK e'=true:=by rfl):VI X (.Tuple es n tpos) (.Call (.Name "zip" p) [e,e'] [] pos) (jm fa fb):=by
 obtain⟨t1,A,C⟩:=h1.h;obtain⟨t2,E,G⟩:=u.h;refine⟨_,⟨PF w y z (vZ A (vZ E uJ d) j).h (by rw[xc j,xc d];rfl) (by rw[xc d];rfl)⟩,λB F H l m ds R s q k=>?_⟩;obtain⟨I,J,q⟩:=ze q;obtain⟨K,L,q⟩:=ze q;cases q;refine C B F H l m I _ s J ?_;rintro v M N f ⟨O,a,P,Q,o,S⟩;refine G B M N l m K _ (s.ext f) L ?_;rintro v' g i x2 ⟨T,b,U,Y,r,Z⟩;subst Q Y;have t:=s.bh.trans (f.trans x2).hh;exact⟨O,T,a,b,rfl,⟨P,o g i x2.ff x2.fh t⟩,⟨U,r g i (Same.refl _) x2.fh t⟩,k _ g i (f.trans x2) (Tf (λF H a b c=>o F H (x2.ff.trans a) b c) r (S.mono x2.ff) Z)⟩
end
end L3

namespace L3
open PySem PySem.Spec PyProof.Rows L2
def U3:D->Option Bool
 |.bl b=>aa b
 | _=>ab
noncomputable def qw:List D->Option (List Bool)
 |[]=>aa []
 |d::a=>(U3 d).bind λb=>(qw a).map λc=>b::c
theorem dE{F:Hp}:∀{vs:List V} {ds:List D} {ns:List Bool},Reps F vs ds->qw ds=aa ns->vs=ns.map V.bl
 | _,_,_,.nil,q=>by cases q;rfl
 | _,d::ds,ns,.cons r t,q=>by
  simp only[qw]at q;obtain⟨i,a,q⟩:=ze q;obtain⟨c,b,q⟩:=zJ q;cases q;cases d <;> cases a;cases r;rw[ay,dE t b]
def kY:List Ent->Option Ent
 |[x]=>(zS x).bind λa=>(qw a).map λc=>.val (.bl (c.all λb=>b))
 | _=>ab
section
variable {X:Cx}
theorem WB(c:X.calm=true:=by rfl):vK X (.builtin "all") kY:=⟨_,WQ c,λn F H o p d Q a s r q k=>by
 obtain⟨x,rfl⟩:=tL rfl (λ_ _ _=>rfl) q;obtain⟨v,rfl,e⟩:=vF r;obtain⟨t,f,q⟩:=ze q;obtain⟨g,h,i⟩:=zJ q;cases i;obtain⟨l,u,j,b,m⟩:=RepR.toL e a f;subst j;rw[dE m h]at b;exact⟨l,g,rfl,b,k _ F H (Ex.refl a) (.bl _)⟩⟩
theorem Rz:v5 X "str.find" (λx a H Q=>∃(z y:Str) (i:Int),x=.str z/\a=[.str y,.int i]/\Q (.int (Fy z y i)) H):=by
 intro b s f H x a v g Q I c r h;obtain⟨z,y,i,rfl,rfl,q⟩:=h;obtain⟨t,rfl⟩:=c;cases r with
 |cons d r=>
  cases r with
  |cons e r=>
   cases r;obtain⟨j,rfl⟩:=d;obtain⟨k,rfl⟩:=e;exact SC.find3 ⟨.int _,H,I.tok _,⟨_,rfl⟩,q⟩
def nT:Ent->List Ent->Option Ent
 |x,[y,i]=>(zP x).bind λz=>(zP y).bind λu=>(zr i).map λj=>.val (.int (Fy z u j))
 | _,_=>ab
theorem Rb:MtD X "str" "find" nT:=by
 refine⟨_,_,A4,PySem.F.slot_str_find,PySem.F.type_str_find,Rz,?_,?_⟩
 ·intro f F H x e g b d r q;unfold nT at q;split at q
  ·obtain⟨z,c,q⟩:=ze q;cases xi c;cases xw r;rfl
  ·cases q
 ·intro f F H x n e g b Q d o r a q k;unfold nT at q;split at q
  ·obtain⟨z,c,q⟩:=ze q;obtain⟨u,h,q⟩:=ze q;obtain⟨j,i,q⟩:=zJ q;cases q;cases xi c;cases xi h;cases wz i;cases xw r;cases a with
   |cons l a=>
    cases a with
    |cons m a=>
     cases a;cases xw l;cases wf m;exact⟨z,u,j,rfl,rfl,k _ F H (Ex.refl d) (.int _)⟩
  ·cases q
theorem RC:v5 X "str.strip" (λx a H Q=>∃(z y:Str),x=.str z/\a=[.str y]/\z.length<=aS/\Q (.str (BH z y)) H):=by
 intro b s e H x a v f Q I c r h;obtain⟨z,y,rfl,rfl,d,q⟩:=h;obtain⟨t,rfl⟩:=c;obtain⟨u,rfl,g,rfl⟩:=ur r;exact SC.stripChars (λi k=>⟨.str _,H,I.tok _,⟨_,rfl⟩,q⟩) d
noncomputable def qR:Ent->List Ent->Option Ent
 |x,[y]=>(zP x).bind λz=>(zP y).bind λu=>yY (sz z.length) (aa (.val (.str (BH z u))))
 | _,_=>ab
theorem Rg:MtD X "str" "strip" qR:=by
 refine⟨_,_,A4,PySem.F.slot_str_strip,PySem.F.type_str_strip,RC,?_,?_⟩
 ·intro d F H x e f a c r q;unfold qR at q;split at q
  ·obtain⟨z,b,q⟩:=ze q;cases xi b;cases xw r;rfl
  ·cases q
 ·intro d F H x m e f a Q c n r g q k;unfold qR at q;split at q
  ·obtain⟨z,b,q⟩:=ze q;obtain⟨u,h,q⟩:=ze q;obtain⟨i,j⟩:=xS q;cases j;cases xi b;cases xi h;cases xw r;obtain⟨o,rfl,l⟩:=vF g;cases xw l;exact⟨z,u,rfl,rfl,vX i,k _ F H (Ex.refl c) (.str _)⟩
  ·cases q
end
end L3

namespace L2
open PySem PySem.Spec PyProof.Rows
def f7(K:ae):Bool->ah->It
 |true=>nt K
 |false=>nr K
def UC(K:ae)(c:TE):TI:=λd H R=>c d H λx b=>∃k a,x=.ref a/\(∃e,xK K k b a e)/\R (f7 K k a) b
theorem PB{X:Cx}(i:PE X l tl):PI X tg l (UC X.K tl):=by
 intro c s j H R I h;refine zu (i c s j H _ I h) ?_;rintro v s1 ⟨x,f,d,m,n⟩;obtain⟨k,a,e,⟨w,r⟩,q⟩:=n;subst e;cases m;have g:∀b∈[s1.heap.objs.size],y4 X c f b:=λb t=>by
  cases aL.mp t;exact d.fpOk (aj _) (d.hok.fresh (aj _))
 obtain⟨u,y,p⟩:=d.seqQ r;cases k with
 |true=>exact wpAny_pyIter_tuple p ⟨s1.heap.objs.size,[s1.heap.objs.size],_,_,f,rfl,d.kept (t':=s1.toks) λb o e=>ai _ e,Xn a _,⟨_,ax _ rfl,rfl,rfl⟩,g,q⟩
 |false=>exact wpAny_pyIter_list p ⟨s1.heap.objs.size,[s1.heap.objs.size],_,_,f,rfl,d.kept (t':=s1.toks) λb o e=>ai _ e,Xl a _,⟨_,ax _ rfl,rfl,rfl⟩,g,q⟩
end L2
namespace L3
open PySem PySem.Spec PyProof.Rows L2
theorem Tc{K:ae}{B b:Hp}{k:Bool}{a:ah}{vs:List V}{ds:List D}(h:∀F H,Same b F->Same F H->Same B H->xK K k H a vs)(r:Reps b vs ds):v4 B b (f7 K k a) ds:=by
 cases k with
 |false=>exact mJ h r
 |true=>
  intro F H s1 f j;have c:SqT K H a vs:=h F H s1 f j;refine⟨⟨vs,c,by rw[r.length];exact aj _⟩,λi d e=>?_⟩;obtain⟨v,g,l⟩:=r.get e;refine⟨⟨vs,v,c,g⟩,λx n y=>?_⟩;obtain⟨m,y⟩:=y;subst m;have z:=y vs c;rw[g]at z;cases z;exact⟨F,Ex.refl f,Rep.mono s1 l⟩
theorem UP(h:VE X e fe):VI X tg e (qV fe):=by
 obtain⟨t,w,m⟩:=(XS h).h;exact⟨_,⟨PB w.h⟩,λB F H f g i R s q k=>m B F H f g i _ s q λv c d b ⟨j,a,l,e,p,r⟩=>⟨j,a,e,⟨l,p c d (Same.refl _) b.fh (s.bh.trans b.hh)⟩,k _ c d b (Tc p r)⟩⟩
end L3
namespace L2
open PySem PySem.Spec PyProof.Rows
section
variable {X:Cx}
def f5(vs:List V)(y:V)(j:Nat):Prop:=(∃v,vs[j]? =aa v/\vS v y=true)/\∀m v,m<j->vs[m]? =aa v->vS v y=false
end
end L2
namespace L3
open PySem PySem.Spec PyProof.Rows L2
def tG(ds:List D)(d:D):Option Ent:=if (wo d&&ds.all wo)=true then (ds.findIdx? λe=>vi e d).map λ(j:Nat)=>Ent.val (.int (j:Int))else ab
def gu:Ent->Option D
 |.val d=>aa d
 | _=>ab
def qP:Ent->List Ent->Option Ent
 |x,[y]=>(yc x).bind λa=>(gu y).bind λd=>tG a d
 | _,_=>ab
end L3
namespace L2
open PySem PySem.Spec PyProof.Rows
open PySem.AutoSeq1 (wpAny_loadPart')
open PySem.MeetsSeq PySem.MeetsSeq2 PySem.MeetsSeq3
theorem JJ{E:af->ag->Prop}{s:ag}{a:Type}(f:Nat->a->Sem (ForInStep a))(I:List Nat->a->ag->Prop)(Q:a->ag->Prop)
 (turn:∀x rest b s,I (x::rest) b s->au M A (f x b) (λr c=>match r with|.yield b'=>I rest b' c|.done b'=>Q b' c) E s)
 (z9:∀b s,I [] b s->Q b s) (n:Nat) (b:a) (h:I (ic 0 n) b s):au M A (forIn [0:n] b f) Q E s:=by
  rw[Dd];exact wpAny_forIn_list f I Q turn z9 _ b (by simpa using h)
theorem LY(l:ah)(items:Array af)(n:Nat)(dd:Option ah)(sl:Array (Option af))(x:af)(e:af->Bool)(j:Nat)(hj:j<items.size)(hit:e items[j]=true)(hno:∀m (hm:m<items.size),m<j->e items[m]=false) :
  Meets (Builtin.«tuple.index» ⟨[.ref l,x],[]⟩)
   (λA R s=>s.heap.get? l=aa { cls:=.type "tuple",dict:=dd,data:=.seq items n,slots:=sl}/\(∀y,y∈items->AC A.in1 s y x (e y))/\R (.ok (.ret (.int j s.toks))) { s with toks:=s.toks+1}):=
 .of_wp λprog w A R s h=>by
  obtain⟨hp,g,d,tk,os⟩:=s;obtain⟨hl,he,h⟩:=h
  wp_walk using wpAny_loadPart' hl,JJ _ (λrest b s'=>b.1=ab/\s'=⟨hp,g,d,tk,os⟩/\∃k,k<=j/\rest=ic k (items.size-k)) _
  case turn=>
   rintro y rest b s' ⟨hb,rfl,k,hk,hr⟩;rw[show items.size-k=items.size-(k+1)+1 by lia,Cj]at hr;injection hr with e1 e2;subst e1 e2;have hi:items[y]? =aa (items[y]'(by lia)):=AI (by lia);rw[hi];refine ac (he _ (eh _) prog w _ _ ?_);by_cases hyj:y=j
   ·subst hyj;rw[hit]
    wp_walk
    exact⟨_,rfl,h⟩
   ·rw[hno y (by lia) (by lia)]
    wp_walk
    exact⟨rfl,rfl,y+1,by lia,rfl⟩
  case z9=>
   rintro b s' ⟨hb,rfl,k,hk,hr⟩;have:=congrArg oV hr;simp at this;lia
  all_goals exact⟨rfl,rfl,0,aM _,by simp⟩
section
variable {X:Cx}
theorem RA:v5 X "tuple.index" (λx k H Q=>∃(p:ah) (vs:List V) (y:V) (j:Nat),x=.ref p/\k=[y]/\SqT X.K H p vs/\vx y=true/\vs.all vx=true/\f5 vs y j/\Q (.int j) H):=by
 intro l s σ H x k v us Q I G r h;obtain⟨p,vs,y,j,rfl,rfl,J,L,o,⟨⟨M,t,N⟩,d⟩,q⟩:=h;cases G;obtain⟨u,rfl,O⟩:=ur r;obtain⟨a,f,pl,hz⟩:=I.tuple J;obtain⟨⟨P,R,z,S⟩,A,B,n,C⟩:=pl;simp only at B C;subst B C;have E:=f.length;have b:∀m v,vs[m]? =aa v->vx v=true:=λm v e=>eM.mp o v (iy e);have hj:j<vs.length:=(aQ.mp t).1;have c:∀m (g:m<a.toArray.size) v,vs[m]? =aa v->nM y a.toArray[m]=vS v y:=λm g v e=>by
  obtain⟨u',T,U⟩:=f.get e;have Y:a.toArray[m]=u':=by
   have:=aQ.mp T;simpa using this.2
  rw[Y];exact cp U (b m v e)
 refine call_meets Cn ⟨_,A,rfl⟩ PySem.F.entry_tuple_index (PySem.F.args_tuple_index_2 _ _)
  (LY p a.toArray n R S u (nM y) j (by simp;lia) ?_ ?_) ⟨A,λw Z=>Zv O L f o w (by simpa using Z),⟨.int j,H,I.tok _,⟨_,rfl⟩,q⟩⟩
 ·rw[c j _ M t];exact N
 ·intro m g i;have e:=aD (show m<vs.length by lia);rw[c m g _ e];exact d m _ i e
def Lw(r:V->List V->Hp->VK->Prop)(d:TE)(t:TA):TE:=λb H Q=>d b H λx c=>(∃p a,x=.ref p/\c p=aa (.tup a))/\t b c λa e=>r x a e Q
theorem QX{id:String}{d b:Pos}{e:Expr}{es:List Expr}{t:TA}{r:V->List V->Hp->VK->Prop}(i:Slot "tuple" name id)(j:typeOf (.builtin id)=pure (.type "method_descriptor"))(w:v5 X id r)(y:PE X o to)(z:PA X (e::es) t)
 (f:eZ o name X.env (eval o X.env)=eval o X.env) (A:decide ((e::es).length+0+0<30)=true) (g:(d.endLine==b.line)=true)
 (h1:zK e=true) (m:es.all zK=true):PE X (.Call (.Attribute o name d) (e::es) [] b) (Lw r to t):=by
  intro c s k H Q I h;refine wpAny_Call_method_late f (by rw[hY (es:=e::es) (by rw[Ac,h1,m];rfl)];exact A) g rfl (zu (y c s k H _ I h) ?_);rintro v s1 ⟨x,B,n,C,⟨p,Z,E,G⟩,J⟩;subst E;cases C;obtain⟨_,K,_,q⟩:=n.hok p _ G;have l:=q;obtain⟨L,M,N,_⟩:=l;refine⟨"tuple",id,PySem.F.plainAttrs_tuple,i,j,⟨L,M,N⟩,λa e=>by cases e;exact q.nod,?_⟩;have u:=z b c s1 k B _ n J;rw[xc h1]at u ⊢;refine CF (by show(false || (backTo b (aZ es X.env)).any (·.1))=false;rw[vY m];rfl) (CZ (zu u λO P ⟨R,S,T,U,Y⟩=>w c P k S (.ref p) R _ O Q T rfl U Y))
end
end L2
namespace L3
open PySem PySem.Spec PyProof.Rows L2
theorem cI(r:Rep F v d)(h:wo d=true):vx v=true:=by
 cases r <;> first|rfl|cases h
theorem cq(r:Rep F v d)(q:Rep F w e)(h:wo d=true)(k:wo e=true):vS v w=vi d e:=by
 cases r <;> first|(cases h;done)|(cases q <;> first|rfl|(cases k;done))
theorem V7{vs:List V}{ds:List D}{d:D}{j:Nat}(r:Reps F vs ds)(c:Rep F y d)(h:(wo d&&ds.all wo)=true)(e:ds.findIdx? (λe=>vi e d)=aa j):vx y=true/\vs.all vx=true/\f5 vs y j:=by
 rw[eX]at h;obtain⟨f,n⟩:=h;have g:∀(m:Nat) (e:D),ds[m]? =aa e->wo e=true:=λm e q=>eM.mp n e (iy q);refine⟨cI c f,eM.mpr λv i=>?_,?_,λm v k i=>?_⟩
 ·obtain⟨m,k⟩:=List.mem_iff_getElem?.mp i;obtain⟨e,a,b⟩:=r.getV k;exact cI b (g m e a)
 ·obtain⟨l,q,_⟩:=oU.mp e;obtain⟨v,a,b⟩:=r.get (aD l);refine⟨v,a,?_⟩;rw[cq b c (g j _ (aD l)) f];exact q
 ·obtain⟨l,_,q⟩:=oU.mp e;obtain⟨s,a,b⟩:=r.getV i;rw[cq b c (g m _ a) f];obtain⟨o,p⟩:=aQ.mp a;have:=q m k;rw[p]at this;simpa using this
theorem Kr(h:gu e=aa d):e=.val d:=by
 cases e with
 |val a=>cases h;rfl
 | _=>cases h
section
variable {X:Cx}
end
structure MtT(X:Cx)(name:Str)(g:Ent->List Ent->Option Ent):Prop where
 h:∃id r,Slot "tuple" name id/\typeOf (.builtin id)=pure (.type "method_descriptor")/\v5 X id r /\
  (∀(F:Hp) (v:V) (e:Ent) (es:List Ent) (res:Ent),g e es=aa res->∃ds,e=.val (.tup ds)) /\
  ∀(H0 F H:Hp) (x:V) (vs:List V) (e:Ent) (es:List Ent) (res:Ent) (Q:VK),Same F H->Same H0 H->RepR X.K H0 F H x e->RepRs X.K H0 F H vs es->g e es=aa res->(∀v F' H',Ex F H F' H'->RepR X.K H0 F' H' v res->Q v H')->r x vs H Q
section
variable {X:Cx}{name:Str}{g:Ent->List Ent->Option Ent}{o e:Expr}{es:List Expr}{fo:FE}{fs:FA}{apos cpos:Pos}
theorem Kz(M:MtT X name g)(u:VE X o fo)(w:VA X (e::es) fs)(a:eZ o name X.env (eval o X.env)=eval o X.env:=by rfl)(y:decide ((e::es).length+0+0<30)=true:=by rfl)(b:(apos.endLine==cpos.line)=true:=by rfl)
  (h1:zK e=true:=by rfl) (z:es.all zK=true:=by rfl):VE X (.Call (.Attribute o name apos) (e::es) [] cpos) (wM g fo fs):=by
 obtain⟨t,A,C⟩:=u.h;obtain⟨ta,E,G⟩:=w.h;obtain⟨id,r,I,J,K,i,c⟩:=M.h;refine⟨_,⟨QX I J K A.h E.h a y b h1 z⟩,λB F H l m d Q s q k=>?_⟩;obtain⟨x,L,q⟩:=ze q;obtain⟨j,N,q⟩:=ze q;obtain⟨O,rfl⟩:=i F .non x j d q;refine C B F H l m _ _ s L λv n P f p=>⟨?_,?_⟩
 ·cases (show Rep n v (.tup O)from p)with
  |tup e _=>exact⟨_,_,rfl,f.fh _ _ e⟩
 ·refine G B n P l m j _ (s.ext f) N λR S T x2 U=>?_;exact c H S T v R _ j d Q x2.fh (f.trans x2).hh (p.ext x2) (U.earlier f.hh) q λY Z H' x3 r3=>k Y Z H' ((f.trans x2).trans x3) r3
theorem Re:MtT X "index" qP:=by
 refine⟨_,_,Cn,PySem.F.type_tuple_index,RA,?_,?_⟩
 ·intro F v e es a q;unfold qP at q;split at q
  ·obtain⟨b,c,q⟩:=ze q;exact⟨b,vJ c⟩
  ·cases q
 ·intro w F H x z e es a Q h A r i q k;unfold qP at q;split at q
  ·obtain⟨b,c,q⟩:=ze q;obtain⟨d,l,q⟩:=ze q;unfold tG at q;obtain⟨m,q⟩:=jo q;obtain⟨j,n,q⟩:=zJ q;cases q;cases Kr l;obtain⟨y,rfl,p⟩:=vF i;cases vJ c;cases (show Rep F x (.tup b)from r)with
   |tup e f=>
    obtain⟨s,t,u⟩:=V7 f p m n;exact⟨_,_,y,j,rfl,rfl,SqT.of (h _ _ e),s,t,u,k _ F H (Ex.refl h) (.int _)⟩
  ·cases q
end
end L3

namespace L2
open PySem PySem.Spec PyProof.Rows PyProof.Rows.KTD
def uH(D:List (Str×Int)):List (Str×Dat):=D.map λp=>(p.1,Dat.flat (.int p.2))
noncomputable def uW(z:Str):List (Str×Int)->Option Int
 |[]=>ab
 |(x,i)::D=>if z=x then aa i else uW z D
theorem gj(z:Str):∀D:List (Str×Int),inKeys z (uH D)=(uW z D).isSome
 |[]=>rfl
 |(x,i)::D=>by
  show(decide (z=x) || inKeys z (uH D))=(if z=x then aa i else uW z D).isSome;by_cases h:z=x
  ·rw[if_pos h,decide_eq_true h];rfl
  ·rw[if_neg h,decide_eq_false h,gj z D];rfl
theorem Y7{P:af->Prop}{i:Int}(k:∀t,P (.int i t)):∀D:List (Str×Int),uW z D=aa i->EachL h z P (uH D)
 |[],_=>trivial
 |(x,j)::D,e=>by
  have a:(if z=x then aa j else uW z D)=aa i:=e;by_cases b:z=x
  ·rw[if_pos b]at a;cases a;exact eachL_hit b k
  ·rw[if_neg b]at a;exact eachL_miss b (Y7 k D a)
theorem LA(D:List (Str×Int)):((uH D).all λp=>plain p.2)=true:=by
 rw[eM];intro p a;obtain⟨q,_,rfl⟩:=a8.mp a;rfl
def RowsK(K:ae)(es:Array DictEntry)(D:List (Str×Int)):Prop:=rowsLook (datLooks λb=>K.lookup b) es.toList (uH D)=true
def tX(K:ae)(a:ah)(D:List (Str×Int)):Prop:=tabLook (datLooks λb=>K.lookup b) (λb=>K.lookup b) a (uH D)=true
theorem LB{K:ae}{b:Nat}(l:K.lookup a=aa ⟨.type "dict",ab,.dict es b,#[]⟩)(c:RowsK K es D)(m:(a==sysModules)=false):tX K a D:=by
 unfold tX tabLook;unfold RowsK at c;simp only[l,c,m];rfl
section
variable {X:Cx}{a:ah}{D:List (Str×Int)}
theorem Inv.tabK{s:ag}(I:Inv X pins σ H s)(T:tX X.K a D):Here s.heap s.heap a (uH D):=⟨text_of_look (λb o e=>I.kIn b o e) T,λ_ _ e=>e⟩
theorem To(T:tX X.K a D):u7 X (λx y H Q=>∃z i,x=.ref a/\y=.str z/\uW z D=aa i/\Q (.int i) H):=by
 intro b c d s k H x y v u Q I f g h j;obtain⟨z,i,rfl,rfl,e,q⟩:=h;cases f;obtain⟨t,rfl⟩:=g;exact item_textA (I.tabK T) (LA D) (by rw[gj,e];rfl) (Y7 (λt=>⟨.int i,H,I.tok _,⟨t,rfl⟩,q⟩) D e) j
theorem Qu(T:tX X.K a D):yA X (ej .In) (λx y H Q=>∃z,x=.str z/\y=.ref a/\Q (.bl (uW z D).isSome) H):=by
 intro b s e H x y v u Q I c d h;obtain⟨z,rfl,rfl,q⟩:=h;obtain⟨t,rfl⟩:=c;cases d;exact in_text (I.tabK T) ⟨.bl _,H,I.tok _,by rw[gj];rfl,q⟩
end
theorem jz(r:RelV (.str z) u):(uk P w).is (a7 z) u=true:=by
 obtain⟨t,rfl⟩:=r;show BY z (.str z t)=true;simp[BY]
noncomputable def ut(a:List (yM×V))(k:yM):Option V:=(a.find? λp=>decide (p.1=k)).map (·.2)
theorem dt(r:KV kvs vs)(k:yM):(∃v w,ut kvs k=aa v/\valueAt vs k=aa w/\RelV v w)\/(ut kvs k=ab/\valueAt vs k=ab):=by
 unfold KV at r
 induction r with
 |nil=>exact .inr ⟨rfl,rfl⟩
 |@cons p q d f h t a=>
  obtain⟨b,c⟩:=h;unfold ut valueAt at a ⊢;by_cases e:p.1=k
  ·refine .inl ⟨p.2,q.2,?_,?_,c⟩
   ·rw[A3 (by simpa using e)];rfl
   ·rw[A3 (by simpa using (b ▸ e:q.1=k))];rfl
  ·rw[AZ (by simpa using e),AZ (by simpa using (λz=>e (b.trans z):¬ q.1=k))];exact a
section
variable {X:Cx}
theorem Tj:u7 X (λx y H Q=>∃a b z v,x=.ref a/\y=.str z/\Rd H a (.dK b)/\ut b (a7 z)=aa v/\Q v H):=by
 intro d f i s t H x y v u Q I l m h n;obtain⟨a,b,z,o,rfl,rfl,e,j,q⟩:=h;cases l;obtain⟨_,A,B,g,k⟩:=e.ok I.hok;rcases dt g (a7 z)with ⟨C,w,c,p,r⟩|⟨c,_⟩
 ·rw[j]at c;cases c;exact subscriptTail_builtinR (x:=w) k.typeIs slot_dict_getitem.lookup (wpAny_getItem_of (jz m) k.mapOf p ⟨rfl,o,H,I.tok _,r,q⟩) n
 ·rw[j]at c;cases c
end
inductive PrsOf:List Str->List V->List (af×af)->Prop
 |nil:PrsOf [] [] []
 |cons {z:Str} {t:Tok} {v:V} {u:af} {ks:List Str} {vs:List V} {ws:List (af×af)}:RelV v u->PrsOf ks vs ws->PrsOf (z::ks) (v::vs) ((.str z t,u)::ws)
end L2
namespace L3
open PySem PySem.Spec PyProof.Rows L2
noncomputable def xo:List Str->List D->Str->Option D
 |k::a,d::b,z=>if k=z then aa d else xo a b z
 | _,_,_=>ab
theorem Zj(z:Str){ks:List Str}{vs:List V}(b:ks.length=vs.length)(h:Reps F vs a) :
 (∃d v,xo ks a z=aa d/\ut ((ks.map a7).zip vs) (a7 z)=aa v/\Rep F v d)\/(xo ks a z=ab/\ut ((ks.map a7).zip vs) (a7 z)=ab):=by
  refine h.ind (P:=λvs a=>∀ks:List Str,ks.length=vs.length->(∃d v,xo ks a z=aa d/\ut ((ks.map a7).zip vs) (a7 z)=aa v/\Rep F v d)\/(xo ks a z=ab/\ut ((ks.map a7).zip vs) (a7 z)=ab)) (λks b=>?_) (fun {v d vs a} r g f ks b=>?_) ks b
  · rw[oE b];exact .inr ⟨rfl,rfl⟩
  · obtain⟨k,ks,rfl,c⟩:=pq b;simp only[xo];unfold ut;rw[ay,ie];by_cases e:k=z
    · rw[if_pos e,A3 (by simpa using e)];exact .inl ⟨d,v,rfl,rfl,r⟩
    · rw[if_neg e,AZ (by simpa using e)];exact f ks c
noncomputable def t4:Ent->Option (List Str×List D)
 |.val (.dic a b)=>aa (a,b)
 | _=>ab
theorem nH{p:List Str×List D}(h:t4 e=aa p):e=.val (.dic p.1 p.2):=by
 cases e with
 |val d=>cases d <;> first|(cases h;rfl)|(cases h)
 | _=>cases h
def qO:Ent->Ent->Option Ent:=λx y=>(t4 x).bind λp=>(zP y).bind λz=>(xo p.1 p.2 z).map .val
def vj(T:List (Str×Int)):Ent->Option Ent:=λy=>(zP y).bind λz=>(uW z T).map λi=>.val (.int i)
def cS(T:List (Str×Int)):Ent->Option Ent:=λy=>(zP y).map λz=>.val (.bl (uW z T).isSome)
section
variable {X:Cx}
theorem JP:sR X qO:=⟨_,Tj,λr F H x y e s f Q b t g h q k=>by
 obtain⟨p,i,q⟩:=ze q;obtain⟨z,j,q⟩:=ze q;obtain⟨d,c,q⟩:=zJ q;cases q;cases nH i;cases xi j;cases xw h;cases (show Rep F x (.dic p.1 p.2)from g)with
 |dic e l m=>
  rcases Zj z l m with ⟨u,v,a,n,o⟩|⟨a,_⟩
  ·rw[c]at a;cases a;exact⟨_,_,z,v,rfl,rfl,.inr ⟨_,b _ _ e⟩,n,k _ F H (Ex.refl b) o⟩
  ·rw[c]at a;cases a⟩
variable {pos kp p:Pos}{z x:Str}{j:Nat}{v sl:Expr}{keys:List (Option Expr)}{values:List Expr}{ks:List Str}{fv fe:FE}{fs:FA}
def f6(X:Cx)(x:Str)(T:List (Str×Int)):Prop:=∃a,X.mg x=aa (.ref a)/\tX X.K a T
theorem KR(d:Gl X x)(f:f6 X x T)(g:VE X sl fe)(l:∀b c,subscripted sl false b c=operate [b,c] (getItem b c):=by intro _ _;rfl)(n:(x==("__debug__" : Str))=false:=by decide) :
 VE X (.Subscript (.Name x p) sl pos) (zo (vj T) fe):=by
  obtain⟨t,w,m⟩:=g.h;obtain⟨a,o,r⟩:=f;refine⟨_,XG (To r) (qb (v:=.ref a) d ⟨_,o,rfl⟩ n) w l,λB F H u y A Q s q k=>?_⟩;obtain⟨e,C,q⟩:=ze q;obtain⟨z,E,q⟩:=ze q;obtain⟨i,G,q⟩:=zJ q;subst q;cases xi E;exact m B F H u y _ _ s C λv I J K L=>⟨z,i,rfl,xw L,G,k _ I J K (.int _)⟩
theorem KM(c:Gl X x)(d:f6 X x T)(f:VE X sl fe)(g:(x==("__debug__" : Str))=false:=by decide)(b:behindInMarks .In (.Name x p)=false:=by with_unfolding_all rfl) :
 VE X (.Compare sl [.In] [.Name x p] pos) (zo (cS T) fe):=by
  obtain⟨t,w,m⟩:=f.h;obtain⟨a,i,l⟩:=d;refine⟨_,XD (Qu l) w (qb (v:=.ref a) c ⟨_,i,rfl⟩ g) b,λB F H n o r Q s q k=>?_⟩;obtain⟨e,u,q⟩:=ze q;obtain⟨z,y,q⟩:=zJ q;subst q;cases xi y;exact m B F H n o _ _ s u λv A C E G=>⟨z,xw G,rfl,k _ A C E (.bl _)⟩
end
end L3

namespace L2
open PySem PySem.Spec PyProof.Rows
theorem Xr:∀{ns:List Int} {us:List af},Vals (ns.map V.int) us->IntsAre us ns
 |[],us,r=>by rw[ij]at r;cases r;exact .nil
 |n::ns,us,r=>by
  rw[ay]at r;cases r with
  |cons h t=>
   obtain⟨a,e⟩:=h;subst e;exact .cons n a (Xr t)
theorem W4{X:Cx}(g:X.calm=true):wT X (.builtin "sum") (λb H Q=>∃(p:ah) (ns:List Int),b=[.ref p]/\SqL X.K H p (ns.map V.int)/\Q (.int ns.sum) H):=by
 intro c s v H b w Q I r h;obtain⟨p,ns,rfl,i,q⟩:=h;obtain⟨u,rfl,j⟩:=ur r;cases j;obtain⟨a,k,pl,x⟩:=I.list i;have d:=Xr k;obtain⟨l,e⟩:=d.allInts.items;have f:=d.numsOf;have m:a=(intItems l).toList:=by rw[<- e]
 rw[m,nums_intItems]at f;refine sum_intListG (I.ok.hd g) (by rw[<- e];exact pl.isList) λy n o t=>⟨.int ns.sum,H,I.kept (t':=n) t,⟨o,?_⟩,q⟩
 rw[preSum_eq,iQ (by simp),f]
end L2
namespace L3
open PySem PySem.Spec PyProof.Rows L2
def rn:List Ent->Option Ent
 |[x]=>(zS x).bind λa=>(ug a).map λb=>.val (.int b.sum)
 | _=>ab
noncomputable def qJ(i:Nat)(fe:FE):FS:=λa=>match a[i]? with
 |some (aa (.own b))=>(fe a).bind λr=>match r with
  |.own c=>yY (sz (b.length+c.length)) (aa (.nx (a.set i (aa (.own (b++c))))))
  | _=>ab
 | _=>ab
section
variable {X:Cx}{e:Expr}{fe:FE}{x:Str}{p pos:Pos}
theorem WL(c:X.calm=true:=by rfl):vK X (.builtin "sum") rn:=⟨_,W4 c,λo F H s t d Q a u r q k=>by
 obtain⟨x,rfl⟩:=tL rfl (λ_ _ _=>rfl) q;obtain⟨v,rfl,f⟩:=vF r;obtain⟨w,g,q⟩:=ze q;obtain⟨h,i,j⟩:=zJ q;cases j;obtain⟨l,y,m,b,n⟩:=RepR.toL f a g;subst m;rw[mH n i]at b;exact⟨l,h,rfl,b,k _ F H (Ex.refl a) (.int _)⟩⟩
theorem Mb(i:Nat){a b:Pos}(E:VE X e fe)(G:X.N[i]? =aa x:=by rfl)(I:wm X.env.scope x:=by first|exact eS rfl|exact ef (eS rfl)|exact ef (ef rfl))(J:(x==("__debug__" : Str))=false:=by decide)
  (g:(x==("__classdict__" : Str))=false:=by decide)
  (c:eZ (.Name x p) "extend" X.env (eval (.Name x p) X.env)=eval (.Name x p) X.env:=by rfl) (d:(a.endLine==b.line)=true:=by rfl) (h1:zK e=true:=by rfl)
  (K:swapsWith (.Call (.Attribute (.Name x p) "extend" a) [e] [] b) ab pos.line X.env=pure false:=by rfl) :
  VS X (.Expr (.Call (.Attribute (.Name x p) "extend" a) [e] [] b) pos) (qJ i fe):=by
 obtain⟨t,w,m⟩:=E.h;refine⟨_,lh (pP AV PySem.F.slot_list_extend PySem.F.type_list_extend Ry (wv i G I J g) (vZ w uJ h1) c rfl d h1 rfl) K,λB F H j L M Z s q k=>?_⟩;unfold qJ at q;split at q
 ·rename_i ds n;obtain⟨r,O,q⟩:=ze q;cases r with
  |own es=>
   obtain⟨P,Q⟩:=xS q;cases Q;obtain⟨v,h1,l,o,e,u,A,h4,h5⟩:=s.ent i _ n;subst e;refine⟨_,h1,.inl ⟨rfl,o,SqL.of u⟩,?_⟩;refine m B F H j L _ _ s O λy R H1 f z=>?_;obtain⟨S,T,U,z0,Y,C,z3⟩:=z;subst U;refine⟨l,S,o,T,rfl,rfl,f.hh _ _ u,Y,?_,?_⟩
   ·rw[A.length,C.length,ih];unfold sz at P;lia
   ·exact k j R _ ((s.ext f).mut n h1 ((A.mono f.ff).append C)) (.of f s.bh)
  | _=>cases q
 ·cases q
end
end L3

namespace L2
open PySem PySem.Spec PyProof.Rows
namespace RV
theorem lri_len:typeLookup (.type "list_reverseiterator") "__len__" =pure ab:=by rw[typeLookup_type,builtinLookup_eq_fast];kernel_rfl
theorem lri_hint:typeLookup (.type "list_reverseiterator") "__length_hint__" =pure (aa (.builtin "list_reverseiterator.__length_hint__")):=by rw[typeLookup_type,builtinLookup_eq_fast];kernel_rfl
end RV
section
variable {prog:aN}{w:aR}{A:a4}{E:af->ag->Prop}{s:ag}
theorem Uw{i:Int}{Q:Bool->ag->Prop}(a:s.heap.IsRevIter I l i)(q:Q false s):au (model prog w) A (As (.ref I)) Q E s:=by
 unfold As;refine ac (wpAny_specialOf a.typeIs RV.lri_len ?_)
 wp_delta
 refine ac (wpAny_specialOf a.typeIs RV.lri_hint ?_)
 wp_delta
 refine ac (wpAny_isInstance (T:= "list_reverseiterator") (b:=true) a.typeIs (by rw[isSubtype_type];kernel_rfl) ?_);show au _ A (pure false) Q E s;exact am q
theorem Ve{items:Array af}{Q:List af->ag->Prop}(G:A.handled=ab)(m:l≠I)(f:s.heap.IsRevIter I l ((items.size:Int)-1))(y:s.heap.IsList l items)
 (J:∀c g,(∀b o,b≠I->s.heap.get? b=aa o->c.heap.get? b=aa o)->c.gens=s.gens->c.drawn=s.drawn->c.os=s.os->ItemsOf (λi v=>items[items.size-1-i]? =aa v) g items.size->Q g.toList c) (hn:items.size<=aS) :
 au (model prog w) A (collect (.ref I)) Q E s:=by
  have z:I<s.heap.objs.size:=by obtain⟨o,e,_⟩:=f;exact aA e
  have K:l<s.heap.objs.size:=by obtain⟨o,e,_⟩:=y;exact aA e
  unfold collect;refine ac (wpAny_runValue (codeAny_builtin F.entry_proto_collect ?_));rw[eT F.plain_proto_collect _];show au _ A.in1 (newList [] >>= λx=>again (.builtin "list.__iadd__" ⟨[x,.ref I],[]⟩)) _ _ s;refine ac (wpAny_newObj_type ?_);refine am ⟨plainId_quiet F.plain_list_iadd _,codeAny_builtin F.entry_list_iadd ?_⟩;rw[eT F.plain_list_iadd _];show au _ A.in1 (oG (.ref s.heap.objs.size) (.ref I) (.ref s.heap.objs.size)) _ _ _;generalize B:s.heap.push { cls:=.type "list",data:=.seq ([]:List af).toArray}=H;have n:∀b o,s.heap.get? b=aa o->H.get? b=aa o:=λb o e=>B ▸ ai _ e;have a:H.IsRevIter I l ((items.size:Int)-1):=f.at λo e=>n _ o e;have p:H.IsList l items:=y.at λo e=>n _ o e;have L:H.get? s.heap.objs.size=aa { cls:=.type "list",data:=.seq ([]:List af).toArray}:=B ▸ ax _ rfl;unfold oG;refine ac (wpAny_typeOf (s:={ s with heap:=H}) a.typeIs ?_);have M:oZ (.ref s.heap.objs.size) (.ref I)=false:=by
    unfold oZ;simp;exact Bv z
  have N:(oy "list_reverseiterator" == oy "list")=false:=by decide
  have O:(oy "list_reverseiterator" == oy "tuple")=false:=by decide
  simp only[M,N,O,A7,ei,if_false];refine ac (wpAny_pyIter_revIter a ?_);refine ac (e6 ?_);refine Uw (s:={ s with heap:=H}) a ?_;rw[if_neg (by decide)];have q:s.heap.objs.size∉[I,l]:=λd=>by
    rcases aC.mp d with h|h
    · exact absurd z (h ▸ eQ _)
    · exact absurd K (aL.mp h ▸ eQ _)
  have r:0<=items.size/\H.IsRevIter I l ((items.size:Int)-1-((0:Nat):Int))/\H.IsList l items:=⟨aM _,by simpa using a,p⟩
  refine am ⟨plainId_quiet F.plain_extend_loop _,codeAny_extend_loopS (Walks.listRev (A:=A.in1) G I l m items).toS hn _ q _ items.size 0 _ _ _ rfl (aM _) r L (E4 _) λc j S d t k=>?_⟩;show au _ A (load s.heap.objs.size >>= _) _ _ c;refine ac (wpAny_load t ?_);refine am (J c j (λb C P e=>d.heap b C (λR=>?_) (n b C e)) d.gens d.drawn d.os k);have u:=aA e;rcases aC.mp R with h|h
  · exact absurd u (h ▸ eQ _)
  · exact P (aL.mp h)
theorem Ro(I l:ah)(items:Array af)(d:l≠I)(hsz:items.size<=aS) :
  Meets (Builtin.«tuple.__new__» ⟨[.type "tuple",.ref I],[]⟩)
   (fun A R s=>A.handled=ab/\s.heap.IsRevIter I l ((items.size:Int) - 1)/\s.heap.IsList l items/\∀ (s':ag) (acc:Array af),(∀ b o,b ≠ I->s.heap.get? b=aa o->s'.heap.get? b=aa o)->s'.gens=s.gens->s'.drawn=s.drawn->s'.os=s.os->ItemsOf (fun i v=>items[items.size - 1 - i]? = aa v) acc items.size ->
    R (.ok (.ret (.ref s'.heap.objs.size))) { s' with heap:=s'.heap.push { cls:=.type "tuple",data:=.seq acc}}):=
 .of_wp λprog w A R s h=>by
  obtain⟨m,c,n,h⟩:=h;have k:=sub_tuple_self;have f:=init_tuple_lookup;have p:=madeHere_tuple;have q:s.TypeIs (.ref I) "list_reverseiterator" :=c.typeIs;have g:A.in1.handled=ab:=m
  wp_walk using wpAny_typeOf q,Ve (hn:=hsz) g d c n
  intro s' acc r t u j a;show au _ _ (eL acc.toList.toArray >>= λv=>ret v) _ _ _;unfold eL;refine ac (wpAny_newObj_type (am ⟨_,rfl,?_⟩) (show acc.toList.toArray.size<=aS by simp only[Array.toArray_toList];rw[a.1];exact hsz));have e:acc.toList.toArray=acc:=by simp
  rw[e];exact h s' acc r t u j a
theorem W7{Q:af->ag->Prop}{items:Array af}(j:A.handled=ab)(c:l≠I)(d:s.heap.IsRevIter I l ((items.size:Int)-1))(k:s.heap.IsList l items)(hsz:items.size<=aS)
 (h:∀(h':aX) (tk:Nat) (acc:Array af),(∀b o,b≠I->s.heap.get? b=aa o->h'.get? b=aa o)->ItemsOf (λi v=>items[items.size-1-i]? =aa v) acc items.size->Q (.ref h'.objs.size) { s with heap:=h'.push { cls:=.type "tuple",data:=.seq acc},toks:=tk}) :
 au (model prog w) A (call (.type "tuple") [.ref I]) Q E s:=by
  refine callType_new F.called_tuple (by decide) (F.typeCall_tuple_1 _) (F.newCall_tuple_1 _) (λobj=>F.args_object_init_2 obj _) F.entry_tuple_new
    (Ro I l items c hsz) ⟨j,d,k,λm acc n p q e a=>⟨⟨_,ax _ rfl,rfl⟩,?_⟩⟩
  obtain⟨h',r,t,f,g⟩:=m;cases (show r=s.gens from p);cases (show t=s.drawn from q);cases (show g=s.os from e);exact h h' f acc n a
end
section
variable {X:Cx}{e:Expr}{t:TE}{p p1 pos pos1:Pos}
theorem NM{xs:List V}{a:List af}(r:Vals xs a){acc:Array af}(h:ItemsOf (λi v=>a.toArray[a.toArray.size-1-i]? =aa v) acc a.toArray.size):Vals xs.reverse acc.toList:=by
 obtain⟨c,f⟩:=h;have e:acc.toList=a.reverse:=by
  apply B2;intro j;by_cases d:j<a.length
  ·have b:acc.size=a.length:=by simpa using c
   have:=f j acc[j] (by simp[b,d]);rw[CO d];simp only[aU,CP]at this;rw[this];simp[b,d]
  ·have b:acc.size=a.length:=by simpa using c
   rw[iq (by simp[b];lia),iq (by simp;lia)]
 rw[e];clear c f e
 induction r with
 |nil=>exact .nil
 |cons h t g=>
  rw[oO,oO];exact g.append (.cons h .nil)
def Lz(K:ae)(t:TE):TE:=λd H Q=>t d H λx b=>∃a c,x=.ref a/\SqL K b a c/\∀q,b q=ab->Q (.ref q) (zp b q (.tup c.reverse))
theorem Pn(J:X.calm=true)(L:PE X e t)(M:Gl X "tuple")(N:X.mg "tuple" =ab)(O:eg "tuple" =aa (.type "tuple"))(i:Gl X "reversed")(j:X.mg "reversed" =ab)(k:eg "reversed" =aa (.type "reversed"))
  (h1:aZ [e] X.env=(false,eval e X.env)::aZ [] X.env) (y:aZ [Fq (.Name "reversed" p1) [e] [] pos1] X.env=(false,eval (.Call (.Name "reversed" p1) [e] [] pos1) X.env)::aZ [] X.env) :
  PE X (.Call (.Name "tuple" p) [.Call (.Name "reversed" p1) [e] [] pos1] [] pos) (Lz X.K t):=by
 intro c s z H Q I h;refine iJ (vD I M N O ?_ (by decide) (by decide));refine eK ?_ y rfl;rw[y];refine BL (rest:=backTo pos (aZ [] X.env)) ?_;refine iJ (vD I i j k ?_ (by decide) (by decide));refine eK ?_ h1 rfl;refine zu (jO L jP h1 pos1 c s z H (one λx g=>∃a m,x=.ref a/\SqL X.K g a m/\∀q,g q=ab->Q (.ref q) (zp g q (.tup m.reverse))) I ?_) ?_
 ·exact(show t z H _ from h)
 ·rintro us s1 ⟨m,g,A,n,P⟩;obtain⟨x,rfl,a,R,rfl,S,T⟩:=ZN P;cases n with
  |cons n U=>
   cases U;cases n;obtain⟨d,B,pl,Y⟩:=A.list S;have Z:d.toArray.size<=aS:=by have:=B.length;simp;lia
   have r:=pl.isList;have u:a<s1.heap.objs.size:=by obtain⟨o,e,_⟩:=r;exact aA e
   refine call_reversed_list r ?_;refine B0 ?_;refine W7 (I:=s1.heap.objs.size) (l:=a) (items:=d.toArray) (I.ok.hd J) (aP u) ⟨_,ax _ rfl,rfl,rfl⟩ (r.at λo e=>ai _ e) Z λC E v w ha=>?_;have f:∀b o,s1.heap.get? b=aa o->C.get? b=aa o:=λb o e=>w b o (aP (aA e)) (ai _ e);have G:=A.kept (t':=E) f;refine⟨.ref C.objs.size,_,G.laid (t':=E) (o:=.tup R.reverse) (λb o e=>ai _ e) (aj _) ⟨?_,v.toList,NM B ha,⟨_,ax _ rfl,rfl,0,by simp⟩⟩,rfl,T _ (G.hok.fresh (aj _))⟩;rw[AH];exact Y
end
end L2
namespace L3
open PySem PySem.Spec PyProof.Rows L2
def jd:Ent->Option Ent:=λx=>(zS x).bind λa=>aa (.val (.tup a.reverse))
section
variable {X:Cx}{e:Expr}{fe:FE}{p p1 pos pos1:Pos}
theorem Kv(g:VE X e fe)(i:Gl X "tuple")(j:X.mg "tuple" =ab)(n:eg "tuple" =aa (.type "tuple"))(b:Gl X "reversed")(c:X.mg "reversed" =ab)(d:eg "reversed" =aa (.type "reversed"))(o:X.calm=true:=by rfl)(h1:zK e=true:=by rfl) :
  VE X (.Call (.Name "tuple" p) [.Call (.Name "reversed" p1) [e] [] pos1] [] pos) (zo jd fe):=by
 obtain⟨t,w,m⟩:=g.h;refine⟨_,⟨Pn o w.h i j n b c d (xc h1) (xc rfl)⟩,λB F H u x y Q s q k=>?_⟩;obtain⟨z,A,q⟩:=ze q;refine m B F H u x z _ s A λv L M a C=>?_;obtain⟨N,E,G⟩:=ze q;cases G;obtain⟨l,I,rfl,J,K⟩:=C.toL a.fh E;refine⟨l,I,rfl,J,λr f=>?_⟩;exact k _ _ _ (a.trans (Ex.alloc a.fh f)) (.tup yz (K.rev.mono (Same.alloc (a.fh.free f))))
end
end L3

namespace L2
open PySem PySem.Spec PyProof.Rows PyProof.Rows.KTD
inductive EKs(w:aR):List DictEntry->List Str->Prop
 |nil:EKs w [] []
 |cons {e:DictEntry} {z:Str} {es:List DictEntry} {ks:List Str}:(∃t,e.key=.str z t/\e.hash=hashStr w z)->EKs w es ks->EKs w (e::es) (z::ks)
def KeysK(w:aR)(K:ae)(a:ah)(ks:List Str):Prop:=
 (a==sysModules)=false/\ks.Nodup/\∃(b:Array DictEntry) (c:Nat),K.lookup a=aa ⟨.type "dict",ab,.dict b c,#[]⟩/\EKs w b.toList ks
theorem Yk{L:Dat->af->Bool}:∀{es:List DictEntry} {D:List (Str×Dat)},rowsLook L es D=true->es.map (·.hash)=(D.map (·.1)).map (hashStr w) ->
 EKs w es (D.map (·.1))
  |[],[],_,_=>.nil
  |e::es,(x,d)::D,h,a=>by
    simp only[rowsLook,eX]at h;obtain⟨⟨b,_⟩,c⟩:=h;simp only[ay,Bq]at a;refine .cons ?_ (Yk c a.2);split at b
    · rename_i y t f;obtain rfl:=beq_iff_eq.mp b;exact⟨t,f,a.1⟩
    · cases b
  |[],_::_,h,_=>by simp[rowsLook]at h
  | _::_,[],h,_=>by simp[rowsLook]at h
theorem SD{K:ae}{es:Array DictEntry}{b:Nat}{D:List (Str×Int)}(l:K.lookup a=aa ⟨.type "dict",ab,.dict es b,#[]⟩)(c:RowsK K es D)(m:(a==sysModules)=false)
 (d:es.toList.map (·.hash)=(D.map (·.1)).map (hashStr w)) (f:(D.map (·.1)).Nodup):KeysK w K a (D.map (·.1)):=by
  refine⟨m,f,es,b,l,?_⟩;have e:(uH D).map (·.1)=D.map (·.1):=by unfold uH;rw[e7];rfl
  have:=Yk (w:=w) (D:=uH D) c (by rw[e];exact d);rwa [e]at this
theorem bY{P:aN}{w:aR}:∀{es:List DictEntry} {ks:List Str},EKs w es ks ->
  (∀e∈es,∃k,(oC P w).is k e.key=true/\e.hash=(oC P w).hash k)/\∃a:List (Str×af),Pairs (oC P w) es a/\a.map (·.1)=ks
 | _,_,.nil=>⟨λ_ h=>(nomatch h),[],.nil,rfl⟩
 |e::_,z::_,.cons ⟨t,c,d⟩ r=>by
  obtain⟨f,a,g,i⟩:=bY (P:=P) r;have b:(oC P w).is z e.key=true:=by rw[c];exact strKind_is P w z t
  refine⟨λj l=>?_,(z,e.val)::a,.cons b rfl g,by rw[ay,i]⟩;rcases aC.mp l with q|q
  ·subst q;exact⟨z,b,d⟩
  ·exact f j q
theorem KeysK.at{K:ae}(h:KeysK w K a ks):∃(c:List (Str×af)) (ep:Nat),c.map (·.1)=ks/\∀d:aX,(∀b o,K.lookup b=aa o->d.get? b=aa o)->d.DictAt (oC P w) a c ep:=by
 obtain⟨_,i,j,ep,l,f⟩:=h;obtain⟨m,c,n,g⟩:=bY (P:=P) f;exact⟨c,ep,g,λd k=>⟨_,j,k _ _ l,⟨rfl,rfl,rfl⟩,rfl,λe p=>m e (by simpa using p),n,by rw[g];exact i⟩⟩
def nq(ks:List Str):It:=⟨λi _=>i<ks.length,λi H x a=>a=H/\∃z,ks[i]? =aa z/\x=.str z,λi _=>ks.length<=i⟩
theorem L6{P:aN}{w:aR}{K:ae}{tg:Expr}{a it:ah}{ks:List Str}{f:List (Str×af)}{M:Nat}(e:f.map (·.1)=ks)(N:∀O:aX,(∀b o,K.lookup b=aa o->O.get? b=aa o)->O.DictAt (oC P w) a f M) :
  Turn P w K tg (nq ks) [it] it (λi h=>h.IsKeyIter it a i f.length M) where
 mem:=by simp
 obj:=λi h g b l=>by
  have e:b=it:=by simpa using l
  subst e;obtain⟨o,e,c,d⟩:=g;exact⟨o,e,λv z=>by rw[d]at z;cases z⟩
 keep:=λi h p g k=>g.at λo e=>k it (by simp) o e
 item:=by
  intro X u x y Q i j s R H E I q g A;subst u x y;obtain⟨B,C,S,G,J,L⟩:=q it (by simp);have r:i<f.length:=by have m:i<ks.length:=A;rw[<- e,ar]at m;exact m
  refine wpAny_pyNext_dict_item (knd:=oC X.prog X.w) (k:=f[i].1) (v:=f[i].2) g (N s.heap λb o e=>I.kIn b o e) (by rw[aD r]) λT p U n Y=>?_;obtain⟨t,rfl⟩:=De U;have Z:Inv X j R H { s with heap:=p}:=I.turned (t':=s.toks) (λb o l e=>(Y.2 b l).trans e) B C G J L;exact⟨_,rfl,letGo_keyiter (s':={ s with heap:=p}) n ⟨.str f[i].1,H,Z,⟨t,rfl⟩,⟨rfl,_,by rw[<- e,av,aD r];rfl,rfl⟩,n,λb l=>(q b l).1⟩⟩
 done:=by
  intro X u x y Q i j s R H E I q g A;subst u x y;obtain⟨B,C,S,G,J,L⟩:=q it (by simp);have r:f.length<=i:=by have m:ks.length<=i:=A;rw[<- e,ar]at m;exact m
  exact wpAny_pyNext_dict_end (knd:=oC X.prog X.w) (I.ok.hd Q) g (N s.heap λb o e=>I.kIn b o e) (iq r) λp eb=>⟨rfl,I.turned (t':=s.toks) (λb o l e=>eb b o l e) B C G J L⟩
 self:=λ_ _ _ _ _ g h=>wpAny_pyIter_keyiter g h
section
variable {X:Cx}{tg:Expr}
def UB(a:ah)(ks:List Str)(b:TE):TI:=λc H R=>b c H λx d=>x=.ref a/\R (nq ks) d
theorem Pw{l:Expr}{f:TE}{a:ah}{ks:List Str}(g:KeysK X.w X.K a ks)(j:PE X l f):PI X tg l (UB a ks f):=by
 intro c s k H R I h;refine zu (j c s k H _ I h) ?_;rintro v s1 ⟨x,m,d,n,p⟩;obtain⟨e,q⟩:=p;subst e;cases n;obtain⟨r,u,e,i⟩:=g.at (P:=X.prog);refine wpAny_pyIter_dict (knd:=oC X.prog X.w) g.1 (i s1.heap λb o e=>d.kIn b o e) ?_;refine⟨s1.heap.objs.size,[s1.heap.objs.size],_,_,m,rfl,d.kept (t':=s1.toks) λb o e=>ai _ e,L6 e i,⟨_,ax _ rfl,rfl,rfl⟩,λb t=>?_,q⟩;have e:b=s1.heap.objs.size:=by simpa using t
 subst e;exact d.fpOk (aj _) (d.hok.fresh (aj _))
end
end L2
namespace L3
open PySem PySem.Spec PyProof.Rows L2
noncomputable def iK(ks:List Str):FI:=λ_=>aa (ks.map D.str)
theorem Tb{ks:List Str}:v4 B F0 (nq ks) (ks.map D.str):=λF H s1 c g=>by
 refine⟨by simp[nq],λi d e=>?_⟩;rw[av]at e;by_cases a:i<ks.length
 ·rw[aD a]at e;cases e;refine⟨a,λx h y=>?_⟩;obtain⟨f,z,b,y⟩:=y;rw[aD a]at b;cases b;subst f y;exact⟨F,Ex.refl c,.str _⟩
 ·rw[iq (by lia)]at e;cases e
def X1(X:Cx)(x:Str)(ks:List Str):Prop:=∃a,X.mg x=aa (.ref a)/\KeysK X.w X.K a ks
theorem UN(b:Gl X x)(c:X1 X x ks)(d:(x==("__debug__" : Str))=false:=by decide):VI X tg (.Name x p) (iK ks):=by
 obtain⟨a,e,f⟩:=c;refine⟨_,⟨Pw f (qb (v:=.ref a) b ⟨_,e,rfl⟩ d).h⟩,λB F H g i j R s q k=>?_⟩;cases q;exact⟨rfl,k _ F H (Ex.refl s.fh) Tb⟩
end L3

namespace L2
open PySem PySem.Spec PyProof.Rows
section
variable {X:Cx}
theorem Qw:yA X (ej .Is) (λx y H Q=>∃a b,x=.bl a/\y=.bl b/\Q (.bl (a==b)) H):=by
 intro c s f H x y v u Q I d e h;obtain⟨a,b,rfl,rfl,q⟩:=h;cases d;cases e;exact wpAny_is_plain (by cases a <;> cases b <;> rfl) (yE I q (by cases a <;> cases b <;> rfl))
end
end L2
namespace L3
open PySem PySem.Spec PyProof.Rows L2
def cU:Ent->Ent->Option Ent:=λx y=>(zR x).bind λa=>(zR y).map λb=>.val (.bl (a==b))
section
variable {X:Cx}
theorem R3:y6 X (ej .Is) cU:=⟨_,Qw,λj F H x y e l c Q d m f g q k=>by
 obtain⟨a,h,q⟩:=ze q;obtain⟨b,i,q⟩:=zJ q;cases q;cases sU h;cases sU i;exact⟨a,b,tM f,tM g,k _ F H (Ex.refl d) (.bl _)⟩⟩
end
end L3

namespace HT
open PySem PySem.Spec PyProof.Rows L2
section
variable {prog:aN}{w:aR}{A:a4}{E:af->ag->Prop}{s:ag}
theorem Wf(n:Nat):oi ab ab (-1) (n:Int)=((n:Int)-1,-1):=rfl
theorem PU(n:Nat):e9 ((n:Int)-1) (-1) (-1)=n:=by
 unfold e9;have a:¬ ((-1:Int) > 0):=by lia
 simp only[a,if_false];rw[show(- -1:Int)=1 by decide,EA];split <;> lia
theorem Wk{n:Nat}{Q:Int×Int×Nat->ag->Prop}(c:s.heap.IsSliceOf sl .none .none vk)(d:IsPart vk (aa (-1)))
 (h:Q ((n:Int)-1,-1,n) s):au (model prog w) A (oM (.ref sl) (pure (n:Int))) Q E s:=by
  obtain⟨f,a,e,b⟩:=id c;unfold oM B8;refine ac (ac (wpAny_field a b (x:=.none) rfl (ac (wpAny_field a b (x:=.none) rfl (ac (wpAny_field a b (x:=vk) rfl (am ?_)))))));refine ac (hU d ?_);show au _ _ (if ((-1:Int)==0)=true then _ else _) _ _ s;rw[if_neg (by decide)];refine ac (slicePart_none (ac (slicePart_none (ac (am ?_)))));show au _ _ (match oi ab ab (-1) (n:Int)with|(lo,hi)=>pure (lo,(-1:Int),e9 lo hi (-1))) _ _ s;rw[Wf];show au _ _ (pure ((n:Int)-1,(-1:Int),e9 ((n:Int)-1) (-1) (-1))) _ _ s;rw[PU];exact am h
theorem NE(n:Nat):(ak n).map (λm=>n-1-m)=(ak n).reverse:=by
 apply Bb
 ·simp
 ·intro i a b;simp
theorem PH(xs:Array af):((ak xs.size).filterMap λ(m:Nat)=>xs[((xs.size:Int)-1+(m:Int)*(-1)).toNat]?).toArray=xs.toList.reverse.toArray:=by
 have e:(λ(m:Nat)=>xs[((xs.size:Int)-1+(m:Int)*(-1)).toNat]?)=(λi=>xs[i]?) ∘ λm=>xs.size-1-m:=by
  funext m;show _=xs[xs.size-1-m]?;rw[show((xs.size:Int)-1+(m:Int)*(-1)).toNat=xs.size-1-m by lia]
 have g:=Z1 xs 0 xs.size;have a:(λ(m:Nat)=>xs[(((0:Nat):Int)+(m:Int)*1).toNat]?)=λi=>xs[i]?:=by
  funext m;rw[show(((0:Nat):Int)+(m:Int)*1).toNat=m by lia]
 rw[a,BE,iQ (by simp)]at g;have b:(ak xs.size).filterMap (λi=>xs[i]?)=xs.toList:=by have:=congrArg Dg g;simpa using this
 rw[e,<- Dk,NE,List.filterMap_reverse,b]
theorem getItem_tuple_rev{items:Array af}{Q:af->ag->Prop}(b:IsTup s.heap t items)(f:s.heap.IsSliceOf sl .none .none vk)(g:IsPart vk (aa (-1)))
 (h:Q (.ref s.heap.objs.size) { s with heap:=s.heap.push { cls:=.type "tuple",data:=.seq items.toList.reverse.toArray}})
 (hsz:items.size<=aS):au (model prog w) A (getItem (.ref t) (.ref sl)) Q E s:=by
  have a:sizeOk (.seq items.toList.reverse.toArray):=by
    show items.toList.reverse.toArray.size<=aS;simpa using hsz
  obtain⟨i,c,d,j⟩:=id f;have e:s.TypeIs (.ref sl) "slice" :=⟨i,c,d⟩
  unfold getItem
  try with_reducible refine e6 ?_
  first|refine ac (am ?_)|skip
  refine ac (wpAny_sequenceKey b.typeIs (by decide) ?_);refine ac (wpAny_callSpecial?_slot (name:=iC "__getitem__") b.typeIs er
    (wpAny_call_entry er b.typeIs entry_tuple_getitem ?_ (args_tuple_getitem _ _)))
  show au _ _ (AE (.ref t) >>= _) _ _ s;refine ac (tupleItemsOf_ b ?_);refine ac (wpAny_typeOf e ?_);rw[if_pos (by decide)];refine ac (Wk f g ?_);show au _ _ (if (((items.size:Int)-1)==0&&(-1:Int)==1&&items.size==items.size)=true then _ else _) _ _ s;rw[if_neg (by rw[show((-1:Int)==1)=false from rfl,oF,An];decide),PH]
  first
    |exact ac (m:=eL _) (wpAny_newObj_type (am ⟨_,rfl,am h⟩) a)
    |exact ac (m:=eL _) (wpAny_newObj_type (ac (am (am ⟨_,rfl,am h⟩))) a)
    |exact ac (ac (m:=eL _) (wpAny_newObj_type (am (am ⟨_,rfl,am h⟩)) a))
    |exact ac (ac (m:=eL _) (wpAny_newObj_type (am ⟨_,rfl,am h⟩) a))
end
end HT
namespace L2
open PySem PySem.Spec PyProof.Rows
theorem NL(z:Str)(u:Tok):DK z ab ab (-1,u)=L3.mkS z.cps.toList.reverse:=by
 have h:=step_rev_list z u;have e:(ak z.length).map (λk=>z.cps.getD (z.length-1-k) 0)=z.cps.toList.reverse:=by
  apply Bb
  ·simp[Bx]
  ·intro i c a;have d:i<z.cps.size:=by simpa using a
   have b:z.cps.size-1-i<z.cps.size:=by lia
   simp[Bx,Array.getD,b]
 rw[e]at h;generalize DK z ab ab (-1,u)=y at h;obtain⟨⟨l⟩⟩:=y;cases h;rfl
def kt(X:Cx)(r:V->Hp->VK->Prop):Prop:=
 ∀(a:List (ah×Obj)) (s:ag) (b:St) (H:Hp) (x:V) (v:af) (t:Tok) (c:ah) (Q:VK),Inv X a b H s->RelV x v->s.heap.IsSliceOf c .none .none (.int (-1) t)->r x H Q ->
  ∃T id,typeLookup (.type T) "__getitem__" =pure (aa (.builtin id))/\s.TypeIs v T/\au (model X.prog X.w) X.A (getItem v (.ref c)) (EP X a b Q) X.xe s
section
variable {X:Cx}{e m:Expr}{te tm:TE}{pos p2:Pos}
def Ly(r:V->Hp->VK->Prop)(te tm:TE):TE:=λa H Q=>te a H λx b=>tm a b λk c=>k=.int (-1)/\r x c Q
theorem ZW{r:V->Hp->VK->Prop}(g:kt X r)(i:PE X e te)(j:PE X m tm):PE X (.Subscript e (.Slice ab ab (aa m) p2) pos) (Ly r te tm):=by
 intro a s d H Q I h;refine Subscript_ (zu (i a s d H _ I h) ?_);rintro v s1 ⟨x,l,n,o,p⟩;refine wpAny_Slice ?_;rw[evalPart_none];refine am (am ?_);rw[evalPart_some];refine zu (j a s1 d l _ n p) ?_;rintro u c ⟨k,f,y,z,B,C⟩;subst B;obtain⟨t,rfl⟩:=z;have E:Inv X a d f { c with heap:=c.heap.push { cls:=.type "slice",data:=.fields #[.none,.none,.int (-1) t]}}:=y.kept (t':=c.toks) λb L q=>ai _ q;obtain⟨T,id,G,J,K⟩:=g a { c with heap:=c.heap.push { cls:=.type "slice",data:=.fields #[.none,.none,.int (-1) t]}} d f x v t c.heap.objs.size Q E o (Dj ..) C;show au (model X.prog X.w) X.A (subscriptTail e (.Slice ab ab (aa m) p2) v (.ref c.heap.objs.size)) (EP X a d Q) X.xe { c with heap:=c.heap.push { cls:=.type "slice",data:=.fields #[.none,.none,.int (-1) t]}};exact tail_any (ops:=[v,.ref c.heap.objs.size]) J G K rfl
theorem Lu:kt X (λx H Q=>∃a d,x=.ref a/\SqT X.K H a d/\∀p,H p=ab->Q (.ref p) (zp H p (.tup d.reverse))):=by
 intro j s y H x v t z Q I l n h;obtain⟨a,d,rfl,k,q⟩:=h;cases l;obtain⟨f,r,g,i⟩:=I.tuple k;have c:f.toArray.size=d.length:=by rw[aU];exact r.length.symm
 refine⟨"tuple",_,er.lookup,g.typeIs,?_⟩;refine HT.getItem_tuple_rev g n (.int (-1) t) ?_ (by rw[c];exact i);refine⟨.ref s.heap.objs.size,_,I.laid (t':=s.toks) (o:=.tup d.reverse) (λb A q=>ai _ q) (aj _) ?_,rfl,q _ (I.hok.fresh (aj _))⟩;have u:Vals d.reverse f.reverse:=by
  clear k q c g i
  induction r with
  |nil=>exact .nil
  |cons h t w=>
   rw[oO,oO];exact w.append (.cons h .nil)
 exact⟨by rw[AH];exact i,_,u,TupN.new _ _⟩
theorem Ls:kt X (λx H Q=>∃z,x=.str z/\z.length<=aS/\Q (.str (L3.mkS z.cps.toList.reverse)) H):=by
 intro a s c H x v t p Q I d f h;obtain⟨z,rfl,g,q⟩:=h;obtain⟨r,rfl⟩:=d;obtain⟨o,i,j,n⟩:=f;refine⟨"str",_,Cm.lookup,typeIs_str _ _ _,?_⟩;have z9:∀b k,EP X a c Q (.str (DK z ab ab (-1,t)) b) { s with toks:=k}:=λb k=>⟨.str _,H,I.tok k,⟨b,rfl⟩,by rw[NL];exact q⟩
 exact wpAny_getItem_str_slice (l:=ab) (u:=ab) (st:=aa (-1,t)) ⟨o,i,j,n⟩ rfl (post_val_or_str ⟨aH (Txt.sliceBy_le z _ _ (-1,t) (show(-1:Int)≠0 by decide)) g,z9⟩)
end
end L2
namespace L3
open PySem PySem.Spec PyProof.Rows L2
def k8:Ent->Option Ent:=λx=>(yc x).map λa=>.val (.tup a.reverse)
noncomputable def k7:Ent->Option Ent:=λx=>(zP x).bind λz=>yY (sz z.length) (aa (.val (.str (mkS z.cps.toList.reverse))))
section
variable {X:Cx}{e m:Expr}{fe:FE}{pos p2:Pos}
theorem Kt(i:VE X e fe)(j:VE X m (zo yp (eC (.int 1)))):VE X (.Subscript e (.Slice ab ab (aa m) p2) pos) (zo k8 fe):=by
 obtain⟨t,w,l⟩:=i.h;obtain⟨I,n,o⟩:=j.h;refine⟨_,⟨ZW Lu w.h n.h⟩,λB F H c d p Q s q k=>?_⟩;obtain⟨J,x,q⟩:=ze q;obtain⟨y,z,q⟩:=zJ q;cases q;cases vJ z;refine l B F H c d _ _ s x λv f A a C=>?_;refine o B f A c d (.val (.int (-1))) _ (s.ext a) rfl λu K L x2 E=>⟨wf E,?_⟩
 cases (show Rep f v (.tup y)from C)with
 |tup e G=>
  have b:=a.trans x2;refine⟨_,_,rfl,SqT.of (x2.hh _ _ (a.fh _ _ e)),λr g=>?_⟩;exact k _ _ _ (b.trans (Ex.alloc b.fh g)) (.tup yz ((G.rev.mono x2.ff).mono (Same.alloc (b.fh.free g))))
theorem Ks(d:VE X e fe)(f:VE X m (zo yp (eC (.int 1)))):VE X (.Subscript e (.Slice ab ab (aa m) p2) pos) (zo k7 fe):=by
 obtain⟨t,w,g⟩:=d.h;obtain⟨J,i,j⟩:=f.h;refine⟨_,⟨ZW Ls w.h i.h⟩,λB F H a b l Q s q k=>?_⟩;obtain⟨K,n,q⟩:=ze q;obtain⟨z,o,q⟩:=ze q;obtain⟨p,r⟩:=xS q;cases r;cases xi o;refine g B F H a b _ _ s n λv x y c A=>?_;refine j B x y a b (.val (.int (-1))) _ (s.ext c) rfl λu C E x2 G=>⟨wf G,?_⟩
 have I:=c.trans x2;exact⟨z,xw A,vX p,k _ C E I (.str _)⟩
end
end L3

namespace L2
open PySem PySem.Spec PyProof.Rows
theorem Inv.turned2{X:Cx}{a:List (ah×Obj)}{h:St}{H:Hp}{s:ag}{h':aX}{t':Nat}{e it:ah}(I:Inv X a h H s)(k:∀b o,b≠e->b≠it->s.heap.get? b=aa o->h'.get? b=aa o)(fe:y4 X a H e)(fi:y4 X a H it) :
  Inv X a h H { s with heap:=h',toks:=t'}:=by
 have i:∀b u,H b=aa u->b≠e:=λb u q z=>by rw[z,fe.1]at q;cases q
 have j:∀b u,H b=aa u->b≠it:=λb u q z=>by rw[z,fi.1]at q;cases q
 have f:∀b o,b∉[e,it]->s.heap.get? b=aa o->h'.get? b=aa o:=λb o d q=>k b o (λz=>d (by simp[z])) (λz=>d (by simp[z])) q;refine I.step (g':=s.gens) (d':=s.drawn) (ch:=[e,it]) (λb l=>?_) (λb o _ _ d q _=>f b o d q) (λb o _ _ d q _=>⟨o.slots,f b o d q⟩) (λ_ _ _ _ n=>n)
  (λb o d q=>⟨o,f b o d q⟩) (λ_ _ q=>q) (λ_ _ _ q=>q) (λb y q=>⟨#[],by rw[q];simp⟩) (λm p=>?_) (λb u q=>?_) I.bare
 ·simp only[aC,eO,or_false]at l;rcases l with rfl|rfl
  ·exact⟨fe.2.2.2.1,fe.2.1,fe.2.2.2.2.1,fe.2.2.2.2.2⟩
  ·exact⟨fi.2.2.2.1,fi.2.1,fi.2.2.2.2.1,fi.2.2.2.2.2⟩
 ·obtain⟨o,t,w,x,r⟩:=p;exact⟨o,t,w,k _ o (iM fe.2.1) (iM fi.2.1) x,r⟩
 ·refine(I.hok b u q).stay (λc v d g=>?_) (λ_ q=>q) λ_ _ q=>q;rcases d with z|z
  ·rw[z]at g ⊢;exact k b v (i b u q) (j b u q) g
  ·exact k c v (i c _ z) (j c _ z) g
def kj(K:ae)(a:ah):It:=
  ⟨λi H=>∃b x,SqL K H a b/\b[i]? =aa x,
   λi H v c=>∃p,H p=ab/\v=.ref p/\∀b,SqL K H a b->∃x,b[i]? =aa x/\c=zp H p (.tup [.int i,x]),
   λi H=>∃b,SqL K H a b/\b.length<=i⟩
structure ESt(e it a:ah)(i:Nat)(h:aX):Prop where
 he:∃old,IsEnum h e it (i:Int) old
 hi:h.IsListIter it a i
theorem L4{P:aN}{w:aR}{K:ae}{es:List Expr}{n:Nat}{G:Pos}(e it a:ah)(ne:e≠it) :
  Turn P w K (.Tuple es n G) (kj K a) [e,it] e (λi h=>ESt e it a i h) where
 mem:=by simp
 obj:=λi h g c j=>by
  obtain⟨⟨l,f⟩,z,m,_,d1⟩:=g;simp only[aC,eO,or_false]at j;rcases j with rfl|rfl
  ·exact⟨_,f,λv q=>by cases (show CG _=BM v from q)⟩
  ·exact⟨z,m,λv q=>by rw[d1]at q;cases q⟩
 keep:=λi h h' g k=>by
  obtain⟨⟨l,f⟩,z,m,r⟩:=g;exact⟨⟨l,k e (by simp) _ f⟩,z,k it (by simp) _ m,r⟩
 item:=by
  intro X J L M j i d s N H E I p g O;subst J L M;obtain⟨xs,x,B,R⟩:=O;obtain⟨⟨l,f⟩,C⟩:=g;obtain⟨S,T,pl,_⟩:=I.list B;obtain⟨u,hu,ru⟩:=T.get R;have fe:=p e (by simp);have fi:=p it (by simp);have le:e<s.heap.objs.size:=aA f;have li:it<s.heap.objs.size:=by obtain⟨z,m,_⟩:=C;exact aA m
  refine wpAny_pyNext_enum_item f C pl.isList (x:=u) (by simpa using hu) ne λh1 ho U ht hz hk=>⟨_,rfl,?_⟩
  have I1:Inv X d N (zp H s.heap.objs.size (.tup [.int i,x])) { s with heap:=s.heap.push { cls:=.type "tuple",data:=.seq #[.int i s.toks,u]},toks:=s.toks+1}:=
   I.laid (t':=s.toks+1) (o:=.tup [.int i,x]) (λc o q=>ai _ q) (aj _) ⟨by show 2<=aS;rw[ih];lia,[.int i s.toks,u],.cons ⟨_,rfl⟩ (.cons ru .nil),⟨_,ax _ rfl,rfl,0,by simp⟩⟩
  have Y:∀c∈[e,it],zp H s.heap.objs.size (.tup [.int i,x]) c=ab:=λc j=>by
   have:c≠s.heap.objs.size:=by
    simp only[aC,eO,or_false]at j;rcases j with rfl|rfl
    ·exact aP le
    ·exact aP li
   rw[zX this];exact(p c j).1
  have t:y4 X d (zp H s.heap.objs.size (.tup [.int i,x])) e:=⟨Y e (by simp),fe.2⟩
  have Z:y4 X d (zp H s.heap.objs.size (.tup [.int i,x])) it:=⟨Y it (by simp),fi.2⟩
  have I2:Inv X d N (zp H s.heap.objs.size (.tup [.int i,x])) { s with heap:=h1,toks:=s.toks+1}:=
   I1.turned2 (t':=s.toks+1) (h':=h1) (λb o h1' h2' q=>by
    by_cases hb:b=s.heap.objs.size
    ·subst hb;have:=ax s.heap (o:={ cls:=.type "tuple",data:=.seq #[.int i s.toks,u]}) rfl;rw[show(BI { s with heap:=s.heap.push { cls:=.type "tuple",data:=.seq #[.int i s.toks,u]},toks:=s.toks+1}).get? s.heap.objs.size=_ from this]at q;cases q;exact ht
    ·refine hk b o h1' h2' ?_;have q':(s.heap.push { cls:=.type "tuple",data:=.seq #[.int i s.toks,u]}).get? b=aa o:=q;rwa [AW _ _ _ hb]at q') t Z
  refine wpAny_letOwnedTupleGo_enum ho λh2 he2 y=>⟨.ref s.heap.objs.size,_,I2.turn1 t y.extBut,rfl,⟨_,I.hok.fresh (aj _),rfl,λys qy=>?_⟩,?_,Y⟩
  ·rw[I.list_inj qy B];exact⟨x,R,rfl⟩
  ·refine⟨⟨_,by rw[show((i+1:Nat):Int)=(i:Int)+1 by lia];exact he2⟩,?_⟩;exact U.extBut y.extBut (iM ne)
 done:=by
  intro X J L M j i d s N H E I p g O;subst J L M;obtain⟨xs,B,R⟩:=O;obtain⟨⟨l,f⟩,C⟩:=g;obtain⟨S,T,pl,_⟩:=I.list B;have hl:=T.length;exact wpAny_pyNext_enum_end (I.ok.hd j) f C pl.isList (by simp;lia) λh' ex=>⟨rfl,I.turn1 (p it (by simp)) ex⟩
 self:=λA i s Q E g h=>let⟨_,f⟩:=g.he;wpAny_pyIter_enum f h
def Uz(K:ae)(c:TA):TI:=λd H R=>c d H λe b=>∃a,e=[.ref a]/\(∃f,SqL K b a f)/\R (kj K a) b
theorem Pu{X:Cx}{es:List Expr}{n:Nat}{d p f:Pos}{a:Expr}{k:TA}(v:Gl X "enumerate")(w:X.mg "enumerate" =ab)(x:eg "enumerate" =aa (.type "enumerate"))(y:PA X [a] k)(z:aZ [a] X.env=[(false,eval a X.env)]:=by rfl) :
  PI X (.Tuple es n d) (.Call (.Name "enumerate" p) [a] [] f) (Uz X.K k):=by
 intro b s l H R I h;refine Call_ (vD I v w x (eK (zu (y f b s l H _ I h) ?_) (by rw[z];rfl) (by rfl)));rintro N s1 ⟨O,m,j,A,B⟩;obtain⟨u,e,⟨P,C⟩,q⟩:=B;subst e;cases A with
 |cons r E=>
  cases E;cases r;obtain⟨Q,S,G,_⟩:=j.list C;refine call_enumerate_list G.isList λg o J T L=>wpAny_pyIter_enum o ?_;have M:Inv X b l m { s1 with heap:=g}:=j.kept (t':=s1.toks) L;refine⟨_,_,_,_,m,rfl,M,L4 (s1.heap.objs.size+1) s1.heap.objs.size u (DT _),⟨⟨_,o⟩,J⟩,λc t=>?_,q⟩;have i:s1.heap.objs.size<=c:=by
   simp only[aC,eO,or_false]at t;rcases t with rfl|rfl
   ·exact oj _
   ·exact aj _
  exact j.fpOk i (j.hok.fresh i)
end L2
namespace L3
open PySem PySem.Spec PyProof.Rows L2
def uv(ds:List D):List D:=ds.zipIdx.map λp=>D.tup [.int (p.2:Int),p.1]
theorem U9{K:ae}{B b:Hp}{a:ah}{vs:List V}{ds:List D}(h1:∀F H,Same b F->Same F H->Same B H->SqL K H a vs)(g:Reps b vs ds):v4 B b (kj K a) (uv ds):=λF H s1 c l=>by
 have f:=h1 F H s1 c l;have m:=g.length;refine⟨⟨vs,f,?_⟩,λi d e=>?_⟩
 ·simp[uv,m]
 ·unfold uv at e;rw[av,Bs]at e;cases z:ds[i]? with
  |none=>rw[z]at e;cases e
  |some s=>
   rw[z]at e;simp only[i8,oA,aV]at e;obtain⟨v,h,n⟩:=g.get z;refine⟨⟨vs,v,f,h⟩,λx t y=>?_⟩;obtain⟨o,j,p,y⟩:=y;obtain⟨u,k,q⟩:=y vs f;rw[h]at k;cases k;subst p q e;have r:Same F (zp F o (.tup [.int i,v])):=Same.alloc (c.free j);exact⟨_,Ex.alloc c j,.tup yz (.cons (.int _) (.cons (Rep.mono (s1.trans r) n) .nil))⟩
section
variable {X:Cx}{e:Expr}{fe:FE}{p pos tpos:Pos}{es:List Expr}{n:Nat}
def ph(i:Nat):FI:=λa=>(iB i a).map uv
theorem UL(i:Nat)(d:Gl X "enumerate")(f:X.mg "enumerate" =ab)(g:eg "enumerate" =aa (.type "enumerate"))(j:X.N[i]? =aa x:=by rfl)(m:wm X.env.scope x:=by first|exact eS rfl|exact ef (eS rfl)|exact ef (ef rfl))(o:(x==("__debug__" : Str))=false:=by decide)
 (b:(x==("__classdict__" : Str))=false:=by decide):VI X (.Tuple es n tpos) (.Call (.Name "enumerate" p) [.Name x px] [] pos) (ph i):=by
  refine⟨_,⟨Pu d f g (vZ (wv i j m o b) uJ rfl).h rfl⟩,λB F H y z A R s q k=>?_⟩;obtain⟨C,a,q⟩:=zJ q;subst q;unfold iB at a;split at a
  · rename_i es e;cases a;obtain⟨v,r,l,t,e,c,u⟩:=s.ent i _ e;subst e;exact⟨_,r,l,rfl,⟨t,s.bh.seq c⟩,k _ F H (Ex.refl s.fh) (U9 (λ_ _ _ _ w=>w.seq c) u)⟩
  · cases a
end
end L3

namespace L2
open PySem PySem.Spec PyProof.Rows
theorem Vu{A:a4}{it:ah}{c:Array af}(m:A.handled=ab)(hn:a≠it):Draws P w A.in1 it [it,a] c.size (λi x=>c[i]? =aa x) λi h=>h.IsTupleIter it a i/\h.IsTuple a c where
 live:=λi h b=>let⟨o,e,_⟩:=b.1;⟨o,e⟩
 frame:=λi h f b k=>by
  obtain⟨⟨o,e,r⟩,g,n,p⟩:=b;exact⟨⟨o,k it (by simp) o e,r⟩,g,k a (by simp) g n,p⟩
 item:=λi s Q E j b k=>ZF b.1 b.2 (AI j) λf d l=>k _ f s.toks (AI j) ⟨d,b.2.extBut l.extBut hn⟩ l
 done:=λs Q E b k=>jJ m b.1 b.2 (by simp) k
theorem Vz{w:aR}{A:a4}{E:af->ag->Prop}{s:ag}{it:ah}{i:Nat}{its:Array af}{Q:Option af->ag->Prop}(f:A.handled=ab)(hn:a≠it)
 (g:IsEnum s.heap e it (i:Int) old) (hi:s.heap.IsTupleIter it a i) (pl:s.heap.IsTuple a its) (l:its.size<=i) (k:∀c,DI it s.heap c->Q ab { s with heap:=c}):au (model P w) A (pyNext (.ref e)) Q E s:=by
  have D:Draws P w A.in1 it [it,a] i (λ_ _=>False) λj h=>j=i/\h.IsTupleIter it a i/\h.IsTuple a its:=by
    refine⟨λj h b=>?_,λj h c b k=>?_,λj s Q E m b _=>?_,λs Q E b k=>jJ f b.2.1 b.2.2 (by simpa using l) k⟩
    · obtain⟨o,e,_⟩:=b.2.1;exact⟨o,e⟩
    · obtain⟨n,⟨o,e,r⟩,d,p,q⟩:=b;exact⟨n,⟨o,k it (by simp) o e,r⟩,d,k a (by simp) d p,q⟩
    · exact absurd b.1 (aP m)
  exact wpAny_pyNext_enum_endD D g ⟨rfl,hi,pl⟩ k
theorem RH(a:ah)(its:Array af)(n:Nat)(e:Option ah)(j:Array (Option af)):Meets (Builtin.«enumerate.__new__» ⟨[.type "enumerate",.ref a],[]⟩) λ_ R s=>s.heap.get? a=aa ⟨.type "tuple",e,.seq its n,j⟩ /\
  R (.ok (.ret (.ref (s.heap.push { cls:=.type "tuple_iterator",data:=.fields #[.ref a,.int 0 0]}).objs.size))) { s with heap:=(s.heap.push { cls:=.type "tuple_iterator",data:=.fields #[.ref a,.int 0 0]}).push { cls:=.type "enumerate",data:=.fields #[.none,.bool false,.ref s.heap.objs.size,rawInt 0,.none,.none]}}:=by
 refine .of_wp λP w A R s h=>?_;obtain⟨k,g,d,l,m⟩:=s;obtain⟨b,h⟩:=h;have f:=sub_enumerate;have i:Heap.IsTuple (BI ⟨k,g,d,l,m⟩) a its:=⟨_,b,rfl,n,rfl⟩
 wp_walk using AJ b
 refine wpAny_stack_any λo=>am ?_;split
 ·rename_i c _ _ _ _ _;cases (c==oy "enumerate") <;> (wp_walk using AJ b,wpAny_pyIter_tuple i;exact⟨_,rfl,h⟩)
 ·wp_walk using AJ b,wpAny_pyIter_tuple i
  exact⟨_,rfl,h⟩
theorem WR{w:aR}{E:af->ag->Prop}{s:ag}{Q:af->ag->Prop}(j:s.heap.IsTuple a its)
 (k:∀d,IsEnum d (s.heap.objs.size+1) s.heap.objs.size 0 .none->d.IsTupleIter s.heap.objs.size a 0->d.objs.size=s.heap.objs.size+2->(∀b o,s.heap.get? b=aa o->d.get? b=aa o)->Q (.ref (s.heap.objs.size+1)) { s with heap:=d}):au (model P w) A (call (.type "enumerate") [.ref a]) Q E s:=by
  obtain⟨⟨c,e,l,m⟩,p,q,n,r⟩:=j;have f:c=.type "tuple" :=q;have g:l=.seq its n:=r;subst f g;refine callType_new F.called_enumerate (by decide) (F.typeCall_enumerate_1 _) (F.newCall_enumerate_1 _) (λo=>F.args_object_init_2 o _) F.entry_enumerate_new (RH a its n e m) ⟨p,?_⟩;have i:(s.heap.push { cls:=.type "tuple_iterator",data:=.fields #[.ref a,.int 0 0]}).objs.size=s.heap.objs.size+1:=ii ..;have h:=ax (s.heap.push { cls:=.type "tuple_iterator",data:=.fields #[.ref a,.int 0 0]}) (o:={ cls:=.type "enumerate",data:=.fields #[.none,.bool false,.ref s.heap.objs.size,rawInt 0,.none,.none]}) rfl;show _/\_;rw[i]at h ⊢;exact⟨⟨_,h,rfl⟩,k _ h ⟨_,ai _ (ax _ rfl),rfl,rfl⟩ (by rw[ii,i]) λb o x=>ai _ (ai _ x)⟩
def kl(K:ae)(a:ah):It:=
  ⟨λi H=>∃b x,SqT K H a b/\b[i]? =aa x,
   λi H v c=>∃p,H p=ab/\v=.ref p/\∀b,SqT K H a b->∃x,b[i]? =aa x/\c=zp H p (.tup [.int i,x]),
   λi H=>∃b,SqT K H a b/\b.length<=i⟩
structure EStT(e it a:ah)(i:Nat)(h:aX):Prop where
 he:∃old,IsEnum h e it (i:Int) old
 hi:h.IsTupleIter it a i
theorem L5{P:aN}{w:aR}{K:ae}{es:List Expr}{n:Nat}{S:Pos}(e it a:ah)(T:e≠it) :
  Turn P w K (.Tuple es n S) (kl K a) [e,it] e (λi h=>EStT e it a i h) where
 mem:=by simp
 obj:=λi h l c g=>by
  obtain⟨⟨m,f⟩,B,p,_,J⟩:=l;simp only[aC,eO,or_false]at g;rcases g with rfl|rfl
  ·exact⟨_,f,λv q=>by cases (show CG _=BM v from q)⟩
  ·exact⟨B,p,λv q=>by rw[J]at q;cases q⟩
 keep:=λi h h' l k=>by
  obtain⟨⟨m,f⟩,B,p,r⟩:=l;exact⟨⟨m,k e (by simp) _ f⟩,B,k it (by simp) _ p,r⟩
 item:=by
  intro X U Y Z g i d s σ H E I L l hg;subst U Y Z;obtain⟨xs,x,R,hx⟩:=hg;obtain⟨⟨m,f⟩,C⟩:=l;obtain⟨its,rv,pl,_⟩:=I.tuple R;obtain⟨u,hu,ru⟩:=rv.get hx;have fe:=L e (by simp);have fi:=L it (by simp);have le:e<s.heap.objs.size:=aA f;have li:it<s.heap.objs.size:=by obtain⟨B,p,_⟩:=C;exact aA p
  have hp:a≠it:=λz=>by
   obtain⟨B,p,_,J⟩:=C;obtain⟨o2,t,_,m2,y⟩:=pl;rw[z,p]at t;cases t;rw[J]at y;cases y
  have hae:e≠a:=λz=>by
   obtain⟨o2,t,_,m2,y⟩:=pl;rw[<- z,f]at t;cases t;cases y
  refine wpAny_pyNext_enum_itemD (Vu (I.ok.hd g) hp) f ⟨C,pl⟩ (by have:=(aQ.mp hu).1;simpa using this) T (by simp[T,hae]) λG h1 j M ho hi1 ht hz hk=>⟨_,rfl,?_⟩
  have hx2:G=u:=by rw[CP,hu]at M;exact(aO M).symm
  subst hx2;have I1:Inv X d σ (zp H s.heap.objs.size (.tup [.int i,x])) { s with heap:=s.heap.push { cls:=.type "tuple",data:=.seq #[.int i j,G]},toks:=j+1}:=
   I.laid (t':=j+1) (o:=.tup [.int i,x]) (λc o q=>ai _ q) (aj _) ⟨by show 2<=aS;rw[ih];lia,[.int i j,G],.cons ⟨_,rfl⟩ (.cons ru .nil),⟨_,ax _ rfl,rfl,0,by simp⟩⟩
  have hn:∀c∈[e,it],zp H s.heap.objs.size (.tup [.int i,x]) c=ab:=λc g=>by
   have:c≠s.heap.objs.size:=by
    simp only[aC,eO,or_false]at g;rcases g with rfl|rfl
    ·exact aP le
    ·exact aP li
   rw[zX this];exact(L c g).1
  have N:y4 X d (zp H s.heap.objs.size (.tup [.int i,x])) e:=⟨hn e (by simp),fe.2⟩
  have fi1:y4 X d (zp H s.heap.objs.size (.tup [.int i,x])) it:=⟨hn it (by simp),fi.2⟩
  have I2:Inv X d σ (zp H s.heap.objs.size (.tup [.int i,x])) { s with heap:=h1,toks:=j+1}:=
   I1.turned2 (t':=j+1) (h':=h1) (λb o h1' h2' q=>by
    by_cases hb:b=s.heap.objs.size
    ·subst hb;have:=ax s.heap (o:={ cls:=.type "tuple",data:=.seq #[.int i j,G]}) rfl;rw[show(BI { s with heap:=s.heap.push { cls:=.type "tuple",data:=.seq #[.int i j,G]},toks:=j+1}).get? s.heap.objs.size=_ from this]at q;cases q;exact ht
    ·refine hk b o h1' h2' ?_;have q':(s.heap.push { cls:=.type "tuple",data:=.seq #[.int i j,G]}).get? b=aa o:=q;rwa [AW _ _ _ hb]at q') N fi1
  refine wpAny_letOwnedTupleGo_enum ho λh2 he2 O=>⟨.ref s.heap.objs.size,_,I2.turn1 N O.extBut,rfl,⟨_,I.hok.fresh (aj _),rfl,λys qy=>?_⟩,?_,hn⟩
  ·rw[I.tuple_inj qy R];exact⟨x,hx,rfl⟩
  ·refine⟨⟨_,by rw[show((i+1:Nat):Int)=(i:Int)+1 by lia];exact he2⟩,?_⟩;exact hi1.1.extBut O.extBut (iM T)
 done:=by
  intro X U Y Z g i d s σ H E I L l hg;subst U Y Z;obtain⟨xs,R,hx⟩:=hg;obtain⟨⟨m,f⟩,C⟩:=l;obtain⟨its,rv,pl,_⟩:=I.tuple R;have hl:=rv.length;have hp:a≠it:=λz=>by
   obtain⟨B,p,_,J⟩:=C;obtain⟨o2,t,_,m2,y⟩:=pl;rw[z,p]at t;cases t;rw[J]at y;cases y
  exact Vz (I.ok.hd g) hp f C pl (by simp;lia) λh' ex=>⟨rfl,I.turn1 (L it (by simp)) ex⟩
 self:=λA i s Q E l h=>let⟨_,f⟩:=l.he;wpAny_pyIter_enum f h
def UA(K:ae)(c:TA):TI:=λd H R=>c d H λe b=>∃a,e=[.ref a]/\(∃f,SqT K b a f)/\R (kl K a) b
theorem Pv{X:Cx}{es:List Expr}{n:Nat}{d p f:Pos}{a:Expr}{k:TA}(v:Gl X "enumerate")(w:X.mg "enumerate" =ab)(x:eg "enumerate" =aa (.type "enumerate"))(y:PA X [a] k)(z:aZ [a] X.env=[(false,eval a X.env)]:=by rfl) :
  PI X (.Tuple es n d) (.Call (.Name "enumerate" p) [a] [] f) (UA X.K k):=by
 intro b s l H R I h;refine Call_ (vD I v w x (eK (zu (y f b s l H _ I h) ?_) (by rw[z];rfl) (by rfl)));rintro N s1 ⟨O,m,j,A,B⟩;obtain⟨u,e,⟨P,C⟩,q⟩:=B;subst e;cases A with
 |cons r E=>
  cases E;cases r;obtain⟨Q,S,G,_⟩:=j.tuple C;refine WR G λg o J T L=>wpAny_pyIter_enum o ?_;have M:Inv X b l m { s1 with heap:=g}:=j.kept (t':=s1.toks) L;refine⟨_,_,_,_,m,rfl,M,L5 (s1.heap.objs.size+1) s1.heap.objs.size u (DT _),⟨⟨_,o⟩,J⟩,λc t=>?_,q⟩;have i:s1.heap.objs.size<=c:=by
   simp only[aC,eO,or_false]at t;rcases t with rfl|rfl
   ·exact oj _
   ·exact aj _
  exact j.fpOk i (j.hok.fresh i)
end L2
namespace L3
open PySem PySem.Spec PyProof.Rows L2
theorem Ta{K:ae}{B b:Hp}{a:ah}{vs:List V}{ds:List D}(h1:∀F H,Same b F->Same F H->Same B H->SqT K H a vs)(g:Reps b vs ds):v4 B b (kl K a) (uv ds):=λF H s1 c l=>by
 have f:=h1 F H s1 c l;have m:=g.length;refine⟨⟨vs,f,?_⟩,λi d e=>?_⟩
 ·simp[uv,m]
 ·unfold uv at e;rw[av,Bs]at e;cases z:ds[i]? with
  |none=>rw[z]at e;cases e
  |some s=>
   rw[z]at e;simp only[i8,oA,aV]at e;obtain⟨v,h,n⟩:=g.get z;refine⟨⟨vs,v,f,h⟩,λx t y=>?_⟩;obtain⟨o,j,p,y⟩:=y;obtain⟨u,k,q⟩:=y vs f;rw[h]at k;cases k;subst p q e;have r:Same F (zp F o (.tup [.int i,v])):=Same.alloc (c.free j);exact⟨_,Ex.alloc c j,.tup yz (.cons (.int _) (.cons (Rep.mono (s1.trans r) n) .nil))⟩
def c9(fe:FE):FI:=λa=>((fe a).bind yc).map uv
theorem UM{X:Cx}{e:Expr}{n:Nat}(h:VE X e fe)(g:Gl X "enumerate")(i:X.mg "enumerate" =ab)(j:eg "enumerate" =aa (.type "enumerate"))(d:zK e=true:=by rfl):VI X (.Tuple es n tpos) (.Call (.Name "enumerate" p) [e] [] pos) (c9 fe):=by
 obtain⟨t,w,m⟩:=h.h;refine⟨_,⟨Pv g i j (vZ w uJ d).h (by rw[xc d];rfl)⟩,λB F H l o I R s q k=>?_⟩;obtain⟨J,u,x⟩:=zJ q;subst x;obtain⟨r,y,c⟩:=ze u;refine m B F H l o r _ s y λv z A f C=>?_;unfold yc at c;split at c
 ·cases c;cases C with
  |@tup a E _ e G=>exact⟨a,rfl,⟨E,SqT.of (f.fh _ _ e)⟩,k _ z A f (Ta (λK L a b _=>SqT.of (b _ _ (a _ _ e))) G)⟩
 ·cases c
end L3

namespace L3
open PySem PySem.Spec PyProof.Rows L2
def hJ(i j:Int):Prop:=(0<=j/\j<=1000000)/\i.natAbs<18446744073709551616
noncomputable def ub:=pI hJ λi j=>.int (i*2 ^ j.toNat)
def uR:=z8 λi j=>.int (Spec.bitAnd i j)
def tr:=z8 λi j=>.int (Spec.bitOr i j)
def vA:List Ent->Option Ent
 |[x,y]=>(zr x).bind λi=>(zr y).map λj=>.val (.int (if j<i then j else i))
 | _=>ab
section
variable {X:Cx}
theorem Qe:y6 X (binaryOp .LShift) ub:=⟨_,QH,lg (λ_ _ h=>⟨h.1.1,h.1.2,h.2⟩) λ_ _ _=>.int _⟩
theorem RN:y6 X (binaryOp .BitAnd) uR:=⟨_,Ql,tO λ_ _ _=>.int _⟩
theorem RO:y6 X (binaryOp .BitOr) tr:=⟨_,QG,tO λ_ _ _=>.int _⟩
theorem WJ(a:X.calm=true:=by rfl):vK X (.builtin "min") vA:=⟨_,W0 a,λl F H m b c Q d n r q k=>by
 match b,q with
 |[x,y],q=>
  obtain⟨i,e,q⟩:=ze q;obtain⟨j,f,q⟩:=zJ q;cases wz e;cases wz f;cases q;cases r with
  |cons g r=>
   cases r with
   |cons h r=>
    cases r;cases wf g;cases wf h;exact⟨i,j,rfl,k _ F H (Ex.refl d) (.int _)⟩⟩
end
end L3

namespace L3
open PySem PySem.Spec PyProof.Rows L2
noncomputable def wB(H:Hp)(A:List ah):Hp:=λa=>if a∈A then ab else H a
section
variable {K:ae}{B:Bd}{F H F' H' H0:Hp}{σ:Sg}{δ:En}{v:V}{A A':List ah}{a:ah}{u:HO}{i:Nat}{o o':OT}
theorem uX(h:a∈A):wB H A a=ab:=if_pos h
theorem jN(h:a∉A):wB H A a=H a:=if_neg h
theorem ul(h:wB H A a=aa u):a∉A/\H a=aa u:=by
 by_cases q:a∈A
 ·rw[uX q]at h;cases h
 ·rw[jN q]at h;exact⟨q,h⟩
theorem vE(h:a∉A)(e:H a=aa u):wB H A a=aa u:=(jN h).trans e
structure Chg(H F F' H':Hp)(A:List ah):Prop where
 ff:Same F F'
 fh:Same F' H'
 st:Same (wB H A) H'
 nw:∀a u,wB H A a=aa u->vB u=false->F' a=F a
theorem TR.far{d:List ah}(t:TR K F H w p d)(c:Chg H F F' H' A)(h:∀a∈d,a∉A):TR K F' H' w p d/\∀a∈d,F' a=F a:=
 ⟨t.move c.ff λa b=>let⟨_,h1,_⟩:=t.lies a b;(c.st _ _ (vE (h a b) h1)).trans h1.symm,λa b=>let⟨_,h1,h2⟩:=t.lies a b;c.nw _ _ (vE (h a b) h1) h2⟩
theorem RS.chg(s:RS K B F H σ δ)(hi:δ[i]? =aa (aa (.obj o)))(Y:σ[i]? =aa (aa v))(t:TR K F H v o A)(c:Chg H F F' H' A)(t':TR K F' H' v o' A')(n':A'.Nodup)(f':∀a∈A',F' a=ab/\wB H A a=ab) :
  RS K B F' H' σ (δ.set i (aa (.obj o')))/\FX B F F':=by
 obtain⟨A0,t0,n0,f0⟩:=s.at hi Y;cases t0.det t;have hB:∀a u,(B:Hp) a=aa u->wB H A a=aa u:=λa u h=>vE (λr=>by rw[(f0 a r).2]at h;cases h) (s.bh _ _ h);have y:∀(j:Nat) (e:Ent) (w:V) (a:ah),i≠j->δ[j]? =aa (aa e)->σ[j]? =aa (aa w)->Occ K F H w e a->a∉A:=λj e w a f M N h3 r=>s.ao i j _ e v w a f hi Y M N rfl ⟨A,t,r⟩ h3;have mv:∀(j:Nat) (w:V) (p:OT) (m:List ah),i≠j->(δ[j]? =aa (aa (.obj p))\/∃O C,δ[j]? =aa (aa (.vwt O C))/\p=.dcT O C)->σ[j]? =aa (aa w)->TR K F H w p m->TR K F' H' w p m/\∀a∈m,F' a=F a:=λj w p m f M N G=>
  G.far c λa r=>M.elim (λM=>y j _ w a f M N ⟨m,G,r⟩) λ⟨O,C,M,Z⟩=>y j _ w a f M N ⟨m,Z ▸ G,r⟩
 have bk:∀(j:Nat) (e:Ent) (w:V) (a:ah),i≠j->δ[j]? =aa (aa e)->σ[j]? =aa (aa w)->Occ K F' H' w e a->Occ K F H w e a:=λj e w a f P Q z3=>z3.back (s.at P Q) λp m he G=>by
  rcases he with he|⟨O,C,he,ho⟩
  ·subst he;exact(mv j w p m f (.inl P) Q G).1
  ·subst he;exact(mv j w p m f (.inr ⟨O,C,P,ho⟩) Q G).1
 refine⟨⟨c.fh,λa u h=>c.st a u (hB a u h),by simp[s.len],λj e q=>?_,λa b l2 C e' E k R g I=>?_,λa b e1 e2 v1 v2 J E k R g I q5 q6 q7=>?_,λw p hw Z=>?_⟩,⟨c.ff,λa u h ht=>c.nw a u (hB a u h) ht⟩⟩
 ·rw[eA]at q;by_cases f:i=j
  ·subst f;rw[if_pos rfl]at q;split at q
   ·cases q;exact⟨v,Y,A',t',n',λa r=>⟨(f' a r).1,by
     cases z:(B:Hp) a with
     |none=>rfl
     |some u=>have:=hB a u z;rw[(f' a r).2]at this;cases this⟩⟩
   ·cases q
  ·rw[if_neg f]at q;obtain⟨w,p1,S⟩:=s.ent j e q;refine⟨w,p1,?_⟩;cases e with
   |val d=>exact Rep.mono c.ff S
   |bor ds=>obtain⟨l,T,e,L,U⟩:=S;exact⟨l,T,e,L,U.mono c.ff⟩
   |own C=>
    obtain⟨l,T,e,L,U,p5,p6⟩:=S;have hl:=y j _ w l f q p1 e;exact⟨l,T,e,c.st _ _ (vE hl L),U.mono c.ff,(c.nw _ _ (vE hl L) rfl).trans p5,p6⟩
   |vw C=>
    obtain⟨l,T,e,L,U⟩:=S;have hl:=y j _ w l f q p1 e;exact⟨l,T,e,c.st _ _ (vE hl L),U.mono c.ff⟩
   |obj p=>
    obtain⟨m,G,nj,fj⟩:=S;obtain⟨m1,m2⟩:=mv j w p m f (.inl q) p1 G;exact⟨m,m1,nj,λa r=>⟨(m2 a r).trans (fj a r).1,(fj a r).2⟩⟩
   |vwt O C=>obtain⟨m,G⟩:=S;exact⟨m,(mv j w _ m f (.inr ⟨O,C,q,rfl⟩) p1 G).1⟩
   |bt ds=>obtain⟨l,T,e,L,U⟩:=S;exact⟨l,T,e,L,U.mono c.ff⟩
 ·rw[eA]at k g;by_cases n:i=a
  ·subst n;rw[if_pos rfl]at k;split at k <;> cases k
  ·rw[if_neg n]at k;by_cases x:i=b
   ·subst x;rw[if_pos rfl]at g;split at g
    ·cases g;cases I
    ·cases g
   ·rw[if_neg x]at g;exact s.ap a b l2 C e' E k R g I
 ·have key:∀(j:Nat) (e:Ent) (w:V),i≠j->δ[j]? =aa (aa e)->σ[j]? =aa (aa w)->Occ K F' H' w e J->Occ K F' H' v (.obj o') J->False:=λj e w f P Q z3 z4=>by
   have z5:=bk j e w J f P Q z3;obtain⟨u,hu⟩:=s.occ P Q z5;obtain⟨A2,t2,N⟩:=z4;rw[t2.det t']at N;have:=(f' J N).2;rw[vE (y j e w J f P Q z5) hu]at this;cases this
  rw[eA]at k g;by_cases n:i=a
  ·subst n;rw[if_pos rfl]at k;rw[if_neg E]at g;split at k
   ·cases k;rw[Y]at R;cases R;exact key b e2 v2 E g I q7 q6
   ·cases k
  ·rw[if_neg n]at k;by_cases x:i=b
   ·subst x;rw[if_pos rfl]at g;split at g
    ·cases g;rw[Y]at I;cases I;exact key a e1 v1 n k R q6 q7
    ·cases g
   ·rw[if_neg x]at g;exact s.ao a b e1 e2 v1 v2 J E k R g I q5 (bk a e1 v1 J n k R q6) (bk b e2 v2 J x g I q7)
 ·rw[eA]at Z;by_cases hi0:i=0
  ·subst hi0;exact s.pn w o hw hi
  ·rw[if_neg hi0]at Z;exact s.pn w p hw Z
theorem TRs.focus:∀{vs:List V} {s:List OT} {A:List ah} {k:Nat} {x:OT},TRs K F H vs s A->s[k]? =aa x->∃v f,vs[k]? =aa v/\TR K F H v x f/\(∀a∈f,a∈A)/\(A.Nodup->f.Nodup) /\
  ∀(F' H':Hp) (x':OT) (d:List ah),A.Nodup->Same F F'->(∀a∈A,a∉f->H' a=H a)->TR K F' H' v x' d->d.Nodup->(∀a∈d,a∈f\/a∉A)->∃A',TRs K F' H' vs (s.set k x') A'/\A'.Nodup/\∀a∈A',(a∈A/\a∉f)\/a∈d
 | _,_,_,k,x,.nil,h=>by simp at h
 | _,_,_,0,x,.cons (A:=w) (A':=L) t y,h=>by
  simp at h;subst h;refine⟨_,w,rfl,t,λa c=>em _ c,λn=>(e8.mp n).1,λF' H' x' d n j l C E m=>?_⟩;obtain⟨M,G,g⟩:=e8.mp n;refine⟨d++L,.cons C (y.move j λa c=>l a (aE _ c) λI=>g a I a c rfl),e8.mpr ⟨E,G,λa c b p e=>?_⟩,λa c=>?_⟩
  ·subst e;rcases m a c with h|h
   ·exact g a h a p rfl
   ·exact h (aE _ p)
  ·rcases ed.mp c with h|h
   ·exact .inr h
   ·exact .inl ⟨aE _ h,λI=>g a I a h rfl⟩
 | _,_,_,k+1,x,.cons (A:=w) (A':=L) t y,h=>by
  obtain⟨v,f,O,P,r,J,Q⟩:=TRs.focus (k:=k) (x:=x) y (by simpa using h)
  refine⟨v,f,by simpa using O,P,λa c=>aE _ (r a c),λn=>J (e8.mp n).2.1,λF' H' x' d n j l C E m=>?_⟩;obtain⟨M,G,g⟩:=e8.mp n;obtain⟨A',R,S,N⟩:=Q F' H' x' d G j (λa c T=>l a (aE _ c) T) C E λa c=>(m a c).imp id λz q=>z (aE _ q);refine⟨w++A',.cons (t.move j λa c=>l a (em _ c) λz=>g a c a (r a z) rfl) R,e8.mpr ⟨M,S,λa c b p e=>?_⟩,λa c=>?_⟩
  ·subst e;rcases N a p with h|h
   ·exact g a c a h.1 rfl
   ·rcases m a h with h|h
    ·exact g a c a (r a h) rfl
    ·exact h (em _ c)
  ·rcases ed.mp c with h|h
   ·exact .inl ⟨em _ h,λz=>g a h a (r a z) rfl⟩
   ·exact(N a h).imp (λz=>⟨aE _ z.1,z.2⟩) id
theorem TRs.put{A1:List ah}(p:TR K F H y x A1):∀{vs:List V} {f:List OT} {A:List ah} {k:Nat},TRs K F H vs f A->k<f.length->A.Nodup->A1.Nodup->(∀a∈A1,a∉A)->∃A',TRs K F H (vs.set k y) (f.set k x) A'/\A'.Nodup/\∀a∈A',a∈A\/a∈A1
 | _,_,_,k,.nil,h,_,_,_=>by simp at h
 | _,_,_,0,.cons (A:=q) (A':=r) t g,_,n,j,d=>by
  obtain⟨s,l,w⟩:=e8.mp n;refine⟨A1++r,.cons p g,e8.mpr ⟨j,l,λa c b m e=>?_⟩,λa c=>?_⟩
  ·subst e;exact d a c (aE _ m)
  ·exact(ed.mp c).elim .inr λz=>.inl (aE _ z)
 | _,_,_,k+1,.cons (A:=q) (A':=r) t g,h,n,j,d=>by
  obtain⟨s,l,w⟩:=e8.mp n;obtain⟨A',E,G,C⟩:=TRs.put p (k:=k) g (by simpa using h) l j λa c z=>d a c (aE _ z);refine⟨q++A',.cons t E,e8.mpr ⟨s,G,λa c b m e=>?_⟩,λa c=>?_⟩
  ·subst e;rcases C a m with z|z
   ·exact w a c a z rfl
   ·exact d a z (em _ c)
  ·rcases ed.mp c with z|z
   ·exact .inl (em _ z)
   ·exact(C a z).imp (aE _) id
theorem TRs.add{y:V}{x:OT}{A1:List ah}(b:TR K F H y x A1):∀{vs:List V} {c:List OT} {A:List ah},TRs K F H vs c A->∃A',TRs K F H (vs++[y]) (c++[x]) A'/\A'=A++A1
 | _,_,_,.nil=>⟨A1,by simpa using TRs.cons b .nil,by simp⟩
 | _,_,_,.cons (A:=d) t e=>by
  obtain⟨A',f,g⟩:=TRs.add b e;exact⟨d++A',.cons t f,by rw[g,eG]⟩
theorem mU:∀{ns:List Str} {vs:List V} {k:Nat} {f:Str} {v:V},ns.Nodup->ns[k]? =aa f->vs[k]? =aa v->(ns.zip vs).lookup f=aa v
 |[],_,_,_,_,_,h,_=>by simp at h
 | _::_,[],_,_,_,_,_,h=>by simp at h
 |n::ns,w::vs,0,f,v,_,c,d=>by
  simp at c d;subst c;subst d;simp[ir]
 |n::ns,w::vs,k+1,f,v,j,c,d=>by
  have b:ns[k]? =aa f:=by simpa using c
  have g:(f==n)=false:=by
   rw[beq_eq_false_iff_ne];intro e;subst e;exact(aW.mp j).1 (iy b)
  rw[ie,ir,g];exact mU (aW.mp j).2 b (by simpa using d)
theorem mT:∀{ns:List Str} {vs:List V} {f:Str},f∉ns->(ns.zip vs).lookup f=ab
 |[],_,_,_=>rfl
 | _::_,[],_,_=>rfl
 |n::ns,w::vs,f,h=>by
  have b:(f==n)=false:=by
   rw[beq_eq_false_iff_ne];intro e;exact h (by simp[e])
  rw[ie,ir,b];exact mT λz=>h (aq _ z)
theorem Z6:∀{ns:List Str} {vs:List V} {k:Nat} {f:Str} {y:V},ns.Nodup->ns[k]? =aa f->ns.length=vs.length->we f y (ns.zip vs)=ns.zip (vs.set k y)
 |[],_,_,_,_,_,h,_=>by simp at h
 | _::_,[],_,_,_,_,_,h=>by simp at h
 |n::ns,w::vs,0,f,y,_,h,_=>by
  simp at h;subst h;simp[we]
 |n::ns,w::vs,k+1,f,y,c,h,g=>by
  have d:ns[k]? =aa f:=by simpa using h
  have b:¬ n=f:=λe=>by subst e;exact(aW.mp c).1 (iy d)
  rw[ie,we,if_neg b,Z6 (aW.mp c).2 d (by simpa using g)];rfl
theorem Nl{ns:List Str}{vs:List V}(h:f∉ns)(b:ns.length=vs.length):we f y (ns.zip vs)=(ns++[f]).zip (vs++[y]):=by
 induction ns generalizing vs with
 |nil=>
  cases vs with
  |nil=>rfl
  |cons w vs=>simp at b
 |cons n ns d=>
  cases vs with
  |nil=>simp at b
  |cons w vs=>
   have c:¬ n=f:=λe=>h (by simp[e]);rw[ie,we,if_neg c,d (λz=>h (aq _ z)) (by simpa using b)];rfl
noncomputable def toO:Ent->Option OT
 |.val d=>aa (.val d)
 |.own b=>aa (.lst b)
 |.obj o=>aa o
 | _=>ab
theorem RepR.toO(r:RepR K H0 F H v e)(q:toO e=aa x):NObj K H0 F H v x:=by
 cases e with
 |val d=>cases q;exact⟨[],.val r,.nil,λa h=>by cases h⟩
 |own j=>cases q;obtain⟨l,k,e,b,c,f,g⟩:=r;subst e;exact⟨[l],.lst c f,by simp,λa h=>by simp at h;subst h;exact⟨g,b⟩⟩
 |obj o=>cases q;obtain⟨_,A,t,n,h⟩:=r;exact⟨A,t,n,h⟩
 | _=>cases q
end
noncomputable def vl(c:Str)(ns:List Str):OT->Option (List OT)
 |.ins b a l=>yY (b=c/\a=ns) (aa l)
 | _=>ab
theorem wX{c:Str}{ns:List Str}{l:List OT}:vl c ns (.ins c ns l)=aa l:=sq ⟨rfl,rfl⟩
theorem tH(h:vl c ns o=aa l):o=.ins c ns l:=by
 cases o with
 |ins f a g=>
  obtain⟨⟨b,d⟩,e⟩:=xS h;cases e;rw[b,d]
 | _=>cases h
noncomputable def y3(i:Nat):En->Option OT:=λa=>match a[i]? with
 |some (aa (.obj o))=>aa o
 | _=>ab
theorem vn{i:Nat}(h:y3 i δ=aa o):δ[i]? =aa (aa (.obj o)):=by
 unfold y3 at h;split at h
 ·rename_i a e;cases h;exact e
 ·cases h
noncomputable def fE:OT->Option Ent
 |.val d=>aa (.val d)
 |.lst a=>aa (.vw a)
 | _=>ab
noncomputable def xg(i:Nat)(c:Str)(ns:List Str)(k:Nat):FE:=λa=>((y3 i a).bind (vl c ns)).bind λl=>(l[k]?).bind fE
structure ClsF(K:ae)(c:Str)(ns:List Str):Prop where
 h:∀C,vL K c C->Cls K C/\∀f∈ns,NoAttr K C f
theorem sZ{K:ae}{c:Str}{C C':ah}(h:vL K c C)(h':vL K c C'):C=C':=by
 have:=h.symm.trans h';simp at this;exact this
section
variable {X:Cx}{e:Expr}{pos pos' p:Pos}{fe:FE}{x f c:Str}{i k:Nat}{ns nsF:List Str}
theorem Ko(i k:Nat)(n:ClsF X.K c nsF)(u:f∈nsF:=by decide +kernel)(y:ns[k]? =aa f:=by rfl)(hn:ns.Nodup:=by decide +kernel)(z:X.N[i]? =aa x:=by rfl)(C:wm X.env.scope x:=by first|exact eS rfl|exact ef (eS rfl)|exact ef (ef rfl))(E:(x==("__debug__" : Str))=false:=by decide)
  (b:(x==("__classdict__" : Str))=false:=by decide) (G:eZ (.Name x p) f X.env (eval (.Name x p) X.env)=eval (.Name x p) X.env:=by rfl):VE X (.Attribute (.Name x p) f pos) (xg i c ns k):=by
 refine⟨_,⟨m8 (wv i z C E b).h G⟩,λB F H U Y r Q s q m=>?_⟩;obtain⟨l,g,q⟩:=ze q;obtain⟨o,I,g⟩:=ze g;obtain⟨J,L,q⟩:=ze q;cases tH g;obtain⟨v,M,A,t,_,_⟩:=s.ent i _ (vn I);cases t with
 |ins j O Z hl P=>
  obtain⟨w,A1,R,a,_⟩:=P.focus L
  obtain⟨S,T⟩:=n.h _ j;refine⟨_,M,_,_,_,_,w,rfl,O,S,T f u,mU hn y R,?_⟩;cases J with
  |val d=>cases q;cases a with|val a=>exact m w F H (Ex.refl s.fh) a
  |lst ds=>cases q;cases a with|lst a h4=>exact m _ F H (Ex.refl s.fh) ⟨_,_,rfl,a,h4⟩
  |ins _ _ _=>cases q
  |dic _ _=>cases q
  |dcT _ _=>cases q
  |dcI _ _=>cases q
  |dcS _ _=>cases q
  |los _=>cases q
end
section
variable {K:ae}{B:Bd}{F H F1 H1 F' H' H0:Hp}{σ:Sg}{δ:En}{v w:V}{A A' A1 A1':List ah}{a dx C:ah}{i k:Nat}{o x' x1:OT}{c:Str}{ns ns':List Str}{vs vs':List V}{l l':List OT}
theorem RS.fld(s:RS K B F H σ δ)(x:Ex F H F1 H1)(hi:δ[i]? =aa (aa (.obj (.ins c ns l))))(J:σ[i]? =aa (aa (.ref a)))(g:vL K c C)(L:H a=aa (.ins C dx (ns.zip vs)))(p:H dx=aa (.own a))(M:ns.length=vs.length)(N:TRs K F H vs l A)(n:(a::dx::A).Nodup)
  (q:ns'.length=vs'.length) (r:TRs K F1 H1 vs' l' A') (O:A'.Nodup) (y:∀b∈A',b∈A\/(F1 b=ab/\H b=ab)) :
  RS K B F1 (zp H1 a (.ins C dx (ns'.zip vs'))) σ (δ.set i (aa (.obj (.ins c ns' l'))))/\FX B F F1:=by
 have t:TR K F H (.ref a) (.ins c ns l) (a::dx::A):=.ins g L p M N;obtain⟨U,P,Y,Q⟩:=s.at hi J;cases P.det t;have m:∀b∈a::dx::A,F1 b=ab:=λb d=>((t.ext x).2 b d).trans (Q b d).1;have f:a≠dx:=λe=>(aW.mp n).1 (by rw[e];exact aw);have E:a∉A:=λe=>(aW.mp n).1 (aq _ e);have G:dx∉A:=(aW.mp (aW.mp n).2).1;have j:a∉A':=λe=>(y a e).elim E λz=>by rw[L]at z;cases z.2
 have I:dx∉A':=λe=>(y dx e).elim G λz=>by rw[p]at z;cases z.2
 refine s.chg hi J t ⟨x.ff,λb u h=>?_,λb u h=>?_,λb u h R=>?_⟩ (.ins g yz (by rw[zX (iM f)];exact x.hh _ _ p) q (r.move (Same.refl _) λb d=>zX λe=>j (e ▸ d))) ?_ λb d=>?_
 ·rw[zX λe=>by subst e;rw[m b aw]at h;cases h];exact x.fh _ _ h
 ·obtain⟨S,T⟩:=ul h;rw[zX λe=>S (by rw[e];exact aw)];exact x.hh _ _ T
 ·exact x.nw _ _ (ul h).2 R
 ·refine aW.mpr ⟨λh=>?_,aW.mpr ⟨I,O⟩⟩;rcases aC.mp h with e|e
  ·exact f e
  ·exact j e
 ·rcases aC.mp d with e|d
  ·subst e;exact⟨m b aw,uX aw⟩
  ·rcases aC.mp d with e|d
   ·subst e;exact⟨m b (aq _ aw),uX (aq _ aw)⟩
   ·rcases y b d with z|z
    ·exact⟨m b (aq _ (aq _ z)),uX (aq _ (aq _ z))⟩
    ·refine⟨z.1,?_⟩;unfold wB;split
     ·rfl
     ·exact z.2
theorem RS.sub(s:RS K B F H σ δ)(hi:δ[i]? =aa (aa (.obj (.ins c ns l))))(S:σ[i]? =aa (aa (.ref a)))(x:vL K c C)(L:H a=aa (.ins C dx (ns.zip vs)))(M:H dx=aa (.own a))(T:ns.length=vs.length)(y:TRs K F H vs l A)
  (Y:l[k]? =aa x1) (Z:vs[k]? =aa w) (t1:TR K F H w x1 A1) (ch:Chg H F F' H' A1) (t':TR K F' H' w x' A1') (n':A1'.Nodup) (N:∀b∈A1',F' b=ab/\wB H A1 b=ab) :
  RS K B F' H' σ (δ.set i (aa (.obj (.ins c ns (l.set k x')))))/\FX B F F':=by
 have t:TR K F H (.ref a) (.ins c ns l) (a::dx::A):=.ins x L M T y;obtain⟨A0,t0,n,f0⟩:=s.at hi S;cases t0.det t;obtain⟨w',B1,U,tb,E,_,go⟩:=y.focus Y
 rw[Z]at U;cases U;cases tb.det t1;have G:a∉A:=λe=>(aW.mp n).1 (aq _ e);have I:a≠dx:=λe=>(aW.mp n).1 (by rw[e];exact aw);have J:dx∉A:=(aW.mp (aW.mp n).2).1;have nA:A.Nodup:=(aW.mp (aW.mp n).2).2;have d:∀b u,b∉A1->H b=aa u->H' b=aa u:=λb u g m=>ch.st _ _ (vE g m);have new:∀b∈A1',∀u,b∉A1->H b≠aa u:=λb g u f j=>by have:=(N b g).2;rw[vE f j]at this;cases this
 obtain⟨A2,m1,m2,O⟩:=go F' H' x' A1' nA ch.ff (λb g hn=>by
  obtain⟨u,m,_⟩:=y.lies b g;rw[d b u hn m,m]) t' n' λb g=>by
   by_cases f:b∈A1
   ·exact .inl f
   ·exact .inr λj=>by obtain⟨u,m,_⟩:=y.lies b j;exact new b g u f m
 have p:a∉A1:=λe=>G (E a e);have q:dx∉A1:=λe=>J (E dx e);have P:a∉A2:=λe=>(O a e).elim (λz=>G z.1) λz=>new a z _ p L;have Q:dx∉A2:=λe=>(O dx e).elim (λz=>J z.1) λz=>new dx z _ q M;refine s.chg hi S t ⟨ch.ff,ch.fh,λb u h=>?_,λb u h ht=>?_⟩ (.ins x (d _ _ p L) (d _ _ q M) T m1) ?_ λb g=>?_
 ·obtain⟨f,j⟩:=ul h;exact d b u (λe=>f (aq _ (aq _ (E b e)))) j
 ·obtain⟨f,j⟩:=ul h;exact ch.nw b u (vE (λe=>f (aq _ (aq _ (E b e)))) j) ht
 ·refine aW.mpr ⟨λh=>?_,aW.mpr ⟨Q,m2⟩⟩;rcases aC.mp h with e|e
  ·exact I e
  ·exact P e
 ·have r:∀b u,b∈a::dx::A->b∉A1->H b=aa u->vB u=false->F' b=ab/\wB H (a::dx::A) b=ab:=λb u f j h3 h4=>⟨(ch.nw b u (vE j h3) h4).trans (f0 b f).1,uX f⟩
  rcases aC.mp g with e|g
  ·subst e;exact r b _ aw p L rfl
  ·rcases aC.mp g with e|g
   ·subst e;exact r b _ (aq _ aw) q M rfl
   ·rcases O b g with z|z
    ·obtain⟨u,m,R⟩:=y.lies b z.1;exact r b u (aq _ (aq _ z.1)) z.2 m R
    ·refine⟨(N b z).1,?_⟩;by_cases f:b∈A1
     ·exact uX (aq _ (aq _ (E b f)))
     ·have:=(N b z).2;rw[jN f]at this;unfold wB;split
      ·rfl
      ·exact this
end
noncomputable def vT(i:Nat)(c:Str)(ns:List Str)(k:Nat)(fe:FE):FS:=λa=>((fe a).bind toO).bind λy=>((y3 i a).bind (vl c ns)).bind λl=>if k<l.length then aa (.nx (a.set i (aa (.obj (.ins c ns (l.set k y))))))else ab
noncomputable def wV(i:Nat)(c:Str)(ns:List Str)(f:Str)(fe:FE):FS:=λa=>((fe a).bind toO).bind λy=>((y3 i a).bind (vl c ns)).bind λl=>aa (.nx (a.set i (aa (.obj (.ins c (ns++[f]) (l++[y]))))))
def mR:OT->Option (List D)
 |.lst a=>aa a
 | _=>ab
noncomputable def qK(i:Nat)(c:Str)(ns:List Str)(k:Nat)(fe:FE):FS:=λa=>((y3 i a).bind (vl c ns)).bind λl=>((l[k]?).bind mR).bind λb=>((fe a).bind zL).bind λd=>yY (sz (b.length+1)) (aa (.nx (a.set i (aa (.obj (.ins c ns (l.set k (.lst (b++[d])))))))))
section
variable {X:Cx}{e:Expr}{pos pos' p:Pos}{fe:FE}{x f c:Str}{i k:Nat}{ns nsF:List Str}
theorem Me(i k:Nat)(T:ClsF X.K c nsF)(U:VE X e fe)(Y:f∈nsF:=by decide +kernel)(Z:ns[k]? =aa f:=by rfl)(hn:ns.Nodup:=by decide +kernel)(O:ns.length<1000:=by decide)(hN:X.N[i]? =aa x:=by rfl)(hv:wm X.env.scope x:=by first|exact eS rfl|exact ef (eS rfl)|exact ef (ef rfl))(hd:(x==("__debug__" : Str))=false:=by decide)
  (G:(x==("__classdict__" : Str))=false:=by decide) (hs:swapsWith e (aa (.Attribute (.Name x p) f pos')) pos.line X.env=pure false:=by rfl):VS X (.Assign [.Attribute (.Name x p) f pos'] e pos) (vT i c ns k fe):=by
 obtain⟨t,w,m⟩:=U.h;refine⟨_,⟨Z4 (wv i hN hv hd G).h w.h hs⟩,λB F H P δ out DD s q kk=>?_⟩;obtain⟨y,I,q⟩:=ze q;obtain⟨r,I,q2⟩:=ze I;obtain⟨l,j,q⟩:=ze q;obtain⟨o,j,q4⟩:=ze j;split at q
 ·rename_i J;cases q;cases tH q4;refine m B F H P δ r _ s I λyv F1 H1 C z=>?_;obtain⟨v,Q,A,t,n,h⟩:=s.ent i _ (vn j);cases t with
  |ins a R e2 L E=>
   obtain⟨g1,g2⟩:=T.h _ a;obtain⟨A1,ty,n1,S⟩:=z.toO q2;have nA:=(aW.mp (aW.mp n).2).2;obtain⟨A',m1,m2,m3⟩:=TRs.put ty (E.move C.ff λb d=>let⟨u,g,_⟩:=E.lies b d;(C.hh _ _ g).trans g.symm) J nA n1 λb d M=>by
    obtain⟨u,g,_⟩:=E.lies b M;rw[(S b d).2]at g;cases g
   obtain⟨r1,r2⟩:=s.fld (ns':=ns) C (vn j) Q a R e2 L E n (by rw[D0];exact L) m1 m2 λb d=>(m3 b d).imp id λz=>S b z;refine⟨_,Q,_,_,_,_,rfl,C.hh _ _ R,g1,g2 f Y,?_,?_⟩
   ·rw[Bt];lia
   ·rw[Z6 hn Z L];exact kk P F1 _ r1 r2
 ·cases q
theorem Md(i:Nat)(S:ClsF X.K c nsF)(T:VE X e fe)(U:f∈nsF:=by decide +kernel)(hn:f∉ns:=by decide +kernel)(M:ns.length<1000:=by decide)(Y:X.N[i]? =aa x:=by rfl)(Z:wm X.env.scope x:=by first|exact eS rfl|exact ef (eS rfl)|exact ef (ef rfl))(hd:(x==("__debug__" : Str))=false:=by decide)
  (G:(x==("__classdict__" : Str))=false:=by decide) (hs:swapsWith e (aa (.Attribute (.Name x p) f pos')) pos.line X.env=pure false:=by rfl):VS X (.Assign [.Attribute (.Name x p) f pos'] e pos) (wV i c ns f fe):=by
 obtain⟨t,w,m⟩:=T.h;refine⟨_,⟨Z4 (wv i Y Z hd G).h w.h hs⟩,λB F H O δ out DD s q kk=>?_⟩;obtain⟨y,I,q⟩:=ze q;obtain⟨r,I,q2⟩:=ze I;obtain⟨l,j,q⟩:=ze q;obtain⟨o,j,q4⟩:=ze j;cases q;cases tH q4;refine m B F H O δ r _ s I λyv F1 H1 C z=>?_;obtain⟨v,P,A,t,n,h⟩:=s.ent i _ (vn j);cases t with
 |ins a Q e2 J E=>
  obtain⟨g1,g2⟩:=S.h _ a;obtain⟨A1,ty,n1,R⟩:=z.toO q2;have nA:=(aW.mp (aW.mp n).2).2;obtain⟨A',m1,m2⟩:=TRs.add ty (E.move C.ff λb d=>let⟨u,g,_⟩:=E.lies b d;(C.hh _ _ g).trans g.symm);subst m2;obtain⟨r1,r2⟩:=s.fld (ns':=ns++[f]) C (vn j) P a Q e2 J E n (by simp[J]) m1 (e8.mpr ⟨nA,n1,λb d b' L e=>by
   subst e;obtain⟨u,g,_⟩:=E.lies b d;rw[(R b L).2]at g;cases g⟩) λb d=>(ed.mp d).imp id λz=>R b z
  refine⟨_,P,_,_,_,_,rfl,C.hh _ _ Q,g1,g2 f U,?_,?_⟩
  ·rw[Bt];lia
  ·rw[Nl hn J];exact kk O F1 _ r1 r2
theorem Mc(i k:Nat){g j:Pos}(hc:ClsF X.K c nsF)(he:VE X e fe)(hf:f∈nsF:=by decide +kernel)(hk:ns[k]? =aa f:=by rfl)(hn:ns.Nodup:=by decide +kernel)(hN:X.N[i]? =aa x:=by rfl)(hv:wm X.env.scope x:=by first|exact eS rfl|exact ef (eS rfl)|exact ef (ef rfl))(hd:(x==("__debug__" : Str))=false:=by decide)
  (Q:(x==("__classdict__" : Str))=false:=by decide) (a:eZ (.Name x p) f X.env (eval (.Name x p) X.env)=eval (.Name x p) X.env:=by rfl)
  (E:eZ (.Attribute (.Name x p) f pos') "append" X.env (eval (.Attribute (.Name x p) f pos') X.env)=eval (.Attribute (.Name x p) f pos') X.env:=by rfl) (G:(g.endLine==j.line)=true:=by rfl) (h1:zK e=true:=by rfl)
  (hs:swapsWith (.Call (.Attribute (.Attribute (.Name x p) f pos') "append" g) [e] [] j) ab pos.line X.env=pure false:=by rfl) :
  VS X (.Expr (.Call (.Attribute (.Attribute (.Name x p) f pos') "append" g) [e] [] j) pos) (qK i c ns k fe):=by
 obtain⟨t,w,m⟩:=he.h;refine⟨_,lh (pP AV Ck Co mW ⟨m8 (wv i hN hv hd Q).h a⟩ (vZ w uJ h1) E rfl G h1 rfl) hs,λB F H Z δ out DD s q kk=>?_⟩;obtain⟨l,M,q⟩:=ze q;obtain⟨o,M,q4⟩:=ze M;obtain⟨ds,O,q⟩:=ze q;obtain⟨R,O,C⟩:=ze O;obtain⟨d,S,q⟩:=ze q;obtain⟨r,S,q2⟩:=ze S;obtain⟨J,qz⟩:=xS q;cases qz;cases tH q4;obtain⟨v,h1,A,t,n,h⟩:=s.ent i _ (vn M);cases t with
 |ins L e1 e2 hl ts=>
  obtain⟨g1,g2⟩:=hc.h _ L;obtain⟨w,A1,h2,h3,h4,_⟩:=ts.focus O
  refine⟨_,h1,_,_,_,_,w,rfl,e1,g1,g2 f hf,mU hn hk h2,?_⟩;cases R with
  |val _=>cases C
  |ins _ _ _=>cases C
  |dic _ _=>cases C
  |dcT _ _=>cases C
  |dcI _ _=>cases C
  |dcS _ _=>cases C
  |los _=>cases C
  |lst _=>
   cases C;cases h3 with
   |@lst I vs _ P T=>
    refine⟨.inl ⟨rfl,_,SqL.of P⟩,?_⟩;refine m B F H Z δ r _ s S λy F1 H1 R z=>?_;obtain⟨F2,x2,sm,r2⟩:=RepR.frz R (Same.refl _) z q2;refine⟨I,vs,y,rfl,rfl,x2.hh _ _ P,?_,?_⟩
    ·rw[T.length,ih];unfold sz at J;lia
    ·have fl:F2 I=ab:=(x2.nw _ _ P rfl).trans (h I (aq _ (aq _ (h4 I (by simp))))).1;obtain⟨U,Y⟩:=s.sub (A1:=[I]) (H':=zp H1 I (.lst (vs++[y]))) (x':=.lst (ds++[d])) (vn M) h1 L e1 e2 hl ts O h2 (.lst P T) ⟨x2.ff,λb u a=>by
       rw[zX λe=>by subst e;rw[fl]at a;cases a];exact x2.fh _ _ a,λb u a=>by
       obtain⟨U,Y⟩:=ul a;rw[zX λe=>U (by simp[e])];exact x2.hh _ _ Y,λb u a ht=>x2.nw _ _ (ul a).2 ht⟩
      (.lst yz ((T.mono x2.ff).append (.one r2))) (by simp) λb a=>by
       simp at a;subst a;exact⟨fl,uX (by simp)⟩
     exact kk Z F2 _ U Y
end
end L3

namespace L3
open PySem PySem.Spec PyProof.Rows L2
abbrev ve:=En->Option (D×En)
abbrev u6:=En->Option (Bool×En)
abbrev u5:=En->Option (List D×En)
abbrev GM:=OT->List D->Option (D×OT)
def SemX(K:ae)(t:TE)(f:ve):Prop:=∀(B:Bd) (F H:Hp) (b:Sg) (e:En) (d:D) (a:En) (Q:VK),RS K B F H b e->f e=aa (d,a)->(∀v c g,RS K B c g b a->FX B F c->Rep c v d->Q v g)->t b H Q
def X9(K:ae)(t:TT)(f:u6):Prop:=∀(B:Bd) (F H:Hp) (c:Sg) (d:En) (b:Bool) (a:En) (Q:Bool->Hp->Prop),RS K B F H c d->f d=aa (b,a)->(∀e g,RS K B e g c a->FX B F e->Q b g)->t c H Q
def X8(K:ae)(t:TA)(f:u5):Prop:=∀(B:Bd) (F H:Hp) (b:Sg) (d:En) (e:List D) (a:En) (Q:List V->Hp->Prop),RS K B F H b d->f d=aa (e,a)->(∀g c h,RS K B c h b a->FX B F c->Reps c g e->Q g h)->t b H Q
structure VX(X:Cx)(e:Expr)(f:ve):Prop where
 h:∃t,WE X e t/\SemX X.K t f
structure VXT(X:Cx)(e:Expr)(f:u6):Prop where
 h:∃t,WT X e t/\X9 X.K t f
structure VXA(X:Cx)(es:List Expr)(f:u5):Prop where
 h:∃t,WA X es t/\X8 X.K t f
def xP(fe:FE):ve:=λa=>((fe a).bind zL).map λd=>(d,a)
def gB:u5:=λa=>aa ([],a)
noncomputable def lB(fe:ve)(a:u5):u5:=λb=>(fe b).bind λp=>(a p.2).map λq=>(p.1::q.1,q.2)
def xC(ks:List Kd)(g:List D->Option Ent)(a:u5):ve:=λb=>(a b).bind λp=>(((yq ks (p.1.map .val)).bind g).bind zL).map λd=>(d,p.2)
def x2(g:Ent->Ent->Option Ent)(a fb:ve):ve:=λb=>(a b).bind λp=>(fb p.2).bind λq=>((g (.val p.1) (.val q.1)).bind zL).map λd=>(d,q.2)
noncomputable def kz:D->Option Bool
 |.bl b=>aa b
 | _=>ab
def xT(fe:ve):u6:=λa=>(fe a).bind λp=>(kz p.1).map λb=>(b,p.2)
noncomputable def xN(ft:u6):u6:=λa=>(ft a).map λp=>(!p.1,p.2)
section
variable {X:Cx}{a b c e:Expr}{es rest:List Expr}{pos p:Pos}{fa fb:ve}{fs:u5}{ft:u6}{fe:FE}{x:Str}
theorem Wn{b:Bool}(h:kz d=aa b):d=.bl b:=by cases d <;> first|(cases h;rfl)|cases h
theorem J2(g:VE X e fe):VX X e (xP fe):=by
 obtain⟨t,w,m⟩:=g.h;refine⟨t,w,λB F H i j d l Q s q k=>?_⟩;obtain⟨C,f,q⟩:=zJ q;cases q;obtain⟨r,f,n⟩:=ze f;refine m B F H i j r _ s f λv E o u z=>?_;obtain⟨y,x2,_,A⟩:=RepR.frz u (Same.refl _) z n;exact k v y o (s.ext x2) (.of x2 s.bh) A
theorem J0:VXA X [] gB:=⟨_,uJ,λB F H f g h d Q s q k=>by cases q;exact k [] F H s .refl .nil⟩
theorem JV(j:VX X e fa)(l:VXA X es fs)(h:zK e=true:=by rfl):VXA X (e::es) (lB fa fs):=by
 obtain⟨K,m,n⟩:=j.h;obtain⟨L,wb,o⟩:=l.h;refine⟨_,vZ m wb h,λB F H f r M t Q s q k=>?_⟩;obtain⟨d,u,q⟩:=ze q;obtain⟨g,w,q⟩:=zJ q;cases q;refine n B F H f r d.1 d.2 _ s u λv y z s1 A C=>?_;exact o B y z f d.2 g.1 g.2 _ s1 w λN E G I i J=>k _ E G I (A.trans i) (.cons (Rep.mono i.ff C) J)
theorem Yh{K:ae}{H0 F H:Hp}:∀{vs:List V} {ds:List D},Reps F vs ds->RepRs K H0 F H vs (ds.map .val)
 | _,_,.nil=>.nil
 | _,_,.cons h t=>.cons h (Yh t)
theorem JT{CX:wL}{k j:Nat}{f:ah}{o:eR}{ps:List Str}{st:Stmt}{E:XK}{ks:List Kd}{g:List D->Option Ent}(F:FnOk X.prog X.w X.K X.mg X.base CX k f o ps (u0 X.K ks g))(D:Def X.K X.mg x st ps f o)(z:Room j X.A)(C:Gl X x)(G:wD CX X E)
  (I:VXA X (e::es) fs) (l:k<=j:=by decide) (n:(x==("__debug__" : Str))=false:=by decide) (h1:zK e=true:=by rfl) (J:es.all zK=true:=by rfl) :
  VX X (.Call (.Name x p) (e::es) [] pos) (xC ks g fs):=by
 obtain⟨t,w,m⟩:=I.h;refine⟨_,XC F D z C G w l n h1 J,λB F H L M d N Q s q k=>?_⟩;obtain⟨u,O,q⟩:=ze q;obtain⟨d',i,q⟩:=zJ q;cases q;obtain⟨r,i,P⟩:=ze i;obtain⟨R,i,S⟩:=ze i;refine m B F H L M u.1 u.2 _ s O λvs F1 H1 s1 T U=>?_;obtain⟨Y,x2,_,Z⟩:=RepRs.args (K:=X.K) (Ex.refl s1.fh) (Same.refl _) (Yh U) i;rw[ek];refine⟨Y,R,r,x2.fh,Z,S,λv F' H' x3 r3=>?_⟩;obtain⟨F4,y,_,r4⟩:=RepR.frz x3 (Same.refl _) r3 P;exact k v F4 H' ((s1.ext x2).ext y) (T.trans ((FX.of x2 s1.bh).trans (.of y (s1.ext x2).bh))) r4
theorem SemX.op{K:ae}{r:R2}{m n:TE}{g:Ent->Ent->Option Ent}(z:sT K r g)(A:SemX K m fa)(C:SemX K n fb):SemX K (uq r m n) (x2 g fa fb):=λB F H o E d G Q s q k=>by
 obtain⟨f,I,q⟩:=ze q;obtain⟨h,J,q⟩:=ze q;obtain⟨d',i,q⟩:=zJ q;cases q;obtain⟨j,i,L⟩:=ze i;refine A B F H o E f.1 f.2 _ s I λv M N s1 O P=>?_;refine C B M N o f.2 h.1 h.2 _ s1 J λw R t l u S=>?_;refine z t R t v w (.val f.1) (.val h.1) j Q l.fh (Same.refl _) (Rep.mono u.ff P) S i λT F' U Y Z=>?_;obtain⟨F4,y,_,r4⟩:=RepR.frz Y (Same.refl _) Z L;exact k T F4 U (l.ext y) ((O.trans u).trans (.of y l.bh)) r4
theorem J1{g:Ent->Ent->Option Ent}(d:y6 X (binaryOp op) g)(f:VX X a fa)(i:VX X b fb):VX X (.BinOp a op b pos) (x2 g fa fb):=
 let⟨_,wa,sa⟩:=f.h;let⟨_,wb,sb⟩:=i.h;let⟨_,h1,h2⟩:=d;⟨_,XH h1 wa wb,.op h2 sa sb⟩
theorem Kf(h:VX X e fa)(g:∀d,isTrue e X.env d=(do let v <- d;standAt e.pos;holding [v] (truthy v)):=by intro _;rfl):VXT X e (xT fa):=by
 obtain⟨t,w,m⟩:=h.h;refine⟨_,Xo w g,λB F H i j b l Q s q k=>?_⟩;obtain⟨f,n,q⟩:=ze q;obtain⟨A,o,q⟩:=zJ q;cases q;exact m B F H i j f.1 f.2 _ s n λv r u s1 y z=>⟨_,tM (Wn o ▸ z),k r u s1 y⟩
theorem Ke(f:VXT X a ft):VXT X (.UnaryOp .Not a pos) (xN ft):=by
 obtain⟨t,w,m⟩:=f.h;refine⟨_,Xe w,λB F H g i b j Q s q k=>?_⟩;obtain⟨d,l,q⟩:=zJ q;cases q;exact m B F H g i d.1 d.2 _ s l λn o s1 r=>k n o s1 r
end
noncomputable def fX(a:ve):FS:=λb=>(a b).map λp=>.nx p.2
noncomputable def sd(a:ve):FS:=λb=>(a b).map λp=>.rt (.val p.1) p.2
noncomputable def kR(ft:u6)(f g:FS):FS:=λa=>(ft a).bind λp=>if p.1=true then f p.2 else g p.2
noncomputable def tq(i:Nat)(fe:FE):FS:=λa=>(fe a).bind λr=>match r with
 |.obj o=>aa (.nx (a.set i (aa (.obj o))))
 | _=>ab
section
variable {X:Cx}{e c:Expr}{pos pos' p:Pos}{fx:ve}{ft:u6}{fe:FE}{x:Str}{body els:List Stmt}{f g:FS}
theorem sX(h:VX X e fx)(d:swapsWith e ab pos.line X.env=pure false:=by rfl):VS X (.Expr e pos) (fX fx):=by
 obtain⟨t,w,m⟩:=h.h;refine⟨_,lh w d,λB F H a i j u s q k=>?_⟩;obtain⟨b,l,q⟩:=zJ q;cases q;exact m B F H a i b.1 b.2 _ s l λv n o s1 r _=>k a n o s1 r
theorem Mx(h:VX X e fx):VS X (.Return (aa e) pos) (sd fx):=by
 obtain⟨t,w,m⟩:=h.h;refine⟨_,hV w,λB F H a d i u s q k=>?_⟩;obtain⟨b,j,q⟩:=zJ q;cases q;exact m B F H a d b.1 b.2 _ s j λv l n s1 o r=>k v a l n s1 o r
theorem Mw(r:VXT X c ft)(u:VSs X body f)(v:VSs X els g):VS X (.If c body els pos) (kR ft f g):=by
 obtain⟨t,w,m⟩:=r.h;obtain⟨J,z,A⟩:=u.h;obtain⟨K,C,E⟩:=v.h;refine⟨_,Ys w z C,λB F H d G b i s q k=>?_⟩;obtain⟨⟨j,a⟩,I,q⟩:=ze q;refine m B F H d G j a _ s I λl n o y=>?_;cases j with
 |true=>exact uB (A B l n d a b i o q (k.mono y))
 |false=>exact uA (E B l n d a b i o q (k.mono y))
theorem Mu{i:Nat}(a:0<i)(b:X.N.Nodup)(hi:X.N[i]? =aa x)(d:vp X.env.scope x)(j:VE X e fe)(l:swapsWith e (aa (.Name x pos')) pos.line X.env=pure false:=by rfl)(n:X.fn x=true\/X.env.scope.names.lookup x=aa .local:=by first|exact .inl rfl|exact .inr rfl|assumption) :
  VS X (.Assign [.Name x pos'] e pos) (tq i fe):=by
 obtain⟨t,w,m⟩:=j.h;refine⟨_,YA b hi d w l n,λB F H u y A I s q k=>?_⟩;obtain⟨r,C,q⟩:=ze q;cases r with
 |obj o=>cases q;exact m B F H u y _ _ s C λv E G x z=>k _ E G (s.putO x i a z) (.of x s.bh)
 | _=>cases q
end
inductive SpM(K:ae)(g:GM)(vs:List V)(H:Hp)(Q:VK):Prop
 |mk (v:V) (ws:List V) (F:Hp) (o:OT) (A:List ah) (ds:List D) (d:D) (o':OT):vs=v::ws->Same F H->TR K F H v o A->A.Nodup->(∀a∈A,F a=ab)->Reps F ws ds->g o ds=aa (d,o') ->
 (∀x F' H' A',Chg H F F' H' A->TR K F' H' v o' A'->A'.Nodup->(∀a∈A',F' a=ab/\wB H A a=ab)->Rep F' x d->Q x H')->SpM K g vs H Q
def wj(K:ae)(g:GM):Sp:=λa H Q _=>SpM K g a H Q
def vR:Out->Option (D×OT)
 |.rt (.val d) a=>(y3 0 a).map λo=>(d,o)
 |.nx a=>(y3 0 a).map λo=>(.non,o)
 | _=>ab
def xy(n m:Nat)(f:FS)(o:OT)(ds:List D):Option (D×OT):=if ds.length=n then (f (aa (.obj o)::(ds.map λd=>aa (.val d))++aB m ab)).bind vR else ab
section
variable {P:aN}{w:aR}{K:ae}{mg:Str->Option af}{base:aX}{x qual:Str}{st:Stmt}{f:ah}{fd:eR}{N ps:List Str}{k n:Nat}{g:GM}
theorem cK(F:FunA K x qual st f fd)(S:FnScope N ps (xz st))(fb:FS)(hk:ps.length=n+1)(hg:∀o G r,g o G=aa r->xy n (N.length-ps.length) fb o G=aa r)
  (O:∀(I:af) (A:a4) (B:List Env) (s:ag) (H:Hp) (E:XK),Room k (A.deeper (envOfC qual (xz st) s.heap.objs.size f I))->VSs (ti xJ P w K mg base N qual (xz st) f I A B s H E).nox (wU st) fb) :
  FnOk P w K mg base xJ (k+1) f fd ps (wj K g):=by
 obtain⟨oc,od,dV,kV,doc,pm,an,I,ct,osl,rfl,lk,hcd⟩:=F.ex;refine cJ lk hcd S (λvs H Q E h=>?_) λA B s H vs Q E hr h=>?_
 ·obtain⟨v,T,F,o,A,G,d,o',rfl,_,_,_,_,rs,q,_⟩:=h;have:=hg _ _ _ q;unfold xy at this;split at this
  ·rename_i hl;rw[aI,rs.length,hl,hk]
  ·cases this
 ·obtain⟨v,T,F,o,A,G,d,o',rfl,fh,t,nd,fA,rs,q,kk⟩:=h;obtain⟨tt,wt,m⟩:=(O I _ B s H E hr).h;refine⟨tt,wt.h.nox,?_⟩;have U:=hg _ _ _ q;unfold xy at U;split at U
  ·rename_i hl;obtain⟨Y,q3,R⟩:=ze U;have hws:=rs.length;have J:∀(i:Nat) (e:Ent),(aa (Ent.obj o)::(G.map λd=>aa (Ent.val d))++aB (N.length-ps.length) ab)[i]? =aa (aa e)->(i=0/\e=.obj o)\/∃j d,i=j+1/\G[j]? =aa d/\e=.val d:=λi e h=>by
    cases i with
    |zero=>simp at h;exact .inl ⟨rfl,h.symm⟩
    |succ j=>
     rw[Av,AS]at h;by_cases hj:j<(G.map λd=>aa (Ent.val d)).length
     ·rw[ia hj,av]at h;cases z:G[j]? with
      |none=>rw[z]at h;cases h
      |some d=>rw[z]at h;cases h;exact .inr ⟨j,d,rfl,z,rfl⟩
     ·rw[iP (by lia),Ab]at h;split at h <;> cases h
   have sv:∀(i:Nat) (y:V),(v::T)[i]? =aa y->(L2.start N (v::T))[i]? =aa (aa y):=λi y h=>by
    unfold L2.start;rw[ia (by rw[ar];exact(aQ.mp h).1),av,h];rfl
   have s0:RS K ⟨wB H A,aa v⟩ F H (L2.start N (v::T)) (aa (.obj o)::(G.map λd=>aa (.val d))++aB (N.length-ps.length) ab):=by
    refine⟨fh,λa u h=>(ul h).2,?_,λi e h=>?_,λa b l es e Z h1=>?_,λa b e1 e2 v1 v2 ad Z q1 U q3 R q5 q6 q7=>?_,λw p hw _=>?_⟩
    ·unfold L2.start;simp only[aJ,ar,oh,aI];lia
    ·rcases J i e h with ⟨rfl,rfl⟩|⟨j,d,rfl,hd,rfl⟩
     ·exact⟨v,sv 0 v rfl,A,t,nd,λa ha=>⟨fA a ha,uX ha⟩⟩
     ·obtain⟨y,hy,ry⟩:=rs.get hd;exact⟨y,sv (j+1) y (by simpa using hy),ry⟩
    ·rcases J a _ h1 with ⟨_,z⟩|⟨j,d,_,_,z⟩ <;> cases z
    ·rcases J a _ q1 with ⟨rfl,rfl⟩|⟨j,d,_,_,rfl⟩
     ·rcases J b _ q3 with ⟨rfl,_⟩|⟨j,d,_,_,rfl⟩
      ·exact Z rfl
      ·exact q7
     ·cases q5
    ·cases hw;exact sv 0 v rfl
   have z9:∀(c:En) (C:Sg) (L H':Hp) (y:V),RS K ⟨wB H A,aa v⟩ L H' C c->FX (wB H A) F L->y3 0 c=aa o'->Rep L y d->Q y H':=λc C L H' y M y' ho ry=>by
    have h0:=M.pn v o' rfl (vn ho);obtain⟨A',t',n',f'⟩:=M.at (vn ho) h0;exact kk y L H' A' ⟨y'.ff,M.fh,M.bh,y'.nw⟩ t' n' f' ry
   refine m ⟨wB H A,aa v⟩ F H (L2.start N (v::T)) _ Y _ s0 q3 ?_;cases Y with
   |nx c=>
    obtain⟨o2,h1,h2⟩:=zJ R;cases h2;exact λC L H' M y=>z9 c C L H' .non M y h1 .non
   |rt r' c=>
    cases r' with
    |val d'=>
     obtain⟨o2,h1,h2⟩:=zJ R;cases h2;exact λy C L H' M yy z=>z9 c C L H' y M yy h1 z
    | _=>cases R
   |bk c=>cases R
   |ct c=>cases R
  ·cases U
end
structure MethD(K:ae)(c:Str)(m:Str)(st:Stmt)(qual:Str)(ps:List Str)(f:ah)(fd:eR):Prop where
 fn:FunA K m qual st f fd
 at_:∀C,vL K c C->Meth K C m f
 b:Binds K fd ps []
noncomputable def xM(i:Nat)(c:Str)(ns:List Str)(g:GM)(b:FA):ve:=λa=>(y3 i a).bind λo=>(vl c ns o).bind λ_=>((b a).bind yn).bind λd=>(g o d).map λp=>(p.1,a.set i (aa (.obj p.2)))
noncomputable def vd(i:Nat)(c:Str)(ns:List Str)(k:Nat)(d:Str)(a:List Str)(g:GM)(e:FA):ve:=λb=>((y3 i b).bind (vl c ns)).bind λl=>(l[k]?).bind λo=>(vl d a o).bind λ_=>((e b).bind yn).bind λf=>(g o f).map λp=>(p.1,b.set i (aa (.obj (.ins c ns (l.set k p.2)))))
section
variable {X:Cx}{e:Expr}{es:List Expr}{pos pos' p apos:Pos}{fa:FA}{x f m c c2 qual:Str}{ns nsF ns2 nsF2 ps:List Str}{g:GM}{fd:eR}{fm:ah}{st:Stmt}{kk j:Nat}{pl:Sem Bool}
theorem SemM.at{K:ae}{C:ah}{t:TA}{E:XK}{i:Nat}(L:tU K t fa)(h:vL K c C)(M:m∉ns):SemX K (ll C m (wj K g) [] E (ln i) t) (xM i c ns g fa):=λB F H N O d P Q s q k=>by
 obtain⟨o,u,q⟩:=ze q;obtain⟨l,R,q⟩:=ze q;obtain⟨S,n,q⟩:=ze q;obtain⟨T,n,U⟩:=ze n;obtain⟨w,Y,q⟩:=zJ q;cases q;cases tH R;obtain⟨v,z,A,Z,n0,f0⟩:=s.ent i _ (vn u);cases Z with
 |ins b G e2 hl ts=>
  cases sZ h b;refine⟨_,z,_,_,_,rfl,G,mT M,?_⟩;refine L B F H N O T _ s n λvs F1 H1 x1 r1=>?_;obtain⟨F2,x2,_,r2⟩:=RepRs.frz x1 (Same.refl _) r1 U;have I:=s.ext x2;have r:=((TR.ins b G e2 hl ts).ext x2)
  rw[ek];refine⟨_,vs,F2,_,_,S,w.1,w.2,rfl,I.fh,r.1,n0,λa J=>(r.2 a J).trans (f0 a J).1,r2,Y,λy F' H' A' ch t' n' f' ry=>?_⟩;obtain⟨z1,z2⟩:=I.chg (vn u) z r.1 ch t' n' f';exact k y F' H' z1 ((FX.of x2 s.bh).trans z2) ry
theorem SemM.sub{K:ae}{N:ah}{t:TA}{E:XK}{i k:Nat}(sm:tU K t fa)(hc:ClsF K c nsF)(r:vL K c2 N)(hm:m∉ns2)(hf:f∈nsF)(hk:ns[k]? =aa f)(hn:ns.Nodup):SemX K (ll N m (wj K g) [] E (YM K (ln i) f) t) (vd i c ns k c2 ns2 g fa):=λB F H σ δ d δ' Q s q kk=>by
 obtain⟨l,C,q⟩:=ze q;obtain⟨o,C,q1⟩:=ze C;obtain⟨o1,O,q⟩:=ze q;obtain⟨l2,q6,q⟩:=ze q;obtain⟨ds,G,q⟩:=ze q;obtain⟨rs,G,q3⟩:=ze G;obtain⟨P,q4,q⟩:=zJ q;cases q;cases tH q1;cases tH q6;obtain⟨v,R,A,t0,n0,f0⟩:=s.ent i _ (vn C);cases t0 with
 |ins z S e2 hl I=>
  obtain⟨g1,g2⟩:=hc.h _ z;obtain⟨w,A1,T,h3,h4,J,_⟩:=I.focus O
  have nA:=(aW.mp (aW.mp n0).2).2;refine⟨_,R,_,_,_,_,w,rfl,S,g1,g2 f hf,mU hn hk T,?_⟩;cases h3 with
  |ins n U d2 dl us=>
   cases sZ r n;refine⟨_,_,_,rfl,U,mT hm,?_⟩;refine sm B F H σ δ rs _ s G λvs F1 H1 x1 r1=>?_;obtain⟨F2,x2,_,r2⟩:=RepRs.frz x1 (Same.refl _) r1 q3;have Y:=s.ext x2;have L:=((TR.ins n U d2 dl us).ext x2)
   have M:=I.move (H':=H1) x2.ff λb hb=>let⟨u,hu,_⟩:=I.lies b hb;(x2.hh _ _ hu).trans hu.symm;rw[ek];refine⟨_,vs,F2,_,_,ds,P.1,P.2,rfl,Y.fh,L.1,J nA,λa Z=>(L.2 a Z).trans (f0 a (aq _ (aq _ (h4 a Z)))).1,r2,q4,λy F' H' A' ch t' n' f' ry=>?_⟩;obtain⟨z1,z2⟩:=Y.sub (vn C) R z (x2.hh _ _ S) (x2.hh _ _ e2) hl M O T L.1 ch t' n' f';exact kk y F' H' z1 ((FX.of x2 s.bh).trans z2) ry
theorem Yn{K:ae}:tU K pO zd:=λB F H a b d Q s q k=>by cases q;exact k [] F H (Ex.refl s.fh) .nil
variable {CX:wL}{E:XK}
structure ClsD(K:ae)(mg:Str->Option af)(c:Str)(nsF:List Str)(C:ah):Prop where
 at_:vL K c C
 mg:mg c=aa (.ref C)
 cl:Cls K C
 no:∀f∈nsF,NoAttr K C f
theorem ClsD.toF{K:ae}{a:Str->Option af}{C:ah}(D:ClsD K a c nsF C):ClsF K c nsF:=⟨λb h=>by cases sZ D.at_ h;exact⟨D.cl,D.no⟩⟩
theorem JW(i:Nat)(a:ClsD X.K X.mg c nsF C)(D:MethD X.K c m st qual ps fm fd)(F:FnOk X.prog X.w X.K X.mg X.base CX kk fm fd ps (wj X.K g))(n:Room j X.A)(o:wD CX X E)(q:VA X (e::es) fa)(r:m∉ns:=by decide +kernel)(d:kk<=j:=by decide)
 (s:X.N[i]? =aa x:=by rfl) (t:wm X.env.scope x:=by first|exact eS rfl|exact ef (eS rfl)|exact ef (ef rfl)) (u:(x==("__debug__" : Str))=false:=by decide) (k:(x==("__classdict__" : Str))=false:=by decide)
 (h1:zK e=true:=by rfl) (v:es.all zK=true:=by rfl)
 (y:eval (.Call (.Attribute (.Name x p) m apos) (e::es) [] pos) X.env=(do
 let l <- eval (.Name x p) X.env
 standAt apos.atName
 let (f,first) <- holding [l] (getMethod l m pl)
 callWith pos f first (backTo pos (aZ (e::es) X.env)) (backToKw pos (keywordEach [] X.env))):=by rfl) :
 VX X (.Call (.Attribute (.Name x p) m apos) (e::es) [] pos) (xM i c ns g fa):=
  let⟨_,w,sm⟩:=q.h;⟨_,⟨jT (wv i s t u k).h a.cl (D.at_ _ a.at_) F (n.mono d) D.b .nil o w.h (xc h1) (vY v) y⟩,SemM.at sm a.at_ r⟩
theorem JX(i:Nat)(a:ClsD X.K X.mg c nsF C)(D:MethD X.K c m st qual ps fm fd)(F:FnOk X.prog X.w X.K X.mg X.base CX kk fm fd ps (wj X.K g))(n:Room j X.A)(o:wD CX X E)(q:m∉ns:=by decide +kernel)(d:kk<=j:=by decide)
 (r:X.N[i]? =aa x:=by rfl) (s:wm X.env.scope x:=by first|exact eS rfl|exact ef (eS rfl)|exact ef (ef rfl)) (t:(x==("__debug__" : Str))=false:=by decide) (k:(x==("__classdict__" : Str))=false:=by decide)
 (u:eval (.Call (.Attribute (.Name x p) m apos) [] [] pos) X.env=(do
 let l <- eval (.Name x p) X.env
 standAt apos.atName
 let (f,first) <- holding [l] (getMethod l m pl)
 callWith pos f first (backTo pos (aZ [] X.env)) (backToKw pos (keywordEach [] X.env))):=by rfl) :
 VX X (.Call (.Attribute (.Name x p) m apos) [] [] pos) (xM i c ns g zd):=
  ⟨_,⟨ZV (wv i r s t k).h a.cl (D.at_ _ a.at_) F (n.mono d) D.b .nil o u⟩,SemM.at Yn a.at_ q⟩
theorem JY(i k:Nat)(o:ClsD X.K X.mg c nsF C)(a:ClsD X.K X.mg c2 nsF2 C2)(D:MethD X.K c2 m st qual ps fm fd)(F:FnOk X.prog X.w X.K X.mg X.base CX kk fm fd ps (wj X.K g))(q:Room j X.A)(r:wD CX X E)(s:VA X (e::es) fa)(t:m∉ns2:=by decide +kernel)(d:kk<=j:=by decide)
 (u:f∈nsF:=by decide +kernel) (v:ns[k]? =aa f:=by rfl) (hn:ns.Nodup:=by decide +kernel)
 (y:X.N[i]? =aa x:=by rfl) (z:wm X.env.scope x:=by first|exact eS rfl|exact ef (eS rfl)|exact ef (ef rfl)) (B:(x==("__debug__" : Str))=false:=by decide) (l:(x==("__classdict__" : Str))=false:=by decide)
 (G:eZ (.Name x p) f X.env (eval (.Name x p) X.env)=eval (.Name x p) X.env:=by rfl) (h1:zK e=true:=by rfl) (H:es.all zK=true:=by rfl)
 (I:eval (.Call (.Attribute (.Attribute (.Name x p) f pos') m apos) (e::es) [] pos) X.env=(do
 let n <- eval (.Attribute (.Name x p) f pos') X.env
 standAt apos.atName
 let (f,first) <- holding [n] (getMethod n m pl)
 callWith pos f first (backTo pos (aZ (e::es) X.env)) (backToKw pos (keywordEach [] X.env))):=by rfl) :
 VX X (.Call (.Attribute (.Attribute (.Name x p) f pos') m apos) (e::es) [] pos) (vd i c ns k c2 ns2 g fa):=
  let⟨_,w,sm⟩:=s.h;⟨_,⟨jT (m8 (wv i y z B l).h G) a.cl (D.at_ _ a.at_) F (q.mono d) D.b .nil r w.h (xc h1) (vY H) I⟩,SemM.sub sm o.toF a.at_ t u v hn⟩
theorem JZ(i k:Nat)(o:ClsD X.K X.mg c nsF C)(a:ClsD X.K X.mg c2 nsF2 C2)(D:MethD X.K c2 m st qual ps fm fd)(F:FnOk X.prog X.w X.K X.mg X.base CX kk fm fd ps (wj X.K g))(q:Room j X.A)(r:wD CX X E)(s:m∉ns2:=by decide +kernel)(d:kk<=j:=by decide)
 (t:f∈nsF:=by decide +kernel) (u:ns[k]? =aa f:=by rfl) (hn:ns.Nodup:=by decide +kernel)
 (v:X.N[i]? =aa x:=by rfl) (y:wm X.env.scope x:=by first|exact eS rfl|exact ef (eS rfl)|exact ef (ef rfl)) (z:(x==("__debug__" : Str))=false:=by decide) (l:(x==("__classdict__" : Str))=false:=by decide)
 (B:eZ (.Name x p) f X.env (eval (.Name x p) X.env)=eval (.Name x p) X.env:=by rfl)
 (G:eval (.Call (.Attribute (.Attribute (.Name x p) f pos') m apos) [] [] pos) X.env=(do
 let n <- eval (.Attribute (.Name x p) f pos') X.env
 standAt apos.atName
 let (f,first) <- holding [n] (getMethod n m pl)
 callWith pos f first (backTo pos (aZ [] X.env)) (backToKw pos (keywordEach [] X.env))):=by rfl) :
 VX X (.Call (.Attribute (.Attribute (.Name x p) f pos') m apos) [] [] pos) (vd i c ns k c2 ns2 g zd):=
  ⟨_,⟨ZV (m8 (wv i v y z l).h B) a.cl (D.at_ _ a.at_) F (q.mono d) D.b .nil r G⟩,SemM.sub Yn o.toF a.at_ s t u hn⟩
end
def vu(c:Str)(g:GM)(a:FA):FE:=λb=>((a b).bind yn).bind λd=>(g (.ins c [] []) d).bind λp=>match p.1 with
 |.non=>aa (.obj p.2)
 | _=>ab
structure MakeD(K:ae)(c:Str)(st:Stmt)(qual:Str)(ps:List Str)(f:ah)(fd:eR):Prop where
 fn:FunA K "__init__" qual st f fd
 at_:∀C,vL K c C->Mk K C f
 b:Binds K fd ps []
section
variable {X:Cx}{e:Expr}{es:List Expr}{pos p:Pos}{fa:FA}{c qual:Str}{nsF ps:List Str}{g:GM}{fd:eR}{fm:ah}{st:Stmt}{kk j:Nat}{CX:wL}{E:XK}
theorem SemE.make{K:ae}{C:ah}{t:TA}{E:XK}(M:tU K t fa)(n:vL K c C):SemE K (YS C (wj K g) [] E t) (vu c g fa):=λB F H N O P Q s q k=>by
 obtain⟨R,o,q⟩:=ze q;obtain⟨S,o,T⟩:=ze o;obtain⟨r,U,q⟩:=ze q;refine M B F H N O S _ s o λY F1 l Z r1=>?_;obtain⟨v,x2,_,r2⟩:=RepRs.frz Z (Same.refl _) r1 T;intro a f w h i;have x:v a=ab:=x2.fh.free w;have G:v f=ab:=x2.fh.free h;have I:Same l (zp (zp l f (.own a)) a (.ins C f [])):=(Same.alloc h).trans (Same.alloc (by rw[zX (iM i)];exact w))
 rw[ek];refine⟨_,Y,v,.ins c [] [],[a,f],R,r.1,r.2,rfl,x2.fh.trans I,?_,by simp[iM i],λb d=>?_,r2,U,λy F' H' A' m t' n' J ry=>?_⟩
 ·exact .ins (vs:=[]) (A:=[]) n yz (by rw[zX i];exact yz) rfl .nil
 ·simp at d;rcases d with rfl|rfl
  ·exact x
  ·exact G
 ·obtain⟨d0,o0⟩:=r;cases d0 with
  |non=>
   cases q;have st:∀b u,l b=aa u->wB (zp (zp l f (.own a)) a (.ins C f [])) [a,f] b=aa u:=λb u d=>vE (λz=>by
    simp at z;rcases z with rfl|rfl
    ·rw[w]at d;cases d
    ·rw[h]at d;cases d) (I _ _ d)
   refine⟨j6 ry,k _ F' H' ⟨x2.ff.trans m.ff,m.fh,λb u d=>m.st _ _ (st b u (x2.hh _ _ d)),λb u d L=>(m.nw b u (st b u (x2.hh _ _ d)) L).trans (x2.nw b u d L)⟩ ⟨⟨a,rfl⟩,A',t',n',λb d=>⟨(J b d).1,?_⟩⟩⟩;cases z:H b with
   |none=>rfl
   |some u=>have:=st b u (x2.hh _ _ z);rw[(J b d).2]at this;cases this
  | _=>cases q
theorem K5(a:ClsD X.K X.mg c nsF C)(D:MakeD X.K c st qual ps fm fd)(F:FnOk X.prog X.w X.K X.mg X.base CX kk fm fd ps (wj X.K g))(i:Room j X.A)(k:Gl X c)(l:wD CX X E)(m:VA X (e::es) fa)(d:kk+1<=j:=by decide)(f:(c==("__debug__" : Str))=false:=by decide)
 (h1:zK e=true:=by rfl) (n:es.all zK=true:=by rfl):VE X (.Call (.Name c p) (e::es) [] pos) (vu c g fa):=
  let⟨_,w,sm⟩:=m.h;⟨_,⟨Pe (D.at_ _ a.at_) F (i.mono d) k a.mg D.b .nil l w.h f (xc h1) (vY n)⟩,.make sm a.at_⟩
end
end L3

namespace L2
open PySem PySem.Spec PyProof.Rows
noncomputable def wp(ks:List Str)(k:Str):List Str:=if k∈ks then ks else ks++[k]
noncomputable def xG{α:Type}(ks:List Str)(vs:List α)(k:Str)(v:α):List α:=if k∈ks then oH (λx y=>if x=k then v else y) ks vs else vs++[v]
theorem pD{a:Type}{ks:List Str}{vs:List a}{k:Str}{v:a}(h:ks.length=vs.length):(wp ks k).length=(xG ks vs k v).length/\(wp ks k).length<=ks.length+1:=by
 unfold wp xG;split
 ·rw[List.length_zipWith];lia
 ·simp[h]
theorem bZ{k:Str}:∀{ks:List Str} {vs:List V} {us:List (yM×af)},ks.length=vs.length->KV ((ks.map a7).zip vs) us->(us.any λa=>decide (a.1=a7 k))=decide (k∈ks)
 |[],[],us,_,r=>by
  unfold KV at r;cases r;rfl
 |x::ks,v::vs,us,b,r=>by
  unfold KV at r;rw[ay,ie]at r;cases r with
  |@cons _ q _ d h t=>
   rw[List.any_cons,bZ (by simpa using b) t,<- h.1];by_cases e:x=k
   ·subst e;simp
   ·have c:¬ k=x:=λz=>e z.symm;simp[e,c]
theorem Za{k:Str}{v:V}{u:af}(c:RelV v u):∀{ks:List Str} {vs:List V} {us:List (yM×af)},ks.length=vs.length->KV ((ks.map a7).zip vs) us ->
  KV ((ks.map a7).zip (oH (λx y=>if x=k then v else y) ks vs)) (us.map λb=>if b.1=a7 k then (b.1,u)else b)
 |[],[],us,_,r=>by
  unfold KV at r;cases r;exact .nil
 |x::ks,w::vs,us,d,r=>by
  unfold KV at r;rw[ay,ie]at r;cases r with
  |@cons _ q _ i h t=>
   obtain⟨f,g⟩:=h;have a:a7 x=q.1:=f;rw[ay,ay,iF,ie];refine .cons ?_ (Za c (by simpa using d) t);by_cases e:x=k
   ·rw[if_pos e,if_pos (by rw[<- a,e])];exact⟨a,c⟩
   ·rw[if_neg e,if_neg (λz=>e (E8 (a.trans z)))];exact⟨a,g⟩
theorem Zb{k:Str}{v:V}{u:af}(a:RelV v u):∀{ks:List Str} {vs:List V} {us:List (yM×af)},ks.length=vs.length->KV ((ks.map a7).zip vs) us ->
  KV (((ks++[k]).map a7).zip (vs++[v])) (us++[(a7 k,u)])
 |[],[],us,_,r=>by
  unfold KV at r;cases r;exact .cons ⟨rfl,a⟩ .nil
 |x::ks,w::vs,us,b,r=>by
  unfold KV at r;rw[ay,ie]at r;cases r with
  |cons h t=>exact .cons h (Zb a (by simpa using b) t)
theorem SG{k:Str}{v:V}{u:af}{ks:List Str}{vs:List V}{us:List (yM×af)}(b:RelV v u)(a:ks.length=vs.length)(r:KV ((ks.map a7).zip vs) us) :
  KV (((wp ks k).map a7).zip (xG ks vs k v)) (stored us (a7 k) u):=by
 unfold stored wp xG;rw[bZ a r];by_cases e:k∈ks
 ·rw[if_pos e,if_pos e,if_pos (decide_eq_true e)];exact Za b a r
 ·rw[if_neg e,if_neg e,if_neg (by simpa using e)];exact Zb b a r
section
variable {X:Cx}
def Yb:V->V->V->Hp->(Hp->Prop)->Prop:=λo i v H Q=>∃p a b k,o=.ref p/\i=.str k/\H p=aa (.dK ((a.map a7).zip b))/\a.length=b.length/\a.length<1000000/\Q (zp H p (.dK (((wp a k).map a7).zip (xG a b k v))))
theorem MF:kq X Yb:=by
 intro d s K H o i v L M u Q I l m n h;obtain⟨p,f,r,k,rfl,rfl,g,j,N,q⟩:=h;cases l;obtain⟨z,t,w,a,y⟩:=I.hok p _ g;have A:w.length<=aS:=by rw[<- Eg a];exact z
 refine wpAny_setItem_pairs (hsz:=A) (jz m) y λB c C=>⟨_,?_,q⟩
 have E:∃q,B.get? p=aa q:=let⟨q,_,_,hq,_⟩:=c;⟨q,hq⟩;have G:((((wp f k).map a7).zip (xG f r k v)):List (yM×V)).length<=aS:=by
  have:=(pD (k:=k) (v:=v) j).2;rw[Bt,ar,ih];lia
 exact I.write (x:=p) (e:=p) (by rw[g];exact Ai) (.inl rfl) (λb q J z=>(C.2 b J).trans z) E ⟨G,t,_,SG n j a,c⟩
def Z9:V->List V->Hp->VK->Prop:=λx c H Q=>∃a b z d,x=.ref a/\c=[.str z,d]/\Rd H a (.dK b)/\Q ((ut b (a7 z)).getD d) H
theorem ZA:v5 X "dict.get" Z9:=by
 intro i s t H x u v y Q I k b h;obtain⟨a,l,z,d,rfl,rfl,e,q⟩:=h;cases k;cases b with
 |cons m r=>
  cases r with
  |cons n r=>
   cases r;obtain⟨_,o,A,c,j⟩:=e.ok I.hok;refine call_meetsIn Bk j.typeIs PySem.F.entry_dict_get (PySem.F.args_dict_get_3 _ _ _) (meets_dict_get_default (uk X.prog X.w) a (jz m) o _) ⟨_,j.mapOf,_,H,I.tok _,?_,q⟩;rcases dt c (a7 z)with ⟨B,w,f,g,p⟩|⟨f,g⟩
   ·rw[f,g];exact p
   ·rw[f,g];exact n
end
end L2
namespace L3
open PySem PySem.Spec PyProof.Rows L2
theorem NJ{F:Hp}{k:Str}{v:V}{d:D}(r:Rep F v d):∀{ks:List Str} {vs:List V} {ds:List D},Reps F vs ds->Reps F (xG ks vs k v) (xG ks ds k d):=by
 have a:∀(ks:List Str) {vs:List V} {ds:List D},Reps F vs ds->Reps F (oH (λx y=>if x=k then v else y) ks vs) (oH (λx y=>if x=k then d else y) ks ds):=by
  intro ks
  induction ks with
  |nil=>intro vs ds _;exact .nil
  |cons x ks b=>
   intro vs ds h;cases h with
   |nil=>exact .nil
   |cons h t=>
    rw[iF,iF];refine .cons ?_ (b t);by_cases e:x=k
    ·rw[if_pos e,if_pos e];exact r
    ·rw[if_neg e,if_neg e];exact h
 intro ks vs ds h;unfold xG;split
 ·exact a ks h
 ·exact h.append (.one r)
noncomputable def ZJ:OT->Option (List Str×List D)
 |.dic a b=>aa (a,b)
 | _=>ab
theorem RK{p:List Str×List D}(h:ZJ o=aa p):o=.dic p.1 p.2:=by
 cases o <;> first|(cases h;rfl)|(cases h)
def tj(i:Nat):En->Option (List Str×List D):=λa=>(y3 i a).bind ZJ
theorem nG{i:Nat}{p:List Str×List D}(h:tj i δ=aa p):δ[i]? =aa (aa (.obj (.dic p.1 p.2))):=by
 obtain⟨o,a,b⟩:=ze h;cases RK b;exact vn a
def nK:FE:=λ_=>aa (.obj (.dic [] []))
def rm(p:List Str×List D):List Ent->Option Ent
 |[a,b]=>(zP a).map λz=>(xo p.1 p.2 z).elim b .val
 | _=>ab
def se:Ent->List Ent->Option Ent:=λx a=>(t4 x).bind λp=>rm p a
def uP(i:Nat)(b:FA):FE:=λa=>(tj i a).bind λp=>(b a).bind (rm p)
noncomputable def t8(i:Nat)(b fe:FE):FS:=λa=>((fe a).bind zL).bind λd=>((b a).bind zP).bind λk=>(tj i a).bind λp=>yY (sz (p.1.length+1)) (aa (.nx (a.set i (aa (.obj (.dic (wp p.1 k) (xG p.1 p.2 k d)))))))
def kQ(i:Nat)(g:FS):FS:=λa=>(tj i a).bind λp=>g (a.set i (aa (.val (.dic p.1 p.2))))
section
variable {K:ae}{B:Bd}{F H F' H' H0:Hp}{σ:Sg}{δ:En}{v:V}{i:Nat}{ks:List Str}{ds:List D}
theorem cR{vs:List V}(e:Rd H a (.dK ((ks.map a7).zip vs)))(f:ks.length=vs.length)(g:Reps F vs ds)(b:RepRs K H0 F H ws es)(q:rm (ks,ds) es=aa res)(k:∀v,RepR K H0 F H v res->Q v H):Z9 (.ref a) ws H Q:=by
 match es,q with
 |[x,y],q=>
  obtain⟨z,h,j⟩:=zJ q;cases xi h;have l:(xo ks ds z).elim y .val=res:=j;subst l;cases b with
  |cons m r=>
   cases r with
   |cons n r=>
    cases r;cases xw m;refine⟨a,_,z,_,rfl,rfl,e,?_⟩;rcases Zj z f g with ⟨p,v,c,d,o⟩|⟨c,d⟩
    ·rw[d];rw[c]at k;exact k _ o
    ·rw[d];rw[c]at k;exact k _ n
theorem RS.frzD(s:RS K B F H σ δ)(hi:δ[i]? =aa (aa (.obj (.dic ks ds)))):∃a d,σ[i]? =aa (aa (.ref a))/\H a=aa (.dK d)/\∀f,∃F',FX B F F'/\RS K B F' (zp H a (.frz f (.dK d))) σ (δ.set i (aa (.val (.dic ks ds)))):=by
 obtain⟨v,j,A,t,n,h⟩:=s.ent i _ hi;cases t with
 |@dic a _ k _ e l o=>
  refine⟨a,_,j,e,λf=>?_⟩;have r:=(h a (by simp)).1;have p:Same F (zp F a (.frz f (.dK ((ks.map a7).zip k)))):=Same.alloc r;have q:Rep (zp F a (.frz f (.dK ((ks.map a7).zip k)))) (.ref a) (.dic ks ds):=.dic yz l (o.mono p);obtain⟨w,x⟩:=s.chg (o':=.val (.dic ks ds)) (H':=zp H a (.frz f (.dK ((ks.map a7).zip k)))) hi j (.dic e l o) ⟨p,λb u c=>by
    by_cases g:b=a
    ·subst g;rw[yz]at c ⊢;exact c
    ·rw[zX g]at c ⊢;exact s.fh b u c,λb u c=>by
    rw[zX λz=>(ul c).1 (by simp[z])];exact(ul c).2,λb u c _=>zX λz=>(ul c).1 (by simp[z])⟩
   (.val q) .nil λb c=>by cases c
  have m:=w.putV i q;rw[List.set_set]at m;obtain⟨y,C⟩:=aQ.mp j;rw[<- C,List.set_getElem_self]at m;exact⟨_,x,m⟩
end
section
variable {X:Cx}{e ix o:Expr}{es:List Expr}{pos p tpos apos cpos:Pos}{fe fx fo:FE}{fs:FA}{x:Str}{sr:List Stmt}{g:FS}
theorem Km:VE X (.Dict [] [] pos) nK:=⟨_,Jo,λB F H f h d Q s q k p b=>by
 cases q;exact k _ F _ (Ex.lay s.fh b) ⟨⟨p,rfl⟩,[p],.dic (vs:=[]) yz rfl .nil,by simp,λa c=>by
  simp at c;subst c;exact⟨s.fh.free b,b⟩⟩⟩
theorem Rc:MtD X "dict" "get" se:=⟨_,_,Cu,Bk,CU,ZA,λd F H x e es b a r q=>by
  obtain⟨p,c,q⟩:=ze q;cases nH c;cases (show Rep F x (.dic p.1 p.2)from r)with
  |dic e l f=>exact .inr (.inr (.inl ⟨rfl,.inl ⟨_,.inr ⟨_,a _ _ e⟩⟩⟩)),λd F H x j e es b Q a m r f q k=>by
  obtain⟨p,c,q⟩:=ze q;cases nH c;cases (show Rep F x (.dic p.1 p.2)from r)with
  |dic e l h=>exact cR (K:=X.K) (H0:=d) (.inr ⟨_,a _ _ e⟩) l h f q λv i=>k v F H (Ex.refl a) i⟩
theorem Kn(i:Nat)(j:VA X (e::es) fs)(l:X.N[i]? =aa x:=by rfl)(m:wm X.env.scope x:=by first|exact eS rfl|exact ef (eS rfl)|exact ef (ef rfl))(r:(x==("__debug__" : Str))=false:=by decide)(c:(x==("__classdict__" : Str))=false:=by decide)
  (a:eZ (.Name x p) "get" X.env (eval (.Name x p) X.env)=eval (.Name x p) X.env:=by rfl) (d:decide ((e::es).length+0+0<30)=true:=by rfl) (b:(apos.endLine==cpos.line)=true:=by rfl)
  (h1:zK e=true:=by rfl) (u:es.all zK=true:=by rfl):VE X (.Call (.Attribute (.Name x p) "get" apos) (e::es) [] cpos) (uP i fs):=by
 obtain⟨S,w,y⟩:=j.h;refine⟨_,pP Cu Bk CU ZA (wv i l m r c) w a d b h1 u,λB F H z C E Q s q k=>?_⟩;obtain⟨p,G,q⟩:=ze q;obtain⟨I,J,q⟩:=ze q;obtain⟨v,h1,A,t,n,h⟩:=s.ent i _ (nG G);cases t with
 |dic f d L=>
  refine⟨_,h1,.inr (.inr (.inl ⟨rfl,.inl ⟨_,.inl f⟩⟩)),?_⟩;refine y B F H z C I _ s J λT M O x2 P=>?_;exact cR (K:=X.K) (H0:=H) (.inl (x2.hh _ _ f)) d (L.mono x2.ff) P q λv R=>k v M O x2 R
theorem N7(i:Nat)(he:VE X e fe)(hx:VE X ix fx)(hN:X.N[i]? =aa x:=by rfl)(hv:wm X.env.scope x:=by first|exact eS rfl|exact ef (eS rfl)|exact ef (ef rfl))(hd:(x==("__debug__" : Str))=false:=by decide)(C:(x==("__classdict__" : Str))=false:=by decide)
  (hg:∀{O P:TE},WE X (.Name x p) O->WE X ix P->WG X (.Subscript (.Name x p) ix tpos) (jb O P Yb))
  (hs:swapsWithSole [.Subscript (.Name x p) ix tpos] e pos.line X.env=pure false:=by rfl) (hw:swappedStores [.Subscript (.Name x p) ix tpos] e X.env=pure ab:=by rfl) (h1:(iE [.Subscript (.Name x p) ix tpos] X.env).map (·.2)=[assign (.Subscript (.Name x p) ix tpos) X.env]:=by rfl) :
  VS X (.Assign [.Subscript (.Name x p) ix tpos] e pos) (t8 i fx fe):=by
 obtain⟨t,w,m⟩:=he.h;obtain⟨t2,w2,m2⟩:=hx.h;refine⟨_,hE w (hg (wv i hN hv hd C) w2) hs hw h1,λB F H E Q out DD s q k=>?_⟩;obtain⟨d,q1,q⟩:=ze q;obtain⟨r,q2,q3⟩:=ze q1;obtain⟨j,q4,q⟩:=ze q;obtain⟨rk,q5,q6⟩:=ze q4;obtain⟨p,R,q⟩:=ze q;obtain⟨l,qz⟩:=xS q;cases qz;cases xi q6;refine m B F H E Q r _ s q2 λy F1 H1 x1 z=>?_;obtain⟨F2,x2,sm,r2⟩:=RepR.frz x1 (Same.refl _) z q3;have S:=s.ext x2;obtain⟨v,h1,A,t,n,h⟩:=s.ent i _ (nG R);refine⟨_,h1,m2 B F2 H1 E Q _ _ S q5 λyk G H3 I z3=>?_⟩;cases xw z3;have s3:=S.ext I;have c:=x2.trans I;cases t with
 |@dic a _ T _ U J Y=>
  have Z:=(TR.dic (K:=X.K) U J Y).ext c;have fl:G a=ab:=(Z.2 a (by simp)).trans (h a (by simp)).1;have r3:=Rep.mono I.ff r2;refine⟨a,p.1,T,j,rfl,rfl,c.hh _ _ U,J,by unfold sz at l;lia,?_⟩;obtain⟨L,M⟩:=s3.chg (o':=.dic (wp p.1 j) (xG p.1 p.2 j d)) (H':=zp H3 a (.dK (((wp p.1 j).map a7).zip (xG p.1 T j y)))) (F':=G) (nG R) h1 Z.1 ⟨Same.refl _,λb u f=>by
    rw[zX λz=>by subst z;rw[fl]at f;cases f];exact c.fh _ _ f,λb u f=>by
    obtain⟨L,M⟩:=ul f;rw[zX λz=>L (by simp[z])];exact M,λ_ _ _ _=>rfl⟩
   (.dic yz (pD J).1 (NJ r3 (Y.mono c.ff))) (by simp) λb f=>by
    simp at f;subst f;exact⟨fl,uX (by simp)⟩
  exact k E G _ L ((FX.of c s.bh).trans M)
theorem Nb{i:Nat}(h:PSs X sr u):PSs X sr (λj d H=>∃a b,d[i]? =aa (aa (.ref a))/\H a=aa (.dK b)/\∀f,u j d (zp H a (.frz f (.dK b)))):=by
 intro c s d H j I q;obtain⟨a,b,_,e,q⟩:=q;have z:=I.hok a _ e;obtain⟨_,_,_,_,f,_,_,k,_⟩:=id z;refine h c s d _ j (I.write (x:=a) (e:=a) (h':=s.heap) (t':=s.toks) (o:=.frz f (.dK b)) (by rw[e];exact Ai) (.inl rfl) (λ_ _ _ z=>z) ⟨_,k⟩ ⟨k,?_⟩) (q f);exact z
theorem Mj(i:Nat)(h:VSs X sr g):VSs X sr (kQ i g):=by
 obtain⟨u,d,f⟩:=h.h;refine⟨_,⟨Nb (i:=i) d.h⟩,λB F H j z b l s q k=>?_⟩;obtain⟨p,m,q⟩:=ze q;obtain⟨a,c,n,r,t⟩:=s.frzD (nG m);refine⟨a,c,n,r,λv=>?_⟩;obtain⟨w,x,y⟩:=t v;exact f B w _ j _ b l y q (k.mono x)
end
end L3

namespace L2
open PySem PySem.Spec PyProof.Rows
structure CompSk(X:Cx)(N:List Str)(k:Nat)(fr:List Nat)(scope:Scope):Prop where
 kind:scope.kind=.function
 chk:(scope.names.all λy=>match y.2 with
  |.cell=>false
  |.local=>scope.names.lookup y.1==aa .local
  |.free=>X.env.scope.names.lookup y.1==aa .cell || X.env.scope.names.lookup y.1==aa .free
  | _=>true)=true
 len:N.length=k+fr.length
 nm:(N.drop k).map aa=fr.map (λi=>X.N[i]?)
 nf:((N.drop k).all λy=>scope.names.lookup y==aa .free)=true
section
variable {prog:aN}{w:aR}{A:a4}{R:Result->ag->Prop}{s:ag}
theorem Vg{it:af}(J:Nat->ag->Prop)
 (one:∀k z,J k z->au (model prog w) A (pyNext it) (λb e=>match b with
 |none=>R (.ok .next) e
 |some u=>au (model prog w) A (letOwnedTupleGo tg it u) (λ_ g=>au (model prog w) A (assign tg env u) (λ_ i=>
 au (model prog w) A (forIn ifs true λc r=>if r=true then do let ok <- isTrue c env (eval c env);pure (Bn ok)else pure (Bn r)) (λd f=>
 if d=true then au (model prog w) A (eval elt env) (λy l=>au (model prog w) A (call (.builtin "list.append") [acc,y]) (λ_ m=>∃j,j<k/\J j m) (notedBy (model prog w) A env λx a=>R (.error x) a) l) (notedBy (model prog w) A env λx a=>R (.error x) a) f
 else ∃j,j<k/\J j f) (notedBy (model prog w) A env λx a=>R (.error x) a) i) (notedBy (model prog w) A env λx a=>R (.error x) a) g) (notedBy (model prog w) A env λx a=>R (.error x) a) e) (notedBy (model prog w) A env λx a=>R (.error x) a) z)
 (k:Nat) (h:J k s):codeAny (model prog w) A (.compLoop (.ListComp elt [⟨tg,iter,ifs,0⟩] scope pos) 0 it acc env) R s:=by
  refine codeAny_loop rfl J (λk z p=>?_) k h;show au _ A ((compTurn (.ListComp elt [⟨tg,iter,ifs,0⟩] scope pos) 0 it acc env).onRaise _) _ _ z;refine wpAny_noted ?_;rw[compTurn_list];refine ac (wpAny_standAt (ac (zu (one k z p) λb e n=>?_)));cases b with
  |none=>exact am n
  |some u=>
    refine ac (zu n λ_ g q=>ac (zu q λ_ i t=>ac (zu t λd f o=>?_)));cases d with
    |false=>exact am ⟨rfl,o⟩
    |true=>exact ac (ac (zu o λy l v=>ac (zu v λ_ m B=>am (am ⟨rfl,B⟩))))
end
section
variable {X:Cx}{N:List Str}{k:Nat}{fr:List Nat}{scope:Scope}
theorem CompSk.ncell(S:CompSk X N k fr scope):∀y∈scope.names,y.2≠.cell:=λy a e=>by
 have h:=eM.mp S.chk y a;obtain⟨n,q⟩:=y;cases (show q=.cell from e);exact absurd h (by simp)
theorem CompSk.loc(S:CompSk X N k fr scope):∀y∈scope.names,y.2=.local->scope.names.lookup y.1=aa .local:=λy a e=>by
 have h:=eM.mp S.chk y a;obtain⟨n,q⟩:=y;cases (show q=.local from e);exact td h
theorem CompSk.free(S:CompSk X N k fr scope):∀y∈scope.names,y.2=.free->X.env.kindOf y.1=aa .cell\/X.env.kindOf y.1=aa .free:=λy a e=>by
 have h:=eM.mp S.chk y a;obtain⟨n,q⟩:=y;cases (show q=.free from e);exact(Da.mp (show(X.env.scope.names.lookup n==aa .cell || X.env.scope.names.lookup n==aa .free)=true from h)).imp td td
variable {pins:List (ah×Obj)}{σ:St}{H:Hp}{s:ag}
theorem Vj(S:CompSk X N k fr scope){fp:List ah}{d:aX}{tk:Nat}(I:Inv X pins σ H s)(A:∀b∈fp,y4 X pins H b)(C:∀b∈fp,b<s.heap.objs.size)
  (E:d.Ns s.heap.objs.size λy=>([]:List (Str×af)).reverse.lookup y) (g:∀b o,s.heap.get? b=aa o->d.get? b=aa o) :
  Inv (zZ X N scope s.heap.objs.size s H fp) [] (aB k ab++xh fr σ) H { s with heap:=d,toks:=tk}:=by
 have sub:∀y c,(vh X.env scope.names).lookup y=aa c->X.env.cells.lookup y=aa c:=qB scope.names [] (λ_ _ z=>by cases z);have has:∀y,(y,eF)∈scope.names->∃c,(vh X.env scope.names).lookup y=aa c:=λy n=>kI scope.names [] y (I.ok.has y (S.free _ n rfl)) (.inr n);have f:∀c v,s.heap.IsCell c v->d.IsCell c v:=λc v ⟨o,P,Q⟩=>⟨o,g c o P,Q⟩
 refine⟨⟨I.ok.mod,S.kind,I.ok.glob,I.ok.blt,aj _,λy z c R T=>I.ok.inj y z c (sub y c R) (sub z c T),λy n=>has y (eW (j0 S.ncell n)),λy c n _=>(by cases n),I.ok.hd,I.ok.frames,.inl rfl,λb h=>⟨aP (C b h),λy c e=>(A b h).2.2.2.2.1 y c (sub y c e)⟩,
  I.bs,aH I.ok.bsz I.sz,λb o e h=>?_,λb h G=>?_,I.stack,I.stkFree⟩,rfl,I.bare,Un.kept g,⟨_,E,λi y v U j e3=>?_⟩,λy c e=>?_,I.hok.fresh (aj _),λy c e=>I.freeC y c (sub y c e),λp Y=>absurd (show p∈([]:List (ah×Obj))from Y) (by simp),I.hok.kept g,?_⟩
 ·rcases (A b h).2.2.2.1 with z|z
  ·exact I.ok.noex b o e z
  ·exact absurd (aT (aA e) (aH I.ok.bsz z)) (eQ _)
 ·exact(aC.mp (I.stkSub b G)).elim (A b h).2.1 (A b h).2.2.1
 ·by_cases K:i<k
  ·rw[ia (by rw[oh];exact K),Ab,if_pos K]at j;cases j
  ·rw[iP (by rw[oh];lia),oh]at j;have J:N[i]? =aa y:=U;have L:(N.drop k)[i-k]? =aa y:=by rw[BN,show k+(i-k)=i by lia];exact J
   have t:((N.drop k).map aa)[i-k]? =aa (aa y):=by rw[av,L];rfl
   rw[S.nm,av]at t;unfold xh at j;rw[av]at j;cases q:fr[i-k]? with
   |none=>rw[q]at t;cases t
   |some w=>
    rw[q]at t j;have Z:X.N[w]? =aa y:=aO t;have B:(σ[w]?).join=aa v:=aO j;have n3:σ[w]? =aa (aa v):=by
     cases M:σ[w]? with
     |none=>rw[M]at B;cases B
     |some o=>rw[M]at B;rw[show o=aa v from B]
    have a:scope.names.lookup y=aa .free:=td (eM.mp S.nf y (iy L));have O:=S.free _ (eW a) rfl;obtain⟨m,hn,hl⟩:=I.loc;obtain⟨u,r,l⟩:=hl w y v Z n3 (O.elim (λz=>.inr (.inl z)) λz=>.inr (.inr z));refine⟨u,r,.inr ⟨j4 a,?_⟩⟩;rcases l with ⟨kd,_⟩|⟨_,c,ec,hc⟩
    ·rcases O with z|z <;> (rw[show X.env.kindOf y=aa .local from kd]at z;cases z)
    ·obtain⟨c',x⟩:=has y (eW a);cases (aO ((sub y c' x).symm.trans ec));exact⟨_,x,f _ _ hc⟩
 ·obtain⟨v,z⟩:=I.cell y c (sub y c e);exact⟨v,f c v z⟩
 ·show(aB k ab++xh fr σ).length=N.length;rw[S.len];simp[xh]
end
def SO(k:Nat)(fr:List Nat)(g:TG)(o:TT)(p:TE)(J:It)(q:St)(f:Hp)(R:ah->Hp->Prop):Prop:=
 ∀a,f a=ab->∃W:Nat->Nat->List V->St->Hp->Prop,(∃m,W 0 m [] (aB k ab++xh fr q) (zp f a (.lst [])))/\∀i m d h H,W i m d h H ->
  (J.stop i H/\R a H)\/(J.go i H/\∀x j,J.yld i H x j->g x h j λc r=>o c r λb l=>
   if b=true then p c l λy n=>n a=aa (.lst d)/\d.length<aS/\∃e,e<m/\W (i+1) e (d++[y]) c (zp n a (.lst (d++[y])))
   else ∃e,e<m/\W (i+1) e d c l)
def YQ(k:Nat)(fr:List Nat)(c:TI)(g:TG)(d:TT)(e:TE):TE:=λb H Q=>c b H λJ f=>SO k fr g d e J b f λa h=>Q (.ref a) h
section
variable {X:Cx}{N:List Str}{k:Nat}{fr:List Nat}{scope:Scope}{iter elt tg:Expr}{ifs:List Expr}{pos:Pos}{wi:TI}{g:TG}{te:TE}{tt:TT}
theorem Pc(S:CompSk X N k fr scope)(hc:X.calm=true)(hi:PI X tg iter wi)
  (hg:∀(C:ah) (l:ag) (t:Hp) (fp:List ah),PG (zZ X N scope C l t fp) tg g)
  (ht:∀(C:ah) (l:ag) (t:Hp) (fp:List ah),u8 (zZ X N scope C l t fp) ifs tt) (he:∀(C:ah) (l:ag) (t:Hp) (fp:List ah),PE (zZ X N scope C l t fp) elt te)
  (hs:∀z,eP iter X.env z=pure z:=by intro _;rfl):PE X (.ListComp elt [⟨tg,iter,ifs,0⟩] scope pos) (YQ k fr wi g tt te):=by
 intro B s σ H Q I h;rw[eval_ListComp];refine wpAny_comprehension_free (use:=ab) (cl:=vh X.env scope.names) rfl hs (dI λy hy e=>I.ok.has y.1 (S.free y hy e)) S.kind S.loc (zu (hi B s σ H _ I h) λxv s1 h1=>zu h1 λitv G h2=>?_);refine bc λj=>?_;obtain⟨it,fp,tn,J,H2,e,I2,T,st2,f2,q⟩:=h2;refine j ?_;clear j;subst e;refine wpAny_newObj_type (wpAny_newFunctionEnv S.ncell (by intro y hy;simp at hy) (λh₁ M O=>?_) S.kind);refine bc λj=>?_;obtain⟨W,⟨m0,w0⟩,turn⟩:=q _ (I2.hok.fresh (aj _));refine j ?_;clear j;have hfo:∀b∈fp,b<G.heap.objs.size:=λb a=>let⟨_,e,_⟩:=T.obj 0 _ st2 b a;aA e;have Z:Inv X B σ (zp H2 G.heap.objs.size (.lst [])) { G with heap:=G.heap.push { cls:=.type "list",dict:=ab,data:=.seq ([]:List af).toArray}}:=
  I2.laid (t':=G.toks) (λb o e=>ai _ e) (aj _) ⟨aM _,[],_,.nil,ax _ rfl⟩
 have f3:∀b∈fp,y4 X B (zp H2 G.heap.objs.size (.lst [])) b:=λb a=>⟨by rw[zX (aP (hfo b a))];exact(f2 b a).1,(f2 b a).2⟩
 have P:tn 0 (G.heap.push { cls:=.type "list",dict:=ab,data:=.seq ([]:List af).toArray}):=T.keep 0 G.heap _ st2 λb a o e=>ai _ e;generalize hs3:({ G with heap:=G.heap.push { cls:=.type "list",dict:=ab,data:=.seq ([]:List af).toArray}}:ag)=f at *;replace P:tn 0 f.heap:=by rw[<- hs3];exact P
 generalize hHD:zp H2 G.heap.objs.size (.lst [])=R at *;generalize hD:G.heap.objs.size=D at *;have Y:∀b∈fp,b<f.heap.objs.size:=λb a=>let⟨_,e,_⟩:=T.obj 0 _ P b a;aA e;have old:∀b o,f.heap.get? b=aa o->h₁.get? b=aa o:=λb o e=>O.extBut b o (aP (aA e)) (ai _ e);have st1:tn 0 h₁:=T.keep 0 f.heap h₁ P λb a o e=>old b o e;have K:∀{x:List (ah×Obj)} {E:Hp},(∀b∈fp,E b=ab)->(∀b∈fp,∀p∈x,p.1≠b)->∀b∈fp,y4 (zZ X N scope f.heap.objs.size f R fp) x E b:=fun {x E} hn hp b a=>by
  refine⟨hn b a,aP (Y b a),λz=>?_,.inl a,λy c e=>(f3 b a).2.2.2.2.1 y c (qB scope.names [] (λ_ _ z=>by cases z) y c e),λp hp'=>hp b a p (by simpa [zZ] using hp')⟩;exact(aC.mp (Z.stkSub b z)).elim (f3 b a).2.1 (f3 b a).2.2.1
 have loop:∀s4:ag,Inv (zZ X N scope f.heap.objs.size f R fp) [] (aB k ab++xh fr σ) R s4->tn 0 s4.heap ->
   codeAny (model X.prog X.w) X.A (.compLoop (.ListComp elt [⟨tg,iter,ifs,0⟩] scope pos) 0 (.ref it) (.ref D) (compEnvC scope (vh X.env scope.names) f.heap.objs.size X.env)) (compPost (model X.prog X.w) X.A X.xe ab (EP X B σ Q) (.ref D) f.heap.objs.size) s4:=by
  intro s4 I4 st4;refine Vg (λn s'=>∃i ys τ E,Inv (zZ X N scope f.heap.objs.size f R fp) [] τ E s'/\tn i s'.heap/\(∀b∈fp,E b=ab)/\W i n ys τ E) ?_ m0
   ⟨0,[],_,_,I4,st4,λb a=>(f3 b a).1,w0⟩
  intro n s5 hq;refine bc λj=>?_;obtain⟨i,ys,τ,H5,I5,st5,fr5,w5⟩:=hq;refine j ?_;clear j;rcases turn i n ys τ H5 w5 with ⟨stop,qn⟩|⟨go,step⟩
  ·refine ip (T.done (zZ X N scope f.heap.objs.size f R fp) rfl rfl rfl hc i [] s5 _ H5 (λ_ _=>False) I5 (K fr5 (by simp)) st5 stop) (λr s6 hr6=>?_) λ_ _ z=>z.elim;obtain⟨hr,I6⟩:=hr6;subst hr;obtain⟨m,hn,_⟩:=id I6.loc;refine⟨m,hn,λh' hsb=>⟨.ref D,H5,?_,rfl,qn⟩⟩;refine(dN Z f3 I6).turned (t':=s6.toks) (λb o a e=>(hsb.2 b a).trans e) I6.free (Bv Z.lt) (.inr Z.sz) ?_ ?_
   ·intro y c e z;obtain⟨v,qc⟩:=Z.cell y c e;exact absurd qc.lt (by rw[z];exact eQ _)
   ·intro p hp z;exact absurd (aA (Z.pin p hp).1) (by rw[z];exact eQ _)
  ·refine ip (T.item (zZ X N scope f.heap.objs.size f R fp) rfl rfl rfl hc i [] s5 _ H5 (λ_ _=>False) I5 (K fr5 (by simp)) st5 go) (λr s6 hr6=>?_) λ_ _ z=>z.elim;obtain⟨u,hr,h6⟩:=hr6;subst hr;refine ip h6 (λ_ s7 h7=>?_) λ_ _ z=>z.elim;refine bc λj=>?_;obtain⟨y,H7,I7,r7,y7,st7,fr7⟩:=h7;refine j ?_;clear j;have I7':=I7.pinned (K fr7 (by simp)) (T.obj _ _ st7);refine ip (hg _ _ _ _ _ s7 _ H7 y u _ I7' r7 (step y H7 y7)) (λ_ s8 h8=>?_) λ_ _ z=>z.elim;refine bc λj=>?_;obtain⟨U,H8,I8,q8⟩:=h8;refine j ?_;clear j;refine ip (ht _ _ _ _ _ s8 _ H8 _ I8 q8) (λok s9 h9=>?_) λ_ _ z=>z.elim;obtain⟨H9,I9,q9⟩:=h9;have L:∀{s':ag} {E:Hp},Inv (zZ X N scope f.heap.objs.size f R fp) ([]++sD fp s7.heap) U E s' ->
     Inv (zZ X N scope f.heap.objs.size f R fp) [] U E s'/\tn (i+1) s'.heap/\∀b∈fp,E b=ab:=fun {s' E} I'=>by
    refine⟨I'.unpinned,T.keep _ _ _ st7 λb a o e=>(I'.pin (b,o) (aE _ (aE _ (rQ a e)))).1,λb a=>?_⟩;obtain⟨o,e,d⟩:=T.obj _ _ st7 b a;exact(I'.pin (b,o) (aE _ (aE _ (rQ a e)))).2.1
   cases ok with
   |false=>
    rw[if_neg aK]at q9 ⊢;obtain⟨m',hm,w9⟩:=q9;obtain⟨a1,a2,a3⟩:=L I9;exact⟨m',hm,i+1,ys,U,H9,a1,a2,a3,w9⟩
   |true=>
    rw[if_pos rfl]at q9 ⊢;refine ip (he _ _ _ _ _ s9 _ H9 _ I9 q9) (λzv s10 h10=>?_) λ_ _ z=>z.elim;refine bc λj=>?_;obtain⟨z,H10,I10,rz,hz,hlt,m',hm,w10⟩:=h10;refine j ?_;clear j;refine ip (mW (X:=zZ X N scope f.heap.objs.size f R fp) _ s10 _ H10 (.ref D) [z] (.ref D) [zv] (λ_ E=>E=zp H10 D (.lst (ys++[z]))) I10 rfl (.cons rz .nil)
     ⟨_,ys,z,rfl,rfl,hz,hlt,rfl⟩) (λ_ s11 h11=>?_) λ_ _ z=>z.elim
    refine bc λj=>?_;obtain⟨_,H11,I11,_,e11⟩:=h11;refine j ?_;clear j;subst e11;obtain⟨a1,a2,a3⟩:=L I11;exact⟨m',hm,i+1,ys++[z],U,_,a1,a2,a3,w10⟩
 have I4:=Vj S (tk:=f.toks) Z f3 Y M old;exact codeAny_compStart_list (loop _ I4 st1) (T.self _ 0 _ _ _ st1 (loop _ I4 st1))
end
end L2
namespace L3
open PySem PySem.Spec PyProof.Rows L2
noncomputable def two:D->Option (D×D)
 |.tup [a,b]=>aa (a,b)
 | _=>ab
theorem Kb{p:D×D}(h:two d=aa p):d=.tup [p.1,p.2]:=by
 unfold two at h;split at h
 ·cases h;rfl
 ·cases h
def vr(fr:List Nat)(δ:En)(d d':D):En:=aa (.val d)::aa (.val d')::fr.map λi=>((δ[i]?).join).bind vN
def re(fr:List Nat)(fi:FI)(ft:FT)(fe:FE):FE:=λb=>(fi b).bind λc=>(yV (λd=>(two d).bind λp=>ft (vr fr b p.1 p.2)) (λd=>(two d).bind λp=>fe (vr fr b p.1 p.2)) c).bind λa=>if a.length<=1000000 then aa (.own a)else ab
theorem RS.cap2{K:ae}{B:Bd}{F H:Hp}{g:Sg}{δ:En}{v i:V}{d d':D}(s:RS K B F H g δ)(fr:List Nat)(r:Rep F v d)(r':Rep F i d'):RS K B F H (aa v::aa i::xh fr g) (vr fr δ d d'):=by
 have c:=s.cap fr r';refine⟨c.fh,c.bh,by simp[vr,xh],λj e h=>?_,λa b l u e f k x m n=>?_,λa b y A C E G f p I q J t=>?_,λw o _ L=>by cases L⟩
 ·cases j with
  |zero=>cases h;exact⟨v,rfl,r⟩
  |succ j=>exact c.ent j e h
 ·cases a with
  |zero=>cases k
  |succ a=>
   cases b with
   |zero=>cases m;cases n
   |succ b=>exact c.ap a b l u e (λz=>f (by rw[z])) k x m n
 ·cases a with
  |zero=>cases p;cases t
  |succ a=>
   cases b with
   |zero=>cases q;exact λ_ z=>z
   |succ b=>exact c.ao a b y A C E G (λz=>f (by rw[z])) p I q J t
theorem SemE.l2{K:ae}{fr:List Nat}{wi:TI}{tt:TT}{te:TE}{fi:FI}{ft:FT}{fe:FE}(mi:nv K wi fi)(mt:tV K tt ft)(me:SemE K te fe):SemE K (YQ 2 fr wi (jc K 2 (nR (uS 0) (nR (uS 1) k5))) tt te) (re fr fi ft fe):=λB F H σ M res Q s q k=>by
 obtain⟨c,q1,q⟩:=ze q;obtain⟨t,q2,q⟩:=ze q;split at q
 ·rename_i hlen;cases q;refine mi B F H σ M c _ s q1 λJ F1 H1 E io=>?_;intro a N;refine⟨λi m G τ u=>m=c.length-i/\i<=c.length/\(∃o1 o2,τ=o1::o2::xh fr σ)/\∃l n rest,Ex F1 H1 l u/\l a=ab/\u a=aa (.lst G)/\Reps l G n/\yV (λd=>(two d).bind λp=>ft (vr fr M p.1 p.2)) (λd=>(two d).bind λp=>fe (vr fr M p.1 p.2)) (c.drop i)=aa rest/\t=n++rest,
   ⟨_,rfl,aM _,⟨ab,ab,rfl⟩,F1,[],t,Ex.lay E.fh N,E.fh.free N,yz,.nil,q2,rfl⟩,?_⟩
  intro i m G τ u hq;refine bc λj=>?_;obtain⟨rfl,hi,⟨o1,o2,rfl⟩,l,T,rest,A,fa,O,P,f,I⟩:=hq;refine j ?_;clear j;have s':=(s.ext E).ext A;obtain⟨z,U⟩:=io l u A.ff A.fh s'.bh;by_cases h:i<c.length
  ·right;have hd:c[i]? =aa c[i]:=by simp[h]
   obtain⟨g1,g2⟩:=U i _ hd;rw[ey h]at f;obtain⟨b,Y,f⟩:=ze f;obtain⟨p,qt,Y⟩:=ze Y;have et:=Kb qt;refine⟨g1,λv H2 yl=>?_⟩;obtain⟨F2,x2,r2⟩:=g2 v H2 yl;rw[et]at r2;cases r2 with
   |tup e2 Z=>
    cases Z with
    |cons ra rs3=>
     cases rs3 with
     |cons rb rs4=>
      cases rs4;refine⟨_,_,rfl,SqT.of (x2.fh _ _ e2),rfl,_,_,rfl,_,_,rfl,rfl,?_⟩;have sc:=(s'.ext x2).cap2 fr ra rb;refine mt B F2 H2 _ _ b _ sc Y λF3 H3 C=>?_;have nn:∀{Fz Hz:Hp},Ex l u Fz Hz->Fz a=ab:=λx=>(x.nw _ _ O rfl).trans fa;cases b with
      |false=>
       refine uA ⟨c.length-(i+1),by lia,rfl,h,⟨_,_,rfl⟩,F3,T,rest,(A.trans x2).trans C,nn (x2.trans C),(x2.trans C).hh _ _ O,P.mono (x2.trans C).ff,f,I⟩
      |true=>
       refine uB ?_;obtain⟨y,q4,f⟩:=ze f;obtain⟨r,R,q6⟩:=ze q4;replace R:(two c[i]).bind (λp=>fe (vr fr M p.1 p.2))=aa r:=R;rw[qt]at R;obtain⟨g,q7,f⟩:=zJ f;cases f;refine me B F3 H3 _ _ r _ (sc.ext C) R λw F4 H4 x4 z4=>?_;obtain⟨F5,x5,_,r5⟩:=RepR.frz x4 (Same.refl _) z4 q6;have L:Ex l u F5 H4:=(x2.trans C).trans x5;have hy:G.length<aS:=by
        rw[P.length,ih];have:t.length=T.length+(g.length+1):=by rw[I];simp
        lia
       refine⟨L.hh _ _ O,hy,c.length-(i+1),by lia,rfl,h,⟨_,_,rfl⟩,F5,T++[y],g,?_,nn L,yz,(P.mono L.ff).append (.one r5),q7,by rw[I];simp⟩;have S:=A.trans L;exact⟨S.ff,λb o e=>by rw[zX (vm e (nn L))];exact S.fh b o e,λb o e=>by rw[zX (vm e N)];exact S.hh b o e,S.nw⟩
  ·left;have e:i=c.length:=by lia
   subst e;rw[Ba]at f;cases f;rw[ek]at I;subst I;refine⟨z,k _ l u (E.trans A) ⟨a,G,rfl,E.hh.free N,O,P,fa⟩⟩
 ·cases q
section
variable {X:Cx}{N:List Str}{fr:List Nat}{x x':Str}{scope:Scope}{iter elt:Expr}{ifs:List Expr}{px px' tpos pos:Pos}{fi:FI}{fe:FE}{ft:FT}{tn:Nat}
theorem KY(S:CompSk X N 2 fr scope)(g:N[0]? =aa x)(i:N[1]? =aa x')(c:N.Nodup)(j:scope.names.lookup x=aa .local)(k:scope.names.lookup x'=aa .local)(hi:VI X (.Tuple [.Name x px,.Name x' px'] tn tpos) iter fi)
  (l:∀(C:ah) (a:ag) (b:Hp) (fp:List ah),VTs (zZ X N scope C a b fp) ifs ft) (m:∀(C:ah) (a:ag) (b:Hp) (fp:List ah),VE (zZ X N scope C a b fp) elt fe)
  (d:X.calm=true:=by rfl) (n:∀z,eP iter X.env z=pure z:=by intro _;rfl):VE X (.ListComp elt [⟨.Tuple [.Name x px,.Name x' px'] tn tpos,iter,ifs,0⟩] scope pos) (re fr fi ft fe):=by
 obtain⟨_,o,p⟩:=hi.h;have e:(relabel scope X.env).names.lookup x=aa .local:=lookup_relabel_local j;have f:(relabel scope X.env).names.lookup x'=aa .local:=lookup_relabel_local k;refine⟨_,⟨Pc S d o.h (λC a b fp=>?_) (λC a b fp=>((l C a b fp).uni).h) (λC a b fp=>((m C a b fp).uni).h) n⟩,.l2 p hH hG⟩;exact ZY (X:=zZ X N scope C a b fp) d (jV (jU c g (.inl e) (.inr e)) (jV (jU c i (.inl f) (.inr f)) ZZ))
end
end L3

namespace L2
open PySem PySem.Spec PyProof.Rows
noncomputable def jk:Bool->Keyed->Array Keyed->Nat->Nat->Nat->StateT SortSt Sem (Option Nat):=sortPriv% PySem.Builtin.gallop
def Rr:Array Keyed->Array Keyed->StateT SortSt Sem (Array Keyed):=sortPriv% PySem.Builtin.mergeLo
def Rq:Array Keyed->Array Keyed->StateT SortSt Sem (Array Keyed):=sortPriv% PySem.Builtin.mergeHi
def MD:Nat->StateT SortSt Sem Unit:=sortPriv% PySem.Builtin.setMinGallop
noncomputable abbrev wh(st:SortSt)(g:Nat):SortSt:=AQ (kindOf st) (arrOf st) (a9 st) g (failedOf st)
structure Rk(prog:aN)(w:aR)(A:a4)(s:ag)(kd:SortKind)(D:Keyed->Prop)(rk:Keyed->Nat):Prop where
 lt:∀x y,D x->D y->∀(E:af->ag->Prop) (Q:Bool->ag->Prop),Q (decide (rk x<rk y)) s->au (model prog w) A (keyLt' kd x.1 y.1) Q E s
section
variable {prog:aN}{w:aR}{A:a4}{E:af->ag->Prop}{s:ag}{kd:SortKind}{D:Keyed->Prop}{rk:Keyed->Nat}{st:SortSt}
theorem JH{σ:Type}{M:Model}{x:σ}{Q:PUnit->σ->Prop}{st:σ}(h:Q ⟨⟩ x):wpS M A E s (set x:StateT σ Sem PUnit) Q st:=by
 unfold wpS;rw[StateT.run_set];exact am ⟨rfl,h⟩
theorem pQ(R:Rk prog w A s kd D rk){Q:Option Bool->SortSt->Prop}(a:kindOf st=kd)(b:D x)(c:D y)(h:Q (aa (decide (rk x<rk y))) st):wpS (model prog w) A E s (lt' x y) Q st:=by
 rw[lt'_eq];refine az (wpS_get ?_);rw[a];refine az (wpS_lift (wpAny_attempt (R.lt x y b c _ _ ⟨rfl,?_⟩)));exact aF h
theorem xI{arr:Array Keyed}{i:Nat}{Q:Keyed->SortSt->Prop}(hi:i<arr.size)(h:Q arr[i] st):wpS (model prog w) A E s (elem' arr i) Q st:=by
 rw[elem'_eq,getElem?_pos arr i hi];exact aF h
theorem qe{r:String}{Q:Unit->SortSt->Prop}(h:Q () st):wpS (model prog w) A E s (liftM (rule r):StateT SortSt Sem Unit) Q st:=wpS_lift (wpAny_rule ⟨rfl,h⟩)
theorem lA{g:Nat}{Q:Unit->SortSt->Prop}(h:Q () (wh st g)):wpS (model prog w) A E s (MD g) Q st:=wpS_modify h
noncomputable def uM(rk:Keyed->Nat)(b:Bool)(c:Keyed)(arr:Array Keyed)(a i:Nat):Bool:=if b then decide ((arr[a+i]?.map rk).getD 0<rk c)else !decide (rk c<(arr[a+i]?.map rk).getD 0)
theorem JB(R:Rk prog w A s kd D rk){c:Bool}{arr:Array Keyed}{a i:Nat}{Q:Option Bool->SortSt->Prop}(d:kindOf st=kd)(hD:∀x∈arr,D x)(f:D key)(hi:a+i<arr.size)(h:Q (aa (uM rk c key arr a i)) st) :
 wpS (model prog w) A E s (elem' arr (a+i) >>= λx=>if c=true then lt' x key else lt' key x >>= λq=>pure (Fb (λb=>!b) q)) Q st:=by
  have e:arr[a+i]? =aa arr[a+i]:=getElem?_pos arr _ hi;unfold uM at h;rw[e]at h;refine az (xI hi ?_);cases c with
  |true=>exact pQ R d (hD _ (eh hi)) f h
  |false=>exact az (pQ R d f (hD _ (eh hi)) (aF h))
theorem cZ{n:Nat}{f:Nat->Option (Option Nat)×Nat×Nat->StateT SortSt Sem (ForInStep (Option (Option Nat)×Nat×Nat))}{g:Option (Option Nat)×Nat×Nat->StateT SortSt Sem (Option Nat)}{B:Nat->Bool}{Q:Option Nat->SortSt->Prop}{lo hi:Nat}
  (b:∀i j,i<=j->j<n->B j=true->B i=true)
  (stop:∀x lo hi (P:ForInStep (Option (Option Nat)×Nat×Nat)->SortSt->Prop),lo ≥ hi->P (.done (ab,lo,hi)) st->wpS (model prog w) A E s (f x (ab,lo,hi)) P st)
  (t:∀x lo hi (P:ForInStep (Option (Option Nat)×Nat×Nat)->SortSt->Prop),¬ lo ≥ hi->hi<=n->(B (lo+(hi-lo) / 2)=true->P (.yield (ab,lo+(hi-lo) / 2+1,hi)) st)->(B (lo+(hi-lo) / 2)=false->P (.yield (ab,lo,lo+(hi-lo) / 2)) st)->wpS (model prog w) A E s (f x (ab,lo,hi)) P st)
  (out:∀k,Q (aa k) st->wpS (model prog w) A E s (g (ab,k,k)) Q st)
  (h1:lo<=hi) (d:hi<=n) (p:∀i,i<lo->B i=true) (e:∀i,hi<=i->i<n->B i=false)
  (h:∀k,k<=n->(∀i,i<k->B i=true)->(∀i,k<=i->i<n->B i=false)->Q (aa k) st):wpS (model prog w) A E s (forIn [0:n] (ab,lo,hi) f >>= g) Q st:=by
 refine az (wpS_mono (im (I:=λx c a=>a=st/\∃lo hi,c=(ab,lo,hi)/\lo<=hi/\hi<=n/\hi-lo<=n-x/\(∀i,i<lo->B i=true)/\(∀i,hi<=i->i<n->B i=false))
  (Q:=λc a=>a=st/\∃k,c=(ab,k,k)/\k<=n/\(∀i,i<k->B i=true)/\(∀i,k<=i->i<n->B i=false)) ?step ?z9 ⟨rfl,lo,hi,rfl,h1,d,by lia,p,e⟩) ?post)
 case post=>
  rintro c a ⟨rfl,k,rfl,u,v,y⟩;exact out k (h k u v y)
 case z9=>
  rintro c a ⟨rfl,lo,hi,rfl,h1,d,p,e,m⟩;have:lo=hi:=by lia
  subst this;exact⟨rfl,lo,rfl,d,e,m⟩
 case step=>
  rintro x c a _ G ⟨rfl,lo,hi,rfl,h1,d,p,e,m⟩;by_cases l:lo ≥ hi
  ·have:lo=hi:=by lia
   subst this;exact stop x lo lo _ l ⟨rfl,lo,rfl,d,e,m⟩
  ·refine t x lo hi _ l d (λo=>?_) λo=>?_
   ·exact⟨rfl,_,_,rfl,by lia,d,by lia,λi z=>b i (lo+(hi-lo) / 2) (by lia) (by lia) o,m⟩
   ·refine⟨rfl,_,_,rfl,by lia,by lia,by lia,e,λi q r=>?_⟩;cases C:B i with
    |false=>rfl
    |true=>rw[b _ i q r C]at o;cases o
theorem XJ(R:Rk prog w A s kd D rk){l:Bool}{arr:Array Keyed}{g n hint:Nat}{Q:Option Nat->SortSt->Prop}(S:kindOf st=kd)(hD:∀x∈arr,D x)(T:D key)(hn:g+n<=arr.size)(U:hint<n)
 (m:∀i j,i<=j->j<n->uM rk l key arr g j=true->uM rk l key arr g i=true)
 (h:∀k,k<=n->(∀i,i<k->uM rk l key arr g i=true)->(∀i,k<=i->i<n->uM rk l key arr g i=false)->Q (aa k) st) :
 wpS (model prog w) A E s (jk l key arr g n hint) Q st:=by
  generalize Y:uM rk l key arr g=B at m h;have p:∀(i:Nat) (Q:Option Bool->SortSt->Prop),i<n->Q (aa (B i)) st->wpS (model prog w) A E s (elem' arr (g+i) >>= λx=>if l=true then lt' x key else lt' key x >>= λq=>pure (Fb (λb=>!b) q)) Q st:=λi Q v Z=>
    JB R S hD T (by lia) (by rw[Y];exact Z)
  refine az (p hint _ U ?_);dsimp only;cases O:B hint with
  |true=>
    rw[if_pos rfl];refine az (wpS_mono (im (I:=λx c e=>e=st/\∃d a,c=(ab,d,a)/\d<a/\x<a/\d<n-hint/\B (hint+d)=true)
      (Q:=λc e=>e=st/\∃d a,c=(ab,d,a)/\d<a/\d<n-hint/\B (hint+d)=true/\(a<n-hint->B (hint+a)=false)) ?step1 ?fin1 ⟨rfl,0,1,rfl,by lia,by lia,by lia,O⟩) ?post1)
    case fin1=>
      rintro c e ⟨rfl,d,a,rfl,r,C,t,o⟩;exact⟨rfl,d,a,rfl,r,t,o,λh=>by lia⟩
    case step1=>
      rintro x c e _ hx ⟨rfl,d,a,rfl,r,C,t,o⟩;dsimp only;by_cases f:a ≥ n-hint
      · rw[if_pos f];exact aF ⟨rfl,d,a,rfl,r,t,o,λh=>by lia⟩
      · rw[if_neg f];refine az (p _ _ (by lia) ?_);dsimp only;cases u:B (hint+a)with
        |true=>
          simp only[BU,ei,if_false];exact aF ⟨rfl,_,_,rfl,by lia,by lia,by lia,u⟩
        |false=>
          simp only[Bool.not_false,if_true];exact aF ⟨rfl,d,a,rfl,r,t,o,λ_=>u⟩
    case post1=>
      rintro c e ⟨rfl,d,a,rfl,r,t,o,H⟩;dsimp only;refine cZ (lo:=hint+d+1) (hi:=hint+min a (n-hint)) m (λx y v P f J=>by
        dsimp only;rw[if_pos f];exact aF J) (λx y v P f C K L=>by
        dsimp only;rw[if_neg f];refine az (p _ _ (by lia) ?_);dsimp only;cases u:B (y+(v-y) / 2)with
        |true=>rw[if_pos rfl];exact aF (K u)
        |false=>rw[if_neg (by simp)];exact aF (L u)) (λk M=>aF M) (by lia) (by lia) (λi v=>m i (hint+d) (by lia) (by lia) o) (λi G z=>?_) h
      have ho:a<n-hint:=by lia
      cases N:B i with
      |false=>rfl
      |true=>have:=m (hint+a) i (by lia) z N;rw[H ho]at this;cases this
  |false=>
    rw[if_neg (by simp)];refine az (wpS_mono (im (I:=λx c e=>e=st/\∃d a,c=(ab,d,a)/\d<a/\x<a/\d<hint+1/\B (hint-d)=false)
      (Q:=λc e=>e=st/\∃d a,c=(ab,d,a)/\d<a/\d<hint+1/\B (hint-d)=false/\(a<hint+1->B (hint-a)=true)) ?step2 ?fin2 ⟨rfl,0,1,rfl,by lia,by lia,by lia,O⟩) ?post2)
    case fin2=>
      rintro c e ⟨rfl,d,a,rfl,r,C,t,o⟩;exact⟨rfl,d,a,rfl,r,t,o,λh=>by lia⟩
    case step2=>
      rintro x c e _ hx ⟨rfl,d,a,rfl,r,C,t,o⟩;dsimp only;by_cases f:a ≥ hint+1
      · rw[if_pos f];exact aF ⟨rfl,d,a,rfl,r,t,o,λh=>by lia⟩
      · rw[if_neg f];refine az (p _ _ (by lia) ?_);dsimp only;cases u:B (hint-a)with
        |true=>
          rw[if_pos rfl];exact aF ⟨rfl,d,a,rfl,r,t,o,λ_=>u⟩
        |false=>
          rw[if_neg (by simp)];exact aF ⟨rfl,_,_,rfl,by lia,by lia,by lia,u⟩
    case post2=>
      rintro c e ⟨rfl,d,a,rfl,r,t,o,H⟩;dsimp only;refine cZ (lo:=hint+1-min a (hint+1)) (hi:=hint-d) m (λx y v P f J=>by
        dsimp only;rw[if_pos f];exact aF J) (λx y v P f C K L=>by
        dsimp only;rw[if_neg f];refine az (p _ _ (by lia) ?_);dsimp only;cases u:B (y+(v-y) / 2)with
        |true=>rw[if_pos rfl];exact aF (K u)
        |false=>rw[if_neg (by simp)];exact aF (L u)) (λk M=>aF M) (by lia) (by lia) (λi v=>?_) (λi G z=>?_) h
      · exact m i (hint-a) (by lia) (by lia) (H (by lia))
      · cases N:B i with
        |false=>rfl
        |true=>have:=m (hint-d) i G z N;rw[o]at this;cases this
end
end L2

namespace L2
open PySem PySem.Spec PyProof.Rows
section
variable {prog:aN}{w:aR}{A:a4}{E:af->ag->Prop}{s:ag}{kd:SortKind}{D:Keyed->Prop}{rk:Keyed->Nat}{st:SortSt}
noncomputable def kA(rk:Keyed->Nat)(xs:Array Keyed)(i:Nat):Nat:=(xs[i]?.map rk).getD 0
theorem xE{xs:Array Keyed}{i:Nat}(h:i<xs.size):kA rk xs i=rk xs[i]:=by
 unfold kA;rw[getElem?_pos xs i h];rfl
def Up(rk:Keyed->Nat)(xs:Array Keyed)(lo hi:Nat):Prop:=∀i j,lo<=i->i<=j->j<hi->kA rk xs i<=kA rk xs j
theorem sH{xs:Array Keyed}{lo hi:Nat}(h:hi<=xs.size):(xs.extract lo hi).size=hi-lo:=by rw[BJ,i7 h]
structure MgR(r:Keyed->Keyed->Prop)(all:List Keyed)(out:Array Keyed)(rest:List Keyed):Prop where
 perm:(out.toList++rest).Perm all
 srt:out.toList.Pairwise r
 low:∀x∈out.toList,∀y∈rest,r x y
abbrev Mg(rk:Keyed->Nat):=MgR λx y=>rk x<=rk y
theorem MgR.take{r:Keyed->Keyed->Prop}{rest rest':List Keyed}{c:Array Keyed}(M:MgR r all out rest)(p:rest.Perm (c.toList++rest'))(d:c.toList.Pairwise r)(e:∀x∈c.toList,∀y∈rest',r x y):MgR r all (out++c) rest':=by
 refine⟨?_,?_,?_⟩
 ·rw[o9,eG];exact(p.symm.append_left _).trans M.perm
 ·rw[o9,Aw];exact⟨M.srt,d,λx a y b=>M.low x a y (p.mem_iff.mpr (em _ b))⟩
 ·intro x a y b;rw[o9]at a;rcases ed.mp a with a|a
  ·exact M.low x a y (p.mem_iff.mpr (aE _ b))
  ·exact e x a y b
theorem MgR.swap{r:Keyed->Keyed->Prop}(M:MgR r all out (ra++rb)):MgR r all out (rb++ra):=by
 have h:=M.take (c:=#[]) (rest':=rb++ra) Bi .nil (λx a=>by cases a);rwa [Ad]at h
theorem Mg.swap(M:Mg rk all out (ra++rb)):Mg rk all out (rb++ra):=MgR.swap M
theorem Zu{xs:Array Keyed}{i:Nat}{x:Keyed}(h:x∈xs.toList.drop i):∃j,i<=j/\j<xs.size/\kA rk xs j=rk x:=by
 obtain⟨j,b,rfl⟩:=oR.mp h;rw[iN]at b;have a:i+j<xs.size:=by have:xs.toList.length=xs.size:=aG;lia
 refine⟨i+j,by lia,a,?_⟩;rw[xE a,Dy];rfl
theorem pz{xs:Array Keyed}{i k:Nat}{x:Keyed}(h:x∈(xs.extract i k).toList):∃j,i<=j/\j<k/\j<xs.size/\kA rk xs j=rk x:=by
 obtain⟨j,e,rfl⟩:=oR.mp h;have d:j<(xs.extract i k).size:=by rw[aG]at e;exact e
 have a:=d;rw[BJ]at a;have b:i+j<min k xs.size:=AM i j ▸ oT a;have c:i+j<xs.size:=aT b (AA _ _);refine⟨i+j,iO _ _,aT b (D2 _ _),c,?_⟩;rw[xE c,oP,oJ]
theorem cy{xs:Array Keyed}{i k:Nat}(h:Up rk xs i k):(xs.extract i k).toList.Pairwise λx y=>rk x<=rk y:=by
 rw[oS];intro a b d e c;have l:a<(xs.extract i k).size:=by rw[aG]at d;exact d
 have m:b<(xs.extract i k).size:=by rw[aG]at e;exact e
 have f:=l;have g:=m;rw[BJ]at f g;have n:i+a<min k xs.size:=AM i a ▸ oT f;have j:i+b<min k xs.size:=AM i b ▸ oT g;have z:=h (i+a) (i+b) (iO _ _) (Aa (eE c) _) (aT j (D2 _ _));rw[xE (aT n (AA _ _)),xE (aT j (AA _ _))]at z;rw[oP,oP,oJ,oJ];exact z
theorem qE{xs:Array Keyed}{i k:Nat}(h:i<=k):xs.toList.drop i=(xs.extract i k).toList++xs.toList.drop k:=by
 rw[om,iW];have:xs.toList.drop k=(xs.toList.drop i).drop (k-i):=by rw[D8];congr 1;lia
 rw[this,Bj]
theorem Up.mono{lo hi d hi':Nat}(h:Up rk xs lo hi)(h1:lo<=d)(e:hi'<=hi):Up rk xs d hi':=λi j a b c=>h i j (by lia) b (by lia)
theorem Mg.runA{a b:Array Keyed}{i j k:Nat}(M:Mg rk all out (a.toList.drop i++b.toList.drop j))(h:i<=k)(l:k<=a.size)(f:Up rk a 0 a.size)(m:∀x y,i<=x->x<k->j<=y->y<b.size->kA rk a x<=kA rk b y):Mg rk all (out++a.extract i k) (a.toList.drop k++b.toList.drop j):=by
 refine M.take ?_ (cy (f.mono (aM _) l)) ?_
 ·rw[qE h,eG]
 ·intro x n y c;obtain⟨p,o,r,u,t⟩:=pz (rk:=rk) n;rw[<- t];rcases ed.mp c with c|c
  ·obtain⟨q,g,d,e⟩:=Zu (rk:=rk) c;rw[<- e];exact f p q (aM _) (by lia) d
  ·obtain⟨q,g,d,e⟩:=Zu (rk:=rk) c;rw[<- e];exact m p q o r g d
theorem Mg.oneA{out a b:Array Keyed}{i j:Nat}(M:Mg rk all out (a.toList.drop i++b.toList.drop j))(c:i<a.size)(d:Up rk a 0 a.size)(f:∀y,j<=y->y<b.size->kA rk a i<=kA rk b y):Mg rk all (out.push a[i]) (a.toList.drop (i+1)++b.toList.drop j):=by
 have h:=M.runA (k:=i+1) (by lia) c d (λx y m n g l=>(show i=x by lia) ▸ f y g l);have e:out++a.extract i (i+1)=out.push a[i]:=by
  apply CY;rw[o9,BZ,om,iW,show i+1-i=1 by lia,ey (by simpa using c)];simp
 rwa [e]at h
theorem Mg.end_{out:Array Keyed}(M:Mg rk all out []):out.toList.Perm all/\out.toList.Pairwise λx y=>rk x<=rk y:=⟨by simpa using M.perm,M.srt⟩
theorem gA(R:Rk prog w A s kd D rk){arr:Array Keyed}{a n b:Nat}{Q:Option Nat->SortSt->Prop}(e:kindOf st=kd)(hD:∀x∈arr,D x)(f:D key)(hn:a+n<=arr.size)(g:b<n)(l:Up rk arr a (a+n))
 (h:∀k,k<=n->(∀i,a<=i->i<a+k->kA rk arr i<=rk key)->(∀i,a+k<=i->i<a+n->rk key<kA rk arr i)->Q (aa k) st):wpS (model prog w) A E s (jk false key arr a n b) Q st:=by
  have c:∀i,uM rk false key arr a i=!decide (rk key<kA rk arr (a+i)):=λi=>rfl;refine XJ R e hD f hn g (λi j m u d=>?_) λk o p q=>h k o (λi r t=>?_) λi r t=>?_
  · rw[c]at d ⊢;have:=l (a+i) (a+j) (by lia) (by lia) (by lia);simp only[Dw,decide_eq_false_iff_not]at d ⊢;lia
  · have:=p (i-a) (by lia);rw[c,show a+(i-a)=i by lia]at this;simp only[Dw,decide_eq_false_iff_not]at this;lia
  · have:=q (i-a) (by lia) (by lia);rw[c,show a+(i-a)=i by lia]at this;simpa using this
theorem gz(R:Rk prog w A s kd D rk){arr:Array Keyed}{a n b:Nat}{Q:Option Nat->SortSt->Prop}(e:kindOf st=kd)(hD:∀x∈arr,D x)(f:D key)(hn:a+n<=arr.size)(g:b<n)(l:Up rk arr a (a+n))
 (h:∀k,k<=n->(∀i,a<=i->i<a+k->kA rk arr i<rk key)->(∀i,a+k<=i->i<a+n->rk key<=kA rk arr i)->Q (aa k) st):wpS (model prog w) A E s (jk true key arr a n b) Q st:=by
  have c:∀i,uM rk true key arr a i=decide (kA rk arr (a+i)<rk key):=λi=>rfl;refine XJ R e hD f hn g (λi j m u d=>?_) λk o p q=>h k o (λi r t=>?_) λi r t=>?_
  · rw[c]at d ⊢;have:=l (a+i) (a+j) (by lia) (by lia) (by lia);simp only[decide_eq_true_eq]at d ⊢;lia
  · have:=p (i-a) (by lia);rw[c,show a+(i-a)=i by lia]at this;simpa using this
  · have:=q (i-a) (by lia) (by lia);rw[c,show a+(i-a)=i by lia]at this;simp only[decide_eq_false_iff_not]at this;lia
def vq(rk:Keyed->Nat)(a b out:Array Keyed):Prop:=out.toList.Perm (a.toList++b.toList)/\out.toList.Pairwise λx y=>rk x<=rk y
theorem nI{xs:Array Keyed}{k:Nat}(h:xs.size<=k):xs.toList.drop k=[]:=AY (by simpa using h)
theorem Mg.finB{a b:Array Keyed}{i j:Nat}(M:Mg rk (a.toList++b.toList) out (a.toList.drop i++b.toList.drop j))(d:Up rk a 0 a.size)(e:Up rk b 0 b.size)(hi:i<=a.size)(f:j=b.size):vq rk a b (out++a.extract i a.size++b.extract j b.size):=by
 have c:=(M.runA (k:=a.size) hi (aj _) d (λx y _ _ g h=>by lia)).swap.runA (k:=b.size) (by lia) (aj _) e (λx y l m _ _=>by lia);rw[nI (aj _),nI (aj _)]at c;exact c.end_
theorem Mg.finA{a b:Array Keyed}{i j:Nat}(M:Mg rk (a.toList++b.toList) out (a.toList.drop i++b.toList.drop j))(e:Up rk a 0 a.size)(f:Up rk b 0 b.size)(hi:i+1=a.size)(g:j<=b.size)(h:∀y,y<b.size->kA rk b y<kA rk a (a.size-1)):vq rk a b (out++b.extract j b.size++a.extract i a.size):=by
 have c:=(M.swap.runA (k:=b.size) g (aj _) f (λx y l d m n=>by
  have:y=a.size-1:=by lia
  subst this;exact eE (h x d))).swap.runA (k:=a.size) (by lia) (aj _) e (λx y l d m n=>by lia)
 rw[nI (aj _),nI (aj _)]at c;exact c.end_
theorem qI{xs:Array Keyed}{i:Nat}:xs.extract i i=#[]:=by
 apply CY;rw[om,iW,ou,D9]
section
variable {M:Model}{α σ β γ:Type}{Q:α->σ->Prop}{st:σ}{c:Prop}{_:Decidable c}{c1 c2:γ->Prop}{_:∀x,Decidable (c1 x)}{_:∀x,Decidable (c2 x)}{p2:γ->Prop}{p1:γ->β->Prop}{r r2 f:β->γ->StateT σ Sem α}{y1:β}{y2:γ}
theorem XR{b:β}{f:β->StateT σ Sem α}(h:∀g,wpS M A E s (f g) Q st):∀a,wpS M A E s (if c then f a else f b) Q st:=by
 intro a;split <;> exact h _
theorem XM(h1:∀a x2,p2 x2->p1 x2 a->c->c1 x2->wpS M A E s (r a x2) Q st)(h:∀d b,(c/\p2 b/\p1 b d/\¬ c1 b)\/(¬ c/\d=y1/\b=y2)->wpS M A E s (f d b) Q st) :
  ∀x2,p2 x2->∀a,p1 x2 a->wpS M A E s (if c then if c1 x2 then r a x2 else f a x2 else f y1 y2) Q st:=by
 intro x2 i a j;split
 ·rename_i e;split
  ·rename_i g;exact h1 _ _ i j e g
  ·rename_i g;exact h _ _ (.inl ⟨e,i,j,g⟩)
 ·rename_i e;exact h _ _ (.inr ⟨e,rfl,rfl⟩)
theorem XN(k:∀x2,p2 x2->c->¬ c2 x2)(h1:∀a x2,p2 x2->p1 x2 a->c->c1 x2->wpS M A E s (r a x2) Q st)(h:∀d b,(c/\p2 b/\p1 b d/\¬ c1 b)\/(¬ c/\d=y1/\b=y2)->wpS M A E s (f d b) Q st) :
  ∀x2,p2 x2->∀a,p1 x2 a->wpS M A E s (if c then if c1 x2 then r a x2 else if c2 x2 then r2 a x2 else f a x2 else f y1 y2) Q st:=by
 intro x2 g a j;split
 ·rename_i e;rw[if_neg (k _ g e)];split
  ·rename_i i;exact h1 _ _ g j e i
  ·rename_i i;exact h _ _ (.inl ⟨e,g,j,i⟩)
 ·rename_i e;exact h _ _ (.inr ⟨e,rfl,rfl⟩)
end
theorem cr{e a b c d:Type}{R:a->b->c->d->Prop}{P:Option e×a×b×c×d->SortSt->Prop}(h:∀g x y z u,R x y z u->P (ab,x,y,z,u) (wh st g)):∀C t,((∃g,t=wh st g)/\∃x y z u,C=(ab,x,y,z,u)/\R x y z u)->P C t:=by
 rintro _ _ ⟨⟨g,rfl⟩,x,y,z,u,rfl,r⟩;exact h g x y z u r
theorem cx{i a b c d e f:Type}{R:a->b->c->d->e->f->Prop}{P:Option i×a×b×c×d×e×f->SortSt->Prop}(h:∀g x y z u v w,R x y z u v w->P (ab,x,y,z,u,v,w) (wh st g)):∀C t,((∃g,t=wh st g)/\∃x y z u v w,C=(ab,x,y,z,u,v,w)/\R x y z u v w)->P C t:=by
 rintro _ _ ⟨⟨g,rfl⟩,x,y,z,u,v,w,rfl,r⟩;exact h g x y z u v w r
theorem cw{f a b c d e:Type}{q:SortSt}{R:a->b->c->d->e->Prop}{W:f->Prop}{P:Option f×a×b×c×d×e->SortSt->Prop}(h:∀x y z u v,R x y z u v->P (ab,x,y,z,u,v) q)(k:∀r z,W r->P (aa r,z) q):∀C t,(t=q/\((∃x y z u v,C=(ab,x,y,z,u,v)/\R x y z u v)\/∃r z,C=(aa r,z)/\W r))->P C t:=by
 rintro _ _ ⟨rfl,⟨x,y,z,u,v,rfl,r⟩|⟨r,z,rfl,o⟩⟩
 ·exact h x y z u v r
 ·exact k r z o
theorem cv{f a b c d e:Type}{q:SortSt}{R:a->b->c->d->e->Prop}{P:Option f×a×b×c×d×e->SortSt->Prop}(h:∀x y z u v,R x y z u v->P (ab,x,y,z,u,v) q):∀C t,(t=q/\∃x y z u v,C=(ab,x,y,z,u,v)/\R x y z u v)->P C t:=by
 rintro _ _ ⟨rfl,x,y,z,u,v,rfl,r⟩;exact h x y z u v r
theorem JF(R:Rk prog w A s kd D rk){a b:Array Keyed}{Q:Array Keyed->SortSt->Prop}(hk:kindOf st=kd)(T:∀x∈a,D x)(U:∀x∈b,D x)(u:Up rk a 0 a.size)(v:Up rk b 0 b.size)(ha:1<=a.size)(hb:1<=b.size)
  (h0:kA rk b 0<=kA rk a 0) (hl:∀y,y<b.size->kA rk b y<kA rk a (a.size-1))
  (h:∀f g,f.toList.Perm (a.toList++b.toList)->(f.toList.Pairwise λx y=>rk x<=rk y)->Q f (wh st g)):wpS (model prog w) A E s (Rr a b) Q st:=by
 refine az (qe ?_);refine az (xI hb ?_);have M0:Mg rk (a.toList++b.toList) #[b[0]] (a.toList.drop 0++b.toList.drop 1):=by
  have B:Mg rk (a.toList++b.toList) #[] (b.toList.drop 0++a.toList.drop 0):=⟨by simpa using Bi,.nil,λx hx=>by cases hx⟩
  exact(B.oneA hb v (λy _ hy=>aH h0 (u 0 y (aj _) (aM _) hy))).swap
 have L:∀{f:Array Keyed} {g:Nat},vq rk a b f->Q f (wh st g):=λS=>h _ _ S.1 S.2;dsimp only;by_cases Y:1=b.size
 ·rw[if_pos (by simpa using Y)];exact aF (L (g:=gallopOf st) (M0.finB u v (aM _) Y))
 rw[if_neg (by simpa using Y)];by_cases Z:0+1=a.size
 ·rw[if_pos (by simpa using Z)];exact aF (L (g:=gallopOf st) (M0.finA u v Z hb hl))
 rw[if_neg (by simpa using Z)];refine az (wpS_get ?_);refine az (wpS_mono (im (I:=λx c i=>(∃g,i=wh st g)/\∃f N O P,c=(ab,f,N,O,P)/\x+1<=N+O/\N+1<a.size/\O<b.size/\Mg rk (a.toList++b.toList) f (a.toList.drop N++b.toList.drop O))
  (Q:=λc i=>(∃g,i=wh st g)/\∃r z,c=(aa r,z)/\vq rk a b r) ?step ?z9 ⟨⟨gallopOf st,rfl⟩,_,_,_,_,rfl,by lia,by lia,by lia,M0⟩) ?post)
 case post=>
  rintro c i ⟨⟨g,rfl⟩,r,z,rfl,S⟩;exact aF (L S)
 case z9=>
  rintro c i ⟨_,f,N,O,P,rfl,B,t,j,_⟩;exfalso;lia
 case step=>
  intro x c i _ hx;revert c i;refine cr λg f N O P H=>?_;have B:=H.1;have t:=H.2.1;have j:=H.2.2.1;have M:=H.2.2.2;dsimp only;refine az (wpS_mono (im (I:=λy c i=>i=wh st g/\∃f ia' d J bc,c=(ab,f,ia',d,J,bc)/\N+O+y<=ia'+d/\ia'+1<a.size/\d<b.size/\Mg rk (a.toList++b.toList) f (a.toList.drop ia'++b.toList.drop d))
   (Q:=λc i=>i=wh st g/\((∃f ia' d J bc,c=(ab,f,ia',d,J,bc)/\N+O+1<=ia'+d/\ia'+1<a.size/\d<b.size/\Mg rk (a.toList++b.toList) f (a.toList.drop ia'++b.toList.drop d))\/∃r z,c=(aa r,z)/\vq rk a b r)) ?step1 ?fin1 ⟨rfl,_,_,_,_,_,rfl,by lia,t,j,M⟩) ?post1)
  case fin1=>
   rintro c i ⟨rfl,f,ia',d,J,bc,rfl,B,t,j,M⟩;exact⟨rfl,.inl ⟨_,_,_,_,_,rfl,by lia,t,j,M⟩⟩
  case step1=>
   intro y c i _ hy;revert c i;refine cv λf ia' d J bc H=>?_;have B:=H.1;have t:=H.2.1;have j:=H.2.2.1;have M:=H.2.2.2;dsimp only;have C:ia'<a.size:=by lia
   refine az (xI j ?_);refine az (xI C ?_);refine az (pQ R hk (U _ (eh j)) (T _ (eh C)) ?_);dsimp only;rw[<- xE (rk:=rk) j,<- xE (rk:=rk) C];by_cases hw:kA rk b d<kA rk a ia'
   ·rw[decide_eq_true hw,if_pos rfl];refine az (xI j ?_);have K:=(M.swap.oneA j v (λy B t=>aH (eE hw) (u ia' y (aM _) B t))).swap;by_cases q:d+1=b.size
    ·rw[if_pos (by simpa using q)];exact aF ⟨rfl,.inr ⟨_,_,rfl,K.finB u v (by lia) q⟩⟩
    ·rw[if_neg (by simpa using q)];split
     ·exact aF ⟨rfl,.inl ⟨_,_,_,_,_,rfl,by lia,t,by lia,K⟩⟩
     ·exact aF ⟨rfl,_,_,_,_,_,rfl,by lia,t,by lia,K⟩
   ·rw[decide_eq_false hw,if_neg (by simp)];refine az (xI C ?_);have K:=M.oneA C u (λy B t=>aH (by lia) (v d y (aM _) B t));by_cases q:ia'+1+1=a.size
    ·rw[if_pos (by simpa using q)];exact aF ⟨rfl,.inr ⟨_,_,rfl,K.finA u v q (by lia) hl⟩⟩
    ·rw[if_neg (by simpa using q)];split
     ·exact aF ⟨rfl,.inl ⟨_,_,_,_,_,rfl,by lia,by lia,j,K⟩⟩
     ·exact aF ⟨rfl,_,_,_,_,_,rfl,by lia,by lia,j,K⟩
  case post1=>
   refine cw (λf ia' d J bc H=>?_) λr z S=>?_
   ·have B:=H.1;have t:=H.2.1;have j:=H.2.2.1;have M:=H.2.2.2;dsimp only;refine az (qe ?_);refine az (wpS_mono (im (I:=λy c i=>(∃g,i=wh st g)/\∃f m n P J bc,c=(ab,f,m,n,P,J,bc)/\N+O+1<=m+n/\m+1<a.size/\n<b.size/\Mg rk (a.toList++b.toList) f (a.toList.drop m++b.toList.drop n))
     (Q:=λc i=>(∃g,i=wh st g)/\((∃f m n P J bc,c=(ab,f,m,n,P,J,bc)/\N+O+1<=m+n/\m+1<a.size/\n<b.size/\Mg rk (a.toList++b.toList) f (a.toList.drop m++b.toList.drop n))\/∃r z,c=(aa r,z)/\vq rk a b r)) ?step2 ?fin2 ⟨⟨g,rfl⟩,_,_,_,_,_,_,rfl,B,t,j,M⟩) ?post2)
    case fin2=>
     rintro c i ⟨hg,z⟩;exact⟨hg,.inl z⟩
    case post2=>
     rintro c i ⟨⟨g,rfl⟩,⟨f,m,n,P,J,bc,rfl,B,t,j,M⟩|⟨r,z,rfl,S⟩⟩
     ·dsimp only;exact az (lA (aF ⟨⟨_,rfl⟩,_,_,_,_,rfl,by lia,t,j,M⟩))
     ·exact aF ⟨⟨_,rfl⟩,_,_,rfl,S⟩
    case step2=>
     clear B t j M;intro y c i _ hy;revert c i;refine cx λg f ia' d P J bc H=>?_;have B:=H.1;have t:=H.2.1;have j:=H.2.2.1;have M:=H.2.2.2;dsimp only;have C:ia'<a.size:=by lia
     generalize P-1=mg';revert mg';refine XR ?_;intro g';refine az (lA ?_);refine az (xI j ?_);refine az (gA R hk T (U _ (eh j)) (by lia) (by lia) (u.mono (aM _) (by lia)) λk k1 k2 k3=>?_);rw[<- xE (rk:=rk) j]at k2 k3;have G:ia'+k<a.size:=by
      refine Bf λhc=>?_;have o:=k2 (a.size-1) (by lia) (by lia);have p:=hl d j;lia
     have K:=M.runA (k:=ia'+k) (by lia) (by lia) u (λx y x1 x2 y1 y2=>aH (k2 x x1 x2) (v d y (aM _) y1 y2));have k4:∀y,ia'+k<=y->y<a.size->kA rk b d<=kA rk a y:=λy y1 y2=>eE (k3 y y1 (by lia));have z0:k=0->f++a.extract ia' (ia'+k)=f/\ia'+k=ia':=λe=>by
      subst e;rw[Bu,qI,Ad];exact⟨rfl,rfl⟩
     clear k1 k2 k3;dsimp only;generalize hj1:ia'+k=j1;generalize ho1:f++a.extract ia' j1=o1;revert o1 j1;refine XN (λj1 o _=>by subst o;simp;lia) (λo1 j1 o p _ q=>?_) λo2 j2 hz=>?_
     ·subst o;subst p;exact aF ⟨⟨_,rfl⟩,.inr ⟨_,_,rfl,K.finA u v (by simpa using q) (by lia) hl⟩⟩
     have hz':o2=f++a.extract ia' (ia'+k)/\j2=ia'+k/\¬ j2+1=a.size:=by
      rcases hz with ⟨_,o,p,q⟩|⟨q,o,p⟩
      ·subst o;exact⟨p.symm,rfl,by simpa using q⟩
      ·obtain⟨q1,q2⟩:=z0 (by lia);rw[q1,q2];exact⟨o,p,by lia⟩
     clear hz z0;obtain⟨o,p,q⟩:=hz';rw[<- o,<- p]at K;rw[<- p]at G k4;have hj2:ia'<=j2:=by lia
     clear o p;refine az (xI j ?_);have M2:=(K.swap.oneA j v k4).swap;by_cases he2:d+1=b.size
     ·rw[if_pos (by simpa using he2)];exact aF ⟨⟨_,rfl⟩,.inr ⟨_,_,rfl,M2.finB u v (by lia) he2⟩⟩
     rw[if_neg (by simpa using he2)];refine az (xI G ?_);refine az (gz R hk U (T _ (eh G)) (by lia) (by lia) (v.mono (aM _) (by lia)) λl l1 l2 l3=>?_);rw[<- xE (rk:=rk) G]at l2 l3;have M3:=(M2.swap.runA (k:=d+1+l) (by lia) (by lia) v (λx y x1 x2 y1 y2=>aH (eE (l2 x x1 x2)) (u _ y (aM _) y1 y2))).swap;have l4:∀y,d+1+l<=y->y<b.size->kA rk a j2<=kA rk b y:=λy y1 y2=>l3 y y1 (by lia);have hll:d+1+l<=b.size:=by lia
     generalize o2.push b[d]=o3 at M3 ⊢;have z0:l=0->o3++b.extract (d+1) (d+1+l)=o3/\d+1+l=d+1:=λe=>by
      subst e;rw[Bu,qI,Ad];exact⟨rfl,rfl⟩
     clear l1 l2 l3 M2 K;dsimp only;generalize hj3:d+1+l=j3;generalize ho4:o3++b.extract (d+1) j3=o4;revert o4 j3;refine XM (λo4 j3 o p _ q=>?_) λo5 j5 hz=>?_
     ·subst o;subst p;exact aF ⟨⟨_,rfl⟩,.inr ⟨_,_,rfl,M3.finB u v (by lia) (by simpa using q)⟩⟩
     have hz':o5=o3++b.extract (d+1) (d+1+l)/\j5=d+1+l/\¬ j5=b.size:=by
      rcases hz with ⟨_,o,p,q⟩|⟨q,o,p⟩
      ·subst o;exact⟨p.symm,rfl,by simpa using q⟩
      ·obtain⟨q1,q2⟩:=z0 (by lia);rw[q1,q2];exact⟨o,p,by lia⟩
     clear hz z0;obtain⟨o,p,he3⟩:=hz';rw[<- o,<- p]at M3;rw[<- p]at hll l4;have hj5:d+1<=j5:=by lia
     clear o p;refine az (xI G ?_);have M4:=M3.oneA G u l4;split
     ·rename_i he4;exact aF ⟨⟨_,rfl⟩,.inr ⟨_,_,rfl,M4.finA u v (by simpa using he4) (by lia) hl⟩⟩
     ·rename_i he4;have he5:¬ _=a.size:=λe=>he4 (beq_iff_eq.mpr e);have b1:N+O+1<=j2+1+j5:=by lia
      have b2:j2+1+1<a.size:=by lia
      have b3:j5<b.size:=by lia
      split
      ·exact aF ⟨⟨_,rfl⟩,.inl ⟨_,_,_,_,_,_,rfl,b1,b2,b3,M4⟩⟩
      ·exact aF ⟨⟨_,rfl⟩,_,_,_,_,_,_,rfl,b1,b2,b3,M4⟩
   ·exact aF ⟨⟨_,rfl⟩,_,_,rfl,S⟩
end
end L2

namespace L2
open PySem PySem.Spec PyProof.Rows
section
variable {prog:aN}{w:aR}{A:a4}{E:af->ag->Prop}{s:ag}{kd:SortKind}{D:Keyed->Prop}{rk:Keyed->Nat}{st:SortSt}
abbrev Mh(rk:Keyed->Nat):=MgR λx y=>rk y<=rk x
theorem Mh.swap(M:Mh rk all out (ra++rb)):Mh rk all out (rb++ra):=MgR.swap M
theorem Zw{xs:Array Keyed}{n:Nat}{x:Keyed}(h:x∈xs.toList.take n):∃j,j<n/\j<xs.size/\kA rk xs j=rk x:=by
 have e:xs.toList.take n=(xs.extract 0 n).toList:=by rw[om,iW];rfl
 rw[e]at h;obtain⟨j,_,a,b,c⟩:=pz (rk:=rk) h;exact⟨j,a,b,c⟩
theorem LD{xs:Array Keyed}{k n:Nat}(h:k<=n):xs.toList.take n=xs.toList.take k++(xs.extract k n).toList:=by
 rw[om,iW,<- List.take_add,show k+(n-k)=n by lia]
theorem Mh.runA{a b:Array Keyed}{c e k:Nat}(M:Mh rk all out (a.toList.take c++b.toList.take e))(h:k<=c)(m:c<=a.size)(g:Up rk a 0 a.size)(n:∀x y,k<=x->x<c->y<e->y<b.size->kA rk b y<=kA rk a x):Mh rk all (out++(a.extract k c).reverse) (a.toList.take k++b.toList.take e):=by
 refine M.take ?_ ?_ ?_
 ·rw[LD h,Au];refine(Bi.append_right _).trans ?_;rw[eG];exact(DB _).symm.append_right _
 ·rw[Au,CS];exact cy (g.mono (aM _) m)
 ·intro x i y d;rw[Au,List.mem_reverse]at i;obtain⟨p,o,r,t,u⟩:=pz (rk:=rk) i;rw[<- u];rcases ed.mp d with d|d
  ·obtain⟨q,j,l,f⟩:=Zw (rk:=rk) d;rw[<- f];exact g q p (aM _) (by lia) t
  ·obtain⟨q,j,l,f⟩:=Zw (rk:=rk) d;rw[<- f];exact n p q o r j l
theorem Mh.oneA{out a b:Array Keyed}{d c k:Nat}(M:Mh rk all out (a.toList.take d++b.toList.take c))(hn:k+1=d)(f:k<a.size)(g:Up rk a 0 a.size)(i:∀y,y<c->y<b.size->kA rk b y<=kA rk a k):Mh rk all (out.push a[k]) (a.toList.take k++b.toList.take c):=by
 subst hn;have h:=M.runA (k:=k) (by lia) f g (λx y m n j l=>(show k=x by lia) ▸ i y j l);have e:out++(a.extract k (k+1)).reverse=out.push a[k]:=by
  apply CY;rw[o9,BZ,Au,om,iW,show k+1-k=1 by lia,ey (by simpa using f)];simp
 rwa [e]at h
theorem Mh.end_{a b out r:Array Keyed}(M:Mh rk (a.toList++b.toList) out [])(e:r.toList=out.toList.reverse):vq rk a b r:=by
 refine⟨?_,?_⟩
 ·rw[e];exact(DB _).trans (by simpa using M.perm)
 ·rw[e,CS];exact M.srt
theorem Mh.finA{a b out:Array Keyed}{c d:Nat}(M:Mh rk (a.toList++b.toList) out (a.toList.take c++b.toList.take d))(i:Up rk a 0 a.size)(e:Up rk b 0 b.size)(hn:c=0)(f:d<=b.size):vq rk a b (a.extract 0 c++b.extract 0 d++out.reverse):=by
 subst hn;have g:=M.swap.runA (k:=0) (aM _) f e (λx y _ _ h _=>by lia);refine Mh.end_ g ?_;simp[qI]
theorem Mh.finB{a b out:Array Keyed}{c d:Nat}(M:Mh rk (a.toList++b.toList) out (a.toList.take c++b.toList.take d))(e:Up rk a 0 a.size)(f:Up rk b 0 b.size)(hn:d=1)(g:1<=b.size)(i:c<=a.size)(j:kA rk b 0<kA rk a 0):vq rk a b (b.extract 0 d++a.extract 0 c++out.reverse):=by
 subst hn;have l:=(M.runA (k:=0) (aM _) i e (λx y _ m n _=>by
  have:y=0:=by lia
  subst this;exact eE (aT j (e 0 x (aj _) (aM _) (by lia))))).swap.runA (k:=0) (aM _) g f (λx y _ _ h _=>by lia)
 refine Mh.end_ l ?_;simp
theorem JE(R:Rk prog w A s kd D rk){a b:Array Keyed}{Q:Array Keyed->SortSt->Prop}(hk:kindOf st=kd)(T:∀x∈a,D x)(U:∀x∈b,D x)(m:Up rk a 0 a.size)(p:Up rk b 0 b.size)(ha:1<=a.size)(hb:1<=b.size)
  (h0:kA rk b 0<kA rk a 0) (hl:∀y,y<b.size->kA rk b y<kA rk a (a.size-1))
  (h:∀out g,out.toList.Perm (a.toList++b.toList)->(out.toList.Pairwise λx y=>rk x<=rk y)->Q out (wh st g)):wpS (model prog w) A E s (Rq a b) Q st:=by
 refine az (qe ?_);have P:a.size-1<a.size:=by lia
 refine az (xI P ?_);have M0:Mh rk (a.toList++b.toList) #[a[a.size-1]] (a.toList.take (a.size-1)++b.toList.take b.size):=by
  have B:Mh rk (a.toList++b.toList) #[] (a.toList.take a.size++b.toList.take b.size):=by
   rw[iQ (by simp),iQ (by simp)];exact⟨by simp,.nil,λx hx=>by cases hx⟩
  exact B.oneA (by lia) P m (λy _ hy=>eE (hl y hy))
 have L:∀{out:Array Keyed} {g:Nat},vq rk a b out->Q out (wh st g):=λS=>h _ _ S.1 S.2;dsimp only;by_cases Y:a.size-1=0
 ·rw[if_pos (by simpa using Y)];exact aF (L (g:=gallopOf st) (M0.finA m p Y (aj _)))
 rw[if_neg (by simpa using Y)];by_cases Z:b.size=1
 ·rw[if_pos (by simpa using Z)];exact aF (L (g:=gallopOf st) (M0.finB m p Z hb (by lia) h0))
 rw[if_neg (by simpa using Z)];refine az (wpS_get ?_);refine az (wpS_mono (im (I:=λx c f=>(∃g,f=wh st g)/\∃C nb out N,c=(ab,C,nb,out,N)/\x+1+C+nb<=a.size+b.size/\1<=C/\C<a.size/\2<=nb/\nb<=b.size/\Mh rk (a.toList++b.toList) out (a.toList.take C++b.toList.take nb))
  (Q:=λc f=>(∃g,f=wh st g)/\∃r z,c=(aa r,z)/\vq rk a b r) ?step ?z9 ⟨⟨gallopOf st,rfl⟩,_,_,_,_,rfl,by lia,by lia,by lia,by lia,by lia,M0⟩) ?post)
 case post=>
  rintro c f ⟨⟨g,rfl⟩,r,z,rfl,S⟩;exact aF (L S)
 case z9=>
  rintro c f ⟨_,C,nb,out,N,rfl,B,o,u,_⟩;exfalso;lia
 case step=>
  intro x c f _ hx;revert c f;refine cr λg C nb out N H=>?_;have B:=H.1;have o:=H.2.1;have u:=H.2.2.1;have G:=H.2.2.2.1;have q:=H.2.2.2.2.1;have M:=H.2.2.2.2.2;dsimp only;refine az (wpS_mono (im (I:=λy c f=>f=wh st g/\∃na' d out J bc,c=(ab,na',d,out,J,bc)/\na'+d+y<=C+nb/\1<=na'/\na'<a.size/\2<=d/\d<=b.size/\Mh rk (a.toList++b.toList) out (a.toList.take na'++b.toList.take d))
   (Q:=λc f=>f=wh st g/\((∃na' d out J bc,c=(ab,na',d,out,J,bc)/\na'+d+1<=C+nb/\1<=na'/\na'<a.size/\2<=d/\d<=b.size/\Mh rk (a.toList++b.toList) out (a.toList.take na'++b.toList.take d))\/∃r z,c=(aa r,z)/\vq rk a b r)) ?step1 ?fin1 ⟨rfl,_,_,_,_,_,rfl,by lia,o,u,G,q,M⟩) ?post1)
  case fin1=>
   rintro c f ⟨rfl,na',d,out,J,bc,rfl,B,o,u,G,q,M⟩;exact⟨rfl,.inl ⟨_,_,_,_,_,rfl,by lia,o,u,G,q,M⟩⟩
  case step1=>
   intro y c f _ hy;revert c f;refine cv λna' d out J bc H=>?_;have B:=H.1;have o:=H.2.1;have u:=H.2.2.1;have G:=H.2.2.2.1;have q:=H.2.2.2.2.1;have M:=H.2.2.2.2.2;dsimp only;have n:na'-1<a.size:=by lia
   have v:d-1<b.size:=by lia
   refine az (xI v ?_);refine az (xI n ?_);refine az (pQ R hk (U _ (eh v)) (T _ (eh n)) ?_);dsimp only;rw[<- xE (rk:=rk) v,<- xE (rk:=rk) n];by_cases hw:kA rk b (d-1)<kA rk a (na'-1)
   ·rw[decide_eq_true hw,if_pos rfl];refine az (xI n ?_);have K:=M.oneA (by lia) n m (λy B o=>aH (p y (d-1) (aM _) (by lia) v) (eE hw));by_cases i:na'-1=0
    ·rw[if_pos (by simpa using i)];exact aF ⟨rfl,.inr ⟨_,_,rfl,K.finA m p i q⟩⟩
    ·rw[if_neg (by simpa using i)];split
     ·exact aF ⟨rfl,.inl ⟨_,_,_,_,_,rfl,by lia,by lia,by lia,G,q,K⟩⟩
     ·exact aF ⟨rfl,_,_,_,_,_,rfl,by lia,by lia,by lia,G,q,K⟩
   ·rw[decide_eq_false hw,if_neg (by simp)];refine az (xI v ?_);have K:=(M.swap.oneA (by lia) v p (λy B o=>aH (m y (na'-1) (aM _) (by lia) n) (by lia))).swap;by_cases i:d-1=1
    ·rw[if_pos (by simpa using i)];exact aF ⟨rfl,.inr ⟨_,_,rfl,K.finB m p i hb (by lia) h0⟩⟩
    ·rw[if_neg (by simpa using i)];split
     ·exact aF ⟨rfl,.inl ⟨_,_,_,_,_,rfl,by lia,o,u,by lia,by lia,K⟩⟩
     ·exact aF ⟨rfl,_,_,_,_,_,rfl,by lia,o,u,by lia,by lia,K⟩
  case post1=>
   refine cw (λna' d out J bc H=>?_) λr z S=>?_
   ·have B:=H.1;have o:=H.2.1;have u:=H.2.2.1;have G:=H.2.2.2.1;have q:=H.2.2.2.2.1;have M:=H.2.2.2.2.2;dsimp only;refine az (qe ?_);refine az (wpS_mono (im (I:=λy c f=>(∃g,f=wh st g)/\∃na' d out N J bc,c=(ab,na',d,out,N,J,bc)/\na'+d+1<=C+nb/\1<=na'/\na'<a.size/\2<=d/\d<=b.size/\Mh rk (a.toList++b.toList) out (a.toList.take na'++b.toList.take d))
     (Q:=λc f=>(∃g,f=wh st g)/\((∃na' d out N J bc,c=(ab,na',d,out,N,J,bc)/\na'+d+1<=C+nb/\1<=na'/\na'<a.size/\2<=d/\d<=b.size/\Mh rk (a.toList++b.toList) out (a.toList.take na'++b.toList.take d))\/∃r z,c=(aa r,z)/\vq rk a b r)) ?step2 ?fin2 ⟨⟨g,rfl⟩,_,_,_,_,_,_,rfl,B,o,u,G,q,M⟩) ?post2)
    case fin2=>
     rintro c f ⟨hg,z⟩;exact⟨hg,.inl z⟩
    case post2=>
     rintro c f ⟨⟨g,rfl⟩,⟨na',d,out,N,J,bc,rfl,B,o,u,G,q,M⟩|⟨r,z,rfl,S⟩⟩
     ·dsimp only;exact az (lA (aF ⟨⟨_,rfl⟩,_,_,_,_,rfl,by lia,o,u,G,q,M⟩))
     ·exact aF ⟨⟨_,rfl⟩,_,_,rfl,S⟩
    case step2=>
     clear B o u G q M;intro y c f _ hy;revert c f;refine cx λg na' d out N J bc H=>?_;have B:=H.1;have o:=H.2.1;have u:=H.2.2.1;have G:=H.2.2.2.1;have q:=H.2.2.2.2.1;have M:=H.2.2.2.2.2;dsimp only;have v:d-1<b.size:=by lia
     generalize N-1=mg';revert mg';refine XR ?_;intro g';refine az (lA ?_);refine az (xI v ?_);refine az (gA R hk T (U _ (eh v)) (by lia) (by lia) (m.mono (aM _) (by lia)) λk k1 k2 k3=>?_);rw[<- xE (rk:=rk) v]at k2 k3;simp only[aV]at k2 k3;have K:=M.runA (k:=k) k1 (by lia) m (λx y x1 x2 y1 y2=>aH (p y (d-1) (aM _) (by lia) v) (eE (k3 x x1 x2)));have k4:∀y,y<k->y<a.size->kA rk a y<=kA rk b (d-1):=λy y1 y2=>k2 y (aM _) y1;have z0:¬ na'-k > 0->k=na'/\out++(a.extract k na').reverse=out:=λe=>by
      have:k=na':=by lia
      subst this;rw[qI,C9,Ad];exact⟨rfl,rfl⟩
     clear k2 k3;dsimp only;generalize na'-k=ac1 at z0 ⊢;generalize hx2:k=x2;generalize ho1:out++(a.extract x2 na').reverse=o1;revert o1 x2;refine XM (λo1 x2 j t _ i=>?_) λo2 O P=>?_
     ·subst j;subst t;exact aF ⟨⟨_,rfl⟩,.inr ⟨_,_,rfl,K.finA m p (by simpa using i) q⟩⟩
     have hz':o2=out++(a.extract k na').reverse/\O=k/\¬ O=0:=by
      rcases P with ⟨_,j,t,i⟩|⟨i,j,t⟩
      ·subst j;exact⟨t.symm,rfl,by simpa using i⟩
      ·obtain⟨q1,q2⟩:=z0 i;rw[q2];exact⟨j,by lia,by lia⟩
     clear P z0;obtain⟨j,t,i⟩:=hz';subst t;rw[<- j]at K;have n:O-1<a.size:=by lia
     have hj2:O<=na':=k1;clear j k1;refine az (xI v ?_);have M2:=(K.swap.oneA (by lia) v p k4).swap;by_cases he2:d-1=1
     ·rw[if_pos (by simpa using he2)];exact aF ⟨⟨_,rfl⟩,.inr ⟨_,_,rfl,M2.finB m p he2 hb (by lia) h0⟩⟩
     rw[if_neg (by simpa using he2)];refine az (xI n ?_);refine az (gz R hk U (T _ (eh n)) (by lia) (by lia) (p.mono (aM _) (by lia)) λl l1 l2 l3=>?_);rw[<- xE (rk:=rk) n]at l2 l3;simp only[aV]at l2 l3;have hl1:1<=l:=by
      refine Bf λhc=>?_;have j:=l3 0 (by lia) (by lia);have t:=m 0 (O-1) (aj _) (aM _) n;lia
     have M3:=(M2.swap.runA (k:=l) l1 (by lia) p (λx y x1 x2 y1 y2=>aH (m y (O-1) (aM _) (by lia) n) (l3 x x1 x2))).swap;have l4:∀y,y<l->y<b.size->kA rk b y<=kA rk a (O-1):=λy y1 y2=>eE (l2 y (aM _) y1);generalize o2.push b[d-1]=o3 at M3 ⊢;have z0:¬ d-1-l > 0->l=d-1/\o3++(b.extract l (d-1)).reverse=o3:=λe=>by
      have:l=d-1:=by lia
      subst this;rw[qI,C9,Ad];exact⟨rfl,rfl⟩
     clear l2 l3 M2 K;dsimp only;generalize d-1-l=bc1 at z0 ⊢;generalize hx4:l=x4;generalize ho4:o3++(b.extract x4 (d-1)).reverse=o4;revert o4 x4;refine XN (λx4 j _=>by subst j;simp;lia) (λo4 x4 j t _ i=>?_) λo5 j5 P=>?_
     ·subst j;subst t;exact aF ⟨⟨_,rfl⟩,.inr ⟨_,_,rfl,M3.finB m p (by simpa using i) hb (by lia) h0⟩⟩
     have hz':o5=o3++(b.extract l (d-1)).reverse/\j5=l/\¬ j5=1:=by
      rcases P with ⟨_,j,t,i⟩|⟨i,j,t⟩
      ·subst j;exact⟨t.symm,rfl,by simpa using i⟩
      ·obtain⟨q1,q2⟩:=z0 i;rw[q2];exact⟨j,by lia,by lia⟩
     clear P z0;obtain⟨j,t,he3⟩:=hz';subst t;rw[<- j]at M3;refine az (xI n ?_);have M4:=M3.oneA (by lia) n m l4;split
     ·rename_i he4;exact aF ⟨⟨_,rfl⟩,.inr ⟨_,_,rfl,M4.finA m p (by simpa using he4) (by lia)⟩⟩
     ·rename_i he4;have he5:¬ O-1=0:=λe=>he4 (beq_iff_eq.mpr e);have b1:O-1+j5+1<=C+nb:=by lia
      have b2:1<=O-1:=by lia
      have b3:2<=j5:=by lia
      have b4:j5<=b.size:=by lia
      split
      ·exact aF ⟨⟨_,rfl⟩,.inl ⟨_,_,_,_,_,_,rfl,b1,b2,n,b3,b4,M4⟩⟩
      ·exact aF ⟨⟨_,rfl⟩,_,_,_,_,_,_,rfl,b1,b2,n,b3,b4,M4⟩
   ·exact aF ⟨⟨_,rfl⟩,_,_,rfl,S⟩
end
end L2

namespace L2
open PySem PySem.Spec PyProof.Rows
section
variable {prog:aN}{w:aR}{A:a4}{E:af->ag->Prop}{s:ag}{kd:SortKind}{D:Keyed->Prop}{rk:Keyed->Nat}{st:SortSt}{a₀:Array Keyed}
structure Sb(kd:SortKind)(a₀:Array Keyed)(st:SortSt):Prop where
 perm:(arrOf st).toList.Perm a₀.toList
 kind:kindOf st=kd
 failed:failedOf st=ab
theorem Sb.size(h:Sb kd a₀ st):(arrOf st).size=a₀.size:=by have:=h.perm.length_eq;simpa using this
theorem Sb.all(h:Sb kd a₀ st)(hD:∀x∈a₀,D x):∀x∈arrOf st,D x:=λx a=>hD x (ol.mp (h.perm.mem_iff.mp (ol.mpr a)))
abbrev wq:=Nat×Nat×Nat
def Runs(rk:Keyed->Nat)(arr:Array Keyed):List wq->Nat->Nat->Prop
 |[],a,b=>a=b
 |(s,n,_)::c,a,b=>s=a/\1<=n/\Up rk arr a (a+n)/\Runs rk arr c (a+n) b
theorem Runs.le:∀{ps:List wq} {lo hi:Nat},Runs rk arr ps lo hi->lo+ps.length<=hi
 |[],_,_,h=>by cases h;exact aj _
 |(_,n,_)::ps,lo,hi,⟨_,a,_,h⟩=>by have:=h.le;rw[aI];lia
theorem Up.congr{lo hi:Nat}(h:Up rk arr lo hi)(e:∀i,lo<=i->i<hi->kA rk arr' i=kA rk arr i):Up rk arr' lo hi:=λi j a c b=>by
 rw[e i a (by lia),e j (by lia) b];exact h i j a c b
theorem Runs.congr{arr arr':Array Keyed}:∀{ps:List wq} {lo hi:Nat},Runs rk arr ps lo hi->(∀i,lo<=i->i<hi->kA rk arr' i=kA rk arr i)->Runs rk arr' ps lo hi
 |[],_,_,h,_=>h
 |(_,n,_)::ps,lo,hi,⟨c,d,f,h⟩,e=>by
  have l:=h.le;exact⟨c,d,f.congr λi a b=>e i a (by lia),h.congr λi a b=>e i (by lia) b⟩
theorem Runs.split{arr:Array Keyed}:∀{ps a:List wq} {lo hi:Nat},Runs rk arr (ps++a) lo hi->∃m,Runs rk arr ps lo m/\Runs rk arr a m hi
 |[],_,lo,_,h=>⟨lo,rfl,h⟩
 |(_,_,_)::ps,a,_,_,⟨b,c,d,h⟩=>by
  obtain⟨m,e,f⟩:=Runs.split (ps:=ps) h;exact⟨m,⟨b,c,d,e⟩,f⟩
theorem Runs.join{arr:Array Keyed}:∀{ps b:List wq} {lo m hi:Nat},Runs rk arr ps lo m->Runs rk arr b m hi->Runs rk arr (ps++b) lo hi
 |[],_,_,_,_,h,a=>by cases h;exact a
 |(_,_,_)::_,_,_,_,_,⟨c,d,e,h⟩,a=>⟨c,d,e,h.join a⟩
theorem rN{xs:Array Keyed}{lo k i:Nat}(a:k<=xs.size)(hi:lo+i<k):kA rk (xs.extract lo k) i=kA rk xs (lo+i):=by
 have b:i<(xs.extract lo k).size:=by rw[sH a];exact Nat.lt_sub_of_add_lt (AM lo i ▸ hi)
 rw[xE b,xE (aT hi a),oJ]
theorem cN{lo:Nat}:∀(l:List Keyed) (n:Nat) (xs:Array Keyed),lo+n+l.length<=xs.size ->
  ((l.zipIdx n).foldl (λa (p:Keyed×Nat)=>a.setIfInBounds (lo+p.2) p.1) xs).toList=xs.toList.take (lo+n)++l++xs.toList.drop (lo+n+l.length)
 |[],n,xs,_=>by simp
 |p::l,n,xs,h=>by
  rw[aI]at h;rw[Be,oo,cN l (n+1) _ (by rw[Array.size_setIfInBounds];lia)];have b:lo+n<xs.toList.length:=by rw[aG];lia
  have c:(xs.toList.take (lo+n)).length=lo+n:=by rw[eN];lia
  have d:xs.toList.drop (lo+n+(l.length+1))=(xs.toList.drop (lo+n+1)).drop l.length:=by rw[D8];congr 1;lia
  dsimp only;rw[BS,aI,List.set_eq_take_append_cons_drop,if_pos b,d];generalize xs.toList.take (lo+n)=T at c ⊢;generalize xs.toList.drop (lo+n+1)=r;have e:T++p::r=(T++[p])++r:=by simp
  have f:lo+(n+1)=(T++[p]).length:=by simp;lia
  rw[e,f,List.take_left' rfl,List.drop_append,AY (by lia),show(T++[p]).length+l.length-(T++[p]).length=l.length by lia];simp
theorem ME{xs m:Array Keyed}{lo:Nat}(h:lo+m.size<=xs.size)(r:Array Keyed)(a:r.toList=xs.toList.take lo++m.toList++xs.toList.drop (lo+m.size))(j:Nat):kA rk r j=if lo<=j/\j<lo+m.size then kA rk m (j-lo)else kA rk xs j:=by
 have b:(xs.toList.take lo).length=lo:=by rw[eN,aG];lia
 unfold kA;rw[<- oe,a,<- oe (xs:=m),<- oe (xs:=xs)];by_cases c:j<lo
 ·rw[if_neg (by lia),eG,ia (by lia),oq c]
 ·rw[eG,iP (by lia),b];by_cases d:j<lo+m.size
  ·rw[if_pos ⟨by lia,d⟩,ia (by rw[aG];lia)]
  ·rw[if_neg (by lia),iP (by rw[aG];lia),BN,aG];congr 3;lia
theorem MJ{xs m:Array Keyed}{lo hi:Nat}(h:lo<=hi)(a:m.toList.Perm (xs.extract lo hi).toList)(b:hi<=xs.size)(r:Array Keyed)(c:r.toList=xs.toList.take lo++m.toList++xs.toList.drop (lo+m.size)):r.toList.Perm xs.toList:=by
 have e:m.size=hi-lo:=by
  have:=a.length_eq;rw[aG,aG,sH b]at this;exact this
 have d:xs.toList=xs.toList.take lo++(xs.extract lo hi).toList++xs.toList.drop (lo+m.size):=by
  rw[eG,e,show lo+(hi-lo)=hi by lia,<- qE h,Bj]
 rw[c]
 conv=>rhs;rw[d]
 exact(a.append_left _).append_right _
theorem Kj{arr m:Array Keyed}{b a k c l:Nat}(P:a+c<=arr.size)(Q:b+k<a)(R:l<=c)(S:1<=l)(u:Up rk arr b a)(g:Up rk arr a (a+c))
 (v:∀i,b<=i->i<b+k->kA rk arr i<=kA rk arr a) (K:∀i,b+k<=i->i<a->kA rk arr a<kA rk arr i)
 (L:∀i,a<=i->i<a+l->kA rk arr i<kA rk arr (a-1)) (M:∀i,a+l<=i->i<a+c->kA rk arr (a-1)<=kA rk arr i)
 (z:m.toList.Perm ((arr.extract (b+k) a).toList++(arr.extract a (a+l)).toList)) (N:m.toList.Pairwise λx y=>rk x<=rk y)
 (B:∀j,kA rk r j=if b+k<=j/\j<a+l then kA rk m (j-(b+k))else kA rk arr j):Up rk r b (a+c):=by
  have T:m.size=a+l-(b+k):=by
    have:=z.length_eq;rw[aJ,aG,aG,aG,sH (by lia),sH (by lia)]at this;lia
  have C:∀j,j<m.size->kA rk arr a<=kA rk m j/\kA rk m j<=kA rk arr (a-1):=by
    intro j G;rw[xE G];have d:m[j]∈(arr.extract (b+k) a).toList++(arr.extract a (a+l)).toList:=z.mem_iff.mp (ol.mpr (eh G));rcases ed.mp d with d|d
    · obtain⟨p,f,h,O,n⟩:=pz (rk:=rk) d;rw[<- n];exact⟨eE (K p f h),u p (a-1) (by lia) (by lia) (by lia)⟩
    · obtain⟨p,f,h,O,n⟩:=pz (rk:=rk) d;rw[<- n];exact⟨g a p (aj _) f (by lia),eE (L p f h)⟩
  intro i j o H q;rw[B i,B j];by_cases I:i<b+k
  · rw[if_neg (by lia)];by_cases J:j<b+k
    · rw[if_neg (by lia)];exact u i j o H (by lia)
    · by_cases t:j<a+l
      · rw[if_pos ⟨by lia,t⟩];exact aH (v i o I) (C _ (by lia)).1
      · rw[if_neg (by lia)];exact aH (v i o I) (g a j (aj _) (by lia) q)
  · by_cases J:i<a+l
    · rw[if_pos ⟨by lia,J⟩];by_cases t:j<a+l
      · rw[if_pos ⟨by lia,t⟩,xE (by lia),xE (by lia)];by_cases e:i=j
        · subst e;exact aj _
        · exact oS.mp N _ _ (by rw[aG];lia) (by rw[aG];lia) (by lia)
      · rw[if_neg (by lia)];exact aH (C _ (by lia)).2 (M j (by lia) q)
    · rw[if_neg (by lia),if_neg (by lia)];exact g i j (by lia) H q
theorem JD(R:Rk prog w A s kd D rk){Q:Bool->SortSt->Prop}{hi:Nat}{c:List wq}{b na o sb f I:Nat}(B:Sb kd a₀ st)(hD:∀x∈a₀,D x)(r:(a9 st).toList=c++(b,na,o)::(sb,f,I)::post)(hr:Runs rk (arrOf st) (a9 st).toList 0 hi)(U:hi<=a₀.size)
 (h:∀n,Sb kd a₀ n->(a9 n).toList=c++(b,na+f,o)::post->Runs rk (arrOf n) (a9 n).toList 0 hi->(∀j,hi<=j->kA rk (arrOf n) j=kA rk (arrOf st) j)->Q true n):wpS (model prog w) A E s (mergeAt' c.length) Q st:=by
  have g1:(a9 st)[c.length]? =aa (b,na,o):=by
    rw[<- oe,r];simp
  have g2:(a9 st)[c.length+1]? =aa (sb,f,I):=by
    rw[<- oe,r];simp
  have J:(((a9 st).setIfInBounds c.length (b,na+f,o)).eraseIdxIfInBounds (c.length+1)).toList=c++(b,na+f,o)::post:=by
    rw[Array.toList_eraseIdxIfInBounds,BS,r,CT _ _ (aj _),List.eraseIdx_append_of_length_le (oj _),ou,show c.length+1-c.length=1 by lia];rfl
  have K:=hr;rw[r]at K;obtain⟨m,r1,rfl,n1,Y,rfl,n2,L,r2⟩:=K.split;have hz:=B.size;have l1:=r2.le;have M:=B.all hD;have z9:∀(d:Array Keyed) (g:Nat),d.toList.Perm (arrOf st).toList->Up rk d b (b+(na+f))->(∀j,¬ (b<=j/\j<b+(na+f))->kA rk d j=kA rk (arrOf st) j) ->
      Q true (AQ (kindOf st) d (((a9 st).setIfInBounds c.length (b,na+f,o)).eraseIdxIfInBounds (c.length+1)) g (failedOf st)):=by
    intro d g Z e2 H;refine h _ ⟨Z.trans B.perm,B.kind,B.failed⟩ J ?_ (λj hj=>H j (by lia));show Runs rk d (((a9 st).setIfInBounds c.length (b,na+f,o)).eraseIdxIfInBounds (c.length+1)).toList 0 hi;rw[J];refine(r1.congr λi _ hi=>H i (by lia)).join ⟨rfl,by lia,e2,?_⟩;rw[show b+(na+f)=b+na+f by lia];exact r2.congr λi hi _=>H i (by lia)
  refine az (wpS_get ?_);dsimp only;rw[g1,g2];dsimp only;refine az (JH ?_);have q:b+na<(arrOf st).size:=by lia
  refine az (xI q ?_);refine az (gA (arr:=arrOf st) R B.kind M (M _ (eh q)) (by lia) (by lia) Y λk k1 k2 k3=>?_);rw[<- xE (rk:=rk) q]at k2 k3;dsimp only;by_cases N:na-k=0
  · rw[if_pos (by simpa using N)];have O:k=na:=by lia
    subst O;refine aF (z9 _ _ (.refl _) (λi j h1 P h3=>?_) λ_ _=>rfl);by_cases c1:j<b+k
    · exact Y i j h1 P c1
    · by_cases c2:i<b+k
      · exact aH (k2 i h1 c2) (L _ j (aj _) (by lia) (by lia))
      · exact L i j (by lia) P (by lia)
  rw[if_neg (by simpa using N)];have z:b+k+(na-k)-1<(arrOf st).size:=by lia
  refine az (xI z ?_);refine az (gz (arr:=arrOf st) R B.kind M (M _ (eh z)) (by lia) (by lia) L λl l1 l2 l3=>?_);rw[<- xE (rk:=rk) z]at l2 l3;rw[show b+k+(na-k)-1=b+na-1 by lia]at l2 l3;have C:1<=l:=by
    refine Bf λhc=>?_;have Z:=l3 (b+na) (by lia) (by lia);have e2:=k3 (b+na-1) (by lia) (by lia);lia
  dsimp only;rw[if_neg (by simp;lia)];have q1:b+na<=(arrOf st).size:=eE q;have q2:b+na+l<=(arrOf st).size:=by lia
  have zx:=sH (lo:=b+k) q1;have zy:=sH (lo:=b+na) q2;have q3:b+k<b+na:=by lia
  have wr:∀(m:Array Keyed) (g:Nat),m.toList.Perm (((arrOf st).extract (b+k) (b+na)).toList++((arrOf st).extract (b+na) (b+na+l)).toList)->(m.toList.Pairwise λx y=>rk x<=rk y) ->
      Q true (AQ (kindOf st) (m.toList.zipIdx.foldl (λa (p:Keyed×Nat)=>a.setIfInBounds (b+k+p.2) p.1) (arrOf st)) (((a9 st).setIfInBounds c.length (b,na+f,o)).eraseIdxIfInBounds (c.length+1)) g (failedOf st)):=by
    intro m g hm S;have hz:m.size=na+l-k:=by
      have:=hm.length_eq;rw[aJ,aG,aG,aG,zx,zy]at this;lia
    have hf:=cN (lo:=b+k) m.toList 0 (arrOf st) (by rw[aG];lia);rw[Bu,aG]at hf;have hj:=λj=>ME (rk:=rk) (xs:=arrOf st) (m:=m) (by lia) _ hf j;have hm2:m.toList.Perm ((arrOf st).extract (b+k) (b+na+l)).toList:=by
      refine hm.trans (.of_eq ?_)
      have Z:=qE (xs:=arrOf st) (i:=b+k) (k:=b+na) (by lia);have e2:=qE (xs:=arrOf st) (i:=b+na) (k:=b+na+l) (by lia);have H:=qE (xs:=arrOf st) (i:=b+k) (k:=b+na+l) (by lia);rw[Z,e2,<- eG]at H;exact List.append_cancel_right H
    refine z9 _ g (MJ (by lia) hm2 (by lia) _ hf) ?_ (λj hj'=>?_)
    · rw[show b+(na+f)=b+na+f by lia];refine Kj (k:=k) (l:=l) (by lia) (by lia) l1 C Y L k2 k3 l2 l3 hm S λj=>?_;rw[hj j,hz,show b+k+(na+l-k)=b+na+l by lia]
    · rw[hj j,if_neg (by lia)]
  have ud:∀{t hi:Nat},hi<=(arrOf st).size->Up rk (arrOf st) t hi->Up rk ((arrOf st).extract t hi) 0 ((arrOf st).extract t hi).size:=fun {t hi} U u i j _ P h3=>by
    rw[sH U]at h3;have h4:t+j<hi:=AM t j ▸ oT h3;rw[rN U (AN (Aa P _) h4),rN U h4];exact u _ _ (iO _ _) (Aa P _) h4
  have ux:=ud q1 (Y.mono (iO b k) (aj _));have uy:=ud q2 (L.mono (aj _) (Aa l1 _));have x0:kA rk ((arrOf st).extract (b+na) (b+na+l)) 0<kA rk ((arrOf st).extract (b+k) (b+na)) 0:=by
    rw[rN (lo:=b+na) (i:=0) q2 (Nat.lt_add_of_pos_right C),rN (lo:=b+k) (i:=0) q1 q3];exact k3 _ (aj _) q3
  have xl:∀y,y<((arrOf st).extract (b+na) (b+na+l)).size->kA rk ((arrOf st).extract (b+na) (b+na+l)) y<kA rk ((arrOf st).extract (b+k) (b+na)) (((arrOf st).extract (b+k) (b+na)).size-1):=λy hy=>by
    rw[zy]at hy;have T:b+na+y<b+na+l:=AM (b+na) y ▸ oT hy;have e:b+k+(b+na-(b+k)-1)=b+na-1:=by lia
    rw[zx,rN q2 T,rN q1 (by lia),e];exact l2 _ (iO _ _) T
  have dx:∀{t hi:Nat},∀x∈(arrOf st).extract t hi,D x:=λx hx=>by
    obtain⟨i,hi,rfl⟩:=Array.mem_iff_getElem.mp hx;rw[oJ];exact M _ (eh _)
  have sx:1<=((arrOf st).extract (b+k) (b+na)).size:=by rw[zx];exact Nat.sub_pos_of_lt q3
  have sy:1<=((arrOf st).extract (b+na) (b+na+l)).size:=by rw[zy,iu];exact C
  have v:∀(m:Array Keyed) (g:Nat),m.toList.Perm (((arrOf st).extract (b+k) (b+na)).toList++((arrOf st).extract (b+na) (b+na+l)).toList)->(m.toList.Pairwise λx y=>rk x<=rk y) ->
      Q (failedOf st).isNone (AQ (kindOf st) (m.toList.zipIdx.foldl (λa (p:Keyed×Nat)=>a.setIfInBounds (b+k+p.2) p.1) (arrOf st)) (((a9 st).setIfInBounds c.length (b,na+f,o)).eraseIdxIfInBounds (c.length+1)) g (failedOf st)):=by
    rw[B.failed];have:=wr;rw[B.failed]at this;exact this
  split
  · refine az (JF R B.kind dx dx ux uy sx sy (eE x0) xl λG g r S=>?_);refine az (wpS_modify ?_);refine az (wpS_get ?_);exact aF (v G g r S)
  · refine az (JE R B.kind dx dx ux uy sx sy x0 xl λG g r S=>?_);refine az (wpS_modify ?_);refine az (wpS_get ?_);exact aF (v G g r S)
end
end L2

namespace L2
open PySem PySem.Spec PyProof.Rows
section
variable {prog:aN}{w:aR}{A:a4}{E:af->ag->Prop}{s:ag}{kd:SortKind}{D:Keyed->Prop}{rk:Keyed->Nat}{st:SortSt}{a₀:Array Keyed}
theorem qd(R:Rk prog w A s kd D rk){i j:Nat}{Q:Option Bool->SortSt->Prop}(B:Sb kd a₀ st)(hD:∀x∈a₀,D x)(hi:i<a₀.size)(a:j<a₀.size)(h:Q (aa (decide (kA rk (arrOf st) i<kA rk (arrOf st) j))) st):wpS (model prog w) A E s (ltAt' i j) Q st:=by
 rw[<- B.size]at hi a;have b:=B.all hD;refine az (wpS_get ?_);refine az (xI hi ?_);refine az (xI a ?_);refine pQ R B.kind (b _ (eh hi)) (b _ (eh a)) ?_;rw[<- xE (rk:=rk) hi,<- xE (rk:=rk) a];exact h
structure Kp(rk:Keyed->Nat)(kd:SortKind)(a₀:Array Keyed)(lo:Nat)(st st':SortSt):Prop where
 sb:Sb kd a₀ st'
 pend:a9 st'=a9 st
 left:∀j,j<lo->kA rk (arrOf st') j=kA rk (arrOf st) j
theorem pi{i j:Nat}(h:xs[i]? =ys[j]?):kA rk xs i=kA rk ys j:=by unfold kA;rw[h]
theorem mM{xs:Array Keyed}{i j:Nat}(a:j<=xs.size)(k:Nat):kA rk (mirror xs i j ((j-i) / 2)) k=if i<=k/\k<j then kA rk xs (i+j-1-k)else kA rk xs k:=by
 have e:=getElem?_mirror_all (i:=i) a k;split at e
 ·rename_i c;rw[if_pos c];exact pi e
 ·rename_i c;rw[if_neg c];exact pi e
theorem Tu{xs:Array Keyed}{src d:Nat}(a:src<xs.size)(b:d<=src)(k:Nat):kA rk (bubble xs src d) k=if k=src-d then kA rk xs src else if src-d<k/\k<=src then kA rk xs (k-1)else kA rk xs k:=by
 have e:=getElem?_bubble a d b k;split at e
 ·rename_i c;rw[if_pos c];exact pi e
 ·rename_i c;rw[if_neg c];split at e
  ·rename_i c;rw[if_pos c];exact pi e
  ·rename_i c;rw[if_neg c];exact pi e
theorem Kp.set{lo:Nat}{a:SortSt}(K:Kp rk kd a₀ lo st a){xs:Array Keyed}(c:xs.toList.Perm (arrOf a).toList)(d:∀j,j<lo->kA rk xs j=kA rk (arrOf a) j):Kp rk kd a₀ lo st (setArr a xs):=
 ⟨⟨c.trans K.sb.perm,K.sb.kind,K.sb.failed⟩,K.pend,λj b=>(d j b).trans (K.left j b)⟩
theorem Kp.mir{lo i j:Nat}{a:SortSt}(K:Kp rk kd a₀ lo st a)(hi:lo<=i)(b:j<=a₀.size):Kp rk kd a₀ lo st (setArr a (mirror (arrOf a) i j ((j-i) / 2))):=
 K.set (BR.mp (mirror_perm _ _ _ _)) λk c=>by rw[mM (by rw[K.sb.size];exact b),if_neg (by lia)]
theorem Up.more{lo n:Nat}(h:Up rk arr lo (lo+n))(hn:1<=n)(b:kA rk arr (lo+n-1)<=kA rk arr (lo+n)):Up rk arr lo (lo+(n+1)):=λi j a d f=>by
 by_cases c:j<lo+n
 ·exact h i j a d c
 ·have:j=lo+n:=by lia
  subst this;by_cases e:i=lo+n
  ·subst e;exact aj _
  ·exact aH (h i (lo+n-1) a (by lia) (by lia)) b
theorem XI{lo a b:Nat}{f:Nat->Option (Option Nat)×Nat->StateT SortSt Sem (ForInStep (Option (Option Nat)×Nat))}{Q:Option (Option Nat)×Nat->SortSt->Prop}(l:1<=a)(e:a<=b)(i:Up rk (arrOf st) lo (lo+a))
  (j:∀x n (P:ForInStep (Option (Option Nat)×Nat)->SortSt->Prop),1<=n->n<b->(kA rk (arrOf st) (lo+n)<kA rk (arrOf st) (lo+n-1)->P (.done (ab,n)) st)->(¬ kA rk (arrOf st) (lo+n)<kA rk (arrOf st) (lo+n-1)->P (.yield (ab,n+1)) st)->wpS (model prog w) A E s (f x (ab,n)) P st)
  (h:∀n,a<=n->n<=b->Up rk (arrOf st) lo (lo+n)->(n=b\/kA rk (arrOf st) (lo+n)<kA rk (arrOf st) (lo+n-1))->Q (ab,n) st):wpS (model prog w) A E s (forIn [a:b] (ab,a) f) Q st:=by
 refine im (I:=λx c d=>d=st/\c=(ab,x)/\Up rk (arrOf st) lo (lo+x)) ?_ ?_ ⟨rfl,rfl,i⟩
 ·rintro x c d k x2 ⟨rfl,rfl,u⟩;exact j x x _ (by lia) x2 (λg=>h x k (by lia) u (.inr g)) λg=>⟨rfl,rfl,u.more (by lia) (by lia)⟩
 ·rintro c d ⟨rfl,rfl,u⟩;rw[show max a b=b by lia]at u ⊢;exact h b e (aj _) u (.inl rfl)
def Dn(rk:Keyed->Nat)(xs:Array Keyed)(lo hi:Nat):Prop:=∀i j,lo<=i->i<=j->j<hi->kA rk xs j<=kA rk xs i
theorem Dn.more{lo n:Nat}(h:Dn rk arr lo (lo+n))(hn:1<=n)(b:kA rk arr (lo+n)<=kA rk arr (lo+n-1)):Dn rk arr lo (lo+(n+1)):=λi j a d f=>by
 by_cases c:j<lo+n
 ·exact h i j a d c
 ·have:j=lo+n:=by lia
  subst this;by_cases e:i=lo+n
  ·subst e;exact aj _
  ·exact aH b (h i (lo+n-1) a (by lia) (by lia))
theorem rR{xs:Array Keyed}{i j:Nat}(b:j<=xs.size)(a:∀k,i<=k->k<j->kA rk xs k=kA rk xs (j-1))(k:Nat):kA rk (mirror xs i j ((j-i) / 2)) k=kA rk xs k:=by
 rw[mM b];split
 ·rw[a _ (by lia) (by lia),a k (by lia) (by lia)]
 ·rfl
theorem Dn.turn{xs:Array Keyed}{lo m:Nat}(d:Dn rk xs lo (lo+m))(e:lo+m<=xs.size):Up rk (mirror xs lo (lo+m) ((lo+m-lo) / 2)) lo (lo+m):=λi j a b c=>by
 rw[mM e i,mM e j,if_pos ⟨a,by lia⟩,if_pos ⟨by lia,c⟩];exact d _ _ (by lia) (by lia) (by lia)
theorem lz{i j:Nat}{Q:Unit->SortSt->Prop}(h:Q () (setArr st (mirror (arrOf st) i j ((j-i) / 2)))):wpS (model prog w) A E s (reverseSlice' i j) Q st:=wpS_modify h
theorem XQ{M:Model}{c:Type}{f:StateT SortSt Sem c}{Q:c->SortSt->Prop}{P:SortSt->Prop}{G:Prop}(main:(∀a,P a->wpS M A E s f Q a)->G)(b:∀a,P a->wpS M A E s f Q a):G:=main b
theorem JG(R:Rk prog w A s kd D rk){lo g:Nat}{Q:Option Nat->SortSt->Prop}(B:Sb kd a₀ st)(hD:∀x∈a₀,D x)(hn:lo+g<=a₀.size)(h1:1<=g)
  (h:∀m f,Kp rk kd a₀ lo st f->1<=m->m<=g->Up rk (arrOf f) lo (lo+m)->Q (aa m) f):wpS (model prog w) A E s (countRun' lo g) Q st:=by
 have O:Kp rk kd a₀ lo st st:=⟨B,rfl,λ_ _=>rfl⟩
 refine az (XI (rk:=rk) (lo:=lo) (aj 1) h1 (λi j a b c=>(show i=j by lia) ▸ aj _) ?_ λn C S u U=>?_)
 ·intro x n P C S Y Z;refine az (qd R B hD (by lia) (by lia) ?_);dsimp only;split
  ·rename_i r;exact aF (Y (by simpa using r))
  ·rename_i r;exact aF (Z (by simpa using r))
 dsimp only;by_cases t:n=g
 ·rw[if_pos (by simpa using t)];exact aF (h n st O C S u)
 rw[if_neg (by simpa using t)];have hlt:=U.resolve_left t;have G:∀m,Dn rk (arrOf st) lo (lo+n)->m=n+1->Dn rk (arrOf st) lo (lo+m):=λm d e=>by
  subst e;exact d.more C (eE hlt)
 refine' XQ (M:=model prog w) (A:=A) (E:=E) (s:=s) (Q:=Q) (P:=λv=>Kp rk kd a₀ lo st v/\Dn rk (arrOf v) lo (lo+(n+1))) (λl=>?_) ?_;rotate_left;by_cases H:n > 1;rw[if_pos H];refine az (qd R B hD (by lia) (by lia) ?_);dsimp only;by_cases J:kA rk (arrOf st) lo<kA rk (arrOf st) (lo+n-1);rw[decide_eq_true J,if_pos rfl];exact aF (h n st O C S u);rw[decide_eq_false J,if_neg (by simp)];have o:∀k,lo<=k->k<lo+n->kA rk (arrOf st) k=kA rk (arrOf st) (lo+n-1):=λk k1 k2=>by
  have e1:=u lo k (aj _) k1 k2;have e2:=u k (lo+n-1) k1 (by lia) (by lia);lia
 refine az (lz ?_);have hz:lo+n<=(arrOf st).size:=by rw[B.size];lia
 have K1:=O.mir (i:=lo) (j:=lo+n) (aj _) (by lia);have d1:Dn rk (mirror (arrOf st) lo (lo+n) ((lo+n-lo) / 2)) lo (lo+(n+1)):=by
  have:=G (n+1) (λi j a b c=>by rw[o i a (by lia),o j (by lia) c];exact aj _) rfl;intro i j a b c;rw[rR hz o,rR hz o];exact this i j a b c
 exact l _ ⟨K1,d1⟩;rw[if_neg H];exact l _ ⟨O,G (n+1) (λi j a b c=>by
  have:i=j:=by lia
  subst this;exact aj _) rfl⟩
 rintro v ⟨K1,d1⟩
 ·skip
  refine az (qe ?_);refine az (wpS_mono (im (I:=λx c f=>∃q,c=(ab,x,q)/\Kp rk kd a₀ lo st f/\Dn rk (arrOf f) lo (lo+x)/\q+1<=x/\∀i,lo+x-(q+1)<=i->i<lo+x->kA rk (arrOf f) i=kA rk (arrOf f) (lo+x-1))
   (Q:=λc f=>∃m q,c=(ab,m,q)/\n+1<=m/\m<=g/\Kp rk kd a₀ lo st f/\Dn rk (arrOf f) lo (lo+m)/\q+1<=m/\∀i,lo+m-(q+1)<=i->i<lo+m->kA rk (arrOf f) i=kA rk (arrOf f) (lo+m-1)) ?step ?z9 ⟨0,rfl,K1,d1,by lia,λi i1 i2=>by congr 1;lia⟩) ?post)
  case z9=>
   rintro c f ⟨q,rfl,K,d,L,e⟩;rw[show max (n+1) g=g by lia]at d L e ⊢;exact⟨g,q,rfl,by lia,aj _,K,d,L,e⟩
  case step=>
   rintro x c f x1 x2 ⟨q,rfl,K,d,L,e⟩;dsimp only;have p:lo+x<=(arrOf f).size:=by rw[K.sb.size];lia
   refine az (qd R K.sb hD (by lia) (by lia) ?_);dsimp only;by_cases hs:kA rk (arrOf f) (lo+x)<kA rk (arrOf f) (lo+x-1)
   ·rw[decide_eq_true hs,if_pos rfl];have z:=d.more (by lia) (eE hs);by_cases N:q > 0
    ·rw[if_pos N];refine az (lz (aF ⟨0,rfl,K.mir (by lia) (by lia),λi j a b c=>?_,by lia,λi i1 i2=>by congr 1;lia⟩));show kA rk (mirror (arrOf f) _ _ _) j<=kA rk (mirror (arrOf f) _ _ _) i;rw[rR p e,rR p e];exact z i j a b c
    ·rw[if_neg N];exact aF ⟨0,rfl,K,z,by lia,λi i1 i2=>by congr 1;lia⟩
   ·rw[decide_eq_false hs,if_neg (by simp)];refine az (qd R K.sb hD (by lia) (by lia) ?_);dsimp only;by_cases r:kA rk (arrOf f) (lo+x-1)<kA rk (arrOf f) (lo+x)
    ·rw[decide_eq_true r,if_pos rfl];exact aF ⟨x,q,rfl,x1,by lia,K,d,L,e⟩
    ·rw[decide_eq_false r,if_neg (by simp)];refine aF ⟨q+1,rfl,K,d.more (by lia) (by lia),by lia,λi i1 i2=>?_⟩;rw[show lo+(x+1)-1=lo+x by lia];by_cases hi:i=lo+x
     ·subst hi;rfl
     ·rw[e i (by lia) (by lia)];lia
  case post=>
   rintro c f ⟨m,q,rfl,m1,m2,K,d,L,e⟩;dsimp only;have p:lo+m<=(arrOf f).size:=by rw[K.sb.size];lia
   refine' XQ (M:=model prog w) (A:=A) (E:=E) (s:=s) (Q:=Q) (P:=λy=>Kp rk kd a₀ lo st y/\Dn rk (arrOf y) lo (lo+m)) (λl=>?_) ?_;rotate_left;by_cases N:q > 0;rw[if_pos N];refine az (lz ?_);have T:=K.mir (i:=lo+m-(q+1)) (j:=lo+m) (by lia) (by lia);have z:Dn rk (mirror (arrOf f) (lo+m-(q+1)) (lo+m) ((lo+m-(lo+m-(q+1))) / 2)) lo (lo+m):=λi j a b c=>by
    rw[rR p e,rR p e];exact d i j a b c
   exact l _ ⟨T,z⟩;rw[if_neg N];exact l _ ⟨K,d⟩;rintro y ⟨T,z⟩
   ·skip
    refine az (lz ?_);have K3:=T.mir (i:=lo) (j:=lo+m) (aj _) (by lia);refine az (XI (rk:=rk) (lo:=lo) (by lia) m2 (z.turn (aH (by lia) (Aq T.sb.size.symm))) ?_ λm' m3 m4 u' _=>?_)
    ·intro x n P C S Y Z;refine az (qd R K3.sb hD (by lia) (by lia) ?_);dsimp only;split
     ·rename_i r;exact aF (Y (by simpa using r))
     ·rename_i r;exact aF (Z (by simpa using r))
    ·exact aF (h m' _ K3 (by lia) m4 u')
theorem JC(R:Rk prog w A s kd D rk){lo n ok:Nat}{Q:Bool->SortSt->Prop}{g:SortSt}(K:Kp rk kd a₀ lo g st)(hD:∀x∈a₀,D x)(hn:lo+n<=a₀.size)(h1:1<=ok)(J:ok<=n)(O:Up rk (arrOf st) lo (lo+ok))
  (h:∀e,Kp rk kd a₀ lo g e->Up rk (arrOf e) lo (lo+n)->Q true e):wpS (model prog w) A E s (binarySort' lo n ok) Q st:=by
 refine az (wpS_mono (im (I:=λk c e=>c=(ab,())/\Kp rk kd a₀ lo g e/\Up rk (arrOf e) lo (lo+k))
  (Q:=λc e=>c=(ab,())/\Kp rk kd a₀ lo g e/\Up rk (arrOf e) lo (lo+n)) ?step ?z9 ⟨rfl,K,by rwa [show max ok 1=ok by lia]⟩) ?post)
 case post=>
  rintro c e ⟨rfl,K,u⟩;exact aF (h e K u)
 case z9=>
  rintro c e ⟨rfl,K,u⟩;rw[show max (max ok 1) n=n by lia]at u;exact⟨rfl,K,u⟩
 case step=>
  rintro k c e P S ⟨rfl,K,u⟩;refine az (wpS_mono (im (I:=λx c f=>f=e/\∃l r,c=(ab,l,r)/\l<=r/\r<=k/\r-l<=k-x/\(∀i,lo<=i->i<lo+l->kA rk (arrOf e) i<=kA rk (arrOf e) (lo+k))/\∀i,lo+r<=i->i<lo+k->kA rk (arrOf e) (lo+k)<kA rk (arrOf e) i)
   (Q:=λc f=>f=e/\∃l r,c=(ab,l,r)/\l<=k/\(∀i,lo<=i->i<lo+l->kA rk (arrOf e) i<=kA rk (arrOf e) (lo+k))/\∀i,lo+l<=i->i<lo+k->kA rk (arrOf e) (lo+k)<kA rk (arrOf e) i) ?s2 ?f2 ⟨rfl,0,k,rfl,by lia,by lia,by lia,λi _ _=>by lia,λi _ _=>by lia⟩) ?p2)
  case f2=>
   rintro c f ⟨rfl,l,r,rfl,G,o,H,p,q⟩;have:l=r:=by lia
   subst this;exact⟨rfl,l,l,rfl,o,p,q⟩
  case s2=>
   rintro x c f _ T ⟨rfl,l,r,rfl,G,o,H,p,q⟩;dsimp only;by_cases t:l ≥ r
   ·rw[if_pos t];have:l=r:=by lia
    subst this;exact aF ⟨rfl,l,l,rfl,o,p,q⟩
   ·rw[if_neg t];have L:l<=(l+r) / 2:=by lia
    have z:(l+r) / 2<r:=by lia
    have M:(l+r) / 2-l<=k-(x+1):=by lia
    have N:r-((l+r) / 2+1)<=k-(x+1):=by lia
    clear G H;generalize (l+r) / 2=m at *;refine az (qd R K.sb hD (by lia) (by lia) ?_);dsimp only;by_cases v:kA rk (arrOf f) (lo+k)<kA rk (arrOf f) (lo+m)
    ·rw[decide_eq_true v,if_pos rfl];exact aF ⟨rfl,l,_,rfl,L,aH (eE z) o,M,p,λi B C=>aT v (u _ i (iO _ _) B C)⟩
    ·rw[decide_eq_false v,if_neg (by simp)];exact aF ⟨rfl,_,r,rfl,z,o,N,λi B C=>aH (u i (lo+m) B (Nat.le_of_lt_succ C) (Nat.add_lt_add_left (aT z o) _)) (Cd.mp v),q⟩
  case p2=>
   rintro c f ⟨rfl,l,r,rfl,o,p,q⟩;have U:=K.sb.size;have y:=λj=>Tu (rk:=rk) (xs:=arrOf f) (src:=lo+k) (d:=lo+k-(lo+l)) (by lia) (by lia) j;rw[show lo+k-(lo+k-(lo+l))=lo+l by lia]at y;refine az (wpS_modify (aF ⟨rfl,K.set (BR.mp (bubble_perm _ _ _)) λj Y=>?_,λi j a b c=>?_⟩))
   ·refine(y j).trans ?_;rw[if_neg (by lia),if_neg (by lia)]
   ·refine aH (Aq (y i)) (aH ?_ (Aq (y j).symm))
    repeat' split
    all_goals first
     |lia
     |exact aj _
     |exact p _ (by lia) (by lia)
     |exact eE (q _ (by lia) (by lia))
     |exact u _ _ (by lia) (by lia) (by lia)
end
end L2

namespace L2
open PySem PySem.Spec PyProof.Rows
section
variable {prog:aN}{w:aR}{A:a4}{E:af->ag->Prop}{s:ag}{kd:SortKind}{D:Keyed->Prop}{rk:Keyed->Nat}{st:SortSt}{a₀:Array Keyed}
theorem Runs.pow:∀{ps d:List wq} {lo hi:Nat},ps.map (λr=>(r.1,r.2.1))=d.map (λr=>(r.1,r.2.1))->Runs rk arr ps lo hi->Runs rk arr d lo hi
 |[],[],_,_,_,h=>h
 |[],_::_,_,_,e,_=>by cases e
 | _::_,[],_,_,e,_=>by cases e
 |(a,b,c)::ps,(l,m,n)::d,lo,hi,e,⟨f,g,i,h⟩=>by
  rw[ay,ay]at e;obtain⟨j,k⟩:=C8 e;cases j;exact⟨f,g,i,h.pow k⟩
theorem Rm{l:List wq}{i:Nat}{f:wq->wq}(a:∀r,((f r).1,(f r).2.1)=(r.1,r.2.1)):(l.modify i f).map (λr=>(r.1,r.2.1))=l.map (λr=>(r.1,r.2.1)):=by
 apply B2;intro j;rw[av,av,List.getElem?_modify];cases l[j]? with
 |none=>rfl
 |some r=>
  show aa _=aa _;congr 1;dsimp only;split
  ·exact a r
  ·rfl
theorem Ka{ps:List wq}{i:Nat}(h:i+1<ps.length):∃c a b d,ps=c++a::b::d/\c.length=i:=by
 refine⟨ps.take i,ps[i],ps[i+1],ps.drop (i+2),?_,by rw[eN];lia⟩;rw[<- ey,<- ey,Bj]
theorem XO(R:Rk prog w A s kd D rk){Q:Bool->SortSt->Prop}{hi i:Nat}(B:Sb kd a₀ st)(hD:∀x∈a₀,D x)(b:i+1<(a9 st).size)(d:Runs rk (arrOf st) (a9 st).toList 0 hi)(f:hi<=a₀.size)
  (h:∀a,Sb kd a₀ a->(a9 a).size+1=(a9 st).size->Runs rk (arrOf a) (a9 a).toList 0 hi->(∀j,hi<=j->kA rk (arrOf a) j=kA rk (arrOf st) j)->Q true a):wpS (model prog w) A E s (mergeAt' i) Q st:=by
 obtain⟨g,⟨o,p,q⟩,⟨r,t,u⟩,c,e,rfl⟩:=Ka (ps:=(a9 st).toList) (i:=i) (by rw[aG];exact b);refine JD R B hD e d f λa k l m n=>h a k ?_ m n;rw[<- aG,<- aG,e,l];simp only[aJ,aI];lia
theorem JI(R:Rk prog w A s kd D rk){Q:Unit->SortSt->Prop}(B:Sb kd a₀ st)(hD:∀x∈a₀,D x)(Z:1<=a₀.size)(hp:a9 st=#[])
  (h:∀st',Sb kd a₀ st'->Up rk (arrOf st') 0 a₀.size->Q () st'):wpS (model prog w) A E s sortRuns' Q st:=by
 rw[sortRuns'_eq];refine az (wpS_get ?_);dsimp only;rw[B.size];refine az (wpS_mono (im (I:=λx c st'=>∃g,c=(ab,g)/\x<=g/\g<=a₀.size/\Sb kd a₀ st'/\Runs rk (arrOf st') (a9 st').toList 0 g)
  (Q:=λc st'=>c=(ab,a₀.size)/\Sb kd a₀ st'/\Runs rk (arrOf st') (a9 st').toList 0 a₀.size) ?step ?z9 ⟨0,rfl,aj _,aM _,B,by rw[hp];rfl⟩) ?post)
 case z9=>
  rintro c st' ⟨g,rfl,v,Z,m,k⟩;have:g=a₀.size:=by lia
  subst this;exact⟨rfl,m,k⟩
 case post=>
  rintro c st' ⟨rfl,m,k⟩;dsimp only;have hl:=k.le;rw[aG]at hl;refine az (wpS_mono (im (I:=λx c st'=>c=(ab,())/\(a9 st').size+x<=a₀.size/\Sb kd a₀ st'/\Runs rk (arrOf st') (a9 st').toList 0 a₀.size)
   (Q:=λc st'=>c=(ab,())/\(a9 st').size<=1/\Sb kd a₀ st'/\Runs rk (arrOf st') (a9 st').toList 0 a₀.size) ?s2 ?f2 ⟨rfl,by lia,m,k⟩) ?p2)
  case f2=>
   rintro c st' ⟨rfl,v,m,k⟩;exact⟨rfl,by lia,m,k⟩
  case p2=>
   rintro c st' ⟨rfl,v,m,k⟩;refine aF (h st' m ?_);rw[<- aG]at v;cases e:(a9 st').toList with
   |nil=>
    rw[e]at k;have:0=a₀.size:=k;lia
   |cons p ps=>
    obtain⟨a,b,c⟩:=p;rw[e]at k v;rw[aI]at v;have:ps=[]:=oE (by lia);subst this;obtain⟨_,_,u,z⟩:=k;have z':0+b=a₀.size:=z;rw[z']at u;exact u
  case s2=>
   rintro x c st' _ hx ⟨rfl,v,m,k⟩;refine az (wpS_get ?_);by_cases O:(a9 st').size<=1
   ·rw[if_pos O];exact aF ⟨rfl,O,m,k⟩
   ·rw[if_neg O];have go:∀i,i+1<(a9 st').size->wpS (model prog w) A E s (mergeAt' i) (λa j=>a=true/\(a9 j).size+(x+1)<=a₀.size/\Sb kd a₀ j/\Runs rk (arrOf j) (a9 j).toList 0 a₀.size) st':=λi P=>
     XO R m hD P k (aj _) λj S e'' T _=>⟨rfl,by lia,S,T⟩
    refine az (wpS_mono (go _ ?_) ?_)
    ·(repeat' split) <;> lia
    ·rintro _ j ⟨rfl,U,e2,e3⟩;rw[if_neg (by simp)];exact aF ⟨rfl,U,e2,e3⟩
 case step=>
  rintro x c st' _ hx ⟨g,rfl,v,Z,m,k⟩;dsimp only;by_cases G:g ≥ a₀.size
  ·rw[if_pos G];have:g=a₀.size:=by lia
   subst this;exact aF ⟨rfl,m,k⟩
  rw[if_neg G];refine az (JG R m hD (by lia) (by lia) λn st1 K1 n1 n2 u1=>?_);dsimp only;have H:∀(N:Nat) (l:SortSt),1<=N->g+N<=a₀.size->Sb kd a₀ l->Runs rk (arrOf l) (a9 l).toList 0 g->Up rk (arrOf l) g (g+N) ->
    Runs rk (arrOf l) ((a9 l).push (g,N,0)).toList 0 (g+N):=λN l U e2 e3 e4 e5=>by
   rw[BZ];exact e4.join ⟨rfl,U,e5,rfl⟩
  by_cases hm:n<minRun' a₀.size a₀.size 0;rw[if_pos hm];refine az (qe ?_);refine az (JC R K1 hD (by lia) n1 (by lia) u1 λl t J=>?_);rw[if_neg (by simp)];have K:1<=min (a₀.size-g) (minRun' a₀.size a₀.size 0):=by lia
  have C:g+min (a₀.size-g) (minRun' a₀.size a₀.size 0)<=a₀.size:=by lia
  generalize min (a₀.size-g) (minRun' a₀.size a₀.size 0)=N at J K C ⊢;rotate_left;rw[if_neg hm];have t:=K1;have J:=u1;have K:=n1;have C:g+n<=a₀.size:=by lia
  generalize n=N at J K C ⊢
  all_goals
   have Y:=k.congr (arr':=_) (λi _ P=>t.left i P);rw[<- t.pend]at Y;refine az (wpS_get ?_);split
   ·rename_i s1 m1 q1 _;generalize power' a₀.size (2*s1+m1) _ a₀.size=pw;refine az (wpS_mono (im (I:=λy c d=>c=(ab,())/\Sb kd a₀ d/\Runs rk (arrOf d) (a9 d).toList 0 g/\Up rk (arrOf d) g (g+N))
     (Q:=λc d=>c=(ab,())/\Sb kd a₀ d/\Runs rk (arrOf d) (a9 d).toList 0 g/\Up rk (arrOf d) g (g+N)) ?_ ?_ ⟨rfl,t.sb,Y,J⟩) ?_)
    ·rintro y c d _ hy ⟨rfl,q,L,M⟩;refine az (wpS_get ?_);split
     ·rename_i o;split
      ·exact aF ⟨rfl,q,L,M⟩
      ·have O:(a9 d).size > 1:=by
        refine Bf λhc=>?_;rw[if_neg (by lia)]at o;cases o
       refine az (XO R q hD (by lia) L (by lia) λst4 B4 _ r4 k4=>?_);rw[if_neg (by simp)];exact aF ⟨rfl,B4,r4,M.congr λi i1 _=>k4 i i1⟩
     ·exact aF ⟨rfl,q,L,M⟩
    ·exact λc d z=>z
    ·rintro c d ⟨rfl,q,L,M⟩;dsimp only;refine az (wpS_modify ?_);refine az (wpS_modify (aF ⟨_,rfl,by lia,C,⟨q.perm,q.kind,q.failed⟩,?_⟩));exact H N (setPending d ((a9 d).modify ((a9 d).size-1) λx=>(x.1,x.2.1,pw))) K C ⟨q.perm,q.kind,q.failed⟩ (by
      show Runs rk (arrOf d) ((a9 d).modify _ _).toList 0 g;rw[Array.toList_modify];exact L.pow (Rm (f:=λx=>(x.1,x.2.1,pw)) λr=>rfl).symm) M
   ·exact az (wpS_modify (aF ⟨_,rfl,by lia,C,⟨t.sb.perm,t.sb.kind,t.sb.failed⟩,H _ _ K C t.sb Y J⟩))
end
end L2

namespace L2
open PySem PySem.Spec PyProof.Rows
abbrev xf:=List Int
def j8(rows:List xf)(r:xf):Nat:=rows.countP λq=>decide (q<r)
theorem dQ{d:Type}{p q:d->Bool}:∀{l:List d},(∀x,p x=true->q x=true)->(∃x∈l,p x=false/\q x=true)->l.countP p<l.countP q
 |[],_,h=>by obtain⟨x,b,_⟩:=h;cases b
 |a::l,h,⟨x,b,f,g⟩=>by
  rw[DO,DO];have m:l.countP p<=l.countP q:=CM λx _ b=>h x b;rcases aC.mp b with e|b
  ·subst e;rw[if_neg (by simp[f]),if_pos g];lia
  ·have:=dQ (l:=l) h ⟨x,b,f,g⟩;by_cases c:p a=true
   ·rw[if_pos c,if_pos (h a c)];lia
   ·rw[if_neg c];lia
theorem Yj{r:xf}(b:r∈rows):decide (j8 rows r<j8 rows r')=decide (r<r'):=by
 by_cases h:r<r'
 ·rw[decide_eq_true h];refine decide_eq_true (dQ (λq a=>?_) ⟨r,b,?_,decide_eq_true h⟩)
  ·exact decide_eq_true (List.lt_trans (of_decide_eq_true a) h)
  ·exact decide_eq_false (List.lt_irrefl r)
 ·rw[decide_eq_false h];refine decide_eq_false (Cd.mpr (CM λq _ a=>?_));refine decide_eq_true (oQ λc=>h ?_);exact List.lt_of_le_of_lt (DJ.mp c) (of_decide_eq_true a)
section
variable {prog:aN}{w:aR}{A:a4}{E:af->ag->Prop}{s:ag}
structure SrtH(prog:aN)(w:aR)(HP:aX->Prop)(vs:List af)(kd:SortKind)(row:af->xf):Prop where
 keep:∀{h h':aX},HP h->(∀b o,h.get? b=aa o->o.cls=.type "tuple" -> h'.get? b=aa o)->HP h'
 kind:∀(A:a4) (s:ag) (E:af->ag->Prop) (Q:SortKind->ag->Prop),HP s.heap->2<=vs.length->Q kd s->au (model prog w) A (keyKind' vs.toArray) Q E s
 lt:∀(A:a4) (s:ag),HP s.heap->∀x∈vs,∀y∈vs,∀(E:af->ag->Prop) (Q:Bool->ag->Prop),Q (decide (row x<row y)) s->au (model prog w) A (keyLt' kd x y) Q E s
variable {HP:aX->Prop}{vs:List af}{kd:SortKind}{row:af->xf}
theorem SrtH.rk(H:SrtH prog w HP vs kd row)(h:HP s.heap):Rk prog w A s kd (λx=>x.1∈vs) (λx=>j8 (vs.map row) (row x.1)):=
 ⟨λx y a b E Q q=>H.lt A s h _ a _ b E Q (by rw[Yj (a8.mpr ⟨_,a,rfl⟩)]at q;exact q)⟩
theorem J5{xs:Array Keyed}(b:xs.toList.Perm (vs.toArray.zip vs.toArray).toList):∃a:List af,(xs.map (·.2)).toList=a/\a.Perm vs/\a=xs.toList.map (·.1):=by
 rw[A8]at b;have d:∀p∈xs.toList,p.1=p.2:=λp c=>(mem_zip_self (b.mem_iff.mp c)).1;refine⟨xs.toList.map (·.2),Array.toList_map,?_,eV λp c=>(d p c).symm⟩;have:=b.map (·.2);rwa [Ch (aj _)]at this
theorem SZ{n:Nat}{P:Fin->ag->Prop}(H:SrtH prog w HP vs kd row)(ho:s.heap.get? a=aa (seqObj "list" vs.toArray n))(hI:HP s.heap)(hl:vs.length<=10000000)
 (h:∀out:List af,out.Perm vs->(out.map row).Pairwise (·<=·)->P (.done (.ret .none)) { s with heap:=sortedHeap s.heap a vs out.toArray}):au (model prog w) A (Builtin.«list.sort» ⟨[.ref a],[]⟩) P E s:=by
  rw[list_sort_plain];have ha:a<s.heap.objs.size:=aA ho;refine ac (listItems_at ho rfl ?_);refine ac (listUpdate_at ho rfl ?_ (by rw[ih];simp;lia) (by simp));obtain⟨e1,ho1⟩:∃e1,(s.heap.update a (eU λ_=>#[])).get? a=aa (seqObj "list" #[] e1):=⟨_,get?_update_seq ho (λ_=>#[])⟩;refine ac (seqEpoch_at ho1 rfl ?_);refine ac (wpAny_newTuple ?_ (by show vs.length<=_;rw[ih];lia));refine ac (wpAny_newList ?_);refine e6 ?_;have ho6:(((s.heap.update a (eU λ_=>#[])).push (seqObj "tuple" vs.toArray 0)).push (seqObj "list" #[] 0)).get? a=aa (seqObj "list" #[] e1):=by
    rw[AW _ _ _ (by rw[size_push',A9];exact aP (B3 ha)),AW _ _ _ (by rw[A9];exact aP ha)];exact ho1
  show au (model prog w) A _ P E { s with heap:=((s.heap.update a (eU λ_=>#[])).push (seqObj "tuple" vs.toArray 0)).push (seqObj "list" #[] 0)};dsimp only;have hI6:HP (((s.heap.update a (eU λ_=>#[])).push (seqObj "tuple" vs.toArray 0)).push (seqObj "list" #[] 0)):=H.keep hI λb o hb hc=>by
    have hne:b≠a:=λe=>by subst e;rw[ho]at hb;cases hb;exact absurd (show oy "list" =oy "tuple" from hc) (λz=>by injection z with z;exact absurd z (by decide))
    refine ai _ (ai _ ?_);rw[Db _ _ _ _ hne];exact hb
  have z9:∀st':SortSt,(arrOf st').toList.Perm (vs.toArray.zip vs.toArray).toList->((arrOf st').toList.map λp=>row p.1).Pairwise (·<=·)->P (.done (.ret .none)) { s with heap:=sortedHeap s.heap a vs ((arrOf st').map (·.2))}:=λst' hp hs=>by
    obtain⟨out,e1,e2,e3⟩:=J5 hp;have e4:(arrOf st').map (·.2)=out.toArray:=by apply CY;rw[e1]
    rw[e4];refine h out e2 ?_;rw[e3,e7];exact hs
  have sz2:∀st':SortSt,(arrOf st').toList.Perm (vs.toArray.zip vs.toArray).toList->((arrOf st').map (·.2)).size<=aS+1:=λst' hp=>by
    have:=hp.length_eq;rw[aG]at this;rw[Array.size_map,this,ih];simp;lia
  by_cases h2:vs.toArray.size<2
  · rw[if_pos h2,if_pos h2];refine ac (am ?_);rw[StateT.run_pure];refine ac (am ?_);dsimp only;refine ac (seqEpoch_at ho6 rfl ?_);refine ac (listUpdate_at ho6 rfl ?_ (by simp) (sz2 (AQ _ (vs.toArray.zip vs.toArray) #[] 7 ab) (.refl _)));simp only[bne_self_eq_false,ei,if_false];refine am (z9 (AQ _ (vs.toArray.zip vs.toArray) #[] 7 ab) (.refl _) ?_);have hz:((vs.toArray.zip vs.toArray).toList.map λp:Keyed=>row p.1).length<2:=by
      rw[ar,A8];simpa using h2
    show((vs.toArray.zip vs.toArray).toList.map λp:Keyed=>row p.1).Pairwise (·<=·)
    match hq:((vs.toArray.zip vs.toArray).toList.map λp:Keyed=>row p.1)with
    |[]=>exact .nil
    |[x]=>exact AT _ _
    | _::_::_=>rw[hq]at hz;simp at hz;lia
  · rw[if_neg h2,if_neg h2];refine ac (H.kind _ { s with heap:=((s.heap.update a (eU λ_=>#[])).push (seqObj "tuple" vs.toArray 0)).push (seqObj "list" #[] 0)} _ _ hI6 (by simpa using h2) ?_);refine ac (ip (JI (a₀:=vs.toArray.zip vs.toArray) (st:=AQ kd (vs.toArray.zip vs.toArray) #[] 7 ab) (Q:=λ_ st'=>Sb kd (vs.toArray.zip vs.toArray) st'/\((arrOf st').toList.map λp=>row p.1).Pairwise (·<=·))
      (H.rk (s:={ s with heap:=((s.heap.update a (eU λ_=>#[])).push (seqObj "tuple" vs.toArray 0)).push (seqObj "list" #[] 0)}) hI6) ⟨.refl _,rfl,rfl⟩ (λx hx=>?_) (by simp at h2 ⊢;lia) rfl λst' B u=>⟨B,?_⟩) ?_ λ_ _ e=>e)
    · have hx':x∈vs.zip vs:=by rw[<- ol,A8]at hx;exact hx
      exact(mem_zip_self hx').2
    · rw[DA,oS];intro i j hi hj hij;have hz:=B.size;rw[aG]at hi hj;have:=u i j (aM _) (by lia) (by lia);rw[xE hi,xE hj]at this;rw[oP,oP];have hm:(arrOf st')[j]∈(vs.toArray.zip vs.toArray).toList:=B.perm.mem_iff.mp (ol.mpr (eh hj));rw[A8]at hm;refine DJ.mp λhc=>?_;have h3:=Yj (rows:=vs.map row) (r':=row (arrOf st')[i].1) (a8.mpr ⟨_,(mem_zip_self hm).2,rfl⟩);rw[decide_eq_true hc]at h3;have:=of_decide_eq_true h3;lia
    · rintro⟨⟨⟩,st'⟩ s' ⟨rfl,B,hs⟩;dsimp only at B hs ⊢;refine ac (seqEpoch_at ho6 rfl ?_);refine ac (listUpdate_at ho6 rfl ?_ (by simp) (sz2 st' B.perm));have hf:=B.failed;simp only[bne_self_eq_false,ei,if_false];rw[hf];exact am (z9 st' B.perm hs)
theorem M1{Q:af->ag->Prop}(H:SrtH prog w HP vs kd row)(i:s.heap.IsList l vs.toArray)(j:HP s.heap)(k:vs.length<=10000000)
 (h:∀a:List af,a.Perm vs->(a.map row).Pairwise (·<=·)->Q (.ref (s.heap.objs.size+1)) { s with heap:=sortedAll s.heap vs a.toArray}):au (model prog w) A (call (.builtin "sorted") [.ref l]) Q E s:=by
  refine B9 kind_sorted plain_sorted entry_sorted (args_sorted1 _) ?_;unfold Builtin.«sorted»;have c:vs.length<=aS:=by rw[ih];lia
  refine ac (m:=checkCount "sorted" 1 1 _) (am ?_);refine ac (collect_list i ?_ c);refine ac (wpAny_newList ?_ c);have d:((s.heap.push (seqObj "list" #[] 0)).update s.heap.objs.size (eU (· ++ vs.toArray))).objs.size=s.heap.objs.size+1:=by
    rw[A9,size_push']
  have e:(((s.heap.push (seqObj "list" #[] 0)).update s.heap.objs.size (eU (· ++ vs.toArray))).push (seqObj "list" vs.toArray 0)).get? (s.heap.objs.size+1)=aa (seqObj "list" vs.toArray 0):=by
    rw[<- d];exact ax _ rfl
  have f:HP (((s.heap.push (seqObj "list" #[] 0)).update s.heap.objs.size (eU (· ++ vs.toArray))).push (seqObj "list" vs.toArray 0)):=H.keep j λb o g _=>by
    refine ai _ ?_;rw[Db _ _ _ _ (aP (aA g))];exact ai _ g
  show au _ _ _ _ _ { s with heap:=((s.heap.push (seqObj "list" #[] 0)).update s.heap.objs.size (eU (· ++ vs.toArray))).push (seqObj "list" vs.toArray 0)};rw[d];refine ac (e6 (wpAny_call_entry slot_list_sort ⟨_,e,rfl⟩ entry_list_sort (SZ H e f k λa n p=>⟨_,rfl,?_⟩) (args_list_sort _)));exact am ⟨_,rfl,h a n p⟩
end
end L2

namespace L2
open PySem PySem.Spec PyProof.Rows
section
variable {prog:aN}{w:aR}{A:a4}{s:ag}
theorem Zi{Q:Bool->ag->Prop}:∀{xs g:List af} {d f:List Int} (i:Nat),IntsAre xs d->IntsAre g f->Q (decide (d<f)) s->PySem.W.KatLex prog w A true (decide (xs.length<g.length)) Q (xs.zip g) i s
 | _,_,_,_,i,.nil,.nil,h=>h
 | _,_,_,_,i,.nil,.cons n t r,h=>by
  refine D5 ?_;rw[decide_eq_true (by simp)];rwa [decide_eq_true (by simp)]at h
 | _,_,_,_,i,.cons n t r,.nil,h=>by
  refine D5 ?_;rw[decide_eq_false (by simp)];rwa [decide_eq_false (by simp)]at h
 | _,_,_,_,i,.cons (vs:=xs) (ns:=d) a t r,.cons (vs:=g) (ns:=f) b u k,h=>by
  rw[ie];refine PySem.W.kat_cons (wpAny_eqBool_int ?_);by_cases e:a=b
  ·subst e;rw[beq_self_eq_true];refine PySem.W.kat_yes ?_;have l:decide ((Bm a t::xs).length<(Bm a u::g).length)=decide (xs.length<g.length):=by simp
   have j:decide (a::d<a::f)=decide (d<f):=by
    by_cases c:d<f
    ·rw[decide_eq_true c,decide_eq_true (oK.mpr (.inr ⟨rfl,c⟩))]
    ·rw[decide_eq_false c,decide_eq_false λz=>(oK.mp z).elim (λz=>by lia) λz=>c z.2]
   rw[j]at h;rw[l];exact Zi (i+1) r k h
  ·rw[beq_eq_false_iff_ne.mpr e];refine PySem.W.kat_no ?_;have j:decide (a::d<b::f)=decide (a<b):=by
    by_cases c:a<b
    ·rw[decide_eq_true c,decide_eq_true (oK.mpr (.inl c))]
    ·rw[decide_eq_false c,decide_eq_false λz=>(oK.mp z).elim c λz=>e z.1]
   rw[j]at h;cases m:(true&&i==0)with
   |true=>exact oneLt_int h
   |false=>exact PySem.W.kat_one _ _ (lt_int h)
def kv(h:aX)(row:af->xf)(vs:List af):Prop:=∀v∈vs,∃a o b n,v=.ref a/\h.get? a=aa o/\o.cls=.type "tuple" /\ o.data=.seq b n/\IntsAre b.toList (row v)/\row v≠[]
theorem Xk{row:af->xf}:∀{vs:List af},kv h row vs->∃c,PySem.W.KatTups h vs c/\c.length=vs.length/\∀v∈c,∃i t,v=.int i t
 |[],_=>⟨[],trivial,rfl,λv b=>by cases b⟩
 |v::vs,t=>by
  obtain⟨c,j,k,l⟩:=Xk (vs:=vs) λv b=>t v (aq _ b);obtain⟨a,o,d,n,rfl,m,p,q,f,g⟩:=t v aw;obtain⟨d⟩:=d;generalize row (.ref a)=r at f g;cases f with
  |nil=>exact absurd rfl g
  |cons i t _=>
   refine⟨.int i t::c,⟨⟨a,o,_,n,rfl,m,p,q,rfl⟩,j⟩,by rw[aI,aI,k],λv b=>?_⟩;rcases aC.mp b with e|b
   ·exact⟨i,t,e⟩
   ·exact l v b
theorem M6{row:af->xf}:SrtH prog w (λh=>kv h row vs) vs (tuples' true) row:=by
 refine⟨λt k v c=>?_,λA s E Q t K q=>?_,λA s t x f y g E Q q=>?_⟩
 ·obtain⟨a,o,d,n,j,l,e,p,r⟩:=t v c;exact⟨a,o,d,n,j,k a o l e,e,p,r⟩
 ·obtain⟨L,u,M,z⟩:=Xk t;refine PySem.W.kat_kind (T:=.type "int") u (by lia) (λv c=>?_) rfl q;obtain⟨i,t,rfl⟩:=z v c;exact .now
 ·obtain⟨a,N,d,n,rfl,B,_,C,G,_⟩:=t x f;obtain⟨b,O,P,m,rfl,H,_,I,J,_⟩:=t y g;refine PySem.W.kat_lt B C H I ?_;rw[<- aG,<- aG];exact Zi 0 G J q
end
noncomputable def vI:V->Int
 |.int i=>i
 | _=>0
def wC(H:Hp)(a:ah):xf:=match H a with
 |some (.tup b)=>b.map vI
 | _=>[]
def rX(H:Hp):af->xf
 |.ref a=>wC H a
 | _=>[]
theorem ly(r:xf):(r.map V.int).map vI=r:=by
 rw[e7];exact(eV λ_ _=>rfl).trans (CI r)
theorem Xv:∀{r:xf} {us:List af},Vals (r.map V.int) us->IntsAre us r
 |[],_,.nil=>.nil
 |i::r,_,.cons h t=>by
  obtain⟨k,rfl⟩:=h;exact .cons i k (Xv t)
theorem gw:∀{as:List ah} {us:List af},Vals (as.map V.ref) us->us=as.map ea
 |[],_,.nil=>rfl
 |a::as,_,.cons h t=>by
  cases h;rw[ay,gw t]
theorem Yg:∀b:List ah,Vals (b.map V.ref) (b.map ea)
 |[]=>.nil
 |a::b=>.cons rfl (Yg b)
def gq:af->ah
 |.ref a=>a
 | _=>default
theorem Ps{as:List ah}{out:List af}(h:out.Perm (as.map ea)):∃b:List ah,b.Perm as/\out=b.map ea:=by
 refine⟨out.map gq,?_,?_⟩
 ·have:=h.map gq;rwa [e7,show(gq ∘ ea)=id from rfl,CI]at this
 ·rw[e7];refine(CI out).symm.trans (eV λv c=>?_)
  obtain⟨a,_,rfl⟩:=a8.mp (h.mem_iff.mp c);rfl
def sS(H:Hp)(as:List ah):Prop:=∀a∈as,∃r:xf,r≠[]/\H a=aa (.tup (r.map V.int))
theorem Inv.tups{s:ag}(I:Inv X pins σ H s){as:List ah}(h:sS H as):kv s.heap (rX H) (as.map ea):=by
 intro v d;obtain⟨a,f,rfl⟩:=a8.mp d;obtain⟨r,g,c⟩:=h a f;obtain⟨_,i,j,o,e,b,n,k⟩:=I.hok a _ c;have l:rX H (.ref a)=r:=by
  show wC H a=r;unfold wC;rw[c];exact ly r
 rw[l];exact⟨a,o,_,n,rfl,e,b,congrArg Prod.fst k,Xv j,g⟩
theorem W3{X:Cx}:wT X (.builtin "sorted") (λf H Q=>∃(p:ah) (as:List ah),f=[.ref p]/\SqL X.K H p (as.map V.ref)/\sS H as/\as.length<=1000000/\∀(c:List ah) (l:ah),c.Perm as->(c.map (wC H)).Pairwise (·<=·)->H l=ab->Q (.ref l) (zp H l (.lst (c.map V.ref)))):=by
 intro g s A H f B Q I r h;obtain⟨p,as,rfl,k,d,C,q⟩:=h;obtain⟨u,rfl,m⟩:=ur r;cases m;obtain⟨n,t,pl,E⟩:=I.list k;cases gw t;refine M1 M6 pl.isList (I.tups d) (by rw[ar];lia) λv w i=>?_;obtain⟨c,j,rfl⟩:=Ps w;rw[e7]at i;have sz:((s.heap.push (seqObj "list" #[] 0)).update s.heap.objs.size (eU (· ++ (as.map ea).toArray))).objs.size=s.heap.objs.size+1:=by rw[A9,size_push']
 have x:(((s.heap.push (seqObj "list" #[] 0)).update s.heap.objs.size (eU (· ++ (as.map ea).toArray))).push (seqObj "list" (as.map ea).toArray 0)).get? (s.heap.objs.size+1)=aa (seqObj "list" (as.map ea).toArray 0):=by
  rw[<- sz];exact ax _ rfl
 obtain⟨e,y⟩:=sortedHeap_at (out:=(c.map ea).toArray) x;refine⟨.ref (s.heap.objs.size+1),_,I.laid (a:=s.heap.objs.size+1) (o:=.lst (c.map V.ref)) (h':=sortedAll s.heap (as.map ea) (c.map ea).toArray) (t':=s.toks) (λb o z=>?_) (oj _) ⟨?_,c.map ea,e,Yg c,y⟩,rfl,q c _ j i (I.hok.fresh (oj _))⟩
 ·exact sortedAll_old z
 ·rw[ar,j.length_eq,ih];lia
end L2
namespace L3
open PySem PySem.Spec PyProof.Rows L2
def yg(r:xf):D:=.tup (r.map .int)
def wZ:D->Option xf
 |.tup a=>ug a
 | _=>ab
noncomputable def rY:List D->Option (List xf)
 |[]=>aa []
 |d::a=>(wZ d).bind λp=>(rY a).map λb=>p::b
noncomputable def sI(rows:List xf):List xf:=rows.mergeSort λa b=>decide (a<=b)
theorem pL(rows:List xf):(sI rows).Perm rows:=List.mergeSort_perm _ _
theorem Yz(rows:List xf):(sI rows).Pairwise (·<=·):=by
 have:=List.pairwise_mergeSort (le:=λa b:xf=>decide (a<=b)) (λa b c d e=>decide_eq_true (List.le_trans (of_decide_eq_true d) (of_decide_eq_true e))) (λa b=>by
  rcases List.le_total a b with h|h
  ·rw[decide_eq_true h];rfl
  ·rw[decide_eq_true h,Bool.or_true]) rows
 exact this.imp λh=>of_decide_eq_true h
theorem M9{c:List xf}(h:c.Perm rows)(d:c.Pairwise (·<=·)):c=sI rows:=
 EB (λa b _ _ e f=>List.le_antisymm e f) d (Yz rows) (h.trans (pL rows).symm)
theorem j9{F:Hp}:∀{vs:List V} {ds:List D} {rows:List xf},Reps F vs ds->rY ds=aa rows->(∀r∈rows,r≠[])->∃d:List ah,vs=d.map V.ref/\sS F d/\rows=d.map (wC F)
 | _,_,_,.nil,q,_=>by cases q;exact⟨[],rfl,(λa g=>by cases g),rfl⟩
 | _,_,_,.cons r t,q,f=>by
  obtain⟨p,c,q⟩:=ze q;obtain⟨u,i,q⟩:=zJ q;subst q;obtain⟨d,j,k,l⟩:=j9 t i λr m=>f r (aq _ m);cases r with
  |tup e n=>
   have o:=mH n c;rw[o]at e;rename_i a _ _;refine⟨a::d,by rw[j];rfl,λb s=>?_,?_⟩
   ·rcases aC.mp s with h|h
    ·subst h;exact⟨p,f p aw,e⟩
    ·exact k b h
   ·rw[ay,<- l];congr 1;unfold wC;rw[e];exact(ly p).symm
  |non=>cases c
  |bl=>cases c
  |int=>cases c
  |str=>cases c
  |lst=>cases c
  |dic=>cases c
  |ins=>cases c
  |dcI=>cases c
  |dcS=>cases c
theorem Yi:∀{as:List ah},sS F as->Reps F (as.map V.ref) ((as.map (wC F)).map yg)
 |[],_=>.nil
 |a::as,h=>by
  obtain⟨r,f,e⟩:=h a aw;have c:wC F a=r:=by unfold wC;rw[e];exact ly r
  refine .cons ?_ (Yi λb d=>h b (aq _ d));rw[c];exact .tup e (.ints r)
noncomputable def qQ:List Ent->Option Ent
 |[x]=>(zS x).bind λb=>(rY b).bind λa=>yY ((∀r∈a,r≠[])/\a.length<=1000000) (aa (.own ((sI a).map yg)))
 | _=>ab
theorem WK:vK X (.builtin "sorted") qQ:=⟨_,W3,λL F H M N t Q d u r q k=>by
 obtain⟨x,rfl⟩:=tL rfl (λ_ _ _=>rfl) q;obtain⟨v,rfl,w⟩:=vF r;obtain⟨O,y,q⟩:=ze q;obtain⟨rows,z,q⟩:=ze q;obtain⟨⟨A,i⟩,B⟩:=xS q;cases B;obtain⟨l,P,C,j,E⟩:=RepR.toL w d y;subst C;obtain⟨as,G,f,m⟩:=j9 E z A;rw[G]at j;have I:sS H as:=λa c=>by obtain⟨r,n,x2⟩:=f a c;exact⟨r,n,d _ _ x2⟩
 have e:∀a∈as,wC H a=wC F a:=λa c=>by
  obtain⟨r,n,x2⟩:=f a c;unfold wC;rw[x2,d _ _ x2]
 refine⟨l,as,rfl,j,I,by rw[m,ar]at i;exact i,λb p g o h=>?_⟩;have J:b.map (wC H)=b.map (wC F):=eV λa c=>e a (g.mem_iff.mp c);rw[J]at o;have K:b.map (wC F)=sI rows:=M9 (by rw[m];exact g.map _) o;have s:=Yi (F:=F) (as:=b) λa c=>f a (g.mem_iff.mp c);rw[K]at s;exact k _ _ _ (Ex.lay d h) ⟨p,_,rfl,u.free h,yz,s,d.free h⟩⟩
end L3

namespace L2
open PySem PySem.Spec PyProof.Rows
section
variable {prog:aN}{w:aR}{A:a4}{E:af->ag->Prop}{s:ag}
end
section
variable {X:Cx}{e tg:Expr}{t:TE}{p p1 pos pos1:Pos}
def ki(a:ah)(o:Obj)(ks:List Str)(vs:List V):It:=⟨λi H=>H a=aa (.frz o (.dK ((ks.map a7).zip vs)))/\i<ks.length,λi H x b=>b=H/\∃z,ks[i]? =aa z/\x=.str z,λi H=>H a=aa (.frz o (.dK ((ks.map a7).zip vs)))/\ks.length<=i⟩
theorem b9:∀{ks:List Str} {vs:List V} {us:List (yM×af)},ks.length=vs.length->KV ((ks.map a7).zip vs) us->us.map (·.1)=ks.map a7
 |[],[],us,_,r=>by
  unfold KV at r;cases r;rfl
 |x::ks,v::vs,us,a,r=>by
  unfold KV at r;rw[ay,ie]at r;cases r with
  |cons h t=>rw[ay,ay,b9 (by simpa using a) t,<- h.1]
theorem Inv.frzD{s:ag}{o:Obj}{ks:List Str}{vs:List V}(I:Inv X pins σ H s)(e:H a=aa (.frz o (.dK ((ks.map a7).zip vs))))(f:ks.length=vs.length) :
 (a==sysModules)=false/\∃(us:List (yM×af)) (es:Array DictEntry) (ep:Nat),o.data=.dict es ep/\us.map (·.1)=ks.map a7/\s.heap.DictAt (uk X.prog X.w) a us ep:=by
  obtain⟨b,_,g,us,r,j,es,ep,c,h,d,i⟩:=I.hok a _ e;rw[b]at c;cases c;exact⟨g,us,es,ep,d,b9 f r,_,es,b,h,d,i⟩
theorem LZ{P:aN}{w:aR}{K:ae}{a it:ah}{o:Obj}{ks:List Str}{vs:List V}{es:Array DictEntry}{ep:Nat}(hl:ks.length=vs.length)(ho:o.data=.dict es ep) :
  Turn P w K tg (ki a o ks vs) [it] it (λi h=>h.IsKeyIter it a i ks.length ep) where
 mem:=by simp
 obj:=λi h f b j=>by
  have e:b=it:=by simpa using j
  subst e;obtain⟨o,e,c,d⟩:=f;exact⟨o,e,λv z=>by rw[d]at z;cases z⟩
 keep:=λi h A f k=>f.at λo e=>k it (by simp) o e
 item:=by
  intro X J L M hc i g s σ H E I B f N;subst J L M;obtain⟨O,Q,f2,R,S,T⟩:=B it (by simp);obtain⟨m,n⟩:=(show _/\_ from N);obtain⟨_,q,U,Y,u,C,Z⟩:=I.frzD m hl;rw[ho]at u;cases u;have G:q.length=ks.length:=by have:=congrArg oV C;simpa using this
  have x:i<q.length:=by lia
  rw[<- G]at f;refine wpAny_pyNext_dict_item (knd:=uk X.prog X.w) (k:=q[i].1) (v:=q[i].2) f Z (by rw[aD x]) λkey A y r sb=>?_;have hz:q[i].1=a7 ks[i]:=by
   have:=congrArg (λl=>l[i]?) C;simp only[av,aD x,aD n,i8,oA]at this;exact this
  rw[hz]at y;have hk2:mP (a7 ks[i]) key=true:=y;rcases ui hk2 with ⟨_,_,z,_⟩|⟨z,t,e1,e2⟩
  ·cases z
  ·cases e1;subst e2;have I1:Inv X g σ H { s with heap:=A}:=I.turned (t':=s.toks) (λb o j e=>(sb.2 b j).trans e) O Q R S T;rw[G]at r;exact⟨_,rfl,letGo_keyiter (s':={ s with heap:=A}) r ⟨.str ks[i],H,I1,⟨t,rfl⟩,⟨rfl,_,aD n,rfl⟩,r,λb j=>(B b j).1⟩⟩
 done:=by
  intro X J L M hc i g s σ H E I B f N;subst J L M;obtain⟨O,Q,f2,R,S,T⟩:=B it (by simp);obtain⟨m,n⟩:=(show _/\_ from N);obtain⟨_,q,U,Y,u,C,Z⟩:=I.frzD m hl;rw[ho]at u;cases u;have G:q.length=ks.length:=by have:=congrArg oV C;simpa using this
  rw[<- G]at f;exact wpAny_pyNext_dict_end (knd:=uk X.prog X.w) (I.ok.hd hc) f Z (iq (by lia)) λA eb=>⟨rfl,I.turned (t':=s.toks) (λb o j e=>eb b o j e) O Q R S T⟩
 self:=λ_ _ _ _ _ f h=>wpAny_pyIter_keyiter f h
def Uy(f:TE):TI:=λg H R=>f g H λx d=>∃a o b c,x=.ref a/\b.length=c.length/\d a=aa (.frz o (.dK ((b.map a7).zip c)))/\R (ki a o b c) d
theorem Pt{l:Expr}{g:TE}(i:PE X l g):PI X tg l (Uy g):=by
 intro c s j H R I h;refine zu (i c s j H _ I h) ?_;rintro v s1 ⟨x,k,f,m,n⟩;obtain⟨a,o,r,J,e,d,u,q⟩:=n;subst e;cases m;obtain⟨y,z,K,L,A,B,C⟩:=f.frzD u d;have E:z.length=r.length:=by have:=congrArg oV B;simpa using this
 refine wpAny_pyIter_dict (knd:=uk X.prog X.w) y C ?_;refine⟨s1.heap.objs.size,[s1.heap.objs.size],_,_,k,rfl,f.kept (t':=s1.toks) λb o e=>ai _ e,LZ d A,⟨_,ax _ rfl,rfl,by rw[E];rfl⟩,λb G=>?_,q⟩;have e:b=s1.heap.objs.size:=by simpa using G
 subst e;exact f.fpOk (aj _) (f.hok.fresh (aj _))
end
end L2
namespace L3
open PySem PySem.Spec PyProof.Rows L2
def tu:List Ent->Option Ent
 |[x,y]=>(zr x).bind λi=>(zr y).map λj=>.val (.int (if j > i then j else i))
 | _=>ab
def iD(fe:FE):FI:=λa=>(fe a).bind λx=>(t4 x).map λp=>p.1.map D.str
section
variable {X:Cx}{e tg:Expr}{fe:FE}{p p1 pos pos1:Pos}
theorem WH(a:X.calm=true:=by rfl):vK X (.builtin "max") tu:=⟨_,WZ a,λm F H n b c Q d o r q k=>by
 match b,q with
 |[x,y],q=>
  obtain⟨i,f,q⟩:=ze q;obtain⟨j,g,q⟩:=zJ q;cases wz f;cases wz g;cases q;cases r with
  |cons h r=>
   cases r with
   |cons l r=>
    cases r;cases wf h;cases wf l;exact⟨i,j,rfl,k _ F H (Ex.refl d) (.int _)⟩⟩
theorem U8{ks:List Str}(h:F0 a=aa (.frz o (.dK ((ks.map a7).zip vs)))):v4 B F0 (ki a o ks vs) (ks.map D.str):=λF H s1 c k=>by
 have f:=c _ _ (s1 _ _ h);refine⟨⟨f,by simp⟩,λi d e=>?_⟩;rw[av]at e;by_cases b:i<ks.length
 ·rw[aD b]at e;cases e;refine⟨⟨f,b⟩,λx l y=>?_⟩;obtain⟨j,z,g,y⟩:=y;rw[aD b]at g;cases g;subst j y;exact⟨F,Ex.refl c,.str _⟩
 ·rw[iq (by lia)]at e;cases e
theorem UK(f:VE X e fe):VI X tg e (iD fe):=by
 obtain⟨t,w,m⟩:=f.h;refine⟨_,⟨Pt w.h⟩,λB F H g i j R s q k=>?_⟩;obtain⟨x,l,q⟩:=ze q;obtain⟨p,n,q⟩:=zJ q;cases q;cases nH n;refine m B F H g i _ _ s l λv b r c u=>?_;cases (show Rep b v (.dic p.1 p.2)from u)with
 |@dic a o A y j d z C=>exact⟨a,o,p.1,y,rfl,z,c.fh _ _ d,k _ b r c (U8 d)⟩
end
end L3

namespace L3
open PySem PySem.Spec PyProof.Rows L2
def dc(K:ae)(a:ah)(c:List Int):Prop:=∃(o:Obj) (b:Array af) (n:Nat),K.lookup a=aa o/\o.cls=.type "tuple" /\ o.data=.seq b n/\b.size<=aS/\Vals (c.map V.int) b.toList
def eB(ds:List D):FE:=λ_=>aa (.bt ds)
theorem KO{X:Cx}{b:List Int}(d:Gl X x)(h:∃a,X.mg x=aa (.ref a)/\dc X.K a b)(e:(x==("__debug__" : Str))=false:=by decide):VE X (.Name x pos) (eB (b.map .int)):=by
 obtain⟨a,f,o,c,n,g,i,j,l,m⟩:=h;refine⟨_,qb (v:=.ref a) d ⟨_,f,rfl⟩ e,λB F H p t r Q s q k=>?_⟩;cases q;exact k _ F H (Ex.refl s.fh) ⟨a,b.map V.int,rfl,.inr ⟨o,c,n,g,i,j,l,m⟩,Reps.ints b⟩
end L3

namespace L3
open PySem PySem.Spec PyProof.Rows L2
noncomputable def nL(c:Str)(ns:List Str)(g:GM)(fe:FE)(b:FA):FE:=λa=>(fe a).bind λr=>match r with
 |.obj o=>(vl c ns o).bind λ_=>((b a).bind yn).bind λd=>(g o d).map λp=>.val p.1
 | _=>ab
theorem Kq{X:Cx}{e:Expr}{es:List Expr}{d:Pos}{n j:Nat}{C:ah}(G:ClsD X.K X.mg c nsF C)(D:MethD X.K c m I qual ps fm fd)(F:FnOk X.prog X.w X.K X.mg X.base CX n fm fd ps (wj X.K g))(hr:Room j X.A)(hx:wD CX X E)(h0:VE X e0 fe)(p:VA X (e::es) fa)(hm:m∉ns:=by decide +kernel)(J:n<=j:=by decide)
 (h1:zK e=true:=by rfl) (h2:es.all zK=true:=by rfl)
 (x:eval (.Call (.Attribute e0 m d) (e::es) [] pos) X.env=(do
 let O <- eval e0 X.env
 standAt d.atName
 let (f,first) <- holding [O] (getMethod O m pl)
 callWith pos f first (backTo pos (aZ (e::es) X.env)) (backToKw pos (keywordEach [] X.env))):=by rfl) :
 VE X (.Call (.Attribute e0 m d) (e::es) [] pos) (nL c ns g fe fa):=by
  obtain⟨t0,w0,m0⟩:=h0.h;obtain⟨t,w,sm⟩:=p.h;refine⟨_,⟨jT w0.h G.cl (D.at_ _ G.at_) F (hr.mono J) D.b .nil hx w.h (xc h1) (vY h2) x⟩,λB F H P R res Q s q n=>?_⟩;obtain⟨r,q0,q⟩:=ze q;cases r with
  |obj o=>
    obtain⟨l,q1,q⟩:=ze q;obtain⟨ds,L,q⟩:=ze q;obtain⟨rs,L,q3⟩:=ze L;obtain⟨S,q4,q⟩:=zJ q;cases q;cases tH q1;refine m0 B F H P R _ _ s q0 λv F1 H1 T r1=>?_;obtain⟨_,A,t1,n1,U⟩:=r1;cases t1 with
    |ins i Y e2 hl ts=>
      cases sZ G.at_ i;refine⟨_,_,_,rfl,Y,mT hm,?_⟩;refine sm B F1 H1 P R rs _ (s.ext T) L λvs F2 H2 x2 r2=>?_;obtain⟨F3,M,_,r3⟩:=RepRs.frz x2 (Same.refl _) r2 q3;have Z:=(TR.ins i Y e2 hl ts).ext M;have N:=T.trans M;rw[ek];refine⟨_,vs,F3,_,_,ds,S.1,S.2,rfl,M.fh,Z.1,n1,λa p=>(Z.2 a p).trans (U a p).1,r3,q4,λz F' H' A' y t' n' f' rz=>?_⟩;have I:∀b u,H b=aa u->wB H2 _ b=aa u:=λb u k=>vE (λz=>by
        have:=(U b z).2;rw[k]at this;cases this) (N.hh _ _ k)
      exact n z F' H' ⟨N.ff.trans y.ff,y.fh,λb u k=>y.st _ _ (I b u k),λb u k x=>(y.nw b u (I b u k) x).trans (N.nw b u k x)⟩ rz
  | _=>cases q
noncomputable def nV:Ent->Ent->Option Ent:=λx y=>((yc x).bind ug).bind λr=>((yc y).bind rY).bind λa=>yY (∀r∈a,r≠[]) (aa (.val (.bl (decide (r∈a)))))
theorem cj(n:Nat):∀a b:List Int,wx (xr n) (a.map .int) (b.map .int)=aa (decide (a=b))
 |[],[]=>rfl
 |[],_::_=>rfl
 | _::_,[]=>rfl
 |x::a,y::b=>by
  have e:xr n (.int x) (.int y)=aa (x==y):=by cases n <;> rfl
  simp only[ay,wx,e,a5,cj n a b,i8,oA];by_cases h:x=y <;> simp[h]
theorem R0{X:Cx}{k:Nat}(t:Room k X.A):y6 X (ej .In) nV:=by
 refine⟨λx y H Q=>∃(F:Hp) (r:xf) (p:ah) (b:List ah),Same F H/\Rep F x (yg r)/\y=.ref p/\SqT X.K H p (b.map V.ref)/\sS F b/\Q (.bl (decide (r∈b.map (wC F)))) H,?_,?_⟩
 ·intro m s Z H x y v u Q I f g h;obtain⟨F,r,p,b,c,i,rfl,z,B,q⟩:=h;cases g;obtain⟨C,E,pl,hz⟩:=I.tuple z;cases gw E;have G:X.A.in1.units+1<cLine:=by show X.A.units+1+1<cLine;have:=t.un;lia
  refine SeqAt.in_tupleAt (λu=>decide (rX F u=r)) pl (λw J=>?_) ⟨.bl _,H,I,rfl,?_⟩
  ·obtain⟨a,L,rfl⟩:=a8.mp (show w∈b.map ea by simpa using J);obtain⟨ra,_,e⟩:=B a L;have M:rX F (.ref a)=ra:=by show wC F a=ra;unfold wC;rw[e];exact ly ra
   show AC _ s _ v (decide (rX F (.ref a)=r));rw[M];exact qF I c 1 _ G (.tup e (.ints ra)) i rfl f (cj 0 ra r)
  ·have:(b.map ea).toArray.any (λu=>decide (rX F u=r))=decide (r∈b.map (wC F)):=by
    rw[on];simp only[List.any_toArray,List.any_map,List.any_eq_true,Function.comp_def,decide_eq_true_eq,a8];rfl
   rw[this];exact q
 ·intro H0 F H x y e n N Q c hh f g q k;obtain⟨r,j,q⟩:=ze q;obtain⟨ds,j,O⟩:=ze j;obtain⟨o,l,q⟩:=ze q;obtain⟨es,l,P⟩:=ze l;obtain⟨R,q⟩:=xS q;cases q;cases vJ j;cases vJ l;cases (show Rep F y (.tup _)from g)with
  |tup n S=>
   obtain⟨b,d,T,U⟩:=j9 S P R;subst d;subst U;have i:Rep F x (yg r):=by
    cases (show Rep F x (.tup _)from f)with
    |tup d Y=>
     have:=mH Y O;rw[this]at d;exact .tup d (.ints r)
   exact⟨F,r,_,b,c,i,rfl,SqT.of (c _ _ n),T,k _ F H (Ex.refl c) (.bl _)⟩
end L3

namespace L3
open PySem PySem.Spec PyProof.Rows L2
def sL(P:aN)(w:aR)(K:ae)(e:Str->Option af)(c:aX)(N:List Str)(a:Str)(st:Stmt)(f:ah)(k:Nat)(fb:FS):Prop:=∀(d:af) (A:a4) (b:List Env) (s:ag) (H:Hp) (E:XK),Room k (A.deeper (envOfC a (xz st) s.heap.objs.size f d))->VSs (ti xJ P w K e c N a (xz st) f d A b s H E).nox (wU st) fb
inductive FnG(K:ae)(x:Str)(st:Stmt):Prop
 |mk (f:ah) (oc:af) (od:Option ah) (kV doc pm:af) (an:Option ah) (cdv ct:af) (osl:Array (Option af)):ik K aY x=aa (aa (.ref f))->K.lookup f=aa ⟨oc,od,.func (iH x x (vP st) (wU st) (xz st) .none kV doc pm an cdv ct),osl⟩->oX K cdv x=true->i3 K (.ref f)=true->FnG K x st
inductive MtG(K:ae)(C:ah)(m qual:Str)(st:Stmt):Prop
 |mk (f:ah) (oc:af) (od:Option ah) (kV doc pm:af) (an:Option ah) (cdv ct:af) (osl:Array (Option af)):iw K (.ref C) m=aa (aa (.ref f))->K.lookup f=aa ⟨oc,od,.func (iH m qual (vP st) (wU st) (xz st) .none kV doc pm an cdv ct),osl⟩->oX K cdv qual=true->i3 K (.ref f)=true->Cp K (.ref f)=true->MtG K C m qual st
inductive FnGD(K:ae)(x:Str)(st:Stmt):Prop
 |mk (f:ah) (oc:af) (od:Option ah) (df kV doc pm:af) (an:Option ah) (cdv ct:af) (osl:Array (Option af)):ik K aY x=aa (aa (.ref f))->K.lookup f=aa ⟨oc,od,.func (iH x x (vP st) (wU st) (xz st) df kV doc pm an cdv ct),osl⟩->oX K cdv x=true->i3 K (.ref f)=true->XV K df->FnGD K x st
def Nos(K:ae)(C:ah):List Str->Prop
 |[]=>True
 |f::a=>iw K (.ref C) f=aa ab/\Nos K C a
def Bls(K:ae):List Str->Prop
 |[]=>True
 |f::a=>ik K aY f=aa ab/\Bls K a
abbrev TabG(w:aR)(K:ae)(x:Str)(D:List (Str×Int)):Prop:=∃(a:ah) (es:Array DictEntry) (ep:Nat),ik K aY x=aa (aa (.ref a))/\K.lookup a=aa ⟨.type "dict",ab,.dict es ep,#[]⟩/\RowsK K es D/\(a==sysModules)=false/\es.toList.map (·.hash)=(D.map (·.1)).map (hashStr w)
abbrev ClG(K:ae)(c:Str)(ns:List Str)(C:ah):Prop:=ik K aY c=aa (aa (.ref C))/\AB K C Fw=true/\AX K C=true/\B7 K C=true/\iw K (.ref C) "__setattr__" =aa (aa (.builtin "object.__setattr__"))/\CB K C=true/\i3 K (.ref C)=true/\Nos K C ns
section
variable {P:aN}{w:aR}{K:ae}{mg:Str->Option af}{base h:aX}
theorem Bls.no(X:K.In h)(G:h.Ns aY mg):∀{l:List Str},Bls K l->∀x∈l,mg x=ab
 | _::_,q,x,a=>by
  rcases aC.mp a with rfl|a
  ·exact PySem.W.mg_none_of X G q.1
  ·exact Bls.no X G q.2 x a
theorem Nos.no:∀{l:List Str},Nos K C l->∀x∈l,NoAttr K C x
 | _::_,q,x,a=>by
  rcases aC.mp a with rfl|a
  ·exact q.1
  ·exact Nos.no q.2 x a
theorem Vk{i:Int}(X:K.In h)(G:h.Ns aY mg)(q:∃t,ik K aY x=aa (aa (.int i t))):∃u,mg x=aa u/\RelV (.int i) u:=let⟨_,q⟩:=q;⟨_,oB X G q,_,rfl⟩
theorem Vl(X:K.In h)(G:h.Ns aY mg)(q:∃t,ik K aY x=aa (aa (.str i t))):∃u,mg x=aa u/\RelV (.str i) u:=let⟨_,q⟩:=q;⟨_,oB X G q,_,rfl⟩
theorem LX{i j k l:Int}(X:K.In h)(G:h.Ns aY mg)(q:∃b c d f a n,ik K aY x=aa (aa (.ref a))/\K.lookup a=aa ⟨.type "tuple",ab,.seq #[.int i b,.int j c,.int k d,.int l f] n,#[]⟩):∃a,mg x=aa (.ref a)/\dc K a [i,j,k,l]:=
 let⟨_,_,_,_,_,_,q,e⟩:=q;⟨_,oB X G q,_,_,_,e,rfl,rfl,Nat.le_of_ble_eq_true rfl,.cons ⟨_,rfl⟩ (.cons ⟨_,rfl⟩ (.cons ⟨_,rfl⟩ (.cons ⟨_,rfl⟩ .nil)))⟩
theorem TabG.tab{x:Str}{D:List (Str×Int)}(X:K.In h)(G:h.Ns aY mg)(q:TabG w K x D):∃a,mg x=aa (.ref a)/\tX K a D:=let⟨_,_,_,a,l,c,m,_⟩:=q;⟨_,oB X G a,LB l c m⟩
theorem TabG.keys{D:List (Str×Int)}{ks:List Str}(X:K.In h)(G:h.Ns aY mg)(q:TabG w K x D)(b:D.map (·.1)=ks)(d:ks.Nodup):∃a,mg x=aa (.ref a)/\KeysK w K a ks:=let⟨_,_,_,a,l,c,m,e⟩:=q;⟨_,oB X G a,by subst b;exact SD l c m e d⟩
theorem ClG.co(X:K.In h)(G:h.Ns aY mg)(q:ClG K c ns C):ClsD K mg c ns C:=⟨q.1,oB X G q.1,⟨q.2.1,q.2.2.1,q.2.2.2.1,q.2.2.2.2.1⟩,q.2.2.2.2.2.2.2.no⟩
structure DOk(P:aN)(w:aR)(K:ae)(mg:Str->Option af)(base:aX)(k:Nat)(x:Str)(ks:List Kd)(g:List D->Option Ent):Prop where
 h:∃st ps f fd,Def K mg x st ps f fd/\FnOk P w K mg base xJ k f fd ps (u0 K ks g)
structure DOkD(P:aN)(w:aR)(K:ae)(mg:Str->Option af)(base:aX)(k:Nat)(x:Str)(ks:List Kd)(g:List D->Option Ent):Prop where
 h:∃st ps f fd,DefD K mg x st ps f fd/\FnOk P w K mg base xJ k f fd ps (u0 K ks g)
section
variable {X:Cx}{e0 e:Expr}{es:List Expr}{pos pos' p apos:Pos}{fa fs:FA}{fe:FE}{xs:u5}{x f m c c2:Str}{ns nsF ns2 nsF2:List Str}{g:GM}{gf:List D->Option Ent}{ks:List Kd}{k j:Nat}{pl:Sem Bool}
theorem KC(F:DOk X.prog X.w X.K X.mg X.base k x ks gf)(d:Room j X.A)(i:Gl X x)(l:VA X (e::es) fs)(a:k<=j:=by decide)(b:(x==("__debug__" : Str))=false:=by decide)(h1:zK e=true:=by rfl)(n:es.all zK=true:=by rfl):VE X (.Call (.Name x p) (e::es) [] pos) (zi ks gf fs):=
 let⟨_,_,_,_,D,G⟩:=F.h;KB G D d i pC l a b h1 n
theorem KH(F:DOkD X.prog X.w X.K X.mg X.base k x ks gf)(d:Room j X.A)(i:Gl X x)(l:VA X (e::es) fs)(a:k<=j:=by decide)(b:(x==("__debug__" : Str))=false:=by decide)(h1:zK e=true:=by rfl)(n:es.all zK=true:=by rfl):VE X (.Call (.Name x p) (e::es) [] pos) (zi ks gf fs):=
 let⟨_,_,_,_,D,G⟩:=F.h;KG G D d i pC l a b h1 n
theorem KF(F:DOkD X.prog X.w X.K X.mg X.base k x ks gf)(d:Room j X.A)(i:Gl X x)(l:VA X (e::es) fs)(a:k<=j:=by decide)(b:(x==("__debug__" : Str))=false:=by decide)(h1:zK e=true:=by rfl)(n:es.all zK=true:=by rfl):VE X (.Call (.Name x p) (e::es) [] pos) (rd ks gf fs (.bl false)):=
 let⟨_,_,_,_,D,G⟩:=F.h;KD G D d i pC l a b h1 n
theorem JU(F:DOk X.prog X.w X.K X.mg X.base k x ks gf)(d:Room j X.A)(i:Gl X x)(l:VXA X (e::es) xs)(a:k<=j:=by decide)(b:(x==("__debug__" : Str))=false:=by decide)(h1:zK e=true:=by rfl)(n:es.all zK=true:=by rfl):VX X (.Call (.Name x p) (e::es) [] pos) (xC ks gf xs):=
 let⟨_,_,_,_,D,G⟩:=F.h;JT G D d i pC l a b h1 n
end
section
variable {X:Cx}{N:List Str}{fr:List Nat}{x x' y:Str}{scope:Scope}{iter elt:Expr}{ifs:List Expr}{px px' tpos pos py spos:Pos}{fi:FI}{fe:FE}{ft:FT}{i tn:Nat}
theorem K2(hi:VI X (.Name x px) iter fi)
  (c:∀(C:ah) (a:ag) (b:Hp) (fp:List ah),VTs (zZ X (x::fr.filterMap (X.N[·]?)) scope C a b fp) ifs ft) (d:∀(C:ah) (a:ag) (b:Hp) (fp:List ah),VE (zZ X (x::fr.filterMap (X.N[·]?)) scope C a b fp) elt fe)
  (S:CompSc X (x::fr.filterMap (X.N[·]?)) fr x scope:=by exact⟨rfl,rfl,rfl,by decide +kernel,rfl,rfl⟩) (e:X.calm=true:=by rfl) (f:∀z,eP iter X.env z=pure z:=by intro _;rfl):VE X (.ListComp elt [⟨.Name x px,iter,ifs,0⟩] scope pos) (yB fr fi ft fe):=
 K0 S hi c d e f
theorem Mt(e:X.N.Nodup)(c:X.N[i]? =aa y)(f:vp X.env.scope y)(hi:VI X (.Name x px) iter fi)
  (g:∀(C:ah) (a:ag) (b:Hp) (fp:List ah),VTs (zZ X (x::fr.filterMap (X.N[·]?)) scope C a b fp) ifs ft) (j:∀(C:ah) (a:ag) (b:Hp) (fp:List ah),VE (zZ X (x::fr.filterMap (X.N[·]?)) scope C a b fp) elt fe)
  (S:CompSc X (x::fr.filterMap (X.N[·]?)) fr x scope:=by exact⟨rfl,rfl,rfl,by decide +kernel,rfl,rfl⟩) (k:X.calm=true:=by rfl) (d:swapsWith (.ListComp elt [⟨.Name x px,iter,ifs,0⟩] scope pos) (aa (.Name y py)) spos.line X.env=pure true:=by rfl)
  (l:∀z,eP iter X.env z=pure z:=by intro _;rfl)
  (m:X.fn y=true\/X.env.scope.names.lookup y=aa .local:=by first|exact .inl rfl|exact .inr rfl|assumption) :
  VS X (.Assign [.Name y py] (.ListComp elt [⟨.Name x px,iter,ifs,0⟩] scope pos) spos) (zq i (yB fr fi ft fe)):=
 Ms e c f S hi g j k d l m
theorem KZ(hi:VI X (.Tuple [.Name x px,.Name x' px'] tn tpos) iter fi)
  (c:∀(C:ah) (a:ag) (b:Hp) (fp:List ah),VTs (zZ X (x::x'::fr.filterMap (X.N[·]?)) scope C a b fp) ifs ft) (d:∀(C:ah) (a:ag) (b:Hp) (fp:List ah),VE (zZ X (x::x'::fr.filterMap (X.N[·]?)) scope C a b fp) elt fe)
  (S:CompSk X (x::x'::fr.filterMap (X.N[·]?)) 2 fr scope:=by exact⟨rfl,rfl,rfl,rfl,rfl⟩) (hn:(x::x'::fr.filterMap (X.N[·]?)).Nodup:=by decide +kernel) (h1:scope.names.lookup x=aa .local:=by rfl) (e:scope.names.lookup x'=aa .local:=by rfl) (f:X.calm=true:=by rfl) (g:∀z,eP iter X.env z=pure z:=by intro _;rfl) :
  VE X (.ListComp elt [⟨.Tuple [.Name x px,.Name x' px'] tn tpos,iter,ifs,0⟩] scope pos) (re fr fi ft fe):=KY S rfl rfl hn h1 e hi c d f g
end
theorem Ul{X:Cx}(h:X.env.kindOf x=aa .globalImplicit):Gl X x:=h
theorem body{N:List Str}{a:Str}{st:Stmt}{f:ah}{k:Nat}{fb:FS}(g:N.Nodup:=by decide +kernel)(b:sL P w K mg base N a st f k fb:=by
  as_aux_lemma=>
   intro d A c s H E e;have i:=Ux e;have M:=Bls.no X G T.z;cases T
   conv in wU _=>whnf
   and_intros):sL P w K mg base N a st f k fb:=b
abbrev qq(m qual:Str)(st:Stmt)(ps:List Str):Prop:=∀(kV doc pm:af) (an:Option ah) (cdv ct:af) (us:List af),us.length=ps.length->bindArgs (iH m qual (vP st) (wU st) (xz st) .none kV doc pm an cdv ct) ⟨us,[]⟩=pure (ps.zip us)
def Al{b:Type}:Nat->(List b->Prop)->Prop
 |0,B=>B []
 |n+1,B=>∀a,Al n λt=>B (a::t)
theorem al{b:Type}{n:Nat}:∀{B:List b->Prop},Al n B->∀us:List b,us.length=n->B us:=by
 induction n with
 |zero=>intro B h us e;cases us with
  |nil=>exact h
  |cons=>cases e
 |succ n c=>intro B h us e;cases us with
  |nil=>cases e
  |cons a t=>exact c (h a) t (Dq e)
theorem jl{m a:Str}{st:Stmt}{ps:List Str}(b:qq m a st ps:=by intro _ _ _ _ _ _;refine al ?_;(repeat intro _);rfl):qq m a st ps:=b
theorem qM{N ps:List Str}{sc:Scope}(S:FnScope N ps sc:=by exact⟨rfl,rfl,rfl,by decide +kernel,rfl,by decide +kernel,by decide +kernel⟩):FnScope N ps sc:=S
section
variable {x m qual c:Str}{st:Stmt}{k n:Nat}{ks:List Kd}{g:GM}{fb:FS}{C:ah}
theorem zW(X:K.In h)(G:h.Ns aY mg)(q:FnG K x st)(ps d:List Str)(S:FnScope (ps++d) ps (xz st):=by exact qM)(i:ks.length=ps.length:=by rfl)
  (j:qq x x st ps:=by exact jl)
  (b:∀f,sL P w K mg base (ps++d) x st f k fb:=by exact λ_=>body):DOk P w K mg base (k+1) x ks (zw ks d.length fb):=by
 obtain⟨f,t,u,kV,o,v,y,p,ct,r,a,l,c,s⟩:=q;have F:=nP l c s;exact⟨_,ps,_,_,⟨F,oB X G a,F.binds j⟩,kT (.of F) S fb i (λ_ _ e=>by rwa [aJ,iu]) (b f)⟩
theorem Qi(X:K.In h)(G:h.Ns aY mg)(q:FnGD K x st)(ps r:List Str)(S:FnScope (ps++r) ps (xz st):=by exact qM)(t:ks.length=ps.length:=by rfl)
  (hD:∀(f:ah) (kV d j:af) (p:Option ah) (i ct:af) (T:ah) (o:Obj) (n:Nat),K.lookup T=aa o->o.data=.seq #[.bool false] n->FunA K x x st f (iH x x (vP st) (wU st) (xz st) (.ref T) kV d j p i ct)->mg x=aa (.ref f)->DefD K mg x st ps f (iH x x (vP st) (wU st) (xz st) (.ref T) kV d j p i ct))
  (b:∀f,sL P w K mg base (ps++r) x st f k fb:=by exact λ_=>body):DOkD P w K mg base (k+1) x ks (zw ks r.length fb):=by
 obtain⟨f,u,v,B,kV,d,j,p,i,ct,s,a,l,c,y,T,o,n,rfl,z,A⟩:=q;have F:FunA K x x st f _:=⟨⟨u,v,.ref T,kV,d,j,p,i,ct,s,rfl,l,c⟩,y⟩
 exact⟨_,ps,_,_,hD f kV d j p i ct T o n z A F (oB X G a),kT F S fb t (λ_ _ e=>by rwa [aJ,iu]) (b f)⟩
theorem rS(X:K.In h)(G:h.Ns aY mg)(D:ClsD K mg c ns C)(q:MtG K C m qual st)(ps d:List Str)(S:FnScope (ps++d) ps (xz st):=by exact qM)(p:ps.length=n+1:=by rfl)
  (r:qq m qual st ps:=by exact jl)
  (b:∀f,sL P w K mg base (ps++d) qual st f k fb:=by exact λ_=>body):∃f j,MethD K c m st qual ps f j/\FnOk P w K mg base xJ (k+1) f j ps (wj K (xy n d.length fb)):=by
 obtain⟨f,v,y,kV,s,z,A,t,ct,u,a,l,c,o,i⟩:=q;have F:=nP l c o;exact⟨_,_,⟨.of F,λB e=>by cases sZ D.at_ e;exact⟨a,i,o⟩,F.binds r⟩,cK (.of F) S fb p (λ_ _ _ e=>by rwa [aJ,iu]) (b f)⟩
theorem jM(X:K.In h)(G:h.Ns aY mg)(D:ClG K c ns C)(q:MtG K C "__init__" qual st)(ps d:List Str)(S:FnScope (ps++d) ps (xz st):=by exact qM)(o:ps.length=n+1:=by rfl)
  (p:qq "__init__" qual st ps:=by exact jl)
  (b:∀f,sL P w K mg base (ps++d) qual st f k fb:=by exact λ_=>body):∃f j,MakeD K c st qual ps f j/\FnOk P w K mg base xJ (k+1) f j ps (wj K (xy n d.length fb)):=by
 obtain⟨f,v,y,kV,r,z,A,s,ct,t,a,l,c,u,i⟩:=q;have F:=nP l c u;exact⟨_,_,⟨.of F,λB e=>by cases sZ D.1 e;exact⟨D.2.2.2.2.2.1,a,i,D.2.2.2.2.2.2.1⟩,F.binds p⟩,cK (.of F) S fb o (λ_ _ _ e=>by rwa [aJ,iu]) (b f)⟩
end
end
end L3

namespace L3
theorem zk{b c:Type}(a:b)(f:b->Option c):(aa a).bind f=f a:=rfl
theorem jr{a b:Type}(f:a->Option b):(ab:Option a).bind f=ab:=rfl
theorem zl{b c:Type}(a:b)(f:b->c):(aa a).map f=aa (f a):=rfl
theorem bC{a b:Type}(f:a->b):(ab:Option a).map f=ab:=rfl
theorem zF{b:Type}{a:b}{l:List b}:(a::l)[0]? =aa a:=rfl
theorem zG{b:Type}{a:b}{l:List b}{i:Nat}:(a::l)[i+1]? =l[i]?:=rfl
theorem yx{c:Type}{a b:c}{l:List c}:(a::l).set 0 b=b::l:=rfl
theorem yK{c:Type}{a b:c}{l:List c}{i:Nat}:(a::l).set (i+1) b=a::l.set i b:=rfl
theorem xA{b:Type}{a:b}{l m:List b}:(a::l)++m=a::(l++m):=rfl
theorem xB{a:Type}(l:List a):[]++l=l:=rfl
theorem xU{a:Type}(l:List a):l++[]=l:=ek l
theorem wY{b c:Type}{f:b->c}{a:b}{l:List b}:(a::l).map f=f a::l.map f:=rfl
theorem wR{a b:Type}{f:a->b}:([]:List a).map f=[]:=rfl
theorem xV{b:Type}{a:b}{l:List b}:(a::l).length=l.length+1:=rfl
theorem xb{a:Type}:([]:List a).length=0:=rfl
theorem yZ:(false=true)=False:=ei
theorem Tr{p:Prop}{_:Decidable p}:(decide p=true)=p:=decide_eq_true_eq
theorem vW:(!true)=false:=rfl
theorem ss:(!false)=true:=rfl
theorem mL{b:Type}(a:Option b):(aa a).join=a:=rfl
theorem xn{h:Decidable True}:decide True=true:=decide_true h
theorem xu{h:Decidable False}:decide False=false:=decide_false h
theorem yi{c:Type}{_:Decidable True}(a b:c):(if True then a else b)=a:=if_true a b
theorem y0{c:Type}{_:Decidable False}(a b:c):(if False then a else b)=b:=if_false a b
theorem uh(p:Prop):(p\/True)=True:=or_true p
theorem rM(p:Prop):(True\/p)=True:=true_or p
theorem js(p:Prop):(p/\True)=p:=and_true p
end L3

local macro_rules|`(~~~[$x])=>`(aa (.val (.str (L3.mkS $x))))|`(~~~$x)=>`(aa (.val (.int $x)))
namespace CE
open PySem L2 L3
noncomputable def oD:Option Int->D
 |none=>.non
 |some i=>.int i
theorem sB(i:Int):oD (aa i)=.int i:=rfl
theorem jL:oD ab=.non:=rfl
noncomputable def zY(c:Option Int)(p:Int):Option Int:=if p=0 then ab else c.map (· + p)
def lw(cs:List (Option Int)):Option Int:=tJ (cs.filterMap id)
noncomputable def tc(fit:Nat->Nat->Bool)(c:Nat->Nat->Option Int)(i j:Nat):Option Int:=if 0<i/\0<j then (if (fit i (j-1)&&fit (i-1) j)=true then c (i-1) (j-1)else ab)else ab
structure Pr where
 put:Int
 left:Int
 exch:Int
 turn:Int
noncomputable def Pr.d(p:Pr):D:=.tup [.int p.put,.int p.left,.int p.exch,.int p.turn]
variable (fit:Nat->Nat->Bool)(p:Pr)(fr:Bool)
noncomputable def zh:Nat->Nat->Option Int
 |0,0=>aa 0
 |0,j+1=>if fr=true then aa 0 else zY (zh 0 j) p.put
 |i+1,0=>zY (zh i 0) p.left
 | i+1,j+1=>lw [if fit i j=true then zh i j else zY (zh i j) p.exch,zY (zh (i+1) j) p.put,zY (zh i (j+1)) p.left,
   zY (if 0<i/\0<j then (if (fit i (j-1)&&fit (i-1) j)=true then zh (i-1) (j-1)else ab)else ab) p.turn]
termination_by i j=>(i,j)
theorem sV:zh fit p fr 0 0=aa 0:=by rw[zh]
theorem sW(j:Nat):zh fit p fr 0 (j+1)=if fr=true then aa 0 else zY (zh fit p fr 0 j) p.put:=by rw[zh]
theorem qA(i:Nat):zh fit p fr (i+1) 0=zY (zh fit p fr i 0) p.left:=by rw[zh]
theorem uN(i j:Nat):zh fit p fr (i+1) (j+1)=lw [if fit i j=true then zh fit p fr i j else zY (zh fit p fr i j) p.exch,zY (zh fit p fr (i+1) j) p.put,zY (zh fit p fr i (j+1)) p.left,zY (tc fit (zh fit p fr) i j) p.turn]:=by
 rw[zh];rfl
end CE
namespace L3
open PySem L2
def zz(P:List Str)(T:List Nat)(i j:Nat):Bool:=uf (mkS [T.getD j 0]) (P.getD i (mkS []))
end L3
namespace CE
open PySem L2 L3
theorem Zy:∀{ns:List Int} {m:Int},tJ ns=aa m->m∈ns
 |[],m,h=>by cases h
 |n::ns,m,h=>by
  have d:ns.foldl (λa b=>if b<a then b else a) n=m:=aO h;have c:∀(ns:List Int) (n:Int),ns.foldl (λa b=>if b<a then b else a) n=n\/ns.foldl (λa b=>if b<a then b else a) n∈ns:=by
   intro ns
   induction ns with
   |nil=>intro n;left;rfl
   |cons b ns e=>
    intro n;rw[oo];rcases e (if b<n then b else n)with q|q
    ·rw[q];split
     ·right;exact aw
     ·left;rfl
    ·right;exact aq _ q
  rcases c ns n with q|q
  ·rw[<- d,q];exact aw
  ·rw[<- d];exact aq _ q
theorem Rt:∀{ns:List Int} {c:Int},c∈ns->∃m,tJ ns=aa m/\m<=c
 |[],c,h=>by cases h
 |n::ns,c,h=>by
  refine⟨_,rfl,?_⟩;have d:∀(ns:List Int) (n:Int),ns.foldl (λa b=>if b<a then b else a) n<=n/\∀c∈ns,ns.foldl (λa b=>if b<a then b else a) n<=c:=by
   intro ns
   induction ns with
   |nil=>intro n;exact⟨Aj _,by simp⟩
   |cons b ns f=>
    intro n;rw[oo];obtain⟨i,g⟩:=f (if b<n then b else n);have j:(if b<n then b else n)<=n/\(if b<n then b else n)<=b:=by split <;> lia
    refine⟨by lia,λc e=>?_⟩;rcases aC.mp e with rfl|e
    ·lia
    ·exact g c e
  rcases aC.mp h with rfl|h
  ·exact(d ns _).1
  ·exact(d ns n).2 c h
theorem tI{m:Int}(h:lw cs=aa m):aa m∈cs:=by
 have:=Zy h;obtain⟨x,a,b⟩:=Ag.mp this;have:x=aa m:=b;rw[<- this];exact a
theorem uj{c:Int}(h:aa c∈cs):∃m,lw cs=aa m/\m<=c:=Rt (Ag.mpr ⟨aa c,h,rfl⟩)
theorem vH{q m:Int}(h:zY c q=aa m):q≠0/\∃a,c=aa a/\m=a+q:=by
 unfold zY at h;split at h
 ·cases h
 ·rename_i b;cases c with
  |none=>cases h
  |some a=>exact⟨b,a,rfl,(aO h).symm⟩
theorem r9{a q:Int}(b:q≠0):zY (aa a) q=aa (a+q):=by unfold zY;rw[if_neg b];rfl
inductive Ld(fit:Nat->Nat->Bool)(p:Pr)(fr:Bool):Nat->Nat->Int->Prop
 |nil:Ld fit p fr 0 0 0
 |free {j:Nat}:fr=true->Ld fit p fr 0 j 0
 |same {i j:Nat} {c:Int}:Ld fit p fr i j c->fit i j=true->Ld fit p fr (i+1) (j+1) c
 |exch {i j:Nat} {c:Int}:Ld fit p fr i j c->fit i j=false->p.exch≠0->Ld fit p fr (i+1) (j+1) (c+p.exch)
 |put {i j:Nat} {c:Int}:Ld fit p fr i j c->p.put≠0->Ld fit p fr i (j+1) (c+p.put)
 |left {i j:Nat} {c:Int}:Ld fit p fr i j c->p.left≠0->Ld fit p fr (i+1) j (c+p.left)
 |turn {i j:Nat} {c:Int}:Ld fit p fr i j c->fit (i+1) j=true->fit i (j+1)=true->p.turn≠0->Ld fit p fr (i+2) (j+2) (c+p.turn)
structure Pr.Ok(p:Pr):Prop where
 put:0<=p.put
 left:0<=p.left
 exch:0<=p.exch
 turn:0<=p.turn
variable {fit:Nat->Nat->Bool}{p:Pr}{fr:Bool}
theorem Ld.nonneg(a:p.Ok){i j:Nat}{c:Int}(h:Ld fit p fr i j c):0<=c:=by
 have:=a.put;have:=a.left;have:=a.exch;have:=a.turn
 induction h <;> lia
theorem W8:∀(n i j:Nat),i+j=n->∀m,zh fit p fr i j=aa m->Ld fit p fr i j m:=by
 intro n
 induction n using Nat.strongRecOn with
 | _ n f=>
  intro i j o m h;cases i with
  |zero=>
   cases j with
   |zero=>rw[sV]at h;cases h;exact .nil
   |succ j=>
    rw[sW]at h;split at h
    ·rename_i d;cases h;exact .free d
    ·obtain⟨e,a,b,rfl⟩:=vH h;exact .put (f j (by lia) 0 j (by lia) a b) e
  |succ i=>
   cases j with
   |zero=>
    rw[qA]at h;obtain⟨e,a,b,rfl⟩:=vH h;exact .left (f i (by lia) i 0 (by lia) a b) e
   |succ j=>
    rw[uN]at h;have c:=tI h;simp only[aC,eO,or_false]at c;rcases c with c|c|c|c
    ·by_cases d:fit i j=true
     ·rw[if_pos d]at c;exact .same (f (i+j) (by lia) i j rfl m c.symm) d
     ·rw[if_neg d]at c;obtain⟨e,a,b,rfl⟩:=vH c.symm;exact .exch (f (i+j) (by lia) i j rfl a b) (by simpa using d) e
    ·obtain⟨e,a,b,rfl⟩:=vH c.symm;exact .put (f (i+1+j) (by lia) (i+1) j rfl a b) e
    ·obtain⟨e,a,b,rfl⟩:=vH c.symm;exact .left (f (i+(j+1)) (by lia) i (j+1) rfl a b) e
    ·obtain⟨e,a,b,rfl⟩:=vH c.symm;unfold tc at b;split at b
     ·rename_i l;split at b
      ·rename_i d;rw[eX]at d;obtain⟨g,rfl⟩:∃g,i=g+1:=⟨i-1,by lia⟩;obtain⟨k,rfl⟩:∃k,j=k+1:=⟨j-1,by lia⟩;simp only[oI]at b d;exact .turn (f (g+k) (by lia) g k rfl a b) d.1 d.2 e
      ·cases b
     ·cases b
theorem pk(k:p.Ok){i j:Nat}{c:Int}(h:Ld fit p fr i j c):∃m,zh fit p fr i j=aa m/\m<=c:=by
 have s:=k.put;have t:=k.left;have u:=k.exch;have v:=k.turn
 induction h with
 |nil=>exact⟨0,sV ..,Aj _⟩
 |@free j l=>
  cases j with
  |zero=>exact⟨0,sV ..,Aj _⟩
  |succ j=>exact⟨0,by rw[sW,if_pos l],Aj _⟩
 |@same i j c h l a=>
  obtain⟨m,e,n⟩:=a;obtain⟨b,d,f⟩:=uj (cs:=[if fit i j=true then zh fit p fr i j else zY (zh fit p fr i j) p.exch,zY (zh fit p fr (i+1) j) p.put,zY (zh fit p fr i (j+1)) p.left,zY (tc fit (zh fit p fr) i j) p.turn]) (c:=m) (by rw[if_pos l,e];simp);exact⟨b,by rw[uN];exact d,by lia⟩
 |@exch i j c h l g a=>
  obtain⟨m,e,n⟩:=a;obtain⟨b,d,f⟩:=uj (cs:=[if fit i j=true then zh fit p fr i j else zY (zh fit p fr i j) p.exch,zY (zh fit p fr (i+1) j) p.put,zY (zh fit p fr i (j+1)) p.left,zY (tc fit (zh fit p fr) i j) p.turn]) (c:=m+p.exch) (by rw[if_neg (by rw[l];decide),e,r9 g];simp);exact⟨b,by rw[uN];exact d,by lia⟩
 |@put i j c h g a=>
  obtain⟨m,e,n⟩:=a;cases i with
  |zero=>
   rw[sW];cases fr with
   |true=>
    have:=Ld.nonneg k h;exact⟨0,rfl,by lia⟩
   |false=>exact⟨m+p.put,by rw[if_neg (by decide),e,r9 g],by lia⟩
  |succ i=>
   obtain⟨b,d,f⟩:=uj (cs:=[if fit i j=true then zh fit p fr i j else zY (zh fit p fr i j) p.exch,zY (zh fit p fr (i+1) j) p.put,zY (zh fit p fr i (j+1)) p.left,zY (tc fit (zh fit p fr) i j) p.turn]) (c:=m+p.put) (by rw[e,r9 g];simp);exact⟨b,by rw[uN];exact d,by lia⟩
 |@left i j c h g a=>
  obtain⟨m,e,n⟩:=a;cases j with
  |zero=>exact⟨m+p.left,by rw[qA,e,r9 g],by lia⟩
  |succ j=>
   obtain⟨b,d,f⟩:=uj (cs:=[if fit i j=true then zh fit p fr i j else zY (zh fit p fr i j) p.exch,zY (zh fit p fr (i+1) j) p.put,zY (zh fit p fr i (j+1)) p.left,zY (tc fit (zh fit p fr) i j) p.turn]) (c:=m+p.left) (by rw[e,r9 g];simp);exact⟨b,by rw[uN];exact d,by lia⟩
 |@turn i j c h o q g a=>
  obtain⟨m,e,n⟩:=a;have r:tc fit (zh fit p fr) (i+1) (j+1)=aa m:=by
   unfold tc;rw[if_pos ⟨by lia,by lia⟩,oI,oI,o,q];exact e
  obtain⟨b,d,f⟩:=uj (cs:=[if fit (i+1) (j+1)=true then zh fit p fr (i+1) (j+1)else zY (zh fit p fr (i+1) (j+1)) p.exch,zY (zh fit p fr (i+1+1) (j+1)) p.put,zY (zh fit p fr (i+1) (j+1+1)) p.left,zY (tc fit (zh fit p fr) (i+1) (j+1)) p.turn]) (c:=m+p.turn) (by rw[r,r9 g];simp);exact⟨b,by rw[uN];exact d,by lia⟩
theorem vt(a:p.Ok){i j:Nat}{m:Int}(h:zh fit p fr i j=aa m):Ld fit p fr i j m/\∀c,Ld fit p fr i j c->m<=c:=
 ⟨W8 _ i j rfl m h,λc b=>by obtain⟨f,e,d⟩:=pk a b;rw[h]at e;cases e;exact d⟩
theorem kE(a:p.Ok){i j:Nat}(h:zh fit p fr i j=ab):∀c,¬ Ld fit p fr i j c:=λc b=>by
 obtain⟨d,e,_⟩:=pk a b;rw[h]at e;cases e
end CE
namespace CE
open PySem L2 L3
theorem UW(c:Nat)(z:Str):uf (mkS [c]) z=decide (c∈z.cps.toList):=DH z c
def wP(w:List Nat):List Str:=w.map λc=>mkS [c]
theorem u4(w:List Nat):(wP w).length=w.length:=by simp[wP]
theorem VY{w t:List Nat}{i j:Nat}(hi:i<w.length)(a:j<t.length):zz (wP w) t i j=decide (t[j]=w[i]):=by
 unfold zz wP;have b:(w.map λc=>mkS [c]).getD i (mkS [])=mkS [w[i]]:=by simp[hi]
 have d:t.getD j 0=t[j]:=by simp[a]
 rw[b,d,UW,wG];simp
def wd(p:Pr)(w t:List Nat):Option Int:=zh (zz (wP w) t) p false w.length t.length
section
variable (fit:Nat->Nat->Bool)(p:Pr)
inductive St1:Nat->Nat->Nat->Nat->Int->Prop
 |same {i j:Nat}:fit i j=true->St1 i j (i+1) (j+1) 0
 |exch {i j:Nat}:fit i j=false->p.exch≠0->St1 i j (i+1) (j+1) p.exch
 |put {i j:Nat}:p.put≠0->St1 i j i (j+1) p.put
 |left {i j:Nat}:p.left≠0->St1 i j (i+1) j p.left
 |turn {i j:Nat}:fit (i+1) j=true->fit i (j+1)=true->p.turn≠0->St1 i j (i+2) (j+2) p.turn
inductive Sg(a b:Nat):Nat->Nat->Int->Prop
 |nil:Sg a b a b 0
 |snoc {i j i' j':Nat} {c q:Int}:Sg a b i j c->St1 fit p i j i' j' q->Sg a b i' j' (c+q)
end
variable {fit fit':Nat->Nat->Bool}{p:Pr}
theorem St1.le{i j a j':Nat}{q:Int}(h:St1 fit p i j a j' q):i<=a/\j<=j':=by cases h <;> lia
theorem Sg.le{a b i j:Nat}{c:Int}(h:Sg fit p a b i j c):a<=i/\b<=j:=by
 induction h with
 |nil=>lia
 |snoc _ s d=>have:=s.le;lia
theorem Sg.cons{a b d e i j:Nat}{q c:Int}(s:St1 fit p a b d e q)(h:Sg fit p d e i j c):Sg fit p a b i j (c+q):=by
 induction h with
 |nil=>have:=Sg.snoc (.nil (a:=a) (b:=b)) s;rwa [Ao]at this ⊢
 |snoc _ f g=>have:=Sg.snoc g f;rwa [Int.add_right_comm]at this
theorem Ld.sg{i j:Nat}{c:Int}(h:Ld fit p false i j c):Sg fit p 0 0 i j c:=by
 induction h with
 |nil=>exact .nil
 |free h=>cases h
 |same _ h a=>have:=Sg.snoc a (.same h);rwa [Bo]at this
 |exch _ h q a=>exact .snoc a (.exch h q)
 |put _ q a=>exact .snoc a (.put q)
 |left _ q a=>exact .snoc a (.left q)
 |turn _ b d q a=>exact .snoc a (.turn b d q)
theorem Ld.step{fr:Bool}{i j a b:Nat}{c q:Int}(h:Ld fit p fr i j c)(s:St1 fit p i j a b q):Ld fit p fr a b (c+q):=by
 cases s with
 |same e=>rw[Bo];exact .same h e
 |exch e q=>exact .exch h e q
 |put q=>exact .put h q
 |left q=>exact .left h q
 |turn d f q=>exact .turn h d f q
theorem Sg.ld{i j:Nat}{c:Int}(h:Sg fit p 0 0 i j c):Ld fit p false i j c:=by
 induction h with
 |nil=>exact .nil
 |snoc _ s a=>exact a.step s
theorem Sg.ldF{b i j:Nat}{c:Int}(h:Sg fit p 0 b i j c):Ld fit p true i j c:=by
 induction h with
 |nil=>exact .free rfl
 |snoc _ s a=>exact a.step s
theorem Ld.sgF{i j:Nat}{c:Int}(h:Ld fit p true i j c):∃b,b<=j/\Sg fit p 0 b i j c:=by
 induction h with
 |nil=>exact⟨0,aj _,.nil⟩
 |@free j _=>exact⟨j,aj _,.nil⟩
 |same _ h a=>
  obtain⟨b,d,s⟩:=a;have:=Sg.snoc s (.same h);rw[Bo]at this;exact⟨b,by lia,this⟩
 |exch _ h q a=>obtain⟨b,d,s⟩:=a;exact⟨b,by lia,.snoc s (.exch h q)⟩
 |put _ q a=>obtain⟨b,d,s⟩:=a;exact⟨b,by lia,.snoc s (.put q)⟩
 |left _ q a=>obtain⟨b,d,s⟩:=a;exact⟨b,by lia,.snoc s (.left q)⟩
 |turn _ e f q a=>obtain⟨b,d,s⟩:=a;exact⟨b,by lia,.snoc s (.turn e f q)⟩
theorem St1.rev{m e i j b c:Nat}{q:Int}(a:∀x y,x<m->y<e->fit' x y=fit (m-1-x) (e-1-y))(g:b<=m)(k:c<=e)(h:St1 fit p i j b c q):St1 fit' p (m-b) (e-c) (m-i) (e-j) q:=by
 cases h with
 |same h=>
  rw[show m-i=m-(i+1)+1 by lia,show e-j=e-(j+1)+1 by lia];exact .same (by rw[a _ _ (by lia) (by lia),show m-1-(m-(i+1))=i by lia,show e-1-(e-(j+1))=j by lia];exact h)
 |exch h q=>
  rw[show m-i=m-(i+1)+1 by lia,show e-j=e-(j+1)+1 by lia];exact .exch (by rw[a _ _ (by lia) (by lia),show m-1-(m-(i+1))=i by lia,show e-1-(e-(j+1))=j by lia];exact h) q
 |put q=>
  rw[show e-j=e-(j+1)+1 by lia];exact .put q
 |left q=>
  rw[show m-i=m-(i+1)+1 by lia];exact .left q
 |turn d f q=>
  rw[show m-i=m-(i+2)+2 by lia,show e-j=e-(j+2)+2 by lia];refine .turn ?_ ?_ q
  ·rw[a _ _ (by lia) (by lia),show m-1-(m-(i+2)+1)=i by lia,show e-1-(e-(j+2))=j+1 by lia];exact f
  ·rw[a _ _ (by lia) (by lia),show m-1-(m-(i+2))=i+1 by lia,show e-1-(e-(j+2)+1)=j by lia];exact d
theorem Sg.rev{m e a b i j:Nat}{c:Int}(d:∀x y,x<m->y<e->fit' x y=fit (m-1-x) (e-1-y))(h:Sg fit p a b i j c):i<=m->j<=e->Sg fit' p (m-i) (e-j) (m-a) (e-b) c:=by
 induction h with
 |nil=>intro _ _;exact .nil
 |snoc _ s f=>
  intro g k;have:=s.le;exact Sg.cons (s.rev d g k) (f (by lia) (by lia))
theorem St1.shift{b0 m l i j b c:Nat}{q:Int}(a:∀x y,x<m->y<l->fit' x y=fit x (b0+y))(f:b<=m)(g:c<=b0+l)(k:b0<=j)(h:St1 fit p i j b c q):St1 fit' p i (j-b0) b (c-b0) q:=by
 cases h with
 |same h=>
  rw[show j+1-b0=j-b0+1 by lia];exact .same (by rw[a _ _ (by lia) (by lia),show b0+(j-b0)=j by lia];exact h)
 |exch h q=>
  rw[show j+1-b0=j-b0+1 by lia];exact .exch (by rw[a _ _ (by lia) (by lia),show b0+(j-b0)=j by lia];exact h) q
 |put q=>rw[show j+1-b0=j-b0+1 by lia];exact .put q
 |left q=>exact .left q
 |turn d e q=>
  rw[show j+2-b0=j-b0+2 by lia];refine .turn ?_ ?_ q
  ·rw[a _ _ (by lia) (by lia),show b0+(j-b0)=j by lia];exact d
  ·rw[a _ _ (by lia) (by lia),show b0+(j-b0+1)=j+1 by lia];exact e
theorem Sg.shift{b0 m l a b i j:Nat}{c:Int}(d:∀x y,x<m->y<l->fit' x y=fit x (b0+y))(h:Sg fit p a b i j c):i<=m->j<=b0+l->b0<=b->Sg fit' p a (b-b0) i (j-b0) c:=by
 induction h with
 |nil=>intro _ _ _;exact .nil
 |snoc g s e=>
  intro f k n;have:=s.le;have:=g.le;exact .snoc (e (by lia) (by lia) n) (s.shift d f k (by lia))
theorem St1.back{b0 m l i j b c:Nat}{q:Int}(a:∀x y,x<m->y<l->fit' x y=fit x (b0+y))(f:b<=m)(g:c<=l)(h:St1 fit' p i j b c q):St1 fit p i (b0+j) b (b0+c) q:=by
 cases h with
 |same h=>exact .same (by rw[<- a _ _ (by lia) (by lia)];exact h)
 |exch h q=>exact .exch (by rw[<- a _ _ (by lia) (by lia)];exact h) q
 |put q=>exact .put q
 |left q=>exact .left q
 |turn d e q=>exact .turn (by rw[<- a _ _ (by lia) (by lia)];exact d) (by rw[Ef,<- a _ _ (by lia) (by lia)];exact e) q
theorem Sg.back{b0 m l a b i j:Nat}{c:Int}(d:∀x y,x<m->y<l->fit' x y=fit x (b0+y))(h:Sg fit' p a b i j c):i<=m->j<=l->Sg fit p a (b0+b) i (b0+j) c:=by
 induction h with
 |nil=>intro _ _;exact .nil
 |snoc _ s e=>
  intro f g;have:=s.le;exact .snoc (e (by lia) (by lia)) (s.back d f g)
theorem W9(e:p.Ok){i j g j':Nat}{fr d:Bool}(h:∀c,Ld fit p fr i j c ↔ Ld fit' p d g j' c):zh fit p fr i j=zh fit' p d g j':=by
 cases k:zh fit p fr i j with
 |none=>
  cases f:zh fit' p d g j' with
  |none=>rfl
  |some y=>exact absurd ((h y).mpr (vt e f).1) (kE e k y)
 |some x=>
  cases f:zh fit' p d g j' with
  |none=>exact absurd ((h x).mp (vt e k).1) (kE e f x)
  |some y=>
   have a:=(vt e k).2 y ((h y).mpr (vt e f).1);have b:=(vt e f).2 x ((h x).mp (vt e k).1);rw[show x=y by lia]
theorem NK{a b:Nat->Nat->Bool}{m e l:Nat}(j:p.Ok)(k:l<=e)(f:∀x y,x<m->y<e->a x y=fit (m-1-x) (e-1-y))(i:∀x y,x<m->y<l->b x y=fit x (e-l+y)):zh a p false m l=zh b p false m l:=by
 refine W9 j λc=>⟨λh=>?_,λh=>?_⟩
 ·have g:=h.sg.rev (fit':=fit) (m:=m) (e:=e) (λx y n o=>by rw[f _ _ (by lia) (by lia),show m-1-(m-1-x)=x by lia,show e-1-(e-1-y)=y by lia]) (aj _) k;rw[ou,o8,o8]at g;have d:=g.shift (fit':=b) (b0:=e-l) (m:=m) (l:=l) i (aj _) (by lia) (aj _);rw[ou,show e-(e-l)=l by lia]at d;exact d.ld
 ·have g:=h.sg.back (fit:=fit) (b0:=e-l) (m:=m) (l:=l) i (aj _) (aj _);rw[Bu,show e-l+l=e by lia]at g;have d:=g.rev (fit':=a) (m:=m) (e:=e) f (aj _) (aj _);rw[ou,ou,o8,show e-(e-l)=l by lia]at d;exact d.ld
theorem V5{a:Nat->Nat->Bool}{m e:Nat}(f:p.Ok)(q:∀x y,x<m->y<e->a x y=fit (m-1-x) (e-1-y)):zh fit p true m e=lw ((ak (e+1)).map λl=>zh a p false m l):=by
 have d:∀b,b<=e->∀c,Sg fit p 0 b m e c ↔ Ld a p false m (e-b) c:=λb r c=>by
  constructor
  ·intro g;have h:=g.rev (fit':=a) (m:=m) (e:=e) q (aj _) (aj _);rw[ou,ou,o8]at h;exact h.ld
  ·intro g;have h:=g.sg.rev (fit':=fit) (m:=m) (e:=e) (λx y v s=>by rw[q _ _ (by lia) (by lia),show m-1-(m-1-x)=x by lia,show e-1-(e-1-y)=y by lia]) (aj _) (by lia);rwa [ou,o8,o8,show e-(e-b)=b by lia]at h
 cases j:zh fit p true m e with
 |none=>
  cases i:lw ((ak (e+1)).map λl=>zh a p false m l)with
  |none=>rfl
  |some y=>
   obtain⟨l,k,n⟩:=a8.mp (tI i);have o:l<=e:=by have:=eD.mp k;lia
   have g:=(d (e-l) (by lia) y).mpr (by rw[show e-(e-l)=l by lia];exact(vt f n).1);exact absurd g.ldF (kE f j y)
 |some x=>
  obtain⟨b,r,g⟩:=(vt f j).1.sgF;obtain⟨y,n,s⟩:=pk f ((d b r x).mp g);obtain⟨z,i,w⟩:=uj (cs:=(ak (e+1)).map λl=>zh a p false m l) (c:=y) (a8.mpr ⟨e-b,eD.mpr (by lia),n⟩);obtain⟨l,k,t⟩:=a8.mp (tI i);have o:l<=e:=by have:=eD.mp k;lia
  have u:=(d (e-l) (by lia) z).mpr (by rw[show e-(e-l)=l by lia];exact(vt f t).1);have:=(vt f j).2 z u.ldF;rw[i,show x=z by lia]
end CE
namespace CE
open PySem L2 L3
def pl:Pr:=⟨1,1,1,0⟩
theorem rV:pl.Ok:=⟨by decide,by decide,by decide,by decide⟩
section
variable {fit:Nat->Nat->Bool}
theorem St1.pl{i j a b:Nat}{q:Int}(h:St1 fit pl i j a b q):(a=i+1/\b=j+1/\q=0/\fit i j=true)\/(q=1/\((a=i+1/\b=j+1)\/(a=i/\b=j+1)\/(a=i+1/\b=j))):=by
 cases h with
 |same h=>exact .inl ⟨rfl,rfl,rfl,h⟩
 |exch _ _=>exact .inr ⟨rfl,.inl ⟨rfl,rfl⟩⟩
 |put _=>exact .inr ⟨rfl,.inr (.inl ⟨rfl,rfl⟩)⟩
 |left _=>exact .inr ⟨rfl,.inr (.inr ⟨rfl,rfl⟩)⟩
 |turn _ _ h=>exact absurd rfl h
theorem Sg.dist{a b i j:Nat}{c:Int}(h:Sg fit pl a b i j c):0<=c/\((j:Int)-b)-((i:Int)-a)<=c/\((i:Int)-a)-((j:Int)-b)<=c:=by
 induction h with
 |nil=>lia
 |snoc _ s d=>rcases s.pl with ⟨rfl,rfl,rfl,_⟩|⟨rfl,⟨rfl,rfl⟩|⟨rfl,rfl⟩|⟨rfl,rfl⟩⟩ <;> lia
theorem Sg.cut{a b i j:Nat}{c:Int}(h:Sg fit pl a b i j c):∀k,a<=k->k<=i->∃y d c2,Sg fit pl a b k y d/\Sg fit pl k y i j c2/\c=d+c2:=by
 induction h with
 |nil=>
  intro k f g;have:k=a:=by lia
  subst this;exact⟨b,0,0,.nil,.nil,rfl⟩
 |@snoc i j i' l c q h s m=>
  intro k f g;by_cases n:k<=i
  ·obtain⟨y,d,c2,o,p,r⟩:=m k f n;exact⟨y,d,c2+q,o,.snoc p s,by lia⟩
  ·have e:k=i':=by rcases s.pl with ⟨rfl,rfl,rfl,_⟩|⟨rfl,⟨rfl,rfl⟩|⟨rfl,rfl⟩|⟨rfl,rfl⟩⟩ <;> lia
   subst e;exact⟨l,c+q,0,.snoc h s,.nil,by lia⟩
theorem Sg.whole{a b i j:Nat}{c:Int}(h:Sg fit pl a b i j c):c=0->i-a=j-b/\∀x,a+x<i->fit (a+x) (b+x)=true:=by
 induction h with
 |nil=>intro _;exact⟨by lia,λx e=>by lia⟩
 |@snoc i j l m c q h s f=>
  intro n;have o:=h.dist;have p:=h.le;rcases s.pl with ⟨rfl,rfl,rfl,g⟩|⟨rfl,_⟩
  ·obtain⟨r,k⟩:=f (by lia);refine⟨by lia,λx e=>?_⟩;by_cases d:a+x<i
   ·exact k x d
   ·have:x=i-a:=by lia
    subst this;rw[show a+(i-a)=i by lia,show b+(i-a)=j by lia];exact g
  ·lia
theorem Sg.part{i j:Nat}{f:Nat->Nat}(m:∀r,f r<=f (r+1)):∀(n:Nat) {b:Nat} {c:Int} (e:Nat),Sg fit pl (f e) b i j c->c<n->f (e+n)=i ->
  ∃r y,e<=r/\r<e+n/\(∃g o,Sg fit pl (f e) b (f r) y g/\Sg fit pl (f r) y i j o/\c=g+o)/\∀x,f r+x<f (r+1)->fit (f r+x) (y+x)=true/\y+x<j
 |0,b,c,e,h,H,_=>by have:=h.dist;lia
 |n+1,b,c,e,h,H,B=>by
  have I:∀k s,f s<=f (s+k):=λk=>by
   induction k with
   |zero=>intro s;exact aj _
   |succ k t=>intro s;exact aH (t s) (m _)
  have J:f (e+1)<=i:=by have:=I n (e+1);rw[show e+1+n=e+(n+1) by lia,B]at this;exact this
  obtain⟨y,g,o,l,u,R⟩:=h.cut (f (e+1)) (m e) J;by_cases K:g=0
  ·obtain⟨S,L⟩:=l.whole K;have T:=l.le;have U:=u.le;refine⟨e,b,aj _,by lia,⟨0,c,.nil,h,by lia⟩,λx M=>⟨L x M,by lia⟩⟩
  ·have C:=l.dist;obtain⟨r,z,N,O,⟨C,P,Q,E,Y⟩,G⟩:=Sg.part m n (e+1) u (by lia) (by rw[show e+1+n=e+(n+1) by lia];exact B);refine⟨r,z,by lia,by lia,⟨g+C,P,?_,E,by lia⟩,G⟩;clear G E N O u h;have v:∀{a b i j w A:Nat} {c d:Int},Sg fit pl a b i j c->Sg fit pl i j w A d->Sg fit pl a b w A (c+d):=by
    intro a b i j w A c d p q
    induction q with
    |nil=>rw[Bo];exact p
    |snoc _ s t=>rw[<- Int.add_assoc];exact .snoc t s
   exact v l Q
end
noncomputable def uE(q:Nat)(t:Nat->Nat)(lo hi:Nat):List (List Nat):=(ak (hi-lo+1-q)).map λp=>(ak q).map λx=>t (lo+p+x)
theorem jR{q:Nat}{t:Nat->Nat}{lo hi:Nat}(h:lo+q<=hi+1)(a:lo<=hi):uE q t lo (hi+1)=uE q t lo hi++[(ak q).map λx=>t (hi+1-q+x)]:=by
 unfold uE;rw[show hi+1-lo+1-q=(hi-lo+1-q)+1 by lia,iA,eI];congr 1;rw[Dm];congr 1;refine eV λx _=>?_;rw[show lo+(hi-lo+1-q)=hi+1-q by lia]
theorem rT{q:Nat}{t:Nat->Nat}{lo hi:Nat}(a:lo<=hi)(b:1<=q):(uE q t lo hi).Sublist (uE q t lo (hi+1)):=by
 by_cases h:lo+q<=hi+1
 ·rw[jR h a];exact List.sublist_append_left _ _
 ·unfold uE;rw[show hi+1-lo+1-q=0 by lia,show hi-lo+1-q=0 by lia];exact .refl _
theorem Sg.pieces{q lo:Nat}{w t:Nat->Nat}(d:1<=q){b i j:Nat}{c:Int}(h:Sg (λi j=>decide (t j=w i)) pl 0 b i j c)(B:lo<=b) :
  ∃(G:List (List Nat)) (r:Nat),G.Sublist (uE q w 0 i)/\G.Sublist (uE q t lo j)/\r<=i/\b+r<=j/\(∀x,x<r->t (j-1-x)=w (i-1-x))/\(i:Int)-c*q-(min r (q-1):Nat)<=(G.length:Int):=by
 induction h with
 |nil=>exact⟨[],0,DR _,DR _,aj _,aj _,λx e=>by lia,by simp⟩
 |@snoc i j C E c H h s u=>
  obtain⟨G,r,f,g,I,J,v,p⟩:=u;have K:=h.le;rcases s.pl with ⟨rfl,rfl,rfl,y⟩|⟨rfl,z⟩
  ·have l:t j=w i:=of_decide_eq_true y;have a:∀x,x<r+1->t (j+1-1-x)=w (i+1-1-x):=λx e=>by
    cases x with
    |zero=>exact l
    |succ x=>rw[show j+1-1-(x+1)=j-1-x by lia,show i+1-1-(x+1)=i-1-x by lia];exact v x (by lia)
   rw[Bo];by_cases L:q<=r+1
   ·refine⟨G++[(ak q).map λx=>w (i+1-q+x)],r+1,?_,?_,by lia,by lia,a,?_⟩
    ·rw[jR (by lia) (aM _)];exact f.append (.refl _)
    ·rw[jR (by lia) (by lia)];refine g.append ?_;have:((ak q).map λx=>w (i+1-q+x))=(ak q).map λx=>t (j+1-q+x):=eV λx e=>by
      have A:=eD.mp e;have:=a (q-1-x) (by lia);rw[show j+1-1-(q-1-x)=j+1-q+x by lia,show i+1-1-(q-1-x)=i+1-q+x by lia]at this;exact this.symm
     rw[this];exact .refl _
    ·rw[aJ,iY];have k:min r (q-1)=q-1:=by lia
     have m:min (r+1) (q-1)=q-1:=by lia
     rw[k]at p;rw[m];lia
   ·refine⟨G,r+1,f.trans (rT (aM _) d),g.trans (rT (by lia) d),by lia,by lia,a,?_⟩;have k:min r (q-1)=r:=by lia
    have m:min (r+1) (q-1)=r+1:=by lia
    rw[k]at p;rw[m];lia
  ·have n:(c+1)*(q:Int)=c*q+q:=by rw[Int.add_mul,EZ]
   have o:min 0 (q-1)=0:=by lia
   have k:min r (q-1)<=q-1:=by lia
   rcases z with ⟨rfl,rfl⟩|⟨rfl,rfl⟩|⟨rfl,rfl⟩
   ·exact⟨G,0,f.trans (rT (aM _) d),g.trans (rT (by lia) d),by lia,by lia,λx e=>by lia,by rw[n,o];lia⟩
   ·exact⟨G,0,f,g.trans (rT (by lia) d),by lia,by lia,λx e=>by lia,by rw[n,o];lia⟩
   ·exact⟨G,0,f.trans (rT (aM _) d),g,by lia,by lia,λx e=>by lia,by rw[n,o];lia⟩
end CE
namespace BT
noncomputable def tf(f:Nat->Bool):Nat->Nat
 |0=>if f 0=true then 1 else 0
 |m+1=>tf f m ||| if f (m+1)=true then 2 ^ (m+1)else 0
theorem jY(b:Bool)(n i:Nat):(if b=true then 2 ^ n else 0).testBit i=(decide (n=i)&&b):=by
 cases b with
 |true=>rw[if_pos rfl,BC,A6]
 |false=>rw[if_neg aK,Bg,oF]
theorem dC(f:Nat->Bool):∀m i,(tf f m).testBit i=(decide (i<=m)&&f i)
 |0,i=>by
  have:=jY (f 0) 0 i;rw[Nat.pow_zero]at this;rw[tf,this];by_cases h:0=i
  ·subst h;simp
  ·rw[decide_eq_false h,decide_eq_false (show ¬ i<=0 by lia)];rfl
 |m+1,i=>by
  rw[tf,oW,dC f m i,jY];by_cases h:m+1=i
  ·subst h;rw[decide_eq_true rfl,decide_eq_true (aj _),decide_eq_false (show ¬ m+1<=m by lia)];simp
  ·rw[decide_eq_false h,An,A7];by_cases a:i<=m
   ·rw[decide_eq_true a,decide_eq_true (show i<=m+1 by lia)]
   ·rw[decide_eq_false a,decide_eq_false (show ¬ i<=m+1 by lia)]
theorem dD(f:Nat->Bool):∀m,tf f m<2 ^ (m+1)
 |0=>by rw[tf];split <;> decide
 |m+1=>by
  rw[tf];refine Nat.or_lt_two_pow (aT (dD f m) (C4 (by decide) (by lia))) ?_;split
  ·exact Nat.pow_lt_pow_right (by decide) (by lia)
  ·exact D3 _
variable (fit:Nat->Nat->Bool)
noncomputable def pc:Nat->Nat->Nat
 |0,_=>0
 |i+1,0=>i+1
 |i+1,j+1=>min (pc i j+if fit i j=true then 0 else 1) (min (pc (i+1) j+1) (pc i (j+1)+1))
termination_by i j=>(i,j)
theorem sC(j:Nat):pc fit 0 j=0:=by rw[pc]
theorem ZT(i:Nat):pc fit (i+1) 0=i+1:=by rw[pc]
theorem jQ:∀i,pc fit i 0=i
 |0=>sC fit 0
 |i+1=>ZT fit i
theorem m7(i j:Nat):pc fit (i+1) (j+1)=min (pc fit i j+if fit i j=true then 0 else 1) (min (pc fit (i+1) j+1) (pc fit i (j+1)+1)):=by rw[pc]
theorem ZS:∀i j,pc fit i j<=i
 |0,j=>by rw[sC];exact aj 0
 |i+1,0=>by rw[ZT];exact aj _
 |i+1,j+1=>by
  have:=ZS i (j+1);rw[m7];lia
def row(m j s:Nat):Nat:=tf (λi=>decide (pc fit i j<=s)) m
theorem uY(m j s i:Nat):(row fit m j s).testBit i=(decide (i<=m)&&decide (pc fit i j<=s)):=dC _ m i
theorem NU(m j s:Nat):row fit m j s<2 ^ (m+1):=dD _ m
theorem VN{m s:Nat}(h:s<=m):row fit m 0 s=2 ^ (s+1)-1:=by
 refine Ay λi=>?_;rw[uY,jQ,At,<- Bool.decide_and];exact decide_eq_decide.mpr (by lia)
def sP(m j a:Nat):Prop:=∀i,a.testBit i=(decide (0<i/\i<=m)&&fit (i-1) j)
theorem ZL(i:Nat):E5 1 (i+1)=false:=by
 rw[Dv];intro h;exact absurd (Nat.testBit_one_eq_true_iff_self_eq_zero.mp h) (by lia)
theorem NR{m j a:Nat}(h:sP fit m j a):(1 ||| (row fit m j 0 <<< 1 &&& a)) &&& (2 ^ (m+1)-1)=row fit m (j+1) 0:=by
 refine Ay λi=>?_;rw[uY,Ah,oW,Ah,Ar,uY,h i,At];cases i with
 |zero=>rw[sC fit (j+1)];simp
 |succ i=>
  rw[m7,ZL,oI,on];simp only[eX,DX,decide_eq_true_eq,ei,false_or];cases fit i j with
  |true=>rw[if_pos rfl];simp <;> lia
  |false=>rw[if_neg aK];simp <;> lia
theorem NW{m j s a:Nat}(h:sP fit m j a):((((1 ||| (row fit m j (s+1) <<< 1 &&& a)) ||| row fit m j s) ||| row fit m j s <<< 1) ||| row fit m (j+1) s <<< 1) &&& (2 ^ (m+1)-1)=row fit m (j+1) (s+1):=by
 refine Ay λi=>?_;rw[uY,Ah,oW,oW,oW,oW,Ah,Ar,Ar,Ar,uY,uY,uY,uY,h i,At];cases i with
 |zero=>rw[sC fit (j+1),sC fit j];simp
 |succ i=>
  rw[m7,ZL,oI,on];simp only[eX,DX,decide_eq_true_eq,ei,false_or];cases fit i j with
  |true=>rw[if_pos rfl];simp <;> lia
  |false=>rw[if_neg aK];simp <;> lia
noncomputable def fb(has:Nat->Bool):Nat->Nat
 |0=>0
 |n+1=>fb has n ||| if has n=true then 2 ^ (n+1)else 0
theorem cA(has:Nat->Bool):∀n i,(fb has n).testBit i=(decide (0<i/\i<=n)&&has (i-1))
 |0,i=>by rw[fb,Bg,decide_eq_false (show ¬ (0<i/\i<=0) by lia)];rfl
 |n+1,i=>by
  rw[fb,oW,cA has n i,jY];by_cases h:n+1=i
  ·subst h;rw[decide_eq_true rfl,decide_eq_false (show ¬ (0<n+1/\n+1<=n) by lia),decide_eq_true (show 0<n+1/\n+1<=n+1 by lia)];simp
  ·rw[decide_eq_false h,An,A7];have:(0<i/\i<=n) ↔ (0<i/\i<=n+1):=by lia
   rw[decide_eq_decide.mpr this]
theorem QQ(a b:Nat)(c:Bool):(a ||| if c=true then b else 0) ||| b=a ||| b:=by
 cases c with
 |true=>rw[if_pos rfl,Nat.or_assoc,Nat.or_self]
 |false=>rw[if_neg aK,CK]
theorem dq(r m:Nat):(r &&& 2 ^ m=0) ↔ r.testBit m=false:=by
 constructor
 ·intro h;have:=congrArg (λn=>E5 n m) h;simp only[Ah,BC,Bg,decide_true,A6]at this;exact this
 ·intro h;refine Ay λi=>?_;rw[Ah,BC,Bg];by_cases e:m=i
  ·rw[<- e,h];rfl
  ·rw[decide_eq_false e,oF]
theorem Ra{m r:Nat}(a:m<=60)(h:r<2 ^ (m+1)):r<18446744073709551616:=aT h (aH (C4 (by decide) (show m+1<=64 by lia)) (by decide))
end BT
namespace L3
open PySem L2
theorem uQ(h:f δ=aa (.rt e δ')):zf f g δ=aa (.rt e δ'):=by unfold zf;rw[h];rfl
theorem xQ(h:fe δ=aa (.val d)):zn fe δ=aa (.rt (.val d) δ):=by unfold zn;rw[h];rfl
theorem d8{a b:Bool}(h1:e δ=aa (.val (.bl a)))(c:f δ=aa (.val (.bl b))):vQ e f δ=aa (.val (.bl (a&&b))):=by
 cases a <;> simp only[vQ,h1,zk,zR,c,yZ,y0,An,yi,C7]
theorem y8{i:Nat}{δ:En}(h:e δ=aa (.val v)):zf (zq i e) r δ=r (δ.set i (aa (.val v))):=by
 simp only[zf,zq,h,a5,ym,yH,yd,i8]
theorem QP{a b:Bool}(c:X δ=aa (.val (.bl a)))(d:Y δ=aa (.val (.bl b))):zU (yD (zg X)) (yD (zg Y)) δ=aa (!(a&&b)):=by
 cases a <;> simp only[zU,yD,zg,c,zk,zR,zl,ss,d,yi,An,vW,yZ,y0,C7]
theorem QO{a b:Int}(c:X δ= ~~~a)(e:Y δ= ~~~b):zU (zg (zc xt X (eC (.int 0)))) (zg (zc xt Y (eC (.int 0)))) δ=aa (decide (a<0\/b<0)):=by
 by_cases d:a<0
 ·simp only[zU,zg,zc,c,eC,xt,z8,zr,zk,zl,d,xn,zR,yi,rM]
 ·by_cases f:b<0 <;> simp only[zU,zg,zc,c,eC,xt,z8,zr,zk,zl,d,xu,zR,e,f,xn,yZ,y0,uh,or_self]
theorem jK{b:Bool}(h:X δ=aa (.val (.bl b))):yD (zg X) δ=aa (!b):=by simp only[yD,zg,h,zk,zR,zl]
theorem rh{i:Nat}{δ:En}(h:e δ=aa (.val v)):zq i e δ=aa (.nx (δ.set i (aa (.val v)))):=by unfold zq;rw[h];rfl
theorem wu{a b:Int}(h1:E δ= ~~~a)(c:F δ= ~~~b):zc zt E F δ= ~~~(a+b):=by simp only[zc,h1,c,zt,z8,zr,zk,zl]
theorem cn{a b:Int}(h1:E δ= ~~~a)(c:F δ= ~~~b):zc yr E F δ=aa (.val (.bl (decide (a=b)))):=by simp only[zc,h1,c,yr,zk,vo,zl]
theorem Zg{ds:List D}{n:Nat}(h:E δ=aa (.val (.tup ds)))(hn:ds.length=n):zm yC (zb E zd) δ= ~~~(n:Int):=by subst hn;simp only[zm,zb,h,zd,zl,zk,yC,yc]
theorem wJ{z:Str}{n:Nat}(h:E δ=aa (.val (.str z)))(hn:z.length=n)(a:n<=1000000):zm ya (zb E zd) δ= ~~~(n:Int):=by subst hn;simp only[zm,zb,h,zd,zl,zk,ya,zP,a,yI,zT]
theorem v7{it:FI}{tg:FG}{f r:FS}{δ δ':En}{ds:List D}(h:it δ=aa ds)(a:loop tg f ds δ=aa (.nx δ')):zf (ye it tg f) r δ=r δ':=yf (by unfold ye;rw[h];exact a)
theorem V3{it:FI}{tg:FG}{f r:FS}{δ δ':En}{ds:List D}{e:Ent}(h:it δ=aa ds)(a:loop tg f ds δ=aa (.rt e δ')):zf (ye it tg f) r δ=aa (.rt e δ'):=uQ (by unfold ye;rw[h];exact a)
theorem wl{a b:Int}(h1:E δ= ~~~a)(c:F δ= ~~~b):zc yt E F δ= ~~~(a-b):=by simp only[zc,h1,c,yt,z8,zr,zk,zl]
theorem t7{i:Nat}{δ:En}{ds:List D}(a:δ[i]? =aa (aa (.own ds)))(h:e δ=aa (.val v))(b:ds.length<1000000):xO i e δ=aa (.nx (δ.set i (aa (.own (ds++[v]))))):=by
 unfold xO;rw[a,h];simp (disch:=omega) only[zk,zL,yI,zT]
theorem ZO{a b:Int}(c:X δ= ~~~a)(e:Y δ= ~~~b):zU (zg (zc yF X (eC (.int 0)))) (zg (zc yF Y (eC (.int 0)))) δ=aa (decide (a > 0\/b > 0)):=by
 by_cases d:a > 0
 ·simp only[zU,zg,zc,c,eC,yF,z8,zr,zk,zl,d,xn,zR,yi,rM]
 ·by_cases f:b > 0 <;> simp only[zU,zg,zc,c,eC,yF,z8,zr,zk,zl,d,xu,zR,e,f,xn,yZ,y0,uh,or_self]
theorem pA{a b:Int}(h1:E δ= ~~~a)(c:F δ= ~~~b)(d:0<b):zc yN E F δ= ~~~(a%b):=by simp (disch:=omega) only[zc,h1,c,yN,pI,zr,zk,uo,zT]
theorem t5{a b:Int}(h1:E δ= ~~~a)(c:F δ= ~~~b)(d:0<b/\b<1000000):zc xX E F δ= ~~~(a / b):=by simp (disch:=omega) only[zc,h1,c,xX,pI,zr,zk,nJ,zT]
theorem jG{a b:Int}(h1:E δ= ~~~a)(c:F δ= ~~~b):zg (zc xt E F) δ=aa (decide (a<b)):=by by_cases e:a<b <;> simp only[zg,zc,h1,c,xt,z8,zr,zk,zl,e,xn,zR,xu]
theorem mK{a:Int}(h1:E δ=aa (.bor ds))(b:F δ= ~~~a)(h:zO ds a=aa v):zc yG E F δ=aa (.val v):=by simp only[zc,h1,b,yG,zS,zr,zk,h,zl]
theorem QN{a b c:Int}(d:X δ= ~~~a)(f:Y δ= ~~~b):zU (zg (zc xt X (eC (.int c)))) (zg (zc xt Y (eC (.int c)))) δ=aa (decide (a<c\/b<c)):=by
 by_cases e:a<c
 ·simp only[zU,zg,zc,d,eC,xt,z8,zr,zk,zl,e,xn,zR,yi,rM]
 ·by_cases g:b<c <;> simp only[zU,zg,zc,d,eC,xt,z8,zr,zk,zl,e,xu,zR,f,g,xn,yZ,y0,uh,or_self]
theorem QL{a b:Bool}(c:X δ=aa (.val (.bl a)))(d:Y δ=aa (.val (.bl b))):zU (zg X) (zg Y) δ=aa (a || b):=by
 cases a <;> simp only[zU,zg,c,zk,zR,d,yZ,y0,Bool.false_or,yi,Dh]
theorem uC{a:Int}(h1:E δ=aa (.val (.tup ds)))(b:F δ= ~~~a)(h:zO ds a=aa v):zc zV E F δ=aa (.val v):=by simp only[zc,h1,b,zV,yc,zr,zk,h,zl]
theorem jq{b:List Nat}{a:Int}{t:Nat}(h1:E δ= ~~~[b])(c:b.length<=1000000)(d:F δ= ~~~a)(h:zO b a=aa t):zc wI E F δ= ~~~[[t]]:=by simp only[zc,h1,d,wI,zP,zr,zk,yj,c,yI,wG,h,zl,zT]
theorem UV(h1:E δ=aa (.val (.str z)))(a:F δ=aa (.val (.str w))):zc v9 E F δ=aa (.val (.bl (uf z w))):=by simp only[zc,h1,a,v9,zP,zk,zl]
theorem ZG(h1:E δ=aa (.val (.str z)))(a:F δ=aa (.val (.str w))):zc tz E F δ=aa (.val (.bl (!uf z w))):=by simp only[zc,h1,a,tz,zP,zk,zl]
theorem S3{g:List D->Option Ent}(e:A δ=aa (.val a))(f:B δ=aa (.val b))(h:C δ=aa (.val c))(i:E δ=aa (.val d)):zi [.v] g (zb (z7 (zb A (zb B (zb C (zb E zd))))) zd) δ=g [.lst [a,b,c,d]]:=by simp only[zi,zb,z7,e,f,h,i,zd,zl,zk,xV,xb,Nat.reduceLeDiff,yn,zL,yi,yq,yL]
theorem v6{g:List D->Option Ent}(c:X δ=aa (.val a))(d:Y δ=aa (.val b)):zi [.v,.v] g (zb X (zb Y zd)) δ=g [a,b]:=by
 unfold zi zb zd;rw[c];simp only[a5];rw[d];rfl
theorem d9{q:Bool}(c:A δ=aa (.val (.bl q)))(d:B δ=aa (.val a))(e:C δ=aa (.val b)):t6 (zg A) B C δ=aa (.val (if q=true then a else b)):=by
 cases q <;> simp only[t6,zg,c,zk,zR,d,e,yZ,y0,yi]
theorem tp{i:Nat}{δ:En}(h:e δ=aa (.own ds)):zq i e δ=aa (.nx (δ.set i (aa (.own ds)))):=by unfold zq;rw[h];rfl
theorem jp{a:Int}(h1:E δ=aa (.vw ds))(b:F δ= ~~~a)(h:zO ds a=aa v):zc yG E F δ=aa (.val v):=by simp only[zc,h1,b,yG,zS,zr,zk,h,zl]
theorem ca(h:E δ=aa (.val v)):z7 (zb E zd) δ=aa (.own [v]):=by unfold z7 zb zd;rw[h];rfl
end L3

namespace N61
open PySem L2 L3 PyProof.Rows
noncomputable section
abbrev ke:FE:=
  (zc zV (za 0) (za 1))
abbrev fR:FS:=
  (zn (zm wO (zb (yB [1] (iB 0) yR ke) zd)))
def mz:List D->Option Ent:=zw [.b,.v] 0 fR
abbrev pX:FS:=
  (zf (zI (zU (zg (zc xt (za 3) (eC (.int 2)))) (zg (zc xt (zm ya (zb (za 2) zd)) (eC (.int 2))))) (zn (eC .non)) zM)
   (zf (zI (zU (zg (zc tz (zc wI (za 2) (zo yp (eC (.int 2)))) (zc zV (za 1) (zc yt (za 3) (eC (.int 1)))))) (zg (zc tz (zc wI (za 2) (zo yp (eC (.int 1)))) (zc zV (za 1) (zc yt (za 3) (eC (.int 2))))))) (zn (eC .non)) zM)
   (zn (zc zV (zc yG (za 0) (zo yp (eC (.int 2)))) (zc yt (za 3) (eC (.int 2)))))))
def mf:List D->Option Ent:=zw [.b,.v,.v,.v] 0 pX
abbrev ni:FS:=
  (zf (zI (zU (zg (zc vV (za 0) (eC .non))) (zg (zc yr (za 1) (eC (.int 0))))) (zn (eC .non)) zM)
   (zn (zc zt (za 0) (za 1))))
def ue:List D->Option Ent:=zw [.v,.v] 0 ni
abbrev l9:FE:=
  (za 0)
abbrev ka:FT:=
  (zg (zc ua (za 0) (eC .non)))
abbrev fH:FS:=
  (zn (zc k0 (yB [] (qV (za 0)) ka l9) (eC .non)))
def so:List D->Option Ent:=zw [.v] 0 fH
abbrev pW:FS:=
  (zf (zI (zU (zg (zc yF (zc zt (za 2) (zo (vj [("same",1),("exchanged",1),("put",0),("left",1),("turned",2)]) (za 4))) (zm yC (zb (za 0) zd)))) (zg (zc yF (zc zt (za 3) (zo (vj [("same",1),("exchanged",1),("put",1),("left",0),("turned",2)]) (za 4))) (zm ya (zb (za 1) zd))))) (zn (eC (.bl false))) zM)
   (zf (zI (zg (zc yr (za 4) (eC (.str "same")))) (zn (zc v9 (zc wI (za 1) (za 3)) (zc zV (za 0) (za 2)))) zM)
   (zf (zI (zg (zc yr (za 4) (eC (.str "exchanged")))) (zn (zc tz (zc wI (za 1) (za 3)) (zc zV (za 0) (za 2)))) zM)
   (zf (zI (zg (zc yr (za 4) (eC (.str "turned")))) (zn (vQ (zc v9 (zc wI (za 1) (za 3)) (zc zV (za 0) (zc zt (za 2) (eC (.int 1))))) (zc v9 (zc wI (za 1) (zc zt (za 3) (eC (.int 1)))) (zc zV (za 0) (za 2))))) zM)
   (zn (eC (.bl true)))))))
def rC:List D->Option Ent:=zw [.v,.v,.v,.v,.v] 0 pW
abbrev XZ:FS:=
  (zn (zo (cS [("same",1),("exchanged",1),("put",0),("left",1),("turned",2)]) (za 0)))
def mq:List D->Option Ent:=zw [.v] 0 XZ
abbrev X0:FS:=
  (zf (zI (zg (zc yr (za 1) (eC (.str "same")))) (zn (eC (.int 0))) zM)
   (zn (zc zV (za 0) (zo (vj [("put",0),("left",1),("exchanged",2),("turned",3)]) (za 1)))))
def rH:List D->Option Ent:=zw [.v,.v] 0 X0
abbrev lN:FS:=
  (t8 1 (za 4) (zc tr (uP 1 (zb (za 4) (zb (eC (.int 0)) zd))) (zc ub (eC (.int 1)) (zc zt (za 2) (eC (.int 1))))))
abbrev lO:FS:=
  (ye (iS (za 3)) (zN 4) lN)
abbrev lM:FS:=
  (zf (tq 1 nK)
   (zf (ye (c9 (za 0)) (wW (yO (zN 2) (yO (zN 3) wQ))) lO)
   (kQ 1 (wN 1))))
def mm:List D->Option Ent:=zw [.v] 4 lM
abbrev qp:FS:=
  (zI (zg (zc wy (zc uR (za 3) (zc ub (eC (.int 1)) (za 1))) (eC (.int 0)))) (wN 2) zM)
abbrev fY:FS:=
  (zf (ye (ph 0) (wW (yO (zN 2) (yO (zN 3) wQ))) qp)
   (zn (eC .non)))
def mC:List D->Option Ent:=zw [.b,.v] 2 fY
abbrev gO:FS:=
  (zn (zc yt (zc ub (eC (.int 1)) (zc zt (za 0) (eC (.int 1)))) (eC (.int 1))))
def uc:List D->Option Ent:=zw [.v] 0 gO
abbrev fK:FS:=
  (zn (zm je (zb (za 0) zd)))
def uU:List D->Option Ent:=zw [.v] 0 fK
abbrev fV:FS:=
  (zf (zI (zg (zc yr (za 0) (eC (.str "abcdefghijklmnopqrstuvwxyz")))) (zn (eC (.str "."))) zM)
   (zf (zI (zg (zc yr (zm ya (zb (za 0) zd)) (eC (.int 1)))) (wN 0) zM)
   (zn (zc qN (zc qN (eC (.str "[")) (za 0)) (eC (.str "]"))))))
def pe:List D->Option Ent:=zw [.v] 0 fV
abbrev gQ:FS:=
  (zf (zI (zg (zc wy (zc wI (za 0) (za 1)) (eC (.str "[")))) (zn (zc zt (za 1) (eC (.int 1)))) zM)
   (zf (zq 2 (wM nT (za 0) (zb (eC (.str "]")) (zb (za 1) zd))))
   (zf (zI (zg (zc yr (za 2) (zo yp (eC (.int 1))))) t9 zM)
   (zn (zc zt (za 2) (eC (.int 1)))))))
def mh:List D->Option Ent:=zw [.v,.v] 1 gQ
abbrev p4:FE:=
  (zc v9 (za 0) (eC (.str "abcdefghijklmnopqrstuvwxyz")))
abbrev gX:FS:=
  (zf (zI (zU (zg (zc yr (za 0) (eC (.str "")))) (yD (zg (zm kY (zb (yB [] (iS (za 0)) yR p4) zd))))) (zn (eC (.bl false))) zM)
   (zn (zc nS (zm kZ (zb (za 0) zd)) (zo ja (za 0)))))
def mo:List D->Option Ent:=zw [.v] 0 gX
abbrev kc:FE:=
  (za 0)
abbrev nh:FT:=
  (zg (zc yr (yo yS (za 2) (zQ (za 0)) (zQ (zc zt (za 0) (zm ya (zb (za 1) zd))))) (za 1)))
abbrev fL:FS:=
  (zn (yB [0,1] (yT (zb (zc zt (zc yt (zm ya (zb (za 1) zd)) (zm ya (zb (za 0) zd))) (eC (.int 1))) zd)) nh kc))
def pa:List D->Option Ent:=zw [.v,.v] 0 fL
abbrev nl:FE:=
  (yQ (zb (zm tu (zb (zc yt (zc yt (za 0) (zm ya (zb (za 2) zd))) (za 1)) (zb (eC (.int 0)) zd))) (zb (za 0) zd)))
abbrev f4:FS:=
  (zn (yB [1,0] (yT (zb (zc zt (zm ya (zb (za 2) zd)) (eC (.int 1))) zd)) yR nl))
def jj:List D->Option Ent:=zw [.v,.v,.v] 0 f4
abbrev nk:FS:=
  (zf (zq 4 (yo yS (za 0) (zQ (za 3)) (zQ (zc zt (za 3) (za 1)))))
   (t8 2 (za 4) (zc zt (uP 2 (zb (za 4) (zb (eC (.int 0)) zd))) (eC (.int 1)))))
abbrev kh:FS:=
  (zf (tq 2 nK)
   (zf (ye (yT (zb (zc zt (zc yt (zm ya (zb (za 0) zd)) (za 1)) (eC (.int 1))) zd)) (zN 3) nk)
   (kQ 2 (wN 2))))
def rJ:List D->Option Ent:=zw [.v,.v] 3 kh
abbrev tT:FE:=
  (zm vA (zb (zc qO (za 1) (za 0)) (zb (wM se (za 2) (zb (za 0) (zb (eC (.int 0)) zd))) zd)))
abbrev fJ:FS:=
  (zn (zm rn (zb (yB [0,1] (iD (za 0)) yR tT) zd)))
def mw:List D->Option Ent:=zw [.v,.v] 0 fJ
abbrev gY:FS:=
  (zI (w8 (zg (zc yF (zm yC (zb (za 1) zd)) (eC (.int 0)))) (zg (zc uw (za 2) (zc zV (zc yG (za 1) (zo yp (eC (.int 1)))) (eC (.int 1)))))) (rf 1 (zo yp (eC (.int 1))) (yQ (zb (zc zV (zc yG (za 1) (zo yp (eC (.int 1)))) (eC (.int 0))) (zb (zm tu (zb (zc zV (zc yG (za 1) (zo yp (eC (.int 1)))) (eC (.int 1))) (zb (za 3) zd))) zd)))) (xO 1 (yQ (zb (za 2) (zb (za 3) zd)))))
abbrev lR:FS:=
  (zf (zq 1 (z7 zd))
   (zf (ye (iL (zm qQ (zb (za 0) zd))) (wW (yO (zN 2) (yO (zN 3) wQ))) gY)
   (zn (zm wO (zb (za 1) zd)))))
def mr:List D->Option Ent:=zw [.b] 3 lR
abbrev pV:FS:=
  (zq 2 (zc yN (zc zt (zc yX (za 2) (eC (.int 613))) (za 3)) (eC (.int 2147483629))))
abbrev lC:FS:=
  (zf (zI (zg (zc xt (za 1) (zm yC (zb (za 0) zd)))) (zn (zc yG (za 0) (za 1))) zM)
   (zf (zq 2 (zc zt (eC (.int 104729)) (zc yX (zc yX (eC (.int 7919)) (za 1)) (za 1))))
   (zf (ye (iL (yo k9 (za 0) wS (zQ (eC (.int 63))))) (zN 3) pV)
   (zf (zq 2 (zc yN (zc zt (zc yX (za 2) (eC (.int 48271))) (zc yX (eC (.int 16807)) (za 1))) (eC (.int 2147483647))))
   (zn (zc yN (zc yX (za 2) (za 2)) (eC (.int 2147483629))))))))
def uT:List D->Option Ent:=zw [.b,.v] 2 lC
abbrev qf:FS:=
  (zf (xO 3 (zc yN (za 4) (za 1)))
   (zq 4 (zc xX (za 4) (za 1))))
abbrev sN:FS:=
  (zf (zq 4 (zc yN (zc zt (zc zt (zc yX (za 4) (eC (.int 69621))) (zc yX (zc yX (eC (.int 16807)) (za 5)) (za 5))) (eC (.int 7))) (eC (.int 2147483629))))
   (xO 3 (zc yN (zc xX (zc yN (zc yX (za 4) (za 4)) (eC (.int 2147483647))) (eC (.int 3))) (za 1))))
abbrev lD:FS:=
  (zf (zq 3 (z7 zd))
   (zf (zq 4 (za 0))
   (zf (ye (yT (zb (za 2) zd)) (zN 5) qf)
   (zf (zI (w8 (zg (zc yF (za 2) (eC (.int 0)))) (w8 (zg (zc yr (za 4) (eC (.int 0)))) (zg (zc yr (zc yG (za 3) (zo yp (eC (.int 1)))) (eC (.int 0)))))) (zf (zq 4 (zc yN (zc zt (zc yX (za 0) (eC (.int 48271))) (zc yX (eC (.int 104729)) (za 2))) (eC (.int 2147483647))))
   (zf (zq 3 (z7 zd))
   (ye (yT (zb (za 2) zd)) (zN 5) sN))) zM)
   (wN 3)))))
def qT:List D->Option Ent:=zw [.v,.v,.v] 3 lD
abbrev sO:FE:=
  (zc wI (za 1) (zc yN (zc zt (zc xX (za 2) (eC (.int 4))) (za 0)) (eC (.int 26))))
abbrev gM:FS:=
  (zf (zq 1 (eC (.str "abcdefghijklmnopqrstuvwxyz")))
   (zf (zq 2 (zc yG (z7 (zb (eC (.int 26)) (zb (eC (.int 2)) (zb (eC (.int 3)) (zb (eC (.int 4)) zd))))) (zc yN (za 0) (eC (.int 4)))))
   (zn (yB [1,0] (yT (zb (za 2) zd)) yR sO))))
def md:List D->Option Ent:=zw [.v] 2 gM
abbrev gJ:FS:=
  (zf (wV 0 "Sight" [] "most" (za 1))
   (zf (wV 0 "Sight" ["most"] "end" (eC (.int 0)))
   (wV 0 "Sight" ["most","end"] "pairs" (z7 zd))))
def rA:GM:=xy 1 0 gJ
abbrev pT:FS:=
  (zf (zI (w8 (zg (zc ua (za 1) (eC .non))) (zg (zc uw (za 1) (xg 0 "Sight" ["most","end","pairs"] 0)))) (qK 0 "Sight" ["most","end","pairs"] 2 (yQ (zb (xg 0 "Sight" ["most","end","pairs"] 1) (zb (za 1) zd)))) zM)
   (vT 0 "Sight" ["most","end","pairs"] 1 (zc zt (xg 0 "Sight" ["most","end","pairs"] 1) (eC (.int 1)))))
def uz:GM:=xy 1 0 pT
abbrev gL:FS:=
  (zf (zq 1 (zm wO (zb (xg 0 "Sight" ["most","end","pairs"] 2) zd)))
   (zf (vT 0 "Sight" ["most","end","pairs"] 2 (z7 zd))
   (wN 1)))
def rB:GM:=xy 0 1 gL
abbrev p0:FS:=
  (xO 2 (zi [.v,.v] ue (zb (zc yG (za 2) (zc yt (za 3) (eC (.int 1)))) (zb (zc vz (za 1) (eC (.int 1))) zd))))
abbrev gT:FS:=
  (zf (zq 2 (z7 (zb (eC (.int 0)) zd)))
   (zf (ye (tF (zb (eC (.int 1)) (zb (zc zt (zm yC (zb (za 0) zd)) (eC (.int 1))) zd))) (zN 3) p0)
   (zn (zm wO (zb (za 2) zd)))))
def qW:List D->Option Ent:=zw [.v,.t] 2 gT
abbrev p3:FS:=
  (zf (zq 8 (zc v9 (zc wI (za 2) (zo yp (eC (.int 1)))) (zc zV (za 1) (zc yt (za 7) (eC (.int 1))))))
   (xO 6 (zi [.v] so (zb (z7 (zb (t6 (zg (za 8)) (zc zV (za 5) (zc yt (za 7) (eC (.int 1)))) (zi [.v,.v] ue (zb (zc zV (za 5) (zc yt (za 7) (eC (.int 1)))) (zb (zc vz (za 3) (eC (.int 2))) zd)))) (zb (zi [.v,.v] ue (zb (zc zV (za 5) (za 7)) (zb (zc vz (za 3) (eC (.int 0))) zd))) (zb (zi [.v,.v] ue (zb (zc yG (za 6) (zc yt (za 7) (eC (.int 1)))) (zb (zc vz (za 3) (eC (.int 1))) zd))) (zb (zi [.v,.v] ue (zb (zi [.b,.v,.v,.v] mf (zb (za 0) (zb (za 1) (zb (za 2) (zb (za 7) zd))))) (zb (zc vz (za 3) (eC (.int 3))) zd))) zd))))) zd))))
abbrev lP:FS:=
  (zf (zq 5 (zc yG (za 0) (zo yp (eC (.int 1)))))
   (zf (zq 6 (z7 (zb (t6 (zg (za 4)) (eC (.int 0)) (zi [.v,.v] ue (zb (zc zV (za 5) (eC (.int 0))) (zb (zc vz (za 3) (eC (.int 0))) zd)))) zd)))
   (zf (ye (tF (zb (eC (.int 1)) (zb (zc zt (zm yC (zb (za 1) zd)) (eC (.int 1))) zd))) (zN 7) p3)
   (zn (zm wO (zb (za 6) zd))))))
def mn:List D->Option Ent:=zw [.b,.v,.v,.t,.v] 4 lP
abbrev kf:FE:=
  (zi [.v,.v] rH (zb (za 1) (zb (za 0) zd)))
abbrev fU:FS:=
  (zn (zm rn (zb (yB [0] (iT (za 1)) yR kf) zd)))
def pd:List D->Option Ent:=zw [.v,.v] 0 fU
abbrev XY:FS:=
  (zn (cc (zc yr (za 1) (eC (.str "same"))) (zc wy (zi [.v,.v] rH (zb (za 0) (zb (za 1) zd))) (eC (.int 0)))))
def rE:List D->Option Ent:=zw [.v,.v] 0 XY
abbrev gU:FS:=
  (zf (zq 1 (zi [.v] so (zb (za 0) zd)))
   (zf (zI (zg (zc vV (za 1) (eC .non))) (zn (eC .non)) zM)
   (zn (yQ (zb (wM qP (za 0) (zb (za 1) zd)) (zb (za 1) zd))))))
def qX:List D->Option Ent:=zw [.v] 1 gU
abbrev gW:FE:=
  (zi [.v] uc (zb (za 0) zd))
abbrev lL:FS:=
  (zn (yB [] (yT (zb (zc zt (zm vA (zb (za 0) (zb (za 1) zd))) (eC (.int 1))) zd)) yR gW))
def jh:List D->Option Ent:=zw [.v,.v] 0 lL
abbrev qi:FS:=
  (zf (zq 6 (zc tr (eC (.int 1)) (zc uR (zc ub (za 5) (eC (.int 1))) (za 1))))
   (zf (zI (zg (zc yF (za 4) (eC (.int 0)))) (zf (zq 7 (zc yG (za 0) (zc yt (za 4) (eC (.int 1)))))
   (zf (zq 8 (zc ub (zc yG (za 0) (zc yt (za 4) (eC (.int 1)))) (eC (.int 1))))
   (zf (zq 9 (zc ub (zc yG (za 3) (zc yt (za 4) (eC (.int 1)))) (eC (.int 1))))
   (zq 6 (zc tr (zc tr (zc tr (za 6) (za 7)) (za 8)) (za 9)))))) zM)
   (xO 3 (zc uR (za 6) (zi [.v] uc (zb (za 2) zd))))))
abbrev lQ:FS:=
  (zf (zq 3 (z7 zd))
   (zf (ye (ph 0) (wW (yO (zN 4) (yO (zN 5) wQ))) qi)
   (wN 3)))
def ji:List D->Option Ent:=zw [.b,.v,.v] 7 lQ
abbrev kg:FE:=
  (zi [.v] pe (zb (za 0) zd))
abbrev fW:FS:=
  (zn (wM sf (eC (.str "")) (zb (yB [] (iT (za 0)) yR kg) zd)))
def pf:List D->Option Ent:=zw [.v] 0 fW
abbrev fP:FS:=
  (zf (zq 1 (t6 (zg (zc yr (za 0) (eC (.str ".")))) (eC (.str "abcdefghijklmnopqrstuvwxyz")) (wM qR (za 0) (zb (eC (.str "[]")) zd))))
   (zf (zI (zU (yD (zg (zi [.v] mo (zb (za 1) zd)))) (zg (zc wy (zi [.v] pe (zb (za 1) zd)) (za 0)))) t9 zM)
   (wN 1)))
def my:List D->Option Ent:=zw [.v] 1 fP
abbrev lT:FS:=
  (xO 3 (yQ (zb (zm tu (zb (zc yt (zc yt (za 7) (za 5)) (za 1)) (zb (eC (.int 0)) zd))) (zb (zm vA (zb (zc zt (zc yt (zc zt (za 7) (zm ya (zb (za 0) zd))) (za 5)) (za 1)) (zb (zm ya (zb (za 2) zd)) zd))) zd))))
abbrev p7:FS:=
  (zf (zq 5 (zc xX (zc yX (za 4) (zm ya (zb (za 0) zd))) (zc zt (za 1) (eC (.int 1)))))
   (zf (zq 6 (zc xX (zc yX (zc zt (za 4) (eC (.int 1))) (zm ya (zb (za 0) zd))) (zc zt (za 1) (eC (.int 1)))))
   (ye (iL (zi [.v,.v] pa (zb (yo yS (za 0) (zQ (za 5)) (zQ (za 6))) (zb (za 2) zd)))) (zN 7) lT)))
abbrev lS:FS:=
  (zf (zq 3 (z7 zd))
   (zf (ye (yT (zb (zc zt (za 1) (eC (.int 1))) zd)) (zN 4) p7)
   (zn (zi [.b] mr (zb (za 3) zd)))))
def ms:List D->Option Ent:=zw [.v,.v,.v] 5 lS
abbrev qj:FS:=
  (zI (zg (zc nU (zi [.v,.v] mw (zb (za 5) (zb (zi [.v,.v] rJ (zb (yo yS (za 2) (zQ (za 7)) (zQ (za 8))) (zb (za 3) zd))) zd))) (za 4))) (xO 6 (yQ (zb (za 7) (zb (za 8) zd)))) zM)
abbrev lU:FS:=
  (zf (zq 4 (zc yt (zc zt (zc yt (zm ya (zb (za 0) zd)) (za 3)) (eC (.int 1))) (zc yX (za 1) (za 3))))
   (zf (zq 5 (zi [.v,.v] rJ (zb (za 0) (zb (za 3) zd))))
   (zf (zq 6 (z7 zd))
   (zf (ye (iL (zi [.v,.v,.v] jj (zb (za 0) (zb (za 1) (zb (za 2) zd))))) (wW (yO (zN 7) (yO (zN 8) wQ))) qj)
   (zn (zi [.b] mr (zb (za 6) zd)))))))
def sn:List D->Option Ent:=zw [.v,.v,.v,.v] 5 lU
abbrev qg:FE:=
  (zc yG (za 1) (za 0))
abbrev gN:FS:=
  (zn (wM sf (eC (.str "")) (zb (yB [0] (iL (zi [.v,.v,.v] qT (zb (za 1) (zb (zm yC (zb (za 0) zd)) (zb (za 2) zd))))) yR qg) zd)))
def sj:List D->Option Ent:=zw [.b,.v,.v] 0 gN
abbrev lH:FS:=
  (xO 4 (zi [.b,.v,.v,.t,.v] mn (zb (za 4) (zb (za 0) (zb (yo yS (za 1) wS (zQ (za 5))) (zb (za 2) (zb (za 3) zd)))))))
abbrev lG:FE:=
  (zi [.b,.v] mz (zb (za 1) (zb (za 0) zd)))
abbrev gP:FS:=
  (zf (zq 4 (z7 (zb (zi [.v,.t] qW (zb (za 0) (zb (za 2) zd))) zd)))
   (zf (ye (tF (zb (eC (.int 1)) (zb (zc zt (zm ya (zb (za 1) zd)) (eC (.int 1))) zd))) (zN 5) lH)
   (zn (zm wO (zb (yB [4] (yT (zb (zc zt (zm yC (zb (za 0) zd)) (eC (.int 1))) zd)) yR lG) zd)))))
def rD:List D->Option Ent:=zw [.v,.v,.t,.v] 2 gP
abbrev ng:FS:=
  (zf (zI (zU (yD (zg (zi [.v] mq (zb (za 6) zd)))) (zU (yD (zg (zi [.v,.v] rE (zb (za 2) (zb (za 6) zd))))) (yD (zg (zi [.v,.v,.v,.v,.v] rC (zb (za 0) (zb (za 1) (zb (za 4) (zb (za 5) (zb (za 6) zd)))))))))) (zn (eC (.bl false))) zM)
   (zf (zq 4 (zc zt (za 4) (zo (vj [("same",1),("exchanged",1),("put",0),("left",1),("turned",2)]) (za 6))))
   (zq 5 (zc zt (za 5) (zo (vj [("same",1),("exchanged",1),("put",1),("left",0),("turned",2)]) (za 6))))))
abbrev l8:FS:=
  (zf (zq 4 (eC (.int 0)))
   (zf (zq 5 (eC (.int 0)))
   (zf (ye (iT (za 3)) (zN 6) ng)
   (zn (vQ (zc yr (za 4) (zm yC (zb (za 0) zd))) (zc yr (za 5) (zm ya (zb (za 1) zd))))))))
def mu:List D->Option Ent:=zw [.v,.v,.v,.v] 3 l8
abbrev lI:FS:=
  (zf (zq 7 (zc yt (za 4) (zo (vj [("same",1),("exchanged",1),("put",0),("left",1),("turned",2)]) (za 6))))
   (zf (zq 8 (zc yt (za 5) (zo (vj [("same",1),("exchanged",1),("put",1),("left",0),("turned",2)]) (za 6))))
   (zf (zI (zU (zg (zc xt (za 7) (eC (.int 0)))) (zg (zc xt (za 8) (eC (.int 0))))) (zn (eC (.bl false))) zM)
   (zf (zI (zU (yD (zg (zi [.v,.v] rE (zb (za 3) (zb (za 6) zd))))) (yD (zg (zi [.v,.v,.v,.v,.v] rC (zb (za 1) (zb (za 2) (zb (za 7) (zb (za 8) (zb (za 6) zd))))))))) (zn (eC (.bl false))) zM)
   (zf (zq 9 (zc zV (zc zV (za 0) (za 7)) (za 8)))
   (zn (vQ (zc ua (za 9) (eC .non)) (zc yr (zc zt (za 9) (zi [.v,.v] rH (zb (za 3) (zb (za 6) zd)))) (zc zV (zc zV (za 0) (za 4)) (za 5))))))))))
def jg:List D->Option Ent:=zw [.v,.v,.v,.v,.v,.v,.v] 3 lI
abbrev ql:FT:=
  (zg (zc xt (za 2) (zm ya (zb (za 0) zd))))
abbrev qk:FS:=
  (zf (zq 3 (zi [.v,.v] mh (zb (za 0) (zb (za 2) zd))))
   (zf (xO 1 (zi [.v] my (zb (yo yS (za 0) (zQ (za 2)) (zQ (za 3))) zd)))
   (zq 2 (za 3))))
abbrev fQ:FS:=
  (zf (zI (yD (zg (zo (va "str") (za 0)))) t9 zM)
   (zf (zq 1 (z7 zd))
   (zf (zq 2 (eC (.int 0)))
   (zf (vc ql
   qk 1000)
   (zf (zI (zg (zc yF (zm yC (zb (za 1) zd)) (eC (.int 40)))) t9 zM)
   (zn (zm wO (zb (za 1) zd))))))))
def pb:List D->Option Ent:=zw [.v] 3 fQ
abbrev gZ:FS:=
  (zn (zi [.v,.v,.v,.v] sn (zb (za 0) (zb (za 1) (zb (za 2) (zb (eC (.int 1)) zd))))))
def qY:List D->Option Ent:=zw [.v,.v,.v] 0 gZ
abbrev gD:FS:=
  (zf (wV 0 "Bits" [] "fitting" (zi [.v] mm (zb (za 1) zd)))
   (zf (wV 0 "Bits" ["fitting"] "classes" (zm yC (zb (za 1) zd)))
   (zf (wV 0 "Bits" ["fitting","classes"] "rows" (zi [.v,.v] jh (zb (xg 0 "Bits" ["fitting","classes"] 1) (zb (za 2) zd))))
   (zf (wV 0 "Bits" ["fitting","classes","rows"] "sight" (vu "Sight" rA (zb (za 2) zd)))
   (fX (vd 0 "Bits" ["fitting","classes","rows","sight"] 3 "Sight" ["most","end","pairs"] uz (zb (zi [.b,.v] mC (zb (xg 0 "Bits" ["fitting","classes","rows","sight"] 2) (zb (xg 0 "Bits" ["fitting","classes","rows","sight"] 1) zd))) zd)))))))
def si:GM:=xy 2 0 gD
abbrev gF:FS:=
  (zf (vT 0 "Bits" ["fitting","classes","rows","sight"] 2 (zi [.b,.v,.v] ji (zb (xg 0 "Bits" ["fitting","classes","rows","sight"] 2) (zb (wM se (xg 0 "Bits" ["fitting","classes","rows","sight"] 0) (zb (za 1) (zb (eC (.int 0)) zd))) (zb (xg 0 "Bits" ["fitting","classes","rows","sight"] 1) zd)))))
   (fX (vd 0 "Bits" ["fitting","classes","rows","sight"] 3 "Sight" ["most","end","pairs"] uz (zb (zi [.b,.v] mC (zb (xg 0 "Bits" ["fitting","classes","rows","sight"] 2) (zb (xg 0 "Bits" ["fitting","classes","rows","sight"] 1) zd))) zd))))
def nW:GM:=xy 1 0 gF
abbrev gG:FS:=
  (zf (wV 0 "Finder" [] "pattern" (za 1))
   (zf (wV 0 "Finder" ["pattern"] "prices" (za 3))
   (zf (wV 0 "Finder" ["pattern","prices"] "columns" (z7 (zb (zi [.v,.t] qW (zb (za 1) (zb (za 3) zd))) zd)))
   (zf (wV 0 "Finder" ["pattern","prices","columns"] "last_sign" (eC (.str "")))
   (zf (wV 0 "Finder" ["pattern","prices","columns","last_sign"] "sight" (vu "Sight" rA (zb (za 2) zd)))
   (fX (vd 0 "Finder" ["pattern","prices","columns","last_sign","sight"] 4 "Sight" ["most","end","pairs"] uz (zb (zc zV (zc yG (xg 0 "Finder" ["pattern","prices","columns","last_sign","sight"] 2) (zo yp (eC (.int 1)))) (zo yp (eC (.int 1)))) zd))))))))
def rq:GM:=xy 3 0 gG
abbrev gI:FS:=
  (zf (zq 2 (zi [.b,.v,.v,.t,.v] mn (zb (xg 0 "Finder" ["pattern","prices","columns","last_sign","sight"] 2) (zb (xg 0 "Finder" ["pattern","prices","columns","last_sign","sight"] 0) (zb (zc qN (xg 0 "Finder" ["pattern","prices","columns","last_sign","sight"] 3) (za 1)) (zb (xg 0 "Finder" ["pattern","prices","columns","last_sign","sight"] 1) (zb (eC (.bl true)) zd)))))))
   (zf (vT 0 "Finder" ["pattern","prices","columns","last_sign","sight"] 2 (z7 (zb (zc yG (xg 0 "Finder" ["pattern","prices","columns","last_sign","sight"] 2) (zo yp (eC (.int 1)))) (zb (za 2) zd))))
   (zf (vT 0 "Finder" ["pattern","prices","columns","last_sign","sight"] 3 (za 1))
   (fX (vd 0 "Finder" ["pattern","prices","columns","last_sign","sight"] 4 "Sight" ["most","end","pairs"] uz (zb (zc zV (za 2) (zo yp (eC (.int 1)))) zd))))))
def nX:GM:=xy 1 1 gI
abbrev lV:FE:=
  (za 0)
abbrev p8:FT:=
  (zg (zi [.v,.v,.v,.v,.v,.v,.v] jg (zb (za 1) (zb (za 2) (zb (za 3) (zb (za 4) (zb (za 5) (zb (za 6) (zb (za 0) zd)))))))))
abbrev g0:FS:=
  (zf (zq 6 (yB [0,1,2,3,4,5] (iK ["same","exchanged","put","left","turned"]) p8 lV))
   (zn (zc yG (za 6) (eC (.int 0)))))
def rF:List D->Option Ent:=zw [.v,.v,.v,.v,.v,.v] 1 g0
abbrev fM:FS:=
  (zn (zc zV (zi [.v,.v,.t,.v] rD (zb (za 0) (zb (za 1) (zb (za 2) (zb (eC (.bl true)) zd))))) (zo yp (eC (.int 1)))))
def rG:List D->Option Ent:=zw [.v,.v,.t] 0 fM
abbrev fN:FS:=
  (zn (zc zV (rd [.v,.v,.t,.v] rD (zb (zo k8 (za 0)) (zb (zo k7 (za 1)) (zb (za 2) zd))) (.bl false)) (zo yp (eC (.int 1)))))
def mx:List D->Option Ent:=zw [.v,.v,.v] 0 fN
abbrev pU(rg:List D->Option Ent):FS:=
  (zI (yD (zg (zi [.v,.v] rg (zb (za 2) (zb (za 3) zd))))) (zn (eC (.bl false))) zM)
abbrev sM(rg:List D->Option Ent):FS:=
  (zf (zI (zg (zo (va "tuple") (za 1))) (zf (zI (zU (yD (zg (zo (va "tuple") (za 0)))) (zg (zc wy (zm yC (zb (za 0) zd)) (zm yC (zb (za 1) zd))))) (zn (eC (.bl false))) zM)
   (zf (ye (jm (qV (za 0)) (qV (za 1))) (wW (yO (zN 2) (yO (zN 3) wQ))) (pU rg))
   (zn (eC (.bl true))))) zM)
   (zn (vQ (zo (va "int") (za 0)) (vQ (zo k6 (zo (va "bool") (za 0))) (zc yr (za 0) (za 1))))))
def cX:List D->Option Ent:=zw [.v,.v] 2 t9
def nZ:List D->Option Ent:=zw [.v,.v] 2 (sM cX)
def jf:List D->Option Ent:=zw [.v,.v] 2 (sM nZ)
def ma:List D->Option Ent:=zw [.v,.v] 2 (sM jf)
abbrev nY:List D->Option Ent:=ma
abbrev pR:FS:=
  (fX (xM 0 "Bits" ["fitting","classes","rows","sight"] nW (zb (za 2) zd)))
abbrev gE:FS:=
  (zf (ye (iS (za 1)) (zN 2) pR)
   (sd (vd 0 "Bits" ["fitting","classes","rows","sight"] 3 "Sight" ["most","end","pairs"] rB zd)))
def rp:GM:=xy 1 1 gE
abbrev pS:FS:=
  (fX (xM 0 "Finder" ["pattern","prices","columns","last_sign","sight"] nX (zb (za 2) zd)))
abbrev gH:FS:=
  (zf (ye (iS (za 1)) (zN 2) pS)
   (sd (vd 0 "Finder" ["pattern","prices","columns","last_sign","sight"] 4 "Sight" ["most","end","pairs"] rB zd)))
def qS:GM:=xy 1 1 gH
abbrev qo:FT:=
  (zU (zg (zc yF (za 5) (eC (.int 0)))) (zg (zc yF (za 6) (eC (.int 0)))))
abbrev qm:FS:=
  (zf (zq 7 (zi [.v,.v,.v,.v,.v,.v] rF (zb (za 3) (zb (za 0) (zb (za 1) (zb (za 2) (zb (za 5) (zb (za 6) zd))))))))
   (zf (xO 4 (za 7))
   (zf (zq 5 (zc yt (za 5) (zo (vj [("same",1),("exchanged",1),("put",0),("left",1),("turned",2)]) (za 7))))
   (zq 6 (zc yt (za 6) (zo (vj [("same",1),("exchanged",1),("put",1),("left",0),("turned",2)]) (za 7)))))))
abbrev fS:FS:=
  (zf (zq 3 (rd [.v,.v,.t,.v] rD (zb (za 0) (zb (za 1) (zb (za 2) zd))) (.bl false)))
   (zf (zI (zg (zc vV (zc zV (zc zV (za 3) (zo yp (eC (.int 1)))) (zo yp (eC (.int 1)))) (eC .non))) (zn (eC .non)) zM)
   (zf (zq 4 (z7 zd))
   (zf (zq 5 (zm yC (zb (za 0) zd)))
   (zf (zq 6 (zm ya (zb (za 1) zd)))
   (zf (vc qo
   qm 2100)
   (zn (zo jd (za 4)))))))))
def mB:List D->Option Ent:=zw [.v,.v,.v] 5 fS
abbrev pY:FS:=
  (fX (xM 4 "Sight" ["most","end","pairs"] uz (zb (za 5) zd)))
abbrev gR:FS:=
  (zf (tq 4 (vu "Sight" rA (zb (za 2) zd)))
   (zf (ye (iT (zi [.v,.v,.t] rG (zb (za 0) (zb (za 1) (zb (za 3) zd))))) (zN 5) pY)
   (sd (xM 4 "Sight" ["most","end","pairs"] rB zd))))
def sk:List D->Option Ent:=zw [.v,.v,.v,.t] 2 gR
abbrev fI:FS:=
  (zn (zi [.v] qX (zb (zi [.v,.v,.t] rG (zb (za 0) (zb (za 1) (zb (za 2) zd)))) zd)))
def qZ:List D->Option Ent:=zw [.v,.v,.v] 0 fI
abbrev fZ:FS:=
  (zf (zI (zU (zg (zc xt (za 2) (eC (.int 0)))) (zg (zc yF (za 2) (zm ya (zb (za 1) zd))))) (zn (eC .non)) zM)
   (zf (zq 4 (zi [.v] qX (zb (zi [.v,.v,.v] mx (zb (za 0) (zb (yo yS (za 1) wS (zQ (za 2))) (zb (za 3) zd)))) zd)))
   (zf (zI (zg (zc vV (za 4) (eC .non))) (zn (eC .non)) zM)
   (zf (zq 5 (zc yt (za 2) (zc zV (za 4) (eC (.int 0)))))
   (zn (yQ (zb (za 5) (zb (zi [.v,.v,.v] mB (zb (za 0) (zb (yo yS (za 1) (zQ (za 5)) (zQ (za 2))) (zb (za 3) zd)))) zd))))))))
def mD:List D->Option Ent:=zw [.v,.v,.v,.v] 2 fZ
abbrev qh:FE:=
  (yQ (zb (zc zt (za 2) (za 0)) (zb (za 1) zd)))
abbrev lK:FS:=
  (zf (zI (zg (zc yF (za 3) (za 4))) (zn (z7 zd)) zM)
   (zf (zq 5 (zi [.v,.v,.v,.t] sk (zb (zi [.v] uU (zb (za 0) zd)) (zb (yo yS (za 2) (zQ (za 3)) (zQ (za 4))) (zb (za 1) (zb (eB ([1,1,1,0].map .int)) zd))))))
   (zn (re [3] (iT (za 5)) yR qh))))
def ml:List D->Option Ent:=zw [.v,.v,.v,.v,.v] 1 lK
abbrev pZ:FS:=
  (qJ 4 (zi [.v,.v,.v,.v,.v] ml (zb (za 0) (zb (za 1) (zb (za 2) (zb (zm tu (zb (za 5) (zb (eC (.int 0)) zd))) (zb (zm vA (zb (za 6) (zb (zm ya (zb (za 2) zd)) zd))) zd)))))))
abbrev lJ:FS:=
  (zf (zq 4 (z7 zd))
   (zf (ye (iT (za 3)) (wW (yO (zN 5) (yO (zN 6) wQ))) pZ)
   (zn (zm wO (zb (za 4) zd)))))
def mj:List D->Option Ent:=zw [.v,.v,.v,.v] 3 lJ
abbrev lE:FS:=
  (zf (zq 4 (zi [.v,.v,.v,.v] mD (zb (za 0) (zb (za 1) (zb (za 2) (zb (yQ (zb (eC (.int 1)) (zb (eC (.int 1)) (zb (eC (.int 1)) (zb (eC (.int 0)) zd))))) zd))))))
   (zf (zI (zU (yD (zg (zo (va "tuple") (za 4)))) (zU (zg (zc wy (zm yC (zb (za 4) zd)) (eC (.int 2)))) (yD (zg (zo (va "tuple") (zc zV (za 4) (eC (.int 1)))))))) (zn (eC (.bl false))) zM)
   (zf (cz (wW (yO (zN 5) (yO (zN 6) wQ))) (za 4))
   (zf (zI (zU (yD (zg (zo (va "int") (za 5)))) (zU (zg (zc xt (za 5) (eC (.int 0)))) (zU (zg (zc yF (za 5) (za 2))) (zg (zc wy (zi [.v,.v] pd (zb (yQ (zb (eC (.int 1)) (zb (eC (.int 1)) (zb (eC (.int 1)) (zb (eC (.int 0)) zd))))) (zb (za 6) zd))) (za 3)))))) (zn (eC (.bl false))) zM)
   (zn (zc cU (zi [.v,.v,.v,.v] mu (zb (za 0) (zb (yo yS (za 1) (zQ (za 5)) (zQ (za 2))) (zb (yQ (zb (eC (.int 1)) (zb (eC (.int 1)) (zb (eC (.int 1)) (zb (eC (.int 0)) zd))))) (zb (za 6) zd))))) (eC (.bl true))))))))
def qU:List D->Option Ent:=zw [.v,.v,.v,.v] 3 lE
abbrev nc:FS:=
  (zI (yD (zg (zi [.v,.v] nY (zb (zi [.v,.v,.v,.v] mj (zb (za 3) (zb (za 5) (zb (za 4) (zb (za 12) zd))))) (zb (za 7) zd))))) (zn (eC (.bl false))) zM)
abbrev g3:FE:=
  (za 0)
abbrev l7:FT:=
  (zg (zc xt (zc zV (za 0) (eC (.int 1))) (zc zV (za 1) (eC (.int 1)))))
abbrev g6:FE:=
  (za 0)
abbrev fG:FT:=
  (yD (zg (zi [.v,.v,.v,.v] qU (zb (za 1) (zb (za 2) (zb (zc zV (za 0) (eC (.int 0))) (zb (zc zV (za 0) (eC (.int 1))) zd)))))))
abbrev l0:FS:=
  (zf (zq 11 (zc rl (yo tE (za 7) wS (zQ (eC (.int 3)))) (yo tE (yo tE (za 7) (zQ (eC (.int 3))) wS) (zQ (zo yp (eC (.int 3)))) wS)))
   (zn (zc nS (yB [6,4] (iT (za 11)) fG g6) (z7 zd))))
abbrev lZ:FS:=
  (zf (zI (zU (zg (zc cV (yB [13] (iT (za 7)) l7 g3) (z7 zd))) (zg (zc wy (zc nV (za 13) (za 7)) (zc uw (zc zV (za 13) (eC (.int 1))) (za 5))))) (zn (eC (.bl false))) zM)
   l0)
abbrev lY:FS:=
  (zf (zq 13 (zi [.v,.v,.v] qZ (zb (za 6) (zb (za 4) (zb (yQ (zb (eC (.int 1)) (zb (eC (.int 1)) (zb (eC (.int 1)) (zb (eC (.int 0)) zd))))) zd)))))
   lZ)
abbrev fq:FS:=
  (zf (ye (iL (zc nQ (za 11) (z7 (zb (zi [.v,.v,.v,.v] sn (zb (za 3) (zb (za 5) (zb (za 4) (zb (za 10) zd))))) zd)))) (zN 12) nc)
   lY)
abbrev lX:FS:=
  (zf (zq 11 (z7 (zb (zi [.v,.v,.v] ms (zb (za 3) (zb (za 5) (zb (za 4) zd)))) (zb (zi [.v,.v,.v] qY (zb (za 3) (zb (za 5) (zb (za 4) zd)))) zd))))
   fq)
abbrev fg:FS:=
  (zf (zq 10 (zc zt (eC (.int 1)) (zc yN (zc xX (za 1) (eC (.int 7))) (eC (.int 6)))))
   lX)
abbrev lW:FS:=
  (zf (zI (yD (zg (zi [.v,.v] nY (zb (nL "Bits" ["fitting","classes","rows","sight"] rp (vu "Bits" si (zb (za 6) (zb (za 5) zd))) (zb (za 4) zd)) (zb (za 7) zd))))) (zn (eC (.bl false))) zM)
   fg)
abbrev l6:FS:=
  (zf (kR (xN (xT (xC [.v,.v] nY (lB (x2 rl (xM 9 "Finder" ["pattern","prices","columns","last_sign","sight"] qS (zb (yo yS (za 4) wS (zQ (za 8))) zd)) (xM 9 "Finder" ["pattern","prices","columns","last_sign","sight"] qS (zb (yo yS (za 4) (zQ (za 8)) wS) zd))) (lB (xP (za 7)) gB))))) (zn (eC (.bl false))) zM)
   lW)
abbrev l5:FS:=
  (zf (tq 9 (vu "Finder" rq (zb (za 6) (zb (za 5) (zb (yQ (zb (eC (.int 1)) (zb (eC (.int 1)) (zb (eC (.int 1)) (zb (eC (.int 0)) zd))))) zd)))))
   l6)
abbrev fF:FS:=
  (zf (zq 8 (zc yN (zc xX (za 1) (eC (.int 277160))) (zc zt (zm ya (zb (za 4) zd)) (eC (.int 1)))))
   l5)
abbrev fD:FS:=
  (zf (zq 7 (zi [.v,.v,.v,.t] sk (zb (za 6) (zb (za 4) (zb (za 5) (zb (yQ (zb (eC (.int 1)) (zb (eC (.int 1)) (zb (eC (.int 1)) (zb (eC (.int 0)) zd))))) zd))))))
   fF)
abbrev fC:FS:=
  (zf (zq 6 (zi [.v] pb (zb (zi [.v] pf (zb (zi [.v] uU (zb (za 3) zd)) zd)) zd)))
   fD)
abbrev fB:FS:=
  (zf (zq 5 (zc yN (zc xX (za 1) (eC (.int 55432))) (eC (.int 5))))
   fC)
abbrev fy:FS:=
  (zf (zq 4 (zi [.b,.v,.v] sj (zb (za 2) (zb (zi [.b,.v] uT (zb (za 0) (zb (eC (.int 2)) zd))) (zb (zc yN (zc xX (za 1) (eC (.int 1352))) (eC (.int 41))) zd)))))
   fB)
abbrev fw:FS:=
  (zf (zq 3 (zi [.b,.v,.v] sj (zb (za 2) (zb (zi [.b,.v] uT (zb (za 0) (zb (eC (.int 1)) zd))) (zb (zc yN (zc xX (za 1) (eC (.int 104))) (eC (.int 13))) zd)))))
   fy)
abbrev g9:FS:=
  (zf (zq 2 (zi [.v] md (zb (za 1) zd)))
   fw)
abbrev p9:FS:=
  (zf (zq 1 (zi [.b,.v] uT (zb (za 0) (zb (eC (.int 0)) zd))))
   g9)
def cY:List D->Option Ent:=zw [.b] 13 p9
end
end N61

namespace N61
open PySem L2 L3
open CE in
theorem r6(c:Option Int)(q:Int):ue [oD c,.int q]=aa (.val (oD (zY c q))):=by
 cases c with
 |none=>simp (disch:=omega) only[ue,zw,yH,yU,oD,zl,zk,ni,zf,zI,zU,zg,zc,za,aB,xU,eC,vV,xY,yr,zn,yd,zM,zt,zF,zR,zG,vo,yi,ym,yh,zY,bC,ite_self]
 |some i=>
  by_cases h:q=0
  ·simp (disch:=omega) only[ue,zw,yH,yU,oD,h,zl,zk,ni,zf,zI,zU,zg,zc,za,aB,xU,eC,vV,xY,yr,zn,yd,zM,zt,zF,zR,zG,vo,xn,yZ,y0,yi,ym,yh,zY]
  ·simp (disch:=omega) only[ue,zw,yH,yU,oD,zl,zk,ni,zf,zI,zU,zg,zc,za,aB,xU,eC,vV,xY,yr,zn,yd,zM,zt,zF,zR,zG,vo,h,xu,yZ,y0,ym,z8,zr,yh,zY]
open CE in
theorem S5(δ:En)(cs:List (Option Int)):yV (λd=>ka (yw [] δ d)) (λd=>l9 (yw [] δ d)) (cs.map oD)=aa ((cs.filterMap id).map D.int):=by
 induction cs with
 |nil=>rfl
 |cons c cs a=>
  rw[ay,yV,a];cases c with
  |none=>rfl
  |some i=>rfl
open CE in
theorem Zs(cs:List (Option Int))(d:D)(b:m9 (.val d)=aa (cs.map oD))(h:cs.length<=1000000):so [d]=aa (.val (oD (lw cs))):=by
 have c:yB [] (qV (za 0)) ka l9 [aa (.val d)]=aa (.own ((cs.filterMap id).map D.int)):=
  w6 (by unfold qV;exact b) (S5 _ cs) (by rw[ar];exact aH (List.length_filterMap_le _ _) h)
 simp (disch:=omega) only[so,zw,yH,yU,zl,zk,fH,zn,zc,aB,xU,eC,k0,zS,yd,c,jn];cases a:tJ (cs.filterMap id)with
 |none=>simp (disch:=omega) only[zk,zl,yh,oD,lw,a]
 |some m=>simp (disch:=omega) only[zk,zl,yh,oD,lw,a]
open CE in
theorem S6(cs:List (Option Int))(h:cs.length<=1000000):so [.lst (cs.map oD)]=aa (.val (oD (lw cs))):=Zs cs _ rfl h
open CE in
theorem S7(cs:List (Option Int))(h:cs.length<=1000000):so [.tup (cs.map oD)]=aa (.val (oD (lw cs))):=Zs cs _ rfl h
def wZ(c:Nat->Nat->Option Int)(n a:Nat):D:=.tup ((ak (n+1)).map λj=>CE.oD (c a j))
theorem NQ(c:Nat->Nat->Option Int)(n a:Nat){k:Int}(b:0<=k)(h:k.toNat<=n):zO ((ak (n+1)).map λj=>CE.oD (c a j)) k=aa (CE.oD (c a k.toNat)):=by
 refine tY b ?_;rw[av,a6 (by lia)];rfl
def _root_.CE.Pr.ds(p:CE.Pr):List D:=[.int p.put,.int p.left,.int p.exch,.int p.turn]
theorem _root_.CE.Pr.d_ds(p:CE.Pr):p.d=.tup p.ds:=rfl
def yJ(c:Nat->Nat->Option Int)(m j:Nat):D:=.tup ((ak (m+1)).map λi=>CE.oD (c i j))
theorem sF(f:Nat->D)(n:Nat){k:Int}(a:0<=k)(h:k.toNat<=n):zO ((ak (n+1)).map f) k=aa (f k.toNat):=by
 refine tY a ?_;rw[av,a6 (by lia)];rfl
theorem rW(f:Nat->D)(n:Nat):zO ((ak (n+1)).map f) (-1)=aa (f n):=nB (by rw[iA,eI];simp)
theorem dr{a:Type}{xs:List a}{x:a}(b:2<=xs.length)(h:xs[xs.length-2]? =aa x):zO xs (-2)=aa x:=by
 unfold zO vC;rw[if_neg (by lia),if_pos (by lia)];show xs[(-2+(xs.length:Int)).toNat]? =_;rw[show(-2+(xs.length:Int)).toNat=xs.length-2 by lia];exact h
theorem NO(f:Nat->D)(n:Nat):zO ((ak (n+1+1)).map f) (-2)=aa (f n):=by
 refine dr (by simp) ?_;rw[ar,eH,show n+1+1-2=n by lia,av,a6 (by lia)];rfl
structure Win(c:Nat->Nat->Option Int)(fit:Nat->Nat->Bool)(P:List Str)(j:Nat)(cs:List D)(tx:List Nat):Prop where
 l:tx.length<=1000000
 c1:zO cs (-1)=aa (yJ c P.length j)
 s1:∃t,zO tx (-1)=aa t/\∀i,i<P.length->uf (mkS [t]) (P.getD i (mkS []))=fit i j
 two:(tx.length<2/\j=0)\/(2<=tx.length/\0<j/\zO cs (-2)=aa (yJ c P.length (j-1))/\∃t,zO tx (-2)=aa t/\∀i,i<P.length->uf (mkS [t]) (P.getD i (mkS []))=fit i (j-1))
open CE in
theorem Wg{c:Nat->Nat->Option Int}{fit:Nat->Nat->Bool}{P:List Str}{j:Nat}(W:Win c fit P j cs tx)(i:Nat)(hi:i<P.length) :
 mf [.lst cs,.tup (P.map .str),.str (mkS tx),.int (1+(i:Int))]=aa (.val (oD (tc fit c i j))):=by
  have e:tx.length<=1000000:=W.l
  suffices hF:pX [aa (.bor cs),aa (.val (.tup (P.map .str))),~~~[tx],~~~(1+(i:Int))]=aa (.rt (.val (oD (tc fit c i j))) [aa (.bor cs),aa (.val (.tup (P.map .str))),~~~[tx],~~~(1+(i:Int))])from
    (congrArg (λo=>ez o _) hF).trans rfl
  have d:=QN (X:=za 3) (Y:=zm ya (zb (za 2) zd)) (c:=2) (δ:=[aa (.bor cs),aa (.val (.tup (P.map .str))),~~~[tx],~~~(1+(i:Int))]) rfl (wJ rfl (yj tx) e);by_cases h:0<i/\2<=tx.length
  · rcases W.two with ⟨f,_⟩|⟨_,n,p,J,r,s⟩
    · lia
    · obtain⟨t,u,w⟩:=W.s1;have a:i-1<P.length:=AN (Nat.sub_le _ _) hi;have g:tc fit c i j=if (fit i (j-1)&&fit (i-1) j)=true then c (i-1) (j-1)else ab:=by unfold tc;rw[if_pos ⟨h.1,n⟩]
      have x:1+(i:Int)-1=(i:Int):=by lia
      have y:1+(i:Int)-2=((i-1:Nat):Int):=by lia
      have z:=nC D.str (mkS []) (xs:=P) (i:=(i:Int)) (og _) (by simpa using hi);have A:=nC D.str (mkS []) (xs:=P) (i:=((i-1:Nat):Int)) (og _) (by simpa using a);have B:zO ((ak (P.length+1)).map λk=>oD (c k (j-1))) ((i-1:Nat):Int)=aa (oD (c (i-1) (j-1))):=by
        rw[sF _ _ (og _) (by simp;lia)];rfl
      have C:=s i hi;have G:=w (i-1) a;have s1:=wl (E:=za 3) (F:=eC (.int 1)) (δ:=[aa (.bor cs),aa (.val (.tup (P.map .str))),~~~[tx],~~~(1+(i:Int))]) rfl rfl;have m:=wl (E:=za 3) (F:=eC (.int 2)) (δ:=[aa (.bor cs),aa (.val (.tup (P.map .str))),~~~[tx],~~~(1+(i:Int))]) rfl rfl;rw[x]at s1;rw[y]at m;have H:=ZG (jq (E:=za 2) (F:=zo yp (eC (.int 2))) rfl e rfl r) (uC (E:=za 1) rfl s1 z);have I:=ZG (jq (E:=za 2) (F:=zo yp (eC (.int 1))) rfl e rfl u) (uC (E:=za 1) rfl m A);have b:=QL H I;rw[oz,oz,C,G,<- Bool.not_and]at b;rw[decide_eq_false (by lia)]at d;refine(show pX _=_ from yf (xm d)).trans ?_;rw[g];cases v:(fit i (j-1)&&fit (i-1) j)with
      |false=>rw[v]at b;exact uQ ((vU b).trans (xQ rfl))
      |true=>rw[v]at b;exact(yf (xm b)).trans (xQ (uC (mK rfl rfl p) m B))
  · have g:tc fit c i j=ab:=by
      unfold tc;rw[if_neg];intro q;rcases W.two with ⟨f,n⟩|⟨f,_⟩
      · lia
      · exact h ⟨q.1,f⟩
    rw[decide_eq_true (by lia)]at d;rw[g];exact show pX _=_ from uQ ((vU d).trans (xQ rfl))
open CE in
theorem VP(P:List Str)(p:Pr)(a:Bool)(fit:Nat->Nat->Bool)(k:Nat)(d:k<P.length)(f:P.length<=100000) :
  p0 [aa (.val (.tup (P.map .str))),aa (.bt p.ds),aa (.own ((ak (k+1)).map λi=>oD (zh fit p a i 0))),~~~(1+(k:Int))] =
  aa (.nx [aa (.val (.tup (P.map .str))),aa (.bt p.ds),aa (.own ((ak (k+1+1)).map λi=>oD (zh fit p a i 0))),~~~(1+(k:Int))]):=by
 have g:(((ak (k+1)).map λi=>oD (zh fit p a i 0))).length<1000000:=by simp;lia
 have b:zO ((ak (k+1)).map λi=>oD (zh fit p a i 0)) (1+(k:Int)-1)=aa (oD (zh fit p a k 0)):=by
  rw[sF _ _ (by lia) (by lia),show(1+(k:Int)-1).toNat=k by lia]
 have c:zO [D.int p.put,D.int p.left,D.int p.exch,D.int p.turn] 1=aa (.int p.left):=rfl;have e:(ak (k+1+1)).map (λi=>oD (zh fit p a i 0))=(ak (k+1)).map (λi=>oD (zh fit p a i 0))++[oD (zh fit p a (k+1) 0)]:=by
  rw[iA (n:=k+1),eI];rfl
 rw[e,qA];simp (disch:=omega) only[p0,xO,Pr.ds,zG,zF,zi,zb,zc,za,eC,yt,z8,zr,zk,zl,yG,zS,b,vz,kD,c,zd,yq,yL,zL,r6,yI,yK,yx,zT]
open CE in
theorem cE(P:List Str)(p:Pr)(a:Bool)(fit:Nat->Nat->Bool)(h:P.length<=100000) :
  qW [.tup (P.map .str),.tup p.ds]=aa (.val (yJ (zh fit p a) P.length 0)):=by
 obtain⟨m,c,e,rfl⟩:=sw (tg:=zN 3) (f:=p0) (λk j=>∃e,j=[aa (.val (.tup (P.map .str))),aa (.bt p.ds),aa (.own ((ak (k+1)).map λi=>oD (zh fit p a i 0))),e])
  ((ak P.length).map λ(k:Nat)=>D.int (1+(k:Int))) 0 _ (λk d j b g=>by
   obtain⟨e,rfl⟩:=g;rw[aV];rw[av]at b;have l:k<P.length:=by
    cases q:(ak P.length)[k]? with
    |none=>rw[q]at b;cases b
    |some z=>have:=(aQ.mp q).1;simpa using this
   rw[a6 l]at b;cases b;exact⟨_,_,rfl,.inl (VP P p a fit k l h),_,rfl⟩) ⟨ab,rfl⟩
 have o:ww 1:=vg (by decide);have r:ww ((P.length:Int)+1):=vg (by lia);have s:((P.length:Int)+1-1).toNat=P.length:=by lia
 have t:P.length<=100000:=h;simp only[ar,eH,aV]at c;simp only[iA (n:=0),Cy,iz,ay,ij,sV,sB,jL]at c;simp (disch:=omega) only[qW,zw,yH,yU,zl,zk,gT,zf,zq,z7,zb,eC,zd,xV,xb,Nat.reduceLeDiff,yn,zL,yi,aB,yd,zt,ym,ye,tF,zc,zm,za,z8,zr,xA,xB,yK,yx,zF,yC,yc,ar,uL,js,s,zT,c,zn,zG,wO,zS,yh,yJ]
open CE in
theorem Ua(P:List Str)(p:Pr)(a:Bool)(fit:Nat->Nat->Bool)(cs:List D)(c:List Nat)(j k:Nat)(W:Win (zh fit p a) fit P j cs c)(h:Option Ent)(f:k<P.length)(N:P.length<=100000) :
  p3 [aa (.bor cs),aa (.val (.tup (P.map .str))),~~~[c],aa (.bt p.ds),aa (.val (.bl a)),aa (.val (yJ (zh fit p a) P.length j)),aa (.own ((ak (k+1)).map λi=>oD (zh fit p a i (j+1)))),~~~(1+(k:Int)),h] =
  aa (.nx [aa (.bor cs),aa (.val (.tup (P.map .str))),~~~[c],aa (.bt p.ds),aa (.val (.bl a)),aa (.val (yJ (zh fit p a) P.length j)),aa (.own ((ak (k+1+1)).map λi=>oD (zh fit p a i (j+1)))),~~~(1+(k:Int)),aa (.val (.bl (fit k j)))]):=by
 have w:(((ak (k+1)).map λi=>oD (zh fit p a i (j+1)))).length<1000000:=by simp;lia
 have m:zO ((ak (k+1)).map λi=>oD (zh fit p a i (j+1))) (1+(k:Int)-1)=aa (oD (zh fit p a k (j+1))):=by
  rw[sF _ _ (by lia) (by lia),show(1+(k:Int)-1).toNat=k by lia]
 obtain⟨t,x,y⟩:=W.s1;have z:=y k f;have o:1+(k:Int)-1=(k:Int):=by lia
 have B:=nC D.str (mkS []) (xs:=P) (i:=(k:Int)) (og _) (by simpa using f);have C:zO ((ak (P.length+1)).map λi=>oD (zh fit p a i j)) (k:Int)=aa (oD (zh fit p a k j)):=by
  rw[sF _ _ (og _) (by simp;lia)];rfl
 have G:zO ((ak (P.length+1)).map λi=>oD (zh fit p a i j)) (1+(k:Int))=aa (oD (zh fit p a (k+1) j)):=by
  rw[sF _ _ (by lia) (by lia),show(1+(k:Int)).toNat=k+1 by lia]
 rw[o]at m;have e:(ak (k+1+1)).map (λi=>oD (zh fit p a i (j+1)))=(ak (k+1)).map (λi=>oD (zh fit p a i (j+1)))++[oD (zh fit p a (k+1) (j+1))]:=by
  rw[iA (n:=k+1),eI];rfl
 rw[e,uN];generalize (ak (k+1)).map (λi=>oD (zh fit p a i (j+1)))=d at *;have q:=wl (E:=za 7) (F:=eC (.int 1)) (δ:=[aa (.bor cs),aa (.val (.tup (P.map .str))),~~~[c],aa (.bt p.ds),aa (.val (.bl a)),aa (.val (yJ (zh fit p a) P.length j)),aa (.own d),~~~(1+(k:Int)),h]) rfl rfl;have g:=wl (E:=za 7) (F:=eC (.int 1)) (δ:=[aa (.bor cs),aa (.val (.tup (P.map .str))),~~~[c],aa (.bt p.ds),aa (.val (.bl a)),aa (.val (yJ (zh fit p a) P.length j)),aa (.own d),~~~(1+(k:Int)),aa (.val (.bl (fit k j)))]) rfl rfl;rw[o]at q g;have r:=UV (jq (E:=za 2) (F:=zo yp (eC (.int 1))) rfl W.l rfl x) (uC (E:=za 1) rfl q B);rw[oz,z]at r;have s:=uC (E:=za 5) rfl g C;have H:=uC (E:=za 5) (F:=za 7) (δ:=[aa (.bor cs),aa (.val (.tup (P.map .str))),~~~[c],aa (.bt p.ds),aa (.val (.bl a)),aa (.val (yJ (zh fit p a) P.length j)),aa (.own d),~~~(1+(k:Int)),aa (.val (.bl (fit k j)))]) rfl rfl G;have I:=jp (E:=za 6) rfl g m;have u:=d9 (A:=za 8) rfl s ((v6 s (Y:=zc vz (za 3) (eC (.int 2))) (b:=.int p.exch) rfl).trans (r6 _ _));have J:=(v6 H (Y:=zc vz (za 3) (eC (.int 0))) (b:=.int p.put) rfl).trans (r6 _ _)
 have K:=(v6 I (Y:=zc vz (za 3) (eC (.int 1))) (b:=.int p.left) rfl).trans (r6 _ _)
 have L:zi [.b,.v,.v,.v] mf (zb (za 0) (zb (za 1) (zb (za 2) (zb (za 7) zd)))) [aa (.bor cs),aa (.val (.tup (P.map .str))),~~~[c],aa (.bt p.ds),aa (.val (.bl a)),aa (.val (yJ (zh fit p a) P.length j)),aa (.own d),~~~(1+(k:Int)),aa (.val (.bl (fit k j)))]=aa (.val (oD (tc fit (zh fit p a) k j))):=Wg W k f;have M:=(v6 L (Y:=zc vz (za 3) (eC (.int 3))) (b:=.int p.turn) rfl).trans (r6 _ _)
 rw[show(if fit k j=true then oD (zh fit p a k j)else oD (zY (zh fit p a k j) p.exch))=oD (if fit k j=true then zh fit p a k j else zY (zh fit p a k j) p.exch) by cases fit k j <;> rfl]at u;exact(show p3 _=_ from y8 r).trans (t7 rfl ((S3 u J K M).trans (S6 [_,_,_,_] (show 4<=1000000 by decide))) w)
open CE in
theorem cQ(P:List Str)(p:Pr)(a:Bool)(fit:Nat->Nat->Bool)(cs:List D)(c:List Nat)(j:Nat)(W:Win (zh fit p a) fit P j cs c)(u:P.length<=100000) :
  mn [.lst cs,.tup (P.map .str),.str (mkS c),.tup p.ds,.bl a]=aa (.val (yJ (zh fit p a) P.length (j+1))):=by
 obtain⟨w,g,m,r,rfl⟩:=sw (tg:=zN 7) (f:=p3) (λk l=>∃m r,l=[aa (.bor cs),aa (.val (.tup (P.map .str))),~~~[c],aa (.bt p.ds),aa (.val (.bl a)),aa (.val (yJ (zh fit p a) P.length j)),aa (.own ((ak (k+1)).map λi=>oD (zh fit p a i (j+1)))),m,r])
  ((ak P.length).map λ(k:Nat)=>D.int (1+(k:Int))) 0 _ (λk d l e s=>by
   obtain⟨m,r,rfl⟩:=s;rw[aV];rw[av]at e;have v:k<P.length:=by
    cases q:(ak P.length)[k]? with
    |none=>rw[q]at e;cases e
    |some z=>have:=(aQ.mp q).1;simpa using this
   rw[a6 v]at e;cases e;exact⟨_,_,rfl,.inl (Ua P p a fit cs c j k W _ v u),_,_,rfl⟩) ⟨ab,ab,rfl⟩
 have x:ww 1:=vg (by decide);have t:ww ((P.length:Int)+1):=vg (by lia);have y:((P.length:Int)+1-1).toNat=P.length:=by lia
 have M:P.length<=100000:=u;have C:=W.c1;have G:zO ((ak (P.length+1)).map λi=>oD (zh fit p a i j)) 0=aa (oD (zh fit p a 0 j)):=by
  rw[sF _ _ (by lia) (by simp)];rfl
 simp only[ar,eH,aV]at g;simp only[iA (n:=0),Cy,iz,ay,ij,sW]at g
 suffices hF:∃l,lP [aa (.bor cs),aa (.val (.tup (P.map .str))),~~~[c],aa (.bt p.ds),aa (.val (.bl a)),ab,ab,ab,ab]=aa (.rt (.val (yJ (zh fit p a) P.length (j+1))) l)from
  hF.elim λ_ h=>(congrArg (λo=>ez o _) h).trans rfl
 have H:=mK (E:=za 0) (F:=zo yp (eC (.int 1))) (δ:=[aa (.bor cs),aa (.val (.tup (P.map .str))),~~~[c],aa (.bt p.ds),aa (.val (.bl a)),ab,ab,ab,ab]) rfl rfl C;have I:=d9 (A:=za 4) (B:=eC (.int 0)) (δ:=[aa (.bor cs),aa (.val (.tup (P.map .str))),~~~[c],aa (.bt p.ds),aa (.val (.bl a)),aa (.val (yJ (zh fit p a) P.length j)),ab,ab,ab]) rfl rfl ((v6 (uC (E:=za 5) (F:=eC (.int 0)) rfl rfl G) (Y:=zc vz (za 3) (eC (.int 0))) (b:=.int p.put) rfl).trans (r6 _ _));have J:oD (if a=true then aa 0 else zY (zh fit p a 0 j) p.put)=(if a=true then D.int 0 else oD (zY (zh fit p a 0 j) p.put)):=by cases a <;> rfl
 rw[J]at g;have K:=ca I;generalize (if a=true then D.int 0 else oD (zY (zh fit p a 0 j) p.put))=v0 at *;have L:tF (zb (eC (.int 1)) (zb (zc zt (zm yC (zb (za 1) zd)) (eC (.int 1))) zd)) [aa (.bor cs),aa (.val (.tup (P.map .str))),~~~[c],aa (.bt p.ds),aa (.val (.bl a)),aa (.val (yJ (zh fit p a) P.length j)),aa (.own [v0]),ab,ab]=aa ((ak P.length).map λ(k:Nat)=>D.int (1+(k:Int))):=by
  simp only[tF,zb,eC,zc,zm,za,zG,zF,zd,zl,zk,yC,yc,ar,zt,z8,zr,t,js,Int.reduceNeg,Int.reduceLT,and_self,uL,y,zT]
 exact⟨_,(show lP _=_ from y8 H).trans ((yf (tp K)).trans ((v7 L g).trans rfl))⟩
theorem c4{T:List Nat}{k:Nat}(h:k<T.length):T[k]? =aa (T.getD k 0):=by
 rw[aD h,ee,aD h];rfl
open CE in
theorem Jq(P:List Str)(T:List Nat)(c:Nat->Nat->Option Int)(k:Nat)(b:k<T.length)(d:T.length<=100000):Win c (zz P T) P k ((ak (k+1)).map λj=>yJ c P.length j) (T.take (k+1)):=by
 have a:(T.take (k+1)).length=k+1:=by rw[eN];lia
 refine⟨by lia,rW _ _,⟨T.getD k 0,?_,λi _=>rfl⟩,?_⟩
 ·refine nB ?_;rw[Ca,a,oq (by lia),show k+1-1=k by lia];exact c4 b
 ·by_cases h:k=0
  ·exact .inl ⟨by lia,h⟩
  ·obtain⟨n,rfl⟩:∃n,k=n+1:=⟨k-1,by lia⟩;refine .inr ⟨by lia,by lia,NO _ n,T.getD n 0,?_,λi _=>rfl⟩;refine dr (by lia) ?_;rw[a,oq (by lia),show n+1+1-2=n by lia];exact c4 (by lia)
open CE in
theorem Wc(c:Nat->Nat->Option Int)(m n i:Nat)(hi:i<=m)(hn:n<=100000):mz [.lst ((ak (n+1)).map λj=>yJ c m j),.int (i:Int)]=aa (.val (wZ c n i)):=by
 have b:yB [1] (iB 0) yR ke [aa (.bor ((ak (n+1)).map λj=>yJ c m j)),~~~(i:Int)]=aa (.own ((ak (n+1)).map λj=>oD (c i j))):=by
  refine w6 (ds:=(ak (n+1)).map λj=>yJ c m j) rfl ?_ (by simp;lia);refine qD _ _ (by simp) (λd _=>rfl) λk d a=>?_;rw[av]at a;obtain⟨j,e,f⟩:=iR.mp a;subst f;have g:zO ((ak (m+1)).map λi=>oD (c i j)) (i:Int)=aa (oD (c i j)):=by
   rw[sF _ _ (by lia) (by lia)];rfl
  refine⟨oD (c i j),?_,by rw[av,e];rfl⟩;simp only[ke,zc,za,yw,yJ,wY,zG,zF,mL,zk,vN,wR,zV,yc,zr,g,zl,zL]
 have h:n<=100000:=hn;simp (disch:=omega) only[mz,zw,yH,yU,zl,zk,fR,zn,zm,zb,aB,xU,zd,yd,b,wO,zS,yh,wZ]
open CE in
theorem kH(P:List Str)(T:List Nat)(p:Pr)(a:Bool)(g:P.length<=100000)(o:T.length<=100000) :
  rD [.tup (P.map .str),.str (mkS T),.tup p.ds,.bl a]=aa (.val (.tup ((ak (P.length+1)).map λi=>wZ (zh (zz P T) p a) T.length i))):=by
 obtain⟨v,h,c,rfl⟩:=sw (tg:=zN 5) (f:=lH) (λk r=>∃c,r=[aa (.val (.tup (P.map .str))),~~~[T],aa (.bt p.ds),aa (.val (.bl a)),aa (.own ((ak (k+1)).map λj=>yJ (zh (zz P T) p a) P.length j)),c])
  ((ak T.length).map λ(k:Nat)=>D.int (1+(k:Int))) 0 _ (λk d r b l=>by
   obtain⟨c,rfl⟩:=l;rw[aV];rw[av]at b;have s:k<T.length:=by
    cases q:(ak T.length)[k]? with
    |none=>rw[q]at b;cases b
    |some z=>have:=(aQ.mp q).1;simpa using this
   rw[a6 s]at b;cases b;have w:=cQ P p a (zz P T) ((ak (k+1)).map λj=>yJ (zh (zz P T) p a) P.length j) (T.take (k+1)) k (Jq P T _ k s o) g;have L:((ak (k+1)).map λj=>yJ (zh (zz P T) p a) P.length j).length<1000000:=by simp;lia
   have e:(ak (k+1+1)).map (λj=>yJ (zh (zz P T) p a) P.length j)=(ak (k+1)).map (λj=>yJ (zh (zz P T) p a) P.length j)++[yJ (zh (zz P T) p a) P.length (k+1)]:=by
    rw[iA (n:=k+1),eI];rfl
   have x:zH T ab (aa (1+(k:Int)))=T.take (k+1):=by rw[dR _ (by lia),show(1+(k:Int)).toNat=k+1 by lia]
   have y:T.length<=1000000:=by lia
   refine⟨_,_,rfl,.inl ?_,~~~(1+(k:Int)),rfl⟩;rw[e];simp (disch:=omega) only[lH,xO,yK,yx,zG,zF,zi,zb,za,yo,wS,zQ,zk,zr,zl,yS,zP,yj,yI,wG,x,zT,zd,yq,yL,zS,zL,vM,w]) ⟨ab,rfl⟩
 have A:ww 1:=vg (by decide);have B:ww ((T.length:Int)+1):=vg (by lia);have C:ww ((P.length:Int)+1):=vg (by lia);have E:((T.length:Int)+1-1).toNat=T.length:=by lia
 have m:((P.length:Int)+1).toNat=P.length+1:=by lia
 have G:=cE P p a (zz P T) g;have y:T.length<=1000000:=by lia
 have H:P.length<=100000:=g;simp only[ar,eH,aV]at h;simp only[iA (n:=0),Cy,iz,ay,ij]at h;have t:yB [4] (yT (zb (zc zt (zm yC (zb (za 0) zd)) (eC (.int 1))) zd)) yR lG [aa (.val (.tup (P.map .str))),~~~[T],aa (.bt p.ds),aa (.val (.bl a)),aa (.own ((ak (T.length+1)).map λj=>yJ (zh (zz P T) p a) P.length j)),c] =
   aa (.own ((ak (P.length+1)).map λi=>wZ (zh (zz P T) p a) T.length i)):=by
  refine w6 (ds:=(ak (P.length+1)).map λ(i:Nat)=>D.int (0+(i:Int))) ?_ ?_ (by simp;lia)
  ·simp (disch:=omega) only[yT,zb,zc,zm,za,zF,zd,zl,zk,yC,yc,ar,eC,zt,z8,zr,uL,m,zT]
  ·refine qD _ _ (by simp) (λd _=>rfl) λk d b=>?_;rw[av]at b;obtain⟨i,u,I⟩:=iR.mp b;subst I;have J:i<=P.length:=by
    have:=eD.mp (iy u);lia
   have K:=Wc (zh (zz P T) p a) P.length T.length i J o;refine⟨wZ (zh (zz P T) p a) T.length i,?_,by rw[av,u];rfl⟩;rw[show(0+(i:Int))=(i:Int) by lia];simp only[lG,zi,zb,za,yw,wY,zG,zF,mL,zk,vN,wR,zd,zl,yq,yL,zS,zL,K]
 simp only[zt]at t;simp (disch:=omega) only[rD,zw,yH,yU,zl,zk,gP,zf,zq,z7,zb,zi,za,aB,zd,yd,zt,xA,xB,zF,zG,yq,yL,zL,vM,G,xV,xb,Nat.reduceLeDiff,yn,yi,yK,yx,ym,ye,tF,eC,zc,zm,ya,zP,yj,yI,zT,z8,zr,uL,js,E,h,zn];simp (disch:=omega) only[t,zk,wO,zS,zl,yh]
section
open CE
def pu:List Nat:=(ak 26).map λi=>97+i
theorem dk:("abcdefghijklmnopqrstuvwxyz" : Str)=mkS pu:=by decide +kernel
theorem Vt:("." : Str)=mkS [46]:=rfl
theorem QJ:("[" : Str)=mkS [91]:=rfl
theorem Ww:("[]" : Str)=mkS [91,93]:=rfl
theorem ZI:("" : Str)=mkS []:=rfl
theorem SY:∀k,k<26->BH (mkS [97+k]) (mkS [91,93])=mkS [97+k]/\uf (mkS [97+k]) (mkS pu)=true:=by decide +kernel
theorem XF{n:Nat}(h1:c δ=aa true)(a:f δ=aa (.nx δ')):vc c f (n+1) δ=vc c f n δ':=by
 simp only[vc,h1,a,a5,if_true];rfl
theorem XE{n:Nat}(h1:c δ=aa false):vc c f (n+1) δ=aa (.nx δ):=by
 simp only[vc,h1,a5,if_false,ei]
variable {c:Nat}(hc:97<=c/\c<=122)
include hc
theorem Zt:BH (mkS [c]) (mkS [91,93])=mkS [c]/\uf (mkS [c]) (mkS pu)=true:=by
 obtain⟨k,rfl⟩:∃k,c=97+k:=⟨c-97,by lia⟩;exact SY k (by lia)
theorem mX(h:[c]≠l):¬ (mkS [c]=mkS l):=λq=>h (Zz q)
theorem Yr:pe [.str (mkS [c])]= ~~~[[c]]:=by
 have a:=mX hc (l:=pu) (by intro q;have:=congrArg oV q;simp[pu]at this);have d:[c].length<=1000000:=by simp
 have b:(((0+1:Nat):Int)=1)=True:=eq_true rfl;simp (disch:=omega) only[pe,zw,yH,yU,zl,zk,fV,zf,zI,zg,zc,za,aB,xU,eC,dk,yr,zn,yd,zM,zF,rZ,a,xu,zR,yZ,y0,ym,zm,zb,zd,ya,zP,yj,xV,xb,yI,zT,vo,b,xn,wN,yi,yh]
theorem U6:mo [.str (mkS [c])]=aa (.val (.bl true)):=by
 have b:=mX hc (l:=[]) (by simp);have d:=(Zt hc).2;have e:yB [] (iS (za 0)) yR p4 [~~~[[c]]]=aa (.own [.bl true]):=by
  refine w6 (ds:=[D.str (mkS [c])]) rfl ?_ (by simp);have:p4 [~~~[[c]]]=aa (.val (.bl true)):=by simp only[p4,zc,za,zF,eC,dk,v9,zP,zk,zl,d]
  simp only[yV,yR,yw,ij,this];rfl
 have f:qw [.bl true]=aa [true]:=rfl;have j:[c].length<=1000000:=by simp
 have g:wx (xr 8) [D.str (mkS [c])] [D.str (mkS [c])]=aa true:=by simp[wx,xr,wo,vi]
 have h:(mkS [c]).cps.size=1:=rfl;have a:(vG (mkS [c])).map D.str=[D.str (mkS [c])]:=by rw[Yq];rfl
 have i:yY ((mkS [c]).cps.size=1) (aa (Ent.own [D.str (mkS [c])]))=aa _:=sq h;simp (disch:=omega) only[mo,zw,yH,yU,zl,zk,gX,zf,zI,zU,zg,zc,za,aB,xU,eC,ZI,yr,yD,zm,zb,zd,zn,yd,zM,zF,rZ,b,xu,zR,e,kY,zS,f,Ac,List.all_nil,Eb,vW,yZ,y0,ym,kZ,zP,yj,xV,xb,yI,a,zT,zo,ja,i,nS,pK,yc,g,yh]
theorem NG:my [.str (mkS [c])]= ~~~[[c]]:=by
 have a:=U6 hc;have b:=Yr hc;have d:=mX hc (l:=[46]) (by simp;lia);have e:=(Zt hc).1;have f:(mkS [c]).length<=1000000:=by rw[yj];simp
 simp (disch:=omega) only[my,zw,yH,yU,zl,zk,fP,zf,zq,t6,zg,zc,za,aB,eC,Vt,yr,wM,zb,Ww,zd,qR,zP,yd,xA,xB,zF,rZ,d,xu,zR,yI,e,zT,yZ,y0,yK,yx,ym,zI,zU,yD,zi,zG,yq,yL,zL,a,vW,b,wy,xn,zM,wN,yh]
omit hc
theorem NF(d t:List Nat)(hc:97<=c/\c<=122)(f:Option Ent)(g:(d++c::t).length<=900) :
  qk [~~~[(d++c::t)],aa (.own (d.map λc=>.str (mkS [c]))),~~~(d.length:Int),f]=aa (.nx [~~~[(d++c::t)],aa (.own ((d++[c]).map λc=>.str (mkS [c]))),~~~((d++[c]).length:Int),~~~((d++[c]).length:Int)]):=by
 have b:zO (mkS (d++c::t)).cps.toList (d.length:Int)=aa c:=by rw[wG];exact qu (by simp)
 have e:=mX hc (l:=[91]) (by simp;lia);have h:(mkS (d++c::t)).length<=1000000:=by rw[yj];lia
 have i:mh [.str (mkS (d++c::t)),.int (d.length:Int)]= ~~~((d.length:Int)+1):=by simp (disch:=omega) only[mh,zw,yH,yU,zl,zk,gQ,zf,zI,zg,zc,za,aB,wI,zP,zr,eC,QJ,wy,zn,zt,z8,yd,zM,xA,xB,zF,zG,yI,b,zT,rZ,e,xu,ss,zR,yi,ym,yh]
 have a:zH (d++c::t) (aa (d.length:Int)) (aa ((d.length:Int)+1))=[c]:=by
  unfold zH;rw[show(d.length:Int)+1=((d.length+1:Nat):Int)from rfl,HT.sIx_nat,HT.sIx_nat,i7 (by simp),i7 (by simp)];simp
 have j:=NG hc;rw[show((d++[c]).length:Int)=(d.length:Int)+1 by simp,eI];have k:(d.map λc=>D.str (mkS [c])).length<1000:=by simp at g ⊢;lia
 generalize m:d.map (λc=>D.str (mkS [c]))=n at *;simp (disch:=omega) only[qk,zf,zq,zi,zb,za,zF,zG,zd,zl,zk,yq,yL,zL,i,yK,yx,yd,ym,xO,yo,zQ,zr,yS,zP,yI,wG,a,zT,j,wY,wR]
theorem Ye:∀(t d:List Nat) (n:Nat) (b:Option Ent),(∀c∈t,97<=c/\c<=122)->(d++t).length<=900->t.length<n->∃g,
  vc ql qk n [~~~[(d++t)],aa (.own (d.map λc=>.str (mkS [c]))),~~~(d.length:Int),b] =
   aa (.nx [~~~[(d++t)],aa (.own ((d++t).map λc=>.str (mkS [c]))),~~~((d++t).length:Int),g])
 |[],d,n+1,b,_,f,_=>by
  rw[ek]at f ⊢;refine⟨b,XE ((show ql _=_ from jG (a:=(d.length:Int)) rfl (wJ rfl (yj d) (by lia))).trans ?_)⟩;rw[decide_eq_false (by lia)]
 |c::t,d,n+1,b,hc,f,h=>by
  obtain⟨g,e⟩:=Ye t (d++[c]) n (~~~((d++[c]).length:Int)) (λx i=>hc x (aq _ i)) (by simp at f ⊢;lia) (by simpa using h);rw[eG,List.singleton_append]at e;refine⟨g,o6 (XF ((show ql _=_ from jG (a:=(d.length:Int)) rfl (wJ rfl (yj _) (by lia))).trans ?_) (NF d t (hc c aw) b f)) e⟩;rw[decide_eq_true (by simp;lia)]
theorem QV(w:List Nat)(m:w.length<=40)(h:∀c∈w,97<=c/\c<=122):∃z,pf [.tup ((wP w).map .str)]=aa (.val (.str z))/\pb [.str z]=aa (.val (.tup ((wP w).map .str))):=by
 have e:(wP w).map D.str=w.map λc=>.str (mkS [c]):=by unfold wP;rw[e7];rfl
 refine⟨mkS w,?_,?_⟩
 ·have g:yB [] (iT (za 0)) yR kg [aa (.val (.tup ((wP w).map .str)))]=aa (.own ((wP w).map .str)):=by
   refine w6 (ds:=(wP w).map .str) rfl (qD _ _ rfl (λd _=>rfl) λi d b=>?_) (by rw[ar,u4];lia);refine⟨d,?_,b⟩;rw[e]at b;obtain⟨c,hc,rfl⟩:=a8.mp (iy b);exact(congrArg (ez · zL) (show kg [~~~[[c]]]=_ from Yr (h c hc))).trans rfl
  have k:=YE (wP w);have l:((wP w).map λx=>x.length).sum+(wP w).length*(mkS []).length<=1000000:=by
   have:((wP w).map λx=>x.length).sum=w.length:=by
    unfold wP;clear h k g e m
    induction w with
    |nil=>rfl
    |cons c w n=>rw[ay,ay,oN,n,yj];simp;lia
   rw[this,yj];simp;lia
  have s:(wP w).length<=1000000:=by rw[u4];lia
  have j:Cq (mkS []) (wP w)=mkS w:=bA w;generalize (wP w).map D.str=o at *;simp (disch:=omega) only[pf,zw,yH,yU,zl,zk,fW,zn,wM,eC,ZI,zb,aB,xU,zd,sf,zP,zS,yd,g,k,yI,j,zT,yh]
 ·obtain⟨t,q⟩:=Ye w [] 1000 ab h (by simpa using (by lia : w.length<=900)) (by lia);rw[iz]at q;rw[e];have p:("str" == "str")=true:=rfl;have r:vc ql qk 1000 [~~~[w],aa (.own []),~~~0,ab]=_:=q;have f:¬ ((w.length:Int) > 40):=by lia
  have u:w.length<=1000000:=by lia
  have a:(w.map λc=>D.str (mkS [c])).length=w.length:=ar _;generalize w.map (λc=>D.str (mkS [c]))=o at *;simp (disch:=omega) only[pb,zw,yH,yU,zl,zk,fQ,zf,zI,yD,zg,zo,za,aB,zM,yF,xA,xB,zF,va,tK,yZ,rK,sK,p,Dh,y0,zR,vW,ym,zq,z7,zd,xb,Nat.reduceLeDiff,yn,yi,yK,yx,yd,eC,r,zc,zm,zb,zG,yC,yc,zS,a,z8,zr,f,xu,zn,wO,yh]
end
theorem Wj:("abcdefghijklmnopqrstuvwxyz" : Str).cps.toList=(ak 26).map λi=>97+i:=by decide +kernel
theorem Va(n m:Int)(sc i:Option Ent):pV [sc,i,~~~n,~~~m]=aa (.nx [sc,i,~~~((n*613+m)%2147483629),~~~m]):=by
 simp (disch:=omega) only[pV,zq,zc,za,zG,zF,eC,yX,pI,zr,zk,tZ,uh,zT,zt,z8,zl,yN,uo,yK,yx,yd]
theorem dG:∀(a:List Int) (n:Int) (sc i k:Option Ent),∃b c,loop (zN 3) pV (a.map D.int) [sc,i,~~~n,k]=aa (.nx [sc,i,~~~b,c])
 |[],n,_,_,k=>⟨n,k,rfl⟩
 |m::a,n,sc,i,k=>by
  obtain⟨b,c,h⟩:=dG a ((n*613+m)%2147483629) sc i (~~~m);exact⟨b,c,(wK rfl (Va n m sc i)).trans h⟩
theorem kG(ns:List Int)(i:Int)(f:0<=i)(h1:i<1000):∃c,uT [.lst (ns.map .int),.int i]= ~~~c:=by
 by_cases d:i<ns.length
 ·have g:zO (ns.map D.int) i=aa (.int (ns.getD i.toNat 0)):=tY f (by rw[av,aD (by lia)];simp[show i.toNat<ns.length by lia]);refine⟨ns.getD i.toNat 0,?_⟩;simp (disch:=omega) only[uT,zw,yH,yU,zl,zk,lC,zf,zI,zg,zc,za,aB,zm,zb,zd,xt,z8,zr,zn,yG,zS,yd,zM,zt,yX,yN,xA,xB,zG,zF,yC,yc,ar,d,xn,zR,g,yi,ym,yh]
 ·obtain⟨b,j,e⟩:=dG (ns.take 63) (104729+7919*i*i) (aa (.bor (ns.map .int))) (~~~i) ab;have a:zH (ns.map D.int) ab (aa 63)=(ns.take 63).map D.int:=by rw[dR _ (by decide),List.map_take];rfl
  have k:u9 i:=qv (by lia);have h:u9 ((b*48271+16807*i)%2147483647):=qv (by lia);refine⟨(b*48271+16807*i)%2147483647*((b*48271+16807*i)%2147483647)%2147483629,?_⟩;simp (disch:=omega) only[uT,zw,yH,yU,zl,zk,lC,zf,zI,zg,zc,za,aB,zm,zb,zd,xt,z8,zr,zn,yG,zS,yd,zM,zt,yX,yN,xA,xB,zG,zF,yC,yc,ar,d,xu,zR,yZ,y0,ym,zq,eC,pI,tZ,uh,zT,yK,yx,ye,iL,yo,wS,zQ,k9,a,e,uo,yh]
theorem Vp(b a:Int)(c m k:Option Ent)(d:List D)(e:0<b)(h1:b<1073741824)(f:d.length<1000000) :
  qf [c,~~~b,m,aa (.own d),~~~a,k]=aa (.nx [c,~~~b,m,aa (.own (d++[.int (a%b)])),~~~(a / b),k]):=by
 simp (disch:=omega) only[qf,zf,xO,zG,zF,zc,za,yN,pI,zr,zk,uo,zT,zL,yI,yK,yx,xX,ym,zq,nJ,yd,zl]
theorem Vq(b a e:Int)(c m:Option Ent)(g:List D)(h:0<b)(i:-1000000<e/\e<1000000)(j:g.length<1000000) :
  ∃f d,sN [c,~~~b,m,aa (.own g),~~~a,~~~e]=aa (.nx [c,~~~b,m,aa (.own (g++[.int d])),~~~f,~~~e])/\0<=d/\d<b:=by
 refine⟨(a*69621+16807*e*e+7)%2147483629,((a*69621+16807*e*e+7)%2147483629)*((a*69621+16807*e*e+7)%2147483629)%2147483647 / 3%b,?_,i6 _ (by lia),iZ _ h⟩;simp (disch:=omega) only[sN,zf,zq,zc,za,zG,zF,eC,yX,pI,zr,zk,tZ,uh,zT,zt,z8,zl,yN,uo,yK,yx,yd,xX,ym,xO,nJ,zL,yI]
theorem d4(b:Int)(c m:Option Ent)(j:0<b)(h1:b<1073741824):∀(ks:List Int) (i:List Int) (a:Int) (k:Option Ent),i.length+ks.length<=1000000->(∀d∈i,0<=d/\d<b) ->
  ∃(g:List Int) (f:Int) (l:Option Ent),loop (zN 5) qf (ks.map D.int) [c,~~~b,m,aa (.own (i.map .int)),~~~a,k]=aa (.nx [c,~~~b,m,aa (.own (g.map .int)),~~~f,l]) /\
   g.length=i.length+ks.length/\∀d∈g,0<=d/\d<b
 |[],i,a,k,_,n=>⟨i,a,k,rfl,rfl,n⟩
 |o::ks,i,a,k,p,n=>by
  simp only[aI]at p;obtain⟨g,f,l,e,q,r⟩:=d4 b c m j h1 ks (i++[a%b]) (a / b) (~~~o) (by simp;lia) (λd h=>by
   rcases ed.mp h with h|h
   ·exact n d h
   ·cases aL.mp h;exact⟨i6 _ (by lia),iZ _ j⟩)
  refine⟨g,f,l,?_,by rw[q];simp;lia,r⟩;rw[eI]at e;exact(wK rfl (Vp b a c m _ (i.map .int) j h1 (by rw[ar];lia))).trans e
theorem d5(b:Int)(c m:Option Ent)(o:0<b):∀(ks:List Int) (i:List Int) (a:Int) (k:Option Ent),i.length+ks.length<=1000000->(∀d∈i,0<=d/\d<b)->(∀j∈ks,-1000000<j/\j<1000000) ->
  ∃(g:List Int) (f:Int) (l:Option Ent),loop (zN 5) sN (ks.map D.int) [c,~~~b,m,aa (.own (i.map .int)),~~~a,k]=aa (.nx [c,~~~b,m,aa (.own (g.map .int)),~~~f,l]) /\
   g.length=i.length+ks.length/\∀d∈g,0<=d/\d<b
 |[],i,a,k,_,n,_=>⟨i,a,k,rfl,rfl,n⟩
 |j::ks,i,a,k,q,n,p=>by
  simp only[aI]at q;obtain⟨r,d,t,s,u⟩:=Vq b a j c m (i.map .int) o (p j aw) (by rw[ar];lia);obtain⟨g,f,l,e,v,w⟩:=d5 b c m o ks (i++[d]) r (~~~j) (by simp;lia) (λy h=>by
   rcases ed.mp h with h|h
   ·exact n y h
   ·cases aL.mp h;exact⟨s,u⟩) λx z=>p x (aq _ z)
  refine⟨g,f,l,?_,by rw[v];simp;lia,w⟩;rw[eI]at e;exact(wK rfl t).trans e
theorem Vr(c b m:Int)(v:0<b)(h1:b<1073741824)(R:0<=m)(S:m<=1000) :
  ∃o:List Int,qT [.int c,.int b,.int m]=aa (.own (o.map .int))/\o.length=m.toNat/\∀d∈o,0<=d/\d<b:=by
 have E:(ak m.toNat).map (λ(i:Nat)=>D.int (0+(i:Int)))=((ak m.toNat).map λ(i:Nat)=>(0+(i:Int))).map D.int:=by rw[e7];rfl
 have f:((ak m.toNat).map λ(i:Nat)=>(0+(i:Int))).length=m.toNat:=by simp
 have p:∀q∈(ak m.toNat).map (λ(i:Nat)=>(0+(i:Int))),-1000000<q/\q<1000000:=λq h=>by
  obtain⟨i,G,rfl⟩:=a8.mp h;have:=eD.mp G;lia
 obtain⟨a,w,r,x,g,s⟩:=d4 b (~~~c) (~~~m) v h1 ((ak m.toNat).map λ(i:Nat)=>(0+(i:Int))) [] c ab (by rw[f];simp;lia) (by simp);rw[f]at g;simp only[Af,aV]at g;simp only[ij]at x;have H:ww m:=vg ⟨by lia,by lia⟩;have s1:zq 3 (z7 zd) [~~~c,~~~b,~~~m,ab,ab,ab]=aa (.nx [~~~c,~~~b,~~~m,aa (.own []),ab,ab]):=rfl;have I:zq 4 (za 0) [~~~c,~~~b,~~~m,aa (.own []),ab,ab]=aa (.nx [~~~c,~~~b,~~~m,aa (.own []),~~~c,ab]):=rfl;have it:∀y A B:Option Ent,yT (zb (za 2) zd) [~~~c,~~~b,~~~m,y,A,B]=aa (((ak m.toNat).map λ(i:Nat)=>(0+(i:Int))).map D.int):=λy A B=>by
  rw[<- E];exact sq H
 have J:ye (yT (zb (za 2) zd)) (zN 5) qf [~~~c,~~~b,~~~m,aa (.own []),~~~c,ab]=aa (.nx [~~~c,~~~b,~~~m,aa (.own (a.map .int)),~~~w,r]):=by
  unfold ye;rw[it];exact x
 have K:qT [.int c,.int b,.int m]=(lD [~~~c,~~~b,~~~m,ab,ab,ab]).bind yh:=rfl;rw[K];unfold lD;rw[yf s1,yf I,yf J];by_cases n:0<m
 ·have j:a≠[]:=by rintro rfl;simp at g;lia
  obtain⟨C,z,L⟩:∃C z,a=C++[z]:=⟨a.dropLast,a.getLast j,(List.dropLast_concat_getLast j).symm⟩;have e:zO (a.map D.int) (-1)=aa (.int z):=nB (by rw[L];simp);by_cases t:w=0
  ·by_cases k:z=0
   ·obtain⟨l,M,N,O,u,P⟩:=d5 b (~~~c) (~~~m) v ((ak m.toNat).map λ(i:Nat)=>(0+(i:Int))) [] ((c*48271+104729*m)%2147483647) r (by rw[f];simp;lia) (by simp) p;rw[f]at u;simp only[Af,aV]at u;refine⟨l,?_,u,P⟩;have Q:ye (yT (zb (za 2) zd)) (zN 5) sN [~~~c,~~~b,~~~m,aa (.own []),~~~((c*48271+104729*m)%2147483647),r]=aa (.nx [~~~c,~~~b,~~~m,aa (.own (l.map .int)),~~~M,N]):=by
     unfold ye;rw[it];exact O
    generalize ye (yT (zb (za 2) zd)) (zN 5) sN=T at *;simp (disch:=omega) only[zf,zI,w8,zg,zc,za,t,zG,zF,eC,yF,z8,zr,zk,zl,n,xn,zR,yr,vo,zo,yp,Int.reduceNeg,yG,zS,e,k,yi,zq,yX,pI,tZ,uh,zT,zt,yN,uo,yK,yx,yd,ym,z7,zd,xb,Nat.reduceLeDiff,yn,Q,zM,wN,yh]
   ·refine⟨a,?_,g,s⟩;simp (disch:=omega) only[zf,zI,w8,zg,zc,za,t,zG,zF,eC,yF,z8,zr,zk,zl,n,xn,zR,yr,vo,zo,yp,Int.reduceNeg,yG,zS,e,k,xu,yi,zq,yX,pI,tZ,uh,zT,zt,yN,uo,yK,yx,yd,ym,z7,zd,xb,Nat.reduceLeDiff,yn,ye,yT,zb,uL,zM,yZ,y0,wN,yh]
  ·refine⟨a,?_,g,s⟩;simp (disch:=omega) only[zf,zI,w8,zg,zc,za,zG,zF,eC,yF,z8,zr,zk,zl,n,xn,zR,yr,vo,t,xu,zo,yp,Int.reduceNeg,yG,zS,yZ,y0,yi,zq,yX,pI,tZ,uh,zT,zt,yN,uo,yK,yx,yd,ym,z7,zd,xb,Nat.reduceLeDiff,yn,ye,yT,zb,uL,zM,wN,yh]
 ·refine⟨a,?_,g,s⟩;simp (disch:=omega) only[zf,zI,w8,zg,zc,za,zG,zF,eC,yF,z8,zr,zk,zl,n,xu,zR,yr,vo,zo,yp,Int.reduceNeg,yG,zS,Tr,yZ,y0,zq,yX,pI,tZ,uh,zT,zt,yN,uo,yK,yx,yd,ym,z7,zd,xb,Nat.reduceLeDiff,yn,yi,ye,yT,zb,uL,zM,wN,yh]
theorem PY{A:Str}(a:A.cps.toList=(ak 26).map λi=>97+i)(c:Int)(k:Int):∃w:Nat,sO [~~~k,aa (.val (.str A)),~~~c]= ~~~[[w]]/\97<=w/\w<=122:=by
 have b:zO A.cps.toList ((c / 4+k)%26)=aa (97+((c / 4+k)%26).toNat):=by
  refine tY (i6 _ (by decide)) ?_;rw[a,av,a6 (by lia)];simp
 have d:A.length<=1000000:=by
  have:=congrArg oV a;simp at this;unfold Bx;lia
 refine⟨97+((c / 4+k)%26).toNat,?_,by lia,by lia⟩;simp (disch:=omega) only[sO,zc,za,zG,zF,eC,xX,pI,zr,zk,nJ,zT,zt,z8,zl,yN,uo,wI,zP,yI,b]
theorem VJ(c:Int):∃n:Nat,zO [D.int 26,D.int 2,D.int 3,D.int 4] (c%4)=aa (.int n)/\2<=n/\n<=26:=by
 have a:=i6 c (show(4:Int)≠0 by decide);have b:=iZ c (show(0:Int)<4 by decide);have:c%4=0\/c%4=1\/c%4=2\/c%4=3:=by lia
 rcases this with h|h|h|h <;> rw[h]
 ·exact⟨26,rfl,by decide,by decide⟩
 ·exact⟨2,rfl,by decide,by decide⟩
 ·exact⟨3,rfl,by decide,by decide⟩
 ·exact⟨4,rfl,by decide,by decide⟩
theorem PZ(c:Int):∃a:List Nat,md [.int c]=aa (.own (a.map λw=>.str (mkS [w])))/\2<=a.length/\a.length<=26/\∀w∈a,97<=w/\w<=122:=by
 obtain⟨n,m,B,o⟩:=VJ c;have j:ww (n:Int):=vg (by lia);obtain⟨A,l⟩:∃A:Str,A = "abcdefghijklmnopqrstuvwxyz" :=⟨_,rfl⟩;have p:A.cps.toList=(ak 26).map λi=>97+i:=by rw[l];exact Wj
 have q:∀b:List Int,∃a:List Nat,yV (λd=>yR (yw [1,0] [~~~c,aa (.val (.str A)),~~~n] d)) (λd=>sO (yw [1,0] [~~~c,aa (.val (.str A)),~~~n] d)) (b.map D.int)=aa (a.map λw=>.str (mkS [w]))/\a.length=b.length/\∀w∈a,97<=w/\w<=122:=by
  intro b
  induction b with
  |nil=>exact⟨[],rfl,rfl,by simp⟩
  |cons k b r=>
   obtain⟨a,e,f,g⟩:=r;obtain⟨w,s,t,u⟩:=PY p c k;refine⟨w::a,?_,by simp[f],λx h=>?_⟩
   ·rw[ay,yV];have:sO (yw [1,0] [~~~c,aa (.val (.str A)),~~~n] (.int k))= ~~~[[w]]:=s;rw[this,e];rfl
   ·rcases aC.mp h with rfl|h
    ·exact⟨t,u⟩
    ·exact g x h
 obtain⟨a,e,f,g⟩:=q ((ak n).map λ(i:Nat)=>(0+(i:Int)));rw[ar,eH]at f;refine⟨a,?_,by lia,by lia,g⟩;have v:(ak (n:Int).toNat).map (λ(i:Nat)=>D.int (0+(i:Int)))=((ak n).map λ(i:Nat)=>(0+(i:Int))).map D.int:=by rw[e7];rfl
 have y:a.length<=1000000:=by lia
 have z:yB [1,0] (yT (zb (za 2) zd)) yR sO [~~~c,aa (.val (.str A)),~~~n]=aa (.own (a.map λw=>.str (mkS [w]))):=
  w6 (by simp (disch:=omega) only[yT,zb,za,zG,zF,zd,zl,zk,zr,uL,v,zT]) e (by rw[ar];exact y)
 simp (disch:=omega) only[md,zw,yH,yU,zl,zk,gM,zf,zq,eC,<- l,aB,yd,yN,ym,zc,z7,zb,zd,xV,xb,Nat.reduceLeDiff,yn,zL,yi,za,pI,zr,uo,zT,yG,zS,xA,xB,yK,yx,zF,m,zn,z,yh]
theorem Xb(ws:List Nat)(c m:Int)(B:0<ws.length)(p:ws.length<=26)(r:0<=m)(s:m<=1000) :
  ∃w:List Nat,sj [.lst (ws.map λw=>.str (mkS [w])),.int c,.int m]= ~~~[w]/\w.length=m.toNat/\∀x∈w,x∈ws:=by
 obtain⟨a,q,n,f⟩:=Vr c ws.length m (by lia) (by lia) r s;have t:∀a:List Int,(∀d∈a,0<=d/\d<(ws.length:Int))->∃w:List Nat,yV (λd=>yR (yw [0] [aa (.bor (ws.map λw=>.str (mkS [w]))),~~~c,~~~m] d)) (λd=>qg (yw [0] [aa (.bor (ws.map λw=>.str (mkS [w]))),~~~c,~~~m] d)) (a.map D.int)=aa (w.map λw=>.str (mkS [w]))/\w.length=a.length/\∀x∈w,x∈ws:=by
  intro a
  induction a with
  |nil=>intro _;exact⟨[],rfl,rfl,by simp⟩
  |cons k C j=>
   intro f;obtain⟨w,g,b,i⟩:=j λd h=>f d (aq _ h);obtain⟨u,E⟩:=f k aw;have e:zO (ws.map λw=>D.str (mkS [w])) k=aa (.str (mkS [ws[k.toNat]'(by lia)])):=tY u (by rw[av,aD (by lia)];rfl);have l:qg (yw [0] [aa (.bor (ws.map λw=>.str (mkS [w]))),~~~c,~~~m] (.int k))= ~~~[[ws[k.toNat]'(by lia)]]:=by
    simp (disch:=omega) only[qg,zc,za,yw,wY,zF,mL,zk,vN,wR,zG,yG,zS,zr,e,zl]
   refine⟨ws[k.toNat]'(by lia)::w,?_,by simp[b],λx e=>?_⟩
   ·rw[ay,yV,l,g];rfl
   ·rcases aC.mp e with rfl|e
    ·exact DP _
    ·exact i x e
 obtain⟨w,g,b,i⟩:=t a f;refine⟨w,?_,by rw[b,n],i⟩;have o:((w.map λc=>mkS [c]).map λx=>x.length).sum+w.length*(mkS []).length<=1000000:=by
  have:((w.map λc=>mkS [c]).map λx=>x.length).sum=w.length:=by
   clear g b i
   induction w with
   |nil=>rfl
   |cons c w j=>rw[ay,ay,oN,j,yj];simp;lia
  rw[this,yj,b,n];simp;lia
 have y:w.length<=1000000:=by lia
 have z:tQ (w.map λc=>D.str (mkS [c]))=aa (w.map λc=>mkS [c]):=by
  have:=YE (w.map λc=>mkS [c]);rwa [e7]at this
 have A:yB [0] (iL (zi [.v,.v,.v] qT (zb (za 1) (zb (zm yC (zb (za 0) zd)) (zb (za 2) zd))))) yR qg [aa (.bor (ws.map λw=>.str (mkS [w]))),~~~c,~~~m]=aa (.own (w.map λw=>.str (mkS [w]))):=
  w6 (by simp (disch:=omega) only[iL,zi,zb,za,zG,zF,zm,zd,zl,zk,yC,yc,zS,ar,yq,yL,zL,q]) g (by rw[ar];exact y)
 have l:(("" : Str))=mkS []:=rfl;simp (disch:=omega) only[sj,zw,yH,yU,zl,zk,gN,zn,wM,eC,l,zb,aB,xU,zd,sf,zP,zS,yd,A,z,ar,yI,bA,zT,yh]
noncomputable def zj(p:Int×Int):D:=.tup [.int p.1,.int p.2]
noncomputable def xW(acc:List (Int×Int))(p:Int×Int):List (Int×Int):=match acc.getLast? with
 |some l=>if p.1<=l.2 then acc.dropLast++[(l.1,if p.2 > l.2 then p.2 else l.2)]else acc++[p]
 |none=>acc++[p]
def wA(ps:List (Int×Int)):List (Int×Int):=ps.foldl xW []
theorem MG{a:Type}{xs:List a}{x y:a}(h:xs.getLast? =aa x):xs.set (xs.length-1) y=xs.dropLast++[y]:=by
 obtain⟨b,rfl⟩:=Cc.mp h;rw[C0,aJ,iY,oI,CT _ _ (aj _),ou];rfl
theorem Th{n:Nat}(h:0<n):vC n (-1)=aa (n-1):=by
 unfold vC;rw[if_neg (by decide),if_pos (by lia),show(-1+(n:Int)).toNat=n-1 by lia]
theorem bD(acc:List (Int×Int))(p:Int×Int):(xW acc p).length<=acc.length+1:=by
 unfold xW;split
 ·split
  ·rw[aJ,List.length_dropLast,iY];lia
  ·rw[aJ,iY];exact aj _
 ·rw[aJ,iY];exact aj _
theorem Mm{i:Nat}{δ:En}{ds:List D}{d:D}{k:Int}{j:Nat}(a:δ[i]? =aa (aa (.own ds)))(h1:fe δ=aa (.val d))(b:fi δ= ~~~k)(c:vC ds.length k=aa j):rf i fi fe δ=aa (.nx (δ.set i (aa (.own (ds.set j d))))):=by
 unfold rf;rw[a];show((fe δ).bind zL).bind _=_;rw[h1,b];simp only[a5,zL,zr,c,i8]
theorem dm{a b:Bool}(c:X δ=aa a)(d:a=true->Y δ=aa b):w8 X Y δ=aa (a&&b):=by
 cases a with
 |false=>unfold w8;rw[c];rfl
 |true=>unfold w8;rw[c];exact d rfl
theorem qa(c:A δ=aa (.val a))(d:B δ=aa (.val b)):yQ (zb A (zb B zd)) δ=aa (.val (.tup [a,b])):=by
 unfold yQ zb zd;rw[c];simp only[a5];rw[d];rfl
theorem mV{a b:Int}(c:A δ= ~~~a)(d:B δ= ~~~b):zm tu (zb A (zb B zd)) δ= ~~~(if b > a then b else a):=by
 unfold zm zb zd;rw[c];simp only[a5];rw[d];rfl
theorem SQ{a b:Int}(h1:E δ= ~~~a)(c:F δ= ~~~b):zg (zc uw E F) δ=aa (decide (a<=b)):=by by_cases e:a<=b <;> simp only[zg,zc,h1,c,uw,z8,zr,zk,zl,e,xn,zR,xu]
theorem Ud{a b:Int}(h1:E δ= ~~~a)(c:F δ= ~~~b):zg (zc nU E F) δ=aa (decide (a ≥ b)):=by by_cases e:a ≥ b <;> simp only[zg,zc,h1,c,nU,z8,zr,zk,zl,e,xn,zR,xu]
theorem Ts{C:FT}{V:FE}{s:Option Ent}{acc:List (Int×Int)}{p:Int×Int}(h:acc.length<100000)
  (a:C [s,aa (.own (acc.map zj)),~~~p.1,~~~p.2]=aa (match acc.getLast? with|some l=>decide (p.1<=l.2)|none=>false))
  (f:∀l,acc.getLast? =aa l->V [s,aa (.own (acc.map zj)),~~~p.1,~~~p.2]=aa (.val (zj (l.1,if p.2 > l.2 then p.2 else l.2)))) :
  (zI C (rf 1 (zo yp (eC (.int 1))) V) (xO 1 (yQ (zb (za 2) (zb (za 3) zd))))) [s,aa (.own (acc.map zj)),~~~p.1,~~~p.2] =
  aa (.nx [s,aa (.own ((xW acc p).map zj)),~~~p.1,~~~p.2]):=by
 have d:(xO 1 (yQ (zb (za 2) (zb (za 3) zd)))) [s,aa (.own (acc.map zj)),~~~p.1,~~~p.2]=aa (.nx [s,aa (.own ((acc++[p]).map zj)),~~~p.1,~~~p.2]):=by
  rw[eI];exact t7 rfl (qa rfl rfl) (by rw[ar];lia)
 cases q:acc.getLast? with
 |none=>
  rw[q]at a;rw[xm a,d];unfold xW;rw[q]
 |some l=>
  rw[q]at a;have b:0<acc.length:=by cases acc with
   |nil=>cases q
   |cons _ _=>simp
  by_cases c:p.1<=l.2
  ·rw[show(match aa l with|some l=>decide (p.1<=l.2)|none=>false)=true from decide_eq_true c]at a;rw[vU a];refine(Mm (k:=-1) rfl (f l q) rfl (Th (by rw[ar];exact b))).trans ?_;have e:xW acc p=acc.dropLast++[(l.1,if p.2 > l.2 then p.2 else l.2)]:=by unfold xW;rw[q];exact if_pos c
   have g:(acc.map zj).getLast? =aa (zj l):=by rw[Dz,q];rfl
   rw[MG g,e,eI,List.map_dropLast];rfl
  ·rw[show(match aa l with|some l=>decide (p.1<=l.2)|none=>false)=false from decide_eq_false c]at a;rw[xm a,d];have e:xW acc p=acc++[p]:=by unfold xW;rw[q];exact if_neg c
   rw[e]
theorem SK{acc:List (Int×Int)}(h:acc.getLast? =aa l):zO (acc.map zj) (-1)=aa (zj l):=nB (by rw[Dz,h];rfl)
theorem jB{a:Option Ent}{acc:List (Int×Int)}(h:acc.getLast? =aa l):zc yG (za 1) (zo yp (eC (.int 1))) [s,aa (.own (acc.map zj)),a,b]=aa (.val (zj l)):=jp rfl rfl (SK h)
theorem Tq(s:Option Ent)(acc:List (Int×Int))(p:Int×Int)(e:acc.length<100000) :
  gY [s,aa (.own (acc.map zj)),~~~p.1,~~~p.2]=aa (.nx [s,aa (.own ((xW acc p).map zj)),~~~p.1,~~~p.2]):=by
 refine Ts e ?_ λl h=>qa (uC (jB h) rfl rfl) (mV (uC (jB h) rfl rfl) rfl);have c:zm yC (zb (za 1) zd) [s,aa (.own (acc.map zj)),~~~p.1,~~~p.2]= ~~~(acc.length:Int):=by simp only[zm,zb,za,zG,zF,zd,zl,zk,yC,yc,zS,ar]
 have d:zg (zc yF (zm yC (zb (za 1) zd)) (eC (.int 0))) [s,aa (.own (acc.map zj)),~~~p.1,~~~p.2]=aa (decide (acc.length > 0)):=by
  generalize zm yC (zb (za 1) zd)=f at c ⊢;by_cases h:acc.length > 0
  ·simp only[zg,zc,c,eC,yF,z8,zr,zk,zl,show(acc.length:Int) > 0 by lia,xn,zR,h]
  ·simp only[zg,zc,c,eC,yF,z8,zr,zk,zl,show ¬(acc.length:Int) > 0 by lia,xu,zR,h]
 cases q:acc.getLast? with
 |none=>
  have:acc=[]:=Cb.mp q;subst this;exact dm (b:=false) d λh=>by simp at h
 |some l=>
  have a:acc.length > 0:=by cases acc with
   |nil=>cases q
   |cons _ _=>simp
  rw[decide_eq_true a]at d;exact dm (b:=decide (p.1<=l.2)) d λ_=>SQ rfl (uC (jB q) rfl rfl)
theorem bx(g:∀(s:Option Ent) (acc:List (Int×Int)) (p:Int×Int),acc.length<100000->f [s,aa (.own (acc.map zj)),~~~p.1,~~~p.2]=aa (.nx [s,aa (.own ((xW acc p).map zj)),~~~p.1,~~~p.2])) :
 ∀(ps:List (Int×Int)) (s:Option Ent) (acc:List (Int×Int)) (a b:Option Ent),acc.length+ps.length<100000->∃c d,loop (wW (yO (zN 2) (yO (zN 3) wQ))) f (ps.map zj) [s,aa (.own (acc.map zj)),a,b]=aa (.nx [s,aa (.own ((ps.foldl xW acc).map zj)),c,d])
  |[],s,acc,a,b,_=>⟨a,b,rfl⟩
  |p::ps,s,acc,a,b,h=>by
    rw[aI]at h;have:=bD acc p;obtain⟨c,d,e⟩:=bx g ps s (xW acc p) (~~~p.1) (~~~p.2) (by lia);exact⟨c,d,(wK rfl (g s acc p (by lia))).trans e⟩
theorem bw:∀(ps acc:List (Int×Int)),(ps.foldl xW acc).length<=acc.length+ps.length
 |[],acc=>aj _
 |p::ps,acc=>by
  have a:=bw ps (xW acc p);have b:=bD acc p;rw[oo,aI];lia
noncomputable def um(p:Int×Int):xf:=[p.1,p.2]
def ZK(r:xf):Int×Int:=(r.getD 0 0,r.getD 1 0)
def y9(ps:List (Int×Int)):List (Int×Int):=(sI (ps.map um)).map ZK
theorem Yl(ps:List (Int×Int)):rY (ps.map zj)=aa (ps.map um):=by
 induction ps with
 |nil=>rfl
 |cons p ps a=>rw[ay,rY,a];rfl
theorem M7(ps:List (Int×Int)):(sI (ps.map um)).map yg=(y9 ps).map zj:=by
 unfold y9;rw[e7];refine eV λr a=>?_;obtain⟨p,_,rfl⟩:=a8.mp ((pL _).mem_iff.mp a);rfl
theorem hW(ps:List (Int×Int)):(y9 ps).Perm ps:=by
 have h:=(pL (ps.map um)).map ZK;rw[e7]at h;exact h.trans (.of_eq ((eV λp _=>rfl).trans (CI ps)))
theorem La{ps:List (Int×Int)}(c:ps.length<=1000000)(h:E δ=aa (.bor (ps.map zj))):iL (zm qQ (zb E zd)) δ=aa ((y9 ps).map zj):=by
 have e:zm qQ (zb E zd) δ=aa (.own ((y9 ps).map zj)):=by
  have a:∀r∈ps.map um,r≠[]:=λr a=>by
   obtain⟨p,_,rfl⟩:=a8.mp a;exact List.cons_ne_nil _ _
  have b:(ps.map um).length<=1000000:=by rw[ar];exact c
  unfold zm zb zd;rw[h];simp only[a5,qQ,zS,Yl,M7,i8];rw[eq_true (And.intro a b),zT]
 unfold iL;rw[e];rfl
theorem bB(ps:List (Int×Int))(d:ps.length<=90000):mr [.lst (ps.map zj)]=aa (.val (.tup ((wA (y9 ps)).map zj))):=by
 have f:=(hW ps).length_eq;obtain⟨a,b,e⟩:=bx Tq (y9 ps) (aa (.bor (ps.map zj))) [] ab ab (by simp;lia);have g:(wA (y9 ps)).length<=90000:=by have:=bw (y9 ps) [];simp at this;exact aH this (by lia)
 have c:lR [aa (.bor (ps.map zj)),ab,ab,ab]=aa (.rt (.val (.tup ((wA (y9 ps)).map zj))) [aa (.bor (ps.map zj)),aa (.own ((wA (y9 ps)).map zj)),a,b]):=by
  refine(show lR _=_ from yf (tp (show z7 zd _=aa (.own [])from rfl))).trans ((v7 (La (by lia) rfl) e).trans (xQ ?_))
  have h:((wA (y9 ps)).map zj).length<=1000000:=by rw[ar];lia
  show zm wO (zb (za 1) zd) [aa (.bor (ps.map zj)),aa (.own ((wA (y9 ps)).map zj)),a,b]=_;simp only[zm,zb,za,zG,zF,zd,zl,zk,wO,zS]
 exact(congrArg (λo=>ez o _) c).trans rfl
theorem ZB{a b:Int}(h1:E δ= ~~~a)(c:F δ= ~~~b)(d:u9 a):zc yX E F δ= ~~~(a*b):=by simp only[zc,h1,c,yX,pI,zr,zk,d,rM,zT]
theorem Zx{a b:Int}(c:A δ= ~~~a)(d:B δ= ~~~b):zm vA (zb A (zb B zd)) δ= ~~~(if b<a then b else a):=by
 unfold zm zb zd;rw[c];simp only[a5];rw[d];rfl
theorem hR(t:List Nat)(a b:Int)(c:t.length<=1000000)(d:E δ= ~~~[t])(e:A δ= ~~~a)(f:B δ= ~~~b):yo yS E (zQ A) (zQ B) δ= ~~~[(zH t (aa a) (aa b))]:=by
 simp only[yo,d,zQ,e,zk,zr,zl,f,yS,zP,yj,c,yI,wG,zT]
theorem VC(h1:E δ= ~~~[a])(c:F δ= ~~~[b]):zg (zc yr E F) δ=aa (decide (a=b)):=by
 by_cases e:a=b
 ·have d:mkS a=mkS b:=by rw[e]
  simp only[zg,zc,h1,e,c,yr,zk,rZ,xn,zl,zR]
 ·have d:¬ mkS a=mkS b:=λq=>e (Zz q);simp only[zg,zc,h1,c,yr,zk,rZ,d,xu,zl,zR,e]
theorem NN{n:Nat}(h:E δ= ~~~(n:Int))(hn:n<1000000000):yT (zb E zd) δ=aa ((ak n).map λ(i:Nat)=>D.int (0+(i:Int))):=by
 have a:ww (n:Int):=vg (by lia);have b:((n:Int)).toNat=n:=by lia
 simp only[yT,zb,h,zd,zl,zk,zr,a,b,zT]
def pB(n:Nat)(m:Int)(i:Nat):Int:=(0+(i:Int))*(n:Int) / (m+1)
noncomputable def pE(n:Nat)(m:Int)(i:Nat):Int:=(0+(i:Int)+1)*(n:Int) / (m+1)
theorem m6(n:Nat){m:Int}{i:Nat}(h:(i:Int)<=m):0<=pB n m i/\pB n m i<=pE n m i/\pE n m i<=n:=by
 unfold pB pE;have a:0<m+1:=by lia
 refine⟨Int.ediv_nonneg (Int.mul_nonneg (by lia) (by lia)) (by lia),Int.ediv_le_ediv a (Ae (by lia) (by lia)),?_⟩;refine Int.ediv_le_of_le_mul a ?_;rw[Int.mul_comm (n:Int)];exact Ae (by lia) (by lia)
theorem Vo(w:List Nat){b e:Int}(a:0<=b)(h1:b<=e)(c:e<=w.length):((zH w (aa b) (aa e)).length:Int)=e-b:=by
 obtain⟨b,rfl⟩:=eu a;obtain⟨e,rfl⟩:=eu (Bp a h1);unfold zH;rw[HT.sIx_nat,HT.sIx_nat,eN,iN];lia
def r8(w t:List Nat)(b e:Int)(a:Nat):Bool:=decide (zH t (aa (0+(a:Int))) (aa (0+(a:Int)+(e-b)))=zH w (aa b) (aa e))
noncomputable def u3(n:Nat)(m:Int)(l:Nat)(b:Int)(a:Nat):Int×Int:=(if 0 > 0+(a:Int)-b-m then 0 else 0+(a:Int)-b-m,if (l:Int)<0+(a:Int)+n-b+m then (l:Int)else 0+(a:Int)+n-b+m)
def uF(w t:List Nat)(b e:Int):List Nat:=(ak ((t.length:Int)-(e-b)+1).toNat).filter (r8 w t b e)
theorem Z2(w t:List Nat){b e:Int}(h:b<=e):(uF w t b e).length<=t.length+1:=by
 unfold uF;refine aH (Ap _ _) ?_;rw[eH];lia
def xR(w t:List Nat)(m:Int)(k:Nat):List (Int×Int):=(ak k).flatMap λi=>(uF w t (pB w.length m i) (pE w.length m i)).map (u3 w.length m t.length (pB w.length m i))
theorem cL(w t:List Nat)(m:Int)(k:Nat):xR w t m (k+1)=xR w t m k++(uF w t (pB w.length m k) (pE w.length m k)).map (u3 w.length m t.length (pB w.length m k)):=by
 unfold xR;rw[iA,AG];simp
theorem kU(w t:List Nat)(m:Int)(a:t.length<=900):∀k:Nat,(k:Int)<=m+1->(xR w t m k).length<=k*901
 |0,_=>aj _
 |k+1,h=>by
  rw[cL,aJ,ar];have c:=kU w t m a k (by lia);have d:=Z2 w t (b:=pB w.length m k) (e:=pE w.length m k) (m6 w.length (by lia)).2.1;lia
theorem PR(w t:List Nat)(b e:Int)(q:0<=b)(h1:b<=e)(h:e<=w.length)(r:w.length<=1000)(C:t.length<=900):pa [.str (mkS (zH w (aa b) (aa e))),.str (mkS t)]=aa (.own ((uF w t b e).map λ(a:Nat)=>D.int (0+(a:Int)))):=by
 have l:=Vo w q h1 h;have j:(zH w (aa b) (aa e)).length<=1000:=aH (uO _ _ _) r;have c:∀a:Nat,r8 w t b e a=decide (zH t (aa (0+(a:Int))) (aa (0+(a:Int)+((zH w (aa b) (aa e)).length:Int)))=zH w (aa b) (aa e)):=λa=>by rw[l];rfl
 have s:(uF w t b e)=(ak ((t.length:Int)-((zH w (aa b) (aa e)).length:Int)+1).toNat).filter (r8 w t b e):=by rw[l];rfl
 rw[s];generalize r8 w t b e=P at c ⊢;generalize zH w (aa b) (aa e)=p at c j ⊢;have u:∀(g:List Nat) (f:En),f[0]? =aa (~~~[p])->f[1]? =aa (~~~[t])->yV (λd=>nh (yw [0,1] f d)) (λd=>kc (yw [0,1] f d)) (g.map λ(i:Nat)=>D.int (0+(i:Int)))=aa ((g.filter P).map λ(a:Nat)=>D.int (0+(a:Int))):=by
  intro g f h1 h
  induction g with
  |nil=>rfl
  |cons a g v=>
   have k:yw [0,1] f (D.int (0+(a:Int)))=[~~~(0+(a:Int)),~~~[p],~~~[t]]:=by
    simp only[yw,ay,ij,h1,h,Bh,a5,vN]
   have x:nh [~~~(0+(a:Int)),~~~[p],~~~[t]]=aa (P a):=by
    rw[c];exact VC (hR t _ _ (by lia) rfl rfl (wu rfl (wJ rfl (yj p) (by lia)))) rfl
   rw[ay,yV,v,k,x];simp only[a5];cases m:P a with
   |true=>rw[if_pos rfl,Ct m];rfl
   |false=>rw[if_neg (by simp),Cs (by rw[m];simp)]
 have n:zc zt (zc yt (zm ya (zb (za 1) zd)) (zm ya (zb (za 0) zd))) (eC (.int 1)) [~~~[p],~~~[t]]= ~~~((t.length:Int)-(p.length:Int)+1):=wu (wl (wJ rfl (yj t) (by lia)) (wJ rfl (yj p) (by lia))) rfl;have y:yT (zb (zc zt (zc yt (zm ya (zb (za 1) zd)) (zm ya (zb (za 0) zd))) (eC (.int 1))) zd) [~~~[p],~~~[t]]=aa ((ak ((t.length:Int)-(p.length:Int)+1).toNat).map λ(i:Nat)=>D.int (0+(i:Int))):=by
  have z:ww ((t.length:Int)-(p.length:Int)+1):=vg (by lia);generalize zc zt (zc yt (zm ya (zb (za 1) zd)) (zm ya (zb (za 0) zd))) (eC (.int 1))=E at n ⊢;simp only[yT,zb,n,zd,zl,zk,zr,z,zT]
 have A:=w6 (fr:=[0,1]) (ft:=nh) (fe:=kc) y (u (ak ((t.length:Int)-(p.length:Int)+1).toNat) _ rfl rfl) (by
  rw[ar];refine aH (Ap _ _) ?_;rw[eH];lia)
 have B:fL [~~~[p],~~~[t]]=aa (.rt (.own (((ak ((t.length:Int)-(p.length:Int)+1).toNat).filter P).map λ(a:Nat)=>D.int (0+(a:Int)))) [~~~[p],~~~[t]]):=by
  show zn _ _=_;unfold zn;rw[A];rfl
 exact(congrArg (λo=>ez o _) B).trans rfl
theorem ZQ(w t:List Nat)(m b:Int)(d f:Option Ent)(i:w.length<=1000)(j:t.length<=900):∀(as:List Nat) (acc:List (Int×Int)) (c:Option Ent),acc.length+as.length<1000000->∃g,
  loop (zN 7) lT (as.map λ(a:Nat)=>D.int (0+(a:Int))) [~~~[w],~~~m,~~~[t],aa (.own (acc.map zj)),d,~~~b,f,c] =
  aa (.nx [~~~[w],~~~m,~~~[t],aa (.own ((acc++as.map (u3 w.length m t.length b)).map zj)),d,~~~b,f,g])
 |[],acc,c,_=>⟨c,by rw[ij,ij,ek];rfl⟩
 |a::as,acc,c,h=>by
  rw[aI]at h;obtain⟨g,e⟩:=ZQ w t m b d f i j as (acc++[u3 w.length m t.length b a]) (~~~(0+(a:Int))) (by rw[aJ,iY];lia);refine⟨g,(wK rfl (show lT _=_ from (t7 (ds:=acc.map zj) rfl (qa (mV (wl (wl rfl rfl) rfl) rfl) (Zx (wu (wl (wu rfl (wJ rfl (yj w) (by lia))) rfl) rfl) (wJ rfl (yj t) (by lia)))) (by rw[ar];lia)))).trans ?_⟩;rw[eG]at e;rw[show acc.map zj++[D.tup [.int (if 0 > 0+(a:Int)-b-m then 0 else 0+(a:Int)-b-m),.int (if (t.length:Int)<0+(a:Int)+w.length-b+m then (t.length:Int)else 0+(a:Int)+w.length-b+m)]]=(acc++[u3 w.length m t.length b a]).map zj by rw[eI];rfl];exact e
theorem QU(w t:List Nat)(m:Int)(k:Nat)(f c b:Option Ent)(A:0<=m/\m<=90)(j:(k:Int)<=m)(h:w.length<=1000)(d:t.length<=900):∃l n e,
  p7 [~~~[w],~~~m,~~~[t],aa (.own ((xR w t m k).map zj)),~~~(0+(k:Int)),f,c,b] =
  aa (.nx [~~~[w],~~~m,~~~[t],aa (.own ((xR w t m (k+1)).map zj)),~~~(0+(k:Int)),l,n,e]):=by
 obtain⟨p,i,q⟩:=m6 w.length j;have B:=kU w t m d k (by lia);have C:=Z2 w t i;have r:zc xX (zc yX (za 4) (zm ya (zb (za 0) zd))) (zc zt (za 1) (eC (.int 1))) [~~~[w],~~~m,~~~[t],aa (.own ((xR w t m k).map zj)),~~~(0+(k:Int)),f,c,b]= ~~~(pB w.length m k):=
  t5 (ZB rfl (wJ rfl (yj w) (by lia)) (qv (by lia))) (wu rfl rfl) (by lia)
 have s:zc xX (zc yX (zc zt (za 4) (eC (.int 1))) (zm ya (zb (za 0) zd))) (zc zt (za 1) (eC (.int 1))) [~~~[w],~~~m,~~~[t],aa (.own ((xR w t m k).map zj)),~~~(0+(k:Int)),~~~(pB w.length m k),c,b]= ~~~(pE w.length m k):=
  t5 (ZB (wu rfl rfl) (wJ rfl (yj w) (by lia)) (qv (by lia))) (wu rfl rfl) (by lia)
 obtain⟨e,u⟩:=ZQ w t m (pB w.length m k) (~~~(0+(k:Int))) (~~~(pE w.length m k)) h d (uF w t (pB w.length m k) (pE w.length m k)) (xR w t m k) b (by lia);have x:yo yS (za 0) (zQ (za 5)) (zQ (za 6)) [~~~[w],~~~m,~~~[t],aa (.own ((xR w t m k).map zj)),~~~(0+(k:Int)),~~~(pB w.length m k),~~~(pE w.length m k),b]= ~~~[(zH w (aa (pB w.length m k)) (aa (pE w.length m k)))]:=hR w _ _ (by lia) rfl rfl rfl;have y:=(v6 (g:=pa) (Y:=za 2) x rfl).trans (PR w t (pB w.length m k) (pE w.length m k) p i q h d)
 have z:iL (zi [.v,.v] pa (zb (yo yS (za 0) (zQ (za 5)) (zQ (za 6))) (zb (za 2) zd))) [~~~[w],~~~m,~~~[t],aa (.own ((xR w t m k).map zj)),~~~(0+(k:Int)),~~~(pB w.length m k),~~~(pE w.length m k),b]=aa ((uF w t (pB w.length m k) (pE w.length m k)).map λ(a:Nat)=>D.int (0+(a:Int))):=by
  unfold iL;rw[y];rfl
 refine⟨~~~(pB w.length m k),~~~(pE w.length m k),e,(show p7 _=_ from yf (rh r)).trans ((yf (rh s)).trans ?_)⟩;rw[cL];exact(show ye _ _ _ _=_ by unfold ye;exact(congrArg (λo=>ez o _) z).trans u)
theorem QS(w t:List Nat)(m:Int)(p:0<=m/\m<=90)(v:w.length<=1000)(q:t.length<=900):ms [.str (mkS w),.int m,.str (mkS t)]=aa (.val (.tup ((wA (y9 (xR w t m (m.toNat+1)))).map zj))):=by
 obtain⟨n,rfl⟩:=eu p.1;rw[show((n:Int)).toNat=n by lia];obtain⟨x,g,e,a,b,c,rfl⟩:=sw (tg:=zN 4) (f:=p7) (λk r=>∃e a b c,r=[~~~[w],~~~(n:Int),~~~[t],aa (.own ((xR w t n k).map zj)),e,a,b,c])
  ((ak (n+1)).map λ(i:Nat)=>D.int (0+(i:Int))) 0 [~~~[w],~~~(n:Int),~~~[t],aa (.own []),ab,ab,ab,ab] (λk d r j l=>by
   obtain⟨e,a,b,c,rfl⟩:=l;rw[aV];have y:k<n+1:=by have:=(aQ.mp j).1;simpa using this
   rw[av,a6 y]at j;cases j;obtain⟨z,A,B,h⟩:=QU w t n k a b c p (by lia) v q;exact⟨_,_,rfl,.inl h,_,z,A,B,rfl⟩) ⟨ab,ab,ab,ab,rfl⟩
 simp only[ar,eH,aV]at g;have E:=kU w t n q (n+1) (by lia);have s:=bB (xR w t n (n+1)) (by lia);generalize xR w t n (n+1)=u at g s ⊢;have C:lS [~~~[w],~~~(n:Int),~~~[t],ab,ab,ab,ab,ab]=aa (.rt (.val (.tup ((wA (y9 u)).map zj))) [~~~[w],~~~(n:Int),~~~[t],aa (.own (u.map zj)),e,a,b,c]):=by
  refine(show lS _=_ from yf (tp (show z7 zd _=aa (.own [])from rfl))).trans ((v7 (NN (n:=n+1) ((wu rfl rfl).trans (by rw[Int.natCast_add];rfl)) (by lia)) g).trans (xQ ?_))
  simp only[zi,zb,za,zG,zF,zd,zl,zk,yq,yL,zS,s]
 exact(congrArg (λo=>ez o _) C).trans rfl
noncomputable def yu:List Str->List Int->Str->Option Int
 |k::a,i::b,z=>if k=z then aa i else yu a b z
 | _,_,_=>ab
theorem mS(z:Str):∀(ks:List Str) (a:List Int),xo ks (a.map .int) z=(yu ks a z).map .int
 |[],a=>by cases a <;> rfl
 |k::ks,[]=>rfl
 |k::ks,i::a=>by
  rw[ay];simp only[xo,yu];by_cases e:k=z
  ·rw[if_pos e,if_pos e];rfl
  ·rw[if_neg e,if_neg e];exact mS z ks a
theorem Zl:∀{ks:List Str} {a:List Int},ks.length=a.length->z∈ks->∃i,yu ks a z=aa i
 |[],_,_,h=>by cases h
 |k::ks,[],b,_=>by cases b
 |k::ks,i::a,b,h=>by
  simp only[yu];by_cases e:k=z
  ·exact⟨i,if_pos e⟩
  ·rw[if_neg e];exact Zl (by simpa using b) ((aC.mp h).resolve_left λq=>e q.symm)
def xq(p:List Str×List Int)(z:Str):List Str×List Int:=(wp p.1 z,xG p.1 p.2 z ((yu p.1 p.2 z).getD 0+1))
theorem Nm(z:Str)(v:Int)(ks:List Str)(a:List Int):xG ks (a.map D.int) z (.int v)=(xG ks a z v).map .int:=by
 have b:∀(ks:List Str) (a:List Int),oH (λx y=>if x=z then D.int v else y) ks (a.map D.int)=(oH (λx y=>if x=z then v else y) ks a).map .int:=by
  intro ks
  induction ks with
  |nil=>intro a;rfl
  |cons k ks c=>
   intro a;cases a with
   |nil=>rfl
   |cons i a=>
    rw[ay,iF,iF,ay,c];by_cases e:k=z
    ·rw[if_pos e,if_pos e]
    ·rw[if_neg e,if_neg e]
 unfold xG;by_cases h:z∈ks
 ·rw[if_pos h,if_pos h];exact b ks a
 ·rw[if_neg h,if_neg h,eI];rfl
theorem Xj(p:List Str×List Int)(z:Str)(h:p.1.length=p.2.length):(xq p z).1.length=(xq p z).2.length/\(xq p z).1.length<=p.1.length+1:=pD h
def xF(t:List Nat)(a:Int):List Str:=(ak ((t.length:Int)-a+1).toNat).map λ(p:Nat)=>mkS (zH t (aa (0+(p:Int))) (aa (0+(p:Int)+a)))
def yP(t:List Nat)(a:Int):List Str×List Int:=(xF t a).foldl xq ([],[])
noncomputable def yW(p:List Str×List Int):D:=.dic p.1 (p.2.map .int)
theorem nO:∀(a:List Str) (p:List Str×List Int),p.1.length=p.2.length->(a.foldl xq p).1.length=(a.foldl xq p).2.length/\(a.foldl xq p).1.length<=p.1.length+a.length
 |[],p,h=>⟨h,aj _⟩
 |z::a,p,h=>by
  obtain⟨b,d⟩:=Xj p z h;obtain⟨c,e⟩:=nO a (xq p z) b;refine⟨c,?_⟩;rw[oo,aI];lia
theorem LM(t:List Nat)(a:Int):(yP t a).1.length=(yP t a).2.length:=(nO _ _ rfl).1
theorem Uf{δ:En}{i:Nat}{a FD:FE}{p:List Str×List Int}{z:Str}(b:tj i δ=aa (p.1,p.2.map .int))(c:a δ=aa (.val (.str z))):uP i (zb a (zb (eC (.int 0)) zd)) δ= ~~~((yu p.1 p.2 z).getD 0):=by
 unfold uP zb zd eC;rw[b,c];simp only[a5,i8,rm,zP,mS];cases yu p.1 p.2 z <;> rfl
theorem LK(t:List Nat)(a:Int)(p:List Str×List Int)(k:Nat)(b:Option Ent)(h:p.1.length<=900000)(d:t.length<=1000000) :
  nk [~~~[t],~~~a,aa (.obj (.dic p.1 (p.2.map .int))),~~~(0+(k:Int)),b] =
  aa (.nx [~~~[t],~~~a,aa (.obj (.dic (xq p (mkS (zH t (aa (0+(k:Int))) (aa (0+(k:Int)+a))))).1 ((xq p (mkS (zH t (aa (0+(k:Int))) (aa (0+(k:Int)+a))))).2.map .int))),~~~(0+(k:Int)),~~~[(zH t (aa (0+(k:Int))) (aa (0+(k:Int)+a)))]]):=by
 have c:yo yS (za 0) (zQ (za 3)) (zQ (zc zt (za 3) (za 1))) [~~~[t],~~~a,aa (.obj (.dic p.1 (p.2.map .int))),~~~(0+(k:Int)),b]= ~~~[(zH t (aa (0+(k:Int))) (aa (0+(k:Int)+a)))]:=by
  simp only[yo,za,zF,zQ,zG,zk,zr,zl,zc,zt,z8,yS,zP,yj,d,yI,wG,zT]
 generalize zH t (aa (0+(k:Int))) (aa (0+(k:Int)+a))=z at c ⊢;have e:zc zt (uP 2 (zb (za 4) (zb (eC (.int 0)) zd))) (eC (.int 1)) [~~~[t],~~~a,aa (.obj (.dic p.1 (p.2.map .int))),~~~(0+(k:Int)),~~~[z]]= ~~~((yu p.1 p.2 (mkS z)).getD 0+1):=wu (Uf (FD:=za 0) rfl rfl) rfl;refine(show nk _=_ from yf (rh c)).trans ?_;show t8 2 (za 4) _ [~~~[t],~~~a,aa (.obj (.dic p.1 (p.2.map .int))),~~~(0+(k:Int)),~~~[z]]=_;unfold t8;rw[e];have f:tj 2 [~~~[t],~~~a,aa (.obj (.dic p.1 (p.2.map .int))),~~~(0+(k:Int)),~~~[z]]=aa (p.1,p.2.map .int):=rfl;have g:sz (p.1.length+1)=True:=yI (by lia);simp only[zk,zL,za,zG,zF,zP,f,yK,yx,g,zT,Nm,xq]
theorem Xd(t:List Nat)(a:Int)(u:0<a/\a<1000)(v:t.length<=1000):rJ [.str (mkS t),.int a]=aa (.val (yW (yP t a))):=by
 have m:(xF t a).length=((t.length:Int)-a+1).toNat:=by unfold xF;simp
 obtain⟨r,g,c,b,rfl⟩:=sw (tg:=zN 3) (f:=nk) (λk n=>∃c b,n=[~~~[t],~~~a,aa (.obj (.dic (((xF t a).take k).foldl xq ([],[])).1 ((((xF t a).take k).foldl xq ([],[])).2.map .int))),c,b])
  ((ak ((t.length:Int)-a+1).toNat).map λ(i:Nat)=>D.int (0+(i:Int))) 0 [~~~[t],~~~a,aa (.obj (.dic [] [])),ab,ab] (λk d n j l=>by
   obtain⟨c,b,rfl⟩:=l;rw[aV];have p:k<((t.length:Int)-a+1).toNat:=by have:=(aQ.mp j).1;simpa using this
   rw[av,a6 p]at j;cases j;have e:=(nO ((xF t a).take k) ([],[]) rfl).2;rw[eN]at e;have s:(xF t a)[k]? =aa (mkS (zH t (aa (0+(k:Int))) (aa (0+(k:Int)+a)))):=by
    unfold xF;rw[av,a6 p];rfl
   have h:=LK t a (((xF t a).take k).foldl xq ([],[])) k b (by simp at e;lia) (by lia);refine⟨_,_,rfl,.inl h,~~~(0+(k:Int)),~~~[(zH t (aa (0+(k:Int))) (aa (0+(k:Int)+a)))],?_⟩;rw[List.take_add_one,s,Dx];rfl) ⟨ab,ab,rfl⟩
 simp only[ar,eH,aV]at g;rw[<- m,Bc]at g
 suffices hF:kh [~~~[t],~~~a,ab,ab,ab]=aa (.rt (.val (yW (yP t a))) [~~~[t],~~~a,aa (.val (yW (yP t a))),c,b])from (congrArg (λo=>ez o _) hF).trans rfl
 refine(show kh _=_ from yf (δ':=[~~~[t],~~~a,aa (.obj (.dic [] [])),ab,ab]) rfl).trans ((v7 (ds:=(ak ((t.length:Int)-a+1).toNat).map λ(i:Nat)=>D.int (0+(i:Int))) ?_ (by rw[<- m];exact g)).trans rfl)
 have q:zc zt (zc yt (zm ya (zb (za 0) zd)) (za 1)) (eC (.int 1)) [~~~[t],~~~a,aa (.obj (.dic [] [])),ab,ab]= ~~~((t.length:Int)-a+1):=wu (wl (wJ rfl (yj t) (by lia)) rfl) rfl;have e:ww ((t.length:Int)-a+1):=vg (by lia);generalize zc zt (zc yt (zm ya (zb (za 0) zd)) (za 1)) (eC (.int 1))=w at q ⊢;simp only[yT,zb,q,zd,zl,zk,zr,e,zT]
def sG(p q:List Str×List Int)(z:Str):Int:=if (yu q.1 q.2 z).getD 0<(yu p.1 p.2 z).getD 0 then (yu q.1 q.2 z).getD 0 else (yu p.1 p.2 z).getD 0
def uZ(p q:List Str×List Int):Int:=(p.1.map (sG p q)).sum
theorem MN(p q:List Str×List Int)(z:Str)(i:Int)(h:yu p.1 p.2 z=aa i):tT [aa (.val (.str z)),aa (.val (yW p)),aa (.val (yW q))]= ~~~(sG p q z):=by
 have a:zc qO (za 1) (za 0) [aa (.val (.str z)),aa (.val (yW p)),aa (.val (yW q))]= ~~~i:=by
  simp only[zc,za,yW,zG,zF,qO,t4,zP,zk,mS,h,zl]
 have b:wM se (za 2) (zb (za 0) (zb (eC (.int 0)) zd)) [aa (.val (.str z)),aa (.val (yW p)),aa (.val (yW q))]= ~~~((yu q.1 q.2 z).getD 0):=by
  simp only[wM,za,yW,zG,zF,zb,eC,zd,zl,zk,se,t4,rm,zP,mS];cases yu q.1 q.2 z <;> rfl
 unfold tT sG;rw[h];generalize zc qO (za 1) (za 0)=c at a ⊢;generalize wM se (za 2) (zb (za 0) (zb (eC (.int 0)) zd))=d at b ⊢;simp only[zm,zb,a,b,zd,zl,zk,vA,zr,Option.getD_some]
theorem MO{i j:Nat}{p:List Str×List Int}(e:p.1.length=p.2.length)(r:p.1.length<=1000)(hi:δ[i]? =aa (aa (.val (yW p))))(f:δ[j]? =aa (aa (.val (yW q))))(g:za i δ=aa (.val (yW p))) :
 zm rn (zb (yB [i,j] (iD (za i)) yR tT) zd) δ= ~~~(uZ p q):=by
  have k:∀a:List Str,(∀z∈a,z∈p.1)->yV (λd=>yR (yw [i,j] δ d)) (λd=>tT (yw [i,j] δ d)) (a.map D.str)=aa ((a.map (sG p q)).map D.int):=by
    intro a
    induction a with
    |nil=>intro _;rfl
    |cons z a l=>
      intro h;obtain⟨v,m⟩:=Zl e (h z aw);have b:yw [i,j] δ (D.str z)=[aa (.val (.str z)),aa (.val (yW p)),aa (.val (yW q))]:=by
        simp only[yw,ay,ij,hi,f,Bh,a5,vN]
      rw[ay,yV,l λy n=>h y (aq _ n),b,MN p q z v m];rfl
  have o:iD (za i) δ=aa (p.1.map D.str):=by
    unfold iD;rw[g];rfl
  have c:yB [i,j] (iD (za i)) yR tT δ=aa (.own ((p.1.map (sG p q)).map D.int)):=w6 o (k p.1 λ_ h=>h) (by simp;lia);generalize yB [i,j] (iD (za i)) yR tT=s at c ⊢;simp only[zm,zb,c,zd,zl,zk,rn,zS,jn,uZ]
theorem MM(p q:List Str×List Int)(a:p.1.length=p.2.length)(b:p.1.length<=1000):mw [yW p,yW q]= ~~~(uZ p q):=by
 have e:=MO (δ:=[aa (.val (yW p)),aa (.val (yW q))]) (i:=0) (j:=1) (q:=q) a b rfl rfl rfl;have c:fJ [aa (.val (yW p)),aa (.val (yW q))]=aa (.rt (.val (.int (uZ p q))) [aa (.val (yW p)),aa (.val (yW q))]):=xQ e;exact(congrArg (λo=>ez o _) c).trans rfl
theorem LL(t:List Nat)(a:Int)(h:0<a):(yP t a).1.length<=t.length:=by
 have:=(nO (xF t a) ([],[]) rfl).2;have b:(xF t a).length=((t.length:Int)-a+1).toNat:=by unfold xF;simp
 show((xF t a).foldl xq ([],[])).1.length<=_;simp at this;lia
noncomputable def wb(n:Nat)(m:Int)(e:Nat):Int:=if 0 > 0+(e:Int)-(n:Int)-m then 0 else 0+(e:Int)-(n:Int)-m
def uI(n:Nat)(m:Int)(e:Nat):Int×Int:=(wb n m e,0+(e:Int))
def xD(P:Nat->Bool)(n:Nat)(m:Int)(k:Nat):List (Int×Int):=((ak k).filter P).map (uI n m)
theorem V1(P:Nat->Bool)(n:Nat)(m:Int)(k:Nat):xD P n m (k+1)=if P k=true then xD P n m k++[uI n m k]else xD P n m k:=by
 unfold xD;rw[iA,List.filter_append];by_cases h:P k=true
 ·rw[if_pos h,Ct h,DZ,eI];rfl
 ·rw[if_neg h,Cs h,DZ,ek]
theorem cM(P:Nat->Bool)(n:Nat)(m:Int)(k:Nat):(xD P n m k).length<=k:=by
 unfold xD;rw[ar];exact aH (Ap _ _) (by simp)
theorem Jr(w t:List Nat)(m:Int)(u:w.length<=1000)(v:t.length<=900):jj [.str (mkS w),.int m,.str (mkS t)]=aa (.own ((ak (t.length+1)).map λe=>zj (uI w.length m e))):=by
 have g:∀(b:List Nat) (a:En),a[1]? =aa (~~~m)->a[0]? =aa (~~~[w])->yV (λd=>yR (yw [1,0] a d)) (λd=>nl (yw [1,0] a d)) (b.map λ(i:Nat)=>D.int (0+(i:Int)))=aa (b.map λe=>zj (uI w.length m e)):=by
  intro b a h j
  induction b with
  |nil=>rfl
  |cons e b k=>
   have c:yw [1,0] a (D.int (0+(e:Int)))=[~~~(0+(e:Int)),~~~m,~~~[w]]:=by
    simp only[yw,ay,ij,h,j,Bh,a5,vN]
   rw[ay,yV,k,c];have l:nl [~~~(0+(e:Int)),~~~m,~~~[w]]=aa (.val (zj (uI w.length m e))):=
    qa (mV (wl (wl rfl (wJ rfl (yj w) (by lia))) rfl) rfl) rfl
   rw[l];rfl
 have f:zc zt (zm ya (zb (za 2) zd)) (eC (.int 1)) [~~~[w],~~~m,~~~[t]]= ~~~((t.length:Int)+1):=wu (wJ rfl (yj t) (by lia)) rfl;have n:yT (zb (zc zt (zm ya (zb (za 2) zd)) (eC (.int 1))) zd) [~~~[w],~~~m,~~~[t]]=aa ((ak (t.length+1)).map λ(i:Nat)=>D.int (0+(i:Int))):=by
  have p:ww ((t.length:Int)+1):=vg (by lia);generalize zc zt (zm ya (zb (za 2) zd)) (eC (.int 1))=x at f ⊢;have q:((t.length:Int)+1).toNat=t.length+1:=by lia
  simp only[yT,zb,f,zd,zl,zk,zr,p,q,zT]
 have r:=w6 (fr:=[1,0]) (ft:=yR) (fe:=nl) n (g (ak (t.length+1)) _ rfl rfl) (by simp;lia);have s:f4 [~~~[w],~~~m,~~~[t]]=aa (.rt (.own ((ak (t.length+1)).map λe=>zj (uI w.length m e))) [~~~[w],~~~m,~~~[t]]):=by
  show zn _ _=_;unfold zn;rw[r];rfl
 exact(congrArg (λo=>ez o _) s).trans rfl
def v3(w t:List Nat)(m:Int)(e:Nat):List Nat:=zH t (aa (wb w.length m e)) (aa (0+(e:Int)))
def wH(w t:List Nat)(m a:Int)(e:Nat):Bool:=decide (uZ (yP w a) (yP (v3 w t m e) a) ≥ (w.length:Int)-a+1-m*a)
theorem MX(t:List Nat)(a b:Int)(c:t.length<=1000000)(d:E δ= ~~~[t])(e:A δ= ~~~a)(f:B δ= ~~~b):yo yS E (zQ A) (zQ B) δ= ~~~[(zH t (aa a) (aa b))]:=by
 simp only[yo,d,zQ,e,zk,zr,zl,f,yS,zP,yj,c,yI,wG,zT]
theorem Sw(w t:List Nat)(m a:Int)(k:Nat)(W M:Option Ent)(e:0<a/\a<1000)(o:w.length<=1000)(h:t.length<=900)(p:k<10000) :
  qj [W,M,~~~[t],~~~a,~~~((w.length:Int)-a+1-m*a),aa (.val (yW (yP w a))),aa (.own ((xD (wH w t m a) w.length m k).map zj)),~~~(wb w.length m k),~~~(0+(k:Int))] =
  aa (.nx [W,M,~~~[t],~~~a,~~~((w.length:Int)-a+1-m*a),aa (.val (yW (yP w a))),aa (.own ((xD (wH w t m a) w.length m (k+1)).map zj)),~~~(wb w.length m k),~~~(0+(k:Int))]):=by
 have q:=cM (wH w t m a) w.length m k;have f:(v3 w t m k).length<=900:=aH (uO _ _ _) h;have i:yo yS (za 2) (zQ (za 7)) (zQ (za 8)) [W,M,~~~[t],~~~a,~~~((w.length:Int)-a+1-m*a),aa (.val (yW (yP w a))),aa (.own ((xD (wH w t m a) w.length m k).map zj)),~~~(wb w.length m k),~~~(0+(k:Int))]= ~~~[(v3 w t m k)]:=MX t _ _ (by lia) rfl rfl rfl;have j:=(v6 (g:=rJ) i (Y:=za 3) rfl).trans (Xd (v3 w t m k) a e (by lia))
 have l:=LL w a e.1;have n:=(v6 (g:=mw) (X:=za 5) rfl j).trans (MM (yP w a) (yP (v3 w t m k) a) (LM _ _) (by lia))
 have c:=Ud (F:=za 4) n rfl;rw[V1];by_cases d:wH w t m a k=true
 ·rw[if_pos d,eI];have b:decide (uZ (yP w a) (yP (v3 w t m k) a) ≥ (w.length:Int)-a+1-m*a)=true:=d;rw[b]at c;exact(show qj _=_ from vU c).trans (t7 rfl (qa rfl rfl) (by rw[ar];lia))
 ·rw[if_neg d];have b:decide (uZ (yP w a) (yP (v3 w t m k) a) ≥ (w.length:Int)-a+1-m*a)=false:=Dv.mpr d;rw[b]at c;exact(show qj _=_ from xm c)
theorem bX(w t:List Nat)(m a:Int)(n:0<a/\a<1000)(E:0<=m/\m<=1000)(i:w.length<=1000)(p:t.length<=900):sn [.str (mkS w),.int m,.str (mkS t),.int a]=aa (.val (.tup ((wA (y9 (xD (wH w t m a) w.length m (t.length+1)))).map zj))):=by
 have x:u9 m:=qv (by lia);have y:zc yt (zc zt (zc yt (zm ya (zb (za 0) zd)) (za 3)) (eC (.int 1))) (zc yX (za 1) (za 3)) [~~~[w],~~~m,~~~[t],~~~a,ab,ab,ab,ab,ab]= ~~~((w.length:Int)-a+1-m*a):=
  wl (wu (wl (wJ rfl (yj w) (by lia)) rfl) rfl) (by simp only[zc,za,zG,zF,yX,pI,zr,zk,x,rM,zT])
 have z:=(v6 (g:=rJ) (X:=za 0) (Y:=za 3) (δ:=[~~~[w],~~~m,~~~[t],~~~a,~~~((w.length:Int)-a+1-m*a),ab,ab,ab,ab]) rfl rfl).trans (Xd w a n i)
 have q:((ak (t.length+1)).map λe=>zj (uI w.length m e)).length=t.length+1:=by simp
 obtain⟨A,b,c,h,rfl⟩:=sw (tg:=wW (yO (zN 7) (yO (zN 8) wQ))) (f:=qj) (λk r=>∃c h,r=[~~~[w],~~~m,~~~[t],~~~a,~~~((w.length:Int)-a+1-m*a),aa (.val (yW (yP w a))),aa (.own ((xD (wH w t m a) w.length m k).map zj)),c,h])
  ((ak (t.length+1)).map λe=>zj (uI w.length m e)) 0 [~~~[w],~~~m,~~~[t],~~~a,~~~((w.length:Int)-a+1-m*a),aa (.val (yW (yP w a))),aa (.own []),ab,ab] (λk d r j l=>by
   obtain⟨c,h,rfl⟩:=l;rw[aV];have B:k<t.length+1:=by have:=(aQ.mp j).1;simpa using this
   rw[av,a6 B]at j;cases j;exact⟨_,_,rfl,.inl (Sw w t m a k _ _ n i p (by lia)),_,_,rfl⟩) ⟨ab,ab,rfl⟩
 simp only[q,aV]at b;have s:=Jr w t m i p;have u:=bB (xD (wH w t m a) w.length m (t.length+1)) (aH (cM _ _ _ _) (by lia));generalize xD (wH w t m a) w.length m (t.length+1)=v at b u ⊢;generalize (ak (t.length+1)).map (λe=>zj (uI w.length m e))=G at b s q;have C:lU [~~~[w],~~~m,~~~[t],~~~a,ab,ab,ab,ab,ab]=aa (.rt (.val (.tup ((wA (y9 v)).map zj))) [~~~[w],~~~m,~~~[t],~~~a,~~~((w.length:Int)-a+1-m*a),aa (.val (yW (yP w a))),aa (.own (v.map zj)),c,h]):=by
  refine(show lU _=_ from y8 y).trans ((y8 z).trans ((yf (tp (show z7 zd _=aa (.own [])from rfl))).trans ((v7 ?_ b).trans (xQ ?_))))
  ·simp only[iL,zi,zb,za,zF,zG,zd,zl,zk,yq,yL,zL,s]
  ·simp only[zi,zb,za,zG,zF,zd,zl,zk,yq,yL,zS,u]
 exact(congrArg (λo=>ez o _) C).trans rfl
section
open CE
variable (P:List Str)(T:List Nat)(p:Pr)
noncomputable def xp(a:Int)(e:Nat)(b:List D):OT:=.ins "Sight" ["most","end","pairs"] [.val (.int a),.val (.int (e:Int)),.lst b]
noncomputable def xj(a:Int)(x:Option Int)(j:Nat):List D:=match x with
 |some x=>if x<=a then [.tup [.int (j:Int),.int x]]else []
 |none=>[]
theorem lb(a:Int)(x:Option Int)(j:Nat):(xj a x j).length<=1:=by
 unfold xj;split
 ·split <;> simp
 ·simp
theorem hQ(a:Int):rA (.ins "Sight" [] []) [.int a]=aa (.non,xp a 0 []):=by
 simp only[rA,xy,xV,xb,aV,gJ,zf,wV,za,wY,wR,aB,xU,zG,zF,zk,toO,y3,wX,xB,yx,ym,eC,xA,z7,zd,Nat.reduceLeDiff,yn,zl,yi,vR,xp]
 all_goals rfl
theorem qC(a:Int)(x:Option Int)(e:Nat)(b:List D)(d:b.length<100000):uz (xp a e b) [oD x]=aa (.non,xp a (e+1) (b++xj a x e)):=by
 have c:((e+1:Nat):Int)=(e:Int)+1:=rfl;unfold xp;rw[c];cases x with
 |none=>
  rw[show xj a ab e=[]from rfl,ek];simp (disch:=omega) only[uz,xy,jL,xV,xb,aV,pT,zf,zI,w8,zg,zc,za,wY,wR,aB,xU,zG,zF,eC,ua,xY,zk,vW,zR,xg,y3,wX,fE,uw,z8,zr,zl,jr,yZ,y0,qK,yQ,zb,zd,Nat.reduceAdd,Nat.reduceLeDiff,yn,zL,yi,yx,mR,yK,yI,zT,zM,zt,ym,vT,toO,Nat.reduceLT,vR]
 |some x=>
  by_cases h:x<=a
  ·rw[show xj a (aa x) e=[.tup [.int (e:Int),.int x]]from if_pos h];simp (disch:=omega) only[uz,xy,sB,xV,xb,aV,pT,zf,zI,w8,zg,zc,za,wY,wR,aB,xU,zG,zF,eC,ua,xY,zk,ss,zR,xg,y3,wX,fE,uw,z8,zr,zl,h,xn,yi,qK,yQ,zb,zd,Nat.reduceAdd,Nat.reduceLeDiff,yn,zL,yx,mR,yK,yI,zT,zM,zt,ym,vT,toO,Nat.reduceLT,vR]
  ·rw[show xj a (aa x) e=[]from if_neg h,ek];simp (disch:=omega) only[uz,xy,sB,xV,xb,aV,pT,zf,zI,w8,zg,zc,za,wY,wR,aB,xU,zG,zF,eC,ua,xY,zk,ss,zR,xg,y3,wX,fE,uw,z8,zr,zl,h,xu,yi,qK,yQ,zb,zd,Nat.reduceAdd,Nat.reduceLeDiff,yn,zL,yx,mR,yK,yI,zT,zM,yZ,y0,zt,ym,vT,toO,Nat.reduceLT,vR]
theorem gk(a:Int)(e:Nat)(b:List D):rB (xp a e b) []=aa (.tup b,xp a e []):=by
 unfold xp;simp (disch:=omega) only[rB,xy,xb,gL,zf,zq,zm,zb,xg,y3,wR,aB,xA,xB,zF,zk,wX,zG,fE,zd,zl,wO,zS,yK,yx,yd,ym,vT,z7,Nat.reduceLeDiff,yn,yi,toO,xV,aV,Nat.reduceAdd,Nat.reduceLT,wN,vR]
abbrev cT:Nat->Nat->Option Int:=zh (zz P T) p true
def yb(c:Int)(a b:Nat):List D:=(ic a (b-a)).flatMap λj=>xj c (cT P T p P.length j) j
theorem tN(b:Int)(a:Nat):yb P T p b a a=[]:=by simp[yb]
theorem pH(c:Int){a b:Nat}(h:a<=b):yb P T p c a (b+1)=yb P T p c a b++xj c (cT P T p P.length b) b:=by
 unfold yb;rw[show b+1-a=(b-a)+1 by lia,List.range'_concat,AG];simp[show a+(b-a)=b by lia]
theorem lf(c:Int)(a b:Nat):(yb P T p c a b).length<=b-a:=by
 have:∀(l:List Nat),(l.flatMap λj=>xj c (cT P T p P.length j) j).length<=l.length:=λl=>by
  induction l with
  |nil=>simp
  |cons x l d=>
   have:=lb c (cT P T p P.length x) x;simp only[i4,aJ,aI];lia
 have h:=this (ic a (b-a));rwa [Dl]at h
theorem r0(c:Int){a b d:Nat}(h1:a<=b)(e:b<=d):yb P T p c a b++yb P T p c b d=yb P T p c a d:=by
 unfold yb;rw[<- AG,show d-a=(b-a)+(d-b) by lia,<- C3,show a+(b-a)=b by lia]
end
section
open CE
variable (P:List Str)(T:List Nat)(p:Pr)
theorem bi(a:Int)(e:Nat)(b:List D):vl "Sight" ["most","end","pairs"] (xp a e b)=aa [.val (.int a),.val (.int (e:Int)),.lst b]:=wX
theorem Yt(f g h i:Option Ent)(b:Int):∀(n a:Nat) (c:List D) (k:Option Ent),c.length+n<100000->∃l,
  loop (zN 5) pY ((ic a n).map λ(j:Nat)=>oD (cT P T p P.length j)) [f,g,i,h,aa (.obj (xp b a c)),k] =
  aa (.nx [f,g,i,h,aa (.obj (xp b (a+n) (c++yb P T p b a (a+n)))),l])
 |0,a,c,k,_=>⟨k,by rw[Bu,tN,ek];rfl⟩
 |n+1,a,c,k,s=>by
  have m:=qC b (cT P T p P.length a) a c (by lia);have o:pY [f,g,i,h,aa (.obj (xp b a c)),aa (.val (oD (cT P T p P.length a)))]=aa (.nx [f,g,i,h,aa (.obj (xp b (a+1) (c++xj b (cT P T p P.length a) a))),aa (.val (oD (cT P T p P.length a)))]):=by
   have r:=bi b a c;generalize xp b a c=t at *;generalize xp b (a+1) (c++xj b (cT P T p P.length a) a)=u at *;generalize oD (cT P T p P.length a)=d at *;simp only[pY,fX,xM,y3,zG,zF,zb,za,zd,zl,zk,yn,zL,yK,yx,r,m]
  have pl:=lb b (cT P T p P.length a) a;obtain⟨l,e⟩:=Yt f g h i b n (a+1) (c++xj b (cT P T p P.length a) a) (aa (.val (oD (cT P T p P.length a)))) (by rw[aJ];lia);refine⟨l,o6 (wK rfl o) (o6 e ?_)⟩;have q:xj b (cT P T p P.length a) a=yb P T p b a (a+1):=by rw[pH P T p b (aj a),tN,iz]
  rw[eG,q,r0 P T p b (by lia) (by lia),show a+1+n=a+(n+1) by lia]
variable (hP:P.length<=100000)(hT:T.length<=10000)
include hP hT
theorem ce:rG [.tup (P.map .str),.str (mkS T),.tup p.ds]=aa (.val (.tup ((ic 0 (T.length+1)).map λ(j:Nat)=>oD (cT P T p P.length j)))):=by
 have c:=kH P T p true hP (by lia);have a:=rW (λi=>wZ (zh (zz P T) p true) T.length i) P.length;rw[<- Ax];simp (disch:=omega) only[rG,zw,yH,yU,zl,zk,fM,zn,zc,zi,zb,za,aB,xU,eC,zd,zo,yp,zr,Int.reduceNeg,zV,yc,yd,zF,zG,yq,yL,zL,vM,c,a,yh];rfl
theorem VB(a:Int):sk [.tup (P.map .str),.str (mkS T),.int a,.tup p.ds]=aa (.val (.tup (yb P T p a 0 (T.length+1)))):=by
 have e:=ce P T p hP hT;obtain⟨f,b⟩:=Yt P T p (aa (.val (.tup (P.map .str)))) (~~~[T]) (aa (.bt p.ds)) (~~~a) a (T.length+1) 0 [] ab (by simp;lia);rw[iz,aV]at b;have t:=gk a (T.length+1) (yb P T p a 0 (T.length+1));have c:=hQ a;have d:=bi a (T.length+1) (yb P T p a 0 (T.length+1));generalize (ic 0 (T.length+1)).map (λ(j:Nat)=>oD (cT P T p P.length j))=g at *;generalize xp a 0 []=h at *;generalize xp a (T.length+1) (yb P T p a 0 (T.length+1))=i at *;generalize xp a (T.length+1) []=k at *;generalize yb P T p a 0 (T.length+1)=l at *;generalize P.map D.str=m at *;simp only[sk,zw,yH,yU,zl,zk,gR,zf,tq,vu,zb,za,aB,zd,xA,xB,zG,zF,yn,zL,c,yK,yx,ym,ye,iT,zi,yq,yL,vM,e,yc,b,sd,xM,y3,d,t,yh]
end
theorem NT{p q:Int×Int}(h:um p<=um q):p.1<=q.1:=by
 refine oQ λa=>?_;exact(DJ.mpr h) (oK.mpr (.inl (by lia)))
theorem M8(ps:List (Int×Int)):(y9 ps).Pairwise λp q=>p.1<=q.1:=by
 unfold y9;rw[DA];refine(Yz (ps.map um)).imp_of_mem fun {a b} c d h=>?_;obtain⟨p,_,rfl⟩:=a8.mp ((pL _).mem_iff.mp c);obtain⟨q,_,rfl⟩:=a8.mp ((pL _).mem_iff.mp d);exact NT h
structure Kp(n:Int)(K:List (Int×Int)):Prop where
 apart:K.Pairwise λp q=>p.2<q.1
 ok:∀p∈K,0<=p.1/\p.1<=p.2/\p.2<=n
theorem Tt{n:Int}{acc:List (Int×Int)}{p:Int×Int}(k:Kp n acc)(h:∀q∈acc,q.1<=p.1)(x:0<=p.1/\p.1<=p.2/\p.2<=n) :
  Kp n (xW acc p)/\(∀q∈xW acc p,q.1<=p.1)/\(∀q,q=p\/(∃r∈acc,r.1<=q.1/\q.2<=r.2)->∃r∈xW acc p,r.1<=q.1/\q.2<=r.2):=by
 have e:(∀q∈acc,q.2<p.1)->Kp n (acc++[p])/\(∀q∈acc++[p],q.1<=p.1)/\(∀q,q=p\/(∃r∈acc,r.1<=q.1/\q.2<=r.2)->∃r∈acc++[p],r.1<=q.1/\q.2<=r.2):=λf=>by
  refine⟨⟨Aw.mpr ⟨k.apart,AT _ _,λa o b g=>by rw[aL]at g;subst g;exact f a o⟩,λq c=>?_⟩,λq c=>?_,λq c=>?_⟩
  ·rcases ed.mp c with c|c
   ·exact k.ok q c
   ·rw[aL]at c;subst c;exact x
  ·rcases ed.mp c with c|c
   ·exact h q c
   ·rw[aL]at c;subst c;exact Aj _
  ·rcases c with rfl|⟨r,d,i,j⟩
   ·exact⟨_,aE _ (aL.mpr rfl),Aj _,Aj _⟩
   ·exact⟨r,em _ d,i,j⟩
 unfold xW;cases t:acc.getLast? with
 |none=>
  have:acc=[]:=Cb.mp t;exact e λq c=>by rw[this]at c;cases c
 |some l=>
  obtain⟨y,rfl⟩:=Cc.mp t;have f:l∈y++[l]:=aE _ (aL.mpr rfl);have s:=Aw.mp k.apart;dsimp only;by_cases u:p.1<=l.2
  ·rw[if_pos u,C0];have v:=k.ok l f;have w:=h l f;have m:l.2<=(if p.2 > l.2 then p.2 else l.2)/\p.2<=(if p.2 > l.2 then p.2 else l.2)/\(if p.2 > l.2 then p.2 else l.2)<=n:=by split <;> lia
   generalize (if p.2 > l.2 then p.2 else l.2)=M at m;refine⟨⟨Aw.mpr ⟨s.1,AT _ _,λa o b g=>?_⟩,λq c=>?_⟩,λq c=>?_,λq c=>?_⟩
   ·rw[aL]at g;subst g;exact s.2.2 a o l (aL.mpr rfl)
   ·rcases ed.mp c with c|c
    ·exact k.ok q (em _ c)
    ·rw[aL]at c;subst c;exact⟨v.1,by show l.1<=M;lia,m.2.2⟩
   ·rcases ed.mp c with c|c
    ·exact h q (em _ c)
    ·rw[aL]at c;subst c;exact w
   ·rcases c with rfl|⟨r,d,i,j⟩
    ·exact⟨(l.1,M),aE _ (aL.mpr rfl),w,m.2.1⟩
    ·rcases ed.mp d with d|d
     ·exact⟨r,em _ d,i,j⟩
     ·rw[aL]at d;subst d;exact⟨(r.1,M),aE _ (aL.mpr rfl),i,Bp j m.1⟩
  ·rw[if_neg u];refine e λq c=>?_;have v:=k.ok l f;rcases ed.mp c with c|c
   ·have:=s.2.2 q c l (aL.mpr rfl);lia
   ·rw[aL]at c;subst c;lia
theorem bv{n:Int}:∀(ps acc:List (Int×Int)),Kp n acc->(∀q∈acc,∀p∈ps,q.1<=p.1)->(ps.Pairwise λp q=>p.1<=q.1)->(∀p∈ps,0<=p.1/\p.1<=p.2/\p.2<=n) ->
  Kp n (ps.foldl xW acc)/\∀q,(q∈ps\/∃r∈acc,r.1<=q.1/\q.2<=r.2)->∃r∈ps.foldl xW acc,r.1<=q.1/\q.2<=r.2
 |[],acc,k,_,_,_=>⟨k,λq a=>a.elim (λh=>by cases h) λh=>h⟩
 |p::ps,acc,k,h,g,e=>by
  obtain⟨b,c⟩:=BO.mp g;obtain⟨i,j,f⟩:=Tt k (λq a=>h q a p aw) (e p aw);obtain⟨l,m⟩:=bv ps (xW acc p) i (λq a r d=>Bp (j q a) (b r d)) c λr d=>e r (aq _ d);refine⟨l,λq a=>m q ?_⟩;rcases a with a|a
  ·rcases aC.mp a with rfl|a
   ·exact .inr (f q (.inl rfl))
   ·exact .inl a
  ·exact .inr (f q (.inr a))
theorem bz{n:Int}(ps:List (Int×Int))(c:∀p∈ps,0<=p.1/\p.1<=p.2/\p.2<=n):Kp n (wA (y9 ps))/\∀q∈ps,∃r∈wA (y9 ps),r.1<=q.1/\q.2<=r.2:=by
 obtain⟨d,e⟩:=bv (n:=n) (y9 ps) [] ⟨.nil,λp a=>by cases a⟩ (λq b=>by cases b) (M8 ps) λp a=>c p ((hW ps).mem_iff.mp a);exact⟨d,λq b=>e q (.inl ((hW ps).mem_iff.mpr b))⟩
theorem YF{a:Type}[DecidableEq a]:∀(K G:List a),K.Nodup->(∀g∈G,g∈K)->(K.map λz=>G.count z).sum=G.length
 |K,[],_,_=>by
  have:∀K:List a,(K.map λz=>([]:List a).count z).sum=0:=λK=>by
   induction K with
   |nil=>rfl
   |cons z K d=>rw[ay,oN,d];rfl
  exact this K
 |K,g::G,b,h=>by
  have d:=YF K G b λx k=>h x (aq _ k);have f:∀(K:List a),K.Nodup->(K.map λz=>(g::G).count z).sum=(K.map λz=>G.count z).sum+if g∈K then 1 else 0:=by
   intro K b
   induction K with
   |nil=>rfl
   |cons z K i=>
    obtain⟨l,m⟩:=aW.mp b;rw[ay,ay,oN,oN,i m,DY];by_cases e:g=z
    ·subst e;rw[if_pos (by simp),if_neg l,if_pos aw];lia
    ·rw[if_neg (by simpa using e)];by_cases c:g∈K
     ·rw[if_pos c,if_pos (aq _ c)];lia
     ·rw[if_neg c,if_neg (λn=>by rcases aC.mp n with j|j;exact e j;exact c j)];lia
  rw[f K b,d,if_pos (h g aw),aI]
theorem jF{y:Str}:∀{ks:List Str} {a:List Int},y∉ks->yu ks a y=ab
 |[],_,_=>by unfold yu;rfl
 |k::ks,[],_=>by unfold yu;rfl
 |k::ks,i::a,h=>by
  unfold yu;rw[if_neg (λe=>h (by rw[e];exact aw))];exact jF λz=>h (aq _ z)
theorem Zm{k y:Str}{v:Int}:∀{ks:List Str} {b:List Int},ks.length=b.length->yu ks (oH (λx y=>if x=k then v else y) ks b) y=if y=k/\y∈ks then aa v else yu ks b y
 |[],b,_=>by rw[if_neg (λz=>by cases z.2)];cases b <;> rfl
 |x::ks,[],h=>by cases h
 |x::ks,i::b,h=>by
  rw[iF];unfold yu;by_cases e:x=y
  ·rw[if_pos e,if_pos e];by_cases a:x=k
   ·rw[if_pos a,if_pos ⟨e ▸ a,by rw[e];exact aw⟩]
   ·rw[if_neg a,if_neg (λz=>a (e.trans z.1))]
  ·rw[if_neg e,if_neg e,Zm (by simpa using h)];by_cases a:y=k/\y∈ks
   ·rw[if_pos a,if_pos ⟨a.1,aq _ a.2⟩]
   ·rw[if_neg a,if_neg (λz=>a ⟨z.1,(aC.mp z.2).resolve_left λq=>e q.symm⟩)]
theorem Zk{k:Str}{v:Int}:∀{ks:List Str} {a:List Int},ks.length=a.length->yu (ks++[k]) (a++[v]) y=if y∈ks then yu ks a y else if k=y then aa v else ab
 |[],[],_=>by
  rw[if_neg (λz=>by cases z)];show yu [k] [v] y=_;unfold yu;split
  ·rfl
  ·unfold yu;rfl
 |[],_::_,h=>by cases h
 |x::ks,[],h=>by cases h
 |x::ks,i::a,h=>by
  rw[Av,Av];unfold yu;by_cases e:x=y
  ·rw[if_pos e,if_pos e,if_pos (by rw[e];exact aw)]
  ·rw[if_neg e,if_neg e,Zk (by simpa using h)];by_cases b:y∈ks
   ·rw[if_pos b,if_pos (aq _ b)]
   ·rw[if_neg b,if_neg (λz=>(aC.mp z).elim (λq=>e q.symm) b)]
theorem LW(p:List Str×List Int)(z y:Str)(h:p.1.length=p.2.length)(f:p.1.Nodup):(xq p z).1.Nodup/\((yu (xq p z).1 (xq p z).2 y).getD 0=(yu p.1 p.2 y).getD 0+if y=z then 1 else 0)/\(y∈(xq p z).1 ↔ y∈p.1\/y=z):=by
 show(wp p.1 z).Nodup/\((yu (wp p.1 z) (xG p.1 p.2 z ((yu p.1 p.2 z).getD 0+1)) y).getD 0=_)/\(y∈wp p.1 z ↔ _)
 unfold wp xG;by_cases c:z∈p.1
 ·rw[if_pos c,if_pos c,Zm h];refine⟨f,?_,λq=>.inl q,λq=>q.elim id λe=>e ▸ c⟩;by_cases e:y=z
  ·subst e;rw[if_pos ⟨rfl,c⟩,if_pos rfl];rfl
  ·rw[if_neg (λq=>e q.1),if_neg e];lia
 ·rw[if_neg c,if_neg c,Zk h];refine⟨?_,?_,?_⟩
  ·rw[e8];exact⟨f,aW.mpr ⟨λq=>(by cases q),CQ⟩,λa i b g e=>by rw[aL]at g;subst g;subst e;exact c i⟩
  ·by_cases e:y=z
   ·subst e;rw[if_neg c,if_pos rfl,if_pos rfl,jF c];rfl
   ·rw[if_neg e];by_cases d:y∈p.1
    ·rw[if_pos d];lia
    ·rw[if_neg d,if_neg (λq=>e q.symm),jF d];rfl
  ·rw[ed,aL]
theorem kW:∀(a:List Str) (p:List Str×List Int),p.1.length=p.2.length->p.1.Nodup->(a.foldl xq p).1.Nodup/\(∀y,(yu (a.foldl xq p).1 (a.foldl xq p).2 y).getD 0=(yu p.1 p.2 y).getD 0+(a.count y:Nat))/\∀y,y∈(a.foldl xq p).1 ↔ y∈p.1\/y∈a
 |[],p,_,b=>⟨b,λy=>by simp,λy=>by simp⟩
 |z::a,p,h,b=>by
  have c:=(Xj p z h).1;have t:=λy=>LW p z y h b;obtain⟨d,f,g⟩:=kW a (xq p z) c (t z).1;refine⟨d,λy=>?_,λy=>?_⟩
  ·rw[oo,f,(t y).2.1,DY];by_cases e:y=z
   ·subst e;rw[if_pos rfl,if_pos (by simp)];lia
   ·rw[if_neg e,if_neg (by simpa using λq=>e q.symm)];lia
  ·rw[oo,g,(t y).2.2,aC];constructor
   ·rintro ((h|h)|h)
    ·exact .inl h
    ·exact .inr (.inl h)
    ·exact .inr (.inr h)
   ·rintro (h|h|h)
    ·exact .inl (.inl h)
    ·exact .inl (.inr h)
    ·exact .inr h
theorem MP(u v:List Nat)(a:Int)(G:List Str)(h1:G.Sublist (xF u a))(e:G.Sublist (xF v a)):(G.length:Int)<=uZ (yP u a) (yP v a):=by
 obtain⟨c,f,d⟩:=kW (xF u a) ([],[]) rfl CQ;obtain⟨m,h,n⟩:=kW (xF v a) ([],[]) rfl CQ;have o:∀y,(yu [] [] y).getD 0=0:=λy=>rfl;have i:∀z,(yu (yP u a).1 (yP u a).2 z).getD 0=((xF u a).count z:Nat):=λz=>by rw[show yP u a=(xF u a).foldl xq ([],[])from rfl,f];show 0+_=_;lia
 have j:∀z,(yu (yP v a).1 (yP v a).2 z).getD 0=((xF v a).count z:Nat):=λz=>by rw[show yP v a=(xF v a).foldl xq ([],[])from rfl,h];show 0+_=_;lia
 have k:∀z,(G.count z:Int)<=sG (yP u a) (yP v a) z:=λz=>by
  have p:=h1.count_le z;have q:=e.count_le z;unfold sG;rw[i,j];split <;> lia
 have b:=YF (yP u a).1 G c λg l=>(d g).mpr (.inr (h1.subset l));unfold uZ;rw[<- b];generalize (yP u a).1=K;clear c d b
 induction K with
 |nil=>exact Aj _
 |cons z K r=>
  rw[ay,oN,ay,oN];have:=k z;lia
section
open CE
theorem rc(xs:List Nat)(a b:Nat)(h:a<=b)(c:b<=xs.length):zH xs (aa (a:Int)) (aa (b:Int))=(ak (b-a)).map λx=>xs.getD (a+x) 0:=by
 unfold zH;rw[HT.sIx_nat,HT.sIx_nat,i7 (aH h c),i7 c];refine Bb ?_ λi e d=>?_
 ·rw[eN,iN,ar,eH];lia
 ·rw[ar,eH]at d;rw[List.getElem_take,Dy,Ce,List.getElem_range];rw[ee,aD (by lia)];rfl
noncomputable abbrev kX(w t:List Nat):Nat->Nat->Bool:=λi j=>decide (t.getD j 0=w.getD i 0)
theorem VR(w t:List Nat)(x y:Nat)(a:x<w.length)(b:y<t.length):kX w t x y=zz (wP w) t x (0+y):=by
 rw[aV,VY a b];show decide (t.getD y 0=w.getD x 0)=_;rw[ee,ee,aD b,aD a];rfl
variable {w t:List Nat}{s j:Nat}{c:Int}
theorem Yo(h:Sg (zz (wP w) t) pl 0 s w.length j c)(d:j<=t.length):Sg (kX w t) pl 0 s w.length j c:=by
 have:=h.shift (b0:=0) (m:=w.length) (l:=t.length) (fit':=kX w t) (λx y a b=>VR w t x y a b) (aj _) (by lia) (aM _);simpa using this
def xZ(n M r:Nat):Nat:=r*n / (M+1)
theorem pF(n M r:Nat):pB n (M:Int) r=(xZ n M r:Nat):=by
 unfold pB xZ;rw[Ao,DN]
 push_cast
 rfl
theorem jX(n M r:Nat):pE n (M:Int) r=(xZ n M (r+1):Nat):=by
 unfold pE xZ;rw[Ao,DN]
 push_cast
 rfl
theorem QR(M:Nat)(h:Sg (zz (wP w) t) pl 0 s w.length j c)(C:c<=M)(p:j<=t.length):∃q∈xR w t (M:Int) (M+1),q.1<=s/\(j:Int)<=q.2:=by
 have k:=Yo h p;have l:xZ w.length M 0=0:=by unfold xZ;simp
 have u:xZ w.length M (M+1)=w.length:=by unfold xZ;exact Nat.mul_div_cancel_left _ (Nat.succ_pos M)
 have a:∀r,xZ w.length M r<=xZ w.length M (r+1):=λr=>Nat.div_le_div_right (Nat.mul_le_mul_right _ (oj r));rw[<- l]at k;obtain⟨r,y,_,E,⟨G,H,d,n,I⟩,o⟩:=Sg.part a (M+1) 0 k (by lia) (by rw[aV];exact u);rw[l]at d;have J:=d.dist;have K:=n.dist;have L:=d.le;have N:=n.le;have v:=m6 w.length (m:=(M:Int)) (i:=r) (by lia);rw[pF,jX]at v;have z:xZ w.length M (r+1)<=w.length:=by lia
 have b:y+(xZ w.length M (r+1)-xZ w.length M r)<=t.length:=by
  by_cases e:xZ w.length M r=xZ w.length M (r+1)
  ·lia
  ·have:=(o (xZ w.length M (r+1)-xZ w.length M r-1) (by have:=a r;lia)).2;lia
 have f:r8 w t (pB w.length (M:Int) r) (pE w.length (M:Int) r) y=true:=by
  unfold r8;refine decide_eq_true ?_;rw[pF,jX,Ao,show((y:Int)+(((xZ w.length M (r+1):Nat):Int)-((xZ w.length M r:Nat):Int)))=((y+(xZ w.length M (r+1)-xZ w.length M r):Nat):Int) by have:=a r;lia,rc t y _ (by lia) b,rc w _ _ (a r) z,iu];refine eV λx A=>?_;have B:=eD.mp A;exact of_decide_eq_true (o x (by lia)).1
 have g:y∈uF w t (pB w.length (M:Int) r) (pE w.length (M:Int) r):=by
  unfold uF;refine ot.mpr ⟨eD.mpr ?_,f⟩;rw[pF,jX];have:=a r;lia
 refine⟨u3 w.length (M:Int) t.length (pB w.length (M:Int) r) y,?_,?_,?_⟩
 ·unfold xR;exact Ci.mpr ⟨r,eD.mpr (by lia),a8.mpr ⟨y,g,rfl⟩⟩
 ·unfold u3;rw[pF];dsimp only;split <;> lia
 ·unfold u3;rw[pF];dsimp only;split <;> lia
theorem QT(w t:List Nat)(M:Nat):∀p∈xR w t (M:Int) (M+1),0<=p.1/\p.1<=p.2/\p.2<=(t.length:Int):=by
 intro p a;unfold xR at a;obtain⟨r,b,a⟩:=Ci.mp a;obtain⟨y,d,rfl⟩:=a8.mp a;have e:=eD.mp b;have g:=m6 w.length (m:=(M:Int)) (i:=r) (by lia);have f:=eD.mp (ot.mp d).1;unfold u3;dsimp only;refine⟨?_,?_,?_⟩ <;> (repeat' split) <;> lia
theorem ZU(xs:List Nat)(q:Nat)(f:Nat->Nat)(lo hi:Nat)(h:xs.length=hi-lo)(a:∀i,i<xs.length->xs.getD i 0=f (lo+i)):xF xs (q:Int)=(uE q f lo hi).map mkS:=by
 unfold xF uE;rw[e7,show((xs.length:Int)-(q:Int)+1).toNat=hi-lo+1-q by lia];refine eV λp b=>?_;have d:=eD.mp b;rw[Ao,show((p:Int)+(q:Int))=((p+q:Nat):Int) by lia,rc xs p (p+q) (by lia) (by lia),iu];show mkS _=mkS _;congr 1;refine eV λx e=>?_;have g:=eD.mp e;rw[a _ (by lia),Ef]
theorem PJ(M q:Nat)(v:1<=q)(h:Sg (zz (wP w) t) pl 0 s w.length j c)(y:c<=M)(m:j<=t.length):∃p∈xD (wH w t (M:Int) (q:Int)) w.length (M:Int) (t.length+1),p.1<=s/\(j:Int)<=p.2:=by
 have f:=Yo h m;have d:=f.dist;have l:=f.le;obtain⟨lo,g,b,e⟩:∃lo:Nat,wb w.length (M:Int) j=lo/\lo<=s/\lo<=j:=by
  refine⟨(wb w.length (M:Int) j).toNat,?_,?_,?_⟩ <;> unfold wb <;> split <;> lia
 obtain⟨G,r,z,A,_,_,_,B⟩:=Sg.pieces (q:=q) (lo:=lo) (w:=λi=>w.getD i 0) (t:=λj=>t.getD j 0) v f b;have a:v3 w t (M:Int) j=(ak (j-lo)).map λx=>t.getD (lo+x) 0:=by
  unfold v3;rw[g,Ao];exact rc t lo j e m
 have n:(v3 w t (M:Int) j).length=j-lo:=by rw[a,ar,eH]
 have C:=ZU w q (λi=>w.getD i 0) 0 w.length (by lia) λi _=>by rw[aV]
 have E:=ZU (v3 w t (M:Int) j) q (λj=>t.getD j 0) lo j n λi o=>by
  rw[n]at o;rw[a,ee,av,a6 o];rfl
 have H:=MP w (v3 w t (M:Int) j) (q:Int) (G.map mkS) (by rw[C];exact z.map _) (by rw[E];exact A.map _);rw[ar]at H;have k:wH w t (M:Int) (q:Int) j=true:=by
  unfold wH;refine decide_eq_true ?_;have I:min r (q-1)<=q-1:=AA _ _;have u:c*(q:Int)<=(M:Int)*(q:Int):=Ae y (by lia);generalize c*(q:Int)=J at B u;generalize (M:Int)*(q:Int)=K at u ⊢;lia
 refine⟨uI w.length (M:Int) j,?_,?_,?_⟩
 ·unfold xD;exact a8.mpr ⟨j,ot.mpr ⟨eD.mpr (by lia),k⟩,rfl⟩
 ·show wb w.length (M:Int) j<=s;lia
 ·show(j:Int)<=0+(j:Int)
  lia
theorem PL(w t:List Nat)(M:Nat)(P:Nat->Bool):∀p∈xD P w.length (M:Int) (t.length+1),0<=p.1/\p.1<=p.2/\p.2<=(t.length:Int):=by
 intro p a;unfold xD at a;obtain⟨e,b,rfl⟩:=a8.mp a;have d:=eD.mp (ot.mp b).1;show 0<=wb w.length (M:Int) e/\wb w.length (M:Int) e<=0+(e:Int)/\0+(e:Int)<=(t.length:Int)
 unfold wb;split <;> lia
end
section
open CE
noncomputable def xH(M:Int)(x:Option Int)(j:Nat):List (Int×Int):=match x with
 |some x=>if x<=M then [((j:Int),x)]else []
 |none=>[]
theorem MA(M:Int)(x:Option Int)(j:Nat):xj M x j=(xH M x j).map zj:=by
 unfold xj xH;cases x with
 |none=>rfl
 |some x=>
  dsimp only;split <;> rfl
abbrev cW(w t:List Nat)(j:Nat):Option Int:=zh (zz (wP w) t) pl true w.length j
def wE(w t:List Nat)(M:Int)(a b:Nat):List (Int×Int):=(ic a (b-a)).flatMap λj=>xH M (cW w t j) j
theorem Xz(w t:List Nat)(M:Int){a b c:Nat}(h1:a<=b)(d:b<=c):wE w t M a b++wE w t M b c=wE w t M a c:=by
 unfold wE;rw[<- AG,show c-a=(b-a)+(c-b) by lia,<- C3,show a+(b-a)=b by lia]
def sE(w t:List Nat)(M:Int)(p:Int×Int):List (Int×Int):=(ak ((p.2-p.1).toNat+1)).flatMap λj=>xH M (cW w (zH t (aa p.1) (aa p.2)) j) (p.1.toNat+j)
variable {w t:List Nat}{M:Int}{K:List (Int×Int)}(kp:Kp (t.length:Int) K)
 (k3:∀(s j:Nat) (c:Int),Sg (zz (wP w) t) pl 0 s w.length j c->c<=M->j<=t.length->∃p∈K,p.1<=(s:Int)/\(j:Int)<=p.2)
include kp k3
theorem Sr{b e:Nat}(H:((b:Int),(e:Int))∈K){j:Nat}(P:j<=e-b):xH M (cW w (zH t (aa (b:Int)) (aa (e:Int))) j) (b+j)=xH M (cW w t (b+j)) (b+j):=by
 obtain⟨_,Q,R⟩:=kp.ok _ H;have v:b<=e:=by have:(b:Int)<=e:=Q;lia
 have z:e<=t.length:=by have:(e:Int)<=t.length:=R;lia
 rw[rc t b e v z];generalize S:(ak (e-b)).map (λx=>t.getD (b+x) 0)=a;have I:∀x y,x<w.length->y<e-b->zz (wP w) a x y=zz (wP w) t x (b+y):=λx y _ T=>by
  unfold zz;have:a.getD y 0=t.getD (b+y) 0:=by rw[<- S,ee,av,a6 T];rfl
  rw[this]
 have A:∀x',cW w a j=aa x'->∃x,cW w t (b+j)=aa x/\x<=x':=λx' f=>by
  obtain⟨s',U,g⟩:=Ld.sgF (vt rV f).1;exact pk rV (Sg.ldF (g.back (b0:=b) (m:=w.length) (l:=e-b) I (aj _) P))
 have Y:∀x,cW w t (b+j)=aa x->x<=M->∃x',cW w a j=aa x'/\x'<=x:=λx f i=>by
  obtain⟨s,U,g⟩:=Ld.sgF (vt rV f).1;obtain⟨q,J,L,q2⟩:=k3 s (b+j) x g i (by lia);have B:b<=s:=by
   have ok:=kp.ok q J;rcases oS.mp kp.apart with N;obtain⟨C,k,E⟩:=oR.mp J;obtain⟨G,n,r⟩:=oR.mp H;by_cases o:C=G
   ·subst o;rw[E]at r;rw[r]at L;have:(b:Int)<=s:=L;lia
   ·rcases Nat.lt_or_gt_of_ne o with d|d
    ·have:=N C G k n d;rw[E,r]at this;have:q.2<(b:Int):=this;lia
    ·have:=N G C n k d;rw[E,r]at this;have:(e:Int)<q.1:=this;lia
  have O:=g.shift (b0:=b) (m:=w.length) (l:=e-b) (fit':=zz (wP w) a) I (aj _) (by lia) B;rw[iu]at O;exact pk rV (Sg.ldF O)
 unfold xH;cases u:cW w t (b+j)with
 |none=>
  cases h:cW w a j with
  |none=>rfl
  |some x'=>obtain⟨x,f,_⟩:=A x' h;rw[u]at f;cases f
 |some x=>
  by_cases i:x<=M
  ·obtain⟨x',h,h3⟩:=Y x u i;obtain⟨x2,p,Z⟩:=A x' h;rw[u]at p;cases p;have:x'=x:=by lia
   subst this;rw[h]
  ·cases h:cW w a j with
   |none=>dsimp only;rw[if_neg i]
   |some x'=>
    obtain⟨x2,p,Z⟩:=A x' h;rw[u]at p;cases p;dsimp only;rw[if_neg i,if_neg (by lia)]
theorem N8{p:Int×Int}(g:p∈K):sE w t M p=wE w t M p.1.toNat (p.2.toNat+1):=by
 obtain⟨d,h,k⟩:=kp.ok p g;obtain⟨q,r⟩:=p;dsimp only at d h k;obtain⟨b,rfl⟩:=eu d;obtain⟨e,rfl⟩:=eu (Bp d h);unfold sE wE;dsimp only;rw[show((b:Nat):Int).toNat=b by lia,show((e:Nat):Int).toNat=e by lia,show(((e:Nat):Int)-((b:Nat):Int)).toNat=e-b by lia,show e+1-b=e-b+1 by lia,List.range'_eq_map_range,List.flatMap_map];have f:∀l:List Nat,(∀j∈l,j<=e-b)->(l.flatMap λj=>xH M (cW w (zH t (aa (b:Int)) (aa (e:Int))) j) (b+j))=l.flatMap λa=>xH M (cW w t (b+a)) (b+a):=λl=>by
  induction l with
  |nil=>intro _;rfl
  |cons j l m=>
   intro i;rw[i4,i4,m λx n=>i x (aq _ n),Sr kp k3 g (i j aw)]
 exact f _ λj o=>by have:=eD.mp o;lia
omit kp k3 in
theorem XA{a b:Nat}(h:∀j,a<=j->j<b->xH M (cW w t j) j=[]):wE w t M a b=[]:=by
 unfold wE;refine List.flatMap_eq_nil_iff.mpr λj d=>?_;rw[Am]at d;exact h j d.1 (by lia)
theorem bV:∀(L:List (Int×Int)) (lo:Nat),(∀p∈L,p∈K)->(L.Pairwise λp q=>p.2<q.1)->(∀p∈L,(lo:Int)<=p.1)->(∀j,lo<=j->j<=t.length->xH M (cW w t j) j≠[]->∃p∈L,p.1<=(j:Int)/\(j:Int)<=p.2)->lo<=t.length+1->L.flatMap (sE w t M)=wE w t M lo (t.length+1)
 |[],lo,_,_,_,h,_=>(XA λj e f=>oQ λg=>by obtain⟨p,r,_⟩:=h j e (by lia) g;cases r).symm
 |p::L,lo,m,u,i,h,y=>by
  obtain⟨b,k⟩:=BO.mp u;have d:=m p aw;obtain⟨z,A,B⟩:=kp.ok p d;have C:=i p aw;have v:=bV L (p.2.toNat+1) (λq a=>m q (aq _ a)) k (λq a=>by have:=b q a;lia) (λj e f x=>by
   obtain⟨q,a,n,o⟩:=h j (by lia) f x;rcases aC.mp a with rfl|a
   ·lia
   ·exact⟨q,a,n,o⟩) (by lia)
  rw[i4,v,N8 kp k3 d];have l:wE w t M lo p.1.toNat=[]:=XA λj e f=>oQ λg=>by
   obtain⟨q,a,n,o⟩:=h j e (by lia) g;rcases aC.mp a with rfl|a
   ·lia
   ·have:=b q a;lia
  rw[Xz w t M (show p.1.toNat<=p.2.toNat+1 by lia) (show p.2.toNat+1<=t.length+1 by lia)];have:=Xz w t M (show lo<=p.1.toNat by lia) (show p.1.toNat<=t.length+1 by lia);rw[l,iz]at this;exact this
theorem Su:K.flatMap (sE w t M)=wE w t M 0 (t.length+1):=by
 refine bV kp k3 K 0 (λ_ h=>h) kp.apart (λp b=>(kp.ok p b).1) (λj _ f a=>?_) (aM _);cases d:cW w t j with
 |none=>rw[d]at a;exact absurd rfl a
 |some x=>
  rw[d]at a;by_cases e:x<=M
  ·obtain⟨s,k,g⟩:=Ld.sgF (vt rV d).1;obtain⟨p,b,l,i⟩:=k3 s j x g e f;exact⟨p,b,by lia,i⟩
  ·exact absurd (by unfold xH;dsimp only;rw[if_neg e]) a
end
section
open CE
theorem ZR(w:List Nat)(h:w.length<=1000):uU [.str (mkS w)]=aa (.val (.tup ((wP w).map .str))):=by
 have a:(mkS w).length<=1000000:=by rw[yj];lia
 simp (disch:=omega) only[uU,zw,yH,yU,zl,zk,fK,zn,zm,zb,za,aB,xU,zd,yd,zF,je,zP,yI,Yq,zT,yh,wP]
theorem gl(w t:List Nat)(M:Int):yb (wP w) t pl M 0 (t.length+1)=(wE w t M 0 (t.length+1)).map zj:=by
 unfold yb wE;rw[DQ];congr 1;funext j;rw[MA,u4]
theorem gy(w t:List Nat)(M:Int)(a b:Nat):(wE w t M a b).length<=b-a:=by
 have:∀l:List Nat,(l.flatMap λj=>xH M (cW w t j) j).length<=l.length:=λl=>by
  induction l with
  |nil=>simp
  |cons x l c=>
   have d:(xH M (cW w t x) x).length<=1:=by
    unfold xH;split
    ·split <;> simp
    ·simp
   rw[i4,aJ,aI];lia
 have h:=this (ic a (b-a));rwa [Dl]at h
theorem cf(w t:List Nat)(M:Int)(a:w.length<=1000)(b:t.length<=900):sk [.tup ((wP w).map .str),.str (mkS t),.int M,.tup pl.ds]=aa (.val (.tup ((wE w t M 0 (t.length+1)).map zj))):=by
 rw[<- gl];exact VB (wP w) t pl (by rw[u4];lia) (by lia) M
def pJ(b:Int)(p:Int×Int):Int×Int:=(b+p.1,p.2)
theorem MB(M:Int)(x:Option Int)(b j:Nat):xH M x (b+j)=(xH M x j).map (pJ b):=by
 unfold xH;cases x with
 |none=>rfl
 |some x=>
  dsimp only;split
  ·rw[Dm];unfold pJ;congr 2
  ·rfl
theorem Ma(w t:List Nat)(M:Int){b e:Nat}(h:b<=e)(a:e<=t.length):(wE w (zH t (aa (b:Int)) (aa (e:Int))) M 0 ((zH t (aa (b:Int)) (aa (e:Int))).length+1)).map (pJ b)=sE w t M ((b:Int),(e:Int)):=by
 have c:(zH t (aa (b:Int)) (aa (e:Int))).length=e-b:=by rw[rc t b e h a,ar,eH]
 unfold wE sE;rw[c,DQ,o8,<- Ax];dsimp only;rw[show(((e:Nat):Int)-((b:Nat):Int)).toNat=e-b by lia,show((b:Nat):Int).toNat=b by lia];congr 1;funext j;exact(MB M _ b j).symm
theorem dP(δ:En)(b:Int)(h:δ[3]? =aa (~~~b)):∀a:List (Int×Int),yV (λd=>(two d).bind λp=>yR (vr [3] δ p.1 p.2)) (λd=>(two d).bind λp=>qh (vr [3] δ p.1 p.2)) (a.map zj)=aa ((a.map (pJ b)).map zj)
 |[]=>rfl
 |p::a=>by
  have c:vr [3] δ (.int p.1) (.int p.2)=[~~~p.1,~~~p.2,~~~b]:=by
   simp only[vr,ay,ij,h,Bh,a5,vN]
  have e:qh (vr [3] δ (.int p.1) (.int p.2))=aa (.val (zj (pJ b p))):=by
   rw[c];exact qa (wu rfl rfl) rfl
  rw[ay,yV,dP δ b h a];show(ez (aa true) λq=>if q=true then ((qh (vr [3] δ (.int p.1) (.int p.2))).bind zL).bind λy=>_ else _)=_;rw[e];rfl
theorem Ln(w t:List Nat)(M:Int){b e:Nat}(h:b<=e)(n:e<=t.length)(k:w.length<=1000)(p:t.length<=900):ml [.str (mkS w),.int M,.str (mkS t),.int (b:Int),.int (e:Int)]=aa (.own ((sE w t M ((b:Int),(e:Int))).map zj)):=by
 have q:(zH t (aa (b:Int)) (aa (e:Int))).length<=900:=aH (uO _ _ _) p;have r:zg (zc yF (za 3) (za 4)) [~~~[w],~~~M,~~~[t],~~~(b:Int),~~~(e:Int),ab]=aa false:=by
  have f:¬ ((b:Int) > (e:Int)):=by lia
  simp only[zg,zc,za,zG,zF,yF,z8,zr,zk,zl,f,xu,zR]
 have g:zi [.v] uU (zb (za 0) zd) [~~~[w],~~~M,~~~[t],~~~(b:Int),~~~(e:Int),ab]=aa (.val (.tup ((wP w).map .str))):=by
  have:=ZR w k;simp only[zi,zb,za,zF,zd,zl,zk,yq,yL,zL,this]
 have l:yo yS (za 2) (zQ (za 3)) (zQ (za 4)) [~~~[w],~~~M,~~~[t],~~~(b:Int),~~~(e:Int),ab]= ~~~[(zH t (aa (b:Int)) (aa (e:Int)))]:=hR t _ _ (by lia) rfl rfl rfl;have d:=cf w (zH t (aa (b:Int)) (aa (e:Int))) M k q;have m:zi [.v,.v,.v,.t] sk (zb (zi [.v] uU (zb (za 0) zd)) (zb (yo yS (za 2) (zQ (za 3)) (zQ (za 4))) (zb (za 1) (zb (eB ([1,1,1,0].map .int)) zd)))) [~~~[w],~~~M,~~~[t],~~~(b:Int),~~~(e:Int),ab]=aa (.val (.tup ((wE w (zH t (aa (b:Int)) (aa (e:Int))) M 0 ((zH t (aa (b:Int)) (aa (e:Int))).length+1)).map zj))):=by
  generalize (wE w (zH t (aa (b:Int)) (aa (e:Int))) M 0 ((zH t (aa (b:Int)) (aa (e:Int))).length+1)).map zj=R at d;generalize zi [.v] uU (zb (za 0) zd)=x at g;generalize yo yS (za 2) (zQ (za 3)) (zQ (za 4))=y at l;generalize (wP w).map D.str=z at g d;have i:eB (([1,1,1,0]:List Int).map .int) [~~~[w],~~~M,~~~[t],~~~(b:Int),~~~(e:Int),ab]=aa (.bt pl.ds):=rfl;generalize eB (([1,1,1,0]:List Int).map .int)=A at i;generalize pl.ds=B at i d;simp only[zi,zb,g,l,za,zG,zF,i,zd,zl,zk,yq,yL,zL,vM,d]
 have f:=gy w (zH t (aa (b:Int)) (aa (e:Int))) M 0 ((zH t (aa (b:Int)) (aa (e:Int))).length+1);generalize j:wE w (zH t (aa (b:Int)) (aa (e:Int))) M 0 ((zH t (aa (b:Int)) (aa (e:Int))).length+1)=c at m f;have a:=Ma w t M h n;rw[j]at a;have s:re [3] (iT (za 5)) yR qh [~~~[w],~~~M,~~~[t],~~~(b:Int),~~~(e:Int),aa (.val (.tup (c.map zj)))]=aa (.own ((sE w t M ((b:Int),(e:Int))).map zj)):=by
  unfold re;show(yV _ _ (c.map zj)).bind _=_;rw[dP _ (b:Int) rfl c,a];show(if _ then _ else _)=_;rw[if_pos (by rw[<- a,ar,ar];lia)]
 have u:lK [~~~[w],~~~M,~~~[t],~~~(b:Int),~~~(e:Int),ab]=aa (.rt (.own ((sE w t M ((b:Int),(e:Int))).map zj)) [~~~[w],~~~M,~~~[t],~~~(b:Int),~~~(e:Int),aa (.val (.tup (c.map zj)))]):=by
  refine(show lK _=_ from yf (xm r)).trans ((y8 m).trans ?_)
  show zn _ _=_;unfold zn;rw[show([aa (Ent.val (.str (mkS w))),~~~M,~~~[t],~~~(b:Int),~~~(e:Int),ab]:En).set 5 (aa (.val (.tup (c.map zj))))=[~~~[w],~~~M,~~~[t],~~~(b:Int),~~~(e:Int),aa (.val (.tup (c.map zj)))]from rfl,s];rfl
 exact(congrArg (λo=>ez o _) u).trans rfl
theorem VF{i:Nat}{δ:En}{ds es:List D}(a:δ[i]? =aa (aa (.own ds)))(h:fe δ=aa (.own es))(b:ds.length+es.length<=1000000):qJ i fe δ=aa (.nx (δ.set i (aa (.own (ds++es))))):=by
 unfold qJ;rw[a];dsimp only;rw[h];simp only[a5];rw[show yY (sz (ds.length+es.length)) _=_ from by rw[yI b,zT]]
theorem N9(w t:List Nat)(M:Int)(p:Int×Int):(sE w t M p).length<=(p.2-p.1).toNat+1:=by
 unfold sE;have:∀l:List Nat,(l.flatMap λj=>xH M (cW w (zH t (aa p.1) (aa p.2)) j) (p.1.toNat+j)).length<=l.length:=λl=>by
  induction l with
  |nil=>simp
  |cons x l a=>
   have b:(xH M (cW w (zH t (aa p.1) (aa p.2)) x) (p.1.toNat+x)).length<=1:=by
    unfold xH;split
    ·split <;> simp
    ·simp
   rw[i4,aJ,aI];lia
 have h:=this (ak ((p.2-p.1).toNat+1));rwa [eH]at h
theorem Xi(w t:List Nat)(M n:Int):∀(L:List (Int×Int)) (lo:Int),(L.Pairwise λp q=>p.2<q.1)->(∀p∈L,lo<=p.1/\p.1<=p.2/\p.2<=n)->lo<=n+1->((L.flatMap (sE w t M)).length:Int)<=n+1-lo
 |[],lo,_,_,h=>by show(0:Int)<=_;lia
 |p::L,lo,e,c,_=>by
  obtain⟨a,b⟩:=BO.mp e;obtain⟨f,g,i⟩:=c p aw;have j:=Xi w t M n L (p.2+1) b (λq d=>⟨by have:=a q d;lia,(c q (aq _ d)).2⟩) (by lia);have k:=N9 w t M p;rw[i4,aJ];lia
theorem bW(w t:List Nat)(M:Int)(a:Option Ent)(l:w.length<=1000)(m:t.length<=900):∀(L:List (Int×Int)) (acc:List (Int×Int)) (c d:Option Ent),(∀p∈L,0<=p.1/\p.1<=p.2/\p.2<=(t.length:Int))->acc.length+(L.flatMap (sE w t M)).length<=1000000->∃g h,
  loop (wW (yO (zN 5) (yO (zN 6) wQ))) pZ (L.map zj) [~~~[w],~~~M,~~~[t],a,aa (.own (acc.map zj)),c,d] =
  aa (.nx [~~~[w],~~~M,~~~[t],a,aa (.own ((acc++L.flatMap (sE w t M)).map zj)),g,h])
 |[],acc,c,d,_,_=>⟨c,d,by rw[List.flatMap_nil,ek];rfl⟩
 |p::L,acc,c,d,n,s=>by
  obtain⟨i,o,u⟩:=n p aw;rw[i4,aJ]at s;obtain⟨g,h,e⟩:=bW w t M a l m L (acc++sE w t M p) (~~~p.1) (~~~p.2) (λq x=>n q (aq _ x)) (by rw[aJ];lia);have y:pZ [~~~[w],~~~M,~~~[t],a,aa (.own (acc.map zj)),~~~p.1,~~~p.2]=aa (.nx [~~~[w],~~~M,~~~[t],a,aa (.own ((acc++sE w t M p).map zj)),~~~p.1,~~~p.2]):=by
   obtain⟨C,E⟩:=p;dsimp only at i o u;obtain⟨b,rfl⟩:=eu i;obtain⟨f,rfl⟩:=eu (Bp i o);have j:=mV (A:=za 5) (B:=eC (.int 0)) (δ:=[~~~[w],~~~M,~~~[t],a,aa (.own (acc.map zj)),~~~(b:Int),~~~(f:Int)]) rfl rfl;rw[if_neg (by lia)]at j;have k:=Zx (A:=za 6) (B:=zm ya (zb (za 2) zd)) (δ:=[~~~[w],~~~M,~~~[t],a,aa (.own (acc.map zj)),~~~(b:Int),~~~(f:Int)]) rfl (wJ rfl (yj t) (by lia));rw[if_neg (by lia)]at k;have r:=Ln w t M (b:=b) (e:=f) (by lia) (by lia) l m;have z:zi [.v,.v,.v,.v,.v] ml (zb (za 0) (zb (za 1) (zb (za 2) (zb (zm tu (zb (za 5) (zb (eC (.int 0)) zd))) (zb (zm vA (zb (za 6) (zb (zm ya (zb (za 2) zd)) zd))) zd))))) [~~~[w],~~~M,~~~[t],a,aa (.own (acc.map zj)),~~~(b:Int),~~~(f:Int)]=aa (.own ((sE w t M ((b:Int),(f:Int))).map zj)):=by
    generalize (sE w t M ((b:Int),(f:Int))).map zj=R at r;generalize zm tu (zb (za 5) (zb (eC (.int 0)) zd))=G at j;generalize zm vA (zb (za 6) (zb (zm ya (zb (za 2) zd)) zd))=H at k;simp only[zi,zb,za,zF,zG,j,k,zd,zl,zk,yq,yL,zL,r]
   refine(show pZ _=_ from VF (ds:=acc.map zj) rfl z (by rw[ar,ar];lia)).trans ?_;rw[eI];rfl
  refine⟨g,h,?_⟩;rw[eG]at e;exact(wK rfl y).trans e
theorem Ss(w t:List Nat)(M:Int)(K:List (Int×Int))(a:Kp (t.length:Int) K)(b:w.length<=1000)(c:t.length<=900):mj [.str (mkS w),.int M,.str (mkS t),.tup (K.map zj)]=aa (.val (.tup ((K.flatMap (sE w t M)).map zj))):=by
 have i:=Xi w t M (t.length:Int) K 0 a.apart a.ok (by lia);obtain⟨d,f,e⟩:=bW w t M (aa (.val (.tup (K.map zj)))) b c K [] ab ab a.ok (by rw[Af];lia);rw[iz]at e;have g:lJ [~~~[w],~~~M,~~~[t],aa (.val (.tup (K.map zj))),ab,ab,ab]=aa (.rt (.val (.tup ((K.flatMap (sE w t M)).map zj))) [~~~[w],~~~M,~~~[t],aa (.val (.tup (K.map zj))),aa (.own ((K.flatMap (sE w t M)).map zj)),d,f]):=by
  refine(show lJ _=_ from yf (tp (show z7 zd _=aa (.own [])from rfl))).trans ((v7 (ds:=K.map zj) rfl e).trans (xQ ?_))
  have h:((K.flatMap (sE w t M)).map zj).length<=1000000:=by rw[ar];lia
  generalize (K.flatMap (sE w t M)).map zj=R at h;simp only[zm,zb,za,zG,zF,zd,zl,zk,wO,zS]
 exact(congrArg (λo=>ez o _) g).trans rfl
end
section
open CE
theorem Vm(w t:List Nat)(m:Int)(a:0<=m/\m<=1000)(b:w.length<=1000)(c:t.length<=900):qY [.str (mkS w),.int m,.str (mkS t)]=aa (.val (.tup ((wA (y9 (xD (wH w t m 1) w.length m (t.length+1)))).map zj))):=by
 have h:=bX w t m 1 (by decide) a b c;generalize (wA (y9 (xD (wH w t m 1) w.length m (t.length+1)))).map zj=R at h;simp only[qY,zw,yH,yU,zl,zk,gZ,zn,zi,zb,za,aB,xU,eC,zd,yd,zF,zG,yq,yL,zL,h,yh]
structure Sv(w t:List Nat)(M:Int)(K:List (Int×Int)):Prop where
 kp:Kp (t.length:Int) K
 k3:∀(s j:Nat) (c:Int),Sg (zz (wP w) t) pl 0 s w.length j c->c<=M->j<=t.length->∃p∈K,p.1<=(s:Int)/\(j:Int)<=p.2
theorem Lr(w t:List Nat)(M:Nat):Sv w t M (wA (y9 (xR w t M (M+1)))):=by
 obtain⟨a,b⟩:=bz (n:=(t.length:Int)) (xR w t M (M+1)) (QT w t M);refine⟨a,λs j c g d e=>?_⟩;obtain⟨q,f,i,k⟩:=QR M g d e;obtain⟨r,h,l,m⟩:=b q f;exact⟨r,h,by lia,by lia⟩
theorem YG(w t:List Nat)(M q:Nat)(a:1<=q):Sv w t M (wA (y9 (xD (wH w t M q) w.length M (t.length+1)))):=by
 obtain⟨b,d⟩:=bz (n:=(t.length:Int)) (xD (wH w t M q) w.length M (t.length+1)) (PL w t M _);refine⟨b,λs j c g e f=>?_⟩;obtain⟨p,h,k,l⟩:=PJ M q a g e f;obtain⟨r,i,m,o⟩:=d p h;exact⟨r,i,by lia,by lia⟩
variable {w t:List Nat}{M:Int}(hw:w.length<=1000)(ht:t.length<=900)
include hw ht
end
theorem kK{ft:D->Option Bool}{fe:D->Option Ent}(q:D->Bool):∀(ds:List D),(∀d∈ds,ft d=aa (q d))->(∀d∈ds,fe d=aa (.val d))->yV ft fe ds=aa (ds.filter q)
 |[],_,_=>rfl
 |d::ds,b,c=>by
  simp only[yV];rw[b d aw,c d aw,kK q ds (λx a=>b x (aq _ a)) λx a=>c x (aq _ a)];cases h:q d <;> simp[h,zL]
section
theorem dh(i:Int):nZ [.int i,.int i]=aa (.val (.bl true)):=by
 have a:("int" == "int")=true:=rfl;have b:("int" == "bool")=false:=rfl;have c:("int" == "tuple")=false:=rfl;have d:("bool" == "int")=false:=rfl;simp (disch:=omega) only[nZ,zw,yH,yU,zl,zk,sM,zf,zI,zg,zo,za,aB,zU,yD,zc,zm,zb,zd,wy,zn,eC,yd,zM,xA,xB,zG,zF,va,tK,yZ,rK,sK,c,b,oF,A7,y0,zR,ss,yC,yc,zS,bC,jr,yi,ym,vQ,a,d,k6,yr,vo,xn,yh]
theorem di{c:List D->Option Ent}(a b:Option Ent):∀(ds:List D) (x y:Option Ent),(∀d∈ds,c [d,d]=aa (.val (.bl true)))->∃f g,loop (wW (yO (zN 2) (yO (zN 3) wQ))) (pU c) ((ds.zip ds).map λp=>D.tup [p.1,p.2]) [a,b,x,y]=aa (.nx [a,b,f,g])
 |[],x,y,_=>⟨x,y,rfl⟩
 |d::ds,x,y,h=>by
  have i:=h d aw;have j:pU c [a,b,aa (.val d),aa (.val d)]=aa (.nx [a,b,aa (.val d),aa (.val d)]):=by
   simp only[pU,zI,yD,zg,zi,zb,za,zG,zF,zd,zl,zk,yq,yL,zL,i,zR,vW,zn,eC,yd,zM,yZ,y0]
  obtain⟨f,g,e⟩:=di a b ds (aa (.val d)) (aa (.val d)) λz k=>h z (aq _ k);exact⟨f,g,o6 (wK rfl j) e⟩
theorem dj{a:List D->Option Ent}(ds:List D)(f:ds.length<=100000)(h:∀d∈ds,a [d,d]=aa (.val (.bl true))):zw [.v,.v] 2 (sM a) [.tup ds,.tup ds]=aa (.val (.bl true)):=by
 obtain⟨g,i,e⟩:=di (aa (.val (.tup ds))) (aa (.val (.tup ds))) ds ab ab h;have b:("tuple" == "tuple")=true:=rfl;generalize c:(ds.zip ds).map (λp=>D.tup [p.1,p.2])=j at *;simp (disch:=omega) only[zw,yH,yU,zl,zk,sM,zf,zI,zg,zo,za,aB,zU,yD,zc,zm,zb,zd,wy,zn,eC,yd,zM,xA,xB,zG,zF,va,tK,yZ,rK,sK,b,Dh,y0,zR,vW,yC,yc,vo,xn,ym,ye,jm,qV,m9,c,e,yi,yh]
theorem Wh(ds:List D)(b:ds.length<=100000)(h:∀d∈ds,∃i j:Int,d=.tup [.int i,.int j]):ma [.tup ds,.tup ds]=aa (.val (.bl true)):=by
 unfold ma;refine dj ds b λd a=>?_;obtain⟨i,j,rfl⟩:=h d a;unfold jf;refine dj [.int i,.int j] (by simp) λd a=>?_;simp only[aC,eO,or_false]at a;rcases a with rfl|rfl
 ·exact dh _
 ·exact dh _
end
section
open CE
inductive Kd5|same|exch|put|left|turn
noncomputable def Kd5.s:Kd5->Str
 |.same=> "same"|.exch=> "exchanged"|.put=> "put"|.left=> "left"|.turn=> "turned"
def Kd5.cu:Kd5->Nat
 |.same=>1|.exch=>1|.put=>0|.left=>1|.turn=>2
def Kd5.su:Kd5->Nat
 |.same=>1|.exch=>1|.put=>1|.left=>0|.turn=>2
noncomputable def Kd5.pr(p:Pr):Kd5->Int
 |.same=>0|.exch=>p.exch|.put=>p.put|.left=>p.left|.turn=>p.turn
noncomputable def Kd5.dn(p:Pr):Kd5->Bool
 |.same=>true|.exch=>decide (p.exch≠0)|.put=>decide (p.put≠0)|.left=>decide (p.left≠0)|.turn=>decide (p.turn≠0)
noncomputable def Kd5.ft(f:Nat->Nat->Bool)(i j:Nat):Kd5->Bool
 |.same=>f i j|.exch=>!f i j|.put=>true|.left=>true|.turn=>f (i+1) j&&f i (j+1)
theorem YC(p:Pr)(k:Kd5):rH [p.d,.str k.s]= ~~~(k.pr p):=by cases k <;> kernel_rfl
theorem bo(p:Pr)(k:Kd5):rE [p.d,.str k.s]=aa (.val (.bl (k.dn p))):=by
 have h:∀a:Int,decide (a≠0)=!decide (V.int a=V.int 0):=λa=>by
  rw[decide_eq_decide.mpr (show(V.int a=V.int 0) ↔ a=0 from ⟨V.int.inj,congrArg _⟩)];exact decide_not
 cases k <;> simp only[Kd5.dn,h] <;> kernel_rfl
variable (P:List Str)(T:List Nat)
theorem dL{i:Nat}(h:i<P.length){k:Int}(e:k=(i:Int)):zO (P.map D.str) k=aa (.str (P.getD i (mkS []))):=by
 subst e;rw[nC D.str (mkS []) (by lia) (by lia)];simp
theorem Yp{j:Nat}(h:j<T.length){k:Int}(e:k=(j:Int)):zO T k=aa (T.getD j 0):=by
 subst e;refine qu ?_;rw[aD h,ee,aD h];rfl
def uG(f:Nat->Nat->Bool)(m n i j:Nat)(k:Kd5):Bool:=if i+k.cu<=m/\j+k.su<=n then k.ft f i j else false
theorem Lk{i j a b m n:Int}(c:E2 δ= ~~~i)(g:E3 δ= ~~~j)(d:X δ= ~~~a)(h:Y δ= ~~~b)
 (e:L0 δ= ~~~m) (h1:L1 δ= ~~~n):zU (zg (zc yF (zc zt E2 X) L0)) (zg (zc yF (zc zt E3 Y) L1)) δ=aa (decide (i+a > m\/j+b > n)):=by
  by_cases f:i+a > m
  · simp only[zU,zg,zc,c,d,zt,z8,zr,zk,zl,e,yF,f,xn,zR,yi,rM]
  · by_cases k:j+b > n <;> simp only[zU,zg,zc,c,d,zt,z8,zr,zk,zl,e,yF,f,xu,zR,g,h,h1,k,xn,yZ,y0,uh,or_self]
theorem lp(k:Kd5)(h:Z δ=aa (.val (.str k.s))):zo (vj [("same",1),("exchanged",1),("put",0),("left",1),("turned",2)]) Z δ= ~~~(k.cu:Int):=by
 unfold zo;rw[h];cases k <;> kernel_rfl
theorem lq(k:Kd5)(h:Z δ=aa (.val (.str k.s))):zo (vj [("same",1),("exchanged",1),("put",1),("left",0),("turned",2)]) Z δ= ~~~(k.su:Int):=by
 unfold zo;rw[h];cases k <;> kernel_rfl
def ga(i j:Nat)(k:Kd5):En:=[aa (.val (.tup (P.map .str))),~~~[T],~~~(i:Int),~~~(j:Int),aa (.val (.str k.s))]
theorem hX{E0 c d e:FE}{δ:En}{a b:Nat}(f:E0 δ=aa (.val (.tup (P.map .str))))(g:c δ= ~~~[T])(h:T.length<=1000000)(h1:d δ= ~~~(b:Int))(i:e δ= ~~~(a:Int))(j:a<P.length)(k:b<T.length) :
  zc v9 (zc wI c d) (zc zV E0 e) δ=aa (.val (.bl (zz P T a b))):=by
 have l:=dL P j rfl;have m:=Yp T k rfl;simp only[zc,g,h1,wI,zP,zr,zk,yj,h,yI,wG,m,zl,zT,f,i,zV,yc,l,v9];rfl
theorem Ll{E0 c d e:FE}{δ:En}{a b:Nat}(f:E0 δ=aa (.val (.tup (P.map .str))))(g:c δ= ~~~[T])(h:T.length<=1000000)(h1:d δ= ~~~(b:Int))(i:e δ= ~~~(a:Int))(j:a<P.length)(k:b<T.length) :
  zc tz (zc wI c d) (zc zV E0 e) δ=aa (.val (.bl (!zz P T a b))):=by
 have l:=dL P j rfl;have m:=Yp T k rfl;simp only[zc,g,h1,wI,zP,zr,zk,yj,h,yI,wG,m,zl,zT,f,i,zV,yc,l,tz];rfl
theorem YB(l:P.length<=100000)(m:T.length<=100000)(k:Kd5)(i j:Nat)(hi:i<=P.length)(n:j<=T.length) :
  rC [.tup (P.map .str),.str (mkS T),.int (i:Int),.int (j:Int),.str k.s]=aa (.val (.bl (uG (zz P T) P.length T.length i j k))):=by
 have d:T.length<=1000000:=by lia
 have h:pW (ga P T i j k)=aa (.rt (.val (.bl (uG (zz P T) P.length T.length i j k))) (ga P T i j k)):=by
  have e:=Lk (E2:=za 2) (E3:=za 3) (δ:=ga P T i j k) rfl rfl (lp k (Z:=za 4) rfl) (lq k (Z:=za 4) rfl) (Zg (E:=za 0) rfl (ar _)) (wJ (E:=za 1) rfl (yj T) d);unfold uG;by_cases c:i+k.cu<=P.length/\j+k.su<=T.length
  ·rw[if_pos c];obtain⟨f,g⟩:=c;rw[decide_eq_false (by lia)]at e;refine(show pW _=_ from yf (xm e)).trans ?_;cases k with
   |same=>exact uQ ((vU (by kernel_rfl)).trans (xQ (hX P T rfl rfl d rfl rfl f g)))
   |exch=>exact(yf (xm (by kernel_rfl))).trans (uQ ((vU (by kernel_rfl)).trans (xQ (Ll P T rfl rfl d rfl rfl f g))))
   |put=>exact(yf (xm (by kernel_rfl))).trans ((yf (xm (by kernel_rfl))).trans ((yf (xm (by kernel_rfl))).trans (xQ rfl)))
   |left=>exact(yf (xm (by kernel_rfl))).trans ((yf (xm (by kernel_rfl))).trans ((yf (xm (by kernel_rfl))).trans (xQ rfl)))
   |turn=>
    exact(yf (xm (by kernel_rfl))).trans ((yf (xm (by kernel_rfl))).trans (uQ ((vU (by kernel_rfl)).trans (xQ (d8 (hX P T rfl rfl d rfl (a:=i+1) rfl (Nat.lt_of_succ_le f) (DC g)) (hX P T rfl rfl d (b:=j+1) rfl rfl (DC f) g))))))
  ·rw[if_neg c];rw[decide_eq_true (by lia)]at e;exact show pW _=_ from uQ ((vU e).trans (xQ rfl))
 exact(congrArg (λo=>ez o _) h).trans rfl
end
section
open CE
theorem U5(k:Kd5):mq [.str k.s]=aa (.val (.bl true)):=by cases k <;> kernel_rfl
theorem QK(a:X δ=aa (.val (.bl true)))(b:Y δ=aa (.val (.bl true)))(c:Z δ=aa (.val (.bl true))):zU (yD (zg X)) (zU (yD (zg Y)) (yD (zg Z))) δ=aa false:=by simp only[zU,yD,zg,a,zk,zR,zl,vW,b,c,yZ,y0]
def wq(f:Nat->Nat->Bool)(m n:Nat)(p:Pr):List Kd5->Nat->Nat->Prop
 |[],i,j=>i=m/\j=n
 |k::r,i,j=>k.dn p=true/\uG f m n i j k=true/\wq f m n p r (i+k.cu) (j+k.su)
theorem Lj{f:Nat->Nat->Bool}{m n i j:Nat}{k:Kd5}(h:uG f m n i j k=true):i+k.cu<=m/\j+k.su<=n:=by
 unfold uG at h;by_cases c:i+k.cu<=m/\j+k.su<=n
 ·exact c
 ·rw[if_neg c]at h;cases h
variable (P:List Str)(T:List Nat)(p:Pr)(hP:P.length<=100000)(hT:T.length<=100000)
abbrev ldF(rw:Option Ent)(i j:Nat)(x:Option Ent):En:=[aa (.val (.tup (P.map .str))),~~~[T],aa (.val p.d),rw,~~~(i:Int),~~~(j:Int),x]
include hP hT
theorem SR(k:Kd5)(i j:Nat)(hi:i<=P.length)(d:j<=T.length)(rw:Option Ent)(h1:k.dn p=true)(e:uG (zz P T) P.length T.length i j k=true) :
  ng (ldF P T p rw i j (aa (.val (.str k.s))))=aa (.nx (ldF P T p rw (i+k.cu) (j+k.su) (aa (.val (.str k.s))))):=by
 have f:zi [.v] mq (zb (za 6) zd) (ldF P T p rw i j (aa (.val (.str k.s))))=_:=U5 k;have b:=bo p k;have c:=YB P T hP hT k i j hi d;rw[h1]at b;rw[e]at c;exact(show ng _=_ from yf (xm (QK f b c))).trans ((y8 (wu (a:=(i:Int)) rfl (lp k rfl))).trans (rh (wu (a:=(j:Int)) rfl (lq k rfl))))
theorem Ze(rw:Option Ent):∀(ks:List Kd5) (i j:Nat) (a:Option Ent),i<=P.length->j<=T.length->wq (zz P T) P.length T.length p ks i j->∃c,
  loop (zN 6) ng ((ks.map Kd5.s).map .str) (ldF P T p rw i j a)=aa (.nx (ldF P T p rw P.length T.length c))
 |[],_,_,a,_,_,h=>by obtain⟨rfl,rfl⟩:=h;exact⟨a,rfl⟩
 |k::ks,i,j,_,d,f,h=>by
  have b:=Lj h.2.1;obtain⟨y,e⟩:=Ze rw ks _ _ (aa (.val (.str k.s))) b.1 b.2 h.2.2;exact⟨y,o6 (wK rfl (SR P T p hP hT k i j d f rw h.1 h.2.1)) e⟩
theorem SS(ks:List Kd5)(h:wq (zz P T) P.length T.length p ks 0 0):mu [.tup (P.map .str),.str (mkS T),p.d,.tup ((ks.map Kd5.s).map .str)]=aa (.val (.bl true)):=by
 obtain⟨y,e⟩:=Ze P T p hP hT (aa (.val (.tup ((ks.map Kd5.s).map .str)))) ks 0 0 ab (aM _) (aM _) h;have t:=d8 (δ:=ldF P T p (aa (.val (.tup ((ks.map Kd5.s).map .str)))) P.length T.length y) (cn (E:=za 4) rfl (Zg (E:=za 0) rfl (ar _))) (cn (E:=za 5) rfl (wJ (E:=za 1) rfl (yj T) (by lia)));rw[decide_eq_true rfl,decide_eq_true rfl]at t;have a:l8 [aa (.val (.tup (P.map .str))),~~~[T],aa (.val p.d),aa (.val (.tup ((ks.map Kd5.s).map .str))),ab,ab,ab]=aa (.rt (.val (.bl true)) _):=(show l8 _=_ from y8 rfl).trans ((y8 rfl).trans ((v7 (δ:=ldF P T p (aa (.val (.tup ((ks.map Kd5.s).map .str)))) 0 0 ab) rfl e).trans (xQ t)))
 exact(congrArg (λo=>ez o _) a).trans rfl
end
section
open CE
variable (p:Pr)
theorem NV(ks:List Kd5)(j:ks.length<=100000):pd [p.d,.tup ((ks.map Kd5.s).map .str)]=aa (.val (.int (ks.map (Kd5.pr p)).sum)):=by
 have b:yB [0] (iT (za 1)) yR kf [aa (.val p.d),aa (.val (.tup ((ks.map Kd5.s).map .str)))]=aa (.own ((ks.map (Kd5.pr p)).map D.int)):=by
  refine w6 (ds:=(ks.map Kd5.s).map .str) rfl ?_ (by simp;lia);refine qD _ _ (by simp) (λd _=>rfl) λi d a=>?_;rw[av,av]at a;obtain⟨z,c,e⟩:=iR.mp a;obtain⟨k,f,g⟩:=iR.mp c;subst e g;exact⟨.int (k.pr p),(congrArg (ez · zL) (show kf [aa (.val (.str k.s)),aa (.val p.d)]=_ from YC p k)).trans rfl,by rw[av,av,f];rfl⟩
 have h:=jn (ks.map (Kd5.pr p));simp (disch:=omega) only[pd,zw,yH,yU,zl,zk,fU,zn,zm,zb,aB,xU,zd,yd,b,rn,zS,h,yh]
end
def tab(c:Nat->Nat->Option Int)(m n:Nat):List D:=(ak (m+1)).map λi=>wZ c n i
theorem LC(c:Nat->Nat->Option Int)(m n k:Nat){i:Int}(e:i=(k:Int))(h:k<=m):zO (tab c m n) i=aa (.tup ((ak (n+1)).map λj=>CE.oD (c k j))):=by
 subst e;refine qu ?_;unfold tab;rw[av,a6 (by lia)];rfl
theorem NS(c:Nat->Nat->Option Int)(n a k:Nat){i:Int}(e:i=(k:Int))(h:k<=n):zO ((ak (n+1)).map λj=>CE.oD (c a j)) i=aa (CE.oD (c a k)):=by
 subst e;rw[NQ c n a (by lia) (by lia)];simp
section
open CE
variable (P:List Str)(T:List Nat)(p:Pr)
def vb(c:Nat->Nat->Option Int)(f:Nat->Nat->Bool)(m n i j:Nat)(x:Int)(k:Kd5):Bool:=
 if k.cu<=i/\k.su<=j then (k.dn p&&uG f m n (i-k.cu) (j-k.su) k)&&(match c (i-k.cu) (j-k.su)with|some v=>decide (v+k.pr p=x)|none=>false)else false
theorem br{E0 d E2:FE}{δ:En}{c:Nat->Nat->Option Int}{m n a b:Nat}(e:E0 δ=aa (.val (.tup (tab c m n))))(h1:d δ= ~~~(a:Int))(f:E2 δ= ~~~(b:Int))(g:a<=m)(h:b<=n) :
  zc zV (zc zV E0 d) E2 δ=aa (.val (oD (c a b))):=by
 simp only[zc,e,h1,zV,yc,zr,zk,LC c m n a rfl g,zl,f,NS c n a b rfl h]
theorem Vb{a x:Int}(b:E9 δ=aa (.val (oD v)))(c:X δ= ~~~a)(d:Y δ= ~~~x) :
 vQ (zc ua E9 (eC .non)) (zc yr (zc zt E9 X) Y) δ=aa (.val (.bl (match (generalizing:=false) v with|some v=>decide (v+a=x)|none=>false))):=by
  cases v with
  |none=>rw[jL]at b;simp only[vQ,zc,b,eC,ua,xY,zk,vW,zR,zt,z8,zr,jr,yr,yZ,y0]
  |some v=>rw[sB]at b;by_cases e:v+a=x <;> simp only[vQ,zc,b,eC,ua,xY,zk,ss,zR,c,zt,z8,zr,zl,e,d,yr,vo,xn,yi,xu]
theorem Vf(B:P.length<=100000)(C:T.length<=100000)(c:Nat->Nat->Option Int)(k:Kd5)(i j:Nat)(hi:i<=P.length)(G:j<=T.length){x:Int}(H:c i j=aa x) :
  jg [.tup (tab c P.length T.length),.tup (P.map .str),.str (mkS T),p.d,.int (i:Int),.int (j:Int),.str k.s]=aa (.val (.bl (vb p c (zz P T) P.length T.length i j x k))):=by
 suffices hF:∃g,lI [aa (.val (.tup (tab c P.length T.length))),aa (.val (.tup (P.map .str))),~~~[T],aa (.val p.d),~~~(i:Int),~~~(j:Int),aa (.val (.str k.s)),ab,ab,ab]=aa (.rt (.val (.bl (vb p c (zz P T) P.length T.length i j x k))) g)from
  hF.elim λ_ h=>(congrArg (λo=>ez o _) h).trans rfl
 have n:=wl (E:=za 4) (F:=zo (vj [("same",1),("exchanged",1),("put",0),("left",1),("turned",2)]) (za 6)) (δ:=[aa (.val (.tup (tab c P.length T.length))),aa (.val (.tup (P.map .str))),~~~[T],aa (.val p.d),~~~(i:Int),~~~(j:Int),aa (.val (.str k.s)),ab,ab,ab]) rfl (lp k rfl);have q:=wl (E:=za 5) (F:=zo (vj [("same",1),("exchanged",1),("put",1),("left",0),("turned",2)]) (za 6)) (δ:=[aa (.val (.tup (tab c P.length T.length))),aa (.val (.tup (P.map .str))),~~~[T],aa (.val p.d),~~~(i:Int),~~~(j:Int),aa (.val (.str k.s)),~~~((i:Int)-(k.cu:Int)),ab,ab]) rfl (lq k rfl);rw[show lI [aa (.val (.tup (tab c P.length T.length))),aa (.val (.tup (P.map .str))),~~~[T],aa (.val p.d),~~~(i:Int),~~~(j:Int),aa (.val (.str k.s)),ab,ab,ab]=_ from (y8 n).trans (y8 q)];clear n q;have l:=QO (X:=za 7) (Y:=za 8) (δ:=[aa (.val (.tup (tab c P.length T.length))),aa (.val (.tup (P.map .str))),~~~[T],aa (.val p.d),~~~(i:Int),~~~(j:Int),aa (.val (.str k.s)),~~~((i:Int)-(k.cu:Int)),~~~((j:Int)-(k.su:Int)),ab]) rfl rfl;unfold vb;by_cases r:k.cu<=i/\k.su<=j
 ·rw[if_pos r];rw[decide_eq_false (by lia)]at l;generalize I:i-k.cu=b at *;generalize J:j-k.su=e at *;have t:(i:Int)-(k.cu:Int)=(b:Int):=by lia
  have u:(j:Int)-(k.su:Int)=(e:Int):=by lia
  rw[t,u]at l;have y:b<=P.length:=by lia
  have A:e<=T.length:=by lia
  have m:=QP (X:=zi [.v,.v] rE (zb (za 3) (zb (za 6) zd))) (Y:=zi [.v,.v,.v,.v,.v] rC (zb (za 1) (zb (za 2) (zb (za 7) (zb (za 8) (zb (za 6) zd)))))) (δ:=[aa (.val (.tup (tab c P.length T.length))),aa (.val (.tup (P.map .str))),~~~[T],aa (.val p.d),~~~(i:Int),~~~(j:Int),aa (.val (.str k.s)),~~~(b:Int),~~~(e:Int),ab])
   (show rE [p.d,.str k.s]=_ from bo p k) (show rC [.tup (P.map .str),.str (mkS T),.int (b:Int),.int (e:Int),.str k.s]=_ from YB P T B C k b e y A)
  rw[t,u];show ∃g,zf _ _ _=_;rw[yf (f:=zI _ _ _) (xm l)];cases d:(k.dn p&&uG (zz P T) P.length T.length b e k)with
  |false=>
   rw[d]at m;exact⟨_,uQ ((vU m).trans (xQ rfl))⟩
  |true=>
   rw[d]at m;refine⟨?w,(yf (xm m)).trans ((y8 (br (c:=c) rfl rfl rfl y A)).trans ?z)⟩
   case z=>
    refine xQ ?_;refine Vb (v:=c b e) rfl (a:=k.pr p) ?_ ?_
    ·exact show rH [p.d,.str k.s]=_ from YC p k
    ·refine(br (c:=c) rfl rfl rfl hi G).trans ?_;rw[H,sB]
 ·rw[if_neg r];rw[decide_eq_true (by lia)]at l;exact⟨_,uQ ((vU l).trans (xQ rfl))⟩
end
section
open CE
variable (f:Nat->Nat->Bool)(p:Pr)
theorem tI{x:Int}(h:lw cs=aa x):aa x∈cs:=by
 have:=Zy h;obtain⟨o,a,b⟩:=Ag.mp this;cases b;exact a
theorem vH{q x:Int}(h:zY c q=aa x):q≠0/\∃v,c=aa v/\v+q=x:=by
 unfold zY at h;by_cases e:q=0
 ·rw[if_pos e]at h;cases h
 ·rw[if_neg e]at h;cases c with
  |none=>cases h
  |some v=>cases h;exact⟨e,v,rfl,rfl⟩
theorem sA{c:Nat->Nat->Option Int}{m n i j:Nat}{x v:Int}{k:Kd5}(h1:k.cu<=i)(a:k.su<=j)(hi:i<=m)(h:j<=n)(b:k.dn p=true)(d:k.ft f (i-k.cu) (j-k.su)=true)(e:c (i-k.cu) (j-k.su)=aa v)(g:v+k.pr p=x):vb p c f m n i j x k=true:=by
 unfold vb uG;rw[if_pos ⟨h1,a⟩,if_pos ⟨by lia,by lia⟩,b,d,e];simp only[g,decide_true,Eb]
theorem VD{m n i j:Nat}{x:Int}(hi:i<=m)(c:j<=n)(o:0<i\/0<j)(h:zh f p false i j=aa x):∃k:Kd5,vb p (zh f p false) f m n i j x k=true:=by
 cases i with
 |zero=>
  cases j with
  |zero=>lia
  |succ j=>
   rw[sW,if_neg (by decide)]at h;obtain⟨q,v,a,b⟩:=vH h;exact⟨.put,sA f p (v:=v) (by decide) (by simp[Kd5.su]) hi c (by simpa [Kd5.dn] using q) rfl (by simpa [Kd5.cu,Kd5.su] using a) b⟩
 |succ i=>
  cases j with
  |zero=>
   rw[qA]at h;obtain⟨q,v,a,b⟩:=vH h;exact⟨.left,sA f p (v:=v) (by simp[Kd5.cu]) (by decide) hi c (by simpa [Kd5.dn] using q) rfl (by simpa [Kd5.cu,Kd5.su] using a) b⟩
  |succ j=>
   rw[uN]at h;have l:=tI h;simp only[aC,eO,or_false]at l;rcases l with e|e|e|e
   ·by_cases q:f i j=true
    ·rw[if_pos q]at e;exact⟨.same,sA f p (v:=x) (by simp[Kd5.cu]) (by simp[Kd5.su]) hi c rfl (by simpa [Kd5.ft,Kd5.cu,Kd5.su] using q) (by simpa [Kd5.cu,Kd5.su] using e.symm) (by simp[Kd5.pr])⟩
    ·rw[if_neg q]at e;obtain⟨d,v,a,b⟩:=vH e.symm;exact⟨.exch,sA f p (v:=v) (by simp[Kd5.cu]) (by simp[Kd5.su]) hi c (by simpa [Kd5.dn] using d) (by simpa [Kd5.ft,Kd5.cu,Kd5.su] using q) (by simpa [Kd5.cu,Kd5.su] using a) b⟩
   ·obtain⟨d,v,a,b⟩:=vH e.symm;exact⟨.put,sA f p (v:=v) (by simp[Kd5.cu]) (by simp[Kd5.su]) hi c (by simpa [Kd5.dn] using d) rfl (by simpa [Kd5.cu,Kd5.su] using a) b⟩
   ·obtain⟨d,v,a,b⟩:=vH e.symm;exact⟨.left,sA f p (v:=v) (by simp[Kd5.cu]) (by simp[Kd5.su]) hi c (by simpa [Kd5.dn] using d) rfl (by simpa [Kd5.cu,Kd5.su] using a) b⟩
   ·obtain⟨d,v,a,b⟩:=vH e.symm;unfold tc at a;by_cases q:0<i/\0<j
    ·rw[if_pos q]at a;by_cases g:(f i (j-1)&&f (i-1) j)=true
     ·rw[if_pos g]at a;refine⟨.turn,sA f p (v:=v) (by simp[Kd5.cu];lia) (by simp[Kd5.su];lia) hi c (by simpa [Kd5.dn] using d) ?_ ?_ b⟩
      ·show(f (i+1-2+1) (j+1-2)&&f (i+1-2) (j+1-2+1))=true;rw[show i+1-2+1=i by lia,show j+1-2=j-1 by lia,show i+1-2=i-1 by lia,show j-1+1=j by lia];exact g
      ·show zh f p false (i+1-2) (j+1-2)=aa v;rw[show i+1-2=i-1 by lia,show j+1-2=j-1 by lia];exact a
     ·rw[if_neg g]at a;cases a
    ·rw[if_neg q]at a;cases a
noncomputable def ks5:List Kd5:=[.same,.exch,.put,.left,.turn]
theorem Rp(k:Kd5):k∈ks5:=by cases k <;> simp[ks5]
theorem dM{ft:D->Option Bool}{fe:D->Option Ent}{b:Kd5->Bool}(h1:∀k:Kd5,ft (.str k.s)=aa (b k))(c:∀z:Str,fe (.str z)=aa (.val (.str z))):∀a:List Kd5,yV ft fe ((a.map Kd5.s).map .str)=aa (((a.filter b).map Kd5.s).map .str)
 |[]=>rfl
 |k::a=>by
  rw[ay,ay,yV,h1,dM h1 c a,List.filter_cons];cases b k with
  |true=>simp only[a5,if_true,c,zL,i8,ay]
  |false=>simp only[a5,if_false,ei]
theorem SL(P:List Str)(T:List Nat)(q:P.length<=100000)(t:T.length<=100000)(c:Nat->Nat->Option Int)(i j:Nat)(hi:i<=P.length)(u:j<=T.length){x:Int}(v:c i j=aa x)(w:∃k,vb p c (zz P T) P.length T.length i j x k=true) :
  ∃k,vb p c (zz P T) P.length T.length i j x k=true/\rF [.tup (tab c P.length T.length),.tup (P.map .str),.str (mkS T),p.d,.int (i:Int),.int (j:Int)]=aa (.val (.str k.s)):=by
 obtain⟨h,e⟩:=w;have l:h∈ks5.filter (vb p c (zz P T) P.length T.length i j x):=ot.mpr ⟨Rp h,e⟩;cases a:ks5.filter (vb p c (zz P T) P.length T.length i j x)with
 |nil=>rw[a]at l;cases l
 |cons k r=>
  have g:vb p c (zz P T) P.length T.length i j x k=true:=(ot.mp (a ▸ aw:k∈ks5.filter (vb p c (zz P T) P.length T.length i j x))).2;refine⟨k,g,?_⟩;have y:r.length+1<=5:=by
   have:=Ap (vb p c (zz P T) P.length T.length i j x) ks5;rw[a]at this;simpa [ks5] using this
  have m:=dM (ft:=λd=>p8 (yw [0,1,2,3,4,5] [aa (.val (.tup (tab c P.length T.length))),aa (.val (.tup (P.map .str))),~~~[T],aa (.val p.d),~~~(i:Int),~~~(j:Int),ab] d))
   (fe:=λd=>lV (yw [0,1,2,3,4,5] [aa (.val (.tup (tab c P.length T.length))),aa (.val (.tup (P.map .str))),~~~[T],aa (.val p.d),~~~(i:Int),~~~(j:Int),ab] d))
   (b:=vb p c (zz P T) P.length T.length i j x) (λk=>by
    have:=Vf P T p q t c k i j hi u v;simp only[p8,zg,zi,zb,za,yw,wY,zF,mL,zk,vN,zG,wR,zd,zl,yq,yL,zL,this,zR]) (λz=>rfl) ks5
  rw[a]at m;have n:=w6 (fr:=[0,1,2,3,4,5]) (fi:=iK ["same","exchanged","put","left","turned"]) (ft:=p8) (fe:=lV) (δ:=[aa (.val (.tup (tab c P.length T.length))),aa (.val (.tup (P.map .str))),~~~[T],aa (.val p.d),~~~(i:Int),~~~(j:Int),ab]) rfl m (by simp;lia);have o:zO (((k::r).map Kd5.s).map D.str) 0=aa (.str k.s):=tY (by decide) rfl;rw[ay,ay]at o n;simp (disch:=omega) only[rF,zw,yH,yU,zl,zk,g0,zf,zq,aB,yd,xA,xB,n,yK,yx,ym,zn,zc,za,zG,zF,eC,yG,zS,zr,o,yh]
end
section
open CE
theorem Kd5.pos(k:Kd5):1<=k.cu+k.su:=by cases k <;> decide
def vf(ks:List Kd5):List D:=(ks.reverse.map Kd5.s).map .str
variable (P:List Str)(T:List Nat)(p:Pr)(hP:P.length<=1000)(hT:T.length<=1000)
include hP hT
theorem Wo(c:Nat->Nat->Option Int)(i j:Nat)(k:Kd5)(ks:List Kd5)(f:Option Ent)(hi:k.cu<=i)(n:k.su<=j)(o:ks.length<=100000)
  (h:rF [.tup (tab c P.length T.length),.tup (P.map .str),.str (mkS T),p.d,.int (i:Int),.int (j:Int)]=aa (.val (.str k.s))) :
  qm [aa (.val (.tup (P.map .str))),~~~[T],aa (.val p.d),aa (.val (.tup (tab c P.length T.length))),aa (.own (vf ks)),~~~(i:Int),~~~(j:Int),f] =
  aa (.nx [aa (.val (.tup (P.map .str))),~~~[T],aa (.val p.d),aa (.val (.tup (tab c P.length T.length))),aa (.own (vf (k::ks))),~~~((i-k.cu:Nat):Int),~~~((j-k.su:Nat):Int),aa (.val (.str k.s))]):=by
 have g:((i-k.cu:Nat):Int)=(i:Int)-(k.cu:Int):=by lia
 have l:((j-k.su:Nat):Int)=(j:Int)-(k.su:Int):=by lia
 have e:vf (k::ks)=vf ks++[.str k.s]:=by simp[vf]
 have m:(vf ks).length<1000000:=by simp[vf];lia
 rw[g,l,e];generalize vf ks=b at *;have s1:zi [.v,.v,.v,.v,.v,.v] rF (zb (za 3) (zb (za 0) (zb (za 1) (zb (za 2) (zb (za 5) (zb (za 6) zd)))))) [aa (.val (.tup (P.map .str))),~~~[T],aa (.val p.d),aa (.val (.tup (tab c P.length T.length))),aa (.own b),~~~(i:Int),~~~(j:Int),f]=aa (.val (.str k.s)):=h;exact(show qm _=_ from y8 s1).trans ((yf (t7 (ds:=b) (v:=.str k.s) rfl rfl m)).trans ((y8 (wl (a:=(i:Int)) rfl (lp k rfl))).trans (rh (wl (a:=(j:Int)) rfl (lq k rfl)))))
theorem dv:∀(N i j:Nat) (ks:List Kd5) (e:Option Ent) (x:Int),i+j<N->i<=P.length->j<=T.length->ks.length+i+j<=3000->zh (zz P T) p false i j=aa x->wq (zz P T) P.length T.length p ks i j ->
  ∃(c:List Kd5) (n:Option Ent),wq (zz P T) P.length T.length p c 0 0/\(c.map (Kd5.pr p)).sum=x+(ks.map (Kd5.pr p)).sum/\c.length<=3000 /\
  vc qo qm N [aa (.val (.tup (P.map .str))),~~~[T],aa (.val p.d),aa (.val (.tup (tab (zh (zz P T) p false) P.length T.length))),aa (.own (vf ks)),~~~(i:Int),~~~(j:Int),e] =
   aa (.nx [aa (.val (.tup (P.map .str))),~~~[T],aa (.val p.d),aa (.val (.tup (tab (zh (zz P T) p false) P.length T.length))),aa (.own (vf c)),~~~0,~~~0,n])
 |0,i,j,ks,e,x,h,_,_,_,_,_=>by lia
 |N+1,i,j,ks,e,x,h,q,r,L,l,t=>by
  by_cases u:0<i\/0<j
  ·obtain⟨k,g,w⟩:=SL p P T (by lia) (by lia) (zh (zz P T) p false) i j q r l (VD (zz P T) p q r u l);unfold vb at g;by_cases f:k.cu<=i/\k.su<=j
   ·rw[if_pos f,eX,eX]at g;obtain⟨⟨y,z⟩,m⟩:=g;have A:=k.pos;cases o:zh (zz P T) p false (i-k.cu) (j-k.su)with
    |none=>rw[o]at m;cases m
    |some v=>
     rw[o]at m;have B:v+k.pr p=x:=of_decide_eq_true m;obtain⟨c,n,C,E,G,H⟩:=dv N (i-k.cu) (j-k.su) (k::ks) (aa (.val (.str k.s))) v (by lia) (by lia) (by lia) (by simp;lia) o ⟨y,z,by rw[Dp f.1,Dp f.2];exact t⟩;refine⟨c,n,C,?_,G,?_⟩
     ·rw[E,ay,oN];lia
     ·have I:qo [aa (.val (.tup (P.map .str))),~~~[T],aa (.val p.d),aa (.val (.tup (tab (zh (zz P T) p false) P.length T.length))),aa (.own (vf ks)),~~~(i:Int),~~~(j:Int),e]=aa true:=by
       refine(show qo _=_ from ZO rfl rfl).trans ?_;rw[decide_eq_true (by lia)]
      rw[XF I (Wo P T p hP hT _ i j k ks e f.1 f.2 (by lia) w)];exact H
   ·rw[if_neg f]at g;cases g
  ·have J:i=0:=by lia
   have K:j=0:=by lia
   subst J K;rw[sV]at l;cases l;refine⟨ks,e,t,by lia,by lia,XE ?_⟩;exact ZO (a:=((0:Nat):Int)) (b:=((0:Nat):Int)) rfl rfl
end
section
open CE
variable (P:List Str)(T:List Nat)(p:Pr)(hP:P.length<=1000)(hT:T.length<=1000)
include hP hT
theorem NX{x:Int}(h:zh (zz P T) p false P.length T.length=aa x):∃a:List Kd5,wq (zz P T) P.length T.length p a 0 0/\(a.map (Kd5.pr p)).sum=x/\a.length<=3000/\mB [.tup (P.map .str),.str (mkS T),p.d]=aa (.val (.tup ((a.map Kd5.s).map .str))):=by
 obtain⟨a,g,k,l,m,n⟩:=dv P T p hP hT 2100 P.length T.length [] ab x (by lia) (aj _) (aj _) (by simp;lia) h ⟨rfl,rfl⟩;refine⟨a,k,by simpa using l,m,?_⟩;have c:=kH P T p false (by lia) (by lia);have e:=rW (λi=>wZ (zh (zz P T) p false) T.length i) P.length;have f:=rW (λj=>oD (zh (zz P T) p false P.length j)) T.length;rw[h,sB]at f;have b:vc qo qm 2100 [aa (.val (.tup (P.map .str))),~~~[T],aa (.val p.d),aa (.val (.tup ((ak (P.length+1)).map λi=>wZ (zh (zz P T) p false) T.length i))),aa (.own []),~~~(P.length:Int),~~~(T.length:Int),ab] =
   aa (.nx [aa (.val (.tup (P.map .str))),~~~[T],aa (.val p.d),aa (.val (.tup ((ak (P.length+1)).map λi=>wZ (zh (zz P T) p false) T.length i))),aa (.own (vf a)),~~~0,~~~0,g]):=n
 have o:(vf a).reverse=(a.map Kd5.s).map .str:=by
  unfold vf;rw[<- Cg,<- Cg,List.reverse_reverse]
 unfold wZ at e c b;have q:T.length<=1000000:=by lia
 rw[CE.Pr.d_ds]at b ⊢;generalize p.ds=r at *;simp (disch:=omega) only[mB,zw,yH,yU,zl,zk,fS,zf,zq,rd,zb,za,aB,zd,yd,xA,xB,zF,zG,yq,yL,zL,vM,c,yK,yx,ym,zI,zg,zc,zo,eC,yp,zr,Int.reduceNeg,zV,yc,e,f,vV,xY,zR,zn,zM,yZ,y0,z7,xb,Nat.reduceLeDiff,yn,yi,zm,yC,ar,ya,zP,yj,yI,zT];simp (disch:=omega) only[b,zk,ym,zn,zo,za,zG,zF,jd,zS,o,yd,zl,yh]
end
section
open CE
theorem V0(cs:List (Option Int)):(cs.map oD).all wo=true:=by
 rw[eM];intro d a;obtain⟨c,_,rfl⟩:=a8.mp a;cases c <;> rfl
theorem cm(c:Option Int)(x:Int):(vi (oD c) (.int x)=true) ↔ c=aa x:=by
 cases c with
 |none=>simp[oD,vi]
 |some a=>simp[oD,vi]
theorem bf(cs:List (Option Int))(m:Int)(h:aa m∈cs):∃j:Nat,tG (cs.map oD) (.int m)= ~~~(j:Int)/\cs[j]? =aa (aa m)/\∀l,l<j->cs[l]?≠aa (aa m):=by
 unfold tG;rw[V0];cases q:(cs.map oD).findIdx? (λe=>vi e (.int m))with
 |some j=>
  refine⟨j,rfl,?_⟩;obtain⟨c,b,d⟩:=oU.mp q;have f:j<cs.length:=by simpa using c
  refine⟨?_,λl g e=>?_⟩
  ·rw[Ce]at b;rw[aD f,(cm _ _).mp b]
  ·have:=d l g;rw[Ce]at this;have a:l<cs.length:=by lia
   rw[aD a]at e;exact this ((cm _ _).mpr (aO e))
 |none=>
  have:=List.findIdx?_eq_none_iff.mp q (.int m) (a8.mpr ⟨aa m,h,rfl⟩);simp[vi]at this
theorem c6{a:Type}(l:List a)(d:a)(x:Nat)(h:x<l.length):l.reverse.getD x d=l.getD (l.length-1-x) d:=by
 rw[ee,ee,CO h]
theorem c7{a:Type}(l:List a)(d:a)(x n:Nat)(h:x<n):(l.take n).getD x d=l.getD x d:=by
 rw[ee,ee,oq h]
theorem Ue{a:Type}(l:List a)(d:a)(b x n:Nat)(h:x<n):((l.drop b).take n).getD x d=l.getD (b+x) d:=by
 rw[c7 _ _ _ _ h,ee,ee,BN]
variable (P:List Str)(T:List Nat)(p:Pr)(e:Nat)
abbrev rj:Nat->Nat->Bool:=zz P.reverse (T.take e).reverse
abbrev sub(l:Nat):List Nat:=(T.drop (e-l)).take l
abbrev tR:List (Option Int):=(ak (e+1)).map λl=>zh (rj P T e) p false P.length l
variable (hP:P.length<=1000)(hT:T.length<=1000)(hp:p.Ok)(he:e<=T.length)
include he in
theorem cF(x y:Nat)(a:x<P.length)(c:y<e):rj P T e x y=zz P T (P.length-1-x) (e-1-y):=by
 have b:(T.take e).length=e:=by rw[eN];lia
 unfold rj zz;rw[c6 P _ x a,c6 (T.take e) _ y (by lia),b,c7 _ _ _ _ (by lia)]
theorem VU{l:Nat}(x y:Nat)(a:y<l):zz P (sub T e l) x y=zz P T x (e-l+y):=by
 unfold zz sub;rw[Ue _ _ _ _ _ a]
include hp he in
theorem Lq{l:Nat}(a:l<=e):zh (rj P T e) p false P.length l=zh (zz P (sub T e l)) p false P.length l:=
 NK (fit:=zz P T) hp a (cF P T e he) λx y _ b=>VU P T e x y b
include hp he in
theorem V6:zh (zz P T) p true P.length e=lw (tR P T p e):=V5 hp (cF P T e he)
theorem gb{l:Nat}(he:e<=T.length)(a:l<=e):(sub T e l).length=l:=by
 rw[eN,iN];lia
theorem dU{b:Nat}(he:e<=T.length)(a:b<=e):zH T (aa (b:Int)) (aa (e:Int))=sub T e (e-b):=by
 unfold zH sub;rw[HT.sIx_nat,HT.sIx_nat,i7 (by lia),i7 (by lia),show e-(e-b)=b by lia]
include hP hT he in
theorem Wz:mx [.tup (P.map .str),.str (mkS (T.take e)),p.d]=aa (.val (.tup ((tR P T p e).map oD))):=by
 have f:(T.take e).length=e:=by rw[eN];lia
 have c:=kH P.reverse (T.take e).reverse p false (by simp;lia) (by simp;lia);rw[Cg,AH,AH,f]at c;have a:=rW (λi=>wZ (zh (rj P T e) p false) e i) P.length;have g:(T.take e).length<=1000000:=by lia
 have r:wZ (zh (rj P T e) p false) e P.length=.tup ((tR P T p e).map oD):=by
  unfold wZ tR;rw[e7];rfl
 rw[r]at a;generalize (tR P T p e).map oD=b at *;rw[CE.Pr.d_ds];generalize p.ds=h at *;simp (disch:=omega) only[mx,zw,yH,yU,zl,zk,fN,zn,zc,rd,zb,zo,za,aB,xU,zd,eC,yp,zr,Int.reduceNeg,zV,yc,yd,zF,k8,zG,k7,zP,yj,yI,wG,zT,xA,xB,yq,yL,zL,vM,c,a,yh]
theorem Zr(cs:List (Option Int))(b:cs.length<=1000000){x:Int}{j:Nat}(h:lw cs=aa x)(a:tG (cs.map oD) (.int x)= ~~~(j:Int)):qX [.tup (cs.map oD)]=aa (.val (.tup [.int (j:Int),.int x])):=by
 have l:=S7 cs b;rw[h,sB]at l;unfold tG at a;simp (disch:=omega) only[qX,zw,yH,yU,zl,zk,gU,zf,zq,zi,zb,za,aB,zd,yd,xA,xB,zF,yq,yL,zL,l,yK,yx,ym,zI,zg,zc,zG,eC,vV,xY,zR,zn,zM,yZ,y0,yQ,wM,qP,yc,gu,tG,a,xV,xb,Nat.reduceLeDiff,yn,yi,yh]
include hP hT hp he
theorem Lo{x:Int}(h:zh (zz P T) p true P.length e=aa x):∃(l:Nat) (ks:List Kd5),l<=e/\wq (zz P (sub T e l)) P.length (sub T e l).length p ks 0 0/\(ks.map (Kd5.pr p)).sum=x/\ks.length<=3000 /\
  mD [.tup (P.map .str),.str (mkS T),.int (e:Int),p.d]=aa (.val (.tup [.int ((e-l:Nat):Int),.tup ((ks.map Kd5.s).map .str)])):=by
 rw[V6 P T p e hp he]at h;obtain⟨l,k,c,_⟩:=bf (tR P T p e) x (tI h);have a:l<=e:=by
  have:=(aQ.mp c).1;simp at this;lia
 rw[av,a6 (by lia)]at c;have g:zh (zz P (sub T e l)) p false P.length (sub T e l).length=aa x:=by
  rw[gb T e he a,<- Lq P T p e hp he a];exact aO c
 have y:=gb T e he a;obtain⟨ks,m,n,o,q⟩:=NX P (sub T e l) p hP (by lia) g;refine⟨l,ks,a,m,n,o,?_⟩;have b:=Wz P T p e hP hT he;have f:=Zr (tR P T p e) (by simp;lia) h k;have r:¬ ((e:Int)<0):=by lia
 have t:¬ ((e:Int) > (T.length:Int)):=by lia
 have z:T.length<=1000000:=by lia
 have u:=kM T e;have v:(e:Int)-(l:Int)=((e-l:Nat):Int):=by lia
 have i:=dU T e (b:=e-l) he (by lia);rw[show e-(e-l)=l by lia]at i;have w:zO [D.int (l:Int),D.int x] 0=aa (.int (l:Int)):=rfl;generalize (tR P T p e).map oD=j at *;generalize (ks.map Kd5.s).map D.str=row at *;generalize sub T e l=A at *;simp (disch:=omega) only[mD,zw,yH,yU,zl,zk,fZ,zf,zI,zU,zg,zc,za,aB,eC,xt,z8,zr,zm,zb,zd,yF,zn,yd,zM,yt,xA,xB,zG,zF,r,xu,zR,ya,zP,yj,yI,zT,t,yZ,y0,ym,zq,zi,yo,wS,zQ,yS,wG,u,yq,yL,zL,b,f,yK,yx,vV,xY,zV,yc,w,v,yQ,i,q,xV,xb,Nat.reduceLeDiff,yn,yi,yh]
end
section
open CE
variable (P:List Str)(T:List Nat)(p:Pr)
def qL(c:Nat->Nat->Option Int)(m:Nat):Nat->List D
 |0=>[yJ c m 0]
 |j+1=>[yJ c m j,yJ c m (j+1)]
noncomputable def vy(T:List Nat):Nat->List Nat
 |0=>[]
 |j+1=>[T.getD j 0]
def wn(a:Int)(j:Nat)(b:List D):OT:=.ins "Finder" ["pattern","prices","columns","last_sign","sight"] [.val (.tup (P.map .str)),.val p.d,.lst (qL (cT P T p) P.length j),.val (.str (mkS (vy T j))),xp a (j+1) b]
variable (hP:P.length<=100000)(hT:T.length<=10000)
theorem Zc(c:Nat->Nat->Option Int)(m j:Nat):zO ((ak (m+1)).map λi=>oD (c i j)) (-1)=aa (oD (c m j)):=rW (λi=>oD (c i j)) m
include hP
theorem VL(a:Int):rq (.ins "Finder" [] []) [.tup (P.map .str),.int a,p.d]=aa (.non,wn P T p a 0 (yb P T p a 0 1)):=by
 have b:=cE P p true (zz P T) hP;have c:=hQ a;have e:=qC a (cT P T p P.length 0) 0 [] (by simp);have f:yb P T p a 0 1=[]++xj a (cT P T p P.length 0) 0:=by rw[pH P T p a (aj 0),tN]
 have g:=Zc (cT P T p) P.length 0;have h:∀d:D,zO [d] (-1)=aa d:=λ_=>rfl;rw[f];unfold wn qL vy;unfold xp at *;unfold yJ at *;simp only[cT]at *;generalize (ak (P.length+1)).map (λi=>oD (zh (zz P T) p true i 0))=j at *;generalize P.map D.str=k at *;rw[CE.Pr.d_ds];generalize p.ds=l at *;simp only[rq,xy,xV,xb,aV,Nat.reduceAdd,gG,zf,wV,za,wY,wR,aB,xU,zG,zF,zk,toO,y3,wX,xB,yx,ym,xA,z7,zb,zi,zd,zl,yq,yL,zL,vM,b,Nat.reduceLeDiff,yn,yi,eC,vu,c,fX,vd,zc,xg,fE,zo,yp,zr,Int.reduceNeg,yG,zS,h,zV,yc,g,yK,e,vR];rfl
theorem V4(hT:T.length<=10000)(a:Int)(j:Nat)(o:j<T.length)(b:List D)(f:b.length<100000) :
  nX (wn P T p a j b) [.str (mkS [T.getD j 0])]=aa (.non,wn P T p a (j+1) (b++xj a (cT P T p P.length (j+1)) (j+1))):=by
 have W:Win (cT P T p) (zz P T) P j (qL (cT P T p) P.length j) (vy T j++[T.getD j 0]):=by
  cases j with
  |zero=>exact⟨by simp[vy],rfl,⟨T.getD 0 0,rfl,λi _=>rfl⟩,.inl ⟨by simp[vy],rfl⟩⟩
  |succ j=>exact⟨by simp[vy],rfl,⟨T.getD (j+1) 0,rfl,λi _=>rfl⟩,.inr ⟨by simp[vy],by lia,rfl,T.getD j 0,rfl,λi _=>rfl⟩⟩
 have c:=cQ P p true (zz P T) _ _ j W hP;have g:=qC a (cT P T p P.length (j+1)) (j+1) b f;have h:=Zc (cT P T p) P.length (j+1);have d:=W.c1;have k:qL (cT P T p) P.length (j+1)=[yJ (cT P T p) P.length j,yJ (cT P T p) P.length (j+1)]:=rfl;have l:vy T (j+1)=[T.getD j 0]:=rfl;have m:mkS (vy T j++[T.getD j 0])=mkS (vy T j)++mkS [T.getD j 0]:=(jH _ _).symm;have q:(mkS (vy T j)).length+(mkS [T.getD j 0]).length<=1000000:=by cases j <;> simp[vy,yj]
 rw[m]at c;unfold wn;rw[k,l];unfold xp at *;unfold yJ at c d ⊢;simp only[cT]at *;generalize (ak (P.length+1)).map (λi=>oD (zh (zz P T) p true i (j+1)))=n at *;generalize (ak (P.length+1)).map (λi=>oD (zh (zz P T) p true i j))=e at *;generalize qL (zh (zz P T) p true) P.length j=r at *;generalize P.map D.str=s at *;generalize mkS (vy T j)=t at *;generalize mkS [T.getD j 0]=u at *;rw[CE.Pr.d_ds];generalize p.ds=v at *;simp (disch:=omega) only[nX,xy,xV,xb,aV,gI,zf,zq,zi,zb,xg,y3,wY,wR,aB,xA,xB,zF,zk,wX,zG,fE,zc,za,qN,zP,yI,zT,eC,zd,zl,yq,yL,zS,zL,vM,c,yK,yx,yd,ym,vT,z7,zo,yp,zr,Int.reduceNeg,yG,d,Nat.reduceAdd,Nat.reduceLeDiff,yn,yi,toO,Nat.reduceLT,fX,vd,zV,yc,h,g,vR]
end
section
open CE
variable (P:List Str)(T:List Nat)(p:Pr)
variable (hP:P.length<=100000)(hT:T.length<=10000)
include hP hT
theorem cB(a:Int)(d:Option Ent):∀(w:List Nat) (j:Nat) (b:List D) (f:Option Ent),j+w.length<=T.length->w=(T.drop j).take w.length->b.length+w.length<100000->∃h,
  loop (zN 2) pS (w.map λc=>D.str (mkS [c])) [aa (.obj (wn P T p a j b)),d,f]=aa (.nx [aa (.obj (wn P T p a (j+w.length) (b++yb P T p a (j+1) (j+w.length+1)))),d,h])
 |[],j,b,f,_,_,_=>⟨f,by simp[loop,tN]⟩
 |c::w,j,b,f,k,g,l=>by
  simp only[aI]at k g l;have i:j<T.length:=by lia
  rw[ey i,BB,Bq]at g;have m:c=T.getD j 0:=by rw[g.1];simp[i]
  have r:=V4 P T p hP hT a j i b (by lia);have n:=lb a (cT P T p P.length (j+1)) (j+1);have o:pS [aa (.obj (wn P T p a j b)),d,~~~[[c]]]=aa (.nx [aa (.obj (wn P T p a (j+1) (b++xj a (cT P T p P.length (j+1)) (j+1)))),d,~~~[[c]]]):=by
   rw[m];unfold wn at *;generalize P.map D.str=s at *;simp only[pS,fX,xM,y3,zF,zb,za,zG,zd,zl,zk,yn,zL,yx,wX,r]
  obtain⟨h,e⟩:=cB a d w (j+1) (b++xj a (cT P T p P.length (j+1)) (j+1)) (~~~[[c]]) (by lia) g.2 (by rw[aJ];lia);refine⟨h,o6 (wK rfl o) (o6 e ?_)⟩;rw[aI,show j+1+w.length=j+(w.length+1) by lia,eG];have q:xj a (cT P T p P.length (j+1)) (j+1)=yb P T p a (j+1) (j+1+1):=by rw[pH P T p a (aj (j+1)),tN,iz]
  rw[q,r0 P T p a (by lia) (by lia)]
theorem cC(a:Int)(w:List Nat)(j:Nat)(b:List D)(h1:j+w.length<=T.length)(c:w=(T.drop j).take w.length)(d:b.length+w.length<100000) :
  qS (wn P T p a j b) [.str (mkS w)]=aa (.tup (b++yb P T p a (j+1) (j+w.length+1)),wn P T p a (j+w.length) []):=by
 obtain⟨f,e⟩:=cB P T p hP hT a (~~~[w]) w j b ab h1 c d;have t:=gk a (j+w.length+1) (b++yb P T p a (j+1) (j+w.length+1));unfold wn at *;unfold xp at *;generalize P.map D.str=g at *;generalize b++yb P T p a (j+1) (j+w.length+1)=h at *;simp only[qS,xy,xV,xb,aV,gH,zf,ye,iS,za,wY,wR,aB,xA,xB,zG,zF,zP,zk,zl,wG,e,ym,sd,vd,y3,wX,zd,yn,yx,yK,t,vR,yi]
end
section
open CE BT
theorem Wp(a b:Nat):B5 (a:Int) (b:Int)=((a &&& b:Nat):Int):=by
 unfold B5;rw[decide_eq_true (og a),decide_eq_true (og b)];rfl
theorem kC(a:Int):iU (iU a)=a:=by unfold iU;lia
theorem Wv(a b:Nat):DV (a:Int) (b:Int)=((a ||| b:Nat):Int):=by
 unfold DV B5;rw[decide_eq_false (show ¬ 0<=iU (a:Int) by unfold iU;lia),decide_eq_false (show ¬ 0<=iU (b:Int) by unfold iU;lia)];show iU (iU _)=_;rw[kC,kC,kC];rfl
section
variable {E F:FE}{δ:En}{a b:Nat}
theorem nD(h1:E δ= ~~~(a:Int))(c:F δ= ~~~(b:Int)):zc uR E F δ= ~~~((a &&& b:Nat):Int):=by
 unfold zc;rw[h1,c];exact congrArg (λi=>aa (Ent.val (.int i))) (Wp a b)
theorem qx(h1:E δ= ~~~(a:Int))(c:F δ= ~~~(b:Int)):zc tr E F δ= ~~~((a ||| b:Nat):Int):=by
 unfold zc;rw[h1,c];exact congrArg (λi=>aa (Ent.val (.int i))) (Wv a b)
theorem hL(h1:E δ= ~~~(a:Int))(c:F δ= ~~~1)(d:a<18446744073709551616):zc ub E F δ= ~~~((a <<< 1:Nat):Int):=by
 unfold zc;rw[h1,c];refine(sq (show hJ (a:Int) 1 from ⟨⟨by decide,by decide⟩,by lia⟩)).trans ?_;rw[Nat.shiftLeft_eq,Int.natCast_mul];rfl
theorem jW(h:F δ= ~~~(a:Int))(c:a<=1000000):zc ub (eC (.int 1)) F δ= ~~~((2 ^ a:Nat):Int):=by
 unfold zc;rw[h];refine(sq (show hJ 1 (a:Int)from ⟨⟨by lia,by lia⟩,by decide⟩)).trans ?_;show aa (Ent.val (.int ((1:Int)*2 ^ (a:Int).toNat)))=_;rw[EZ,oz,Int.natCast_pow];rfl
theorem dg(h:E δ= ~~~(a:Int)):zc zt E (eC (.int 1)) δ= ~~~((a+1:Nat):Int):=wu (F:=eC (.int 1)) (b:=1) h rfl
end
theorem RF{a:Nat}(h:E δ= ~~~(a:Int)):zg (zc wy E (eC (.int 0))) δ=aa (!decide (a=0)):=by
 have e:decide ((a:Int)=0)=decide (a=0):=decide_eq_decide.mpr (by lia);rw[<- e];by_cases c:(a:Int)=0 <;> simp only[zg,zc,h,c,eC,wy,zk,vo,xn,zl,vW,zR,xu,ss]
theorem du(f:Nat->D){n a:Nat}{x:Int}(h:x=(a:Int))(b:a<n):zO ((ak n).map f) x=aa (f a):=by
 subst h;refine qu ?_;rw[av,a6 b];rfl
theorem cg(f:Nat->D)(n:Nat):uv ((ak n).map f)=(ak n).map λ(s:Nat)=>D.tup [.int (s:Int),f s]:=by
 unfold uv;refine B2 λi=>?_;simp only[av,Bs];by_cases h:i<n
 ·rw[a6 h];simp
 ·rw[iq (by simp;lia)];rfl
theorem Xp(n:Nat)(hn:n<=1000):uc [.int (n:Int)]= ~~~((2 ^ (n+1)-1:Nat):Int):=by
 have q:((2 ^ (n+1):Nat):Int)-1=((2 ^ (n+1)-1:Nat):Int):=by
  have:=D3 (n+1);lia
 have e:gO [~~~(n:Int)]=aa (.rt (.val (.int ((2 ^ (n+1)-1:Nat):Int))) [~~~(n:Int)]):=by
  rw[<- q];exact xQ (wl (jW (a:=n+1) (dg rfl) (by lia)) rfl)
 exact(congrArg (λo=>ez o yh) e).trans rfl
variable (fit:Nat->Nat->Bool)
def yg(m j s:Nat):D:=.int ((row fit m j s:Nat):Int)
def xx(m k j:Nat):List D:=(ak (k+1)).map (yg fit m j)
theorem VM(m k:Nat)(a:Int)(c:(if a<(m:Int)then a else (m:Int))=(k:Int))(q:m<=60):jh [.int (m:Int),.int a]=aa (.own (xx fit m k 0)):=by
 have f:k<=m:=by split at c <;> lia
 have g:yT (zb (zc zt (zm vA (zb (za 0) (zb (za 1) zd))) (eC (.int 1))) zd) [~~~(m:Int),~~~a]=aa ((ak (k+1)).map λ(i:Nat)=>D.int (0+i)):=by
  have j:zm vA (zb (za 0) (zb (za 1) zd)) [~~~(m:Int),~~~a]= ~~~(k:Int):=by rw[<- c];rfl
  have l:=wu (F:=eC (.int 1)) j rfl;have n:((k:Int)+1).toNat=k+1:=by lia
  generalize zc zt (zm vA (zb (za 0) (zb (za 1) zd))) (eC (.int 1))=r at *;simp (disch:=omega) only[yT,zb,l,zd,zl,zk,zr,uL,n,zT]
 have p:yB [] (yT (zb (zc zt (zm vA (zb (za 0) (zb (za 1) zd))) (eC (.int 1))) zd)) yR gW [~~~(m:Int),~~~a]=aa (.own (xx fit m k 0)):=by
  refine w6 g (qD _ _ (by simp[xx]) (λ_ _=>rfl) λi d h=>?_) (by simp[xx];lia);rw[av]at h;by_cases b:i<k+1
  ·rw[a6 b]at h;cases h;refine⟨yg fit m 0 i,?_,by rw[xx,av,a6 b];rfl⟩;have u:=Xp i (by lia);rw[<- VN fit (show i<=m by lia)]at u;show(uc [.int (0+(i:Int))]).bind zL=_;rw[Ao,u];rfl
  ·rw[iq (by simp;lia)]at h;cases h
 have e:lL [~~~(m:Int),~~~a]=aa (.rt (.own (xx fit m k 0)) [~~~(m:Int),~~~a]):=by
  unfold lL zn;rw[p];rfl
 exact(congrArg (λo=>ez o yh) e).trans rfl
theorem Yv(m j:Nat)(o:m<=60)(d:Option Ent):∀(n a:Nat) (x2 k:Option Ent),a<=pc fit m j->∃b,
  loop (wW (yO (zN 2) (yO (zN 3) wQ))) qp ((ic a n).map λ(s:Nat)=>D.tup [.int (s:Int),yg fit m j s]) [d,~~~(m:Int),x2,k] =
  if pc fit m j<a+n then aa (.rt (.val (.int (pc fit m j:Int))) b)else aa (.nx [d,~~~(m:Int),b.getD 2 ab,b.getD 3 ab])
 |0,a,x2,k,h=>⟨[ab,ab,x2,k],by rw[if_neg (by lia)];rfl⟩
 |n+1,a,x2,k,h=>by
  have i:zg (zc wy (zc uR (za 3) (zc ub (eC (.int 1)) (za 1))) (eC (.int 0))) [d,~~~(m:Int),~~~(a:Int),aa (.val (yg fit m j a))]=aa (!decide (row fit m j a &&& 2 ^ m=0)):=
   RF (nD rfl (jW rfl (by lia)))
  have l:(!decide (row fit m j a &&& 2 ^ m=0))=decide (pc fit m j<=a):=by
   have g:=uY fit m j a m;rw[decide_eq_true (aj m),C7]at g;by_cases c:pc fit m j<=a
   ·rw[decide_eq_true c]at g ⊢;rw[decide_eq_false λq=>by rw[(dq _ m).mp q]at g;cases g];rfl
   ·rw[decide_eq_false c]at g ⊢;rw[decide_eq_true ((dq _ m).mpr g)];rfl
  rw[l]at i;rw[Cj,ay];by_cases c:pc fit m j<=a
  ·have p:pc fit m j=a:=by lia
   rw[decide_eq_true c]at i;refine⟨[d,~~~(m:Int),~~~(a:Int),aa (.val (yg fit m j a))],?_⟩;rw[if_pos (by lia),p];have r:qp [d,~~~(m:Int),~~~(a:Int),aa (.val (yg fit m j a))]=aa (.rt (.val (.int (a:Int))) [d,~~~(m:Int),~~~(a:Int),aa (.val (yg fit m j a))]):=(vU i).trans rfl;show(qp [d,~~~(m:Int),~~~(a:Int),aa (.val (yg fit m j a))]).bind _=_;rw[r];rfl
  ·rw[decide_eq_false c]at i;obtain⟨b,e⟩:=Yv m j o d n (a+1) (~~~(a:Int)) (aa (.val (yg fit m j a))) (by lia);refine⟨b,(wK (f:=qp) rfl ((xm i).trans rfl)).trans ?_⟩;rw[e,show a+1+n=a+(n+1) by lia]
def tP(m k j:Nat):Option Int:=if pc fit m j<k+1 then aa (pc fit m j:Int)else ab
theorem Yw(m k j:Nat)(d:m<=60):mC [.lst (xx fit m k j),.int (m:Int)]=aa (.val (oD (tP fit m k j))):=by
 obtain⟨f,e⟩:=Yv fit m j d (aa (.bor (xx fit m k j))) (k+1) 0 ab ab (aM _);rw[<- Ax,aV]at e;have b:ph 0 [aa (.bor (xx fit m k j)),~~~(m:Int),ab,ab]=aa ((ak (k+1)).map λ(s:Nat)=>D.tup [.int (s:Int),yg fit m j s]):=congrArg aa (cg _ _);have w:∃a,fY [aa (.bor (xx fit m k j)),~~~(m:Int),ab,ab]=aa (.rt (.val (oD (tP fit m k j))) a):=by
  unfold tP;by_cases c:pc fit m j<k+1
  ·rw[if_pos c]at e ⊢;exact⟨_,V3 b e⟩
  ·rw[if_neg c]at e ⊢;exact⟨_,(v7 b e).trans (xQ rfl)⟩
 obtain⟨a,w⟩:=w;exact(congrArg (λo=>ez o yh) w).trans rfl
section
variable {fit}{m k j φ:Nat}
noncomputable abbrev ff(R:List D)(φ m:Nat)(x3 x4 x5 x6 x7 x8 x9:Option Ent):En:=[aa (.bor R),~~~(φ:Int),~~~(m:Int),x3,x4,x5,x6,x7,x8,x9]
theorem V8(h:sP fit m j φ)(x:m<=60)(R:List D)(y:R=xx fit m k j)(a:Nat)(H:a<=k)(I:k<=1000)(r b d e:Option Ent):∃z A B C,
  qi (ff R φ m (aa (.own ((ak a).map (yg fit m (j+1))))) (~~~(a:Int)) (aa (.val (yg fit m j a))) r b d e) =
  aa (.nx (ff R φ m (aa (.own ((ak (a+1)).map (yg fit m (j+1))))) (~~~(a:Int)) (aa (.val (yg fit m j a))) z A B C)):=by
 have i:∀j s,row fit m j s<18446744073709551616:=λj s=>Ra x (NU fit m j s);have t:((ak a).map (yg fit m (j+1))).length<1000000:=by rw[ar,eH];lia
 have u:=Xp m (by lia);have G:(ak (a+1)).map (yg fit m (j+1))=(ak a).map (yg fit m (j+1))++[yg fit m (j+1) a]:=by rw[iA,eI];rfl
 rw[G];have w:∀f b d e,zc tr (eC (.int 1)) (zc uR (zc ub (za 5) (eC (.int 1))) (za 1)) (ff R φ m f (~~~(a:Int)) (aa (.val (yg fit m j a))) r b d e)= ~~~((1 ||| (row fit m j a <<< 1 &&& φ):Nat):Int):=
  λf b d e=>qx (a:=1) rfl (nD (hL rfl rfl (i j a)) rfl)
 cases a with
 |zero=>
  have l:zg (zc yF (za 4) (eC (.int 0))) (ff R φ m (aa (.own ((ak 0).map (yg fit m (j+1))))) (~~~((0:Nat):Int)) (aa (.val (yg fit m j 0))) (~~~((1 ||| (row fit m j 0 <<< 1 &&& φ):Nat):Int)) b d e)=aa false:=rfl;have n:zc uR (za 6) (zi [.v] uc (zb (za 2) zd)) (ff R φ m (aa (.own ((ak 0).map (yg fit m (j+1))))) (~~~((0:Nat):Int)) (aa (.val (yg fit m j 0))) (~~~((1 ||| (row fit m j 0 <<< 1 &&& φ):Nat):Int)) b d e)=aa (.val (yg fit m (j+1) 0)):=by
   have:=nD (E:=za 6) (F:=zi [.v] uc (zb (za 2) zd)) (δ:=(ff R φ m (aa (.own ((ak 0).map (yg fit m (j+1))))) (~~~((0:Nat):Int)) (aa (.val (yg fit m j 0))) (~~~((1 ||| (row fit m j 0 <<< 1 &&& φ):Nat):Int)) b d e)) rfl (show uc [.int (m:Int)]=_ from u);rw[NR fit h]at this;exact this
  exact⟨_,b,d,e,(show qi _=_ from y8 (w _ _ _ _)).trans ((yf ((xm l).trans rfl)).trans (t7 rfl n t))⟩
 |succ a=>
  have g:zO R (((a+1:Nat):Int)-1)=aa (yg fit m j a):=by rw[y];exact du _ (by lia) (by lia)
  have o:zO ((ak (a+1)).map (yg fit m (j+1))) (((a+1:Nat):Int)-1)=aa (yg fit m (j+1) a):=du _ (by lia) (by lia);have l:zg (zc yF (za 4) (eC (.int 0))) (ff R φ m (aa (.own ((ak (a+1)).map (yg fit m (j+1))))) (~~~((a+1:Nat):Int)) (aa (.val (yg fit m j (a+1)))) (~~~((1 ||| (row fit m j (a+1) <<< 1 &&& φ):Nat):Int)) b d e)=aa true:=by
   have c:(0:Int)<((a+1:Nat):Int):=by lia
   exact congrArg aa (decide_eq_true c)
  have n:∀f p q b d e,zc uR (za 6) (zi [.v] uc (zb (za 2) zd)) (ff R φ m f p q (~~~((((1 ||| (row fit m j (a+1) <<< 1 &&& φ)) ||| row fit m j a) ||| row fit m j a <<< 1 ||| row fit m (j+1) a <<< 1:Nat):Int)) b d e)=aa (.val (yg fit m (j+1) (a+1))):=λf p q b d e=>by
   have:=nD (E:=za 6) (F:=zi [.v] uc (zb (za 2) zd)) (δ:=(ff R φ m f p q (~~~((((1 ||| (row fit m j (a+1) <<< 1 &&& φ)) ||| row fit m j a) ||| row fit m j a <<< 1 ||| row fit m (j+1) a <<< 1:Nat):Int)) b d e)) rfl (show uc [.int (m:Int)]=_ from u);rw[NW fit h]at this;exact this
  exact⟨_,_,_,_,(show qi _=_ from y8 (w _ _ _ _)).trans ((yf ((vU l).trans ((y8 (mK rfl (wl rfl rfl) g)).trans ((y8 (hL (mK rfl (wl rfl rfl) g) rfl (i j a))).trans ((y8 (hL (jp rfl (wl rfl rfl) o) rfl (i (j+1) a))).trans (rh (qx (qx (qx rfl rfl) rfl) rfl))))))).trans (t7 rfl (n _ _ _ _ _ _) t))⟩
theorem cP(h:sP fit m j φ)(r:m<=60)(R:List D)(t:R=xx fit m k j)(u:k<=1000):∀(n a:Nat) (g i b c d f:Option Ent),a+n<=k+1->∃v w l o p q,
  loop (wW (yO (zN 4) (yO (zN 5) wQ))) qi ((ic a n).map λ(s:Nat)=>D.tup [.int (s:Int),yg fit m j s]) (ff R φ m (aa (.own ((ak a).map (yg fit m (j+1))))) g i b c d f) =
  aa (.nx (ff R φ m (aa (.own ((ak (a+n)).map (yg fit m (j+1))))) v w l o p q))
 |0,a,g,i,b,c,d,f,_=>⟨g,i,b,c,d,f,rfl⟩
 |n+1,a,g,i,b,c,d,f,G=>by
  obtain⟨l,o,p,q,x⟩:=V8 h r R t a (by lia) u b c d f;obtain⟨y,z,A,B,C,E,e⟩:=cP h r R t u n (a+1) (~~~(a:Int)) (aa (.val (yg fit m j a))) l o p q (by lia);rw[show a+1+n=a+(n+1) by lia]at e;rw[Cj,ay];exact⟨y,z,A,B,C,E,(wK rfl x).trans e⟩
theorem V9(h:sP fit m j φ)(a:m<=60)(b:k<=1000):ji [.lst (xx fit m k j),.int (φ:Int),.int (m:Int)]=aa (.own (xx fit m k (j+1))):=by
 obtain⟨d,f,g,i,l,n,e⟩:=cP h a (xx fit m k j) rfl b (k+1) 0 ab ab ab ab ab ab (by lia);rw[<- Ax,aV]at e;have c:ph 0 [aa (.bor (xx fit m k j)),~~~(φ:Int),~~~(m:Int),aa (.own []),ab,ab,ab,ab,ab,ab]=aa ((ak (k+1)).map λ(s:Nat)=>D.tup [.int (s:Int),yg fit m j s]):=congrArg aa (cg _ _);have w:lQ [aa (.bor (xx fit m k j)),~~~(φ:Int),~~~(m:Int),ab,ab,ab,ab,ab,ab,ab]=aa (.rt (.own (xx fit m k (j+1))) _):=
  (show lQ _=_ from yf (tp rfl)).trans ((v7 c e).trans rfl)
 exact(congrArg (λo=>ez o yh) w).trans rfl
end
end
section
open CE BT
theorem Zp{k:Str}{d:D}(h:¬ z=k):∀(ks:List Str) (ds:List D),xo ks (oH (λx y=>if x=k then d else y) ks ds) z=xo ks ds z
 |[],_=>rfl
 | _::_,[]=>rfl
 |x::ks,y::ds=>by
  rw[iF,xo,xo,Zp h ks ds];by_cases e:x=z
  ·rw[if_pos e,if_pos e,if_neg (λq=>h (e.symm.trans q))]
  ·rw[if_neg e,if_neg e]
theorem Zo{k:Str}{d:D}:∀(ks:List Str) (ds:List D),ks.length=ds.length->k∈ks->xo ks (oH (λx y=>if x=k then d else y) ks ds) k=aa d
 |[],_,_,h=>by cases h
 | _::_,[],a,_=>by cases a
 |x::ks,y::ds,a,h=>by
  rw[iF,xo];by_cases e:x=k
  ·rw[if_pos e,if_pos e]
  ·rw[if_neg e];refine Zo ks ds (by simpa using a) ?_;rcases aC.mp h with q|q
   ·exact absurd q.symm e
   ·exact q
theorem Zn{k:Str}{d:D}:∀(ks:List Str) (ds:List D),ks.length=ds.length->¬ k∈ks->xo (ks++[k]) (ds++[d]) z=if z=k then aa d else xo ks ds z
 |[],[],_,_=>by
  show(if k=z then aa d else ab)=if z=k then aa d else ab
  by_cases e:z=k
  ·rw[if_pos e,if_pos e.symm]
  ·rw[if_neg e,if_neg (λq=>e q.symm)]
 |[],_::_,a,_=>by cases a
 | _::_,[],a,_=>by cases a
 |x::ks,y::ds,a,h=>by
  rw[Av,Av,xo,xo,Zn ks ds (by simpa using a) λq=>h (aq _ q)];by_cases e:x=z
  ·rw[if_pos e,if_pos e,if_neg (λq=>h (by rw[<- q,<- e];exact aw))]
  ·rw[if_neg e,if_neg e]
theorem S0{k:Str}{d:D}{ks:List Str}{ds:List D}(a:ks.length=ds.length):xo (wp ks k) (xG ks ds k d) z=if z=k then aa d else xo ks ds z:=by
 unfold wp xG;by_cases h:k∈ks
 ·rw[if_pos h,if_pos h];by_cases e:z=k
  ·rw[if_pos e,e];exact Zo ks ds a h
  ·rw[if_neg e];exact Zp e ks ds
 ·rw[if_neg h,if_neg h];exact Zn ks ds a h
theorem VH{i:Nat}{δ:En}{d:D}{k:Str}{ks:List Str}(a:δ[i]? =aa (aa (.obj (.dic ks ds))))(h1:fe δ=aa (.val d))(b:fk δ=aa (.val (.str k)))(c:ks.length<1000000) :
 t8 i fk fe δ=aa (.nx (δ.set i (aa (.obj (.dic (wp ks k) (xG ks ds k d)))))):=by
  unfold t8 tj y3;rw[a,h1,b];exact sq (show ks.length+1<=1000000 by lia)
theorem Vx{i:Nat}{b:Int}(a:δ[i]? =aa (aa (.obj (.dic ks ds))))(h1:E δ=aa (.val (.str z))):uP i (zb E (zb (eC (.int b)) zd)) δ=aa ((xo ks ds z).elim (.val (.int b)) .val):=by
 unfold uP tj y3 zb;rw[a,h1];rfl
variable (P:List Str)
def has(c i:Nat):Bool:=uf (mkS [c]) (P.getD i (mkS []))
structure IV(n:Nat)(dn:List Nat)(ks:List Str)(ds:List D):Prop where
 len:ks.length=ds.length
 at_:∀c:Nat,(xo ks ds (mkS [c])).elim (Ent.val (.int 0)) .val=.val (.int ((fb (has P c) n ||| if decide (c∈dn)=true then 2 ^ (n+1)else 0:Nat):Int))
theorem VV(n:Nat)(hn:n<=1000)(e:List Nat)(ks:List Str)(ds:List D)(c:Nat)(I:IV P n e ks ds)(g:ks.length<1000000)(b d:Option Ent) :
  lN [b,aa (.obj (.dic ks ds)),~~~(n:Int),d,~~~[[c]]] =
  aa (.nx [b,aa (.obj (.dic (wp ks (mkS [c])) (xG ks ds (mkS [c]) (.int ((fb (has P c) n ||| 2 ^ (n+1):Nat):Int))))),~~~(n:Int),d,~~~[[c]]]):=by
 have h:uP 1 (zb (za 4) (zb (eC (.int 0)) zd)) [b,aa (.obj (.dic ks ds)),~~~(n:Int),d,~~~[[c]]]= ~~~((fb (has P c) n ||| if decide (c∈e)=true then 2 ^ (n+1)else 0:Nat):Int):=(Vx rfl rfl).trans (congrArg aa (I.at_ c))
 have f:=qx h (jW (a:=n+1) (dg (E:=za 2) rfl) (by lia));rw[QQ]at f;exact VH rfl f rfl g
theorem IV.put{n:Nat}(I:IV P n dn ks ds)(c:Nat):IV P n (dn++[c]) (wp ks (mkS [c])) (xG ks ds (mkS [c]) (.int ((fb (has P c) n ||| 2 ^ (n+1):Nat):Int))):=by
 refine⟨(pD I.len).1,λa=>?_⟩;rw[S0 I.len];by_cases e:a=c
 ·subst e;rw[if_pos rfl,if_pos (decide_eq_true (by simp))];rfl
 ·have b:¬ (mkS [a]=mkS [c]):=λq=>e (by have:=congrArg (λz=>z.cps.toList) q;simp only[wG]at this;simpa using this);rw[if_neg b,I.at_ a];have:decide (a∈dn++[c])=decide (a∈dn):=decide_eq_decide.mpr (by simp[e]);rw[this]
theorem cG(n:Nat)(hn:n<=1000)(e f:Option Ent):∀(w d:List Nat) (ks:List Str) (ds:List D) (g:Option Ent),IV P n d ks ds->ks.length+w.length<=100000->∃(a:List Str) (b:List D) (h:Option Ent),IV P n (d++w) a b/\a.length<=ks.length+w.length /\
  loop (zN 4) lN (w.map λc=>D.str (mkS [c])) [e,aa (.obj (.dic ks ds)),~~~(n:Int),f,g]=aa (.nx [e,aa (.obj (.dic a b)),~~~(n:Int),f,h])
 |[],d,ks,ds,g,I,_=>⟨ks,ds,g,by rw[ek];exact I,by lia,rfl⟩
 |c::w,d,ks,ds,g,I,j=>by
  simp only[aI]at j;have l:=VV P n hn d ks ds c I (by lia) e f;have o:=(pD (k:=mkS [c]) (v:=D.int ((fb (has P c) n ||| 2 ^ (n+1):Nat):Int)) I.len).2;obtain⟨a,b,h,i,p,m⟩:=cG n hn e f w (d++[c]) _ _ (~~~[[c]]) (I.put P c) (by lia);rw[eG]at i;refine⟨a,b,h,i,by simp only[aI];lia,?_⟩;rw[ay];exact(wK rfl l).trans m
theorem IV.next{n:Nat}{z:Str}(I:IV P n z.cps.toList ks ds)(a:P.getD n (mkS [])=z):IV P (n+1) [] ks ds:=by
 refine⟨I.len,λc=>?_⟩;have b:(if decide (c∈([]:List Nat))=true then 2 ^ (n+1+1)else 0)=0:=if_neg (by simp);rw[I.at_ c,b,CK,fb];have:has P c n=decide (c∈z.cps.toList):=by
  unfold has;rw[a];exact DH z c
 rw[this]
theorem cH(a:Option Ent):∀(Q:List Str) (n:Nat) (ks:List Str) (ds:List D) (x2 i b:Option Ent),Q=P.drop n->(∀z∈Q,z.cps.toList.length<=26)->n+Q.length<=1000->IV P n [] ks ds->ks.length+26*Q.length<=100000->∃(c:List Str) (d:List D) (k l j:Option Ent),IV P (n+Q.length) [] c d /\
  loop (wW (yO (zN 2) (yO (zN 3) wQ))) lO (((Q.map D.str).zipIdx n).map λp=>D.tup [.int (p.2:Int),p.1]) [a,aa (.obj (.dic ks ds)),x2,i,b]=aa (.nx [a,aa (.obj (.dic c d)),k,l,j])
 |[],n,ks,ds,x2,i,b,_,_,_,I,_=>⟨ks,ds,x2,i,b,I,rfl⟩
 |z::Q,n,ks,ds,x2,i,b,t,u,x,I,y=>by
  simp only[aI]at x y;have e:n<P.length:=by
   have:=congrArg oV t;simp only[aI,iN]at this;lia
  have m:=t;rw[ey e,Bq]at m;have o:P.getD n (mkS [])=z:=by rw[m.1];simp[e]
  have A:=u z aw;obtain⟨f,g,j,v,H,B⟩:=cG P n (by lia) a (aa (.val (.str z))) z.cps.toList [] ks ds b I (by lia);rw[iz]at v;have C:lO [a,aa (.obj (.dic ks ds)),~~~(n:Int),aa (.val (.str z)),b]=aa (.nx [a,aa (.obj (.dic f g)),~~~(n:Int),aa (.val (.str z)),j]):=B;obtain⟨q,r,k,l,s,w,E⟩:=cH a Q (n+1) f g (~~~(n:Int)) (aa (.val (.str z))) j m.2 (λG h=>u G (aq _ h)) (by lia) (v.next P o) (by lia);rw[show n+1+Q.length=n+(Q.length+1) by lia]at w;refine⟨q,r,k,l,s,w,?_⟩;rw[ay,Be,ay];exact(wK rfl C).trans E
theorem VZ(b:P.length<=1000)(a:∀z∈P,z.cps.toList.length<=26):∃(ks:List Str) (ds:List D),mm [.tup (P.map .str)]=aa (.val (.dic ks ds))/\IV P P.length [] ks ds:=by
 obtain⟨ks,ds,d,g,h,I,e⟩:=cH P (aa (.val (.tup (P.map .str)))) P 0 [] [] ab ab ab rfl a (by lia) ⟨rfl,λc=>by rw[if_neg (by simp),CK];rfl⟩ (by simp;lia);rw[aV]at I;refine⟨ks,ds,?_,I⟩;have w:lM [aa (.val (.tup (P.map .str))),ab,ab,ab,ab]=aa (.rt (.val (.dic ks ds)) _):=
  (show lM _=_ from yf (f:=tq 1 nK) rfl).trans ((v7 rfl e).trans rfl)
 exact(congrArg (λo=>ez o yh) w).trans rfl
theorem IV.fits{ks:List Str}{ds:List D}(T:List Nat)(j:Nat):sP (zz P T) P.length j (fb (has P (T.getD j 0)) P.length):=λi=>cA _ _ i
theorem IV.get(I:IV P P.length [] ks ds)(c:Nat):(xo ks ds (mkS [c])).elim (Ent.val (.int 0)) .val=.val (.int ((fb (has P c) P.length:Nat):Int)):=by
 rw[I.at_ c,if_neg (by simp),CK]
end
section
open CE BT
theorem sY(fit:Nat->Nat->Bool):∀i j,zh fit pl true i j=aa (pc fit i j:Int)
 |0,0=>by rw[sV,sC];rfl
 |0,j+1=>by rw[sW,if_pos rfl,sC];rfl
 |i+1,0=>by rw[qA,sY fit i 0,jQ,jQ];rfl
 |i+1,j+1=>by
  have g:=sY fit i j;have h:=sY fit (i+1) j;have k:=sY fit i (j+1);rw[uN,g,h,k,m7];have l:(if fit i j=true then aa (pc fit i j:Int)else zY (aa (pc fit i j:Int)) pl.exch)=aa ((pc fit i j+if fit i j=true then 0 else 1:Nat):Int):=by
   cases fit i j with
   |true=>rfl
   |false=>rfl
  have m:zY (aa (pc fit (i+1) j:Int)) pl.put=aa ((pc fit (i+1) j+1:Nat):Int):=rfl;have n:zY (aa (pc fit i (j+1):Int)) pl.left=aa ((pc fit i (j+1)+1:Nat):Int):=rfl;have o:zY (tc fit (zh fit pl true) i j) pl.turn=ab:=rfl;rw[l,m,n,o];generalize pc fit i j+(if fit i j=true then 0 else 1)=a;generalize pc fit (i+1) j+1=b;generalize pc fit i (j+1)+1=c;obtain⟨x,d,p⟩:=uj (cs:=[aa (a:Int),aa (b:Int),aa (c:Int),ab]) (c:=(a:Int)) (by simp);obtain⟨y,e,q⟩:=uj (cs:=[aa (a:Int),aa (b:Int),aa (c:Int),ab]) (c:=(b:Int)) (by simp);obtain⟨z,f,r⟩:=uj (cs:=[aa (a:Int),aa (b:Int),aa (c:Int),ab]) (c:=(c:Int)) (by simp);rw[d]at e f;cases e;cases f;rw[d];have:=tI d;simp only[aC,oA,reduceCtorEq,eO,or_false]at this;congr 1;lia
variable (P:List Str)(T:List Nat)
abbrev fT:=zz P T
def w4(ks:List Str)(ds:List D)(a:Int)(k j:Nat)(b:List D):OT:=.ins "Bits" ["fitting","classes","rows","sight"] [.val (.dic ks ds),.val (.int (P.length:Int)),.lst (xx (fT P T) P.length k j),xp a (j+1) b]
theorem Yx(a:Int)(k j:Nat)(b:(if a<(P.length:Int)then a else (P.length:Int))=(k:Int)):xj a (tP (fT P T) P.length k j) j=xj a (cT P T pl P.length j) j:=by
 have e:cT P T pl P.length j=aa (pc (fT P T) P.length j:Int):=sY _ _ _;have d:=ZS (fT P T) P.length j;rw[e];unfold tP;by_cases c:pc (fT P T) P.length j<k+1
 ·rw[if_pos c]
 ·rw[if_neg c];refine(if_neg (show ¬ ((pc (fT P T) P.length j:Int)<=a)from λh=>?_)).symm;split at b <;> lia
variable (ks:List Str)(ds:List D)(most:Int)(k:Nat)(hk:(if most<(P.length:Int)then most else (P.length:Int))=(k:Int))(hP:P.length<=60)(I:IV P P.length [] ks ds)(hg:mm [.tup (P.map .str)]=aa (.val (.dic ks ds)))
include hk hP in
theorem Sq:k<=1000:=by split at hk <;> lia
include hk hP hg in
theorem Wt:si (.ins "Bits" [] []) [.tup (P.map .str),.int most]=aa (.non,w4 P T ks ds most k 0 (yb P T pl most 0 1)):=by
 have a:=VM (fT P T) P.length k most hk hP;have b:=hQ most;have c:=Yw (fT P T) P.length k 0 hP;have d:=qC most (tP (fT P T) P.length k 0) 0 [] (by simp);have e:yb P T pl most 0 1=[]++xj most (tP (fT P T) P.length k 0) 0:=by rw[pH P T pl most (aj 0),tN,Yx P T most k 0 hk]
 have f:(P.map D.str).length=P.length:=ar _;rw[e];unfold w4;unfold xp at *;generalize xx (fT P T) P.length k 0=R at *;generalize P.map D.str=g at *;simp only[si,xy,xV,xb,aV,Nat.reduceAdd,gD,zf,wV,zi,zb,za,wY,wR,aB,xU,zG,zF,zd,zl,zk,yq,yL,zL,hg,toO,y3,wX,xB,yx,ym,zm,yC,yc,f,xA,xg,fE,a,vu,yn,b,fX,vd,zS,c,yK,d,vR,yi]
include hk hP I in
theorem Wx(j:Nat)(a:List D)(c:a.length<100000) :
  nW (w4 P T ks ds most k j a) [.str (mkS [T.getD j 0])]=aa (.non,w4 P T ks ds most k (j+1) (a++xj most (cT P T pl P.length (j+1)) (j+1))):=by
 have d:=V9 (k:=k) (IV.fits P (ks:=ks) (ds:=ds) T j) hP (Sq P most k hk hP);have e:=I.get P (T.getD j 0);have f:=Yw (fT P T) P.length k (j+1) hP;have b:=qC most (tP (fT P T) P.length k (j+1)) (j+1) a c;rw[Yx P T most k (j+1) hk]at b;unfold w4;unfold xp at *;generalize xx (fT P T) P.length k j=R at *;generalize xx (fT P T) P.length k (j+1)=g at *;generalize ((fb (has P (T.getD j 0)) P.length:Nat):Int)=h at *;generalize (P.length:Int)=i at *;generalize mkS [T.getD j 0]=l at *;simp (disch:=omega) only[nW,xy,xV,xb,aV,gF,zf,vT,zi,zb,xg,y3,wY,wR,aB,xU,zF,zk,wX,zG,fE,wM,za,eC,zd,zl,se,t4,rm,zP,e,yq,yL,zS,zL,d,toO,yx,Nat.reduceAdd,Nat.reduceLT,yK,yi,ym,fX,vd,f,yn,b,vR]
include hk hP I in
theorem dw(b:Option Ent):∀(w:List Nat) (j:Nat) (a:List D) (d:Option Ent),j+w.length<=T.length->w=(T.drop j).take w.length->a.length+w.length<100000->∃g,
  loop (zN 2) pR (w.map λc=>D.str (mkS [c])) [aa (.obj (w4 P T ks ds most k j a)),b,d]=aa (.nx [aa (.obj (w4 P T ks ds most k (j+w.length) (a++yb P T pl most (j+1) (j+w.length+1)))),b,g])
 |[],j,a,d,_,_,_=>⟨d,by simp[loop,tN]⟩
 |c::w,j,a,d,i,f,l=>by
  simp only[aI]at i f l;have h:j<T.length:=by lia
  rw[ey h,BB,Bq]at f;have m:c=T.getD j 0:=by rw[f.1];simp[h]
  have r:=Wx P T ks ds most k hk hP I j a (by lia);have n:=lb most (cT P T pl P.length (j+1)) (j+1);have o:pR [aa (.obj (w4 P T ks ds most k j a)),b,~~~[[c]]]=aa (.nx [aa (.obj (w4 P T ks ds most k (j+1) (a++xj most (cT P T pl P.length (j+1)) (j+1)))),b,~~~[[c]]]):=by
   rw[m];unfold w4 at *;generalize xx (fT P T) P.length k j=R at *;simp only[pR,fX,xM,y3,zF,zb,za,zG,zd,zl,zk,yn,zL,yx,wX,r]
  obtain⟨g,e⟩:=dw b w (j+1) (a++xj most (cT P T pl P.length (j+1)) (j+1)) (~~~[[c]]) (by lia) f.2 (by rw[aJ];lia);refine⟨g,o6 (wK rfl o) (o6 e ?_)⟩;rw[aI,show j+1+w.length=j+(w.length+1) by lia,eG];have q:xj most (cT P T pl P.length (j+1)) (j+1)=yb P T pl most (j+1) (j+1+1):=by rw[pH P T pl most (aj (j+1)),tN,iz]
  rw[q,r0 P T pl most (by lia) (by lia)]
include hk hP I in
theorem Ws(w:List Nat)(j:Nat)(a:List D)(h1:j+w.length<=T.length)(b:w=(T.drop j).take w.length)(c:a.length+w.length<100000) :
  rp (w4 P T ks ds most k j a) [.str (mkS w)]=aa (.tup (a++yb P T pl most (j+1) (j+w.length+1)),w4 P T ks ds most k (j+w.length) []):=by
 obtain⟨d,e⟩:=dw P T ks ds most k hk hP I (~~~[w]) w j a ab h1 b c;have t:=gk most (j+w.length+1) (a++yb P T pl most (j+1) (j+w.length+1));unfold w4 at *;unfold xp at *;generalize a++yb P T pl most (j+1) (j+w.length+1)=f at *;generalize xx (fT P T) P.length k j=R at *;generalize xx (fT P T) P.length k (j+w.length)=g at *;simp only[rp,xy,xV,xb,aV,gE,zf,ye,iS,za,wY,wR,aB,xA,xB,zG,zF,zP,zk,zl,wG,e,ym,sd,vd,y3,wX,zd,yn,yx,yK,t,vR,yi]
end
section
open CE
theorem PP:pl.d=.tup [.int 1,.int 1,.int 1,.int 0]:=rfl
abbrev lF(pp:List D)(t:List Nat)(j x:Int)(a b c:Option Ent):En:=[aa (.val (.tup pp)),~~~[t],~~~j,~~~x,a,b,c]
variable (w t:List Nat)(hw:w.length<=100)(ht:t.length<=100)
include hw ht
theorem SU{j:Nat}{x:Int}(f:j<=t.length)(h:cW w t j=aa x):qU [.tup ((wP w).map .str),.str (mkS t),.int (j:Int),.int x]=aa (.val (.bl true)):=by
 have p:=u4 w;obtain⟨l,g,q,r,u,C,k⟩:=Lo (wP w) t pl j (by lia) (by lia) rV f (by rw[p];exact h);have E:=gb t j f q;have m:=SS (wP w) (sub t j l) pl (by lia) (by lia) g r;have i:=NV pl g (by lia);have n:=dU t j (b:=j-l) f (by lia);rw[show j-(j-l)=l by lia]at n;rw[u]at i;rw[PP]at m i k;have y:¬ (((j-l:Nat):Int)<0):=by lia
 have A:¬ (((j-l:Nat):Int) > (j:Int)):=by lia
 have G:t.length<=1000000:=by lia
 have H:∀a b:D,zO [a,b] 1=aa b:=λ_ _=>rfl;generalize (g.map Kd5.s).map D.str=row at *;generalize (wP w).map D.str=e at *;generalize sub t j l=I at *;generalize ((j-l:Nat):Int)=b at *;have L:zi [.v,.v,.v,.v] mu (zb (za 0) (zb (yo yS (za 1) (zQ (za 5)) (zQ (za 2))) (zb (yQ (zb (eC (.int 1)) (zb (eC (.int 1)) (zb (eC (.int 1)) (zb (eC (.int 0)) zd))))) (zb (za 6) zd)))) (lF e t j x (aa (.val (.tup [.int b,.tup row]))) (~~~b) (aa (.val (.tup row))))=aa (.val (.bl true)):=by
  simp (disch:=omega) only[zi,zb,za,zF,yo,zG,zQ,zk,zr,zl,yS,zP,yj,yI,wG,n,zT,yQ,eC,zd,xV,xb,Nat.reduceLeDiff,yn,zL,yi,yq,yL,m]
 have c:zU (yD (zg (zo (va "int") (za 5)))) (zU (zg (zc xt (za 5) (eC (.int 0)))) (zU (zg (zc yF (za 5) (za 2))) (zg (zc wy (zi [.v,.v] pd (zb (yQ (zb (eC (.int 1)) (zb (eC (.int 1)) (zb (eC (.int 1)) (zb (eC (.int 0)) zd))))) (zb (za 6) zd))) (za 3))))) (lF e t j x (aa (.val (.tup [.int b,.tup row]))) (~~~b) (aa (.val (.tup row))))=aa false:=by
  have z:yD (zg (zo (va "int") (za 5))) (lF e t j x (aa (.val (.tup [.int b,.tup row]))) (~~~b) (aa (.val (.tup row))))=aa false:=by kernel_rfl
  generalize yD (zg (zo (va "int") (za 5)))=Z at z ⊢;simp only[zU,z,zg,zc,za,zG,zF,eC,xt,z8,zr,zk,zl,y,xu,zR,yF,A,zi,zb,yQ,zd,xV,xb,Nat.reduceLeDiff,yn,zL,yi,yq,yL,i,wy,vo,xn,vW,yZ,y0]
 have B:lE (lF e t j x ab ab ab)=aa (.rt (.val (.bl true)) _):=(show lE _=_ from y8 (δ:=lF e t j x ab ab ab) k).trans ((yf (xm (by kernel_rfl))).trans ((yf (δ':=(lF e t j x (aa (.val (.tup [.int b,.tup row]))) (~~~b) (aa (.val (.tup row))))) (by kernel_rfl)).trans ((yf (xm c)).trans (xQ (d:=.bl true) (by unfold zc;rw[L];rfl)))))
 exact(congrArg (λo=>ez o _) B).trans rfl
end
section
open CE
theorem sePr_iff{M:Int}{j:Nat}{p:Int×Int}:p∈xH M c j ↔ c=aa p.2/\p.2<=M/\p.1=(j:Int):=by
 obtain⟨a,b⟩:=p;cases c with
 |none=>exact⟨λh=>(by cases h),λh=>(by cases h.1)⟩
 |some x=>
  unfold xH;dsimp only;split
  ·simp only[aL,Prod.mk.injEq,oA];constructor
   ·rintro⟨rfl,rfl⟩;exact⟨rfl,by assumption,rfl⟩
   ·rintro⟨rfl,_,rfl⟩;exact⟨rfl,rfl⟩
  ·simp only[eO,oA,false_iff];rintro⟨rfl,h,_⟩;contradiction
theorem wE_iff{M:Int}{n:Nat}{p:Int×Int}:p∈wE w t M 0 n ↔ ∃j:Nat,j<n/\p.1=(j:Int)/\p.2<=M/\cW w t j=aa p.2:=by
 unfold wE;rw[Ci];constructor
 ·rintro⟨j,e,d⟩;obtain⟨a,b,c⟩:=sePr_iff.mp d;exact⟨j,by have:=Am.mp e;lia,c,b,a⟩
 ·rintro⟨j,e,d,f,g⟩;exact⟨j,Am.mpr (by lia),sePr_iff.mpr ⟨g,f,d⟩⟩
theorem S4(c:Nat->Option Int)(n:Nat)(h:∀j,∃x,c j=aa x):∃(j:Nat) (m:Int),j<=n/\c j=aa m/\(∀i x,i<=n->c i=aa x->m<=x)/\lw ((ic 0 (n+1)).map c)=aa m/\tG (((ic 0 (n+1)).map c).map oD) (.int m)= ~~~(j:Int):=by
 obtain⟨x,a⟩:=h 0;obtain⟨m,b,_⟩:=uj (cs:=(ic 0 (n+1)).map c) (c:=x) (a8.mpr ⟨0,Am.mpr (by lia),a⟩);obtain⟨j,f,d,_⟩:=bf _ m (tI b);have g:j<=n:=by have:=(aQ.mp d).1;simp at this;lia
 rw[av,List.getElem?_range' (by lia)]at d;refine⟨j,m,g,by simpa using d,λi x k a=>?_,b,f⟩;obtain⟨l,e,q⟩:=uj (cs:=(ic 0 (n+1)).map c) (c:=x) (a8.mpr ⟨i,Am.mpr (by lia),a⟩);rw[b]at e;cases e;exact q
variable (w t:List Nat)(hw:w.length<=100)(ht:t.length<=100)
include hw ht
theorem RG:∃(j:Nat) (m:Int),j<=t.length/\cW w t j=aa m/\(∀i x,i<=t.length->cW w t i=aa x->m<=x)/\qZ [.tup ((wP w).map .str),.str (mkS t),.tup [.int 1,.int 1,.int 1,.int 0]]=aa (.val (.tup [.int (j:Int),.int m])):=by
 obtain⟨j,m,a,b,c,d,f⟩:=S4 (cW w t) t.length λj=>⟨_,sY _ _ _⟩
 refine⟨j,m,a,b,c,?_⟩;have e:=ce (wP w) t pl (by rw[u4];lia) (by lia);rw[u4,show(ic 0 (t.length+1)).map (λj=>oD (cT (wP w) t pl w.length j))=((ic 0 (t.length+1)).map (cW w t)).map oD by rw[e7];rfl]at e;have l:=Zr _ (by simp;lia) d f;generalize ((ic 0 (t.length+1)).map (cW w t)).map oD=k at e l;generalize (wP w).map D.str=g at *;have h:rG [.tup g,.str (mkS t),.tup [.int 1,.int 1,.int 1,.int 0]]=_:=e;simp only[qZ,zw,yH,yU,zl,zk,fI,zn,zi,zb,za,aB,xU,zd,yd,zF,zG,yq,yL,zL,vM,h,l,yh]
abbrev xa(a0:List D)(c:Int)(y2:Option Ent)(w t:List Nat)(M:Int)(pp:List D)(x7 x8 x9 x10 x11 x12 x13:Option Ent):En:=[aa (.bor a0),~~~c,y2,~~~[w],~~~[t],~~~M,aa (.val (.tup pp)),x7,x8,x9,x10,x11,x12,x13]
variable (a0:List D)(c0 M:Int)(y2 x8 x9 x10 x11 x12 x13:Option Ent)
theorem N3:∃g,l0 (xa a0 c0 y2 w t M ((wP w).map .str) (aa (.val (.tup ((wE w t M 0 (t.length+1)).map zj)))) x8 x9 x10 x11 x12 x13)=aa (.rt (.val (.bl true)) g):=by
 have i:∀d∈(wE w t M 0 (t.length+1)).map zj,∃(j:Nat) (x:Int),d=.tup [.int (j:Int),.int x]/\qU [.tup ((wP w).map .str),.str (mkS t),.int (j:Int),.int x]=aa (.val (.bl true)):=λd a=>by
  obtain⟨p,k,rfl⟩:=a8.mp a;obtain⟨j,f,c,_,l⟩:=wE_iff.mp k;exact⟨j,p.2,by rw[<- c];rfl,SU w t hw ht (by lia) l⟩
 have y:=gy w t M 0 (t.length+1);have m:((wE w t M 0 (t.length+1)).map zj).length<=101:=by rw[ar];lia
 generalize (wE w t M 0 (t.length+1)).map zj=E at *;generalize (wP w).map D.str=b at *;generalize e:zH E ab (aa 3)++zH (zH E (aa 3) ab) (aa (-3)) ab=L;have z:L.length<=1000:=by
  have f:=uO E ab (aa 3);have c:=uO E (aa 3) ab;have n:=uO (zH E (aa 3) ab) (aa (-3)) ab;rw[<- e,aJ];lia
 have o:∀d∈L,d∈E:=λd a=>by
  rw[<- e]at a;rcases ed.mp a with h|h
  ·exact kL h
  ·exact kL (kL h)
 have r:zc rl (yo tE (za 7) wS (zQ (eC (.int 3)))) (yo tE (yo tE (za 7) (zQ (eC (.int 3))) wS) (zQ (zo yp (eC (.int 3)))) wS) (xa a0 c0 y2 w t M b (aa (.val (.tup E))) x8 x9 x10 x11 x12 x13)=aa (.val (.tup L)):=by
  have f:=uO E ab (aa 3);have c:=uO E (aa 3) ab;have n:=uO (zH E (aa 3) ab) (aa (-3)) ab;simp (disch:=omega) only[zc,yo,za,zG,zF,wS,zQ,eC,zk,zr,zl,tE,yc,zo,yp,Int.reduceNeg,rl,yI,e,zT]
 have s:yB [6,4] (iT (za 11)) fG g6 (xa a0 c0 y2 w t M b (aa (.val (.tup E))) x8 x9 x10 (aa (.val (.tup L))) x12 x13)=aa (.own []):=by
  refine w6 (ds:=L) rfl ((kK (λ_=>false) L (λd a=>?_) λd _=>rfl).trans (by simp)) (by simp);obtain⟨j,x,rfl,q⟩:=i d (o d a);have u:zi [.v,.v,.v,.v] qU (zb (za 1) (zb (za 2) (zb (zc zV (za 0) (eC (.int 0))) (zb (zc zV (za 0) (eC (.int 1))) zd)))) [aa (.val (.tup [.int (j:Int),.int x])),aa (.val (.tup b)),~~~[t]]=_:=q;exact jK u
 exact⟨_,(show l0 _=_ from y8 r).trans (xQ (δ:=xa a0 c0 y2 w t M b (aa (.val (.tup E))) x8 x9 x10 (aa (.val (.tup L))) x12 x13) (d:=.bl true) (by unfold zc;rw[s];rfl))⟩
end
section
open CE
theorem RE{b:Bool}(a:X δ=aa (.val (.bl b)))(c:Y δ=aa (.val (.bl b))):zg (zc wy X Y) δ=aa false:=by
 unfold zg zc;rw[a,c];cases b <;> kernel_rfl
theorem S9(c:A δ=aa (.val a))(d:B δ=aa (.val b)):z7 (zb A (zb B zd)) δ=aa (.own [a,b]):=by
 unfold z7 zb zd;rw[c];simp only[a5];rw[d];rfl
theorem QM(a:X δ=aa false)(b:Y δ=aa false):zU X Y δ=aa false:=by unfold zU;rw[a];exact b
theorem gx(w t:List Nat)(M:Int)(b:t.length<=100):nY [.tup ((wE w t M 0 (t.length+1)).map zj),.tup ((wE w t M 0 (t.length+1)).map zj)]=aa (.val (.bl true)):=by
 refine Wh _ (by have:=gy w t M 0 (t.length+1);rw[ar];lia) λd a=>?_;obtain⟨p,_,rfl⟩:=a8.mp a;exact⟨_,_,rfl⟩
variable (w t:List Nat)(hw:w.length<=100)(ht:t.length<=100)(a0:List D)(c0:Int)(M:Nat)(y2 x8 x9 x10 x11 x12 x13:Option Ent)
abbrev xk:D:=.tup ((wE w t M 0 (t.length+1)).map zj)
include hw ht
theorem N2{j:Nat}{m:Int}(h1:j<=t.length)(g:cW w t j=aa m)(k:∀i x,i<=t.length->cW w t i=aa x->m<=x):∃c,lZ (xa a0 c0 y2 w t M ((wP w).map .str) (aa (.val (xk w t M))) x8 x9 x10 x11 x12 (aa (.val (.tup [.int (j:Int),.int m]))))=aa (.rt (.val (.bl true)) c):=by
 obtain⟨c,s⟩:=N3 w t hw ht a0 c0 M y2 x8 x9 x10 x11 x12 (aa (.val (.tup [.int (j:Int),.int m])));refine⟨c,(show lZ _=_ from yf (xm (QM ?_ (RE (b:=decide (m<=(M:Int))) ?_ ?_)))).trans s⟩
 ·have e:yB [13] (iT (za 7)) l7 g3 (xa a0 c0 y2 w t M ((wP w).map .str) (aa (.val (xk w t M))) x8 x9 x10 x11 x12 (aa (.val (.tup [.int (j:Int),.int m]))))=aa (.own []):=by
   refine w6 rfl ((kK (λ_=>false) _ (λd l=>?_) λd _=>rfl).trans (by simp)) (by simp);obtain⟨p,f,rfl⟩:=a8.mp l;obtain⟨i,y,_,_,o⟩:=wE_iff.mp f;refine(show l7 [aa (.val (zj p)),aa (.val (.tup [.int (j:Int),.int m]))]=_ from jG (a:=p.2) (b:=m) rfl rfl).trans ?_;rw[decide_eq_false (by have:=k i p.2 (by lia) o;lia)]
  unfold zg zc;rw[e];rfl
 ·have r:=Yl (wE w t M 0 (t.length+1));have n:∀r∈(wE w t M 0 (t.length+1)).map um,r≠[]:=λr u=>by obtain⟨p,_,rfl⟩:=a8.mp u;exact λe=>by cases e
  have q:decide (([(j:Int),m]:xf)∈(wE w t M 0 (t.length+1)).map um)=decide (m<=(M:Int)):=by
   refine decide_eq_decide.mpr ⟨λh=>?_,λh=>a8.mpr ⟨((j:Int),m),wE_iff.mpr ⟨j,by lia,rfl,h,g⟩,rfl⟩⟩;obtain⟨p,f,e⟩:=a8.mp h;obtain⟨i,_,_,v,_⟩:=wE_iff.mp f;exact(C8 (C8 (show [p.1,p.2]=[_,_]from e)).2).1 ▸ v
  show nV (.val (.tup [.int (j:Int),.int m])) (.val (.tup ((wE w t M 0 (t.length+1)).map zj)))=_;unfold nV;rw[show(yc (.val (.tup [.int (j:Int),.int m]))).bind ug=aa [(j:Int),m]from rfl,show yc (.val (.tup ((wE w t M 0 (t.length+1)).map zj)))=aa _ from rfl,a5,a5,r,a5,sq n,q]
 ·show zc uw _ _ _=_;have:∀b:Bool,b=decide (m<=(M:Int))->aa (Ent.val (D.bl b))=aa (.val (.bl (decide (m<=(M:Int))))):=λb e=>by rw[e]
  exact this _ rfl
theorem N1:∃a,lY (xa a0 c0 y2 w t M ((wP w).map .str) (aa (.val (xk w t M))) x8 x9 x10 x11 x12 x13)=aa (.rt (.val (.bl true)) a):=by
 obtain⟨j,m,b,c,d,f⟩:=RG w t hw ht;obtain⟨a,s⟩:=N2 w t hw ht a0 c0 M y2 x8 x9 x10 x11 x12 b c d;have e:zi [.v,.v,.v] qZ (zb (za 6) (zb (za 4) (zb (yQ (zb (eC (.int 1)) (zb (eC (.int 1)) (zb (eC (.int 1)) (zb (eC (.int 0)) zd))))) zd))) (xa a0 c0 y2 w t M ((wP w).map .str) (aa (.val (xk w t M))) x8 x9 x10 x11 x12 x13)=_:=f;exact⟨a,(show lY _=_ from y8 e).trans s⟩
theorem jA{K:List (Int×Int)}(v:Sv w t M K):nc (xa a0 c0 y2 w t M ((wP w).map .str) (aa (.val (xk w t M))) x8 x9 x10 x11 (aa (.val (.tup (K.map zj)))) x13)=aa (.nx (xa a0 c0 y2 w t M ((wP w).map .str) (aa (.val (xk w t M))) x8 x9 x10 x11 (aa (.val (.tup (K.map zj)))) x13)):=by
 have k:=Ss w t M K v.kp (by lia) (by lia);rw[Su v.kp v.k3]at k;have al:=gx w t M ht;have a:zi [.v,.v,.v,.v] mj (zb (za 3) (zb (za 5) (zb (za 4) (zb (za 12) zd)))) (xa a0 c0 y2 w t M ((wP w).map .str) (aa (.val (xk w t M))) x8 x9 x10 x11 (aa (.val (.tup (K.map zj)))) x13)=_:=k;exact(show nc _=_ from xm (jK ((v6 a (b:=xk w t M) rfl).trans al))).trans rfl
theorem N0{q:Nat}(h:1<=q)(i:q<=100)(x:M<=90):∃d,lX (xa a0 c0 y2 w t M ((wP w).map .str) (aa (.val (xk w t M))) x8 x9 (~~~(q:Int)) x11 x12 x13)=aa (.rt (.val (.bl true)) d):=by
 have e:=QS w t M (by lia) (by lia) (by lia);have j:=Vm w t M (by lia) (by lia) (by lia);have k:=bX w t M q (by lia) (by lia) (by lia) (by lia);have l:=Lr w t M;have f:=YG w t M 1 (aj 1);have m:=YG w t M q h;rw[show((M:Int).toNat)=M from rfl]at e;generalize wA (y9 (xR w t M (M+1)))=a at *;rw[show((1:Nat):Int)=1 from rfl]at f;generalize wA (y9 (xD (wH w t M 1) w.length M (t.length+1)))=b at *;generalize wA (y9 (xD (wH w t M q) w.length M (t.length+1)))=c at *;have n:zi [.v,.v,.v] ms (zb (za 3) (zb (za 5) (zb (za 4) zd))) (xa a0 c0 y2 w t M ((wP w).map .str) (aa (.val (xk w t M))) x8 x9 (~~~(q:Int)) x11 x12 x13)=_:=e;have o:zi [.v,.v,.v] qY (zb (za 3) (zb (za 5) (zb (za 4) zd))) (xa a0 c0 y2 w t M ((wP w).map .str) (aa (.val (xk w t M))) x8 x9 (~~~(q:Int)) x11 x12 x13)=_:=j;have p:zi [.v,.v,.v,.v] sn (zb (za 3) (zb (za 5) (zb (za 4) (zb (za 10) zd)))) (xa a0 c0 y2 w t M ((wP w).map .str) (aa (.val (xk w t M))) x8 x9 (~~~(q:Int)) (aa (.own [.tup (a.map zj),.tup (b.map zj)])) x12 x13)=_:=k;have r:iL (zc nQ (za 11) (z7 (zb (zi [.v,.v,.v,.v] sn (zb (za 3) (zb (za 5) (zb (za 4) (zb (za 10) zd))))) zd))) (xa a0 c0 y2 w t M ((wP w).map .str) (aa (.val (xk w t M))) x8 x9 (~~~(q:Int)) (aa (.own [.tup (a.map zj),.tup (b.map zj)])) x12 x13)=aa [.tup (a.map zj),.tup (b.map zj),.tup (c.map zj)]:=by
  have g:=ca p;generalize z7 (zb (zi [.v,.v,.v,.v] sn (zb (za 3) (zb (za 5) (zb (za 4) (zb (za 10) zd))))) zd)=y at g ⊢;simp (disch:=simp) only[iL,zc,za,zG,zF,g,nQ,nz,zk,xV,xb,yI,xA,xB,zT]
 obtain⟨d,s⟩:=N1 w t hw ht a0 c0 M y2 x8 x9 (~~~(q:Int)) (aa (.own [.tup (a.map zj),.tup (b.map zj)])) (aa (.val (.tup (c.map zj)))) x13;have u:loop (zN 12) nc [.tup (a.map zj),.tup (b.map zj),.tup (c.map zj)] (xa a0 c0 y2 w t M ((wP w).map .str) (aa (.val (xk w t M))) x8 x9 (~~~(q:Int)) (aa (.own [.tup (a.map zj),.tup (b.map zj)])) x12 x13)=aa (.nx (xa a0 c0 y2 w t M ((wP w).map .str) (aa (.val (xk w t M))) x8 x9 (~~~(q:Int)) (aa (.own [.tup (a.map zj),.tup (b.map zj)])) (aa (.val (.tup (c.map zj)))) x13)):=by
  refine o6 (wK rfl (jA w t hw ht a0 c0 M y2 x8 x9 (~~~(q:Int)) (aa (.own [.tup (a.map zj),.tup (b.map zj)])) x13 l)) ?_;refine o6 (wK rfl (jA w t hw ht a0 c0 M y2 x8 x9 (~~~(q:Int)) (aa (.own [.tup (a.map zj),.tup (b.map zj)])) x13 f)) ?_;refine o6 (wK rfl (jA w t hw ht a0 c0 M y2 x8 x9 (~~~(q:Int)) (aa (.own [.tup (a.map zj),.tup (b.map zj)])) x13 m)) ?_;rfl
 refine⟨d,(show lX _=_ from yf (tp (S9 n o))).trans ((show fq _=_ from v7 r u).trans s)⟩
end
section
open CE
theorem U4(ks:List Str)(ds:List D)(P:List Str)(T:List Nat)(a:Int)(k j:Nat)(b:List D):∃l,vl "Bits" ["fitting","classes","rows","sight"] (w4 P T ks ds a k j b)=aa l:=⟨_,wX⟩
theorem bg(P:List Str)(T:List Nat)(p:Pr)(a:Int)(j:Nat)(b:List D):∃l,vl "Finder" ["pattern","prices","columns","last_sign","sight"] (wn P T p a j b)=aa l:=⟨_,wX⟩
variable (w t:List Nat)(hw:w.length<=40)(ht:t.length<=100)(a0:List D)(c0:Int)(M:Nat)(y2 x7 x8 x9 x10 x11 x12 x13:Option Ent)
theorem MC:yb (wP w) t pl M 0 1++yb (wP w) t pl M 1 (t.length+1)=(wE w t M 0 (t.length+1)).map zj:=(r0 (wP w) t pl M (by lia) (by lia)).trans (gl w t M)
include hw ht
theorem Wu:nL "Bits" ["fitting","classes","rows","sight"] rp (vu "Bits" si (zb (za 6) (zb (za 5) zd))) (zb (za 4) zd) (xa a0 c0 y2 w t M ((wP w).map .str) x7 x8 x9 x10 x11 x12 x13)=aa (.val (xk w t M)):=by
 have n:=u4 w;obtain⟨k,d⟩:∃k:Nat,(if (M:Int)<((wP w).length:Int)then (M:Int)else ((wP w).length:Int))=(k:Int):=by split <;> exact⟨_,rfl⟩
 obtain⟨a,b,f,g⟩:=VZ (P:=wP w) (by lia) λz h=>by
  obtain⟨c,_,rfl⟩:=a8.mp h;simp[wG]
 have i:=Wt (wP w) t a b M k d (by lia) f;have e:=Ws (wP w) t a b M k d (by lia) g t 0 (yb (wP w) t pl M 0 1) (by lia) (by simp) (by have:=lf (wP w) t pl M 0 1;lia);rw[aV t.length,MC]at e;obtain⟨l,j⟩:=U4 a b (wP w) t M k 0 (yb (wP w) t pl M 0 1);have m:vu "Bits" si (zb (za 6) (zb (za 5) zd)) (xa a0 c0 y2 w t M ((wP w).map .str) x7 x8 x9 x10 x11 x12 x13)=aa (.obj (w4 (wP w) t a b M k 0 (yb (wP w) t pl M 0 1))):=by
  show(si (.ins "Bits" [] []) [.tup ((wP w).map .str),.int M]).bind _=_;rw[i];rfl
 unfold nL;rw[m];show(vl _ _ _).bind _=_;rw[j];show(rp _ [.str (mkS t)]).map _=_;rw[e];rfl
theorem NZ{q:Nat}(d:1+c0 / 7%6=(q:Int))(a:1<=q)(f:q<=6)(g:M<=90):∃c,lW (xa a0 c0 y2 w t M ((wP w).map .str) (aa (.val (xk w t M))) x8 x9 x10 x11 x12 x13)=aa (.rt (.val (.bl true)) c):=by
 obtain⟨c,s⟩:=N0 w t (by lia) ht a0 c0 M y2 x8 x9 x11 x12 x13 a (by lia) g;have e:zc zt (eC (.int 1)) (zc yN (zc xX (za 1) (eC (.int 7))) (eC (.int 6))) (xa a0 c0 y2 w t M ((wP w).map .str) (aa (.val (xk w t M))) x8 x9 x10 x11 x12 x13)= ~~~(q:Int):=by
  rw[<- d];exact wu rfl (pA (t5 rfl rfl (by decide)) rfl (by decide))
 exact⟨c,(show lW _=_ from yf (xm (jK ((v6 (Wu w t hw ht a0 c0 M y2 (aa (.val (xk w t M))) x8 x9 x10 x11 x12 x13) (b:=xk w t M) rfl).trans (gx w t M ht))))).trans ((show fg _=_ from y8 e).trans s)⟩
theorem N4{q k:Nat}(z:k<=t.length)(n:1+c0 / 7%6=(q:Int))(c:1<=q)(e:q<=6)(o:M<=90):∃f,l5 (xa a0 c0 y2 w t M ((wP w).map .str) (aa (.val (xk w t M))) (~~~(k:Int)) x9 x10 x11 x12 x13)=aa (.rt (.val (.bl true)) f):=by
 have A:=u4 w;have g:=VL (wP w) t pl (by lia) M;have a:(t.take k).length=k:=by rw[eN];lia
 have b:(t.drop k).length=t.length-k:=iN;have h:=cC (wP w) t pl (by lia) (by lia) M (t.take k) 0 (yb (wP w) t pl M 0 1) (by lia) (by rw[a];rfl) (by have:=lf (wP w) t pl M 0 1;lia);have i:=cC (wP w) t pl (by lia) (by lia) M (t.drop k) k [] (by lia) (by rw[b,iQ (by lia)]) (by simp;lia);rw[a,aV k,r0 (wP w) t pl M (by lia) (by lia)]at h;rw[b,show k+(t.length-k)=t.length by lia,iz]at i;obtain⟨l,p⟩:=bg (wP w) t pl M 0 (yb (wP w) t pl M 0 1);obtain⟨B,r⟩:=bg (wP w) t pl M k [];have u:yb (wP w) t pl M 0 (k+1)++yb (wP w) t pl M (k+1) (t.length+1)=(wE w t M 0 (t.length+1)).map zj:=(r0 (wP w) t pl M (by lia) (by lia)).trans (gl w t M)
 have C:=lf (wP w) t pl M 0 (k+1);have v:=lf (wP w) t pl M (k+1) (t.length+1);obtain⟨f,s⟩:=NZ w t hw ht a0 c0 M y2 (~~~(k:Int)) (aa (.obj (wn (wP w) t pl M t.length []))) x10 x11 x12 x13 n c e o;have al:=gx w t M ht;have E:t.length<=1000000:=by lia
 have x:=kM t k;have y:=Vn t k;refine⟨f,?_⟩;have j:vu "Finder" rq (zb (za 6) (zb (za 5) (zb (yQ (zb (eC (.int 1)) (zb (eC (.int 1)) (zb (eC (.int 1)) (zb (eC (.int 0)) zd))))) zd))) (xa a0 c0 y2 w t M ((wP w).map .str) (aa (.val (xk w t M))) (~~~(k:Int)) x9 x10 x11 x12 x13)=aa (.obj (wn (wP w) t pl M 0 (yb (wP w) t pl M 0 1))):=by
  show(rq (.ins "Finder" [] []) [.tup ((wP w).map .str),.int M,pl.d]).bind _=_;rw[g];rfl
 have m:l5 (xa a0 c0 y2 w t M ((wP w).map .str) (aa (.val (xk w t M))) (~~~(k:Int)) x9 x10 x11 x12 x13)=l6 (xa a0 c0 y2 w t M ((wP w).map .str) (aa (.val (xk w t M))) (~~~(k:Int)) (aa (.obj (wn (wP w) t pl M 0 (yb (wP w) t pl M 0 1)))) x10 x11 x12 x13):=yf (by unfold tq;rw[j];rfl);rw[m];clear m j g;generalize (wP w).map D.str=G at *;generalize yb (wP w) t pl M 0 (k+1)=H at *;generalize yb (wP w) t pl M (k+1) (t.length+1)=I at *;generalize wn (wP w) t pl M 0 (yb (wP w) t pl M 0 1)=J at *;generalize wn (wP w) t pl M k []=K at *;generalize wn (wP w) t pl M t.length []=L at *;refine(show l6 _=_ from yf ?_).trans s;simp (disch:=omega) only[kR,xN,xT,xC,lB,x2,xM,y3,zG,zF,zb,yo,za,wS,zQ,zk,zr,zl,yS,zP,yj,yI,wG,x,zT,zd,yn,zL,yK,yx,p,h,rl,yc,y,r,i,u,xP,gB,wY,wR,yq,yL,al,kz,vW,zn,eC,yd,zM,yZ,y0]
end
section
open CE
theorem nF{g:List D->Option Ent}(b:X δ=aa (.val a)):zi [.v] g (zb X zd) δ=g [a]:=by unfold zi zb zd;rw[b];rfl
theorem kF{i:Int}(h:δ[0]? =aa (aa (.bor nn)))(a:uT [.lst nn,.int i]=aa (.val c)):zi [.b,.v] uT (zb (za 0) (zb (eC (.int i)) zd)) δ=aa (.val c):=by simp only[zi,zb,za,h,eC,zd,zl,zk,yq,yL,zS,zL,a]
theorem Xa{c m:Int}(a:δ[2]? =aa (aa (.own W)))(h1:E1 δ= ~~~c)(d:E2 δ= ~~~m)(e:sj [.lst W,.int c,.int m]=aa (.val z)):zi [.b,.v,.v] sj (zb (za 2) (zb E1 (zb E2 zd))) δ=aa (.val z):=by simp only[zi,zb,za,a,h1,d,zd,zl,zk,yq,yL,zS,zL,e]
theorem main(ns:List Int)(hn:ns.length<=63):cY [.lst (ns.map .int)]=aa (.val (.bl true)):=by
 obtain⟨a,f⟩:=kG ns 0 (by decide) (by decide);obtain⟨g,h⟩:=kG ns 1 (by decide) (by decide);obtain⟨i,j⟩:=kG ns 2 (by decide) (by decide);obtain⟨b,e,L,d,l⟩:=PZ a;have N:=iZ (a / 104) (show(0:Int)<13 by decide);have O:=iZ (a / 1352) (show(0:Int)<41 by decide);have P:=iZ (a / 55432) (show(0:Int)<5 by decide);have Q:=iZ (a / 7) (show(0:Int)<6 by decide);have R:=i6 (a / 7) (show(6:Int)≠0 by decide);obtain⟨w,m,S,n⟩:=Xb b g (a / 104%13) (by lia) d (i6 _ (by decide)) (by lia);obtain⟨t,p,T,_⟩:=Xb b i (a / 1352%41) (by lia) d (i6 _ (by decide)) (by lia);obtain⟨M,r⟩:=eu (i6 (a / 55432) (show(5:Int)≠0 by decide));obtain⟨k,u⟩:=eu (i6 (a / 277160) (show((t.length:Int)+1)≠0 by lia));have U:=iZ (a / 277160) (show(0:Int)<(t.length:Int)+1 by lia);obtain⟨q,x⟩:=eu (show 0<=1+a / 7%6 by lia);obtain⟨z,y,A⟩:=QV w (by lia) λc B=>l c (n c B);have C:=ZR w (by lia);have E:=cf w t M (by lia) (by lia);obtain⟨G,s⟩:=N4 w t (by lia) (by lia) (ns.map .int) a M (aa (.own (b.map λw=>.str (mkS [w])))) ab ab ab ab ab (k:=k) (by lia) x (by lia) (by lia) (by lia);have H:zc yN (zc xX (za 1) (eC (.int 277160))) (zc zt (zm ya (zb (za 4) zd)) (eC (.int 1))) (xa (ns.map .int) a (aa (.own (b.map λw=>.str (mkS [w])))) w t M ((wP w).map .str) (aa (.val (xk w t M))) ab ab ab ab ab ab)= ~~~(k:Int):=by
  rw[show((k:Nat):Int)=a / 277160%((t.length:Int)+1)from u.symm];exact pA (t5 rfl rfl (by decide)) (wu (wJ rfl (yj t) (by lia)) rfl) (by lia)
 have I:zc yN (zc xX (za 1) (eC (.int 55432))) (eC (.int 5)) [aa (.bor (ns.map .int)),~~~a,aa (.own (b.map λw=>.str (mkS [w]))),~~~[w],~~~[t],ab,ab,ab,ab,ab,ab,ab,ab,ab]= ~~~(M:Int):=by
  rw[show((M:Nat):Int)=a / 55432%5 from r.symm];exact pA (t5 rfl rfl (by decide)) rfl (by decide)
 have J:zi [.v] pb (zb (zi [.v] pf (zb (zi [.v] uU (zb (za 3) zd)) zd)) zd) [aa (.bor (ns.map .int)),~~~a,aa (.own (b.map λw=>.str (mkS [w]))),~~~[w],~~~[t],~~~(M:Int),ab,ab,ab,ab,ab,ab,ab,ab]=aa (.val (.tup ((wP w).map .str))):=
  (nF ((nF ((nF (X:=za 3) rfl).trans C)).trans y)).trans A
 have K:p9 [aa (.bor (ns.map .int)),ab,ab,ab,ab,ab,ab,ab,ab,ab,ab,ab,ab,ab]=aa (.rt (.val (.bl true)) G):=
  (show p9 _=_ from y8 (kF rfl f)).trans ((show g9 _=_ from yf (tp ((nF (X:=za 1) rfl).trans e))).trans ((show fw _=_ from y8 (Xa rfl (kF rfl h) (pA (t5 rfl rfl (by decide)) rfl (by decide)) m)).trans ((show fy _=_ from y8 (Xa rfl (kF rfl j) (pA (t5 rfl rfl (by decide)) rfl (by decide)) p)).trans ((show fB _=_ from y8 I).trans ((show fC _=_ from y8 J).trans ((show fD (xa (ns.map .int) a (aa (.own (b.map λw=>.str (mkS [w])))) w t M ((wP w).map .str) ab ab ab ab ab ab ab)=_ from y8 (v:=xk w t M) E).trans ((show fF _=_ from y8 H).trans s)))))))
 exact(congrArg (λo=>ez o _) K).trans rfl
end
end N61
namespace N61
open PySem L2 L3 PyProof.Rows
set_option hygiene false
local macro_rules|`(tactic| and_intros)=>do let x:=(("vv Ul KJ K7 KT Mj Lg Le Jc RL Qf R8 R7 RU RM Qe RO RN RT RQ Mo Mt Mr KW JS JQ JR JO JP LI RW RZ R9 R6 R5 R4 Qd RY R1 Qc RX Qa Ml Lc Um Kx Jg K8 Mi Je Ja K4 K9 Ji Qb LV Xh LF Y9 LN KI R0 R3 Uq Uo Us Uk Uj Ko ClsD.toF Jf SI SJ SH KU Jh K2 UF UG Md N5 KR Kw Jd Jb UQ UR Mp UT UO US KP KQ KO sX Rf Rc Rb Rg XS UU Me K5 JW JX JY JZ Mu Km Mn Lf KS Mx N7 Mq Kn UL UM Mv KF UJ UP UK UN K6 KM Ku Kv Kt Ks Mc KZ Mb N6 Mw Ke Kf JU JV J0 J1 J2 Kq L9 Cz pC CompSc.mk CompSk.mk".splitOn " ").map λs=>Lean.mkIdent s.toName).toArray;`(tactic| repeat' first
        |((with_reducible show eval _ _=_);exact rfl)
        |((with_reducible show Cx.mg _ _=ab);exact M _ (by decide +kernel))
        |kernel_rfl
        |with_reducible (first|(apply KA;first|apply WD|apply WC|apply WH|apply WJ|apply WB|apply WL|apply WK)|(apply KL;first|apply WM|apply WN|apply WF)|(apply Kz;apply Re)|apply Ky|(apply Kc;first|apply Xh|apply Y9))
        |((with_reducible apply KC);assumption)
        |((with_reducible apply KH);assumption)
        |with_reducible first $[| apply $x]*
        |assumption
        |exact Vk X G (by assumption)
        |exact Vl X G (by assumption)
        |exact LX X G (by assumption)
        |exact TabG.tab X G (by assumption)
        |exact TabG.keys X G (by assumption) (by rfl) (by decide +kernel)
        |(apply of_decide_eq_true;kernel_rfl)
        |exact eS rfl
        |exact ef rfl
        |exact ef (eS rfl)
        |exact λa b=>⟨ZX a.h b.h MF⟩
        |exact λa b=>⟨ZX a.h b.h MH⟩
        |intro _)
noncomputable def top(i:Nat):Stmt:=PySem.Challenge.pw_nearfind_k61_whole_one_text.main.body.getD i (.Pass ⟨0,0,0,0⟩)
noncomputable def wF(st:Stmt)(j:Nat):Stmt:=match st with
 |.ClassDef _ _ _ b _ _ _ _ _ _ _=>b.getD j (.Pass ⟨0,0,0,0⟩)
 | _=>.Pass ⟨0,0,0,0⟩
def lj(K:ae):Sp:=λc H Q _=>∃(a:ah) (b:List Int),c=[.ref a]/\SqL K H a (b.map V.int)/\b.length<=63/\∀d,Q (.bl true) d
theorem M5{K:ae}{vs:List V}{H:Hp}{Q:VK}{E:XK}(h:lj K vs H Q E):u0 K [.b] cY vs H Q E:=by
 obtain⟨a,c,rfl,f,g,k⟩:=h;refine⟨λ_=>ab,_,_,λ_ _ e=>(nomatch e),.cons (k:=.b) (d:=.lst (c.map D.int)) ⟨a,_,rfl,f,Reps.ints c⟩ .nil,main c g,λv j i _ r=>?_⟩;cases tM r;exact k i
structure Tx(w:aR)(K:ae):Prop where
 c_Bits:∃C,ClG K "Bits" ["fitting","classes","rows","sight"] C/\MtG K C "__init__" "Bits.__init__" (wF (top 34) 0)/\MtG K C "feed" "Bits.feed" (wF (top 34) 1)/\MtG K C "read" "Bits.read" (wF (top 34) 2)
 c_Finder:∃C,ClG K "Finder" ["pattern","prices","columns","last_sign","sight"] C/\MtG K C "__init__" "Finder.__init__" (wF (top 41) 0)/\MtG K C "feed" "Finder.feed" (wF (top 41) 1)/\MtG K C "read" "Finder.read" (wF (top 41) 2)
 c_Sight:∃C,ClG K "Sight" ["most","end","pairs"] C/\MtG K C "__init__" "Sight.__init__" (wF (top 26) 0)/\MtG K C "come" "Sight.come" (wF (top 26) 1)/\MtG K C "tell" "Sight.tell" (wF (top 26) 2)
 l_18:FnGD K "cells_of" (top 5)
 l_49:FnG K "row_across" (top 6)
 l_24:FnG K "first_column" (top 7)
 l_28:FnG K "further_column" (top 8)
 l_17:FnG K "cell_ahead_of_turn" (top 9)
 l_56:FnG K "stepped" (top 10)
 l_40:FnG K "lowest" (top 11)
 l_50:FnG K "row_between" (top 16)
 l_39:FnG K "leads" (top 17)
 l_51:FnG K "row_price" (top 18)
 l_37:FnG K "last_step" (top 19)
 l_19:FnG K "comes_last" (top 20)
 l_16:FnG K "can_stand" (top 21)
 l_32:FnG K "is_step" (top 22)
 l_31:FnG K "is_done" (top 23)
 l_55:FnG K "step_price" (top 24)
 l_21:FnG K "ends_in" (top 27)
 l_41:FnG K "nearest_in" (top 28)
 l_57:FnG K "stretch_at" (top 29)
 l_45:FnG K "prices_at_ends" (top 30)
 l_46:FnG K "prices_by_length" (top 31)
 l_25:FnG K "first_lowest" (top 32)
 l_27:FnG K "fitting_bits" (top 35)
 l_26:FnG K "first_rows" (top 36)
 l_29:FnG K "further_rows" (top 37)
 l_54:FnG K "slips_of_whole" (top 38)
 l_15:FnG K "bits_up_to" (top 39)
 l_43:FnG K "pattern_of" (top 49)
 l_53:FnG K "show_pattern" (top 50)
 l_52:FnG K "show_class" (top 51)
 l_48:FnG K "read_pattern" (top 52)
 l_20:FnG K "end_of_class" (top 53)
 l_47:FnG K "read_class" (top 54)
 l_30:FnG K "is_class" (top 55)
 l_22:FnG K "ends_in_kept" (top 57)
 l_23:FnG K "ends_in_stretch" (top 58)
 l_35:FnG K "kept_by_parts" (top 60)
 l_34:FnG K "kept_by_counts" (top 61)
 l_36:FnG K "kept_by_pieces" (top 62)
 l_44:FnG K "places_of" (top 63)
 l_59:FnG K "windows" (top 64)
 l_58:FnG K "times_of_pieces" (top 65)
 l_42:FnG K "number_shared" (top 66)
 l_33:FnG K "joined" (top 67)
 l_10:FnG K "_law_cell" (top 69)
 l_11:FnG K "_law_digits" (top 70)
 l_13:FnG K "_law_pool" (top 71)
 l_14:FnG K "_law_text" (top 72)
 l_9:FnG K "_law_alike" (top 73)
 l_12:FnG K "_law_led" (top 74)
 l_38:FnG K "law" (top 75)
 z:Bls K ["all","bool","enumerate","int","isinstance","len","list","max","min","range","reversed","set","sorted","str","sum","tuple","zip"]
 q_PUT:∃t,ik K aY "PUT" =aa (aa (.int 0 t))
 q_LEFT:∃t,ik K aY "LEFT" =aa (aa (.int 1 t))
 q_EXCHANGED:∃t,ik K aY "EXCHANGED" =aa (aa (.int 2 t))
 q_TURNED:∃t,ik K aY "TURNED" =aa (aa (.int 3 t))
 q_LETTERS:∃t,ik K aY "LETTERS" =aa (aa (.str "abcdefghijklmnopqrstuvwxyz" t))
 q_MOST_CLASSES:∃t,ik K aY "MOST_CLASSES" =aa (aa (.int 40 t))
 q_CLASSES_USED:TabG w K "CLASSES_USED" [("same",1),("exchanged",1),("put",0),("left",1),("turned",2)]
 q_SIGNS_USED:TabG w K "SIGNS_USED" [("same",1),("exchanged",1),("put",1),("left",0),("turned",2)]
 q_PLACE_IN_PRICES:TabG w K "PLACE_IN_PRICES" [("put",0),("left",1),("exchanged",2),("turned",3)]
 q_PLAIN_PRICES:∃t0 t1 t2 t3 a n,ik K aY "PLAIN_PRICES" =aa (aa (.ref a))/\K.lookup a=aa ⟨.type "tuple",ab,.seq #[.int 1 t0,.int 1 t1,.int 1 t2,.int 0 t3] n,#[]⟩
section
variable (P:aN){w:aR}{K:ae}{mg:Str->Option af}(b:aX){h:aX}(X:K.In h)(G:h.Ns aY mg)(T:Tx w K)
include X G T
theorem mN:∃C,ClsD K mg "Bits" ["fitting","classes","rows","sight"] C:=let⟨_,q,_⟩:=T.c_Bits;⟨_,q.co X G⟩
theorem mO:∃C,ClsD K mg "Finder" ["pattern","prices","columns","last_sign","sight"] C:=let⟨_,q,_⟩:=T.c_Finder;⟨_,q.co X G⟩
theorem uD:∃C,ClsD K mg "Sight" ["most","end","pairs"] C:=let⟨_,q,_⟩:=T.c_Sight;⟨_,q.co X G⟩
theorem Sc:DOk P w K mg b 1 "row_across" [.b,.v] mz:=by
 exact zW X G T.l_49 ["columns","classes"] []
theorem TJ:DOk P w K mg b 1 "cell_ahead_of_turn" [.b,.v,.v,.v] mf:=by
 exact zW X G T.l_17 ["columns","pattern","text","classes"] []
theorem bU:DOk P w K mg b 1 "stepped" [.v,.v] ue:=by
 exact zW X G T.l_56 ["cell","price"] []
theorem bP:DOk P w K mg b 1 "lowest" [.v] so:=by
 exact zW X G T.l_40 ["cells"] []
theorem bH:DOk P w K mg b 1 "can_stand" [.v,.v,.v,.v,.v] rC:=by
 exact zW X G T.l_16 ["pattern","text","classes","signs","step"] []
theorem TZ:DOk P w K mg b 1 "is_step" [.v] mq:=by
 exact zW X G T.l_32 ["written"] []
theorem jv:DOk P w K mg b 1 "step_price" [.v,.v] rH:=by
 exact zW X G T.l_55 ["prices","step"] []
theorem TV:DOk P w K mg b 1 "fitting_bits" [.v] mm:=by
 exact zW X G T.l_27 ["pattern"] ["fitting","number","letters","letter"]
theorem bT:DOk P w K mg b 1 "slips_of_whole" [.b,.v] mC:=by
 exact zW X G T.l_54 ["rows","classes"] ["slips","row"]
theorem bG:DOk P w K mg b 1 "bits_up_to" [.v] uc:=by
 exact zW X G T.l_15 ["number"] []
theorem bQ:DOk P w K mg b 1 "pattern_of" [.v] uU:=by
 exact zW X G T.l_43 ["W"] []
theorem bS:DOk P w K mg b 1 "show_class" [.v] pe:=by
 exact zW X G T.l_52 ["letters"] []
theorem TM:DOk P w K mg b 1 "end_of_class" [.v,.v] mh:=by
 exact zW X G T.l_20 ["written","begin"] ["closing"]
theorem TY:DOk P w K mg b 1 "is_class" [.v] mo:=by
 exact zW X G T.l_30 ["letters"] []
theorem T7:DOk P w K mg b 1 "places_of" [.v,.v] pa:=by
 exact zW X G T.l_44 ["part","text"] []
theorem Sk:DOk P w K mg b 1 "windows" [.v,.v,.v] jj:=by
 exact zW X G T.l_59 ["word","most","text"] []
theorem Sj:DOk P w K mg b 1 "times_of_pieces" [.v,.v] rJ:=by
 exact zW X G T.l_58 ["text","long"] ["times","place","piece"]
theorem T6:DOk P w K mg b 1 "number_shared" [.v,.v] mw:=by
 exact zW X G T.l_42 ["times","other_times"] []
theorem bN:DOk P w K mg b 1 "joined" [.b] mr:=by
 exact zW X G T.l_33 ["stretches"] ["kept","begin","end"]
theorem TB:DOk P w K mg b 1 "_law_cell" [.b,.v] uT:=by
 exact zW X G T.l_10 ["_law_script","_law_at"] ["_law_number","_law_cell_here"]
theorem TC:DOk P w K mg b 1 "_law_digits" [.v,.v,.v] qT:=by
 exact zW X G T.l_11 ["_law_cell_here","_law_base","_law_many"] ["_law_found","_law_left","_law_k"]
theorem TF:DOk P w K mg b 1 "_law_pool" [.v] md:=by
 exact zW X G T.l_13 ["_law_cell_here"] ["_law_letters","_law_few"]
theorem jw:∃f a,MakeD K "Sight" (wF (top 26) 0) "Sight.__init__" ["self","most"] f a/\FnOk P w K mg b xJ 1 f a ["self","most"] (wj K rA):=by
 obtain⟨_,_⟩:=uD X G T;obtain⟨_,q,m,_,_⟩:=T.c_Sight;exact jM X G q m ["self","most"] []
theorem pj:∃f a,MethD K "Sight" "come" (wF (top 26) 1) "Sight.come" ["self","price"] f a/\FnOk P w K mg b xJ 1 f a ["self","price"] (wj K uz):=by
 obtain⟨_,_⟩:=uD X G T;obtain⟨_,q,_,m,_⟩:=T.c_Sight;exact rS X G (q.co X G) m ["self","price"] []
theorem jx:∃f a,MethD K "Sight" "tell" (wF (top 26) 2) "Sight.tell" ["self"] f a/\FnOk P w K mg b xJ 1 f a ["self"] (wj K rB):=by
 obtain⟨_,_⟩:=uD X G T;obtain⟨_,q,_,_,m⟩:=T.c_Sight;exact rS X G (q.co X G) m ["self"] ["told"]
theorem bJ:DOk P w K mg b 2 "first_column" [.v,.t] qW:=by
 have:=bU P b X G T;exact zW X G T.l_24 ["pattern","prices"] ["column","classes"]
theorem bL:DOk P w K mg b 2 "further_column" [.b,.v,.v,.t,.v] mn:=by
 have:=TJ P b X G T;have:=bP P b X G T;have:=bU P b X G T;exact zW X G T.l_28 ["columns","pattern","text","prices","free"] ["before","column","classes","fits"]
theorem Sf:DOk P w K mg b 2 "row_price" [.v,.v] pd:=by
 have:=jv P b X G T;exact zW X G T.l_51 ["prices","row"] []
theorem bM:DOk P w K mg b 2 "is_done" [.v,.v] rE:=by
 have:=jv P b X G T;exact zW X G T.l_31 ["prices","step"] []
theorem bK:DOk P w K mg b 2 "first_lowest" [.v] qX:=by
 have:=bP P b X G T;exact zW X G T.l_25 ["told"] ["price"]
theorem TU:DOk P w K mg b 2 "first_rows" [.v,.v] jh:=by
 have:=bG P b X G T;exact zW X G T.l_26 ["classes","most"] []
theorem TW:DOk P w K mg b 2 "further_rows" [.b,.v,.v] ji:=by
 have:=bG P b X G T;exact zW X G T.l_29 ["rows","fitting","classes"] ["further","slips","row","found","put","exchanged","left"]
theorem Sh:DOk P w K mg b 2 "show_pattern" [.v] pf:=by
 have:=bS P b X G T;exact zW X G T.l_53 ["P"] []
theorem T9:DOk P w K mg b 2 "read_class" [.v] my:=by
 have:=TY P b X G T;have:=bS P b X G T;exact zW X G T.l_47 ["written"] ["letters"]
theorem T1:DOk P w K mg b 2 "kept_by_parts" [.v,.v,.v] ms:=by
 have:=bN P b X G T;have:=T7 P b X G T;exact zW X G T.l_35 ["W","most","T"] ["found","number","begin","end","place"]
theorem bO:DOk P w K mg b 2 "kept_by_pieces" [.v,.v,.v,.v] sn:=by
 have:=bN P b X G T;have:=T6 P b X G T;have:=Sj P b X G T;have:=Sk P b X G T;exact zW X G T.l_36 ["W","most","T","long"] ["needed","pieces","found","begin","end"]
theorem TH:DOk P w K mg b 2 "_law_text" [.b,.v,.v] sj:=by
 have:=TC P b X G T;exact zW X G T.l_14 ["_law_pool_here","_law_cell_here","_law_many"] []
theorem ju:DOkD P w K mg b 3 "cells_of" [.v,.v,.t,.v] rD:=by
 have:=bJ P b X G T;have:=bL P b X G T;have:=Sc P b X G T;exact Qi X G T.l_18 ["P","T","prices","free"] ["columns","signs"] (hD:=by
   intro f kV j u x k ct T o n g i F a;refine⟨F,a,λs e d c=>?_,λs e d c=>?_,λs e y d c=>?_,λr l=>Ub r l⟩
   ·rw[ek]at c ⊢;obtain⟨_,_,_,_,rfl⟩:=SX c;exact CA d rfl g i rfl rfl
   ·obtain⟨_,_,_,rfl⟩:=jD (show e.length=3 from Dq ((aJ (as:=e) (bs:=[By false])).symm.trans c));exact CA d rfl g i rfl rfl
   ·obtain⟨m,p,q⟩:=Uc c;rw[q];obtain⟨_,_,_,rfl⟩:=jD m;obtain⟨_,rfl⟩:=Zf p;exact CA d rfl g i rfl rfl)
theorem T3:DOk P w K mg b 3 "leads" [.v,.v,.v,.v] mu:=by
 have:=bH P b X G T;have:=bM P b X G T;have:=TZ P b X G T;exact zW X G T.l_39 ["P","T","prices","row"] ["classes","signs","step"]
theorem TK:DOk P w K mg b 3 "comes_last" [.v,.v,.v,.v,.v,.v,.v] jg:=by
 have:=bH P b X G T;have:=bM P b X G T;have:=jv P b X G T;exact zW X G T.l_19 ["cells","pattern","text","prices","classes","signs","step"] ["classes_ahead","signs_ahead","ahead"]
theorem Sa:DOk P w K mg b 3 "read_pattern" [.v] pb:=by
 have:=TM P b X G T;have:=T9 P b X G T;exact zW X G T.l_48 ["thing"] ["pattern","begin","end"]
theorem T0:DOk P w K mg b 3 "kept_by_counts" [.v,.v,.v] qY:=by
 have:=bO P b X G T;exact zW X G T.l_34 ["W","most","T"] []
theorem Tw:∃f a,MakeD K "Bits" (wF (top 34) 0) "Bits.__init__" ["self","P","most"] f a/\FnOk P w K mg b xJ 3 f a ["self","P","most"] (wj K si):=by
 obtain⟨_,_⟩:=mN X G T;obtain⟨_,_⟩:=uD X G T;obtain⟨_,_,_,_⟩:=jw P b X G T;obtain⟨_,_,_,_⟩:=pj P b X G T;have:=TU P b X G T;have:=TV P b X G T;have:=bT P b X G T;obtain⟨_,q,m,_,_⟩:=T.c_Bits;exact jM X G q m ["self","P","most"] []
theorem TL:∃f a,MethD K "Bits" "read" (wF (top 34) 2) "Bits.read" ["self","sign"] f a/\FnOk P w K mg b xJ 3 f a ["self","sign"] (wj K nW):=by
 obtain⟨_,_⟩:=mN X G T;obtain⟨_,_⟩:=uD X G T;obtain⟨_,_,_,_⟩:=pj P b X G T;have:=TW P b X G T;have:=bT P b X G T;obtain⟨_,q,_,_,m⟩:=T.c_Bits;exact rS X G (q.co X G) m ["self","sign"] []
theorem TX:∃f a,MakeD K "Finder" (wF (top 41) 0) "Finder.__init__" ["self","P","most","prices"] f a/\FnOk P w K mg b xJ 3 f a ["self","P","most","prices"] (wj K rq):=by
 obtain⟨_,_⟩:=mO X G T;obtain⟨_,_⟩:=uD X G T;obtain⟨_,_,_,_⟩:=jw P b X G T;obtain⟨_,_,_,_⟩:=pj P b X G T;have:=bJ P b X G T;obtain⟨_,q,m,_,_⟩:=T.c_Finder;exact jM X G q m ["self","P","most","prices"] []
theorem Sd:∃f a,MethD K "Finder" "read" (wF (top 41) 2) "Finder.read" ["self","sign"] f a/\FnOk P w K mg b xJ 3 f a ["self","sign"] (wj K nX):=by
 obtain⟨_,_⟩:=mO X G T;obtain⟨_,_⟩:=uD X G T;obtain⟨_,_,_,_⟩:=pj P b X G T;have:=bL P b X G T;obtain⟨_,q,_,_,m⟩:=T.c_Finder;exact rS X G (q.co X G) m ["self","sign"] ["column"]
theorem T2:DOk P w K mg b 4 "last_step" [.v,.v,.v,.v,.v,.v] rF:=by
 have:=TK P b X G T;exact zW X G T.l_37 ["cells","pattern","text","prices","classes","signs"] ["found"]
theorem bR:DOk P w K mg b 4 "prices_at_ends" [.v,.v,.t] rG:=by
 have:=ju P b X G T;exact zW X G T.l_45 ["pattern","text","prices"] []
theorem T8:DOk P w K mg b 4 "prices_by_length" [.v,.v,.v] mx:=by
 have:=ju P b X G T;exact zW X G T.l_46 ["pattern","text","prices"] []
theorem Sl:DOk P w K mg b 1 "_law_alike" [.v,.v] cX:=by
 exact zW X G T.l_9 ["_law_found","_law_due"] ["_law_one","_law_other"]
theorem Sm:DOk P w K mg b 2 "_law_alike" [.v,.v] nZ:=by
 have:=Sl P b X G T;exact zW X G T.l_9 ["_law_found","_law_due"] ["_law_one","_law_other"]
theorem Sn:DOk P w K mg b 3 "_law_alike" [.v,.v] jf:=by
 have:=Sm P b X G T;exact zW X G T.l_9 ["_law_found","_law_due"] ["_law_one","_law_other"]
theorem So:DOk P w K mg b 4 "_law_alike" [.v,.v] ma:=by
 have:=Sn P b X G T;exact zW X G T.l_9 ["_law_found","_law_due"] ["_law_one","_law_other"]
theorem Tz:∃f a,MethD K "Bits" "feed" (wF (top 34) 1) "Bits.feed" ["self","T"] f a/\FnOk P w K mg b xJ 4 f a ["self","T"] (wj K rp):=by
 obtain⟨_,_⟩:=mN X G T;obtain⟨_,_⟩:=uD X G T;obtain⟨_,_,_,_⟩:=TL P b X G T;obtain⟨_,_,_,_⟩:=jx P b X G T;obtain⟨_,q,_,m,_⟩:=T.c_Bits;exact rS X G (q.co X G) m ["self","T"] ["sign"]
theorem T4:∃f a,MethD K "Finder" "feed" (wF (top 41) 1) "Finder.feed" ["self","T"] f a/\FnOk P w K mg b xJ 4 f a ["self","T"] (wj K qS):=by
 obtain⟨_,_⟩:=mO X G T;obtain⟨_,_⟩:=uD X G T;obtain⟨_,_,_,_⟩:=Sd P b X G T;obtain⟨_,_,_,_⟩:=jx P b X G T;obtain⟨_,q,_,m,_⟩:=T.c_Finder;exact rS X G (q.co X G) m ["self","T"] ["sign"]
theorem Se:DOk P w K mg b 5 "row_between" [.v,.v,.v] mB:=by
 have:=ju P b X G T;have:=T2 P b X G T;exact zW X G T.l_50 ["P","T","prices"] ["cells","backward","classes","signs","step"]
theorem bI:DOk P w K mg b 5 "ends_in" [.v,.v,.v,.t] sk:=by
 obtain⟨_,_⟩:=uD X G T;obtain⟨_,_,_,_⟩:=jw P b X G T;obtain⟨_,_,_,_⟩:=pj P b X G T;obtain⟨_,_,_,_⟩:=jx P b X G T;have:=bR P b X G T;exact zW X G T.l_21 ["P","T","most","prices"] ["sight","price"]
theorem T5:DOk P w K mg b 5 "nearest_in" [.v,.v,.v] qZ:=by
 have:=bK P b X G T;have:=bR P b X G T;exact zW X G T.l_41 ["P","T","prices"] []
theorem Si:DOk P w K mg b 6 "stretch_at" [.v,.v,.v,.v] mD:=by
 have:=bK P b X G T;have:=T8 P b X G T;have:=Se P b X G T;exact zW X G T.l_57 ["P","T","end","prices"] ["nearest","begin"]
theorem TQ:DOk P w K mg b 6 "ends_in_stretch" [.v,.v,.v,.v,.v] ml:=by
 have:=bI P b X G T;have:=bQ P b X G T;exact zW X G T.l_23 ["word","most","text","begin","end"] ["told"]
theorem TN:DOk P w K mg b 7 "ends_in_kept" [.v,.v,.v,.v] mj:=by
 have:=TQ P b X G T;exact zW X G T.l_22 ["W","most","T","kept"] ["found","begin","end"]
theorem TD:DOk P w K mg b 7 "_law_led" [.v,.v,.v,.v] qU:=by
 have:=T3 P b X G T;have:=Sf P b X G T;have:=Si P b X G T;exact zW X G T.l_12 ["_law_pattern","_law_text_here","_law_end","_law_price"] ["_law_found","_law_begin","_law_row"]
theorem all_mk(d:mg "law" =aa (.ref fa)):∃f:eR,(∀(s:ag) (v:af),BindsTo s f ⟨[v],[]⟩ [("_law_script",v)])/\∀b:aX,K.In b->b.Ns aY mg->FnOk P w K mg b xJ 8 fa f ["_law_script"] (lj K):=by
 obtain⟨_,_,_,kV,g,i,j,m,ct,_,a,l,c,k⟩:=T.l_38;cases d.symm.trans (oB X G a);have e:=nP l c k;refine⟨iH "law" "law" (vP (top 75)) (wU (top 75)) (xz (top 75)) .none kV g i j m ct,λs v=>.of_eq rfl,λb _ _=>?_⟩;obtain⟨_,_⟩:=mN X G T;obtain⟨_,_⟩:=mO X G T;obtain⟨_,_,_,_⟩:=Tw P b X G T;obtain⟨_,_,_,_⟩:=Tz P b X G T;obtain⟨_,_,_,_⟩:=TX P b X G T;obtain⟨_,_,_,_⟩:=T4 P b X G T;have:=So P b X G T;have:=TB P b X G T;have:=TD P b X G T;have:=TF P b X G T;have:=TH P b X G T;have:=bI P b X G T;have:=TN P b X G T;have:=T0 P b X G T;have:=T1 P b X G T;have:=bO P b X G T;have:=T5 P b X G T;have:=bQ P b X G T;have:=Sa P b X G T;have:=Sh P b X G T;exact(kT (.of e) (N:=["_law_script","_law_cell_here","_law_pool_here","_law_word","_law_text_here","_law_most","_law_pattern","_law_ends","_law_at","_law_finder","_law_long","_law_some","_law_kept","_law_nearest"]) (ps:=["_law_script"]) qM p9 rfl (λ_ _ h=>h) body).imp λ_ _ _ _ h=>M5 h
end
theorem walk{l:D4}{XP:(Str->Option af)->aX->Prop}{YP:aR->aX->Prop}{d:DefRec}{K:Params->ae}(hn:l.most=aa 63)(e:d.params.defaults=[])
 (j:∀(w:aR) (h:aX),YP w h->(K w.params).In h)
 (F:∀(w:aR) (c:Str->Option af) (g:ah) (h:aX),(K w.params).In h->h.Ns aY c->c d.name=aa (.ref g) ->
 ∃i:eR,(∀(s:ag) (u:af),BindsTo s i ⟨[u],[]⟩ [("_law_script",u)])/\∀b:aX,(K w.params).In b->b.Ns aY c->FnOk l.prog w (K w.params) c b xJ 8 g i ["_law_script"] (lj (K w.params))) :
 Eh q loose XP YP l.row.toRowW d [] (λf m=>C6 f m):=
  L2.walk_of (n:=63) (k:=8) (x:= "_law_script") (CX:=λ_=>xJ) (sp:=λw=>lj (K w.params)) hn (by decide) e ⟨rfl,by decide,by decide⟩ j F (λ_ _ a o p _ r=>⟨a,o,rfl,r,p,λ_=>rfl⟩) λ_ _ _ _ _ z=>z
end N61
open PySem PySem.W PyProof.Rows
set_option maxHeartbeats 0 in
theorem PySem.Challenge.cw_nearfind_k61_whole_one_text_holds : PySem.Challenge.rw_nearfind_k61_whole_one_text.Holds := by
 obtain⟨d,b,c,H⟩:=TopH.topOpen;refine H ?_;unfold TopH.topHook
 k_fill
 refine N61.walk (l:=PySem.Challenge.rw_nearfind_k61_whole_one_text) rfl b (λw h Y=>PySem.W.kIn_of Y) ?F
 case F=>
  intro w f g h e G a;rw[c]at a;refine N61.all_mk _ e G ?_ a;constructor <;> first|exact⟨_,_,_,_,_,_,_,_,_,_,by k_is,by k_is,by k_is,by k_is⟩|exact⟨_,by k_is⟩|exact⟨_,_,_,_,_,_,_,_,_,_,_,by k_is,by k_is,by k_is,by k_is,_,_,_,rfl,by k_is,rfl⟩|exact⟨_,_,_,_,_,_,by k_is,by k_is⟩|exact⟨_,_,_,by k_is,by k_is,by unfold L2.RowsK;kernel_rfl,by kernel_rfl,by kernel_rfl⟩|(refine⟨_,⟨by k_is,?_⟩,?_⟩;repeat' first|k_is|exact⟨_,_,_,_,_,_,_,_,_,_,by k_is,by k_is,by k_is,by k_is,by k_is⟩|constructor)|(refine⟨by k_is,?_⟩;repeat' first|k_is|constructor)
#print axioms PySem.Challenge.cw_nearfind_k61_whole_one_text_holds


